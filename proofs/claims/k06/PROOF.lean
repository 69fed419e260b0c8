import PyProof.Rows.All
import Wide.All
import OpenK.AllK
import Wide.FinOn
import HandS.ForMost
import HandS.More
import HandS.StrMore
import HandS.IsInst
import HandS.Exc
import HandS.ExcOwn
import HandS.ExcInit
import HandS.TryOnly
import HandS.Defaults
import HandS.LawCells
import HandS.TupAny
import HandS.WordsExc
import HandS.Head0
import HandS.Head1
import HandS.Head2
import HandS.HeadEnd
import HandS.HeadHook1
import HandS.HeadHook2
import KE.KExcSuper
import HandS.FStr
import HandS.HeadWalk
import HandS.ExcField
import HandS.ExcIs
import HandS.TryMany
import KE.KExcIs
import HandS.CallLocal
import PySem.Challenge.RW_reaimed_k06_rows_of_operators
set_option Elab.async false
set_option linter.all false
set_option maxRecDepth 100000
set_option maxHeartbeats 4000000
/-! B0: readings by short names; a def that keeps a promise; the law's draws. -/
namespace Rm
open PySem PySem.Spec PyProof.Rows L2
/-! ### readings of operations, by short names -/
abbrev rAddI : R2 := rI0 fun i j => .int (i + j)
abbrev rSubI : R2 := rI0 fun i j => .int (i - j)
abbrev rMulI : R2 := rI CMul fun i j => .int (i * j)
abbrev rFdivI : R2 := rI CDiv fun i j => .int (i / j)
abbrev rModI : R2 := rI (fun _ j => 0 < j) fun i j => .int (i % j)
abbrev rPowI : R2 := rI CPow fun i j => .int (i ^ j.toNat)
abbrev rLtI : R2 := rI0 fun i j => .bl (decide (i < j))
abbrev rLeI : R2 := rI0 fun i j => .bl (decide (i ≤ j))
abbrev rGtI : R2 := rI0 fun i j => .bl (decide (j < i))
abbrev rGeI : R2 := rI0 fun i j => .bl (decide (j ≤ i))
abbrev rNegI : V → Hp → VK → Prop := rU fun i => .int (-i)
def rInS : R2 := fun x y H Q => ∃ i j, x = .str i ∧ y = .str j ∧ Q (.bl (!(Builtin.Str.occurrences j i 0 j.length 1).isEmpty)) H
def rNotInS : R2 := fun x y H Q => ∃ i j, x = .str i ∧ y = .str j ∧ Q (.bl (!(!(Builtin.Str.occurrences j i 0 j.length 1).isEmpty))) H
def rInSign : R2 := fun x y H Q => ∃ (c : Nat) (z : Str), x = .str ⟨#[c]⟩ ∧ y = .str z ∧ Q (.bl (decide (c ∈ z.cps.toList))) H
def rNotInSign : R2 := fun x y H Q => ∃ (c : Nat) (z : Str), x = .str ⟨#[c]⟩ ∧ y = .str z ∧ Q (.bl (!decide (c ∈ z.cps.toList))) H
def rIsN : R2 := fun x y H Q => y = .non ∧ Q (.bl (decide (x = .non))) H
def rNotN : R2 := fun x y H Q => y = .non ∧ Q (.bl (!decide (x = .non))) H
abbrev RM := V → List V → Hp → VK → Prop
abbrev RC := List V → Hp → VK → Prop
def rIsascii : RM := fun x xs H Q => ∃ a, x = .str a ∧ xs = [] ∧ True ∧ Q (.bl (Txt.isascii a)) H
def rIsalpha : RM := fun x xs H Q => ∃ a, x = .str a ∧ xs = [] ∧ True ∧ Q (.bl (Txt.isalpha a)) H
def rIsdigit : RM := fun x xs H Q => ∃ a, x = .str a ∧ xs = [] ∧ True ∧ Q (.bl (Txt.isdigit a)) H
def rCount : RM := fun x xs H Q => ∃ a b, x = .str a ∧ xs = [.str b] ∧ Q (.int (Txt.count a b)) H
def rRfind : RM := fun x xs H Q => ∃ a b, x = .str a ∧ xs = [.str b] ∧ Q (.int (Txt.rfind a b)) H
def rFind : RM := fun x xs H Q => ∃ a b, x = .str a ∧ xs = [.str b] ∧ Q (.int (Txt.find a b)) H
def rFind3 : RM := fun x xs H Q => ∃ (a b : Str) (i : Int), x = .str a ∧ xs = [.str b, .int i] ∧ Q (.int (Txt.find3 a b i)) H
def rStartswith : RM := fun x xs H Q => ∃ a b, x = .str a ∧ xs = [.str b] ∧ Q (.bl (Txt.startswith a b)) H
def rEndswith : RM := fun x xs H Q => ∃ a b, x = .str a ∧ xs = [.str b] ∧ Q (.bl (Txt.endswith a b)) H
def rIntS : RC := fun xs H Q => ∃ a n, xs = [.str a] ∧ PySem.intText? a = some n ∧ a.length ≤ 640 ∧ Q (.int n) H
def rInt1 : RC := fun xs H Q => (∃ i, xs = [.int i] ∧ Q (.int i) H) ∨ ∃ k, xs = [.bl k] ∧ Q (.int (if k then 1 else 0)) H
def rMin2 : RC := fun xs H Q => ∃ i j, xs = [.int i, .int j] ∧ Q (.int (if j < i then j else i)) H
def rMax2 : RC := fun xs H Q => ∃ i j, xs = [.int i, .int j] ∧ Q (.int (if j > i then j else i)) H
def rTupleOf (K : PySem.W.Frag) : RC := fun xs H Q => ∃ p ys, xs = [.ref p] ∧ ((SqL K H p ys ∧ ∀ l, H l = none → Q (.ref l) (upd H l (.tup ys))) ∨ (SqT K H p ys ∧ Q (.ref p) H))
def rLenD : RC := fun xs H Q => ∃ a kvs, xs = [V.ref a] ∧ H a = some (.dK kvs) ∧ Q (.int kvs.length) H
abbrev oNone : TO := tNoPart
abbrev oSome (t : TE) : TO := tPart t
/-! ### a def that keeps its promise -/
structure Def (P : Program) (w : World) (K : PySem.W.Frag) (mg : Str → Option Value) (base : Heap) (k : Nat) (f : Addr) (fd : FuncData) (ps : List Str) (sp : Sp) : Prop where
  fn : FnOk P w K mg base (L2.CX P w) k f fd ps sp
  bd : Binds K fd ps []
  kp : PySem.W.keepIn K (.ref f) = true
/-- what a callee may let out, at a caller that wishes the same -/
theorem passE {X : Cx} {E : XK} (tk : Takes X (fun cls d _ H => E cls d H)) : Passes (L2.CX X.prog X.w) X E := passes_call tk fun _ _ _ _ h => h
/-! ### the law's draws: {"row": a list of ints, "at": i, "seed": s} -/
abbrev kRow : Key := Sum.inr ("row" : Str)
abbrev kAt : Key := Sum.inr ("at" : Str)
abbrev kSeed : Key := Sum.inr ("seed" : Str)
def drK (r : Addr) (i s : Int) : List (Key × V) := [(kRow, .ref r), (kAt, .int i), (kSeed, .int s)]
theorem kRA : ¬ kRow = kAt := by decide +kernel
theorem kRS : ¬ kRow = kSeed := by decide +kernel
theorem kAS : ¬ kAt = kSeed := by decide +kernel
theorem kSA : ¬ kSeed = kAt := by decide +kernel
theorem drK_at (r : Addr) (i s : Int) : valV (drK r i s) kAt = some (.int i) := by
  unfold drK
  rw [valV_neg (p := (kRow, V.ref r)) kRA, valV_pos (p := (kAt, V.int i)) rfl]
theorem drK_row (r : Addr) (i s : Int) : valV (drK r i s) kRow = some (.ref r) := by
  unfold drK
  rw [valV_pos (p := (kRow, V.ref r)) rfl]
theorem drK_seed (r : Addr) (i s : Int) : valV (drK r i s) kSeed = some (.int s) := by
  unfold drK
  rw [valV_neg (p := (kRow, V.ref r)) kRS, valV_neg (p := (kAt, V.int i)) kAS, valV_pos (p := (kSeed, V.int s)) rfl]
theorem drK_put (r : Addr) (i j s : Int) : putK (drK r i s) kAt (.int j) = drK r j s := by
  unfold putK
  rw [valV_any, drK_at, if_pos (show (some (V.int i)).isSome = true from rfl)]
  unfold drK
  rw [List.map_cons, List.map_cons, List.map_cons, List.map_nil, if_neg kRA, if_pos rfl, if_neg kSA]
theorem drK_len (r : Addr) (i s : Int) : (drK r i s).length < sizeLine := by
  show 3 < sizeLine
  decide
theorem drK_merge (p : Addr) (i s : Int) : mergeK [] (drK p i s) = drK p i s := by
  have e1 : putK [] kRow (V.ref p) = [(kRow, V.ref p)] := putK_new _ rfl
  have e2 : putK [(kRow, V.ref p)] kAt (V.int i) = [(kRow, V.ref p), (kAt, V.int i)] := putK_new _ (by rw [valV_neg kRA] <;> rfl)
  have e3 : putK [(kRow, V.ref p), (kAt, V.int i)] kSeed (V.int s) = drK p i s := putK_new _ (by rw [valV_neg kRS, valV_neg kAS] <;> rfl)
  show putK (putK (putK [] kRow (V.ref p)) kAt (V.int i)) kSeed (V.int s) = _
  rw [e1, e2, e3]
section
variable {H : Hp} {d r : Addr} {i s : Int}
theorem dget_at (h : H d = some (.dK (drK r i s))) : DGet H d (.str ("at" : Str)) (some (.int i)) := .inl ⟨_, kAt, .inl h, rfl, (drK_at r i s).symm⟩
theorem dget_row (h : H d = some (.dK (drK r i s))) : DGet H d (.str ("row" : Str)) (some (.ref r)) := .inl ⟨_, kRow, .inl h, rfl, (drK_row r i s).symm⟩
theorem dget_seed (h : H d = some (.dK (drK r i s))) : DGet H d (.str ("seed" : Str)) (some (.int s)) := .inl ⟨_, kSeed, .inl h, rfl, (drK_seed r i s).symm⟩
theorem dput_at (h : H d = some (.dK (drK r i s))) (j : Int) : DPut H d (.str ("at" : Str)) (.int j) (upd H d (.dK (drK r j s))) := .inl ⟨_, kAt, h, rfl, drK_len r i s, by rw [drK_put]⟩
end
/-- at d: draws, their row at r -/
def Draws (H : Hp) (d r : Addr) : Prop := ∃ (i s : Int) (ns : List Int), H d = some (.dK (drK r i s)) ∧ H r = some (.lst (ns.map V.int)) ∧ 0 ≤ i
theorem Draws.atD {H : Hp} {d r : Addr} (h : Draws H d r) : ∃ o, H d = some o := let ⟨_, _, _, h, _⟩ := h; ⟨_, h⟩
theorem Draws.atR {H : Hp} {d r : Addr} (h : Draws H d r) : ∃ o, H r = some o := let ⟨_, _, _, _, h, _⟩ := h; ⟨_, h⟩
theorem Draws.ne {H : Hp} {d r : Addr} (h : Draws H d r) : r ≠ d := by
  obtain ⟨i, s, ns, h1, h2, _⟩ := h
  exact ne_of h2 h1 (by intro z; cases z)
theorem Draws.neD {H : Hp} {d r a : Addr} (h : Draws H d r) (n : H a = none) : d ≠ a := let ⟨_, e⟩ := h.atD; ne_of_none e n
theorem Draws.neR {H : Hp} {d r a : Addr} (h : Draws H d r) (n : H a = none) : r ≠ a := let ⟨_, e⟩ := h.atR; ne_of_none e n
theorem same_upd {H : Hp} {a : Addr} {o : HO} (n : H a = none) : Same H (upd H a o) := fun b u e => by
  rw [upd_ne (ne_of_none e n)]
  exact e
theorem Draws.same {H H' : Hp} {d r : Addr} (h : Draws H d r) (s : Same H H') : Draws H' d r := by
  obtain ⟨i, z, ns, h1, h2, h3⟩ := h
  exact ⟨i, z, ns, s _ _ h1, s _ _ h2, h3⟩
theorem Draws.keep {H H' : Hp} {d r : Addr} (h : Draws H d r) (s : ∀ b, (b = d ∨ b = r) → H' b = H b) : Draws H' d r := by
  obtain ⟨i, z, ns, h1, h2, h3⟩ := h
  exact ⟨i, z, ns, (s _ (.inl rfl)).trans h1, (s _ (.inr rfl)).trans h2, h3⟩
theorem Draws.fresh {H : Hp} {d r a : Addr} {o : HO} (h : Draws H d r) (n : H a = none) : Draws (upd H a o) d r := h.same (same_upd n)
theorem Draws.other {H : Hp} {d r a : Addr} {o : HO} (h : Draws H d r) (hd : a ≠ d) (hr : a ≠ r) : Draws (upd H a o) d r := h.keep fun b e => by
  rcases e with rfl | rfl
  · exact upd_ne (Ne.symm hd)
  · exact upd_ne (Ne.symm hr)
/-- the draws may have moved, nothing else has changed -/
def Moved (d : Addr) (H H' : Hp) : Prop := ∀ b, b ≠ d → H' b = H b
theorem Moved.refl (d : Addr) (H : Hp) : Moved d H H := fun _ _ => rfl
theorem Moved.trans {d : Addr} {H H1 H2 : Hp} (a : Moved d H H1) (b : Moved d H1 H2) : Moved d H H2 := fun c n => (b c n).trans (a c n)
/-! ### promises -/
def sp_l_mix (K : PySem.W.Frag) : Sp := fun vs H Q _ => ∃ (c k : Int), vs = [.int c, .int k] ∧ ∀ z : Int, Q (.int z) H
def sp_l_pick (K : PySem.W.Frag) : Sp := fun vs H Q _ => ∃ (d : Addr) (m : Int), vs = [.ref d, .int m] ∧ 0 < m ∧ ∃ r, Draws H d r ∧ ∀ (j : Int) (H' : Hp), 0 ≤ j → j < m → Draws H' d r → Moved d H H' → Q (.int j) H'
def sp_l_stream (K : PySem.W.Frag) : Sp := fun vs H Q _ => ∃ (a : Addr) (ns : List Int) (m : Int), vs = [.ref a, .int m] ∧ SqL K H a (ns.map V.int) ∧ ns.length ≤ 63 ∧ 0 ≤ m ∧ m ≤ 10000 ∧
  ∀ (d : Addr) (H' : Hp) (r : Addr) (s : Int) (rs : List Int), Same H H' → H d = none → H' d = some (.dK (drK r 0 s)) → H' r = some (.lst (rs.map V.int)) → r ≠ d → rs.length ≤ 3780 → (rs.length : Int) ≤ m → Q (.ref d) H'
abbrev DQ (Q : VK) : Ends := { nx := fun _ H' => Q .non H', rt := Q }
theorem lk_ne {a b : Str} {v : V} {r : List (Str × V)} (h : ¬ a = b) : List.lookup a ((b, v) :: r) = List.lookup a r := by
  have e : (a == b) = false := by simpa using h
  simp only [List.lookup, e]
theorem lk_eq {a : Str} {v : V} {r : List (Str × V)} : List.lookup a ((a, v) :: r) = some v := by simp [List.lookup]
theorem pf_ne {a b : Str} {v w : V} {r : List (Str × V)} (h : ¬ b = a) : putF a v ((b, w) :: r) = (b, w) :: putF a v r := by
  show (if b = a then (b, v) :: r else (b, w) :: putF a v r) = _
  rw [if_neg h]
theorem pf_eq {a : Str} {v w : V} {r : List (Str × V)} : putF a v ((a, w) :: r) = (a, v) :: r := by
  show (if a = a then (a, v) :: r else (a, w) :: putF a v r) = _
  rw [if_pos rfl]
theorem pf_nil {a : Str} {v : V} : putF a v [] = [(a, v)] := rfl
end Rm

/-! B1: the law's draws: readings (by gen.py) and that they keep their promises. -/
namespace Rm
open PySem PySem.Spec PyProof.Rows L2

def t_l_mix (K : PySem.W.Frag) (E : XK) : TS :=
  (tSeq (tAsg (tOp rModI (tCB rInt1 (tCons (tOp rAddI (tOp rAddI (tOp rMulI (tVar 0) (tC (.int 48271))) (tOp rMulI (tVar 1) (tC (.int 69621)))) (tC (.int 11))) tNil)) (tC (.int 2147483647))) (gName 2))
    (tRet (tOp rModI (tOp rModI (tCB rInt1 (tCons (tOp rAddI (tOp rAddI (tOp rAddI (tOp rMulI (tVar 2) (tVar 2)) (tOp rMulI (tVar 0) (tC (.int 40692)))) (tOp rMulI (tVar 1) (tC (.int 7)))) (tC (.int 3))) tNil)) (tC (.int 1000003))) (tC (.int 1000)))))
def ns_l_mix : List Str := ["cell", "k", "low"]

def t_l_pick (K : PySem.W.Frag) (E : XK) : TS :=
  (tSeq (tAsg (tDGet (tVar 0) (tC (.str ("at" : Str)))) (gName 2))
    (tSeq (sDPut (tVar 0) (tC (.str ("at" : Str))) (tOp rAddI (tVar 2) (tC (.int 1))))
    (tSeq (tAsg (tCall (sp_l_mix K) [] E (tCons (tDGet (tVar 0) (tC (.str ("seed" : Str)))) (tCons (tVar 2) tNil))) (gName 3))
    (tSeq (tIfS (tTest (tOp rLtI (tVar 2) (tCB (rLen K) (tCons (tDGet (tVar 0) (tC (.str ("row" : Str)))) tNil))))
      (tAsg (tOp (rIxL K) (tDGet (tVar 0) (tC (.str ("row" : Str)))) (tVar 2)) (gName 3))
      tNext)
    (tRet (tOp rModI (tCB rInt1 (tCons (tVar 3) tNil)) (tVar 1)))))))
def ns_l_pick : List Str := ["draws", "many", "at", "number"]

def t_l_stream (K : PySem.W.Frag) (E : XK) : TS :=
  (tSeq (tAsg (tLst tNil) (gName 2))
    (tSeq (tFor (iRng1 (tCons (tCB rMin2 (tCons (tCB (rLen K) (tCons (tVar 0) tNil)) (tCons (tC (.int 63)) tNil))) tNil)) (gName 3)
      (tSeq (tAsg (tOp (rIxL K) (tVar 0) (tVar 3)) (gName 4))
    (tIfS (tTest (tOp rGeI (tVar 4) (tOp rPowI (tC (.int 10)) (tC (.int 18)))))
      (tFor (iRng1 (tCons (tC (.int 60)) tNil)) (gName 5)
      (tIfS (tAnd (tTest (tOp rGtI (tVar 4) (tC (.int 0)))) (tTest (tOp rLtI (tCB (rLen K) (tCons (tVar 2) tNil)) (tVar 1))))
      (tSeq (tDrop (tBM K "list" rAppend (tVar 2) (tCons (tOp rModI (tCB rInt1 (tCons (tVar 4) tNil)) (tC (.int 1000))) tNil)))
    (tAsg (tOp rFdivI (tVar 4) (tC (.int 1000))) (gName 4)))
      tNext))
      (tFor (iRng1 (tCons (tC (.int 3)) tNil)) (gName 5)
      (tIfS (tTest (tOp rLtI (tCB (rLen K) (tCons (tVar 2) tNil)) (tVar 1)))
      (tDrop (tBM K "list" rAppend (tVar 2) (tCons (tCall (sp_l_mix K) [] E (tCons (tVar 4) (tCons (tOp rAddI (tOp rMulI (tC (.int 64)) (tVar 5)) (tVar 3)) tNil))) tNil)))
      tNext)))))
    (tRet (tDisp [((tC (.str ("row" : Str))), (tVar 2)), ((tC (.str ("at" : Str))), (tC (.int 0))), ((tC (.str ("seed" : Str))), (tCB (rLen K) (tCons (tVar 2) tNil)))]))))
def ns_l_stream : List Str := ["script", "most", "row", "k", "rest", "j"]


theorem run_l_mix {K : PySem.W.Frag} {vs : List V} {H : Hp} {Q : VK} {E : XK} (h : sp_l_mix K vs H Q E) : t_l_mix K E { nx := fun _ H' => Q .non H', rt := Q } (start ns_l_mix vs) H := by
  obtain ⟨c, k, rfl, q⟩ := h
  refine ⟨_, rfl, _, _, rfl, rfl, .inr (by decide), _, rfl, _, _, rfl, rfl, .inr (by decide), _, _, rfl, rfl, _, _, rfl, rfl, .inl ⟨_, rfl, ?_⟩⟩
  refine ⟨_, _, rfl, rfl, (by show (0 : Int) < 2147483647; decide), ?_⟩
  have b1 : 0 ≤ (c * 48271 + k * 69621 + 11) % 2147483647 := Int.emod_nonneg _ (by decide)
  have b2 : (c * 48271 + k * 69621 + 11) % 2147483647 < 2147483647 := Int.emod_lt_of_pos _ (by decide)
  refine ⟨_, rfl, _, rfl, _, _, rfl, rfl, .inl ⟨by omega, by omega⟩, _, rfl, _, _, rfl, rfl, .inr (by decide), _, _, rfl, rfl, _, rfl, _, _, rfl, rfl, .inr (by decide), _, _, rfl, rfl, _, _, rfl, rfl, .inl ⟨_, rfl, ?_⟩⟩
  exact ⟨_, _, rfl, rfl, (by show (0 : Int) < 1000003; decide), _, _, rfl, rfl, (by show (0 : Int) < 1000; decide), q _⟩
theorem run_l_pick {K : PySem.W.Frag} {vs : List V} {H : Hp} {Q : VK} {E : XK} (h : sp_l_pick K vs H Q E) : t_l_pick K E { nx := fun _ H' => Q .non H', rt := Q } (start ns_l_pick vs) H := by
  obtain ⟨d, m, rfl, hm, r, hD, q⟩ := h
  obtain ⟨i, s, ns, h1, h2, h3⟩ := id hD
  have nrd : r ≠ d := hD.ne
  -- at = draws["at"]
  refine ⟨_, rfl, d, _, rfl, dget_at h1, ?_⟩
  -- draws["at"] = at + 1
  refine ⟨_, rfl, _, _, rfl, rfl, _, rfl, d, _, rfl, dput_at h1 _, ?_⟩
  have h1' : (upd H d (.dK (drK r (i + 1) s))) d = some (.dK (drK r (i + 1) s)) := upd_same
  have h2' : (upd H d (.dK (drK r (i + 1) s))) r = some (.lst (ns.map V.int)) := by rw [upd_ne nrd]; exact h2
  have D' : Draws (upd H d (.dK (drK r (i + 1) s))) d r := ⟨i + 1, s, ns, h1', h2', by omega⟩
  have M' : Moved d H (upd H d (.dK (drK r (i + 1) s))) := fun b n => upd_ne n
  have fin : ∀ z : Int, Q (.int (z % m)) (upd H d (.dK (drK r (i + 1) s))) := fun z => q _ _ (Int.emod_nonneg _ (by omega)) (Int.emod_lt_of_pos _ hm) D' M'
  -- number = mix(draws["seed"], at)
  refine ⟨_, rfl, d, _, rfl, dget_seed h1', _, rfl, _, _, rfl, fun z => ?_⟩
  -- if at < len(draws["row"])
  refine ⟨_, rfl, _, rfl, d, _, rfl, dget_row h1', _, _, rfl, .inl ⟨_, SqL.of h2', rfl⟩, _, _, rfl, rfl, _, rfl, ?_⟩
  by_cases c : i < ((ns.map V.int).length : Int)
  · rw [decide_eq_true c]
    refine iteT ?_
    rw [List.length_map] at c
    obtain ⟨n, rfl⟩ : ∃ n : Nat, i = (n : Int) := ⟨i.toNat, by omega⟩
    have hn : n < ns.length := by omega
    refine ⟨_, rfl, d, _, rfl, dget_row h1', _, rfl, r, ns.map V.int, (n : Int), .int ns[n], rfl, rfl, SqL.of h2', atI_nat (by rw [List.getElem?_map, List.getElem?_eq_getElem hn]; rfl), ?_⟩
    exact ⟨_, rfl, .inl ⟨_, rfl, _, rfl, _, _, rfl, rfl, hm, fin _⟩⟩
  · rw [decide_eq_false c]
    refine iteF ?_
    exact ⟨_, rfl, .inl ⟨_, rfl, _, rfl, _, _, rfl, rfl, hm, fin _⟩⟩
theorem map_snoc (rs : List Int) (z : Int) : rs.map V.int ++ [V.int z] = (rs ++ [z]).map V.int := by
  rw [List.map_append]
  rfl
theorem run_l_stream {K : PySem.W.Frag} {vs : List V} {H : Hp} {Q : VK} {E : XK} (h : sp_l_stream K vs H Q E) : t_l_stream K E { nx := fun _ H' => Q .non H', rt := Q } (start ns_l_stream vs) H := by
  obtain ⟨a, ns, m, rfl, hS, hl, hm0, hm, q⟩ := h
  refine ⟨(by show 0 ≤ sizeLine; decide), fun p np => ?_⟩
  refine ⟨_, rfl, _, _, rfl, .inl ⟨_, (same_upd np).seq hS, rfl⟩, _, _, rfl, ?_⟩
  have e0 : (if (63 : Int) < ((ns.map V.int).length : Int) then (63 : Int) else ((ns.map V.int).length : Int)) = (ns.length : Int) := by
    rw [List.length_map, if_neg (by omega)]
  rw [e0]
  refine ⟨(ns.length : Int), rfl, by omega, by omega, ?_⟩
  rw [Int.toNat_natCast]
  refine for_range (lo := 0) (n := ns.length) (fun i σ H2 => ∃ (rs : List Int) (kv rv jv : Option V), σ = [some (.ref a), some (.int m), some (.ref p), kv, rv, jv] ∧ Same H H2 ∧ H2 p = some (.lst (rs.map V.int)) ∧ rs.length ≤ 60 * i ∧ (rs.length : Int) ≤ m)
    ⟨[], none, none, none, rfl, same_upd np, upd_same, Nat.zero_le _, hm0⟩ ?_ ?_
  · rintro i σ H2 hi ⟨rs, kv, rv, jv, rfl, s2, hp, h60, hm2⟩
    -- rest = script[k]
    have hz : (ns.map V.int)[i]? = some (.int ns[i]) := by rw [List.getElem?_map, List.getElem?_eq_getElem hi]; rfl
    refine ⟨_, rfl, _, rfl, a, ns.map V.int, _, .int ns[i], rfl, rfl, s2.seq hS, at_of (j := i) (by simp) hz, ?_⟩
    -- if rest >= 10 ** 18
    refine ⟨_, rfl, _, _, rfl, rfl, ⟨by decide, by decide, by decide⟩, _, _, rfl, rfl, _, rfl, ?_⟩
    refine ite2 (fun _ => ?_) (fun _ => ?_)
    · -- for j in range(60)
      refine ⟨60, rfl, by decide, by decide, ?_⟩
      refine for_range (lo := 0) (n := 60) (fun j σ H3 => ∃ (rs : List Int) (kv jv : Option V) (z : Int), σ = [some (.ref a), some (.int m), some (.ref p), kv, some (.int z), jv] ∧ Same H H3 ∧ H3 p = some (.lst (rs.map V.int)) ∧ rs.length ≤ 60 * i + j ∧ (rs.length : Int) ≤ m)
        ⟨rs, _, _, _, rfl, s2, hp, by omega, hm2⟩ ?_ ?_
      · rintro j σ H3 hj ⟨rs, kv, jv, z, rfl, s3, hp, h60, hm2⟩
        refine ⟨_, rfl, _, _, rfl, rfl, _, rfl, ?_⟩
        refine ite2 (fun _ => ?_) (fun _ => ?_)
        · refine ⟨_, rfl, _, _, rfl, .inl ⟨_, SqL.of hp, rfl⟩, _, rfl, _, _, rfl, rfl, _, rfl, ?_⟩
          rw [List.length_map]
          refine ite2 (fun c => ?_) (fun _ => ?_)
          · have c := of_decide_eq_true c
            refine ⟨_, rfl, Or.inl ⟨rfl, _, SqL.of hp⟩, _, rfl, .inl ⟨_, rfl, _, _, rfl, rfl, (by show (0 : Int) < 1000; decide), p, _, _, rfl, rfl, hp, (by rw [List.length_map]; exact Nat.lt_of_lt_of_le (show rs.length < 20000 by omega) (by decide)), ?_⟩⟩
            refine ⟨_, rfl, _, _, rfl, rfl, ⟨by decide, by decide⟩, ?_⟩
            refine ⟨rs ++ [z % 1000], _, _, _, rfl, fun b o e => ?_, ?_, by rw [List.length_append, List.length_singleton]; omega, by rw [List.length_append, List.length_singleton]; omega⟩
            · rw [upd_ne (ne_of_none e np)]
              exact s3 b o e
            · rw [upd_same, map_snoc]
          · exact ⟨rs, _, _, z, rfl, s3, hp, by omega, hm2⟩
        · exact ⟨rs, _, _, z, rfl, s3, hp, by omega, hm2⟩
      · rintro σ H3 ⟨rs, kv, jv, z, rfl, s3, hp, h60, hm2⟩
        exact ⟨rs, _, _, _, rfl, s3, hp, by omega, hm2⟩
    · refine ⟨3, rfl, by decide, by decide, ?_⟩
      refine for_range (lo := 0) (n := 3) (fun j σ H3 => ∃ (rs : List Int) (jv : Option V), σ = [some (.ref a), some (.int m), some (.ref p), some (.int (0 + i)), some (.int ns[i]), jv] ∧ Same H H3 ∧ H3 p = some (.lst (rs.map V.int)) ∧ rs.length ≤ 60 * i + j ∧ (rs.length : Int) ≤ m)
        ⟨rs, _, rfl, s2, hp, by omega, hm2⟩ ?_ ?_
      · rintro j σ H3 hj ⟨rs, jv, rfl, s3, hp, h60, hm2⟩
        refine ⟨_, rfl, _, _, rfl, .inl ⟨_, SqL.of hp, rfl⟩, _, rfl, _, _, rfl, rfl, _, rfl, ?_⟩
        rw [List.length_map]
        refine ite2 (fun c => ?_) (fun _ => ?_)
        · have c := of_decide_eq_true c
          refine ⟨_, rfl, Or.inl ⟨rfl, _, SqL.of hp⟩, _, rfl, _, rfl, _, _, rfl, rfl, .inl ⟨by decide, by decide⟩, _, rfl, _, _, rfl, rfl, _, _, rfl, fun z => ?_⟩
          refine ⟨p, _, _, rfl, rfl, hp, (by rw [List.length_map]; exact Nat.lt_of_lt_of_le (show rs.length < 20000 by omega) (by decide)), ?_⟩
          refine ⟨rs ++ [z], _, rfl, fun b o e => ?_, ?_, by rw [List.length_append, List.length_singleton]; omega, by rw [List.length_append, List.length_singleton]; omega⟩
          · rw [upd_ne (ne_of_none e np)]
            exact s3 b o e
          · rw [upd_same, map_snoc]
        · exact ⟨rs, _, rfl, s3, hp, by omega, hm2⟩
      · rintro σ H3 ⟨rs, jv, rfl, s3, hp, h60, hm2⟩
        exact ⟨rs, _, _, _, rfl, s3, hp, by omega, hm2⟩
  · rintro σ H2 ⟨rs, kv, rv, jv, rfl, s2, hp, h60, hm2⟩
    -- return {..}
    intro d nd
    have npd : p ≠ d := ne_of_none hp nd
    have hp' : (upd H2 d (.dK [])) p = some (.lst (rs.map V.int)) := by rw [upd_ne npd]; exact hp
    refine ⟨_, rfl, _, rfl, _, _, rfl, .inl ⟨_, SqL.of hp', rfl⟩, ?_⟩
    refine ⟨upd_same, drK p 0 (rs.length : Int), ?_, (by show 3 ≤ 15; decide), ?_⟩
    · rw [List.length_map]
      rfl
    · rw [drK_merge, upd_upd]
      refine q d _ p (rs.length : Int) rs (fun b o e => ?_) (s2.free nd) upd_same ?_ npd (by omega) hm2
      · rw [upd_ne (ne_of_none (s2 b o e) nd)]
        exact s2 b o e
      · rw [upd_ne npd]
        exact hp
end Rm

/-! Lx: the tokens of a text as plain functions over codes; no Python here. -/
namespace Lx
def isLet (c : Nat) : Bool := (decide (65 ≤ c) && decide (c ≤ 90)) || (decide (97 ≤ c) && decide (c ≤ 122))
def isDig (c : Nat) : Bool := decide (48 ≤ c) && decide (c ≤ 57)
def isWP (c : Nat) : Bool := isLet c || (isDig c || c == 95)
/-- behind spaces, newlines and comments (true: within a comment) -/
def skip : Bool → List Nat → Int → Int → List Nat × Int × Int
  | _, [], r, c => ([], r, c)
  | true, x :: xs, r, c => if x = 10 then skip false xs (r + 1) 1 else skip true xs r (c + 1)
  | false, x :: xs, r, c => if x = 10 then skip false xs (r + 1) 1 else if x = 32 then skip false xs r (c + 1) else if x = 35 then skip true xs r (c + 1) else (x :: xs, r, c)
inductive Kd where
  | name | number | keyword | sign | fin
  deriving DecidableEq
structure Tk where
  kind : Kd
  text : List Nat
  row : Int
  col : Int
  deriving DecidableEq
inductive Er where
  | char | num
  deriving DecidableEq
abbrev codes (s : String) : List Nat := s.toList.map Char.toNat
def kwL : List (List Nat) := ["method", "main", "object", "const", "var", "parent", "let", "print", "return", "if", "else", "while", "put", "drop", "resend", "fn", "call", "self", "true", "false", "nothing", "div", "mod"].map codes
def longL : List (List Nat) := [":=", "==", "<="].map codes
def shortL : List (List Nat) := ["{", "}", "(", ")", ",", ";", ".", "=", "+", "-", "*", "<"].map codes
def val (l : List Nat) : Nat := l.foldl (fun a c => a * 10 + (c - 48)) 0
def isNum (w : List Nat) : Bool := w.all isDig && (!(decide (1 < w.length) && (w.head? == some 48)) && (decide (w.length ≤ 13) && decide (val w ≤ 1000000000000)))
def word (l : List Nat) : List Nat := l.takeWhile isWP
def kindOf (w : List Nat) : Kd := if w ∈ kwL then .keyword else .name
/-- the token at the beginning of x :: xs, what is behind it, and its place -/
def step (x : Nat) (xs : List Nat) (r c : Int) : Except (Er × Int × Int) (Tk × List Nat × Int × Int) :=
  if isLet x then .ok (⟨kindOf (word (x :: xs)), word (x :: xs), r, c⟩, (x :: xs).drop (word (x :: xs)).length, r, c + (word (x :: xs)).length)
  else if isDig x then
    if isNum (word (x :: xs)) then .ok (⟨.number, word (x :: xs), r, c⟩, (x :: xs).drop (word (x :: xs)).length, r, c + (word (x :: xs)).length) else .error (.num, r, c)
  else if (x :: xs).take 2 ∈ longL then .ok (⟨.sign, (x :: xs).take 2, r, c⟩, (x :: xs).drop 2, r, c + 2)
  else if [x] ∈ shortL then .ok (⟨.sign, [x], r, c⟩, xs, r, c + 1)
  else .error (.char, r, c)
abbrev Out := List Tk × Option (Er × Int × Int)
def lexF : Nat → List Nat → Int → Int → Out
  | 0, _, _, _ => ([], none)
  | n + 1, l, r, c => match skip false l r c with
    | ([], r', c') => ([⟨.fin, [], r', c'⟩], none)
    | (x :: xs, r', c') => match step x xs r' c' with
      | .error e => ([], some e)
      | .ok (t, l', r2, c2) => (t :: (lexF n l' r2 c2).1, (lexF n l' r2 c2).2)
def lex (l : List Nat) (r c : Int) : Out := lexF (l.length + 1) l r c

theorem skip_len : ∀ (b : Bool) (l : List Nat) (r c : Int), (skip b l r c).1.length ≤ l.length
  | _, [], r, c => by simp [skip]
  | true, x :: xs, r, c => by
    unfold skip
    split
    · exact Nat.le_succ_of_le (skip_len false xs _ _)
    · exact Nat.le_succ_of_le (skip_len true xs _ _)
  | false, x :: xs, r, c => by
    unfold skip
    split
    · exact Nat.le_succ_of_le (skip_len false xs _ _)
    · split
      · exact Nat.le_succ_of_le (skip_len false xs _ _)
      · split
        · exact Nat.le_succ_of_le (skip_len true xs _ _)
        · exact Nat.le_refl _
theorem skip_idem : ∀ (b : Bool) (l : List Nat) (r c : Int), skip false (skip b l r c).1 (skip b l r c).2.1 (skip b l r c).2.2 = skip b l r c
  | true, [], r, c => rfl
  | false, [], r, c => rfl
  | true, x :: xs, r, c => by
    by_cases h : x = 10
    · have e : skip true (x :: xs) r c = skip false xs (r + 1) 1 := by rw [skip, if_pos h]
      rw [e]; exact skip_idem false xs _ _
    · have e : skip true (x :: xs) r c = skip true xs r (c + 1) := by rw [skip, if_neg h]
      rw [e]; exact skip_idem true xs _ _
  | false, x :: xs, r, c => by
    by_cases h : x = 10
    · have e : skip false (x :: xs) r c = skip false xs (r + 1) 1 := by rw [skip, if_pos h]
      rw [e]; exact skip_idem false xs _ _
    · by_cases h2 : x = 32
      · have e : skip false (x :: xs) r c = skip false xs r (c + 1) := by rw [skip, if_neg h, if_pos h2]
        rw [e]; exact skip_idem false xs _ _
      · by_cases h3 : x = 35
        · have e : skip false (x :: xs) r c = skip true xs r (c + 1) := by rw [skip, if_neg h, if_neg h2, if_pos h3]
          rw [e]; exact skip_idem true xs _ _
        · have e : skip false (x :: xs) r c = (x :: xs, r, c) := by rw [skip, if_neg h, if_neg h2, if_neg h3]
          rw [e]; exact e
theorem takeWhile_len (p : Nat → Bool) : ∀ l : List Nat, (l.takeWhile p).length ≤ l.length
  | [] => Nat.le_refl _
  | x :: xs => by
    rw [List.takeWhile_cons]
    split
    · exact Nat.succ_le_succ (takeWhile_len p xs)
    · exact Nat.zero_le _
theorem word_pos {x : Nat} {xs : List Nat} (h : isWP x = true) : 0 < (word (x :: xs)).length := by
  unfold word
  rw [List.takeWhile_cons, if_pos h]
  exact Nat.succ_pos _
theorem word_len (l : List Nat) : (word l).length ≤ l.length := takeWhile_len _ l
theorem step_len {x : Nat} {xs : List Nat} {r c : Int} {t : Tk} {l' : List Nat} {r2 c2 : Int} (h : step x xs r c = .ok (t, l', r2, c2)) : l'.length < (x :: xs).length := by
  unfold step at h
  have wl := word_len (x :: xs)
  have drop_lt : ∀ n, 0 < n → n ≤ (x :: xs).length → ((x :: xs).drop n).length < (x :: xs).length := fun n h1 h2 => by rw [List.length_drop]; omega
  split at h
  · rename_i h1
    cases h
    exact drop_lt _ (word_pos (by unfold isWP; rw [h1]; rfl)) wl
  · split at h
    · rename_i h1 h2
      split at h
      · cases h
        exact drop_lt _ (word_pos (by unfold isWP; rw [h2]; simp)) wl
      · cases h
    · split at h
      · rename_i h3
        cases h
        have : 2 ≤ (x :: xs).length := by
          have e : ∀ w ∈ longL, w.length = 2 := by decide +kernel
          have q := e _ h3
          rw [List.length_take] at q
          omega
        exact drop_lt 2 (by decide) this
      · split at h
        · cases h
          exact Nat.lt_succ_self _
        · cases h
theorem lexF_fuel : ∀ (n m : Nat) (l : List Nat) (r c : Int), l.length < n → l.length < m → lexF n l r c = lexF m l r c
  | 0, _, l, _, _, h, _ => absurd h (Nat.not_lt_zero _)
  | _, 0, l, _, _, _, h => absurd h (Nat.not_lt_zero _)
  | n + 1, m + 1, l, r, c, h1, h2 => by
    unfold lexF
    have sl := skip_len false l r c
    rcases e : skip false l r c with ⟨_ | ⟨x, xs⟩, r', c'⟩
    · rfl
    · rw [e] at sl
      simp only
      cases es : step x xs r' c' with
      | error e => rfl
      | ok q =>
        obtain ⟨t, l', r2, c2⟩ := q
        have := step_len es
        have sl' : (x :: xs).length ≤ l.length := sl
        simp only
        rw [lexF_fuel n m l' r2 c2 (by omega) (by omega)]
theorem lex_eq (l : List Nat) (r c : Int) : lex l r c = match skip false l r c with
    | ([], r', c') => ([⟨.fin, [], r', c'⟩], none)
    | (x :: xs, r', c') => match step x xs r' c' with
      | .error e => ([], some e)
      | .ok (t, l', r2, c2) => (t :: (lex l' r2 c2).1, (lex l' r2 c2).2) := by
  unfold lex
  rw [lexF]
  have sl := skip_len false l r c
  rcases e : skip false l r c with ⟨_ | ⟨x, xs⟩, r', c'⟩
  · rfl
  · rw [e] at sl
    simp only
    cases es : step x xs r' c' with
    | error e => rfl
    | ok q =>
      obtain ⟨t, l', r2, c2⟩ := q
      have := step_len es
      have sl' : (x :: xs).length ≤ l.length := sl
      simp only
      rw [lexF_fuel l.length (l'.length + 1) l' r2 c2 (by omega) (by omega)]
/-- what is skipped changes nothing -/
theorem lex_skip {l l2 : List Nat} {r c r2 c2 : Int} (h : skip false l r c = skip false l2 r2 c2) : lex l r c = lex l2 r2 c2 := by
  rw [lex_eq, lex_eq, h]
theorem lex_end {l : List Nat} {r c r' c' : Int} (h : skip false l r c = ([], r', c')) : lex l r c = ([⟨.fin, [], r', c'⟩], none) := by
  rw [lex_eq, h]
theorem lex_tok {l : List Nat} {x : Nat} {xs : List Nat} {r c r' c' : Int} {t : Tk} {l' : List Nat} {r2 c2 : Int} (h : skip false l r c = (x :: xs, r', c')) (hs : step x xs r' c' = .ok (t, l', r2, c2)) :
    lex l r c = (t :: (lex l' r2 c2).1, (lex l' r2 c2).2) := by
  rw [lex_eq, h]
  simp only [hs]
theorem lex_err {l : List Nat} {x : Nat} {xs : List Nat} {r c r' c' : Int} {e : Er × Int × Int} (h : skip false l r c = (x :: xs, r', c')) (hs : step x xs r' c' = .error e) : lex l r c = ([], some e) := by
  rw [lex_eq, h]
  simp only [hs]
theorem skip_here {x : Nat} {xs : List Nat} {r c : Int} (h : x ≠ 10 ∧ x ≠ 32 ∧ x ≠ 35) : skip false (x :: xs) r c = (x :: xs, r, c) := by
  rw [skip, if_neg h.1, if_neg h.2.1, if_neg h.2.2]
/-! ### places -/
def adv : List Nat → Int → Int → Int × Int
  | [], r, c => (r, c)
  | x :: xs, r, c => if x = 10 then adv xs (r + 1) 1 else adv xs r (c + 1)
theorem adv_append : ∀ (a b : List Nat) (r c : Int), adv (a ++ b) r c = adv b (adv a r c).1 (adv a r c).2
  | [], b, r, c => rfl
  | x :: xs, b, r, c => by
    show (if x = 10 then adv (xs ++ b) (r + 1) 1 else adv (xs ++ b) r (c + 1)) = _
    by_cases h : x = 10
    · rw [if_pos h, adv, if_pos h]; exact adv_append xs b _ _
    · rw [if_neg h, adv, if_neg h]; exact adv_append xs b _ _
theorem adv_flat : ∀ (a : List Nat) (r c : Int), 10 ∉ a → adv a r c = (r, c + a.length)
  | [], r, c, _ => by simp [adv]
  | x :: xs, r, c, h => by
    have h1 : x ≠ 10 := fun e => h (by simp [e])
    rw [adv, if_neg h1, adv_flat xs r (c + 1) fun m => h (List.mem_cons_of_mem _ m), List.length_cons]
    congr 1
    omega
/-- gaps: whatever follows, they are skipped whole -/
def Gap (g : List Nat) : Prop := ∀ (rest : List Nat) (r c : Int), skip false (g ++ rest) r c = skip false rest (adv g r c).1 (adv g r c).2
theorem Gap.nil : Gap [] := fun _ _ _ => rfl
theorem Gap.append {a b : List Nat} (h1 : Gap a) (h2 : Gap b) : Gap (a ++ b) := fun rest r c => by
  rw [List.append_assoc, h1, h2, adv_append]
/-- a run of the scanner's skipping over a gap, by computation: the end is not within a comment -/
def gapB : Bool → List Nat → Bool
  | b, [] => !b
  | true, x :: xs => if x = 10 then gapB false xs else gapB true xs
  | false, x :: xs => if x = 10 then gapB false xs else if x = 32 then gapB false xs else if x = 35 then gapB true xs else false
theorem gapB_ok : ∀ (b : Bool) (g : List Nat), gapB b g = true → ∀ (rest : List Nat) (r c : Int), skip b (g ++ rest) r c = skip false rest (adv g r c).1 (adv g r c).2
  | true, [], h, rest, r, c => by cases h
  | false, [], h, rest, r, c => rfl
  | true, x :: xs, h, rest, r, c => by
    show skip true (x :: (xs ++ rest)) r c = _
    rw [skip, adv]
    rw [gapB] at h
    by_cases e : x = 10
    · rw [if_pos e] at h ⊢; rw [if_pos e]; exact gapB_ok false xs h rest _ _
    · rw [if_neg e] at h ⊢; rw [if_neg e]; exact gapB_ok true xs h rest _ _
  | false, x :: xs, h, rest, r, c => by
    show skip false (x :: (xs ++ rest)) r c = _
    rw [skip, adv]
    rw [gapB] at h
    by_cases e : x = 10
    · rw [if_pos e] at h ⊢; rw [if_pos e]; exact gapB_ok false xs h rest _ _
    · rw [if_neg e] at h ⊢; rw [if_neg e]
      by_cases e2 : x = 32
      · rw [if_pos e2] at h ⊢; exact gapB_ok false xs h rest _ _
      · rw [if_neg e2] at h ⊢
        by_cases e3 : x = 35
        · rw [if_pos e3] at h ⊢; exact gapB_ok true xs h rest _ _
        · rw [if_neg e3] at h; cases h
theorem Gap.of {g : List Nat} (h : gapB false g = true) : Gap g := gapB_ok false g h
/-- a comment at the end of the text -/
theorem skip_comment : ∀ (l : List Nat) (r c : Int), 10 ∉ l → skip true l r c = ([], r, c + l.length)
  | [], r, c, _ => by simp [skip]
  | x :: xs, r, c, h => by
    have h1 : x ≠ 10 := fun e => h (by simp [e])
    rw [skip, if_neg h1, skip_comment xs r (c + 1) fun m => h (List.mem_cons_of_mem _ m), List.length_cons]
    congr 2
    omega
end Lx

/-! S0: texts of one newline; the scanner's fields; what the defs of the tokens promise. -/
namespace Rm
open PySem PySem.Spec PyProof.Rows L2 Lx
/-- the text of these codes -/
abbrev Tx (l : List Nat) : Str := ⟨l.toArray⟩
theorem Tx_len (l : List Nat) : (Tx l).length = l.length := rfl
theorem Tx_inj {a b : List Nat} (h : Tx a = Tx b) : a = b := by
  have := congrArg (fun s : Str => s.cps.toList) h
  exact this
theorem Tx_of (s : String) : Str.ofString s = Tx (codes s) := by
  have h := TL.tl_ofString s
  exact TL.ext_tl h
theorem Tx_app (a b : List Nat) : Tx a ++ Tx b = Tx (a ++ b) := TL.ext_tl (by rw [TL.tl_append])
theorem nl1 : ("\n" : Str) = ⟨#[10]⟩ := by decide +kernel
theorem small_len {n : Nat} (h : n ≤ 10000000) : n ≤ sizeLine := Nat.le_trans h (by decide)
/-! ### one letter -/
theorem let_ok : ∀ c < 128, Txt.isalpha ⟨#[c]⟩ = isLet c := by decide +kernel
theorem dig_ok : ∀ c < 128, PySem.Unicode.isDigit c = isDig c := by decide +kernel
theorem ascii1 (c : Nat) : Txt.isascii ⟨#[c]⟩ = decide (c < 128) := by
  show (#[c] : Array Nat).all (fun x => decide (x < 128)) = _
  simp
theorem isLet_lt {c : Nat} (h : isLet c = true) : c < 128 := by
  unfold isLet at h
  simp at h
  omega
theorem isDig_lt {c : Nat} (h : isDig c = true) : c < 128 := by
  unfold isDig at h
  simp at h
  omega
theorem isWP_lt {c : Nat} (h : isWP c = true) : c < 128 := by
  unfold isWP at h
  simp only [Bool.or_eq_true] at h
  rcases h with h | h | h
  · exact isLet_lt h
  · exact isDig_lt h
  · have := beq_iff_eq.mp h
    omega
theorem digits_mem (c : Nat) : decide (c ∈ ("0123456789" : Str).cps.toList) = isDig c := by
  rw [show ("0123456789" : Str).cps.toList = [48, 49, 50, 51, 52, 53, 54, 55, 56, 57] by decide +kernel]
  unfold isDig
  rw [Bool.eq_iff_iff]
  simp
  omega
theorem under1 : ("_" : Str) = ⟨#[95]⟩ := by decide +kernel
theorem dec_one (a b : Nat) : decide (V.str ⟨#[a]⟩ = V.str ⟨#[b]⟩) = decide (a = b) := by
  rw [Bool.eq_iff_iff]
  simp
/-! ### finding newlines -/
theorem find_nl (l : List Nat) (i : Nat) (h : i ≤ l.length) : Txt.find3 (Tx l) ("\n" : Str) (i : Int) = (if i + ((l.drop i).takeWhile (fun c => c != 10)).length = l.length then -1 else ((i + ((l.drop i).takeWhile (fun c => c != 10)).length : Nat) : Int)) := by
  rw [nl1]
  have hf : PySem.fromIndex (Tx l).length (i : Int) = i := by
    unfold PySem.fromIndex
    rw [if_neg (by omega)]
    omega
  have hget : ∀ v, v < l.length → (Tx l).cps.getD v 0 = l.getD v 0 := fun v hv => by simp [Array.getD, hv]
  -- the takeWhile
  have key : ∀ (m : List Nat) (k : Nat), (∀ v, v < k → v < m.length → m.getD v 0 ≠ 10) → k ≤ m.length → (k = m.length ∨ m.getD k 0 = 10) → (m.takeWhile (fun c => c != 10)).length = k := by
    intro m
    induction m with
    | nil =>
      intro k _ hk _
      simp at hk
      simp [hk]
    | cons x xs ih =>
      intro k hv hk he
      cases k with
      | zero =>
        rcases he with he | he
        · simp at he
        · have e : x = 10 := by simpa using he
          simp [e]
      | succ k =>
        have e : x ≠ 10 := by simpa using hv 0 (by omega) (by simp)
        rw [List.takeWhile_cons, if_pos (by simpa using e), List.length_cons]
        refine congrArg Nat.succ (ih k (fun v h1 h2 => ?_) (by simpa using hk) ?_)
        · have q := hv (v + 1) (by omega) (by simpa using h2)
          simpa using q
        · rcases he with he | he
          · exact .inl (by simpa using he)
          · exact .inr (by simpa using he)
  have dropget : ∀ v, (l.drop i).getD v 0 = l.getD (i + v) 0 := fun v => by simp [List.getD_eq_getElem?_getD, List.getElem?_drop]
  rcases StrLaws.find3_spec (Tx l) 10 (i : Int) with ⟨h0, hn⟩ | ⟨k, h0, h1, h2, h3, h4⟩
  · rw [hf] at hn
    have e := key (l.drop i) (l.drop i).length (fun v _ hv => by
      rw [dropget]
      rw [List.length_drop] at hv
      have q := hn (i + v) (by omega) (by show i + v < l.length; omega)
      rw [hget _ (by omega)] at q
      exact q) (Nat.le_refl _) (.inl rfl)
    rw [h0, e, List.length_drop, if_pos (by omega)]
  · rw [hf] at h1 h4
    have h2' : k < l.length := h2
    have e := key (l.drop i) (k - i) (fun v hk hv => by
      rw [dropget]
      have q := h4 (i + v) (by omega) (by omega)
      rw [hget _ (by omega)] at q
      exact q) (by rw [List.length_drop]; omega) (.inr (by rw [dropget, show i + (k - i) = k by omega, ← hget k h2']; exact h3))
    rw [h0, e, show i + (k - i) = k by omega, if_neg (by omega)]
/-! ### the place of a text's end: rows by count, columns by rfind -/
theorem cnt_adv : ∀ (l : List Nat) (r c : Int), (adv l r c).1 = r + PyProof.Rows.cnt 10 l
  | [], r, c => by simp [adv, PyProof.Rows.cnt_nil]
  | x :: xs, r, c => by
    rw [PyProof.Rows.cnt_cons, adv]
    by_cases h : x = 10
    · rw [if_pos h, if_pos h, cnt_adv xs]
      omega
    · rw [if_neg h, if_neg h, cnt_adv xs]
      omega
/-- the column behind a text: counted from its last newline -/
theorem adv_col : ∀ (a b : List Nat) (r c : Int), 10 ∉ b → (adv (a ++ 10 :: b) r c).2 = b.length + 1
  | [], b, r, c, h => by
    show (if (10 : Nat) = 10 then adv b (r + 1) 1 else adv b r (c + 1)).2 = _
    rw [if_pos rfl, adv_flat b _ _ h]
    show (1 : Int) + b.length = _
    omega
  | x :: xs, b, r, c, h => by
    show (if x = 10 then adv (xs ++ 10 :: b) (r + 1) 1 else adv (xs ++ 10 :: b) r (c + 1)).2 = _
    split
    · exact adv_col xs b _ _ h
    · exact adv_col xs b _ _ h
theorem place_ok (l : List Nat) : Txt.count (Tx l) ("\n" : Str) + 1 = (adv l 1 1).1 ∧ ((l.length : Int) - Txt.rfind (Tx l) ("\n" : Str)) = (adv l 1 1).2 := by
  refine ⟨?_, ?_⟩
  · rw [nl1, PyProof.Rows.count_cnt, cnt_adv]
    show cnt 10 l + 1 = 1 + cnt 10 l
    omega
  · rw [nl1]
    unfold Txt.rfind
    rcases StrLaws.last_spec (Tx l) ⟨#[10]⟩ with ⟨h0, hn⟩ | ⟨i, h0, hi, hn⟩
    · rw [h0]
      have hno : 10 ∉ l := fun hm => by
        obtain ⟨v, hv, e⟩ := List.mem_iff_getElem.mp hm
        exact hn v ((StrLaws.subAt_one (Tx l) 10 v).mpr (by show l[v]? = some 10; rw [List.getElem?_eq_getElem hv, e]))
      rw [adv_flat l 1 1 hno]
      show (l.length : Int) - (-1) = 1 + (l.length : Int)
      omega
    · rw [h0]
      have e1 : l[i]? = some 10 := (StrLaws.subAt_one (Tx l) 10 i).mp hi
      obtain ⟨hlt, e2⟩ := List.getElem?_eq_some_iff.mp e1
      have hno : 10 ∉ l.drop (i + 1) := fun hm => by
        obtain ⟨v, hv, e⟩ := List.mem_iff_getElem.mp hm
        rw [List.length_drop] at hv
        refine hn (i + 1 + v) (by omega) ((StrLaws.subAt_one (Tx l) 10 (i + 1 + v)).mpr ?_)
        show l[i + 1 + v]? = some 10
        rw [List.getElem_drop] at e
        rw [List.getElem?_eq_getElem (by omega), e]
      have el : l = l.take i ++ 10 :: l.drop (i + 1) := by
        rw [← e2, ← List.drop_eq_getElem_cons hlt, List.take_append_drop]
      have q := adv_col (l.take i) (l.drop (i + 1)) 1 1 hno
      rw [← el] at q
      rw [q, List.length_drop]
      show (l.length : Int) - (i : Int) = ((l.length - (i + 1) : Nat) : Int) + 1
      omega
end Rm

/-! S1: the tokens' defs: promises, readings (by gen.py), and that the readings keep the promises. -/
namespace Rm
open PySem PySem.Spec PyProof.Rows L2 Lx
/-- what is wanted where an error of the class of this name is raised with a row and a column -/
abbrev EWT := Str → Int → Int → XK → Hp → Prop
def kdS : Kd → Str
  | .name => "name"
  | .number => "number"
  | .keyword => "keyword"
  | .sign => "sign"
  | .fin => "end"
def erS : Er → Str
  | .char => "BadCharacter"
  | .num => "BadNumber"
def tkV (t : Tk) : List V := [.str (kdS t.kind), .str (Tx t.text), .int t.row, .int t.col]
abbrev CS (K : PySem.W.Frag) : Addr := He.ga K ("Scanner" : Str)
def scF (l : List Nat) (i r c : Int) : List (Str × V) := [("text", .str (Tx l)), ("at", .int i), ("row", .int r), ("column", .int c)]
theorem neTA : ¬ (("text" : Str) = "at") := by decide +kernel
theorem neTR : ¬ (("text" : Str) = "row") := by decide +kernel
theorem neTC : ¬ (("text" : Str) = "column") := by decide +kernel
theorem neAR : ¬ (("at" : Str) = "row") := by decide +kernel
theorem neAC : ¬ (("at" : Str) = "column") := by decide +kernel
theorem neRC : ¬ (("row" : Str) = "column") := by decide +kernel
section
variable {l : List Nat} {i r c j : Int}
theorem scF_text : (scF l i r c).lookup ("text" : Str) = some (.str (Tx l)) := lk_eq
theorem scF_at : (scF l i r c).lookup ("at" : Str) = some (.int i) := by
  unfold scF
  rw [lk_ne (Ne.symm neTA), lk_eq]
theorem scF_row : (scF l i r c).lookup ("row" : Str) = some (.int r) := by
  unfold scF
  rw [lk_ne (Ne.symm neTR), lk_ne (Ne.symm neAR), lk_eq]
theorem scF_col : (scF l i r c).lookup ("column" : Str) = some (.int c) := by
  unfold scF
  rw [lk_ne (Ne.symm neTC), lk_ne (Ne.symm neAC), lk_ne (Ne.symm neRC), lk_eq]
theorem scF_no {m : Str} (h1 : ¬ m = "text") (h2 : ¬ m = "at") (h3 : ¬ m = "row") (h4 : ¬ m = "column") : (scF l i r c).lookup m = none := by
  unfold scF
  rw [lk_ne h1, lk_ne h2, lk_ne h3, lk_ne h4]
  rfl
theorem scF_pat : putF ("at" : Str) (.int j) (scF l i r c) = scF l j r c := by
  unfold scF
  rw [pf_ne neTA, pf_eq]
theorem scF_prow : putF ("row" : Str) (.int j) (scF l i r c) = scF l i j c := by
  unfold scF
  rw [pf_ne neTR, pf_ne neAR, pf_eq]
theorem scF_pcol : putF ("column" : Str) (.int j) (scF l i r c) = scF l i r j := by
  unfold scF
  rw [pf_ne neTC, pf_ne neAC, pf_ne neRC, pf_eq]
theorem scF_len : (scF l i r c).length < 1000 := by
  show 4 < 1000
  decide
theorem scF_init : putF ("column" : Str) (.int c) (putF ("row" : Str) (.int r) (putF ("at" : Str) (.int i) (putF ("text" : Str) (.str (Tx l)) []))) = scF l i r c := by
  rw [pf_nil, pf_ne neTA, pf_nil, pf_ne neTR, pf_ne neAR, pf_nil, pf_ne neTC, pf_ne neAC, pf_ne neRC, pf_nil]
  rfl
end
structure ScC (K : PySem.W.Frag) : Prop where
  cl : Cls K (CS K)
  nt : NoAttr K (CS K) "text"
  na : NoAttr K (CS K) "at"
  nr : NoAttr K (CS K) "row"
  nc : NoAttr K (CS K) "column"
theorem upd_self {H : Hp} {a : Addr} {o : HO} (h : H a = some o) : upd H a o = H := by
  funext b
  by_cases e : b = a
  · rw [e, upd_same, h]
  · rw [upd_ne e]
/-! ### promises -/
def sp_is_letter (K : PySem.W.Frag) : Sp := fun vs H Q _ => ∃ c : Nat, vs = [.str ⟨#[c]⟩] ∧ Q (.bl (isLet c)) H
def sp_is_word_part (K : PySem.W.Frag) : Sp := fun vs H Q _ => ∃ c : Nat, vs = [.str ⟨#[c]⟩] ∧ Q (.bl (isWP c)) H
def sp_is_number (K : PySem.W.Frag) : Sp := fun vs H Q _ => ∃ w : List Nat, vs = [.str (Tx w)] ∧ w ≠ [] ∧ w.length ≤ 10000000 ∧ (∀ x ∈ w, isWP x = true) ∧ Q (.bl (isNum w)) H
def sp_word_kind (K : PySem.W.Frag) : Sp := fun vs H Q _ => ∃ w : List Nat, vs = [.str (Tx w)] ∧ Q (.str (kdS (kindOf w))) H
/-- a scanner at p: its text, how far it has read, row and column -/
def Sc (K : PySem.W.Frag) (H : Hp) (p dx : Addr) (l : List Nat) (i : Nat) (r c : Int) : Prop := H p = some (.ins (CS K) dx (scF l (i : Int) r c)) ∧ l.length ≤ 10000000 ∧ i ≤ l.length
abbrev scO (K : PySem.W.Frag) (dx : Addr) (l : List Nat) (i : Nat) (r c : Int) : HO := .ins (CS K) dx (scF l (i : Int) r c)
def sp_Scanner_init (K : PySem.W.Frag) : Sp := fun vs H Q _ => ∃ (p dx : Addr) (l : List Nat), vs = [.ref p, .str (Tx l)] ∧ H p = some (.ins (CS K) dx []) ∧ Q .non (upd H p (scO K dx l 0 1 1))
def sp_Scanner_is_done (K : PySem.W.Frag) : Sp := fun vs H Q _ => ∃ (p dx : Addr) (l : List Nat) (i : Nat) (r c : Int), vs = [.ref p] ∧ Sc K H p dx l i r c ∧ Q (.bl (decide (i = l.length))) H
def sp_Scanner_skip_newline (K : PySem.W.Frag) : Sp := fun vs H Q _ => ∃ (p dx : Addr) (l : List Nat) (i : Nat) (r c : Int), vs = [.ref p] ∧ Sc K H p dx l i r c ∧ Q .non (upd H p (scO K dx l (i + 1) (r + 1) 1))
abbrev rowLen (l : List Nat) : Nat := (l.takeWhile (fun c => c != 10)).length
def sp_Scanner_row_end (K : PySem.W.Frag) : Sp := fun vs H Q _ => ∃ (p dx : Addr) (l : List Nat) (i : Nat) (r c : Int), vs = [.ref p] ∧ Sc K H p dx l i r c ∧ Q (.int ((i + rowLen (l.drop i) : Nat) : Int)) H
def sp_Scanner_word_end (K : PySem.W.Frag) : Sp := fun vs H Q _ => ∃ (p dx : Addr) (l : List Nat) (i : Nat) (r c : Int), vs = [.ref p] ∧ Sc K H p dx l i r c ∧ Q (.int ((i + (word (l.drop i)).length : Nat) : Int)) H
def sp_Scanner_take_to (K : PySem.W.Frag) : Sp := fun vs H Q _ => ∃ (p dx : Addr) (l : List Nat) (i n : Nat) (r c : Int), vs = [.ref p, .int ((i + n : Nat) : Int)] ∧ Sc K H p dx l i r c ∧ i + n ≤ l.length ∧
  Q (.str (Tx ((l.drop i).take n))) (upd H p (scO K dx l (i + n) r (c + n)))
def sp_Scanner_skip_gaps (K : PySem.W.Frag) : Sp := fun vs H Q _ => ∃ (p dx : Addr) (l : List Nat) (i : Nat) (r c : Int), vs = [.ref p] ∧ Sc K H p dx l i r c ∧
  ∀ (j : Nat) (r2 c2 : Int), j ≤ l.length → skip false (l.drop i) r c = (l.drop j, r2, c2) → Q .non (upd H p (scO K dx l j r2 c2))
/-- at a place that is no gap and not the end: a sign -/
def sp_Scanner_take_sign (K : PySem.W.Frag) (EW : EWT) : Sp := fun vs H Q E => ∃ (p dx : Addr) (l : List Nat) (i : Nat) (r c : Int) (x : Nat) (xs : List Nat), vs = [.ref p] ∧ Sc K H p dx l i r c ∧ l.drop i = x :: xs ∧ isLet x = false ∧ isDig x = false ∧
  (∀ t (n : Nat), i + n ≤ l.length → Lx.step x xs r c = .ok (⟨.sign, t, r, c⟩, l.drop (i + n), r, c + n) → Q (.str (Tx t)) (upd H p (scO K dx l (i + n) r (c + n)))) ∧ (Lx.step x xs r c = .error (.char, r, c) → EW "BadCharacter" r c E H)
def sp_Scanner_take_token (K : PySem.W.Frag) (EW : EWT) : Sp := fun vs H Q E => ∃ (p dx : Addr) (l : List Nat) (i : Nat) (r c : Int) (x : Nat) (xs : List Nat), vs = [.ref p] ∧ Sc K H p dx l i r c ∧ l.drop i = x :: xs ∧
  (∀ (t : Tk) (n : Nat) (q : Addr) (H' : Hp), i + n ≤ l.length → Lx.step x xs r c = .ok (t, l.drop (i + n), r, c + n) → H q = none → H' = upd (upd H p (scO K dx l (i + n) r (c + n))) q (.tup (tkV t)) → Q (.ref q) H') ∧
  (∀ (e : Er) (H' : Hp), Lx.step x xs r c = .error (e, r, c) → (H' = H ∨ ∃ n : Nat, H' = upd H p (scO K dx l (i + n) r (c + n))) → EW (erS e) r c E H')
/-- a list of tokens at p: tuples -/
def TksAt (H : Hp) (p : Addr) (ts : List Tk) : Prop := ∃ qs : List Addr, H p = some (.lst (qs.map V.ref)) ∧ qs.length = ts.length ∧ ∀ (k : Nat) (q : Addr) (t : Tk), qs[k]? = some q → ts[k]? = some t → H q = some (.tup (tkV t))
def sp_tokens (K : PySem.W.Frag) (EW : EWT) : Sp := fun vs H Q E => ∃ l : List Nat, vs = [.str (Tx l)] ∧ l.length ≤ 10000000 ∧
  (∀ (ts : List Tk) (p : Addr) (H' : Hp), lex l 1 1 = (ts, none) → H p = none → Same H H' → TksAt H' p ts → Q (.ref p) H') ∧
  (∀ (ts : List Tk) (e : Er) (r c : Int) (H' : Hp), lex l 1 1 = (ts, some (e, r, c)) → Same H H' → EW (erS e) r c E H')
/-! ### readings -/

def ns_is_letter : List Str := ["char"]
def t_is_letter (K : PySem.W.Frag) (E : XK) : TS :=
  (tRet (tAndV (tBM0 K "str" rIsascii (tVar 0)) (tBM0 K "str" rIsalpha (tVar 0))))

def ns_is_word_part : List Str := ["char"]
def t_is_word_part (K : PySem.W.Frag) (E : XK) : TS :=
  (tRet (tOrV (tCall (sp_is_letter K) [] E (tCons (tVar 0) tNil)) (tOrV (tOp rInSign (tVar 0) (tC (.str ("0123456789" : Str)))) (tOp rEq (tVar 0) (tC (.str ("_" : Str)))))))

def ns_is_number : List Str := ["word"]
def t_is_number (K : PySem.W.Frag) (E : XK) : TS :=
  (tSeq (tIfS (tOr (tNot (tB (tBM0 K "str" rIsascii (tVar 0)))) (tNot (tB (tBM0 K "str" rIsdigit (tVar 0)))))
      (tRet (tC (.bl false)))
      tNext)
    (tSeq (tIfS (tAnd (tTest (tOp rGtI (tCB rLenS (tCons (tVar 0) tNil)) (tC (.int 1)))) (tTest (tOp rEq (tOp rIxS (tVar 0) (tC (.int 0))) (tC (.str ("0" : Str))))))
      (tRet (tC (.bl false)))
      tNext)
    (tRet (tAndV (tOp rLeI (tCB rLenS (tCons (tVar 0) tNil)) (tC (.int 13))) (tOp rLeI (tCB rIntS (tCons (tVar 0) tNil)) (tC (.int 1000000000000)))))))

def ns_word_kind : List Str := ["word"]
def t_word_kind (K : PySem.W.Frag) (E : XK) : TS :=
  (tSeq (tIfS (tTest (tOp (rIn K false) (tVar 0) (tC (.ref (He.ga K ("KEYWORDS" : Str))))))
      (tRet (tC (.str ("keyword" : Str))))
      tNext)
    (tRet (tC (.str ("name" : Str)))))

def ns_Scanner_init : List Str := ["self", "text"]
def t_Scanner_init (K : PySem.W.Frag) (E : XK) : TS :=
  (tSeq (sFld K (tVar 0) (tVar 1) ("text" : Str))
    (tSeq (sFld K (tVar 0) (tC (.int 0)) ("at" : Str))
    (tSeq (sFld K (tVar 0) (tC (.int 1)) ("row" : Str))
    (sFld K (tVar 0) (tC (.int 1)) ("column" : Str)))))

def ns_Scanner_is_done : List Str := ["self"]
def t_Scanner_is_done (K : PySem.W.Frag) (E : XK) : TS :=
  (tRet (tOp rEq (tFld K (tVar 0) ("at" : Str)) (tCB rLenS (tCons (tFld K (tVar 0) ("text" : Str)) tNil))))

def ns_Scanner_skip_newline : List Str := ["self"]
def t_Scanner_skip_newline (K : PySem.W.Frag) (E : XK) : TS :=
  (tSeq (sFldAug K (tVar 0) (tC (.int 1)) rAdd ("at" : Str))
    (tSeq (sFldAug K (tVar 0) (tC (.int 1)) rAdd ("row" : Str))
    (sFld K (tVar 0) (tC (.int 1)) ("column" : Str))))

def ns_Scanner_row_end : List Str := ["self", "end"]
def t_Scanner_row_end (K : PySem.W.Frag) (E : XK) : TS :=
  (tSeq (tAsg (tBM K "str" rFind3 (tFld K (tVar 0) ("text" : Str)) (tCons (tC (.str ("\n" : Str))) (tCons (tFld K (tVar 0) ("at" : Str)) tNil))) (gName 1))
    (tSeq (tIfS (tTest (tOp rEq (tVar 1) (tUn rNegI (tC (.int 1)))))
      (tRet (tCB rLenS (tCons (tFld K (tVar 0) ("text" : Str)) tNil)))
      tNext)
    (tRet (tVar 1))))

def ns_Scanner_word_end : List Str := ["self", "end"]
def t_Scanner_word_end (K : PySem.W.Frag) (E : XK) : TS :=
  (tSeq (tAsg (tFld K (tVar 0) ("at" : Str)) (gName 1))
    (tSeq (tWhile (tAnd (tTest (tOp rLtI (tVar 1) (tCB rLenS (tCons (tFld K (tVar 0) ("text" : Str)) tNil)))) (tB (tCall (sp_is_word_part K) [] E (tCons (tOp rIxS (tFld K (tVar 0) ("text" : Str)) (tVar 1)) tNil))))
      (tAug 1 (tC (.int 1)) (ipI fun i j => i + j)))
    (tRet (tVar 1))))

def ns_Scanner_take_to : List Str := ["self", "end", "taken"]
def t_Scanner_take_to (K : PySem.W.Frag) (E : XK) : TS :=
  (tSeq (tAsg (tSl rSlS (tFld K (tVar 0) ("text" : Str)) (oSome (tFld K (tVar 0) ("at" : Str))) (oSome (tVar 1))) (gName 2))
    (tSeq (sFldAug K (tVar 0) (tOp rSubI (tVar 1) (tFld K (tVar 0) ("at" : Str))) rAdd ("column" : Str))
    (tSeq (sFld K (tVar 0) (tVar 1) ("at" : Str))
    (tRet (tVar 2)))))

def ns_Scanner_skip_gaps : List Str := ["self", "char"]
def t_Scanner_skip_gaps (K : PySem.W.Frag) (E : XK) : TS :=
  (tWhile (tNot (tB (tMeth (He.ga K ("Scanner" : Str)) ("is_done" : Str) (sp_Scanner_is_done K) [] E (tVar 0) tNil)))
      (tSeq (tAsg (tOp rIxS (tFld K (tVar 0) ("text" : Str)) (tFld K (tVar 0) ("at" : Str))) (gName 1))
    (tIfS (tTest (tOp rEq (tVar 1) (tC (.str ("\n" : Str)))))
      (tDrop (tMeth (He.ga K ("Scanner" : Str)) ("skip_newline" : Str) (sp_Scanner_skip_newline K) [] E (tVar 0) tNil))
      (tIfS (tTest (tOp rEq (tVar 1) (tC (.str (" " : Str)))))
      (tDrop (tMeth (He.ga K ("Scanner" : Str)) ("take_to" : Str) (sp_Scanner_take_to K) [] E (tVar 0) (tCons (tOp rAddI (tFld K (tVar 0) ("at" : Str)) (tC (.int 1))) tNil)))
      (tIfS (tTest (tOp rEq (tVar 1) (tC (.str ("#" : Str)))))
      (tDrop (tMeth (He.ga K ("Scanner" : Str)) ("take_to" : Str) (sp_Scanner_take_to K) [] E (tVar 0) (tCons (tMeth (He.ga K ("Scanner" : Str)) ("row_end" : Str) (sp_Scanner_row_end K) [] E (tVar 0) tNil) tNil)))
      tRetN)))))

def ns_Scanner_take_sign : List Str := ["self", "pair"]
def t_Scanner_take_sign (K : PySem.W.Frag) (EW : EWT) (E : XK) (rz0 : TS) : TS :=
  (tSeq (tAsg (tSl rSlS (tFld K (tVar 0) ("text" : Str)) (oSome (tFld K (tVar 0) ("at" : Str))) (oSome (tOp rAddI (tFld K (tVar 0) ("at" : Str)) (tC (.int 2))))) (gName 1))
    (tSeq (tIfS (tTest (tOp (rIn K false) (tVar 1) (tC (.ref (He.ga K ("LONG_SIGNS" : Str))))))
      (tRet (tMeth (He.ga K ("Scanner" : Str)) ("take_to" : Str) (sp_Scanner_take_to K) [] E (tVar 0) (tCons (tOp rAddI (tFld K (tVar 0) ("at" : Str)) (tC (.int 2))) tNil)))
      tNext)
    (tSeq (tIfS (tTest (tOp (rIn K false) (tOp rIxS (tFld K (tVar 0) ("text" : Str)) (tFld K (tVar 0) ("at" : Str))) (tC (.ref (He.ga K ("SHORT_SIGNS" : Str))))))
      (tRet (tMeth (He.ga K ("Scanner" : Str)) ("take_to" : Str) (sp_Scanner_take_to K) [] E (tVar 0) (tCons (tOp rAddI (tFld K (tVar 0) ("at" : Str)) (tC (.int 1))) tNil)))
      tNext)
    rz0)))

def ns_Scanner_take_token : List Str := ["self", "row", "column", "char", "word"]
def t_Scanner_take_token (K : PySem.W.Frag) (EW : EWT) (E : XK) (rz0 : TS) : TS :=
  (tSeq (tAsg (tFld K (tVar 0) ("row" : Str)) (gName 1))
    (tSeq (tAsg (tFld K (tVar 0) ("column" : Str)) (gName 2))
    (tSeq (tAsg (tOp rIxS (tFld K (tVar 0) ("text" : Str)) (tFld K (tVar 0) ("at" : Str))) (gName 3))
    (tSeq (tIfS (tB (tCall (sp_is_letter K) [] E (tCons (tVar 3) tNil)))
      (tSeq (tAsg (tMeth (He.ga K ("Scanner" : Str)) ("take_to" : Str) (sp_Scanner_take_to K) [] E (tVar 0) (tCons (tMeth (He.ga K ("Scanner" : Str)) ("word_end" : Str) (sp_Scanner_word_end K) [] E (tVar 0) tNil) tNil)) (gName 4))
    (tRet (tTup (tCons (tCall (sp_word_kind K) [] E (tCons (tVar 4) tNil)) (tCons (tVar 4) (tCons (tVar 1) (tCons (tVar 2) tNil)))))))
      tNext)
    (tSeq (tIfS (tTest (tOp rInSign (tVar 3) (tC (.str ("0123456789" : Str)))))
      (tSeq (tAsg (tMeth (He.ga K ("Scanner" : Str)) ("take_to" : Str) (sp_Scanner_take_to K) [] E (tVar 0) (tCons (tMeth (He.ga K ("Scanner" : Str)) ("word_end" : Str) (sp_Scanner_word_end K) [] E (tVar 0) tNil) tNil)) (gName 4))
    (tSeq (tIfS (tNot (tB (tCall (sp_is_number K) [] E (tCons (tVar 4) tNil))))
      rz0
      tNext)
    (tRet (tTup (tCons (tC (.str ("number" : Str))) (tCons (tVar 4) (tCons (tVar 1) (tCons (tVar 2) tNil))))))))
      tNext)
    (tRet (tTup (tCons (tC (.str ("sign" : Str))) (tCons (tMeth (He.ga K ("Scanner" : Str)) ("take_sign" : Str) (sp_Scanner_take_sign K EW) [] E (tVar 0) tNil) (tCons (tVar 1) (tCons (tVar 2) tNil)))))))))))

def ns_tokens : List Str := ["text", "scanner", "found"]
def t_tokens (K : PySem.W.Frag) (EW : EWT) (E : XK) : TS :=
  (tSeq (tAsg (tMake (He.ga K ("Scanner" : Str)) (sp_Scanner_init K) [] E (tCons (tVar 0) tNil)) (gName 1))
    (tSeq (tAsg (tLst tNil) (gName 2))
    (tSeq (tDrop (tMeth (He.ga K ("Scanner" : Str)) ("skip_gaps" : Str) (sp_Scanner_skip_gaps K) [] E (tVar 1) tNil))
    (tSeq (tWhile (tNot (tB (tMeth (He.ga K ("Scanner" : Str)) ("is_done" : Str) (sp_Scanner_is_done K) [] E (tVar 1) tNil)))
      (tSeq (tDrop (tBM K "list" rAppend (tVar 2) (tCons (tMeth (He.ga K ("Scanner" : Str)) ("take_token" : Str) (sp_Scanner_take_token K EW) [] E (tVar 1) tNil) tNil)))
    (tDrop (tMeth (He.ga K ("Scanner" : Str)) ("skip_gaps" : Str) (sp_Scanner_skip_gaps K) [] E (tVar 1) tNil))))
    (tSeq (tDrop (tBM K "list" rAppend (tVar 2) (tCons (tTup (tCons (tC (.str ("end" : Str))) (tCons (tC (.str ("" : Str))) (tCons (tFld K (tVar 1) ("row" : Str)) (tCons (tFld K (tVar 1) ("column" : Str)) tNil))))) tNil)))
    (tRet (tVar 2)))))))

/-! ### runs -/
theorem _root_.L2.Same.put {H H' : Hp} {a : Addr} {o : HO} (s : Same H H') (n : H a = none) : Same H (upd H' a o) := fun b u e => by
  rw [upd_ne (ne_of_none e n)]
  exact s b u e
theorem bf {b : Bool} (h : ¬ b = true) : b = false := Bool.eq_false_iff.mpr h
section
variable {K : PySem.W.Frag} {vs : List V} {H : Hp} {Q : VK} {E : XK}
theorem run_is_letter (h : sp_is_letter K vs H Q E) : t_is_letter K E (DQ Q) (start ns_is_letter vs) H := by
  obtain ⟨c, rfl, q⟩ := h
  refine ⟨_, rfl, rfl, _, rfl, rfl, trivial, _, rfl, ?_⟩
  rw [ascii1]
  refine ite2 (fun h => ?_) (fun h => ?_)
  · have h := of_decide_eq_true h
    refine ⟨_, rfl, rfl, _, rfl, rfl, trivial, ?_⟩
    rw [let_ok c h]
    exact q
  · have e : isLet c = false := by
      cases e : isLet c with
      | false => rfl
      | true => exact absurd (decide_eq_true (isLet_lt e)) h
    show Q (.bl false) H
    rw [← e]
    exact q
theorem run_is_word_part (h : sp_is_word_part K vs H Q E) : t_is_word_part K E (DQ Q) (start ns_is_word_part vs) H := by
  obtain ⟨c, rfl, q⟩ := h
  refine ⟨_, rfl, c, rfl, _, rfl, ?_⟩
  have e : isWP c = (isLet c || (isDig c || c == 95)) := rfl
  refine ite2 (fun h => ?_) (fun h => ?_)
  · rw [e, h] at q
    exact q
  · have h := bf h
    refine ⟨_, rfl, c, _, rfl, rfl, _, rfl, ?_⟩
    rw [digits_mem]
    refine ite2 (fun h2 => ?_) (fun h2 => ?_)
    · rw [e, h, h2] at q
      exact q
    · have h2 := bf h2
      refine ⟨_, rfl, rfl, ?_⟩
      rw [under1, dec_one]
      rw [e, h, h2] at q
      rw [Bool.false_or, Bool.false_or] at q
      rw [show decide (c = 95) = (c == 95) by rw [Bool.beq_eq_decide_eq]]
      exact q
theorem isdigit_ok {w : List Nat} (hne : w ≠ []) (hw : ∀ x ∈ w, isWP x = true) : Txt.isdigit (Tx w) = w.all isDig := by
  have h1 : (Tx w).length > 0 := List.length_pos_iff.mpr hne
  show (decide ((Tx w).length > 0) && w.toArray.all PySem.Unicode.isDigit) = _
  rw [decide_eq_true h1, Bool.true_and, List.all_toArray]
  rw [Bool.eq_iff_iff, List.all_eq_true, List.all_eq_true]
  exact ⟨fun h x hx => by rw [← dig_ok x (isWP_lt (hw x hx))]; exact h x hx, fun h x hx => by rw [dig_ok x (isWP_lt (hw x hx))]; exact h x hx⟩
theorem isascii_ok {w : List Nat} (hw : ∀ x ∈ w, isWP x = true) : Txt.isascii (Tx w) = true := by
  show w.toArray.all (fun x => decide (x < 128)) = true
  rw [List.all_toArray, List.all_eq_true]
  exact fun x hx => decide_eq_true (isWP_lt (hw x hx))
theorem run_is_number (h : sp_is_number K vs H Q E) : t_is_number K E (DQ Q) (start ns_is_number vs) H := by
  obtain ⟨w, rfl, hne, hl, hw, q⟩ := h
  refine ⟨_, rfl, rfl, _, rfl, rfl, trivial, _, rfl, ?_⟩
  rw [isascii_ok hw]
  refine iteF ?_
  refine ⟨_, rfl, rfl, _, rfl, rfl, trivial, _, rfl, ?_⟩
  rw [isdigit_ok hne hw]
  have e : isNum w = (w.all isDig && (!(decide (1 < w.length) && (w.head? == some 48)) && (decide (w.length ≤ 13) && decide (val w ≤ 1000000000000)))) := rfl
  refine ite2 (fun h => ?_) (fun h => ?_)
  · have h : w.all isDig = false := by simpa using h
    rw [e, h] at q
    exact q
  · have h : w.all isDig = true := by simpa using h
    have hz : (Tx w).length ≤ sizeLine := small_len hl
    have hpos : 0 < w.length := List.length_pos_iff.mpr hne
    refine ⟨_, rfl, _, rfl, hz, _, _, rfl, rfl, _, rfl, ?_⟩
    have e1 : decide ((1 : Int) < ((Tx w).length : Int)) = decide (1 < w.length) := by
      rw [Tx_len]
      exact decide_eq_decide.mpr (by omega)
    rw [e1]
    have tail : (decide (1 < w.length) && (w.head? == some 48)) = false →
        (tRet (tAndV (tOp rLeI (tCB rLenS (tCons (tVar 0) tNil)) (tC (.int 13))) (tOp rLeI (tCB rIntS (tCons (tVar 0) tNil)) (tC (.int 1000000000000))))) (DQ Q) (start ns_is_number [V.str (Tx w)]) H := fun hh => by
      rw [e, h, hh] at q
      rw [Bool.true_and, Bool.not_false, Bool.true_and] at q
      refine ⟨_, rfl, _, rfl, hz, _, _, rfl, rfl, _, rfl, ?_⟩
      have e2 : decide (((Tx w).length : Int) ≤ 13) = decide (w.length ≤ 13) := by
        rw [Tx_len]
        exact decide_eq_decide.mpr (by omega)
      rw [e2]
      refine ite2 (fun h3 => ?_) (fun h3 => ?_)
      · have h3' := of_decide_eq_true h3
        have hd : NumText.AllDigits (Tx w).cps.toList := fun x hx => by
          have q := List.all_eq_true.mp h x hx
          unfold isDig at q
          simp at q
          exact q
        have hi := intText_digits hd (by exact hne) (by show w.length ≤ 4300; omega)
        refine ⟨_, rfl, _, _, rfl, hi, (by show w.length ≤ 640; omega), _, _, rfl, rfl, ?_⟩
        have e3 : decide (((NumText.digitsVal (Tx w).cps.toList : Nat) : Int) ≤ 1000000000000) = decide (val w ≤ 1000000000000) := by
          show decide (((val w : Nat) : Int) ≤ 1000000000000) = _
          exact decide_eq_decide.mpr (by omega)
        show Q (.bl (decide (((NumText.digitsVal (Tx w).cps.toList : Nat) : Int) ≤ 1000000000000))) H
        rw [e3]
        rw [h3, Bool.true_and] at q
        exact q
      · have h3 := bf h3
        rw [h3, Bool.false_and] at q
        exact q
    refine ite2 (fun h2 => ?_) (fun h2 => ?_)
    · obtain ⟨c, cs, rfl⟩ : ∃ c cs, w = c :: cs := by
        cases w with
        | nil => exact absurd rfl hne
        | cons c cs => exact ⟨c, cs, rfl⟩
      refine ⟨_, rfl, _, _, c, rfl, rfl, hz, atI_nat (j := 0) rfl, rfl, _, rfl, ?_⟩
      rw [show ("0" : Str) = ⟨#[48]⟩ by decide +kernel, dec_one]
      refine ite2 (fun h3 => ?_) (fun h3 => ?_)
      · have h3 := of_decide_eq_true h3
        have e4 : (decide (1 < (c :: cs).length) && ((c :: cs).head? == some 48)) = true := by rw [h2, h3]; simp
        rw [e, h, e4] at q
        exact q
      · refine tail ?_
        rw [h2]
        have : ¬ c = 48 := fun z => h3 (decide_eq_true z)
        simp [this]
    · refine iteF (tail ?_)
      rw [bf h2]
      rfl
theorem in_list (L : List (List Nat)) (w : List Nat) : inV (.str (Tx w)) (L.map fun k => V.str (Tx k)) = decide (w ∈ L) := by
  unfold inV
  rw [Bool.eq_iff_iff, List.any_eq_true, decide_eq_true_iff]
  constructor
  · rintro ⟨v, hv, e⟩
    obtain ⟨k, hk, rfl⟩ := List.mem_map.mp hv
    have e : (Tx k == Tx w) = true := e
    have := Tx_inj (beq_iff_eq.mp e)
    rw [← this]
    exact hk
  · intro h
    exact ⟨V.str (Tx w), List.mem_map.mpr ⟨w, h, rfl⟩, by show (Tx w == Tx w) = true; simp⟩
theorem take_word : ∀ l : List Nat, l.take (word l).length = word l
  | [] => rfl
  | x :: xs => by
    unfold word
    rw [List.takeWhile_cons]
    split
    · rw [List.length_cons, List.take_succ_cons]
      exact congrArg (x :: ·) (take_word xs)
    · rfl
theorem word_all : ∀ (l : List Nat), ∀ y ∈ word l, isWP y = true
  | [], y, h => by cases h
  | x :: xs, y, h => by
    unfold word at h
    rw [List.takeWhile_cons] at h
    split at h
    · rename_i hx
      rcases List.mem_cons.mp h with rfl | h
      · exact hx
      · exact word_all xs y h
    · cases h
theorem flat_map (l : List (List Nat)) : (l.map fun k => V.str (Tx k)).all flatV = true := by
  rw [List.all_eq_true]
  intro v hv
  obtain ⟨k, _, rfl⟩ := List.mem_map.mp hv
  rfl
theorem run_word_kind (hK : ∀ H, SqT K H (He.ga K ("KEYWORDS" : Str)) (kwL.map fun k => V.str (Tx k))) (h : sp_word_kind K vs H Q E) : t_word_kind K E (DQ Q) (start ns_word_kind vs) H := by
  obtain ⟨w, rfl, q⟩ := h
  refine ⟨_, rfl, _, _, rfl, .inr (hK H), rfl, flat_map _, _, rfl, ?_⟩
  rw [if_neg Bool.false_ne_true, in_list]
  have e : kindOf w = if w ∈ kwL then .keyword else .name := rfl
  refine ite2 (fun h => ?_) (fun h => ?_)
  · rw [e, if_pos (of_decide_eq_true h)] at q
    exact q
  · rw [e, if_neg (fun z => h (decide_eq_true z))] at q
    exact q
theorem skip_true : ∀ (l : List Nat) (r c : Int), skip true l r c = skip false (l.drop (rowLen l)) r (c + (rowLen l : Nat))
  | [], r, c => by
    show ([], r, c) = ([], r, c + ((0 : Nat) : Int))
    rw [Int.natCast_zero, Int.add_zero]
  | x :: xs, r, c => by
    unfold rowLen
    rw [List.takeWhile_cons]
    by_cases h : x = 10
    · rw [skip, if_pos h, if_neg (by simp [h])]
      show _ = skip false (x :: xs) r _
      rw [skip, if_pos h]
    · rw [skip, if_neg h, if_pos (by simpa using h), skip_true xs r (c + 1), List.length_cons, List.drop_succ_cons]
      congr 1
      unfold rowLen
      omega
theorem cut_any (l : List Nat) (i n : Nat) : cutS (Tx l) (some (i : Int)) (some ((i + n : Nat) : Int)) = Tx ((l.drop i).take n) := by
  unfold cutS
  rw [HT.sIx_nat, HT.sIx_nat, Tx_len]
  refine TL.ext_tl ?_
  show (l.drop (min i l.length)).take (min (i + n) l.length - min i l.length) = (l.drop i).take n
  by_cases h : i ≤ l.length
  · rw [Nat.min_eq_left h]
    by_cases h2 : i + n ≤ l.length
    · rw [Nat.min_eq_left h2, Nat.add_sub_cancel_left]
    · rw [Nat.min_eq_right (by omega), List.take_of_length_le (by rw [List.length_drop]; omega), List.take_of_length_le (by rw [List.length_drop]; omega)]
  · rw [Nat.min_eq_right (show l.length ≤ i by omega), List.drop_eq_nil_of_le (Nat.le_refl _), List.drop_eq_nil_of_le (show l.length ≤ i by omega), List.take_nil, List.take_nil]
theorem cut_ok (l : List Nat) (i n : Nat) (h : i + n ≤ l.length) : cutS (Tx l) (some (i : Int)) (some ((i + n : Nat) : Int)) = Tx ((l.drop i).take n) := by
  unfold cutS
  rw [HT.sIx_nat, HT.sIx_nat, Tx_len, Nat.min_eq_left (show i ≤ l.length by omega), Nat.min_eq_left h, Nat.add_sub_cancel_left]
theorem drop_cons {l : List Nat} {i : Nat} (h : i < l.length) : l.drop i = l[i] :: l.drop (i + 1) := List.drop_eq_getElem_cons h
section
variable (S : ScC K)
include S
theorem run_Scanner_init (h : sp_Scanner_init K vs H Q E) : t_Scanner_init K E (DQ Q) (start ns_Scanner_init vs) H := by
  obtain ⟨p, dx, l, rfl, hp, q⟩ := h
  refine ⟨_, rfl, _, rfl, p, _, dx, _, rfl, hp, S.cl, S.nt, (by show 0 < 1000; decide), ?_⟩
  refine ⟨_, rfl, p, _, dx, _, rfl, upd_same, S.cl, S.na, (by show 1 < 1000; decide), ?_⟩
  rw [upd_upd]
  refine ⟨_, rfl, p, _, dx, _, rfl, upd_same, S.cl, S.nr, (by rw [pf_nil, pf_ne neTA, pf_nil]; show 2 < 1000; decide), ?_⟩
  rw [upd_upd]
  refine ⟨_, rfl, p, _, dx, _, rfl, upd_same, S.cl, S.nc, (by rw [pf_nil, pf_ne neTA, pf_nil, pf_ne neTR, pf_ne neAR, pf_nil]; show 3 < 1000; decide), ?_⟩
  rw [upd_upd, scF_init]
  exact q
theorem run_Scanner_is_done (h : sp_Scanner_is_done K vs H Q E) : t_Scanner_is_done K E (DQ Q) (start ns_Scanner_is_done vs) H := by
  obtain ⟨p, dx, l, i, r, c, rfl, ⟨hp, hl, hi⟩, q⟩ := h
  refine ⟨_, rfl, p, _, dx, _, _, rfl, hp, S.cl, S.na, scF_at, _, rfl, p, _, dx, _, _, rfl, hp, S.cl, S.nt, scF_text, _, rfl, small_len hl, rfl, ?_⟩
  rw [dec_int]
  have e : ((i : Int) == ((Tx l).length : Int)) = decide (i = l.length) := by
    rw [Tx_len, Bool.beq_eq_decide_eq]
    exact decide_eq_decide.mpr (by omega)
  rw [e]
  exact q
theorem run_Scanner_skip_newline (h : sp_Scanner_skip_newline K vs H Q E) : t_Scanner_skip_newline K E (DQ Q) (start ns_Scanner_skip_newline vs) H := by
  obtain ⟨p, dx, l, i, r, c, rfl, ⟨hp, hl, hi⟩, q⟩ := h
  refine ⟨_, rfl, p, _, dx, _, _, rfl, hp, S.cl, S.na, scF_at, _, _, rfl, rfl, dx, _, hp, scF_len, ?_⟩
  rw [scF_pat]
  refine ⟨_, rfl, p, _, dx, _, _, rfl, upd_same, S.cl, S.nr, scF_row, _, _, rfl, rfl, dx, _, upd_same, scF_len, ?_⟩
  rw [upd_upd, scF_prow]
  refine ⟨_, rfl, p, _, dx, _, rfl, upd_same, S.cl, S.nc, scF_len, ?_⟩
  rw [upd_upd, scF_pcol]
  exact q
theorem run_Scanner_row_end (h : sp_Scanner_row_end K vs H Q E) : t_Scanner_row_end K E (DQ Q) (start ns_Scanner_row_end vs) H := by
  obtain ⟨p, dx, l, i, r, c, rfl, ⟨hp, hl, hi⟩, q⟩ := h
  refine ⟨_, rfl, p, _, dx, _, _, rfl, hp, S.cl, S.nt, scF_text, rfl, _, rfl, p, _, dx, _, _, rfl, hp, S.cl, S.na, scF_at, _, _, _, rfl, rfl, ?_⟩
  rw [find_nl l i hi]
  by_cases e : i + ((l.drop i).takeWhile (fun c => c != 10)).length = l.length
  · rw [if_pos e]
    refine ⟨_, rfl, _, rfl, rfl, _, rfl, iteT ?_⟩
    refine ⟨_, rfl, p, _, dx, _, _, rfl, hp, S.cl, S.nt, scF_text, _, rfl, small_len hl, ?_⟩
    rw [Tx_len, ← e]
    exact q
  · rw [if_neg e]
    refine ⟨_, rfl, _, rfl, rfl, _, rfl, ?_⟩
    rw [dec_int, show ((((i + ((l.drop i).takeWhile (fun c => c != 10)).length : Nat) : Int)) == -1) = false by rw [Bool.beq_eq_decide_eq]; exact decide_eq_false (by omega)]
    refine iteF ⟨_, rfl, q⟩
theorem run_Scanner_word_end (h : sp_Scanner_word_end K vs H Q E) : t_Scanner_word_end K E (DQ Q) (start ns_Scanner_word_end vs) H := by
  obtain ⟨p, dx, l, i, r, c, rfl, ⟨hp, hl, hi⟩, q⟩ := h
  refine ⟨_, rfl, p, _, dx, _, _, rfl, hp, S.cl, S.na, scF_at, ?_⟩
  refine ⟨fun m σ H' => H' = H ∧ ∃ j : Nat, m = l.length - j ∧ σ = [some (.ref p), some (.int (j : Int))] ∧ j ≤ l.length ∧ i + (word (l.drop i)).length = j + (word (l.drop j)).length, ⟨_, rfl, i, rfl, rfl, hi, rfl⟩, ?_⟩
  rintro m σ H' ⟨rfl, j, rfl, rfl, hj, e⟩
  refine ⟨_, rfl, _, rfl, p, _, dx, _, _, rfl, hp, S.cl, S.nt, scF_text, _, rfl, small_len hl, _, _, rfl, rfl, _, rfl, ?_⟩
  have fin : (word (l.drop j)).length = 0 → (tRet (tVar 1)) (DQ Q) [some (.ref p), some (.int (j : Int))] H' := fun hz => by
    refine ⟨_, rfl, ?_⟩
    rw [hz, Nat.add_zero] at e
    rw [← e]
    exact q
  by_cases hlt : j < l.length
  · rw [decide_eq_true (show (j : Int) < ((Tx l).length : Int) by rw [Tx_len]; omega)]
    refine iteT ?_
    refine ⟨_, rfl, p, _, dx, _, _, rfl, hp, S.cl, S.nt, scF_text, _, rfl, _, _, l[j], rfl, rfl, small_len hl, atI_nat (j := j) (by rw [List.getElem?_eq_getElem hlt]), l[j], rfl, _, rfl, ?_⟩
    refine ite2 (fun h => ?_) (fun h => ?_)
    · refine ⟨fun σ' H'' => H'' = H' ∧ ∃ j2 : Nat, σ' = [some (.ref p), some (.int (j2 : Int))] ∧ j2 = j + 1, ?_, ?_⟩
      · rintro σ' H'' ⟨rfl, j2, rfl, rfl⟩
        refine ⟨l.length - (j + 1), by omega, rfl, j + 1, rfl, rfl, hlt, ?_⟩
        rw [e, drop_cons hlt]
        unfold word
        rw [List.takeWhile_cons, if_pos h, List.length_cons]
        omega
      · exact ⟨_, rfl, _, _, rfl, rfl, rfl, j + 1, rfl, rfl⟩
    · refine fin ?_
      rw [drop_cons hlt]
      unfold word
      rw [List.takeWhile_cons, if_neg h]
      rfl
  · rw [decide_eq_false (show ¬ (j : Int) < ((Tx l).length : Int) by rw [Tx_len]; omega)]
    refine iteF (fin ?_)
    rw [List.drop_eq_nil_of_le (by omega)]
    rfl
theorem run_Scanner_take_to (h : sp_Scanner_take_to K vs H Q E) : t_Scanner_take_to K E (DQ Q) (start ns_Scanner_take_to vs) H := by
  obtain ⟨p, dx, l, i, n, r, c, rfl, ⟨hp, hl, hi⟩, hn, q⟩ := h
  refine ⟨_, rfl, p, _, dx, _, _, rfl, hp, S.cl, S.nt, scF_text, ?_⟩
  refine ⟨_, rfl, p, _, dx, _, _, rfl, hp, S.cl, S.na, scF_at, _, rfl, _, rfl, _, rfl, _, rfl, small_len hl, ?_⟩
  rw [cut_ok l i n hn]
  refine ⟨_, rfl, p, _, dx, _, _, rfl, hp, S.cl, S.nc, scF_col, _, rfl, _, rfl, p, _, dx, _, _, rfl, hp, S.cl, S.na, scF_at, _, _, rfl, rfl, _, _, rfl, rfl, dx, _, hp, scF_len, ?_⟩
  rw [scF_pcol]
  refine ⟨_, rfl, _, rfl, p, _, dx, _, rfl, upd_same, S.cl, S.na, scF_len, ?_⟩
  rw [upd_upd, scF_pat, show c + (((i + n : Nat) : Int) - (i : Int)) = c + n by omega]
  exact ⟨_, rfl, q⟩
theorem run_Scanner_skip_gaps (h : sp_Scanner_skip_gaps K vs H Q E) : t_Scanner_skip_gaps K E (DQ Q) (start ns_Scanner_skip_gaps vs) H := by
  obtain ⟨p, dx, l, i, r, c, rfl, ⟨hp, hl, hi⟩, q⟩ := h
  refine ⟨fun m σ H' => ∃ (j : Nat) (r2 c2 : Int) (cv : Option V), m = l.length - j ∧ σ = [some (.ref p), cv] ∧ H' = upd H p (scO K dx l j r2 c2) ∧ j ≤ l.length ∧ skip false (l.drop i) r c = skip false (l.drop j) r2 c2,
    ⟨_, i, r, c, none, rfl, rfl, (upd_self hp).symm, hi, rfl⟩, ?_⟩
  rintro m σ H' ⟨j, r2, c2, cv, rfl, rfl, rfl, hj, e⟩
  refine ⟨_, rfl, p, dx, _, rfl, upd_same, scF_no (by decide +kernel) (by decide +kernel) (by decide +kernel) (by decide +kernel), p, dx, l, j, r2, c2, rfl, ⟨upd_same, hl, hj⟩, _, rfl, ?_⟩
  by_cases hlt : j < l.length
  · rw [decide_eq_false (show ¬ j = l.length by omega)]
    refine iteT ⟨fun σ' H'' => ∃ m', m' < l.length - j ∧ ∃ (j2 : Nat) (r3 c3 : Int) (cv : Option V), m' = l.length - j2 ∧ σ' = [some (.ref p), cv] ∧ H'' = upd H p (scO K dx l j2 r3 c3) ∧ j2 ≤ l.length ∧ skip false (l.drop i) r c = skip false (l.drop j2) r3 c3, fun _ _ z => z, ?_⟩
    have ed := drop_cons hlt
    refine ⟨_, rfl, p, _, dx, _, _, rfl, upd_same, S.cl, S.nt, scF_text, _, rfl, p, _, dx, _, _, rfl, upd_same, S.cl, S.na, scF_at, _, _, l[j], rfl, rfl, small_len hl, atI_nat (j := j) (by rw [List.getElem?_eq_getElem hlt]), ?_⟩
    refine ⟨_, rfl, rfl, _, rfl, ?_⟩
    rw [nl1, dec_one]
    refine ite2 (fun h => ?_) (fun h => ?_)
    · have h := of_decide_eq_true h
      refine ⟨_, rfl, p, dx, _, rfl, upd_same, scF_no (by decide +kernel) (by decide +kernel) (by decide +kernel) (by decide +kernel), p, dx, l, j, r2, c2, rfl, ⟨upd_same, hl, hj⟩, ?_⟩
      rw [upd_upd]
      refine ⟨l.length - (j + 1), by omega, j + 1, r2 + 1, 1, _, rfl, rfl, rfl, hlt, ?_⟩
      rw [e, ed, skip, if_pos h]
    · have h : ¬ l[j] = 10 := fun z => h (decide_eq_true z)
      refine ⟨_, rfl, rfl, _, rfl, ?_⟩
      rw [show (" " : Str) = ⟨#[32]⟩ by decide +kernel, dec_one]
      refine ite2 (fun h2 => ?_) (fun h2 => ?_)
      · have h2 := of_decide_eq_true h2
        refine ⟨_, rfl, p, dx, _, rfl, upd_same, scF_no (by decide +kernel) (by decide +kernel) (by decide +kernel) (by decide +kernel), _, rfl, p, _, dx, _, _, rfl, upd_same, S.cl, S.na, scF_at, _, _, rfl, rfl,
          p, dx, l, j, 1, r2, c2, rfl, ⟨upd_same, hl, hj⟩, hlt, ?_⟩
        rw [upd_upd]
        refine ⟨l.length - (j + 1), by omega, j + 1, r2, c2 + 1, _, rfl, rfl, rfl, hlt, ?_⟩
        rw [e, ed, skip, if_neg h, if_pos h2]
      · have h2 : ¬ l[j] = 32 := fun z => h2 (decide_eq_true z)
        refine ⟨_, rfl, rfl, _, rfl, ?_⟩
        rw [show ("#" : Str) = ⟨#[35]⟩ by decide +kernel, dec_one]
        refine ite2 (fun h3 => ?_) (fun h3 => ?_)
        · have h3 := of_decide_eq_true h3
          have hr : rowLen (l.drop j) = rowLen (l.drop (j + 1)) + 1 := by
            rw [ed]
            show (List.takeWhile (fun c => c != 10) (l[j] :: l.drop (j + 1))).length = _
            rw [List.takeWhile_cons, if_pos (by simpa using h)]
            rfl
          have hrl : rowLen (l.drop j) ≤ (l.drop j).length := takeWhile_len _ _
          rw [List.length_drop] at hrl
          refine ⟨_, rfl, p, dx, _, rfl, upd_same, scF_no (by decide +kernel) (by decide +kernel) (by decide +kernel) (by decide +kernel), _, rfl, p, dx, _, rfl, upd_same, scF_no (by decide +kernel) (by decide +kernel) (by decide +kernel) (by decide +kernel),
            p, dx, l, j, r2, c2, rfl, ⟨upd_same, hl, hj⟩, p, dx, l, j, rowLen (l.drop j), r2, c2, rfl, ⟨upd_same, hl, hj⟩, by omega, ?_⟩
          rw [upd_upd]
          refine ⟨l.length - (j + rowLen (l.drop j)), by omega, j + rowLen (l.drop j), r2, c2 + (rowLen (l.drop j) : Nat), _, rfl, rfl, rfl, by omega, ?_⟩
          rw [e, ed, skip, if_neg h, if_neg h2, if_pos h3, skip_true, List.drop_drop, ← ed, hr]
          congr 1
          · congr 1
            omega
          · omega
        · have h3 : ¬ l[j] = 35 := fun z => h3 (decide_eq_true z)
          refine q j r2 c2 hj ?_
          rw [e, ed, skip_here ⟨h, h2, h3⟩]
  · rw [decide_eq_true (show j = l.length by omega)]
    refine iteF (q j r2 c2 hj ?_)
    rw [e, List.drop_eq_nil_of_le (by omega)]
    rfl
theorem run_Scanner_take_sign {EW : EWT} {rz0 : TS} (hLg : ∀ H, SqT K H (He.ga K ("LONG_SIGNS" : Str)) (longL.map fun k => V.str (Tx k))) (hSh : ∀ H, SqT K H (He.ga K ("SHORT_SIGNS" : Str)) (shortL.map fun k => V.str (Tx k)))
    (hz : ∀ (D : Ends) (σ : L2.St) (H : Hp) (p dx : Addr) (l : List Nat) (i : Nat) (r c : Int), σ[0]? = some (some (.ref p)) → Sc K H p dx l i r c → EW "BadCharacter" r c E H → rz0 D σ H)
    (h : sp_Scanner_take_sign K EW vs H Q E) : t_Scanner_take_sign K EW E rz0 (DQ Q) (start ns_Scanner_take_sign vs) H := by
  obtain ⟨p, dx, l, i, r, c, x, xs, rfl, ⟨hp, hl, hi⟩, ed, h1, h2, q, qe⟩ := h
  have hlt : i < l.length := by
    have := congrArg List.length ed
    rw [List.length_drop, List.length_cons] at this
    omega
  have hx : l[i]? = some x := by
    have := congrArg List.head? ed
    rw [List.head?_drop] at this
    exact this
  have est : Lx.step x xs r c = if (x :: xs).take 2 ∈ longL then .ok (⟨.sign, (x :: xs).take 2, r, c⟩, (x :: xs).drop 2, r, c + 2) else if [x] ∈ shortL then .ok (⟨.sign, [x], r, c⟩, xs, r, c + 1) else .error (.char, r, c) := by
    unfold Lx.step
    rw [if_neg (by rw [h1]; exact Bool.false_ne_true), if_neg (by rw [h2]; exact Bool.false_ne_true)]
  refine ⟨_, rfl, p, _, dx, _, _, rfl, hp, S.cl, S.nt, scF_text, _, rfl, p, _, dx, _, _, rfl, hp, S.cl, S.na, scF_at, _, rfl, _, rfl, p, _, dx, _, _, rfl, hp, S.cl, S.na, scF_at, _, _, rfl, rfl, _, rfl, _, rfl, small_len hl, ?_⟩
  rw [show (i : Int) + 2 = ((i + 2 : Nat) : Int) by omega, cut_any, ed]
  refine ⟨_, rfl, _, _, rfl, .inr (hLg H), rfl, flat_map _, _, rfl, ?_⟩
  rw [if_neg Bool.false_ne_true, in_list]
  refine ite2 (fun h3 => ?_) (fun h3 => ?_)
  · have h3 := of_decide_eq_true h3
    have h2l : i + 2 ≤ l.length := by
      have e : ∀ w ∈ longL, w.length = 2 := by decide +kernel
      have q := e _ h3
      rw [← ed, List.length_take, List.length_drop] at q
      omega
    refine ⟨_, rfl, p, dx, _, rfl, hp, scF_no (by decide +kernel) (by decide +kernel) (by decide +kernel) (by decide +kernel), _, rfl, p, _, dx, _, _, rfl, hp, S.cl, S.na, scF_at, _, _, rfl, rfl,
      p, dx, l, i, 2, r, c, rfl, ⟨hp, hl, hi⟩, h2l, ?_⟩
    rw [ed]
    refine q _ 2 h2l ?_
    rw [est, if_pos h3, ← ed, List.drop_drop]
    rfl
  · have h3 : ¬ (x :: xs).take 2 ∈ longL := fun z => h3 (decide_eq_true z)
    rw [if_neg h3] at est
    refine ⟨_, rfl, p, _, dx, _, _, rfl, hp, S.cl, S.nt, scF_text, _, rfl, p, _, dx, _, _, rfl, hp, S.cl, S.na, scF_at, _, _, x, rfl, rfl, small_len hl, atI_nat (j := i) hx, _, _, rfl, .inr (hSh H), rfl, flat_map _, _, rfl, ?_⟩
    rw [if_neg Bool.false_ne_true, show (⟨#[x]⟩ : Str) = Tx [x] from rfl, in_list]
    refine ite2 (fun h4 => ?_) (fun h4 => ?_)
    · have h4 := of_decide_eq_true h4
      refine ⟨_, rfl, p, dx, _, rfl, hp, scF_no (by decide +kernel) (by decide +kernel) (by decide +kernel) (by decide +kernel), _, rfl, p, _, dx, _, _, rfl, hp, S.cl, S.na, scF_at, _, _, rfl, rfl,
        p, dx, l, i, 1, r, c, rfl, ⟨hp, hl, hi⟩, hlt, ?_⟩
      rw [ed]
      refine q _ 1 hlt ?_
      rw [est, if_pos h4, ← List.drop_drop, ed]
      rfl
    · have h4 : ¬ [x] ∈ shortL := fun z => h4 (decide_eq_true z)
      rw [if_neg h4] at est
      exact hz _ _ _ p dx l i r c rfl ⟨hp, hl, hi⟩ (qe est)
theorem run_Scanner_take_token {EW : EWT} {rz0 : TS} (hz : ∀ (D : Ends) (σ : L2.St) (H : Hp) (r c : Int), σ[1]? = some (some (.int r)) → σ[2]? = some (some (.int c)) → EW "BadNumber" r c E H → rz0 D σ H)
    (h : sp_Scanner_take_token K EW vs H Q E) : t_Scanner_take_token K EW E rz0 (DQ Q) (start ns_Scanner_take_token vs) H := by
  obtain ⟨p, dx, l, i, r, c, x, xs, rfl, ⟨hp, hl, hi⟩, ed, q, qe⟩ := h
  have hlt : i < l.length := by
    have := congrArg List.length ed
    rw [List.length_drop, List.length_cons] at this
    omega
  have hx : l[i]? = some x := by
    have := congrArg List.head? ed
    rw [List.head?_drop] at this
    exact this
  have wl := word_len (l.drop i)
  rw [List.length_drop] at wl
  have wd : (l.drop i).take (word (l.drop i)).length = word (l.drop i) := take_word _
  have dw : (x :: xs).drop (word (l.drop i)).length = l.drop (i + (word (l.drop i)).length) := by rw [← ed, List.drop_drop]
  have hn : i + (word (l.drop i)).length ≤ l.length := by omega
  refine ⟨_, rfl, p, _, dx, _, _, rfl, hp, S.cl, S.nr, scF_row, _, rfl, p, _, dx, _, _, rfl, hp, S.cl, S.nc, scF_col, _, rfl, p, _, dx, _, _, rfl, hp, S.cl, S.nt, scF_text, _, rfl, p, _, dx, _, _, rfl, hp, S.cl, S.na, scF_at, _, _, x, rfl, rfl, small_len hl, atI_nat (j := i) hx, ?_⟩
  refine ⟨_, rfl, x, rfl, _, rfl, ?_⟩
  refine ite2 (fun h1 => ?_) (fun h1 => ?_)
  · -- a name or a keyword
    refine ⟨_, rfl, p, dx, _, rfl, hp, scF_no (by decide +kernel) (by decide +kernel) (by decide +kernel) (by decide +kernel), _, rfl, p, dx, _, rfl, hp, scF_no (by decide +kernel) (by decide +kernel) (by decide +kernel) (by decide +kernel),
      p, dx, l, i, r, c, rfl, ⟨hp, hl, hi⟩, p, dx, l, i, (word (l.drop i)).length, r, c, rfl, ⟨hp, hl, hi⟩, hn, ?_⟩
    rw [wd]
    refine ⟨_, rfl, word (l.drop i), rfl, _, rfl, _, rfl, _, rfl, (by show 4 ≤ sizeLine; decide), fun a na => ?_⟩
    have nap : a ≠ p := fun z => by rw [z, upd_same] at na; cases na
    rw [upd_ne nap] at na
    refine q ⟨kindOf (word (l.drop i)), word (l.drop i), r, c⟩ _ a _ hn ?_ na rfl
    unfold Lx.step
    rw [if_pos h1, ← ed, List.drop_drop]
  · have h1 := bf h1
    refine ⟨_, rfl, x, _, rfl, rfl, _, rfl, ?_⟩
    rw [digits_mem]
    refine ite2 (fun h2 => ?_) (fun h2 => ?_)
    · -- what begins with a digit
      have hall : ∀ y ∈ word (l.drop i), isWP y = true := word_all _
      have hne : word (l.drop i) ≠ [] := by
        rw [ed]
        have := word_pos (x := x) (xs := xs) (by unfold isWP; rw [h2]; simp)
        exact List.ne_nil_of_length_pos this
      refine ⟨_, rfl, p, dx, _, rfl, hp, scF_no (by decide +kernel) (by decide +kernel) (by decide +kernel) (by decide +kernel), _, rfl, p, dx, _, rfl, hp, scF_no (by decide +kernel) (by decide +kernel) (by decide +kernel) (by decide +kernel),
        p, dx, l, i, r, c, rfl, ⟨hp, hl, hi⟩, p, dx, l, i, (word (l.drop i)).length, r, c, rfl, ⟨hp, hl, hi⟩, hn, ?_⟩
      rw [wd]
      refine ⟨_, rfl, word (l.drop i), rfl, hne, by omega, hall, _, rfl, ?_⟩
      have est : Lx.step x xs r c = if isNum (word (x :: xs)) then .ok (⟨.number, word (x :: xs), r, c⟩, (x :: xs).drop (word (x :: xs)).length, r, c + (word (x :: xs)).length) else .error (.num, r, c) := by
        unfold Lx.step
        rw [if_neg (by rw [h1]; exact Bool.false_ne_true), if_pos h2]
      rw [← ed] at est
      cases hnum : isNum (word (l.drop i)) with
      | false =>
        refine iteT ?_
        rw [hnum, if_neg Bool.false_ne_true] at est
        exact hz _ _ _ r c rfl rfl (qe .num _ est (.inr ⟨_, rfl⟩))
      | true =>
        refine iteF ?_
        rw [hnum, if_pos rfl, List.drop_drop] at est
        refine ⟨_, rfl, _, rfl, _, rfl, (by show 4 ≤ sizeLine; decide), fun a na => ?_⟩
        have nap : a ≠ p := fun z => by rw [z, upd_same] at na; cases na
        rw [upd_ne nap] at na
        exact q ⟨.number, word (l.drop i), r, c⟩ _ a _ hn est na rfl
    · have h2 := bf h2
      refine ⟨_, rfl, p, dx, _, rfl, hp, scF_no (by decide +kernel) (by decide +kernel) (by decide +kernel) (by decide +kernel), p, dx, l, i, r, c, x, xs, rfl, ⟨hp, hl, hi⟩, ed, h1, h2, fun t n hn est => ?_, fun est => qe .char _ est (.inl rfl)⟩
      refine ⟨_, rfl, _, rfl, (by show 4 ≤ sizeLine; decide), fun a na => ?_⟩
      have nap : a ≠ p := fun z => by rw [z, upd_same] at na; cases na
      rw [upd_ne nap] at na
      exact q ⟨.sign, t, r, c⟩ n a _ hn est na rfl
theorem run_tokens {EW : EWT} (h : sp_tokens K EW vs H Q E) : t_tokens K EW E (DQ Q) (start ns_tokens vs) H := by
  obtain ⟨l, rfl, hl, q, qe⟩ := h
  refine ⟨_, rfl, fun x dx nx ndx nex => ?_⟩
  refine ⟨x, dx, l, rfl, upd_same, rfl, ?_⟩
  rw [upd_upd]
  refine ⟨(by show 0 ≤ sizeLine; decide), fun f nf => ?_⟩
  have nfx : f ≠ x := fun z => by rw [z, upd_same] at nf; cases nf
  have nfd : f ≠ dx := fun z => by rw [z, upd_ne nex, upd_same] at nf; cases nf
  have nfH : H f = none := by rw [upd_ne nfx, upd_ne nfd] at nf; exact nf
  have s0 : Same H (upd (upd (upd H dx (.own x)) x (scO K dx l 0 1 1)) f (.lst [])) := fun b o e => by
    rw [upd_ne (ne_of_none e nfH), upd_ne (ne_of_none e nx), upd_ne (ne_of_none e ndx)]
    exact e
  -- scanner.skip_gaps()
  refine ⟨_, rfl, x, dx, _, rfl, (by rw [upd_ne nfx.symm, upd_same]), scF_no (by decide +kernel) (by decide +kernel) (by decide +kernel) (by decide +kernel), x, dx, l, 0, 1, 1, rfl, ⟨by rw [upd_ne nfx.symm, upd_same], hl, Nat.zero_le _⟩, fun j r c hj es => ?_⟩
  have start1 : lex l 1 1 = lex (l.drop j) r c := lex_skip (by
    have := skip_idem false (l.drop 0) 1 1
    rw [es] at this
    rw [this, ← es]
    rfl)
  refine ⟨fun m σ H' => ∃ (j : Nat) (r c : Int) (ts : List Tk), m = l.length - j ∧ σ = [some (.str (Tx l)), some (.ref x), some (.ref f)] ∧ H' x = some (scO K dx l j r c) ∧ TksAt H' f ts ∧ ts.length ≤ j ∧ j ≤ l.length ∧ skip false (l.drop j) r c = (l.drop j, r, c) ∧
      lex l 1 1 = (ts ++ (lex (l.drop j) r c).1, (lex (l.drop j) r c).2) ∧ Same H H', ⟨_, j, r, c, [], rfl, rfl, upd_same, ⟨[], ?_, rfl, fun k q t e => by simp at e⟩, Nat.zero_le _, hj, ?_, start1, ?_⟩, ?_⟩
  · rw [upd_ne nfx, upd_same]
    rfl
  · have := skip_idem false (l.drop 0) 1 1
    rw [es] at this
    exact this
  · exact s0.put nx
  rintro m σ H' ⟨j, r, c, ts, rfl, rfl, hx, hT, htl, hj, hs, hlx, s1⟩
  have hsc : Sc K H' x dx l j r c := ⟨hx, hl, hj⟩
  refine ⟨_, rfl, x, dx, _, rfl, hx, scF_no (by decide +kernel) (by decide +kernel) (by decide +kernel) (by decide +kernel), x, dx, l, j, r, c, rfl, hsc, _, rfl, ?_⟩
  obtain ⟨qs, hf, hql, hqs⟩ := id hT
  by_cases hlt : j < l.length
  · rw [decide_eq_false (show ¬ j = l.length by omega)]
    refine iteT ⟨fun σ' H'' => ∃ m', m' < l.length - j ∧ ∃ (j : Nat) (r c : Int) (ts : List Tk), m' = l.length - j ∧ σ' = [some (.str (Tx l)), some (.ref x), some (.ref f)] ∧ H'' x = some (scO K dx l j r c) ∧ TksAt H'' f ts ∧ ts.length ≤ j ∧ j ≤ l.length ∧ skip false (l.drop j) r c = (l.drop j, r, c) ∧
      lex l 1 1 = (ts ++ (lex (l.drop j) r c).1, (lex (l.drop j) r c).2) ∧ Same H H'', fun _ _ z => z, ?_⟩
    have ed := drop_cons hlt
    refine ⟨_, rfl, .inl ⟨rfl, _, SqL.of hf⟩, _, rfl, x, dx, _, rfl, hx, scF_no (by decide +kernel) (by decide +kernel) (by decide +kernel) (by decide +kernel), x, dx, l, j, r, c, l[j], l.drop (j + 1), rfl, hsc, ed, fun t n a H2 hn est na eH2 => ?_, fun e H2 est eH2 => ?_⟩
    · subst eH2
      have nax : a ≠ x := fun z => by rw [z, hx] at na; cases na
      have naf : a ≠ f := fun z => by rw [z, hf] at na; cases na
      have nxf : x ≠ f := nfx.symm
      have hf2 : (upd (upd H' x (scO K dx l (j + n) r (c + n))) a (.tup (tkV t))) f = some (.lst (qs.map V.ref)) := by rw [upd_ne naf.symm, upd_ne nfx]; exact hf
      have hlex : lex (l.drop j) r c = (t :: (lex (l.drop (j + n)) r (c + n)).1, (lex (l.drop (j + n)) r (c + n)).2) := lex_tok (by rw [hs, ed]) est
      have hlen := step_len est
      rw [← ed, List.length_drop, List.length_drop] at hlen
      refine ⟨f, _, _, rfl, rfl, hf2, (by rw [List.length_map, hql]; exact Nat.lt_of_le_of_lt htl (Nat.lt_of_lt_of_le hlt (Nat.le_trans hl (by decide)))), ?_⟩
      have hx3 : (upd (upd (upd H' x (scO K dx l (j + n) r (c + n))) a (.tup (tkV t))) f (.lst (qs.map V.ref ++ [V.ref a]))) x = some (scO K dx l (j + n) r (c + n)) := by rw [upd_ne nxf, upd_ne nax.symm, upd_same]
      refine ⟨_, rfl, x, dx, _, rfl, hx3, scF_no (by decide +kernel) (by decide +kernel) (by decide +kernel) (by decide +kernel), x, dx, l, j + n, r, c + n, rfl, ⟨hx3, hl, hn⟩, fun j2 r2 c2 hj2 es2 => ?_⟩
      have sk : skip false (l.drop j2) r2 c2 = (l.drop j2, r2, c2) := by
        have := skip_idem false (l.drop (j + n)) r (c + n)
        rw [es2] at this
        exact this
      have hlen2 := skip_len false (l.drop (j + n)) r (c + n)
      rw [es2] at hlen2
      rw [List.length_drop, List.length_drop] at hlen2
      refine ⟨l.length - j2, by omega, j2, r2, c2, ts ++ [t], rfl, rfl, upd_same, ⟨qs ++ [a], ?_, ?_, fun k qa ta e1 e2 => ?_⟩, ?_, hj2, sk, ?_, ?_⟩
      · rw [upd_ne nfx, upd_same, List.map_append]
        rfl
      · rw [List.length_append, List.length_append, hql]
        rfl
      · by_cases hk : k < qs.length
        · rw [List.getElem?_append_left hk] at e1
          rw [List.getElem?_append_left (by omega)] at e2
          have h0 := hqs k qa ta e1 e2
          have n1 : qa ≠ x := ne_of h0 hx (by intro z; cases z)
          have n2 : qa ≠ f := ne_of h0 hf (by intro z; cases z)
          have n3 : qa ≠ a := ne_of_none h0 na
          rw [upd_ne n1, upd_ne n2, upd_ne n3, upd_ne n1]
          exact h0
        · have hkl : k < (qs ++ [a]).length := (List.getElem?_eq_some_iff.mp e1).1
          rw [List.length_append, List.length_singleton] at hkl
          have ek : k = qs.length := by omega
          subst ek
          rw [List.getElem?_append_right (Nat.le_refl _), Nat.sub_self] at e1
          rw [hql, List.getElem?_append_right (Nat.le_refl _), Nat.sub_self] at e2
          cases e1
          cases e2
          rw [upd_ne nax, upd_ne naf, upd_same]
      · rw [List.length_append, List.length_singleton]
        omega
      · have e3 : lex (l.drop (j + n)) r (c + n) = lex (l.drop j2) r2 c2 := lex_skip (by rw [sk, es2])
        rw [hlx, hlex, e3, List.append_assoc]
        rfl
      · exact (((s1.put nx).put (s1.free na)).put nfH).put nx
    · have s2 : Same H H2 := by
        rcases eH2 with rfl | ⟨n, rfl⟩
        · exact s1
        · exact s1.put nx
      refine qe ts e r c H2 ?_ s2
      rw [hlx, lex_err (by rw [hs, ed]) est, List.append_nil]
  · have ej : j = l.length := by omega
    subst ej
    rw [decide_eq_true rfl]
    refine iteF ?_
    have nxf : x ≠ f := nfx.symm
    refine ⟨_, rfl, .inl ⟨rfl, _, SqL.of hf⟩, _, rfl, x, _, dx, _, _, rfl, hx, S.cl, S.nr, scF_row, _, rfl, x, _, dx, _, _, rfl, hx, S.cl, S.nc, scF_col, (by show 4 ≤ sizeLine; decide), fun a na => ?_⟩
    have nax : a ≠ x := fun z => by rw [z, hx] at na; cases na
    have naf : a ≠ f := fun z => by rw [z, hf] at na; cases na
    have hf2 : (upd H' a (.tup [V.str ("end" : Str), V.str ("" : Str), V.int r, V.int c])) f = some (.lst (qs.map V.ref)) := by rw [upd_ne naf.symm]; exact hf
    refine ⟨f, _, _, rfl, rfl, hf2, (by rw [List.length_map, hql]; exact Nat.lt_of_le_of_lt htl (Nat.lt_of_le_of_lt hl (by decide))), _, rfl, ?_⟩
    have hend : lex (l.drop l.length) r c = ([⟨.fin, [], r, c⟩], none) := by
      refine lex_end ?_
      rw [hs, List.drop_eq_nil_of_le (Nat.le_refl _)]
    refine q (ts ++ [⟨.fin, [], r, c⟩]) f _ ?_ nfH ((s1.put (s1.free na)).put nfH) ⟨qs ++ [a], ?_, ?_, fun k qa ta e1 e2 => ?_⟩
    · rw [hlx, hend]
    · rw [upd_same, List.map_append]
      rfl
    · rw [List.length_append, List.length_append, hql]
      rfl
    · by_cases hk : k < qs.length
      · rw [List.getElem?_append_left hk] at e1
        rw [List.getElem?_append_left (by omega)] at e2
        have h0 := hqs k qa ta e1 e2
        have n2 : qa ≠ f := ne_of h0 hf (by intro z; cases z)
        have n3 : qa ≠ a := ne_of_none h0 na
        rw [upd_ne n2, upd_ne n3]
        exact h0
      · have hkl : k < (qs ++ [a]).length := (List.getElem?_eq_some_iff.mp e1).1
        rw [List.length_append, List.length_singleton] at hkl
        have ek : k = qs.length := by omega
        subst ek
        rw [List.getElem?_append_right (Nat.le_refl _), Nat.sub_self] at e1
        rw [hql, List.getElem?_append_right (Nat.le_refl _), Nat.sub_self] at e2
        cases e1
        cases e2
        rw [upd_ne naf, upd_same]
        rw [show ("" : Str) = Tx [] by decide +kernel]
        rfl
end
end
end Rm

/-! T0: menus; what stays; trees in the heap. -/
namespace Rm
open PySem PySem.Spec PyProof.Rows L2
/-! ### menus -/
abbrev mS (s : String) : V := .str (Str.ofString s)
def tMenu (vs : List V) : TA := fun _ H Q => Q vs H
theorem menu_s {ss : List String} {j : Int} (h0 : 0 ≤ j) (h1 : j < (ss.length : Int)) : ∃ s ∈ ss, atI (ss.map mS) j = some (mS s) := by
  obtain ⟨n, rfl⟩ : ∃ n : Nat, j = (n : Int) := ⟨j.toNat, by omega⟩
  have hn : n < ss.length := by omega
  refine ⟨ss[n], List.getElem_mem hn, atI_nat ?_⟩
  rw [List.getElem?_map, List.getElem?_eq_getElem hn]
  rfl
/-- a written tuple of texts -/
def tupM (K : PySem.W.Frag) (x : Str) (ss : List String) : Bool := He.tupB K x (ss.map fun s => .str (Str.ofString s))
theorem tupM_ok {K : PySem.W.Frag} {x : Str} {ss : List String} (h : tupM K x ss = true) (H : Hp) : SqT K H (He.ga K x) (ss.map mS) := by
  have q := He.tupB_ok h H
  rw [List.map_map] at q
  exact q
theorem in_strs (L : List Str) (x : Str) : inV (.str x) (L.map V.str) = decide (x ∈ L) := by
  unfold inV
  rw [Bool.eq_iff_iff, List.any_eq_true, decide_eq_true_iff]
  constructor
  · rintro ⟨v, hv, e⟩
    obtain ⟨k, hk, rfl⟩ := List.mem_map.mp hv
    have e : (k == x) = true := e
    rw [← beq_iff_eq.mp e]
    exact hk
  · intro h
    exact ⟨V.str x, List.mem_map.mpr ⟨x, h, rfl⟩, by show (x == x) = true; simp⟩
/-- all that was tracked but the draws is as it was -/
def Kept (d : Addr) (H H' : Hp) : Prop := ∀ b o, b ≠ d → H b = some o → H' b = some o
theorem Kept.refl (d : Addr) (H : Hp) : Kept d H H := fun _ _ _ h => h
theorem Kept.trans {d : Addr} {H H1 H2 : Hp} (a : Kept d H H1) (b : Kept d H1 H2) : Kept d H H2 := fun c o n h => b c o n (a c o n h)
theorem Kept.of_moved {d : Addr} {H H' : Hp} (a : Moved d H H') : Kept d H H' := fun b o n h => (a b n).trans h
theorem Kept.of_same {d : Addr} {H H' : Hp} (a : Same H H') : Kept d H H' := fun b o _ h => a b o h
theorem Kept.put {d a : Addr} {H H' : Hp} {o : HO} (s : Kept d H H') (n : H a = none) : Kept d H (upd H' a o) := fun b u e h => by
  rw [upd_ne (ne_of_none h n)]
  exact s b u e h
theorem Kept.free {d a : Addr} {H H' : Hp} (s : Kept d H H') (hd : ∃ o, H' d = some o) (n : H' a = none) : H a = none := by
  cases e : H a with
  | none => rfl
  | some o =>
    by_cases h : a = d
    · obtain ⟨u, hu⟩ := hd
      rw [h, hu] at n
      cases n
    · rw [s a o h e] at n
      cases n
/-! ### trees in the heap: tuples, texts, ints, None -/
mutual
inductive Tr (H : Hp) : V → PyData → Prop
  | non : Tr H .non .none
  | int (i : Int) : Tr H (.int i) (.int i)
  | str (x : Str) : Tr H (.str x) (.str x)
  | tup {a : Addr} {xs : List V} {ds : List PyData} (h : H a = some (.tup xs)) (r : Trs H xs ds) : Tr H (.ref a) (.tuple ds)
inductive Trs (H : Hp) : List V → List PyData → Prop
  | nil : Trs H [] []
  | cons {v : V} {vs : List V} {d : PyData} {ds : List PyData} (h : Tr H v d) (r : Trs H vs ds) : Trs H (v :: vs) (d :: ds)
end
/-- tuples stay -/
def TK (H H' : Hp) : Prop := ∀ a xs, H a = some (.tup xs) → H' a = some (.tup xs)
mutual
theorem Tr.keep {H H' : Hp} (k : TK H H') : ∀ {v : V} {d : PyData}, Tr H v d → Tr H' v d
  | _, _, .non => .non
  | _, _, .int i => .int i
  | _, _, .str x => .str x
  | _, _, .tup h r => .tup (k _ _ h) (r.keep k)
theorem Trs.keep {H H' : Hp} (k : TK H H') : ∀ {vs : List V} {ds : List PyData}, Trs H vs ds → Trs H' vs ds
  | _, _, .nil => .nil
  | _, _, .cons h r => .cons (h.keep k) (r.keep k)
end
mutual
theorem Tr.dp {K : PySem.W.Frag} {H : Hp} : ∀ {v : V} {d : PyData}, Tr H v d → Dp K H v d
  | _, _, .non => .non
  | _, _, .int i => .int i
  | _, _, .str x => .str x
  | _, _, .tup h r => .tup (SqT.of h) r.dp
theorem Trs.dp {K : PySem.W.Frag} {H : Hp} : ∀ {vs : List V} {ds : List PyData}, Trs H vs ds → DpAll K H vs ds
  | _, _, .nil => .nil
  | _, _, .cons h r => .cons h.dp r.dp
end
theorem Trs.snoc {H : Hp} {v : V} {d : PyData} (h : Tr H v d) : ∀ {vs : List V} {ds : List PyData}, Trs H vs ds → Trs H (vs ++ [v]) (ds ++ [d])
  | _, _, .nil => .cons h .nil
  | _, _, .cons h1 r => .cons h1 (r.snoc h)
theorem TK.trans {H H1 H2 : Hp} (a : TK H H1) (b : TK H1 H2) : TK H H2 := fun c xs h => b c xs (a c xs h)
theorem TK.new {a : Addr} {H : Hp} {o : HO} (n : H a = none) : TK H (upd H a o) := fun b xs h => by
  rw [upd_ne (ne_of_none h n)]
  exact h
end Rm

/-! L00: the first law's own defs: promises, readings (by gen.py), runs. -/
namespace Rm
open PySem PySem.Spec PyProof.Rows L2 Lx
/-! ### menus -/
theorem mS_eq (s : String) : mS s = .str (Tx (codes s)) := congrArg V.str (Tx_of s)
theorem menu_at {ss : List String} {j : Int} (h0 : 0 ≤ j) (h1 : j < (ss.length : Int)) : ∃ s ∈ ss, atI (ss.map mS) j = some (.str (Tx (codes s))) := by
  obtain ⟨n, rfl⟩ : ∃ n : Nat, j = (n : Int) := ⟨j.toNat, by omega⟩
  have hn : n < ss.length := by omega
  refine ⟨ss[n], List.getElem_mem hn, atI_nat ?_⟩
  rw [List.getElem?_map, List.getElem?_eq_getElem hn, ← mS_eq]
  rfl
/-! ### good words, and what may follow them -/
def aloneL : List (List Nat) := ["{", "}", "(", ")", ",", ";", ".", "+", "-", "*"].map codes
def aloneW (w : List Nat) : Bool := decide (w ∈ aloneL)
/-- what may stand behind a word that joins: nothing, a gap, a sign that joins with nothing -/
def headOk (l : List Nat) : Bool := match l with
  | [] => true
  | y :: _ => y == 10 || (y == 32 || (y == 35 || aloneW [y]))
def Bd (w rest : List Nat) : Prop := aloneW w = true ∨ headOk rest = true
def goodTok (k : Kd) (w : List Nat) : Bool := match w with
  | [] => false
  | x :: xs => match k with
    | .name => isLet x && ((x :: xs).all isWP && decide (kindOf (x :: xs) = .name))
    | .keyword => isLet x && ((x :: xs).all isWP && decide (kindOf (x :: xs) = .keyword))
    | .number => !isLet x && (isDig x && ((x :: xs).all isWP && isNum (x :: xs)))
    | .sign => !isLet x && (!isDig x && (x != 10 && (x != 32 && (x != 35 && ((decide ((x :: xs) ∈ longL)) || (decide ((x :: xs) ∈ shortL) && (aloneW (x :: xs) || (x == 60 || x == 61))))))))
    | .fin => false
theorem all_takeWhile {p : Nat → Bool} : ∀ {w rest : List Nat}, w.all p = true → (rest = [] ∨ ∃ y ys, rest = y :: ys ∧ p y = false) → (w ++ rest).takeWhile p = w
  | [], rest, _, h => by
    rcases h with rfl | ⟨y, ys, rfl, e⟩
    · rfl
    · show (y :: ys).takeWhile p = []
      rw [List.takeWhile_cons, e]
      rfl
  | x :: xs, rest, hw, h => by
    have hw' := Bool.and_eq_true_iff.mp (show (p x && xs.all p) = true from hw)
    show (x :: (xs ++ rest)).takeWhile p = _
    rw [List.takeWhile_cons, if_pos hw'.1, all_takeWhile hw'.2 h]
theorem headOk_noWP {rest : List Nat} (h : headOk rest = true) : rest = [] ∨ ∃ y ys, rest = y :: ys ∧ isWP y = false := by
  cases rest with
  | nil => exact .inl rfl
  | cons y ys =>
    refine .inr ⟨y, ys, rfl, ?_⟩
    have h : (y == 10 || (y == 32 || (y == 35 || aloneW [y]))) = true := h
    rw [Bool.or_eq_true, Bool.or_eq_true, Bool.or_eq_true, beq_iff_eq, beq_iff_eq, beq_iff_eq] at h
    rcases h with rfl | rfl | rfl | h
    · rfl
    · rfl
    · rfl
    · have e : ∀ w ∈ aloneL, ∀ y, w = [y] → isWP y = false := by
        intro w hw
        have q : ∀ w ∈ aloneL, (w.all fun y => !isWP y) = true := by decide +kernel
        intro y hy
        have := q w hw
        rw [hy] at this
        simpa using this
      exact e _ (of_decide_eq_true h) y rfl
theorem alone_sign {w : List Nat} (h : aloneW w = true) : ∃ x, w = [x] ∧ isWP x = false ∧ x ≠ 60 ∧ x ≠ 61 ∧ x ≠ 58 := by
  have q : ∀ w ∈ aloneL, w.length = 1 ∧ (w.all fun x => !isWP x && (x != 60 && (x != 61 && x != 58))) = true := by decide +kernel
  obtain ⟨h1, h2⟩ := q w (of_decide_eq_true h)
  match w, h1 with
  | [x], _ =>
    refine ⟨x, rfl, ?_⟩
    simpa using h2
theorem long_heads {w : List Nat} (h : w ∈ longL) : ∃ x, w = [x, 61] ∧ (x = 58 ∨ x = 61 ∨ x = 60) := by
  have q : longL = [[58, 61], [61, 61], [60, 61]] := by decide +kernel
  rw [q] at h
  simp only [List.mem_cons, List.not_mem_nil, or_false] at h
  rcases h with rfl | rfl | rfl
  · exact ⟨58, rfl, .inl rfl⟩
  · exact ⟨61, rfl, .inr (.inl rfl)⟩
  · exact ⟨60, rfl, .inr (.inr rfl)⟩
theorem headOk_no61 {rest : List Nat} (h : headOk rest = true) : ∀ x, ¬ (x :: rest).take 2 = [x, 61] := by
  intro x e
  cases rest with
  | nil => cases e
  | cons y ys =>
    have ey : y = 61 := by
      have := congrArg (fun l : List Nat => l[1]?) e
      simpa using this
    subst ey
    have h : ((61 : Nat) == 10 || ((61 : Nat) == 32 || ((61 : Nat) == 35 || aloneW [61]))) = true := h
    exact absurd h (by decide +kernel)
/-- THE STEP: a good word with what may follow is one token -/
theorem tok_step {k : Kd} {w rest : List Nat} (r c : Int) (hg : goodTok k w = true) (hb : Bd w rest) : ∃ x xs, w ++ rest = x :: xs ∧ (x ≠ 10 ∧ x ≠ 32 ∧ x ≠ 35) ∧ Lx.step x xs r c = .ok (⟨k, w, r, c⟩, rest, r, c + w.length) := by
  cases w with
  | nil => cases hg
  | cons x xs =>
    refine ⟨x, xs ++ rest, rfl, ?_⟩
    have wordCase : (x :: xs).all isWP = true → isWP x = true ∧ headOk rest = true ∧ word (x :: (xs ++ rest)) = x :: xs ∧ (x :: (xs ++ rest)).drop (x :: xs).length = rest := fun ha => by
      have hx : isWP x = true := (Bool.and_eq_true_iff.mp (show (isWP x && xs.all isWP) = true from ha)).1
      have hr : headOk rest = true := by
        rcases hb with hb | hb
        · obtain ⟨y, e, e2, _⟩ := alone_sign hb
          cases e
          rw [hx] at e2
          cases e2
        · exact hb
      exact ⟨hx, hr, all_takeWhile (w := x :: xs) ha (headOk_noWP hr), List.drop_left (l₁ := x :: xs)⟩
    have ngap : isWP x = true → x ≠ 10 ∧ x ≠ 32 ∧ x ≠ 35 := fun hx => by
      refine ⟨?_, ?_, ?_⟩ <;> (rintro rfl; revert hx; decide)
    cases k with
    | fin => cases hg
    | name =>
      have hg : (isLet x && ((x :: xs).all isWP && decide (kindOf (x :: xs) = .name))) = true := hg
      rw [Bool.and_eq_true, Bool.and_eq_true] at hg
      obtain ⟨h1, h2, h3⟩ := hg
      obtain ⟨hx, hr, hw, hd⟩ := wordCase h2
      refine ⟨ngap hx, ?_⟩
      unfold Lx.step
      rw [if_pos h1, hw, of_decide_eq_true h3, hd]
    | keyword =>
      have hg : (isLet x && ((x :: xs).all isWP && decide (kindOf (x :: xs) = .keyword))) = true := hg
      rw [Bool.and_eq_true, Bool.and_eq_true] at hg
      obtain ⟨h1, h2, h3⟩ := hg
      obtain ⟨hx, hr, hw, hd⟩ := wordCase h2
      refine ⟨ngap hx, ?_⟩
      unfold Lx.step
      rw [if_pos h1, hw, of_decide_eq_true h3, hd]
    | number =>
      have hg : (!isLet x && (isDig x && ((x :: xs).all isWP && isNum (x :: xs)))) = true := hg
      rw [Bool.and_eq_true, Bool.and_eq_true, Bool.and_eq_true] at hg
      obtain ⟨h1, h2, h3, h4⟩ := hg
      have h1 : isLet x = false := by simpa using h1
      obtain ⟨hx, hr, hw, hd⟩ := wordCase h3
      refine ⟨ngap hx, ?_⟩
      unfold Lx.step
      rw [if_neg (by rw [h1]; exact Bool.false_ne_true), if_pos h2, hw, if_pos h4, hd]
    | sign =>
      have hg : (!isLet x && (!isDig x && (x != 10 && (x != 32 && (x != 35 && ((decide ((x :: xs) ∈ longL)) || (decide ((x :: xs) ∈ shortL) && (aloneW (x :: xs) || (x == 60 || x == 61)))))))) ) = true := hg
      rw [Bool.and_eq_true, Bool.and_eq_true, Bool.and_eq_true, Bool.and_eq_true, Bool.and_eq_true, Bool.or_eq_true, Bool.and_eq_true] at hg
      obtain ⟨h1, h2, g1, g2, g3, h3⟩ := hg
      have h1 : isLet x = false := by simpa using h1
      have h2 : isDig x = false := by simpa using h2
      refine ⟨⟨by simpa using g1, by simpa using g2, by simpa using g3⟩, ?_⟩
      unfold Lx.step
      rw [if_neg (by rw [h1]; exact Bool.false_ne_true), if_neg (by rw [h2]; exact Bool.false_ne_true)]
      rcases h3 with h3 | ⟨h3, h4⟩
      · have h3 := of_decide_eq_true h3
        obtain ⟨y, e, _⟩ := long_heads h3
        cases e
        rw [if_pos (by exact h3)]
        rfl
      · have h3 := of_decide_eq_true h3
        have e1 : xs = [] := by
          have q : ∀ w ∈ shortL, w.length = 1 := by decide +kernel
          have := q _ h3
          exact List.eq_nil_of_length_eq_zero (by simpa using this)
        subst e1
        have nl : ¬ (x :: ([] ++ rest)).take 2 ∈ longL := fun hm => by
          rcases Bool.or_eq_true_iff.mp h4 with h4 | h4
          · obtain ⟨y, e, e2, e3, e4, e5⟩ := alone_sign h4
            cases e
            obtain ⟨z, ez, hz⟩ := long_heads hm
            have : x = z := by
              have := congrArg (fun l : List Nat => l[0]?) ez
              simpa using this
            omega
          · rcases hb with hb | hb
            · obtain ⟨y, e, e2, e3, e4, e5⟩ := alone_sign hb
              cases e
              rw [Bool.or_eq_true, beq_iff_eq, beq_iff_eq] at h4
              omega
            · obtain ⟨z, ez, hz⟩ := long_heads hm
              have ex : x = z := by
                have := congrArg (fun l : List Nat => l[0]?) ez
                simpa using this
              subst ex
              exact headOk_no61 hb x ez
        rw [if_neg nl, if_pos h3]
        rfl
theorem adv_tok {k : Kd} {w : List Nat} (hg : goodTok k w = true) (hn : 10 ∉ w) (r c : Int) : adv w r c = (r, c + w.length) := adv_flat w r c hn
/-- the scanner over a good word with what may follow -/
theorem lex_word {k : Kd} {w rest : List Nat} (r c : Int) (hg : goodTok k w = true) (hb : Bd w rest) : lex (w ++ rest) r c = (⟨k, w, r, c⟩ :: (lex rest r (c + w.length)).1, (lex rest r (c + w.length)).2) := by
  obtain ⟨x, xs, e, hne, hs⟩ := tok_step r c hg hb
  refine lex_tok (x := x) (xs := xs) ?_ hs
  rw [e]
  exact skip_here hne
/-- gaps and perhaps a comment, to the end of the text -/
def endB : Bool → List Nat → Bool
  | _, [] => true
  | true, x :: xs => if x = 10 then endB false xs else endB true xs
  | false, x :: xs => if x = 10 then endB false xs else if x = 32 then endB false xs else if x = 35 then endB true xs else false
theorem endB_ok : ∀ (b : Bool) (g : List Nat), endB b g = true → ∀ (r c : Int), skip b g r c = ([], (adv g r c).1, (adv g r c).2)
  | true, [], h, r, c => rfl
  | false, [], h, r, c => rfl
  | true, x :: xs, h, r, c => by
    rw [skip, adv]
    rw [endB] at h
    by_cases e : x = 10
    · rw [if_pos e] at h ⊢; rw [if_pos e]; exact endB_ok false xs h _ _
    · rw [if_neg e] at h ⊢; rw [if_neg e]; exact endB_ok true xs h _ _
  | false, x :: xs, h, r, c => by
    rw [skip, adv]
    rw [endB] at h
    by_cases e : x = 10
    · rw [if_pos e] at h ⊢; rw [if_pos e]; exact endB_ok false xs h _ _
    · rw [if_neg e] at h ⊢; rw [if_neg e]
      by_cases e2 : x = 32
      · rw [if_pos e2] at h ⊢; exact endB_ok false xs h _ _
      · rw [if_neg e2] at h ⊢
        by_cases e3 : x = 35
        · rw [if_pos e3] at h ⊢; exact endB_ok true xs h _ _
        · rw [if_neg e3] at h; cases h
/-! ### the tokens as data -/
def tkD (t : Tk) : PyData := .tuple [.str (kdS t.kind), .str (Tx t.text), .int t.row, .int t.col]
def okTk (t : Tk) : Bool := PyData.strOk (Tx t.text)
theorem kdS_ok (k : Kd) : PyData.strOk (kdS k) = true := by cases k <;> decide +kernel
theorem tkD_lay {ts : List Tk} (h : ∀ t ∈ ts, okTk t = true) : PyData.canLayAll0 (ts.map tkD) = true := by
  induction ts with
  | nil => rfl
  | cons t ts ih =>
    have h1 : PyData.strOk (Tx t.text) = true := h t List.mem_cons_self
    show (PyData.canLay0 (tkD t) && PyData.canLayAll0 (ts.map tkD)) = true
    rw [ih fun t ht => h t (List.mem_cons_of_mem _ ht), Bool.and_true]
    simp [tkD, PyData.canLay0, PyData.canLayAll0, h1, kdS_ok]
theorem tkD_depth (ts : List Tk) : PyData.depthAll (ts.map tkD) ≤ 1 := by
  induction ts with
  | nil => exact Nat.zero_le _
  | cons t ts ih =>
    show max (PyData.depth (tkD t)) (PyData.depthAll (ts.map tkD)) ≤ 1
    have : PyData.depth (tkD t) = 1 := by simp [tkD, PyData.depth, PyData.depthAll]
    omega
theorem shaped_tks {ts : List Tk} (h : ∀ t ∈ ts, okTk t = true) : SeqAt.shaped (.list (ts.map tkD)) = true := by
  unfold SeqAt.shaped
  have d := tkD_depth ts
  rw [show PyData.canLay0 (.list (ts.map tkD)) = PyData.canLayAll0 (ts.map tkD) by simp [PyData.canLay0], tkD_lay h, Bool.true_and]
  exact decide_eq_true (by simp only [PyData.depth]; omega)
theorem dp_tks {K : PySem.W.Frag} {H : Hp} : ∀ {qs : List Addr} {ts : List Tk}, qs.length = ts.length → (∀ (k : Nat) (q : Addr) (t : Tk), qs[k]? = some q → ts[k]? = some t → H q = some (.tup (tkV t))) → DpAll K H (qs.map V.ref) (ts.map tkD)
  | [], [], _, _ => .nil
  | q :: qs, t :: ts, hl, h => by
    refine .cons (.tup (SqT.of (h 0 q t rfl rfl)) (.cons (.str _) (.cons (.str _) (.cons (.int _) (.cons (.int _) .nil))))) (dp_tks (by simpa using hl) fun k q' t' e1 e2 => h (k + 1) q' t' (by simpa using e1) (by simpa using e2))
  | [], _ :: _, hl, _ => by cases hl
  | _ :: _, [], hl, _ => by cases hl
theorem TksAt.dp {K : PySem.W.Frag} {H : Hp} {p : Addr} {ts : List Tk} (h : TksAt H p ts) : Dp K H (.ref p) (.list (ts.map tkD)) := by
  obtain ⟨qs, h1, h2, h3⟩ := h
  exact .lst (SqL.of h1) (dp_tks h2 h3)
theorem TksAt.kept {H H' : Hp} {p : Addr} {ts : List Tk} (h : TksAt H p ts) (k : ∀ b o, H b = some o → (∀ kvs, o ≠ .dK kvs) → H' b = some o) : TksAt H' p ts := by
  obtain ⟨qs, h1, h2, h3⟩ := h
  exact ⟨qs, k _ _ h1 (fun _ z => by cases z), h2, fun i q t e1 e2 => k _ _ (h3 i q t e1 e2) (fun _ z => by cases z)⟩
/-! ### promises -/
def kwS : List String := ["method", "main", "object", "const", "var", "parent", "let", "print", "return", "if", "else", "while", "put", "drop", "resend", "fn", "call", "self", "true", "false", "nothing", "div", "mod"]
def sp_l_keywords (K : PySem.W.Frag) : Sp := fun vs H Q _ => vs = [] ∧ ∀ (p : Addr) (H' : Hp), Same H H' → H p = none → H' p = some (.lst (kwS.map mS)) → Q (.ref p) H'
def sp_l_word (K : PySem.W.Frag) : Sp := fun vs H Q _ => ∃ (d r : Addr), vs = [.ref d] ∧ Draws H d r ∧ ∀ (q : Addr) (H' : Hp) (k : Kd) (w : List Nat), Kept d H H' → Draws H' d r → H q = none → H' q = some (.tup [.str (kdS k), .str (Tx w)]) →
  goodTok k w = true → 10 ∉ w → w.length ≤ 40 → PyData.strOk (Tx w) = true → Q (.ref q) H'
def sp_l_alone (K : PySem.W.Frag) : Sp := fun vs H Q _ => ∃ w : List Nat, vs = [.str (Tx w)] ∧ ∀ H', Same H H' → Q (.bl (aloneW w)) H'
def sp_l_between (K : PySem.W.Frag) : Sp := fun vs H Q _ => ∃ (d r : Addr), vs = [.ref d] ∧ Draws H d r ∧ ∀ (H' : Hp) (g : List Nat), Kept d H H' → Draws H' d r → gapB false g = true → g ≠ [] → g.length ≤ 40 → headOk g = true → Q (.str (Tx g)) H'
def sp_l_place (K : PySem.W.Frag) : Sp := fun vs H Q _ => ∃ l : List Nat, vs = [.str (Tx l)] ∧ l.length ≤ 10000000 ∧ ∀ (q : Addr) (H' : Hp), Same H H' → H q = none → H' q = some (.tup [.int (adv l 1 1).1, .int (adv l 1 1).2]) → Q (.ref q) H'
/-! ### readings -/

def ns_l_keywords : List Str := ["words"]
def t_l_keywords (K : PySem.W.Frag) (E : XK) : TS :=
  (tSeq (tAsg (tLst (tMenu (["method", "main", "object", "const", "var", "parent", "let", "print", "return", "if", "else", "while"].map mS))) (gName 0))
    (tRet (tOp rCat (tVar 0) (tLst (tMenu (["put", "drop", "resend", "fn", "call", "self", "true", "false", "nothing", "div", "mod"].map mS))))))

def ns_l_word : List Str := ["draws", "pick", "names"]
def t_l_word (K : PySem.W.Frag) (E : XK) : TS :=
  (tSeq (tAsg (tCall (sp_l_pick K) [] E (tCons (tVar 0) (tCons (tC (.int 9)) tNil))) (gName 1))
    (tSeq (tIfS (tTest (tOp rLtI (tVar 1) (tC (.int 2))))
      (tSeq (tAsg (tLst (tMenu (["a", "X1", "go_", "a_b", "ifx", "fn2", "letter", "calls", "z9", "Main", "divide", "truer", "Self"].map mS))) (gName 2))
    (tRet (tTup (tCons (tC (.str ("name" : Str))) (tCons (tOp (rIxL K) (tVar 2) (tCall (sp_l_pick K) [] E (tCons (tVar 0) (tCons (tC (.int 13)) tNil)))) tNil)))))
      tNext)
    (tSeq (tIfS (tTest (tOp rEq (tVar 1) (tC (.int 2))))
      (tRet (tTup (tCons (tC (.str ("number" : Str))) (tCons (tOp (rIxL K) (tLst (tMenu (["0", "7", "10", "1000000000000", "999999999999", "12345", "90"].map mS))) (tCall (sp_l_pick K) [] E (tCons (tVar 0) (tCons (tC (.int 7)) tNil)))) tNil))))
      tNext)
    (tSeq (tIfS (tTest (tOp rLtI (tVar 1) (tC (.int 5))))
      (tRet (tTup (tCons (tC (.str ("keyword" : Str))) (tCons (tOp (rIxL K) (tCall (sp_l_keywords K) [] E tNil) (tCall (sp_l_pick K) [] E (tCons (tVar 0) (tCons (tC (.int 23)) tNil)))) tNil))))
      tNext)
    (tSeq (tIfS (tTest (tOp rLtI (tVar 1) (tC (.int 7))))
      (tRet (tTup (tCons (tC (.str ("sign" : Str))) (tCons (tOp (rIxL K) (tLst (tMenu (["=", ":=", "==", "<", "<="].map mS))) (tCall (sp_l_pick K) [] E (tCons (tVar 0) (tCons (tC (.int 5)) tNil)))) tNil))))
      tNext)
    (tRet (tTup (tCons (tC (.str ("sign" : Str))) (tCons (tOp (rIxL K) (tLst (tMenu (["{", "}", "(", ")", ",", ";", ".", "+", "-", "*"].map mS))) (tCall (sp_l_pick K) [] E (tCons (tVar 0) (tCons (tC (.int 10)) tNil)))) tNil)))))))))

def ns_l_alone : List Str := ["text"]
def t_l_alone (K : PySem.W.Frag) (E : XK) : TS :=
  (tRet (tOp (rIn K false) (tVar 0) (tTup (tMenu (["{", "}", "(", ")", ",", ";", ".", "+", "-", "*"].map mS)))))

def ns_l_between : List Str := ["draws", "first", "more"]
def t_l_between (K : PySem.W.Frag) (E : XK) : TS :=
  (tSeq (tAsg (tOp (rIxL K) (tLst (tMenu ([" ", "\n", "  ", "# a _ comment := main!", " "].map mS))) (tCall (sp_l_pick K) [] E (tCons (tVar 0) (tCons (tC (.int 5)) tNil)))) (gName 1))
    (tSeq (tAsg (tOp (rIxL K) (tLst (tMenu (["", "", "", "\n", "#\n ", "\n   ", "#x\n\n"].map mS))) (tCall (sp_l_pick K) [] E (tCons (tVar 0) (tCons (tC (.int 7)) tNil)))) (gName 2))
    (tSeq (tIfS (tTest (tOp rEq (tOp rIxS (tVar 1) (tC (.int 0))) (tC (.str ("#" : Str)))))
      (tAsg (tC (.str ("\n" : Str))) (gName 2))
      tNext)
    (tRet (tOp rCatS (tVar 1) (tVar 2))))))

def ns_l_place : List Str := ["text"]
def t_l_place (K : PySem.W.Frag) (E : XK) : TS :=
  (tRet (tTup (tCons (tOp rAddI (tBM K "str" rCount (tVar 0) (tCons (tC (.str ("\n" : Str))) tNil)) (tC (.int 1))) (tCons (tOp rSubI (tCB rLenS (tCons (tVar 0) tNil)) (tBM K "str" rRfind (tVar 0) (tCons (tC (.str ("\n" : Str))) tNil))) tNil))))

def ns_law : List Str := ["script", "draws", "text", "due", "last", "k", "kind", "word", "between", "row", "column", "actual"]
def t_law (K : PySem.W.Frag) (EW : EWT) (E : XK) : TS :=
  (tSeq (tAsg (tCall (sp_l_stream K) [] E (tCons (tVar 0) (tCons (tC (.int 300)) tNil))) (gName 1))
    (tSeq (tAsg (tOp (rIxL K) (tLst (tMenu (["", "", " ", "\n", "# begin\n  "].map mS))) (tCall (sp_l_pick K) [] E (tCons (tVar 1) (tCons (tC (.int 5)) tNil)))) (gName 2))
    (tSeq (tAsg (tLst tNil) (gName 3))
    (tSeq (tAsg (tC (.str ("(" : Str))) (gName 4))
    (tSeq (tFor (iRng1 (tCons (tCB rMin2 (tCons (tC (.int 120)) (tCons (tOp rAddI (tC (.int 1)) (tOp rFdivI (tCB (rLen K) (tCons (tDGet (tVar 1) (tC (.str ("row" : Str)))) tNil)) (tC (.int 3)))) tNil))) tNil)) (gName 5)
      (tSeq (tAsg (tCall (sp_l_word K) [] E (tCons (tVar 1) tNil)) (gTup K 2 (gCons (gName 6) (gCons (gName 7) gNil))))
    (tSeq (tIfS (tOr (tNot (tOr (tB (tCall (sp_l_alone K) [] E (tCons (tVar 4) tNil))) (tB (tCall (sp_l_alone K) [] E (tCons (tVar 7) tNil))))) (tTest (tOp rEq (tCall (sp_l_pick K) [] E (tCons (tVar 1) (tCons (tC (.int 3)) tNil))) (tC (.int 0)))))
      (tIfS (tTest (tOp rGtI (tVar 5) (tC (.int 0))))
      (tSeq (tAsg (tCall (sp_l_between K) [] E (tCons (tVar 1) tNil)) (gName 8))
    (tSeq (tAsg (tOp rCatS (tVar 2) (tVar 8)) (gName 2))
    (tIfS (tAnd (tTest (tOp rInSign (tC (.str ("#" : Str))) (tVar 8))) (tTest (tOp (rIn K true) (tOp rIxS (tVar 8) (tUn rNegI (tC (.int 1)))) (tTup (tCons (tC (.str (" " : Str))) (tCons (tC (.str ("\n" : Str))) tNil))))))
      (tAsg (tOp rCatS (tVar 2) (tC (.str ("\n" : Str)))) (gName 2))
      tNext)))
      tNext)
      tNext)
    (tSeq (tAsg (tCall (sp_l_place K) [] E (tCons (tVar 2) tNil)) (gTup K 2 (gCons (gName 9) (gCons (gName 10) gNil))))
    (tSeq (tDrop (tBM K "list" rAppend (tVar 3) (tCons (tTup (tCons (tVar 6) (tCons (tVar 7) (tCons (tVar 9) (tCons (tVar 10) tNil))))) tNil)))
    (tSeq (tAsg (tOp rCatS (tVar 2) (tVar 7)) (gName 2))
    (tAsg (tVar 7) (gName 4))))))))
    (tSeq (tAsg (tOp rCatS (tVar 2) (tOp (rIxL K) (tLst (tMenu (["", " ", "\n", "\n  ", " # the end"].map mS))) (tCall (sp_l_pick K) [] E (tCons (tVar 1) (tCons (tC (.int 5)) tNil))))) (gName 2))
    (tSeq (tAsg (tCall (sp_l_place K) [] E (tCons (tVar 2) tNil)) (gTup K 2 (gCons (gName 9) (gCons (gName 10) gNil))))
    (tSeq (tDrop (tBM K "list" rAppend (tVar 3) (tCons (tTup (tCons (tC (.str ("end" : Str))) (tCons (tC (.str ("" : Str))) (tCons (tVar 9) (tCons (tVar 10) tNil))))) tNil)))
    (tSeq (tAsg (tCall (sp_tokens K EW) [] E (tCons (tVar 2) tNil)) (gName 11))
    (tSeq (tIfS (tOr (tNot (tB (tCB (rIsi K) (tCons (tVar 11) (tCons (tC (.ty "list")) tNil))))) (tTest (tOp (rNeD K) (tVar 11) (tVar 3))))
      (tRet (tC (.bl false)))
      tNext)
    (tRet (tAndV (tOp (rEqD K) (tC (.ref (He.ga K ("KEYWORDS" : Str)))) (tCB (rTupleOf K) (tCons (tCall (sp_l_keywords K) [] E tNil) tNil))) (tOp (rEqD K) (tCall (sp_tokens K EW) [] E (tCons (tC (.str ("" : Str))) tNil)) (tLst (tCons (tTup (tCons (tC (.str ("end" : Str))) (tCons (tC (.str ("" : Str))) (tCons (tC (.int 1)) (tCons (tC (.int 1)) tNil))))) tNil)))))))))))))))

/-! ### runs of the law's own defs -/
section
variable {K : PySem.W.Frag} {vs : List V} {H : Hp} {Q : VK} {E : XK}
theorem run_l_keywords (h : sp_l_keywords K vs H Q E) : t_l_keywords K E (DQ Q) (start ns_l_keywords vs) H := by
  obtain ⟨rfl, q⟩ := h
  refine ⟨(by show 12 ≤ sizeLine; decide), fun p np => ?_⟩
  refine ⟨_, rfl, (by show 11 ≤ sizeLine; decide), fun p2 np2 => ?_⟩
  have n21 : p2 ≠ p := fun z => by rw [z, upd_same] at np2; cases np2
  have np2H : H p2 = none := by rw [upd_ne n21] at np2; exact np2
  refine ⟨p, p2, _, _, rfl, rfl, (by rw [upd_ne n21.symm, upd_same]), upd_same, (by show 23 ≤ sizeLine; decide), fun p3 np3 => ?_⟩
  have n31 : p3 ≠ p := fun z => by rw [z, upd_ne n21.symm, upd_same] at np3; cases np3
  have n32 : p3 ≠ p2 := fun z => by rw [z, upd_same] at np3; cases np3
  have np3H : H p3 = none := by rw [upd_ne n32, upd_ne n31] at np3; exact np3
  exact q p3 _ ((((Same.refl H).put np).put np2H).put np3H) np3H upd_same
theorem run_l_alone (h : sp_l_alone K vs H Q E) : t_l_alone K E (DQ Q) (start ns_l_alone vs) H := by
  obtain ⟨w, rfl, q⟩ := h
  refine ⟨_, rfl, (by show 10 ≤ sizeLine; decide), fun p np => ⟨_, _, rfl, .inr (SqT.of upd_same), rfl, rfl, ?_⟩⟩
  rw [if_neg Bool.false_ne_true, show ["{", "}", "(", ")", ",", ";", ".", "+", "-", "*"].map mS = aloneL.map (fun k => V.str (Tx k)) by unfold aloneL; rw [List.map_map]; exact List.map_congr_left fun s _ => mS_eq s, in_list]
  exact q _ ((Same.refl H).put np)
theorem run_l_place (h : sp_l_place K vs H Q E) : t_l_place K E (DQ Q) (start ns_l_place vs) H := by
  obtain ⟨l, rfl, hl, q⟩ := h
  obtain ⟨e1, e2⟩ := place_ok l
  refine ⟨_, rfl, rfl, _, _, rfl, rfl, _, _, rfl, rfl, _, rfl, _, rfl, small_len hl, _, rfl, rfl, _, _, rfl, rfl, _, _, rfl, rfl, (by show 2 ≤ sizeLine; decide), fun p np => ?_⟩
  refine q p _ ((Same.refl H).put np) np ?_
  rw [upd_same, ← e1, ← e2]
  rfl
/-- one item of a menu, by a draw -/
theorem run_l_word (h : sp_l_word K vs H Q E) : t_l_word K E (DQ Q) (start ns_l_word vs) H := by
  obtain ⟨d, r, rfl, hD, q⟩ := h
  refine ⟨_, rfl, d, 9, rfl, by decide, r, hD, fun j1 H1 j10 j19 D1 M1 => ?_⟩
  have K1 := Kept.of_moved M1
  have fin : ∀ (k : Kd) (ss : List String) (j : Int) (H2 : Hp), Kept d H H2 → Draws H2 d r → (∀ s ∈ ss, goodTok k (codes s) = true ∧ 10 ∉ codes s ∧ (codes s).length ≤ 40 ∧ PyData.strOk (Tx (codes s)) = true) → 0 ≤ j → j < (ss.length : Int) →
      ∃ v, atI (ss.map mS) j = some v ∧ ∀ p, H2 p = none → Q (.ref p) (upd H2 p (.tup [V.str (kdS k), v])) := fun k ss j H2 K2 D2 hs j0 j1 => by
    obtain ⟨s, hm, e⟩ := menu_at j0 j1
    obtain ⟨g1, g2, g3, g4⟩ := hs s hm
    exact ⟨_, e, fun p np => q p _ k (codes s) (K2.put (K2.free D2.atD np)) (D2.fresh np) (K2.free D2.atD np) upd_same g1 g2 g3 g4⟩
  refine ⟨_, rfl, _, _, rfl, rfl, _, rfl, ?_⟩
  refine ite2 (fun _ => ?_) (fun _ => ?_)
  · refine ⟨(by show 13 ≤ sizeLine; decide), fun p np => ?_⟩
    have D2 : Draws (upd H1 p (.lst (["a", "X1", "go_", "a_b", "ifx", "fn2", "letter", "calls", "z9", "Main", "divide", "truer", "Self"].map mS))) d r := D1.fresh np
    refine ⟨_, rfl, _, rfl, d, 13, rfl, by decide, r, D2, fun j H3 j0 j1 D3 M3 => ?_⟩
    have K3 : Kept d H H3 := (K1.put (K1.free D1.atD np)).trans (Kept.of_moved M3)
    have hp : H3 p = some (.lst (["a", "X1", "go_", "a_b", "ifx", "fn2", "letter", "calls", "z9", "Main", "divide", "truer", "Self"].map mS)) := (M3 p (Ne.symm (D1.neD np))).trans upd_same
    obtain ⟨v, e, f⟩ := fin .name ["a", "X1", "go_", "a_b", "ifx", "fn2", "letter", "calls", "z9", "Main", "divide", "truer", "Self"] j H3 K3 D3 (by decide +kernel) j0 j1
    exact ⟨p, _, _, v, rfl, rfl, SqL.of hp, e, (by show 2 ≤ sizeLine; decide), f⟩
  · have menu : ∀ (k : Kd) (ss : List String) (m : Int), m = (ss.length : Int) → ss.length ≤ 100 → 0 < m → (∀ s ∈ ss, goodTok k (codes s) = true ∧ 10 ∉ codes s ∧ (codes s).length ≤ 40 ∧ PyData.strOk (Tx (codes s)) = true) →
        (tRet (tTup (tCons (tC (.str (kdS k))) (tCons (tOp (rIxL K) (tLst (tMenu (ss.map mS))) (tCall (sp_l_pick K) [] E (tCons (tVar 0) (tCons (tC (.int m)) tNil)))) tNil)))) (DQ Q) [some (.ref d), some (.int j1), none] H1 := fun k ss m hm hl hpos hs => by
      refine ⟨?_, fun p np => ?_⟩
      · show (ss.map mS).length ≤ sizeLine
        rw [List.length_map]
        exact Nat.le_trans hl (by decide)
      · have D2 : Draws (upd H1 p (.lst (ss.map mS))) d r := D1.fresh np
        refine ⟨_, rfl, d, m, rfl, hpos, r, D2, fun j H3 j0 j1 D3 M3 => ?_⟩
        have K3 : Kept d H H3 := (K1.put (K1.free D1.atD np)).trans (Kept.of_moved M3)
        have hp : H3 p = some (.lst (ss.map mS)) := (M3 p (Ne.symm (D1.neD np))).trans upd_same
        obtain ⟨v, e, f⟩ := fin k ss j H3 K3 D3 hs j0 (by rw [← hm]; exact j1)
        exact ⟨p, _, _, v, rfl, rfl, SqL.of hp, e, (by show 2 ≤ sizeLine; decide), f⟩
    refine ⟨_, rfl, rfl, _, rfl, ?_⟩
    refine ite2 (fun _ => ?_) (fun _ => ?_)
    · exact menu .number _ 7 rfl (by decide) (by decide) (by decide +kernel)
    · refine ⟨_, rfl, _, _, rfl, rfl, _, rfl, ?_⟩
      refine ite2 (fun _ => ?_) (fun _ => ?_)
      · refine ⟨rfl, fun p H2 s2 np hp => ?_⟩
        have D2 := D1.same s2
        refine ⟨_, rfl, d, 23, rfl, by decide, r, D2, fun j H3 j0 j1 D3 M3 => ?_⟩
        have K3 : Kept d H H3 := (K1.trans (Kept.of_same s2)).trans (Kept.of_moved M3)
        have hp3 : H3 p = some (.lst (kwS.map mS)) := (M3 p (Ne.symm (D1.neD np))).trans hp
        obtain ⟨v, e, f⟩ := fin .keyword kwS j H3 K3 D3 (by decide +kernel) j0 j1
        exact ⟨p, _, _, v, rfl, rfl, SqL.of hp3, e, (by show 2 ≤ sizeLine; decide), f⟩
      · refine ⟨_, rfl, _, _, rfl, rfl, _, rfl, ?_⟩
        refine ite2 (fun _ => ?_) (fun _ => ?_)
        · exact menu .sign _ 5 rfl (by decide) (by decide) (by decide +kernel)
        · exact menu .sign _ 10 rfl (by decide) (by decide) (by decide +kernel)
theorem run_l_between (h : sp_l_between K vs H Q E) : t_l_between K E (DQ Q) (start ns_l_between vs) H := by
  obtain ⟨d, r, rfl, hD, q⟩ := h
  refine ⟨(by show 5 ≤ sizeLine; decide), fun p np => ?_⟩
  refine ⟨_, rfl, d, 5, rfl, by decide, r, hD.fresh np, fun j H1 j0 j1 D1 M1 => ?_⟩
  have K1 : Kept d H H1 := ((Kept.refl d H).put np).trans (Kept.of_moved M1)
  have hp : H1 p = some (.lst ([" ", "\n", "  ", "# a _ comment := main!", " "].map mS)) := (M1 p (Ne.symm (hD.neD np))).trans upd_same
  obtain ⟨s, hs, e⟩ := menu_at (ss := [" ", "\n", "  ", "# a _ comment := main!", " "]) j0 j1
  refine ⟨p, _, _, _, rfl, rfl, SqL.of hp, e, ?_⟩
  refine ⟨(by show 7 ≤ sizeLine; decide), fun p2 np2 => ?_⟩
  refine ⟨_, rfl, d, 7, rfl, by decide, r, D1.fresh np2, fun j2 H2 j20 j21 D2 M2 => ?_⟩
  have K2 : Kept d H H2 := (K1.put (K1.free D1.atD np2)).trans (Kept.of_moved M2)
  have hp2 : H2 p2 = some (.lst (["", "", "", "\n", "#\n ", "\n   ", "#x\n\n"].map mS)) := (M2 p2 (Ne.symm (D1.neD np2))).trans upd_same
  obtain ⟨s2, hs2, e2⟩ := menu_at (ss := ["", "", "", "\n", "#\n ", "\n   ", "#x\n\n"]) j20 j21
  refine ⟨p2, _, _, _, rfl, rfl, SqL.of hp2, e2, ?_⟩
  have first : ∃ c cs, codes s = c :: cs := by
    have z : ∀ s ∈ [" ", "\n", "  ", "# a _ comment := main!", " "], (codes s).isEmpty = false := by decide +kernel
    have := z s hs
    cases hc : codes s with
    | nil => rw [hc] at this; cases this
    | cons c cs => exact ⟨c, cs, rfl⟩
  obtain ⟨c, cs, ec⟩ := first
  have hlen : (codes s).length ≤ 22 := by
    have z : ∀ s ∈ [" ", "\n", "  ", "# a _ comment := main!", " "], (codes s).length ≤ 22 := by decide +kernel
    exact z s hs
  refine ⟨_, rfl, _, _, c, rfl, rfl, small_len (by show (codes s).length ≤ _; omega), atI_nat (j := 0) (by show (codes s)[0]? = _; rw [ec]; rfl), rfl, _, rfl, ?_⟩
  rw [show ("#" : Str) = ⟨#[35]⟩ by decide +kernel, dec_one]
  have good : ∀ (a b : List Nat), a = codes s → (c = 35 → b = [10]) → (c ≠ 35 → b ∈ ["", "", "", "\n", "#\n ", "\n   ", "#x\n\n"].map codes) → gapB false (a ++ b) = true ∧ (a ++ b) ≠ [] ∧ (a ++ b).length ≤ 40 ∧ headOk (a ++ b) = true := fun a b ea h1 h2 => by
    subst ea
    have z : ∀ s ∈ [" ", "\n", "  ", "# a _ comment := main!", " "], ((codes s).head? = some 35 → (gapB false (codes s ++ [10]) = true ∧ (codes s ++ [10]) ≠ [] ∧ (codes s ++ [10]).length ≤ 40 ∧ headOk (codes s ++ [10]) = true)) ∧
        ((codes s).head? ≠ some 35 → ∀ b ∈ ["", "", "", "\n", "#\n ", "\n   ", "#x\n\n"].map codes, gapB false (codes s ++ b) = true ∧ (codes s ++ b) ≠ [] ∧ (codes s ++ b).length ≤ 40 ∧ headOk (codes s ++ b) = true) := by decide +kernel
    obtain ⟨z1, z2⟩ := z s hs
    rw [ec] at z1 z2
    rw [ec]
    by_cases hc : c = 35
    · rw [h1 hc]
      exact z1 (by rw [hc]; rfl)
    · exact z2 (fun e => hc (by simpa using e)) b (h2 hc)
  refine ite2 (fun h3 => ?_) (fun h3 => ?_)
  · have h3 := of_decide_eq_true h3
    obtain ⟨g1, g2, g3, g4⟩ := good (codes s) [10] rfl (fun _ => rfl) (fun z => absurd h3 z)
    refine ⟨_, rfl, _, rfl, _, _, rfl, rfl, ?_, ?_⟩
    · rw [nl1]
      show (codes s).length + 1 ≤ sizeLine
      exact small_len (by omega)
    · rw [nl1, show (⟨#[10]⟩ : Str) = Tx [10] from rfl, Tx_app]
      exact q H2 _ K2 D2 g1 g2 g3 g4
  · have h3 : ¬ c = 35 := fun z => h3 (decide_eq_true z)
    have hm : codes s2 ∈ ["", "", "", "\n", "#\n ", "\n   ", "#x\n\n"].map codes := List.mem_map.mpr ⟨s2, hs2, rfl⟩
    obtain ⟨g1, g2, g3, g4⟩ := good (codes s) (codes s2) rfl (fun z => absurd z h3) (fun _ => hm)
    refine ⟨_, rfl, _, rfl, _, _, rfl, rfl, ?_, ?_⟩
    · show (codes s).length + (codes s2).length ≤ sizeLine
      rw [List.length_append] at g3
      exact small_len (by omega)
    · rw [Tx_app]
      exact q H2 _ K2 D2 g1 g2 g3 g4
end

/-! ### the law -/
def sp_law (K : PySem.W.Frag) : Sp := fun vs H Q _ => ∃ (a : Addr) (ns : List Int), vs = [.ref a] ∧ SqL K H a (ns.map V.int) ∧ ns.length ≤ 63 ∧ ∀ H', Q (.bl true) H'
def PreL (t : List Nat) (ts : List Tk) (last : List Nat) : Prop := ∀ rest, Bd last rest → lex (t ++ rest) 1 1 = (ts ++ (lex rest (adv t 1 1).1 (adv t 1 1).2).1, (lex rest (adv t 1 1).1 (adv t 1 1).2).2)
def FreeW (t : List Nat) (ts : List Tk) (w : List Nat) : Prop := ∀ rest, lex (t ++ (w ++ rest)) 1 1 = (ts ++ (lex (w ++ rest) (adv t 1 1).1 (adv t 1 1).2).1, (lex (w ++ rest) (adv t 1 1).1 (adv t 1 1).2).2)
theorem PreL.first {g : List Nat} (h : gapB false g = true) (last : List Nat) : PreL g [] last := fun rest _ => by
  rw [List.nil_append]
  have e := gapB_ok false g h rest 1 1
  rw [lex_skip (l := g ++ rest) (l2 := rest) e]
theorem PreL.gap {t g : List Nat} {ts : List Tk} {last : List Nat} (h : PreL t ts last) (hg : gapB false g = true) (ho : headOk g = true) (hne : g ≠ []) (w : List Nat) : FreeW (t ++ g) ts w := fun rest => by
  rw [List.append_assoc, h (g ++ (w ++ rest)) (.inr ?_), adv_append]
  · have e := gapB_ok false g hg (w ++ rest) (adv t 1 1).1 (adv t 1 1).2
    rw [lex_skip (l := g ++ (w ++ rest)) (l2 := w ++ rest) e]
  · cases g with
    | nil => exact absurd rfl hne
    | cons y ys => exact ho
theorem PreL.direct {t : List Nat} {ts : List Tk} {last w : List Nat} (h : PreL t ts last) (hw : aloneW last = true ∨ aloneW w = true) : FreeW t ts w := fun rest => by
  refine h (w ++ rest) ?_
  rcases hw with hw | hw
  · exact .inl hw
  · obtain ⟨x, rfl, _⟩ := alone_sign hw
    refine .inr ?_
    show (x == 10 || (x == 32 || (x == 35 || aloneW [x]))) = true
    rw [hw, Bool.or_true, Bool.or_true, Bool.or_true]
theorem FreeW.word {t : List Nat} {ts : List Tk} {k : Kd} {w : List Nat} (h : FreeW t ts w) (hg : goodTok k w = true) (hn : 10 ∉ w) : PreL (t ++ w) (ts ++ [⟨k, w, (adv t 1 1).1, (adv t 1 1).2⟩]) w := fun rest hb => by
  rw [List.append_assoc, h rest, lex_word _ _ hg hb, adv_append, adv_flat w _ _ hn, List.append_assoc]
  rfl
theorem TksAt.keptD {H H' : Hp} {p d r : Addr} {ts : List Tk} (h : TksAt H p ts) (hD : Draws H d r) (k : Kept d H H') : TksAt H' p ts := h.kept fun b o e n => k b o (fun z => by
  obtain ⟨i, s, ns, h1, _⟩ := hD
  rw [z, h1] at e
  exact n _ (Option.some.inj e).symm) e
theorem TksAt.same {H H' : Hp} {p : Addr} {ts : List Tk} (h : TksAt H p ts) (s : Same H H') : TksAt H' p ts := h.kept fun b o e _ => s b o e
theorem Draws.kept_ne {H : Hp} {p d r : Addr} {ts : List Tk} (h : TksAt H p ts) (hD : Draws H d r) : p ≠ d := by
  obtain ⟨qs, h1, _⟩ := h
  obtain ⟨i, s, ns, h2, _⟩ := hD
  exact ne_of h1 h2 (by intro z; cases z)
/-- a token is appended -/
theorem TksAt.snoc {H : Hp} {p q : Addr} {ts : List Tk} {t : Tk} (h : TksAt H p ts) (hq : H q = some (.tup (tkV t))) : ∃ xs, H p = some (.lst xs) ∧ xs.length = ts.length ∧ TksAt (upd H p (.lst (xs ++ [.ref q]))) p (ts ++ [t]) := by
  obtain ⟨qs, h1, h2, h3⟩ := h
  refine ⟨_, h1, by rw [List.length_map, h2], qs ++ [q], by rw [upd_same, List.map_append]; rfl, by rw [List.length_append, List.length_append, h2]; rfl, fun k q' t' e1 e2 => ?_⟩
  have nq : q ≠ p := ne_of hq h1 (by intro z; cases z)
  by_cases hk : k < qs.length
  · rw [List.getElem?_append_left hk] at e1
    rw [List.getElem?_append_left (by omega)] at e2
    have h0 := h3 k q' t' e1 e2
    rw [upd_ne (ne_of h0 h1 (by intro z; cases z))]
    exact h0
  · have hkl : k < (qs ++ [q]).length := (List.getElem?_eq_some_iff.mp e1).1
    rw [List.length_append, List.length_singleton] at hkl
    have ek : k = qs.length := by omega
    subst ek
    rw [List.getElem?_append_right (Nat.le_refl _), Nat.sub_self] at e1
    rw [h2, List.getElem?_append_right (Nat.le_refl _), Nat.sub_self] at e2
    cases e1
    cases e2
    rw [upd_ne nq]
    exact hq
theorem kwS_eq : kwS.map mS = kwL.map (fun k => V.str (Tx k)) := by
  unfold kwL kwS
  rw [List.map_map]
  exact List.map_congr_left fun s _ => mS_eq s
theorem dp_strs {K : PySem.W.Frag} {H : Hp} : ∀ L : List (List Nat), DpAll K H (L.map fun k => V.str (Tx k)) (L.map fun k => PyData.str (Tx k))
  | [] => .nil
  | k :: L => .cons (.str _) (dp_strs L)
theorem kw_shaped : SeqAt.shaped (.tuple (kwL.map fun k => PyData.str (Tx k))) = true := by decide +kernel
theorem gapB_app : ∀ (b : Bool) (g h : List Nat), gapB b g = true → gapB b (g ++ h) = gapB false h
  | true, [], h, e => by cases e
  | false, [], h, e => rfl
  | true, x :: xs, h, e => by
    show gapB true (x :: (xs ++ h)) = _
    rw [gapB] at e ⊢
    split at e
    · rename_i hx; rw [if_pos hx]; exact gapB_app false xs h e
    · rename_i hx; rw [if_neg hx]; exact gapB_app true xs h e
  | false, x :: xs, h, e => by
    show gapB false (x :: (xs ++ h)) = _
    rw [gapB] at e ⊢
    split at e
    · rename_i hx; rw [if_pos hx]; exact gapB_app false xs h e
    · rename_i hx
      rw [if_neg hx]
      split at e
      · rename_i hx; rw [if_pos hx]; exact gapB_app false xs h e
      · rename_i hx
        rw [if_neg hx]
        split at e
        · rename_i hx; rw [if_pos hx]; exact gapB_app true xs h e
        · cases e
theorem gapB_nl {g : List Nat} (h : gapB false g = true) : gapB false (g ++ [10]) = true := by
  rw [gapB_app false g [10] h]
  rfl
theorem headOk_app {g h : List Nat} (hne : g ≠ []) (hg : headOk g = true) : headOk (g ++ h) = true := by
  cases g with
  | nil => exact absurd rfl hne
  | cons y ys => exact hg
section
variable {K : PySem.W.Frag} {vs : List V} {H : Hp} {Q : VK} {E : XK}
def LInv (a d r u : Addr) (k : Nat) (σ : L2.St) (H4 : Hp) : Prop := ∃ (t last : List Nat) (ts : List Tk) (v5 v6 v7 v8 v9 v10 v11 : Option V), σ = [some (.ref a), some (.ref d), some (.str (Tx t)), some (.ref u), some (.str (Tx last)), v5, v6, v7, v8, v9, v10, v11] ∧ Draws H4 d r ∧ TksAt H4 u ts ∧
  PreL t ts last ∧ (k = 0 → aloneW last = true) ∧ t.length ≤ 100 + 100 * k ∧ (∀ x ∈ ts, okTk x = true) ∧ ts.length ≤ k
theorem run_law {EW : EWT} (hEW : ∀ x r c E H, ¬ EW x r c E H) (hK : ∀ H, SqT K H (He.ga K ("KEYWORDS" : Str)) (kwL.map fun k => V.str (Tx k))) (h : sp_law K vs H Q E) : t_law K EW E (DQ Q) (start ns_law vs) H := by
  obtain ⟨a, ns, rfl, hS, hl, q⟩ := h
  -- draws = _law_stream(script, 300)
  refine ⟨_, rfl, a, ns, 300, rfl, hS, hl, by decide, by decide, fun d H1 r s rs s1 nd hd hr nrd hrl hrm => ?_⟩
  have D1 : Draws H1 d r := ⟨0, s, rs, hd, hr, Int.le_refl _⟩
  -- text = [..][pick]
  refine ⟨(by show 5 ≤ sizeLine; decide), fun p np => ?_⟩
  refine ⟨_, rfl, d, 5, rfl, by decide, r, D1.fresh np, fun j H2 j0 j1 D2 M2 => ?_⟩
  have hp : H2 p = some (.lst (["", "", " ", "\n", "# begin\n  "].map mS)) := (M2 p (Ne.symm (D1.neD np))).trans upd_same
  obtain ⟨t0, ht0, e0⟩ := menu_at (ss := ["", "", " ", "\n", "# begin\n  "]) j0 j1
  refine ⟨p, _, _, _, rfl, rfl, SqL.of hp, e0, ?_⟩
  have g0 : gapB false (codes t0) = true ∧ (codes t0).length ≤ 100 := by
    have z : ∀ s ∈ ["", "", " ", "\n", "# begin\n  "], gapB false (codes s) = true ∧ (codes s).length ≤ 100 := by decide +kernel
    exact z t0 ht0
  -- due = []
  refine ⟨(by show 0 ≤ sizeLine; decide), fun u nu => ?_⟩
  have nud : u ≠ d := Ne.symm (D2.neD nu)
  have nur : u ≠ r := Ne.symm (D2.neR nu)
  have D3 : Draws (upd H2 u (.lst [])) d r := D2.fresh nu
  -- last = "("
  obtain ⟨i3, s3, ns3, hd3, hr3, hi3⟩ := id D3
  refine ⟨_, rfl, d, _, rfl, dget_row hd3, _, _, rfl, .inl ⟨_, SqL.of hr3, rfl⟩, _, _, rfl, rfl, ⟨by decide, by decide⟩, _, _, rfl, rfl, _, _, rfl, ?_⟩
  -- for k in range(..)
  have hm : ∃ n : Nat, n ≤ 120 ∧ (if (1 + ((ns3.map V.int).length : Int) / 3) < 120 then (1 + ((ns3.map V.int).length : Int) / 3) else 120) = (n : Int) := by
    have z0 : 0 ≤ ((ns3.map V.int).length : Int) / 3 := Int.ediv_nonneg (by omega) (by decide)
    refine ⟨(if (1 + ((ns3.map V.int).length : Int) / 3) < 120 then (1 + ((ns3.map V.int).length : Int) / 3) else 120).toNat, ?_, ?_⟩
    · split <;> omega
    · split <;> omega
  obtain ⟨n, hn, en⟩ := hm
  rw [en]
  refine ⟨(n : Int), rfl, by omega, by omega, ?_⟩
  rw [Int.toNat_natCast]
  refine for_range (lo := 0) (n := n) (LInv a d r u) ⟨codes t0, codes "(", [], none, none, none, none, none, none, none, ?_, D3, ⟨[], upd_same, rfl, fun k q t e => by simp at e⟩, PreL.first g0.1 _, (fun _ => by decide +kernel), (by omega), (fun x hx => by cases hx), Nat.zero_le _⟩ ?_ ?_
  · show [some (V.ref a), some (V.ref d), some (V.str (Tx (codes t0))), some (V.ref u), some (V.str ("(" : Str)), none, none, none, none, none, none, none] = _
    rw [show ("(" : Str) = Tx (codes "(") by decide +kernel]
  · rintro k σ H4 hk ⟨t, last, ts, v5, v6, v7, v8, v9, v10, v11, rfl, D4, T4, hPre, hk0, htl, hok, htsl⟩
    -- kind, word = _law_word(draws)
    refine ⟨_, rfl, d, r, rfl, D4, fun qw H5 kd w K5 D5 nq hq hg hn10 hw40 hwok => ?_⟩
    have T5 := T4.keptD D4 K5
    refine ⟨qw, _, rfl, SqT.of hq, rfl, _, _, rfl, _, _, rfl, rfl, ?_⟩
    -- what is left of the turn, from any text that the word may follow
    have rest : ∀ (D' : Ends), (∀ σ H, LInv a d r u (k + 1) σ H → D'.nx σ H) → ∀ (t' : List Nat) (v8' : Option V) (H6 : Hp), Draws H6 d r → TksAt H6 u ts → FreeW t' ts w → t'.length ≤ 100 + 100 * k + 50 →
        (tSeq (tAsg (tCall (sp_l_place K) [] E (tCons (tVar 2) tNil)) (gTup K 2 (gCons (gName 9) (gCons (gName 10) gNil))))
          (tSeq (tDrop (tBM K "list" rAppend (tVar 3) (tCons (tTup (tCons (tVar 6) (tCons (tVar 7) (tCons (tVar 9) (tCons (tVar 10) tNil))))) tNil)))
          (tSeq (tAsg (tOp rCatS (tVar 2) (tVar 7)) (gName 2))
          (tAsg (tVar 7) (gName 4))))) D'
        [some (.ref a), some (.ref d), some (.str (Tx t')), some (.ref u), some (.str (Tx last)), some (.int (0 + k)), some (.str (kdS kd)), some (.str (Tx w)), v8', v9, v10, v11] H6 := fun D' hD' t' v8' H6 D6 T6 hF hl' => by
      refine ⟨_, rfl, t', rfl, by omega, fun q2 H7 s7 nq2 hq2 => ?_⟩
      refine ⟨q2, _, rfl, SqT.of hq2, rfl, _, _, rfl, _, _, rfl, rfl, ?_⟩
      have D7 := D6.same s7
      have T7 := T6.same s7
      obtain ⟨xs0, hu0, hxl0, _⟩ := id T7
      refine ⟨_, rfl, .inl ⟨rfl, _, SqL.of hu0⟩, _, rfl, _, rfl, _, rfl, _, rfl, (by show 4 ≤ sizeLine; decide), fun q3 nq3 => ?_⟩
      have T8 : TksAt (upd H7 q3 (.tup (tkV ⟨kd, w, (adv t' 1 1).1, (adv t' 1 1).2⟩))) u ts := T7.same (same_upd nq3)
      have D8 : Draws (upd H7 q3 (.tup (tkV ⟨kd, w, (adv t' 1 1).1, (adv t' 1 1).2⟩))) d r := D7.fresh nq3
      obtain ⟨xs, hu, hxl, T9⟩ := T8.snoc (t := ⟨kd, w, (adv t' 1 1).1, (adv t' 1 1).2⟩) upd_same
      refine ⟨u, xs, _, rfl, rfl, hu, (by rw [hxl]; exact Nat.lt_of_le_of_lt (show ts.length ≤ 1000 by omega) (by decide)), ?_⟩
      refine ⟨_, rfl, _, rfl, _, _, rfl, rfl, ?_, ?_⟩
      · show t'.length + w.length ≤ sizeLine
        exact small_len (by omega)
      · rw [Tx_app]
        refine ⟨_, rfl, hD' _ _ ⟨t' ++ w, w, _, _, _, _, _, _, _, _, rfl, D8.other nud nur, T9, hF.word hg hn10, fun z => by omega, by rw [List.length_append]; omega, ?_, by rw [List.length_append, List.length_singleton]; omega⟩⟩
        intro x hx
        rcases List.mem_append.mp hx with hx | hx
        · exact hok x hx
        · rw [List.mem_singleton.mp hx]
          exact hwok
    -- if the last word or this one is alone, and the draw is not 0: nothing between
    refine ⟨_, rfl, last, rfl, fun H6 s6 => ⟨_, rfl, ?_⟩⟩
    have D6 := D5.same s6
    have T6 := T5.same s6
    -- a gap, or at the first word nothing
    have yes : ∀ (D' : Ends), (∀ σ H, LInv a d r u (k + 1) σ H → D'.nx σ H) → ∀ H7, Draws H7 d r → TksAt H7 u ts →
        (tIfS (tTest (tOp rGtI (tVar 5) (tC (.int 0))))
          (tSeq (tAsg (tCall (sp_l_between K) [] E (tCons (tVar 1) tNil)) (gName 8))
          (tSeq (tAsg (tOp rCatS (tVar 2) (tVar 8)) (gName 2))
          (tIfS (tAnd (tTest (tOp rInSign (tC (.str ("#" : Str))) (tVar 8))) (tTest (tOp (rIn K true) (tOp rIxS (tVar 8) (tUn rNegI (tC (.int 1)))) (tTup (tCons (tC (.str (" " : Str))) (tCons (tC (.str ("\n" : Str))) tNil))))))
            (tAsg (tOp rCatS (tVar 2) (tC (.str ("\n" : Str)))) (gName 2))
            tNext)))
          tNext) { D' with nx := (tSeq (tAsg (tCall (sp_l_place K) [] E (tCons (tVar 2) tNil)) (gTup K 2 (gCons (gName 9) (gCons (gName 10) gNil))))
          (tSeq (tDrop (tBM K "list" rAppend (tVar 3) (tCons (tTup (tCons (tVar 6) (tCons (tVar 7) (tCons (tVar 9) (tCons (tVar 10) tNil))))) tNil)))
          (tSeq (tAsg (tOp rCatS (tVar 2) (tVar 7)) (gName 2))
          (tAsg (tVar 7) (gName 4))))) D' }
        [some (.ref a), some (.ref d), some (.str (Tx t)), some (.ref u), some (.str (Tx last)), some (.int (0 + k)), some (.str (kdS kd)), some (.str (Tx w)), v8, v9, v10, v11] H7 := fun D' hD' H7 D7 T7 => by
      refine ⟨_, rfl, _, _, rfl, rfl, _, rfl, ?_⟩
      refine ite2 (fun hk1 => ?_) (fun hk1 => ?_)
      · refine ⟨_, rfl, d, r, rfl, D7, fun H8 g K8 D8 gg gne gl gh => ?_⟩
        have T8 := T7.keptD D7 K8
        refine ⟨_, rfl, _, rfl, _, _, rfl, rfl, ?_, ?_⟩
        · show t.length + g.length ≤ sizeLine
          exact small_len (by omega)
        · rw [Tx_app]
          refine ⟨_, rfl, 35, _, congrArg V.str (by decide +kernel), rfl, _, rfl, ?_⟩
          refine ite2 (fun h35 => ?_) (fun h35 => ?_)
          · -- between[-1] not in (" ", "\n")
            obtain ⟨c, cs, ec⟩ : ∃ c cs, g = cs ++ [c] := ⟨g.getLast gne, g.dropLast, (List.dropLast_concat_getLast gne).symm⟩
            refine ⟨_, rfl, _, rfl, _, -1, c, rfl, rfl, small_len (by show g.length ≤ _; omega), (by show atI g (-1) = _; rw [ec]; exact atI_last cs c), (by show 2 ≤ sizeLine; decide), fun q9 nq9 => ?_⟩
            have T9 := T8.same (same_upd (o := .tup [V.str (" " : Str), V.str ("\n" : Str)]) nq9)
            have D9 := D8.fresh (o := .tup [V.str (" " : Str), V.str ("\n" : Str)]) nq9
            refine ⟨_, _, rfl, .inr (SqT.of upd_same), rfl, rfl, _, rfl, ?_⟩
            refine ite2 (fun _ => ?_) (fun _ => ?_)
            · refine ⟨_, rfl, _, _, rfl, rfl, ?_, ?_⟩
              · rw [nl1]
                show (t ++ g).length + 1 ≤ sizeLine
                rw [List.length_append]
                exact small_len (by omega)
              · rw [nl1, show (⟨#[10]⟩ : Str) = Tx [10] from rfl, Tx_app, List.append_assoc]
                have gg2 : gapB false (g ++ [10]) = true := gapB_nl gg
                refine rest D' hD' (t ++ (g ++ [10])) _ _ D9 T9 (hPre.gap gg2 (headOk_app gne gh) (by simp) w) (by rw [List.length_append, List.length_append, List.length_singleton]; omega)
            · exact rest D' hD' (t ++ g) _ _ D9 T9 (hPre.gap gg gh gne w) (by rw [List.length_append]; omega)
          · exact rest D' hD' (t ++ g) _ _ D8 T8 (hPre.gap gg gh gne w) (by rw [List.length_append]; omega)
      · have ek : k = 0 := by
          have : ¬ (0 : Int) < 0 + (k : Int) := fun z => hk1 (decide_eq_true z)
          omega
        exact rest D' hD' t _ _ D7 T7 (hPre.direct (.inl (hk0 ek))) (by omega)
    have pick : ∀ H7, Draws H7 d r → TksAt H7 u ts → (aloneW last = true ∨ aloneW w = true) → ∀ (Y : Bool → Hp → Prop), (∀ H8, Draws H8 d r → TksAt H8 u ts → Y true H8 ∧ Y false H8) →
        (tTest (tOp rEq (tCall (sp_l_pick K) [] E (tCons (tVar 1) (tCons (tC (.int 3)) tNil))) (tC (.int 0)))) [some (.ref a), some (.ref d), some (.str (Tx t)), some (.ref u), some (.str (Tx last)), some (.int (0 + k)), some (.str (kdS kd)), some (.str (Tx w)), v8, v9, v10, v11] H7 Y := fun H7 D7 T7 _ Y hY => by
      refine ⟨_, rfl, d, 3, rfl, by decide, r, D7, fun j H8 j0 j1 D8 M8 => ?_⟩
      obtain ⟨y1, y2⟩ := hY H8 D8 (T7.keptD D7 (Kept.of_moved M8))
      refine ⟨rfl, _, rfl, ?_⟩
      cases decide (V.int j = V.int 0) with
      | true => exact y1
      | false => exact y2
    have hD0 : ∀ σ H, LInv a d r u (k + 1) σ H → LInv a d r u (k + 1) σ H := fun _ _ z => z
    cases hal : aloneW last with
    | true =>
      refine iteT (iteF ?_)
      refine pick H6 D6 T6 (.inl hal) _ fun H8 D8 T8 => ⟨iteT ?_, iteF ?_⟩
      · exact yes _ hD0 H8 D8 T8
      · exact rest _ hD0 t _ _ D8 T8 (hPre.direct (.inl hal)) (by omega)
    | false =>
      refine iteF ⟨_, rfl, w, rfl, fun H7 s7 => ⟨_, rfl, ?_⟩⟩
      have D7 := D6.same s7
      have T7 := T6.same s7
      cases haw : aloneW w with
      | true =>
        refine iteF ?_
        refine pick H7 D7 T7 (.inr haw) _ fun H8 D8 T8 => ⟨iteT ?_, iteF ?_⟩
        · exact yes _ hD0 H8 D8 T8
        · exact rest _ hD0 t _ _ D8 T8 (hPre.direct (.inr haw)) (by omega)
      | false =>
        exact iteT (yes _ hD0 H7 D7 T7)
  · rintro σ H4 ⟨t, last, ts, v5, v6, v7, v8, v9, v10, v11, rfl, D4, T4, hPre, hk0, htl, hok, htsl⟩
    -- text = text + [..][pick]
    refine ⟨_, rfl, (by show 5 ≤ sizeLine; decide), fun p5 np5 => ?_⟩
    refine ⟨_, rfl, d, 5, rfl, by decide, r, D4.fresh np5, fun j5 H5 j50 j51 D5 M5 => ?_⟩
    have T5 : TksAt H5 u ts := (T4.same (same_upd np5)).keptD (D4.fresh np5) (Kept.of_moved M5)
    have hp5 : H5 p5 = some (.lst (["", " ", "\n", "\n  ", " # the end"].map mS)) := (M5 p5 (Ne.symm (D4.neD np5))).trans upd_same
    obtain ⟨sf, hsf, e5⟩ := menu_at (ss := ["", " ", "\n", "\n  ", " # the end"]) j50 j51
    have gsf : endB false (codes sf) = true ∧ (codes sf).length ≤ 100 ∧ headOk (codes sf) = true := by
      have z : ∀ s ∈ ["", " ", "\n", "\n  ", " # the end"], endB false (codes s) = true ∧ (codes s).length ≤ 100 ∧ headOk (codes s) = true := by decide +kernel
      exact z sf hsf
    refine ⟨p5, _, _, _, rfl, rfl, SqL.of hp5, e5, _, _, rfl, rfl, ?_, ?_⟩
    · show t.length + (codes sf).length ≤ sizeLine
      exact small_len (by omega)
    rw [Tx_app]
    have hend := lex_end (endB_ok false (codes sf) gsf.1 (adv t 1 1).1 (adv t 1 1).2)
    have hlex : lex (t ++ codes sf) 1 1 = (ts ++ [⟨.fin, [], (adv (t ++ codes sf) 1 1).1, (adv (t ++ codes sf) 1 1).2⟩], none) := by
      rw [hPre (codes sf) (.inr gsf.2.2), hend, adv_append]
    -- row, column = _law_place(text); due.append(("end", "", row, column))
    refine ⟨_, rfl, t ++ codes sf, rfl, by rw [List.length_append]; omega, fun q6 H6 s6 nq6 hq6 => ?_⟩
    refine ⟨q6, _, rfl, SqT.of hq6, rfl, _, _, rfl, _, _, rfl, rfl, ?_⟩
    have T6 := T5.same s6
    obtain ⟨xs0, hu0, hxl0, _⟩ := id T6
    refine ⟨_, rfl, .inl ⟨rfl, _, SqL.of hu0⟩, _, rfl, _, rfl, (by show 4 ≤ sizeLine; decide), fun q7 nq7 => ?_⟩
    have e7 : ([V.str ("end" : Str), V.str ("" : Str), V.int (adv (t ++ codes sf) 1 1).1, V.int (adv (t ++ codes sf) 1 1).2] : List V) = tkV ⟨.fin, [], (adv (t ++ codes sf) 1 1).1, (adv (t ++ codes sf) 1 1).2⟩ := by
      show _ = [V.str ("end" : Str), V.str (Tx []), _, _]
      rw [show ("" : Str) = Tx [] by decide +kernel]
    have T7 : TksAt (upd H6 q7 (.tup [V.str ("end" : Str), V.str ("" : Str), V.int (adv (t ++ codes sf) 1 1).1, V.int (adv (t ++ codes sf) 1 1).2])) u ts := T6.same (same_upd nq7)
    obtain ⟨xs, hu, hxl, T8⟩ := T7.snoc (t := ⟨.fin, [], (adv (t ++ codes sf) 1 1).1, (adv (t ++ codes sf) 1 1).2⟩) (by rw [upd_same, e7])
    refine ⟨u, xs, _, rfl, rfl, hu, (by rw [hxl]; exact Nat.lt_of_le_of_lt (show ts.length ≤ 1000 by omega) (by decide)), ?_⟩
    -- actual = tokens(text)
    refine ⟨_, rfl, t ++ codes sf, rfl, by rw [List.length_append]; omega, fun ts9 p9 H9 e9 np9 s9 T9 => ?_, fun ts9 er r9 c9 H9 e9 _ => by rw [hlex] at e9; cases e9⟩
    have ets : ts9 = ts ++ [⟨.fin, [], (adv (t ++ codes sf) 1 1).1, (adv (t ++ codes sf) 1 1).2⟩] := by
      rw [hlex] at e9
      exact (congrArg Prod.fst e9).symm
    have T10 := T8.same s9
    have hok2 : ∀ x ∈ ts9, okTk x = true := fun x hx => by
      rw [ets] at hx
      rcases List.mem_append.mp hx with hx | hx
      · exact hok x hx
      · rw [List.mem_singleton.mp hx]
        exact (by decide +kernel : PyData.strOk (Tx []) = true)
    rw [← ets] at T10
    obtain ⟨qs9, hp9, _, _⟩ := id T9
    have hsh := shaped_tks hok2
    -- isinstance(actual, list), actual != due
    refine ⟨_, rfl, _, _, .type "list", .type "list", true, rfl, .ty "list", .base (.lst hp9), kit_ty (by decide +kernel), _, rfl, ?_⟩
    refine iteF ?_
    refine ⟨_, rfl, _, rfl, _, _, T9.dp, T10.dp, hsh, hsh, _, rfl, ?_⟩
    rw [SeqAt.eqv_refl _ (SeqAt.canLay_of_shaped hsh)]
    refine iteF ?_
    -- KEYWORDS == tuple(_law_keywords()) and tokens("") == [("end", "", 1, 1)]
    refine ⟨rfl, fun p11 H11 s11 np11 hp11 => ?_⟩
    refine ⟨p11, _, rfl, .inl ⟨SqL.of hp11, fun p12 np12 => ?_⟩⟩
    refine ⟨_, _, .tup (hK _) (dp_strs kwL), .tup (SqT.of upd_same) (by rw [kwS_eq]; exact dp_strs kwL), kw_shaped, kw_shaped, _, rfl, ?_⟩
    rw [SeqAt.eqv_refl _ (SeqAt.canLay_of_shaped kw_shaped)]
    refine iteT ?_
    have l0 : lex [] 1 1 = ([⟨.fin, [], 1, 1⟩], none) := lex_end rfl
    refine ⟨[], congrArg (fun s => [V.str s]) (by decide +kernel), by decide, fun ts13 p13 H13 e13 np13 s13 T13 => ?_, fun ts13 er r9 c9 H13 e13 _ => by rw [l0] at e13; cases e13⟩
    have ets13 : ts13 = [⟨.fin, [], 1, 1⟩] := by
      rw [l0] at e13
      exact (congrArg Prod.fst e13).symm
    subst ets13
    refine ⟨(by show 4 ≤ sizeLine; decide), fun p14 np14 => ⟨(by show 1 ≤ sizeLine; decide), fun p15 np15 => ?_⟩⟩
    have n145 : p14 ≠ p15 := fun z => by rw [← z, upd_same] at np15; cases np15
    have e14 : ([V.str ("end" : Str), V.str ("" : Str), V.int 1, V.int 1] : List V) = tkV ⟨.fin, [], 1, 1⟩ := by
      show _ = [V.str ("end" : Str), V.str (Tx []), _, _]
      rw [show ("" : Str) = Tx [] by decide +kernel]
    have T15 := (T13.same (same_upd (o := .tup [V.str ("end" : Str), V.str ("" : Str), V.int 1, V.int 1]) np14)).same (same_upd (o := .lst [V.ref p14]) np15)
    have T16 : TksAt (upd (upd H13 p14 (.tup [V.str ("end" : Str), V.str ("" : Str), V.int 1, V.int 1])) p15 (.lst [V.ref p14])) p15 [⟨.fin, [], 1, 1⟩] := by
      refine ⟨[p14], upd_same, rfl, fun k q t e1 e2 => ?_⟩
      cases k with
      | zero =>
        cases e1
        cases e2
        rw [upd_ne n145, upd_same, e14]
      | succ k => simp at e1
    have sh16 : SeqAt.shaped (.list ([(⟨.fin, [], 1, 1⟩ : Tk)].map tkD)) = true := by decide +kernel
    refine ⟨_, _, T15.dp, T16.dp, sh16, sh16, ?_⟩
    rw [SeqAt.eqv_refl _ (SeqAt.canLay_of_shaped sh16)]
    exact q _
end
end Rm

/-! E1: an own error whose class chain ends in ValueError and whose __init__ tells row and column by super().__init__(f'..'). -/
namespace Rm
open PySem PySem.W PySem.Calls PyProof.Rows PySem.HandSPX
/-! ### the text of __init__ -/
def teA (p1 p2 p3 : Pos) : Arguments := { posonlyargs := [], args := [{ arg := "self", annotation := none, pos := p1 }, { arg := "row", annotation := none, pos := p2 }, { arg := "column", annotation := none, pos := p3 }], vararg := none, kwonlyargs := [], kw_defaults := [], kwarg := none, defaults := [] }
def teB (a1 a2 a3 b1 b2 b3 c1 c2 d1 d2 e1 e2 f1 f2 f3 f4 g1 g2 g3 g4 : Pos) (k1 k2 : Nat) : List Stmt :=
  [.Expr (.Call (.Attribute (.Call (.Name "super" a1) [] [] a2) "__init__" a3) [.JoinedStr [.Constant (.str "row ") k1 b1, .FormattedValue (.Name "row" c1) (-1) none c2, .Constant (.str ", column ") k2 b2, .FormattedValue (.Name "column" d1) (-1) none d2] b3] [] e1) e2,
   .Assign [.Attribute (.Name "self" f1) "row" f2] (.Name "row" f3) f4, .Assign [.Attribute (.Name "self" g1) "column" g2] (.Name "column" g3) g4]
def teS : Scope := { kind := .function, names := [(PySem.Str.ofString "self", .local), (PySem.Str.ofString "row", .local), (PySem.Str.ofString "column", .local), (PySem.Str.ofString "__class__", .free), (PySem.Str.ofString "super", .globalImplicit)], isGenerator := false, isCoroutine := false, more := [] }
/-- what the written part tells of the class at C, whose __init__, at fI, is written in the class at D -/
structure ErrK (P : Program) (K : Frag) (C : Addr) : Prop where
  oex : L2.OexC K C
  nr : findIn K (.ref C) "row" = some none
  nc : findIn K (.ref C) "column" = some none
  vE : subIn K (.ref C) (.type "ValueError") = some true
  sup : nsIn K mainGlobals "super" = some none
  tp : nsIn K cStatics "thirdparty.any" = some none
  top : (P.main.scope.names.lookup ("super" : Str)).isSome = false
  fn : ∃ (D cc cda fI : Addr) (oc ocd oce : Value) (od odd ode : Option Addr) (osl osd ose : Array (Option Value)) (cdD : ClassData) (vs : Array Value) (file : Str) (tf : Tok) (dV kV doc pm ct : Value) (an : Option Addr)
    (p1 p2 p3 a1 a2 a3 b1 b2 b3 c1 c2 d1 d2 e1 e2 f1 f2 f3 f4 g1 g2 g3 g4 : Pos) (k1 k2 : Nat),
    (a3.endLine == e1.line) = true ∧ findIn K (.ref C) "__init__" = some (some (.ref fI)) ∧ typeIn K (.ref fI) = some (.type "function") ∧
    K.lookup fI = some ⟨oc, od, .func (ksFn "__init__" "TextError.__init__" (teA p1 p2 p3) (teB a1 a2 a3 b1 b2 b3 c1 c2 d1 d2 e1 e2 f1 f2 f3 f4 g1 g2 g3 g4 k1 k2) teS .none kV doc pm an (.ref cda) ct cc), osl⟩ ∧ codeIn K (.ref cda) "TextError.__init__" = true ∧
    K.lookup cda = some ⟨ocd, odd, .fields vs, osd⟩ ∧ vs[2]? = some (.str file tf) ∧ ((P.main.file : Str) == file) = true ∧
    K.lookup cc = some ⟨oce, ode, .cell (some (.ref D)), ose⟩ ∧ clsIn K D = some cdD ∧ mroIn K C (.ref D) = some true ∧ ks_superIn K C D "__init__" = some (some (.builtin "ValueError.__init__"))
section
variable {prog : Program} {w : World} {A : Around} {E : Value → Shared → Prop} {R : Result → Shared → Prop} {h : Heap} {g : Array GenState} {d : Drawn} {t : Nat} {os : OsState} {K : Frag} {C : Addr}
/-- ValueError.__init__, bound, called -/
theorem bound_called {nm q : Str} {N u x t0 : Addr} {bs bm : List Value} {hd : Bool} {sn : List Str} {sub : List Value} {ab : Bool} {col : Option Bool} {dd : Option Addr} {k0 k1 k2 k3 k5 : Option Value} {rest : List Value} {Q : Value → Shared → Prop}
    (cls : h.get? C = some (excClassObj nm q C N bs bm hd sn sub ab col dd k0 k1 k2 k3 k5 "ValueError.__new__")) (inst : h.get? x = some (excO C t0)) (mw : h.get? u = some (kxs_mw "ValueError.__init__" x)) (few : rest.length ≤ sizeLine)
    (goal : ∀ h' t1, (∀ b o, b ≠ x → h.get? b = some o → h'.get? b = some o) → h'.get? x = some (excO C t1) → Q .none ⟨h', g, d, t, os⟩) : wpAny (model prog w) A (call (.ref u) rest) Q E ⟨h, g, d, t, os⟩ := by
  apply wpAny_call
  apply codeAny_of_tree
  change wpAny _ A.in1 (callAny (.ref u) ⟨rest, []⟩) _ _ _
  rw [callAny]
  apply wpAny_bind
  apply wpAny_load mw
  have yes : (Value.type "method-wrapper" == Value.type "method" || Value.type "method-wrapper" == Value.type "builtin_function_or_method" || Value.type "method-wrapper" == Value.type "method-wrapper") = true := by decide
  simp only [kxs_mw, yes, if_true]
  apply KFB.if_so (by decide)
  refine wpAny_bind (check_bound_init F.excBase_ValueError.toExcCallFacts cls inst rfl (wpAny_bind (wpAny_pure (wpAny_pure ⟨plainId_quiet F.excBase_ValueError.init.plain _, codeAny_builtin F.excBase_ValueError.initEntry ?_⟩))))
  exact exc_init_tree (cls := .ref C) (t0 := t0) (dv := none) (c2 := .none) (c3 := .none) (b4 := .bool false) inst few fun h' keep at_ _ => goal h' _ keep at_
theorem three {x : Addr} {r c : Value} {y : Str × Value} (hy : y ∈ ([(("self" : Str), Value.ref x), ("row", r), ("column", c)] : List (Str × Value))) : teS.names.lookup y.1 = some .local := by
  rcases List.mem_cons.mp hy with rfl | hy
  · show teS.names.lookup ("self" : Str) = _
    decide +kernel
  rcases List.mem_cons.mp hy with rfl | hy
  · show teS.names.lookup ("row" : Str) = _
    decide +kernel
  rcases List.mem_cons.mp hy with rfl | hy
  · show teS.names.lookup ("column" : Str) = _
    decide +kernel
  · cases hy
theorem meth_line {o : Expr} {name : Str} {apos pos : Pos} {args : List Expr} {env : Env} (ln : (apos.endLine == pos.line) = true) (few : methodCallForm (args.length + 0) (backTo pos (starEach args env)) [] = true) :
    eval (.Call (.Attribute o name apos) args [] pos) env = (do
      let ov ← attributeBase o name env (eval o env)
      standAt apos.atName
      let (f, first) ← holding [ov] (getMethod ov name (L2.plainOf o env))
      callWith pos f first (backTo pos (starEach args env)) []) := by
  have e : ∀ ov, methodCall o name apos pos env ov (args.length + 0) (backTo pos (starEach args env)) [] = (do
      let (f, first) ← holding [ov] (getMethod ov name (L2.plainOf o env))
      callWith pos f first (backTo pos (starEach args env)) []) := fun ov => L2.mcall_line few ln
  rw [arm_eval_Call]
  show (attributeBase o name env (eval o env) >>= fun ov => standAt apos.atName >>= fun _ => methodCall o name apos pos env ov (args.length + 0) (backTo pos (starEach args env)) []) = _
  rw [show (fun ov => standAt apos.atName >>= fun _ => methodCall o name apos pos env ov (args.length + 0) (backTo pos (starEach args env)) []) = fun ov => standAt apos.atName >>= fun _ => (do
      let (f, first) ← holding [ov] (getMethod ov name (L2.plainOf o env))
      callWith pos f first (backTo pos (starEach args env)) []) from funext fun ov => by rw [e ov]]
/-- the parts of the told text are short -/
theorem place_text {r : Int} (hr : r.natAbs.log2 < 1920) : (PySem.Str.ofString (toString r)).length ≤ 1921 := by
  have e := int_text_length_le (k := 1920) (by decide) hr
  rw [PySem.ofString_length]
  omega
/-- what __init__ leaves -/
structure ErrLeft (h h' : Heap) (x C dx t1 : Addr) (r c : Value) : Prop where
  keep : ∀ b o, b ≠ x → h.get? b = some o → h'.get? b = some o
  obj : h'.get? x = some { cls := .ref C, dict := some dx, data := .fields #[.ref t1, .none, .none, .none, .bool false, .none] }
  big : h.objs.size ≤ dx
  ne : dx ≠ x
  ns : h'.Ns1 dx (fun y => if y = "column" then some c else if y = "row" then some r else none)
theorem err_init {mg mb : Str → Option Value} {x t0 : Addr} {r c : Int} {tr tc : Tok} (T : ErrK prog K C) (X : K.In h) (G : h.Ns mainGlobals mg) (B : h.Ns builtinsNs mb) (bb : ∀ x : Str, x ≠ "__name__" → mb x = bootBuiltins x)
    (lim : h.NoLimit) (hx : h.get? x = some (excO C t0)) (nx : K.lookup x = none) (room : A.depth < recursionLimit) (hr : r.natAbs.log2 < 1920) (hc : c.natAbs.log2 < 1920) {fI : Addr} (iI : findIn K (.ref C) "__init__" = some (some (.ref fI)))
    (goal : ∀ h' tk dx t1, ErrLeft h h' x C dx t1 (.int r tr) (.int c tc) → R (.ok (.ret .none)) ⟨h', g, d, tk, os⟩) :
    codeAny (model prog w) A (.call (.ref fI) ⟨[.ref x, .int r tr, .int c tc], []⟩) R ⟨h, g, d, t, os⟩ := by
  obtain ⟨D, cc, cda, fI', oc, ocd, oce, od, odd, ode, osl, osd, ose, cdD, vs, file, tf, dV, kV, doc, pm, ct, an, p1, p2, p3, a1, a2, a3, b1, b2, b3, c1, c2, d1, d2, e1, e2, f1, f2, f3, f4, g1, g2, g3, g4, k1, k2, ln, iI', tI, lF, cF, lcd, hvs, hfile, lcc, lD, mD, sI⟩ := T.fn
  have same : fI' = fI := by
    rw [iI] at iI'
    cases iI'
    rfl
  subst same
  obtain ⟨nm, q, N, bs, bm, sn, sub, ab, col, dd, k0, k1', k2', k3, k5, hC, hbm⟩ := T.oex.cls
  have hcl : clsIn K C = some { name := nm, bases := bs, mro := .ref C :: bm, ns := N, qualname := q, hasDict := true, slotNames := sn, subclasses := sub, abstract := ab, collection := col, hasDel := false } := by
    unfold clsIn
    rw [hC] <;> rfl
  refine ks_codeAny_call_defAt (binds := [("self", .ref x), ("row", .int r tr), ("column", .int c tc)]) room (X _ _ lF) rfl lim (codeRec_of X cF) rfl (BindsTo.of_eq (by first | rfl | with_unfolding_all rfl)) (show ∀ y ∈ teS.names, y.2 ≠ .cell by decide +kernel) (show ∀ y ∈ ([(("self" : Str), Value.ref x), ("row", .int r tr), ("column", .int c tc)] : List (Str × Value)), teS.names.lookup y.1 = some .local from fun y hy => three hy) (fun h0 ns0 keep0 => ?_)
  have X0 : K.In h0 := X.keeps keep0
  have hx0 := keep0 _ _ hx
  -- super()
  refine ks_wpAt_execs_cons (ks_wpAt_Expr_any (ks_wpAt_MethodCall (pl := L2.plainOf (.Call (.Name "super" a1) [] [] a2) (ksEnv "TextError.__init__" teS h.objs.size fI' (.ref cda) cc)) ?_ (meth_line ln rfl)))
  have lookN : ∀ y : Str, (fun y => ([("self", Value.ref x), ("row", .int r tr), ("column", .int c tc)] : List (Str × Value)).reverse.lookup y) y = ([("self", Value.ref x), ("row", .int r tr), ("column", .int c tc)] : List (Str × Value)).reverse.lookup y := fun _ => rfl
  obtain ⟨oD, hD1, hD2⟩ : ∃ oD, h0.get? D = some oD ∧ oD.data = .cls cdD := by
    unfold clsIn at lD
    split at lD
    · rename_i cls0 dct0 cd0 sl0 ho
      cases lD
      exact ⟨_, X0 _ _ ho, rfl⟩
    · cases lD
  refine ks_wpAt_super_base (by rfl) (by rfl) (by decide) rfl (X0 _ _ lF) rfl rfl rfl (X0 _ _ lcd) rfl hvs hfile T.top ?_
  refine ks_loadName_global rfl rfl (loadGlobal_builtin (mg := mg) (mb := mb) (v := .type "super") (G.keeps keep0) (mg_none_of X G T.sup) (B.keeps keep0) ((bb _ (by decide +kernel)).trans (by first | rfl | kernel_rfl)) ⟨rfl, ?_⟩)
  refine wpAny_loadName_free (v := .ref D) rfl rfl rfl ⟨_, X0 _ _ lcc, rfl⟩ ?_
  refine wpAny_loadName_local (v := .ref x) rfl rfl ns0 (by first | rfl | kernel_rfl) ?_
  refine ks_wpAny_isType_cls hD1 hD2 ⟨rfl, ?_⟩
  refine ks_wpAny_call_super hD1 hD2 hx0 rfl (fun _ z => by cases z) (looks_mroIn X0 mD) (fun h1 so1 keep1 => ?_)
  have X1 : K.In h1 := X0.keeps keep1
  have hx1 := keep1 _ _ hx0
  have I1 : InstAt h1 x (excO C t0) C none := ⟨hx1, rfl, rfl, trivial⟩
  have along : alongIn K "__init__" (((Value.ref C :: bm).dropWhile (· != .ref D)).drop 1) = some (some (.builtin "ValueError.__init__")) := by
    unfold ks_superIn at sI
    rw [hcl] at sI
    exact sI
  refine kxs_getMethod kxs_ValueError so1 (looks_opaque X1 T.tp) ((looks_clsIn X1 hcl).andThen .now) rfl X1 along (I1.type.andThen (looks_subIn X1 T.vE)) (ks_ne X1 I1 hcl) (by decide) ?_
  have keep2 : ∀ b o, h1.get? b = some o → (h1.push (kxs_mw "ValueError.__init__" x)).get? b = some o := fun b o e => Heap.get?_push_of_some _ e
  have mw2 : (h1.push (kxs_mw "ValueError.__init__" x)).get? h1.objs.size = some (kxs_mw "ValueError.__init__" x) := Heap.get?_push_at rfl rfl
  have ns2 : (h1.push (kxs_mw "ValueError.__init__" x)).Ns h.objs.size (fun y => ([("self", Value.ref x), ("row", .int r tr), ("column", .int c tc)] : List (Str × Value)).reverse.lookup y) := ns0.at fun o e => keep2 _ _ (keep1 _ _ e)
  generalize hh2 : h1.push (kxs_mw "ValueError.__init__" x) = h2 at keep2 mw2 ns2
  have all2 : ∀ b o, h.get? b = some o → h2.get? b = some o := fun b o e => keep2 _ _ (keep1 _ _ (keep0 _ _ e))
  -- the told text
  refine kxs_callWith (i := "ValueError.__init__") (x := x) rfl ?_
  refine evalArgs_plain (x := eval (.JoinedStr [.Constant (.str "row ") k1 b1, .FormattedValue (.Name "row" c1) (-1) none c2, .Constant (.str ", column ") k2 b2, .FormattedValue (.Name "column" d1) (-1) none d2] b3) (ksEnv "TextError.__init__" teS h.objs.size fI' (.ref cda) cc)) (spliced_cons ?_)
  refine wpAny_JoinedStr ?_
  refine wpAny_Constant_str ⟨_, _, rfl, by decide, ?_⟩
  have z0 : (Str.empty ++ ("row " : Str)).length = 4 := by decide
  have z1 : ((", column " : Str)).length = 9 := by decide
  have tr1 := place_text hr
  have tc1 := place_text hc
  have fit1 : ((Str.empty ++ ("row " : Str)) ++ Str.ofString (toString r)).length ≤ sizeLine := by
    rw [strLen_append, sizeLine_eq]
    omega
  have fit2 : (((Str.empty ++ ("row " : Str)) ++ Str.ofString (toString r)) ++ (", column " : Str)).length ≤ sizeLine := by
    rw [strLen_append, strLen_append, sizeLine_eq]
    omega
  have fit3 : ((((Str.empty ++ ("row " : Str)) ++ Str.ofString (toString r)) ++ (", column " : Str)) ++ Str.ofString (toString c)).length ≤ sizeLine := by
    rw [strLen_append, strLen_append, strLen_append, sizeLine_eq]
    omega
  refine wpAny_FormattedValue_plain (wpAny_Name (wpAny_loadName_local (v := .int r tr) rfl rfl ns2 (by first | rfl | kernel_rfl) ?_))
  refine wpAny_formatField_int hr ⟨_, _, rfl, fit1, ?_⟩
  refine wpAny_Constant_str ⟨_, _, rfl, fit2, ?_⟩
  refine wpAny_FormattedValue_plain (wpAny_Name (wpAny_loadName_local (v := .int c tc) rfl rfl ns2 (by first | rfl | kernel_rfl) ?_))
  refine wpAny_formatField_int hc ⟨_, _, rfl, fit3, fit3, ?_⟩
  refine spliced_nil ⟨mw2, ?_⟩
  refine bound_called (X.keeps all2 _ _ hC) (keep2 _ _ hx1) mw2 (by show 1 ≤ sizeLine; decide) fun h3 t3 keep3 hx3 => ?_
  have Lx : h.objs.size ≠ x := Nat.ne_of_gt (Heap.lt_size hx)
  have ns3 := ns2.at fun o e => keep3 _ _ Lx e
  have X2 : K.In h2 := X.keeps all2
  have X3 : K.In h3 := fun b o e => keep3 b o (fun z => by rw [z, nx] at e; cases e) (X2 b o e)
  -- self.row = row
  refine wpAt_of_wpAny (wpAny_execs_cons (plainObj_wpAny_Assign_Attribute ?_))
  refine wpAny_Name (wpAny_loadName_local (v := .int r tr) rfl rfl ns3 (by first | rfl | kernel_rfl) ?_)
  refine wpAny_Name (wpAny_loadName_local (v := .ref x) rfl rfl ns3 (by first | rfl | kernel_rfl) ?_)
  refine set_plain X3 (ox := excO C t3) (od := none) ⟨hx3, rfl, rfl, trivial⟩ T.oex.sa ?_
  refine exc_osa X3 hx3 hcl (show refsVE (.ref C :: bm) = true from hbm) rfl T.nr fun h4 tk4 dx keep4 big4 ne4 hx4 own4 => ?_
  have ns4 := ns3.at fun o e => keep4 _ _ Lx e
  have X4 : K.In h4 := fun b o e => keep4 b o (fun z => by rw [z, nx] at e; cases e) (X3 b o e)
  -- self.column = column
  refine wpAny_execs_cons (plainObj_wpAny_Assign_Attribute ?_)
  refine wpAny_Name (wpAny_loadName_local (v := .int c tc) rfl rfl ns4 (by first | rfl | kernel_rfl) ?_)
  refine wpAny_Name (wpAny_loadName_local (v := .ref x) rfl rfl ns4 (by first | rfl | kernel_rfl) ?_)
  obtain ⟨oD4, _, _, hoD4, _⟩ := id own4
  refine set_plain X4 (od := some oD4) ⟨hx4, rfl, rfl, hoD4⟩ T.oex.sa ?_
  have within4 : PySem.Within (fun y => if y = ("row" : Str) then some (Value.int r tr) else none) ["row"] := fun y hy => by
    by_cases e : y = "row"
    · rw [e]
      exact List.mem_cons_self
    · exact absurd (if_neg e) hy
  refine PySem.OEX.osa_old X4 hx4 own4 within4 (by decide) hcl (show refsVE (.ref C :: bm) = true from hbm) rfl T.nc fun h5 tk5 keep5 own5 => ?_
  refine wpAny_execs_nil (goal h5 _ dx t3 ?_)
  have dxbig : h.objs.size ≤ dx := Nat.le_trans (Nat.le_of_lt ns3.lt) big4
  exact ⟨fun b o ne e => keep5 b o (fun z => by
      have q : b < h.objs.size := Heap.lt_size e
      rw [z] at q
      exact absurd dxbig (Nat.not_le_of_lt q)) (keep4 b o ne (keep3 b o ne (all2 b o e))), keep5 _ _ (Ne.symm ne4) hx4, dxbig, ne4, own5⟩
end
end Rm

/-! E2: such an error made, raised, its fields read, its class asked. -/
namespace Rm
open PySem PySem.W PySem.Calls PyProof.Rows PySem.HandSPX
section
variable {prog : Program} {w : World} {A : Around} {E : Value → Shared → Prop} {R : Result → Shared → Prop} {h : Heap} {g : Array GenState} {d : Drawn} {t : Nat} {os : OsState} {K : Frag} {C : Addr}
theorem err_made {mg mb : Str → Option Value} {r c : Int} {tr tc : Tok} (T : ErrK prog K C) (X : K.In h) (G : h.Ns mainGlobals mg) (B : h.Ns builtinsNs mb) (bb : ∀ x : Str, x ≠ "__name__" → mb x = bootBuiltins x)
    (lim : h.NoLimit) (room : A.depth + 1 < recursionLimit) (hr : r.natAbs.log2 < 1920) (hc : c.natAbs.log2 < 1920)
    (goal : ∀ h' tk e dx t1, (∀ b o, h.get? b = some o → h'.get? b = some o) → h.objs.size ≤ e → h'.get? e = some { cls := .ref C, dict := some dx, data := .fields #[.ref t1, .none, .none, .none, .bool false, .none] } → h.objs.size ≤ dx → dx ≠ e →
      h'.Ns1 dx (fun y => if y = "column" then some (.int c tc) else if y = "row" then some (.int r tr) else none) → R (.ok (.ret (.ref e))) ⟨h', g, d, tk, os⟩) :
    codeAny (model prog w) A (.call (.ref C) ⟨[.int r tr, .int c tc], []⟩) R ⟨h, g, d, t, os⟩ := by
  obtain ⟨nm, q, N, bs, bm, sn, sub, ab, col, dd, k0, k1, k2, k3, k5, hC, hbm⟩ := T.oex.cls
  obtain ⟨D, cc, cda, fI, oc, ocd, oce, od, odd, ode, osl, osd, ose, cdD, vs, file, tf, dV, kV, doc, pm, ct, an, p1, p2, p3, a1, a2, a3, b1, b2, b3, c1, c2, d1, d2, e1, e2, f1, f2, f3, f4, g1, g2, g3, g4, k1', k2', ln, iI, tI, rest⟩ := T.fn
  clear rest
  have up : ∀ b o, h.get? b = some o → ((h.push (kdv_tup [.int r tr, .int c tc])).push (excO C h.objs.size)).get? b = some o := fun b o e => Heap.get?_push_of_some _ (Heap.get?_push_of_some _ e)
  have there : ((h.push (kdv_tup [.int r tr, .int c tc])).push (excO C h.objs.size)).get? (h.objs.size + 1) = some (excO C h.objs.size) := by heap_get
  have free : K.lookup (h.objs.size + 1) = none := by
    cases e : K.lookup (h.objs.size + 1) with
    | none => rfl
    | some o =>
      exact absurd (Nat.lt_of_succ_lt (show h.objs.size + 1 < h.objs.size from Heap.lt_size (X _ _ e))) (Nat.lt_irrefl _)
  refine call_own F.excBase_ValueError (fun Y => refsVE_contains Y bm hbm) (X _ _ hC) (looks_findIn X iI) (fun self => bind_fn X self tI) (by show 2 ≤ sizeLine; decide) ?_
  refine err_init T (X.keeps up) (G.keeps up) (B.keeps up) bb (lim.keeps up) there free ?_ hr hc iI fun h' tk dx t1 L => ?_
  · show A.depth + 1 < recursionLimit
    exact room
  · have old : ∀ b o, h.get? b = some o → h'.get? b = some o := fun b o e => L.keep b o (Nat.ne_of_lt (Nat.lt_succ_of_lt (Heap.lt_size e))) (up b o e)
    have big := L.big
    rw [Heap.size_push, Heap.size_push] at big
    exact ⟨rfl, goal h' tk (h.objs.size + 1) dx t1 old (Nat.le_succ _) L.obj (by omega) L.ne L.ns⟩
end
end Rm
namespace Rm
open PySem PySem.Spec PyProof.Rows L2
/-- an error's fields -/
def exF (r c : Int) : List (Str × V) := [("column", .int c), ("row", .int r)]
theorem exF_rel {r c : Int} {tr tc : Tok} (f : Str) : RelO ((exF r c).lookup f) (if f = "column" then some (Value.int c tc) else if f = "row" then some (Value.int r tr) else none) := by
  unfold exF
  by_cases e : f = "column"
  · subst e
    rw [if_pos rfl, show List.lookup ("column" : Str) [(("column" : Str), V.int c), ("row", .int r)] = some (.int c) by simp [List.lookup]]
    exact ⟨_, rfl⟩
  · rw [if_neg e, lookup_put, if_neg e]
    by_cases e2 : f = "row"
    · subst e2
      rw [if_pos rfl, show List.lookup ("row" : Str) [(("row" : Str), V.int r)] = some (.int r) by simp [List.lookup]]
      exact ⟨_, rfl⟩
    · rw [if_neg e2, lookup_put, if_neg e2]
      exact True.intro
section
variable {X : Cx} {C : Addr}
/-- C(row, column) -/
def tMkErr (C : Addr) (ta : TA) : L2.St → Hp → XK → Prop := fun σ H Q => ta σ H fun vs H1 => ∃ r c : Int, vs = [.int r, .int c] ∧ r.natAbs.log2 < 1920 ∧ c.natAbs.log2 < 1920 ∧ ∀ d, H1 d = none → Q (.ref C) (some d) (upd H1 d (.xd (exF r c)))
theorem pmk_err {n : Str} {es : List Expr} {e0 : Expr} {ta : TA} {p pos : Pos} {k : Nat} (T : ErrK X.prog X.K C) (hr : Room k X.A) (hm : X.mg n = some (.ref C)) (ha : PA X (e0 :: es) ta) (hg : Gl X n := by rfl) (hdb : (n == ("__debug__" : Str)) = false := by decide)
    (he : starEach (e0 :: es) X.env = (false, eval e0 X.env) :: starEach es X.env := by rfl) (hpl : (backTo pos (starEach es X.env)).any (·.1) = false := by rfl) :
    PMk X (.Call (.Name n p) (e0 :: es) [] pos) (tMkErr C ta) := by
  intro pins s σ H Q I h
  refine wpAny_Call_Name_kw (ld_glob I hg hm ?_ hdb)
  refine PySem.W.callWith_K (h₀ := X.base) I.ok.mod.kin T.oex.kC (thn (ha.run pos pins s σ H _ I h) fun us s1 hh => ?_) he hpl
  obtain ⟨vs, H1, I1, r1, r, c, ev, hlr, hlc, q1⟩ := hh
  subst ev
  refine ⟨I1.kIn, ?_⟩
  cases r1 with
  | cons rr rest =>
    cases rest with
    | cons rc rest =>
      cases rest
      obtain ⟨tr, rfl⟩ := rr
      obtain ⟨tc, rfl⟩ := rc
      show wpAny _ _ (call (.ref C) [.int r tr, .int c tc]) _ _ _
      have lim := I1.nolimit
      have e0' := I1.env0
      obtain ⟨mb, hb, hbb⟩ := e0'.mod.blt
      have kb : ∀ b o, X.base.get? b = some o → s1.heap.get? b = some o := fun b o e => (e0'.bs b o e).1
      have G1 := e0'.mod.glob.keeps kb
      have B1 := hb.keeps kb
      obtain ⟨hp, g, dr, tk, os⟩ := s1
      refine wpAny_call (err_made T I1.kIn G1 B1 hbb lim (by have := hr.dp; omega) hlr hlc fun h' tk' e d t1 old eb hoe db dne hns => ?_)
      show MkP X pins σ Q (.ref e) ⟨h', g, dr, tk', os⟩
      obtain ⟨G', gs, gn⟩ := restrict h' fun b => decide (b ≠ e)
      have gk : ∀ b, b ≠ e → G'.get? b = h'.get? b := fun b hb => gs b (decide_eq_true hb)
      have ge : G'.get? e = none := gn e (by simp)
      have keep : ∀ b o, hp.get? b = some o → G'.get? b = some o := fun b o q => (gk b (Nat.ne_of_lt (Nat.lt_of_lt_of_le (Heap.lt_size q) eb))).trans (old b o q)
      have dict : ObjOk X.prog X.w (upd H1 d (.xd (exF r c))) G' d (.xd (exF r c)) := ⟨_, hns.at (fun o q => (gk d dne).trans q), exF_rel⟩
      have J : Inv X pins σ (upd H1 d (.xd (exF r c))) ⟨G', g, dr, tk', os⟩ := I1.laid (t' := tk') keep db dict
      refine ⟨e, _, _, ⟨G', g, dr, tk', os⟩, _, .ref C, some d, rfl, J, fun b o q => ?_, ge, hoe, ⟨rfl, rfl⟩, rfl, rfl, ?_, rfl, I1.bare, raises_own T.oex.exC T.oex.tyC, q1 d (I1.hok.fresh db)⟩
      · by_cases hb : b = e
        · rw [hb] at q
          exact absurd (ge.symm.trans q) (by simp)
        · exact (gk b hb).symm.trans q
      · rw [upd_ne (Ne.symm dne)]
        exact I1.hok.fresh eb
/-- raise C(row, column) -/
def tRaiseErr (C : Addr) (W : WX) (ta : TA) : TS := fun _ σ H => tMkErr C ta σ H fun cls d H' => W cls d σ H'
theorem ps_err {n : Str} {es : List Expr} {e0 : Expr} {ta : TA} {W : WX} {p pos pos2 : Pos} {k : Nat} (hc : X.calm = true) (T : ErrK X.prog X.K C) (hr : Room k X.A) (tk : Takes X W) (hm : X.mg n = some (.ref C)) (ha : PA X (e0 :: es) ta) (hg : Gl X n := by rfl)
    (hdb : (n == ("__debug__" : Str)) = false := by decide) (he : starEach (e0 :: es) X.env = (false, eval e0 X.env) :: starEach es X.env := by rfl) (hpl : (backTo pos (starEach es X.env)).any (·.1) = false := by rfl) :
    PS X (.Raise (some (.Call (.Name n p) (e0 :: es) [] pos)) none pos2) (tRaiseErr C W ta) := ps_raise hc tk (pmk_err T hr hm ha hg hdb he hpl)
/-! ### its class asked: isinstance(e, ..) in the suite -/
theorem inst_at {C a : Addr} {d : Option Addr} {oe : Obj} {h : Heap} (hz : Zc (.ref C) d oe) (hf : ∃ vs, oe.data = .fields vs) (ha : h.get? a = some oe) (hd : ∀ x, d = some x → ∃ o, h.get? x = some o) : ∃ od, PySem.W.InstAt h a oe C od := by
  obtain ⟨oc, odc, odt, osl⟩ := oe
  obtain ⟨vs, hv⟩ := hf
  obtain ⟨z1, z2⟩ := hz
  dsimp only at z1 z2 hv
  subst z1 z2 hv
  cases odc with
  | none => exact ⟨none, ha, rfl, rfl, trivial⟩
  | some x =>
    obtain ⟨o, ho⟩ := hd x rfl
    exact ⟨some o, ha, rfl, rfl, ho⟩
/-- isinstance(e, c), e the error that the suite holds, c a class -/
def rIsX (K : PySem.W.Frag) (cls : Value) (d : Option Addr) (a : Addr) : List V → Hp → VK → Prop := fun xs H Q => ∃ (C : Addr) (c : V) (cv : Value) (b : Bool), cls = .ref C ∧ xs = [.ref a, c] ∧ ClsV c cv ∧ ExcC K C ∧ (∀ x, d = some x → ∃ fs, H x = some (.xd fs)) ∧ PySem.W.kitOne K (.ref C) cv = some b ∧ Q (.bl b) H
/-- isinstance(e, (c, ..)) -/
def rIsXT (K : PySem.W.Frag) (cls : Value) (d : Option Addr) (a : Addr) : List V → Hp → VK → Prop := fun xs H Q => ∃ (C tp : Addr) (cs : List V) (us : List Value) (b : Bool), cls = .ref C ∧ xs = [.ref a, .ref tp] ∧ H tp = some (.tup cs) ∧ Paired ClsV cs us ∧ ExcC K C ∧ (∀ x, d = some x → ∃ fs, H x = some (.xd fs)) ∧ PySem.W.kitAny K (.ref C) us = some b ∧ Q (.bl b) H
theorem call_isX {a : Addr} {oe : Obj} {cls : Value} {d : Option Addr} {pn : List (Addr × Obj)} (hz : Zc cls d oe) (hf : ∃ vs, oe.data = .fields vs) : CallR (X.suite a ((a, oe) :: pn)) (.builtin "isinstance") (rIsX X.K cls d a) := by
  intro pins s σ H xs us Q I r h
  obtain ⟨C, c, cv, b, rfl, rfl, k, T, hd, e, q⟩ := h
  obtain ⟨u1, u2, rfl, r1, r2⟩ := vals2 r
  have e2 := k.eq r2
  subst e2
  cases (show u1 = Value.ref a from r1)
  obtain ⟨at_, _⟩ := I.pin (a, oe) (List.mem_append.mpr (.inl List.mem_cons_self))
  obtain ⟨od, J⟩ := inst_at hz hf at_ fun x ex => by
    obtain ⟨fs, hx⟩ := hd x ex
    obtain ⟨mA, ⟨o, _, _, ho, _⟩, _⟩ := (show ObjOk X.prog X.w H s.heap x (.xd fs) from I.hok x _ hx)
    exact ⟨o, ho⟩
  have cl : (PySem.W.clsIn X.K C).isSome = true := by
    obtain ⟨cd, hc, _⟩ := PySem.W.any_some T.hd
    rw [hc]
    rfl
  exact PySem.W.kia_one (PySem.W.kitx_exc cl T.hg T.hk T.hs T.ha T.hn T.ht T.hm) I.kIn J e (fun z => nomatch z) fun tk => ⟨.bl b, H, I.kept (t' := tk) fun _ _ z => z, rfl, q⟩
theorem call_isXT {a : Addr} {oe : Obj} {cls : Value} {d : Option Addr} {pn : List (Addr × Obj)} (hz : Zc cls d oe) (hf : ∃ vs, oe.data = .fields vs) : CallR (X.suite a ((a, oe) :: pn)) (.builtin "isinstance") (rIsXT X.K cls d a) := by
  intro pins s σ H xs us Q I r h
  obtain ⟨C, tp, cs, ws, b, rfl, rfl, hT, k, T, hd, e, q⟩ := h
  obtain ⟨u1, u2, rfl, r1, r2⟩ := vals2 r
  cases (show u1 = Value.ref a from r1)
  cases (show u2 = Value.ref tp from r2)
  obtain ⟨at_, _⟩ := I.pin (a, oe) (List.mem_append.mpr (.inl List.mem_cons_self))
  obtain ⟨od, J⟩ := inst_at hz hf at_ fun x ex => by
    obtain ⟨fs, hx⟩ := hd x ex
    obtain ⟨mA, ⟨o, _, _, ho, _⟩, _⟩ := (show ObjOk X.prog X.w H s.heap x (.xd fs) from I.hok x _ hx)
    exact ⟨o, ho⟩
  obtain ⟨_, its, rv, o, t1, t2, n, t3⟩ := (show ObjOk X.prog X.w H s.heap tp (.tup cs) from I.hok tp _ hT)
  have e3 := ClsV.all k rv
  subst e3
  obtain ⟨oc, od', dt, sl⟩ := o
  simp only at t2 t3
  subst t2 t3
  have cl : (PySem.W.clsIn X.K C).isSome = true := by
    obtain ⟨cd, hc, _⟩ := PySem.W.any_some T.hd
    rw [hc]
    rfl
  exact PySem.W.kia_tup (PySem.W.kitx_exc cl T.hg T.hk T.hs T.ha T.hn T.ht T.hm) I.kIn J t1 e (fun z => nomatch z) fun tk => ⟨.bl b, H, I.kept (t' := tk) fun _ _ z => z, rfl, q⟩
end
end Rm

/-! E3: try with several clauses, each with a name. -/
namespace Rm
open PySem PySem.Spec PyProof.Rows L2
abbrev Sfn := Addr → Value → Option Addr → TS
/-- behind a suite the name is gone -/
def goneD (i : Nat) (D : Ends) : Ends := { nx := fun τ G => D.nx (τ.set i none) G, rt := D.rt, bk := fun τ G => D.bk (τ.set i none) G, ct := fun τ G => D.ct (τ.set i none) G }
/-- what the clauses 'except c as n' (n's slot) wish of the body's error -/
def wishes (K : PySem.W.Frag) (out : WX) (D : Ends) : List (Value × Nat × Sfn) → WX
  | [] => out
  | (c, i, f) :: more => fun cls d τ G => ∃ hit, PySem.W.exmOne K cls c = some hit ∧ (hit = true → ∀ a, G a = none → f a cls d (goneD i D) (τ.set i (some (.ref a))) G) ∧ (hit = false → wishes K out D more cls d τ G)
/-- the clauses -/
inductive Clauses (X : Cx) : List ExceptHandler → List (Value × Nat × Sfn) → Prop
  | nil : Clauses X [] []
  | cons {x n : Str} {c : Value} {i : Nat} {f : Sfn} {b0 : Stmt} {bs : List Stmt} {p1 p2 : Pos} {more : List ExceptHandler} {l : List (Value × Nat × Sfn)} (is : Names X x c) (slot : X.N[i]? = some n) (loc : X.env.kindOf n = some .local)
      (suite : ∀ (a : Addr) (oe : Obj) (cls : Value) (d : Option Addr) (pn : List (Addr × Obj)), Zc cls d oe → (∃ vs, oe.data = .fields vs) → PSs (X.suite a ((a, oe) :: pn)) (b0 :: bs) (f a cls d)) (rest : Clauses X more l) :
      Clauses X (.ExceptHandler (some (.Name x p1)) (some n) (b0 :: bs) p2 :: more) ((c, i, f) :: l)
/-- an error that has landed in its frame: at a, its class cls, its dict d; s1 what stands now, s0 what stood where it was raised -/
structure Landed (X : Cx) (pins : List (Addr × Obj)) (τ : L2.St) (G : Hp) (B : Heap) (a : Addr) (cls : Value) (d : Option Addr) (s0 s1 : Shared) : Prop where
  ok : X.Ok
  inv : Inv X pins τ G s0
  stack : X.stack = X.env :: X.outer
  frame : X.env.frame = some X.env.locals
  nb : ∀ b o, s0.heap.get? b = some o → b ∉ frs X.stack → B.get? b = some o
  up : s0.heap.UpToSlots s1.heap
  fly : HandSPX.FlyingZ B (X.env :: X.outer) a (Zc cls d) s1.heap
  na : G a = none
  os : s1.os = s0.os
  ag : AllBare s1.gens
section
variable {X : Cx} {pins : List (Addr × Obj)} {τ : L2.St} {G : Hp} {B : Heap} {a : Addr} {cls : Value} {d : Option Addr} {s0 s1 : Shared}
theorem Landed.now (L : Landed X pins τ G B a cls d s0 s1) : Inv X pins τ G s1 := L.inv.landed L.nb L.fly.1 L.up L.os L.ag
theorem Landed.next (L : Landed X pins τ G B a cls d s0 s1) {h : Heap} (fly : HandSPX.FlyingZ B (X.env :: X.outer) a (Zc cls d) h) (up : s1.heap.UpToSlots h) : Landed X pins τ G B a cls d s0 { s1 with heap := h } :=
  ⟨L.ok, L.inv, L.stack, L.frame, L.nb, L.up.trans up, fly, L.na, L.os, L.ag⟩
/-- it is no frame of those that run -/
theorem Landed.apart (L : Landed X pins τ G B a cls d s0 s1) : ∃ oe vs, s1.heap.get? a = some oe ∧ Zc cls d oe ∧ oe.data = .fields vs ∧ a ≠ X.env.locals ∧ a ∉ X.fs := by
  obtain ⟨oe, vs, e, z, dt⟩ := L.fly.there
  have away : a ∉ frs (X.env :: X.outer) := by
    intro mem
    obtain ⟨_, o2, e2, no⟩ := L.fly.2.2.1.mem mem
    rw [e] at e2
    cases e2
    exact no _ dt
  refine ⟨oe, vs, e, z, dt, ?_, ?_⟩
  · intro same
    refine away (List.mem_filterMap.mpr ⟨X.env, List.mem_cons_self, ?_⟩)
    rw [L.frame, same]
  · intro mem
    obtain ⟨en, m, q⟩ := List.mem_filterMap.mp mem
    exact away (List.mem_filterMap.mpr ⟨en, List.mem_cons_of_mem _ m, q⟩)
/-- no clause is left -/
theorem Landed.out {D : Ends} {W : WX} (L : Landed X pins τ G B a cls d s0 s1) (tk : Takes X W) (w : W cls d τ G) : wpAny (model X.prog X.w) X.A (handleBy (.ref a) X.env []) (SP X pins D) X.xe s1 := by
  have fl := L.fly
  obtain ⟨_, _, _, oe, vs, tb, ob, tt, e, z, dt, first_, _⟩ := id fl
  apply wpAny_handleBy_nil
  unfold PySem.passOn
  apply wpAny_bind
  apply wpAny_field e dt first_
  have no : ¬ ((Value.ref tb == Value.none) = true) := by simp
  rw [if_neg no]
  have last : wpAny (model X.prog X.w) X.A (setFlight (.ref a) X.env.frame) (fun _ s4 => wpAny (model X.prog X.w) X.A (throw (.ref a) : Sem Flow) (SP X pins D) X.xe s4) X.xe s1 := by
    rw [L.frame]
    apply HandSPX.setFlight_upZ fl
    intro h4 held up4
    apply wpAny_throw
    refine tk _ _ ⟨a, B, s0, pins, τ, G, cls, d, rfl, L.inv, L.nb, L.up.trans up4, .inr (.inr ?_), L.na, L.os, L.ag, w⟩
    rw [L.stack]
    exact held
  first
    | exact wpAny_bind (wpAny_pure (wpAny_bind last))
    | exact wpAny_bind last
/-- the class that the clause names -/
theorem Landed.named {x : Str} {c : Value} {p : Pos} (L : Landed X pins τ G B a cls d s0 s1) (is : Names X x c) {Q : Value → Shared → Prop} {E : Value → Shared → Prop} (q : Q c s1) :
    wpAny (model X.prog X.w) (X.A.mark (some (.ref a))) (eval (.Name x p) X.env) Q E s1 := by
  obtain ⟨oe, vs, e, z, dt, n1, n2⟩ := L.apart
  have S := L.now.suite e dt L.na n1 n2
  obtain ⟨g, dbg, own | ⟨none_, blt, nn⟩⟩ := is
  · exact ld_glob (X := X.suite a ((a, oe) :: (X.pn ++ pins))) S g own q dbg
  · exact ld_blt (X := X.suite a ((a, oe) :: (X.pn ++ pins))) S g none_ blt q nn dbg
theorem Landed.clauses {D : Ends} {W : WX} (tk : Takes X W) (nd : X.N.Nodup) : ∀ {hs : List ExceptHandler} {l : List (Value × Nat × Sfn)}, Clauses X hs l → ∀ {s1 : Shared}, Landed X pins τ G B a cls d s0 s1 → wishes X.K W D l cls d τ G →
    wpAny (model X.prog X.w) X.A (handleBy (.ref a) X.env hs) (SP X pins D) X.xe s1 := by
  intro hs l cl
  induction cl with
  | nil => exact fun L w => L.out tk w
  | @cons x n c i f b0 bs p1 p2 more l is slot loc suite rest ih =>
    intro s1 L w
    obtain ⟨hit, asked, yes, no⟩ := w
    obtain ⟨oe, vs, e, z, dt, n1, n2⟩ := L.apart
    apply wpAny_handleBy_cons
    · apply codeAny_handlers_test
      have typ : PySem.W.Looks (model X.prog X.w) s1.heap (typeOf (.ref a)) cls := fun _ _ _ _ keep q => wpAny_typeOf_ref (keep _ _ e) (by rw [z.1]; exact q)
      refine L.named is ((PySem.W.exm_one (M := model X.prog X.w) L.now.kIn typ asked).here ?_)
      cases hit with
      | false => exact ih L (no rfl)
      | true =>
        apply codeAny_handlers_suite_as
        apply HandSPX.lands_againZ L.fly
        intro h4 fly4 up4
        have L4 := L.next fly4 up4
        obtain ⟨oe4, vs4, e4, z4, dt4, m1, m2⟩ := L4.apart
        refine store_ok (X := X.suite a ((a, oe4) :: (X.pn ++ pins))) (v := .ref a) (L4.now.suite e4 dt4 L4.na m1 m2) nd slot (.inl loc) rfl (fun s5 I5 => ?_) (.inr loc)
        refine wpAny_mono ((suite a oe4 cls d (X.pn ++ pins) z4 ⟨_, dt4⟩).run [] s5 _ G _ I5 (yes rfl a L.na)) (fun fl s6 got => ?_) (fun _ _ never => never.elim)
        have close : ∀ {τ6 : L2.St} {G6 : Hp} {Z : Shared → Prop}, Inv (X.suite a ((a, oe4) :: (X.pn ++ pins))) [] τ6 G6 s6 → (∀ s7, Inv X pins (τ6.set i none) G6 s7 → Z s7) →
            wpAny (model X.prog X.w) X.A (do bindName X.env n .none; unbindBehindTheSuite X.env n p2) (fun _ s7 => Z s7) X.xe s6 := fun I6 z7 => gone_ok (I6.unsuite L.ok) nd slot loc z7
        cases fl with
        | ret u =>
          obtain ⟨v6, τ6, G6, I6, rv, q6⟩ := got
          exact close I6 fun s7 I7 => ⟨v6, _, G6, I7, rv, q6⟩
        | next =>
          obtain ⟨τ6, G6, I6, q6⟩ := got
          exact close I6 fun s7 I7 => ⟨_, G6, I7, q6⟩
        | brk =>
          obtain ⟨τ6, G6, I6, q6⟩ := got
          exact close I6 fun s7 I7 => ⟨_, G6, I7, q6⟩
        | cont =>
          obtain ⟨τ6, G6, I6, q6⟩ := got
          exact close I6 fun s7 I7 => ⟨_, G6, I7, q6⟩
    · intro q
      cases q
end
/-- its reading -/
def tTry (K : PySem.W.Frag) (out : WX) (tb : WX → TS) (l : List (Value × Nat × Sfn)) : TS := fun D τ G => tb (wishes K out D l) D τ G
/-- try: body, clauses with names -/
theorem ps_try_named {X : Cx} {body : List Stmt} {c0 : ExceptHandler} {cs : List ExceptHandler} {l : List (Value × Nat × Sfn)} {pos : Pos} {tb : WX → TS} {out : WX} (stk : X.stack = X.env :: X.outer) (fr : X.env.frame = some X.env.locals) (nd : X.N.Nodup) (tk : Takes X out)
    (inner : ∀ (W : WX) (pn : List (Addr × Obj)) (xe : Value → Shared → Prop), Takes (X.tr pn xe) W → PassesOwn (model X.prog X.w) X.A X.env xe → PSs (X.tr pn xe) body (tb W)) (cl : Clauses X (c0 :: cs) l) :
    PS X (.Try body (c0 :: cs) [] [] pos) (tTry X.K out tb l) := by
  constructor
  intro pins s τ G D I h
  have ok := I.ok
  have frames : X.A.frames = some (X.env :: X.outer) := by rw [ok.frames, stk]
  apply wpAny_Try_except
  have caught : Takes (X.tr (X.pn ++ pins) fun e s₁ => wpAny (model X.prog X.w) X.A (noteFrame e X.env) (fun _ s₂ => wpAny (model X.prog X.w) X.A (setFlight e none) (fun _ s₃ => wpAny (model X.prog X.w) X.A (handleBy e X.env (c0 :: cs)) (SP X pins D) X.xe s₃) X.xe s₂) X.xe s₁)
      (wishes X.K out D l) := by
    intro u s1 xx
    obtain ⟨a, B, s0, pins1, τ1, G1, cls, d, rfl, J, nb, up, sky, na, os, ag, w⟩ := xx
    have sky' : Sky B (X.env :: X.outer) a (Zc cls d) X.env.locals s1.heap := by
      rw [← stk]
      exact sky
    apply Sky.land Zc.steady frames fr sky'
    intro h3 fly3 up3
    exact Landed.clauses tk nd cl ⟨ok, J.ofTry ok, stk, fr, nb, up.trans up3, fly3, na, os, ag⟩ w
  refine wpAny_mono ((inner _ _ _ caught PassesOwn.looking).run [] s τ G D (I.toTry _) h) (fun fl s1 got => ?_) (fun _ _ e => e)
  cases fl with
  | ret u =>
    obtain ⟨v, τ1, G1, J, rv, q⟩ := got
    exact ⟨v, τ1, G1, J.ofTry ok, rv, q⟩
  | brk =>
    obtain ⟨τ1, G1, J, q⟩ := got
    exact ⟨τ1, G1, J.ofTry ok, q⟩
  | cont =>
    obtain ⟨τ1, G1, J, q⟩ := got
    exact ⟨τ1, G1, J.ofTry ok, q⟩
  | next =>
    obtain ⟨τ1, G1, J, q⟩ := got
    exact wpAny_execs_nil ⟨τ1, G1, J.ofTry ok, q⟩
end Rm

/-! E4: what is asked of the written part for such errors; the head's facts with a def that has a cell. -/
namespace Rm
open PySem PySem.Spec PyProof.Rows L2
def tailB (C : Addr) : List Value → Bool
  | .ref D :: bm => decide (D = C) && PySem.HandSPX.refsVE bm
  | _ => false
def newB : List (Option Value) → Bool
  | [_, _, _, _, some (.builtin n), _] => decide (n = "ValueError.__new__")
  | _ => false
def clsB (K : PySem.W.Frag) (C : Addr) : Bool := match K.lookup C with
  | some ⟨.type "type", _, .cls cd, sl⟩ => tailB C cd.mro && (newB sl.toList && (!cd.hasDel && cd.hasDict))
  | _ => false
theorem tailB_ok {C : Addr} {l : List Value} (h : tailB C l = true) : ∃ bm, l = .ref C :: bm ∧ PySem.HandSPX.refsVE bm = true := by
  unfold tailB at h
  split at h
  · obtain ⟨e, q⟩ := He.ba h
    have e := of_decide_eq_true e
    subst e
    exact ⟨_, rfl, q⟩
  · cases h
theorem newB_ok {l : List (Option Value)} (h : newB l = true) : ∃ k0 k1 k2 k3 k5, l = [k0, k1, k2, k3, some (.builtin "ValueError.__new__"), k5] := by
  unfold newB at h
  split at h
  · have e := of_decide_eq_true h
    subst e
    exact ⟨_, _, _, _, _, rfl⟩
  · cases h
theorem clsB_ok {K : PySem.W.Frag} {C : Addr} (h : clsB K C = true) : ∃ nm q N bs bm sn sub ab col dd k0 k1 k2 k3 k5, K.lookup C = some (excClassObj nm q C N bs bm true sn sub ab col dd k0 k1 k2 k3 k5 "ValueError.__new__") ∧ PySem.HandSPX.refsVE bm = true := by
  unfold clsB at h
  split at h
  · rename_i dd cd sl look
    obtain ⟨h1, h⟩ := He.ba h
    obtain ⟨h2, h⟩ := He.ba h
    obtain ⟨h3, h4⟩ := He.ba h
    obtain ⟨bm, e1, tail⟩ := tailB_ok h1
    obtain ⟨k0, k1, k2, k3, k5, e2⟩ := newB_ok h2
    obtain ⟨nm, bs, mro, ns, qn, hd, sn, sub, ab, col, del⟩ := cd
    obtain ⟨sll⟩ := sl
    dsimp only at e1 e2 h3 h4
    subst e1 e2 h4
    have e3 : del = false := by simpa using h3
    subst e3
    exact ⟨nm, qn, ns, bs, bm, sn, sub, ab, col, dd, k0, k1, k2, k3, k5, look, tail⟩
  · cases h
/-- the def with a cell -/
abbrev CelW : Type := Option (Str × Str × Arguments × FuncBody × Scope × Addr × List Str × Addr)
def celW (K : PySem.W.Frag) (f : Addr) : CelW := match K.lookup f with
  | some ⟨_, _, .func fd, _⟩ => some (fd.name, fd.qualname, fd.params, fd.body, fd.scope, fd.globals, fd.closure.map (·.1), fd.builtins)
  | _ => none
def celV (name qual : Str) (st : Stmt) : CelW := some (name, qual, defArgs st, .stmts (defBody st), defScope st, mainGlobals, ["__class__"], builtinsNs)
def codB (K : PySem.W.Frag) (file : Str) : Value → Bool
  | .ref c => (match K.lookup c with
    | some ⟨_, _, .fields vs, _⟩ => (match (vs[2]? : Option Value) with
      | some (Value.str z _) => decide (z = file)
      | _ => false)
    | _ => false)
  | _ => false
theorem codB_ok {K : PySem.W.Frag} {file : Str} {v : Value} (h : codB K file v = true) : ∃ c oc od vs sl t, v = .ref c ∧ K.lookup c = some ⟨oc, od, .fields vs, sl⟩ ∧ vs[2]? = some (.str file t) := by
  unfold codB at h
  split at h
  · split at h
    · rename_i look
      split at h
      · rename_i e
        have z := of_decide_eq_true h
        subst z
        exact ⟨_, _, _, _, _, _, rfl, look, e⟩
      · cases h
    · cases h
  · cases h
def ownB (K : PySem.W.Frag) (C : Addr) : List (Str × Addr) → Bool
  | [(_, cc)] => (match K.lookup cc with
    | some ⟨_, _, .cell (some (.ref D)), _⟩ => (PySem.W.clsIn K D).isSome && (decide (PySem.W.mroIn K C (.ref D) = some true) && decide (PySem.W.ks_superIn K C D "__init__" = some (some (.builtin "ValueError.__init__"))))
    | _ => false)
  | _ => false
theorem ownB_ok {K : PySem.W.Frag} {C : Addr} {l : List (Str × Addr)} (h : ownB K C l = true) : ∃ x cc oc od sl D cd, l = [(x, cc)] ∧ K.lookup cc = some ⟨oc, od, .cell (some (.ref D)), sl⟩ ∧ PySem.W.clsIn K D = some cd ∧ PySem.W.mroIn K C (.ref D) = some true ∧
    PySem.W.ks_superIn K C D "__init__" = some (some (.builtin "ValueError.__init__")) := by
  unfold ownB at h
  split at h
  · split at h
    · rename_i look
      obtain ⟨h1, h⟩ := He.ba h
      obtain ⟨h2, h3⟩ := He.ba h
      obtain ⟨cd, e⟩ := Option.isSome_iff_exists.mp h1
      exact ⟨_, _, _, _, _, _, cd, rfl, look, e, of_decide_eq_true h2, of_decide_eq_true h3⟩
    · cases h
  · cases h
def noneB : Value → Bool
  | .none => true
  | _ => false
theorem noneB_ok {v : Value} (h : noneB v = true) : v = .none := by
  unfold noneB at h
  split at h
  · rfl
  · cases h
/-- what is asked of the class at C and of its __init__ -/
def errB (K : PySem.W.Frag) (file : Str) (C : Addr) : Bool :=
  clsB K C && (decide (PySem.W.findIn K (.ref C) "__setattr__" = some (some (.builtin "object.__setattr__"))) && (decide (PySem.W.subIn K (.ref C) (.type "BaseException") = some true) && (decide (PySem.W.typeIn K (.ref C) = some (.type "type")) && (PySem.W.keepIn K (.ref C) &&
  (decide (PySem.W.findIn K (.ref C) "row" = some none) && (decide (PySem.W.findIn K (.ref C) "column" = some none) && (decide (PySem.W.subIn K (.ref C) (.type "ValueError") = some true) && (decide (PySem.W.nsIn K mainGlobals "super" = some none) &&
  (decide (PySem.W.nsIn K cStatics "thirdparty.any" = some none) && (decide (PySem.W.findIn K (.ref C) "__init__" = some (some (.ref (He.ma K C "__init__")))) && (decide (PySem.W.typeIn K (.ref (He.ma K C "__init__")) = some (.type "function")) &&
  (match K.lookup (He.ma K C "__init__") with
    | some ⟨_, _, .func fd, _⟩ => noneB fd.defaults && (PySem.W.codeIn K fd.code fd.qualname && (codB K file fd.code && ownB K C fd.closure))
    | _ => false))))))))))))
/-- its class asked -/
def excB (K : PySem.W.Frag) (C : Addr) : Bool :=
  decide (PySem.W.findIn K (.ref C) "__getattribute__" = some (some (.builtin "BaseException.__getattribute__"))) && (decide (PySem.W.findIn K (.ref C) "__getattr__" = some none) && (decide (PySem.W.subIn K (.ref C) (.type "BaseException") = some true) && (PySem.W.hasDictIn K C &&
  (decide (PySem.W.findIn K (.ref C) "__class__" = some (some (.builtin "object.__class__"))) && (decide (PySem.W.specialIn K (.builtin "object.__class__") "__get__" = some (some (.builtin "getset_descriptor.__get__"))) &&
  (decide (PySem.W.takesIn K (.builtin "object.__class__") = some true) && decide (PySem.W.mroIn K C (.type "object") = some true)))))))
theorem excB_ok {K : PySem.W.Frag} {C : Addr} (h : excB K C = true) : ExcC K C := by
  obtain ⟨h1, h⟩ := He.ba h
  obtain ⟨h2, h⟩ := He.ba h
  obtain ⟨h3, h⟩ := He.ba h
  obtain ⟨h4, h⟩ := He.ba h
  obtain ⟨h5, h⟩ := He.ba h
  obtain ⟨h6, h⟩ := He.ba h
  obtain ⟨h7, h8⟩ := He.ba h
  exact ⟨of_decide_eq_true h1, of_decide_eq_true h2, of_decide_eq_true h3, h4, of_decide_eq_true h5, of_decide_eq_true h6, of_decide_eq_true h7, of_decide_eq_true h8⟩
theorem xf_of {K : PySem.W.Frag} {C : Addr} (T : ExcC K C) : XfC K C := ⟨T.hg, T.hk, T.hs, T.hd⟩
/-- the text of __init__, as it is written -/
def TeIs (st : Stmt) : Prop := ∃ (p1 p2 p3 a1 a2 a3 b1 b2 b3 c1 c2 d1 d2 e1 e2 f1 f2 f3 f4 g1 g2 g3 g4 : Pos) (k1 k2 : Nat), defArgs st = teA p1 p2 p3 ∧ defBody st = teB a1 a2 a3 b1 b2 b3 c1 c2 d1 d2 e1 e2 f1 f2 f3 f4 g1 g2 g3 g4 k1 k2 ∧ defScope st = teS ∧ (a3.endLine == e1.line) = true
theorem errB_ok {P : Program} {K : PySem.W.Frag} {file : Str} {C : Addr} {st : Stmt} (h : errB K file C = true) (e : celW K (He.ma K C "__init__") = celV "__init__" "TextError.__init__" st) (te : TeIs st) (top : (P.main.scope.names.lookup ("super" : Str)).isSome = false) (pf : ((P.main.file : Str) == file) = true) : ErrK P K C := by
  obtain ⟨h1, h⟩ := He.ba h
  obtain ⟨h2, h⟩ := He.ba h
  obtain ⟨h3, h⟩ := He.ba h
  obtain ⟨h4, h⟩ := He.ba h
  obtain ⟨h5, h⟩ := He.ba h
  obtain ⟨h6, h⟩ := He.ba h
  obtain ⟨h7, h⟩ := He.ba h
  obtain ⟨h8, h⟩ := He.ba h
  obtain ⟨h9, h⟩ := He.ba h
  obtain ⟨h10, h⟩ := He.ba h
  obtain ⟨h11, h⟩ := He.ba h
  obtain ⟨h12, h⟩ := He.ba h
  refine ⟨⟨clsB_ok h1, of_decide_eq_true h2, of_decide_eq_true h3, of_decide_eq_true h4, h5⟩, of_decide_eq_true h6, of_decide_eq_true h7, of_decide_eq_true h8, of_decide_eq_true h9, of_decide_eq_true h10, top, ?_⟩
  obtain ⟨p1, p2, p3, a1, a2, a3, b1, b2, b3, c1, c2, d1, d2, e1, e2, f1, f2, f3, f4, g1, g2, g3, g4, k1, k2, t1, t2, t3, t4⟩ := te
  unfold celW celV at e
  split at h
  · rename_i oc od fd osl look
    rw [look] at e
    obtain ⟨q1, h⟩ := He.ba h
    obtain ⟨q2, h⟩ := He.ba h
    obtain ⟨q3, q4⟩ := He.ba h
    obtain ⟨n1, n2, n3, n4, n5, n6, n7, n8, n9, n10, n11, n12, n13, n14, n15⟩ := fd
    have e' : (some (n1, n2, n3, n4, n5, n6, n7.map (·.1), n15) : CelW) = some (("__init__" : Str), ("TextError.__init__" : Str), defArgs st, FuncBody.stmts (defBody st), defScope st, mainGlobals, [("__class__" : Str)], builtinsNs) := e
    simp only [Option.some.injEq, Prod.mk.injEq] at e'
    obtain ⟨m1, m2, m3, m4, m5, m6, m7, m8⟩ := e'
    dsimp only at q1 q2 q3 q4
    obtain ⟨x, cc, oce, ode, ose, D, cd, l1, l2, l3, l4, l5⟩ := ownB_ok q4
    obtain ⟨c, ocd, odd, vs, osd, tt, v1, v2, v3⟩ := codB_ok q3
    have q0 := noneB_ok q1
    subst l1
    have m7' : x = "__class__" := by simpa using m7
    rw [t1] at m3
    rw [t2] at m4
    rw [t3] at m5
    subst m1 m2 m3 m4 m5 m6 m7' m8 v1 q0
    exact ⟨D, cc, c, _, oc, ocd, oce, od, odd, ode, osl, osd, ose, cd, vs, file, tt, .none, n9, n10, n11, n14, n12, p1, p2, p3, a1, a2, a3, b1, b2, b3, c1, c2, d1, d2, e1, e2, f1, f2, f3, f4, g1, g2, g3, g4, k1, k2, t4, of_decide_eq_true h11, of_decide_eq_true h12, look, q2, v2, v3, pf, l2, l3, l4, l5⟩
  · cases h
end Rm

/-! D1: dicts of the module with texts as keys: what is at a key, there or not; a def that a slot holds, called, with what it lets out. -/
namespace Rm
open PySem PySem.Spec PyProof.Rows L2
/-- entries, one by one -/
inductive Ents (w : World) : List DictEntry → List (Str × V) → Prop
  | nil : Ents w [] []
  | cons {e : DictEntry} {x : Str} {t : Tok} {v : V} {es : List DictEntry} {l : List (Str × V)} (k : e.key = .str x t) (h : e.hash = PyData.keyHash w.params x) (r : RelV v e.val) (m : Ents w es l) : Ents w (e :: es) ((x, v) :: l)
/-- the dict at a holds just l -/
def KD (K : PySem.W.Frag) (w : World) (a : Addr) (l : List (Str × V)) : Prop := ∃ es n, K.lookup a = some ⟨.type "dict", none, .dict es n, #[]⟩ ∧ Ents w es.toList l ∧ (a == sysModules) = false
theorem Ents.lit {w : World} : ∀ {es : List DictEntry} {l : List (Str × V)}, Ents w es l → PySem.W.KeysLit w.params es
  | _, _, .nil => True.intro
  | _, _, .cons k h _ m => ⟨⟨_, _, k, h⟩, m.lit⟩
theorem Ents.find {w : World} {z : Str} : ∀ {es : List DictEntry} {l : List (Str × V)}, Ents w es l → RelO (l.lookup z) ((es.find? fun e => Value.isStrOf z e.key).map (·.val))
  | _, _, .nil => True.intro
  | _, _, .cons (e := e) (x := x) (t := t) (v := v) (es := es) (l := l) k h r m => by
    rw [List.find?_cons, k]
    have q : Value.isStrOf z (.str x t) = decide (x = z) := by
      by_cases hz : x = z <;> simp [Value.isStrOf, hz]
    rw [q]
    by_cases hz : x = z
    · subst hz
      rw [decide_eq_true rfl, show ((x, v) :: l).lookup x = some v by simp [List.lookup]]
      exact r
    · rw [decide_eq_false hz]
      have e2 : (z == x) = false := by
        simpa using fun y => hz y.symm
      rw [show ((x, v) :: l).lookup z = l.lookup z by simp [List.lookup, e2]]
      exact m.find
theorem KD.map {X : Cx} {pins : List (Addr × Obj)} {σ : L2.St} {H : Hp} {s : Shared} {a : Addr} {l : List (Str × V)} (I : Inv X pins σ H s) (d : KD X.K X.w a l) :
    ∃ f : Str → Option Value, s.heap.MapOf (strKind X.prog X.w) a f ∧ (a == sysModules) = false ∧ ∀ z, RelO (l.lookup z) (f z) := by
  obtain ⟨es, n, hl, ent, na⟩ := d
  refine ⟨_, PySem.W.mapOf_K (prog := X.prog) (w := X.w) I.kIn hl ent.lit, na, fun z => ?_⟩
  have q := ent.find (z := z)
  obtain ⟨es⟩ := es
  show RelO _ (((⟨es⟩ : Array DictEntry).find? fun e => Value.isStrOf z e.key).map (·.val))
  rw [List.find?_toArray]
  exact q
/-- d.get(e, f) -/
def tKGet2 (K : PySem.W.Frag) (w : World) (td ty tx : TE) : TE := fun σ H Q => td σ H fun x H1 => ∃ a l, x = .ref a ∧ KD K w a l ∧ ty σ H1 fun y H2 => tx σ H2 fun z H3 => ∃ k, y = .str k ∧ Q ((l.lookup k).getD z) H3
/-- e in d -/
def tKIn (K : PySem.W.Frag) (w : World) (ty td : TE) : TE := fun σ H Q => ty σ H fun y H1 => td σ H1 fun x H2 => ∃ a l k, x = .ref a ∧ y = .str k ∧ KD K w a l ∧ Q (.bl (l.lookup k).isSome) H2
/-- d[e], there -/
def rKIx (K : PySem.W.Frag) (w : World) : R2 := fun x y H Q => ∃ a l k v, x = .ref a ∧ y = .str k ∧ KD K w a l ∧ l.lookup k = some v ∧ Q v H
section
variable {X : Cx} {o e f : Expr} {apos cpos : Pos} {td ty tx : TE}
theorem pe_kget2 (ho : PE X o td) (he : PE X e ty) (hf : PE X f tx) (m : M2 X o "get" apos e f cpos) : PE X (.Call (.Attribute o "get" apos) [e, f] [] cpos) (tKGet2 X.K X.w td ty tx) := by
  constructor
  intro pins s σ H Q I h
  apply wpAny_Call_method m.base m.few m.line PySem.F.plainAttrs_dict PySem.F.slot_dict_get PySem.F.type_dict_get
  refine thn (ho.run pins s σ H _ I h) fun u s1 hh => ?_
  obtain ⟨x, H1, I1, rx, a, l, ex, d, q1⟩ := hh
  subst ex
  obtain rfl : u = Value.ref a := rx
  obtain ⟨fn, mp, na, rel⟩ := d.map I1
  refine ⟨mp.typeIs, fun b q => ?_, ?_⟩
  · cases q
    obtain ⟨_, _, _, h1, h2, _⟩ := mp
    exact ⟨_, h1, h2.2.1⟩
  rw [m.trees]
  apply Calls.callWith_builtin rfl
  apply Calls.evalArgs_plain
  refine Calls.spliced_cons (thn (he.run pins s1 σ H1 _ I1 q1) fun iv s2 h2 => ?_)
  obtain ⟨y, H2, I2, ry, q2⟩ := h2
  refine Calls.spliced_cons (thn (hf.run pins s2 σ H2 _ I2 q2) fun fv s3 h3 => Calls.spliced_nil ?_)
  obtain ⟨z, H3, I3, rz, k, ey, q3⟩ := h3
  subst ey
  obtain ⟨t, rfl⟩ := ry
  obtain ⟨fn, mp, na, rel⟩ := d.map I3
  refine call_meetsIn PySem.F.slot_dict_get mp.typeIs PySem.F.entry_dict_get (PySem.F.args_dict_get_3 _ _ _) (meets_dict_get_default (strKind X.prog X.w) a (strKind_is X.prog X.w k t) na fv) ⟨fn, mp, ?_⟩
  exact ⟨_, H3, I3.tok _, (rel k).getD rz, q3⟩
theorem pc_kin (hi : PE X e ty) (ho : PE X o td) : PC X .In e o (tKIn X.K X.w ty td) := by
  constructor
  intro pins s σ H Q I h
  refine thn (hi.run pins s σ H _ I h) fun iv s1 h1 => ?_
  obtain ⟨y, H1, I1, ry, q1⟩ := h1
  refine thn (ho.run pins s1 σ H1 _ I1 q1) fun u s2 h2 => ?_
  obtain ⟨x, H2, I2, rx, a, l, k, ex, ey, d, q2⟩ := h2
  subst ex ey
  obtain rfl : u = Value.ref a := rx
  obtain ⟨t, rfl⟩ := ry
  obtain ⟨fn, mp, na, rel⟩ := d.map I2
  refine wpAny_in_of (strKind_is X.prog X.w k t) na mp ?_
  rw [← (rel k).isSome_eq]
  exact ⟨.bl (l.lookup k).isSome, H2, I2.tok _, rfl, q2⟩
theorem ix_kd : IxR X (rKIx X.K X.w) := by
  intro value slice pins s σ H x y v u Q I rx ry h hs
  obtain ⟨a, l, k, r, rfl, rfl, d, lk, q⟩ := h
  obtain rfl : v = Value.ref a := rx
  obtain ⟨t, rfl⟩ := ry
  obtain ⟨fn, mp, na, rel⟩ := d.map I
  obtain ⟨w', e1, e2⟩ := RelO.some_of (v := r) (o := fn k) (by rw [← lk]; exact rel k)
  exact tail_any mp.typeIs slot_dict_getitem.lookup (wpAny_getItem_of (strKind_is X.prog X.w k t) mp e1 ⟨r, H, I.tok _, e2, q⟩) hs
end
/-! ### the def that a slot holds -/
def tCallP (i : Nat) (S : Addr → Sp → Prop) (E : XK) (t : TA) : TE := fun σ H Q => ∃ f sp, σ[i]? = some (some (.ref f)) ∧ S f sp ∧ t σ H fun vs H1 => sp vs H1 Q E
theorem pe_callP {X : Cx} {k i : Nat} {S : Addr → Sp → Prop} {E : XK} {x : Str} {p pos : Pos} {e : Expr} {es : List Expr} {t : TA} (A : ∀ f sp, S f sp → ∃ fd ps, Def X.prog X.w X.K X.mg X.base k f fd ps sp) (hr : Room k X.A) (hN : X.N[i]? = some x) (hv : Vis X.env.scope x) (hx : Passes (L2.CX X.prog X.w) X E) (ha : PA X (e :: es) t)
    (hdb : (x == ("__debug__" : Str)) = false := by decide) (hcd : (x == ("__classdict__" : Str)) = false := by decide)
    (he : starEach (e :: es) X.env = (false, eval e X.env) :: starEach es X.env := by rfl) (hpl : (backTo pos (starEach es X.env)).any (·.1) = false := by rfl) : PE X (.Call (.Name x p) (e :: es) [] pos) (tCallP i S E t) := by
  constructor
  intro pins s σ H Q I h
  obtain ⟨f, sp, hs, hS, ht⟩ := h
  obtain ⟨fd, ps, D⟩ := A f sp hS
  refine (pe_callL (i := i) (f := f) (sp := sp) (dvs := []) (E := E) D.fn hr hN hv D.kp D.bd .nil hx ha hdb hcd he hpl).run pins s σ H Q I ⟨hs, ?_⟩
  have same : (fun (vs : List V) (H1 : Hp) => sp (vs ++ []) H1 Q E) = fun vs H1 => sp vs H1 Q E := funext fun vs => funext fun H1 => by rw [List.append_nil]
  show t σ H (fun vs H1 => sp (vs ++ []) H1 Q E)
  rw [same]
  exact ht
end Rm
namespace Rm
open PySem PySem.Spec PyProof.Rows L2
theorem Def.mono {P : Program} {w : World} {K : PySem.W.Frag} {mg : Str → Option Value} {base : Heap} {j k : Nat} {f : Addr} {fd : FuncData} {ps : List Str} {sp : Sp} (D : Def P w K mg base j f fd ps sp) (h : j ≤ k) : Def P w K mg base k f fd ps sp := ⟨D.fn.mono h, D.bd, D.kp⟩
/-- a promise that holds of nothing -/
theorem Def.never {P : Program} {w : World} {K : PySem.W.Frag} {mg : Str → Option Value} {base : Heap} {k : Nat} {f : Addr} {fd : FuncData} {ps : List Str} {sp : Sp} (no : ∀ vs H Q E, sp vs H Q E → False) (bd : Binds K fd ps []) (kp : PySem.W.keepIn K (.ref f) = true) : Def P w K mg base k f fd ps sp :=
  ⟨⟨fun vs H Q E h => (no vs H Q E h).elim, fun _ _ _ H _ _ vs Q E _ _ _ _ h => (no vs H Q E h).elim⟩, bd, kp⟩
end Rm

/-! HG: the head's facts: a Hook with one more Bool. -/
namespace Rm
open PySem PySem.Spec PyProof.Rows L2
/-! a dict of the module: keys, values, hashes (these hang on the world) -/
def entB (K : PySem.W.Frag) : List DictEntry → List (Str × He.Dv) → Bool
  | [], [] => true
  | ⟨_, .str z _, u⟩ :: es, (x, v) :: l => decide (z = x) && (He.relB (v.v K) u && entB K es l)
  | _, _ => false
def emB : List (Option Value) → Bool
  | [] => true
  | _ => false
def dicB (K : PySem.W.Frag) (x : Str) (l : List (Str × He.Dv)) : Bool := match K.lookup (He.ga K x) with
  | some ⟨.type "dict", none, .dict es _, sl⟩ => emB sl.toList && (!(He.ga K x == sysModules) && entB K es.toList l)
  | _ => false
def hasW (K : PySem.W.Frag) (x : Str) : List Int := match K.lookup (He.ga K x) with
  | some ⟨_, _, .dict es _, _⟩ => es.toList.map (·.hash)
  | _ => []
abbrev DcL : Type := List (Str × List (Str × He.Dv))
def valH (w : World) (d : Str × List (Str × He.Dv)) : List Int := d.2.map fun e => PyData.keyHash w.params e.1
theorem ents_ok {K : PySem.W.Frag} {w : World} : ∀ {es : List DictEntry} {l : List (Str × He.Dv)}, entB K es l = true → es.map (·.hash) = l.map (fun e => PyData.keyHash w.params e.1) → Ents w es (l.map fun e => (e.1, e.2.v K))
  | [], [], _, _ => .nil
  | ⟨h, .str z t, u⟩ :: es, (x, v) :: l, b, e => by
    have b : (decide (z = x) && (He.relB (v.v K) u && entB K es l)) = true := b
    obtain ⟨b1, b⟩ := He.ba b
    obtain ⟨b2, b3⟩ := He.ba b
    have b1 := of_decide_eq_true b1
    subst b1
    rw [List.map_cons, List.map_cons] at e
    obtain ⟨e1, e2⟩ := List.cons.inj e
    exact .cons rfl e1 (He.relB_ok b2) (ents_ok b3 e2)
theorem dicB_ok {K : PySem.W.Frag} {w : World} {x : Str} {l : List (Str × He.Dv)} (b : dicB K x l = true) (e : hasW K x = valH w (x, l)) : KD K w (He.ga K x) (l.map fun e => (e.1, e.2.v K)) := by
  unfold dicB at b
  unfold hasW at e
  split at b
  · rename_i es n sl look
    rw [look] at e
    obtain ⟨b1, b⟩ := He.ba b
    obtain ⟨b2, b3⟩ := He.ba b
    obtain ⟨sll⟩ := sl
    cases sll with
    | nil => exact ⟨es, _, look, ents_ok b3 e, by simpa using b2⟩
    | cons _ _ => cases b1
  · cases b
abbrev AlG : Type := Bool × List He.FnW × List CelW × List (List Int)
def obsG (fa : List He.Fa) (fn : List He.DefD) (ce : List (Str × CelW)) (dc : DcL) (ex : PySem.W.Frag → Bool) (K : PySem.W.Frag) : AlG := ((fa.all fun f => f.ok K) && ((fn.all fun d => d.ok K) && ex K), fn.map (fun d => He.fnW K d.at_), ce.map (fun c => celW K (He.ma K (He.ga K c.1) "__init__")), dc.map fun d => hasW K d.1)
def valG (fn : List He.DefD) (ce : List (Str × CelW)) (dc : DcL) (w : World) : AlG := (true, fn.map He.DefD.val, ce.map (·.2), dc.map (valH w))
def SaysG (fa : List He.Fa) (fn : List He.DefD) (ce : List (Str × CelW)) (dc : DcL) (ex : PySem.W.Frag → Bool) (w : World) (K : PySem.W.Frag) : Prop := obsG fa fn ce dc ex K = valG fn ce dc w
def obsGG (n : Nat) (fa : List He.Fa) (fn : List He.DefD) (ce : List (Str × CelW)) (dc : DcL) (ex : PySem.W.Frag → Bool) (g : Addr → Option Obj) : AlG := obsG fa fn ce dc ex (He.frG g (cStatics :: He.asD g n))
def hookG (n : Nat) (fa : List He.Fa) (fn : List He.DefD) (ce : List (Str × CelW)) (dc : DcL) (ex : PySem.W.Frag → Bool) : PySem.W.Hook where
  α := AlG
  obs := fun s => obsGG n fa fn ce dc ex s.heap.get?
  val := fun w => valG fn ce dc w
  says := fun w h => ∃ K : PySem.W.Frag, K.In h ∧ SaysG fa fn ce dc ex w K
  of := fun _ _ e => ⟨_, He.frG_in, e⟩
  keeps := fun _ _ _ ⟨K, hK, c⟩ k => ⟨K, PySem.W.Frag.In.keeps hK k, c⟩
theorem obsGG_eq {n : Nat} {fa : List He.Fa} {fn : List He.DefD} {ce : List (Str × CelW)} {dc : DcL} {ex : PySem.W.Frag → Bool} {g : Addr → Option Obj} {s : Shared} (h : ∀ a, g a = s.heap.get? a) : obsGG n fa fn ce dc ex g = (hookG n fa fn ce dc ex).obs s := by
  have e : g = s.heap.get? := funext h
  rw [e] <;> rfl
section
variable {fa : List He.Fa} {fn : List He.DefD} {ce : List (Str × CelW)} {dc : DcL} {w : World} {ex : PySem.W.Frag → Bool} {K : PySem.W.Frag}
theorem SaysG.fact (c : SaysG fa fn ce dc ex w K) (i : Nat) {f : He.Fa} (h : fa[i]? = some f := by rfl) : f.ok K = true := by
  have c1 := (He.ba (show ((fa.all fun f => f.ok K) && ((fn.all fun d => d.ok K) && ex K)) = true from congrArg (fun z : AlG => z.1) c)).1
  exact List.all_eq_true.mp c1 f (List.mem_of_getElem? h)
theorem SaysG.more (c : SaysG fa fn ce dc ex w K) : ex K = true :=
  (He.ba (He.ba (show ((fa.all fun f => f.ok K) && ((fn.all fun d => d.ok K) && ex K)) = true from congrArg (fun z : AlG => z.1) c)).2).2
theorem SaysG.def_ (c : SaysG fa fn ce dc ex w K) (i : Nat) {d : He.DefD} (h : fn[i]? = some d := by rfl) : ∃ fd, FunD K d.name d.qual d.params d.body d.scope (d.dvs K) (d.kws K) (He.fAd K d.at_) fd := by
  have c2 := (He.ba (He.ba (show ((fa.all fun f => f.ok K) && ((fn.all fun d => d.ok K) && ex K)) = true from congrArg (fun z : AlG => z.1) c)).2).1
  have e : fn.map (fun d => He.fnW K d.at_) = fn.map He.DefD.val := congrArg (fun z : AlG => z.2.1) c
  have e2 : (fn.map fun d => He.fnW K d.at_)[i]? = (fn.map He.DefD.val)[i]? := by rw [e]
  rw [List.getElem?_map, List.getElem?_map, h] at e2
  exact He.DefD.funD (Option.some.inj e2) (List.all_eq_true.mp c2 d (List.mem_of_getElem? h))
theorem SaysG.dic (c : SaysG fa fn ce dc ex w K) (i : Nat) {d : Str × List (Str × He.Dv)} (h : dc[i]? = some d := by rfl) : hasW K d.1 = valH w d := by
  have e : dc.map (fun d => hasW K d.1) = dc.map (valH w) := congrArg (fun z : AlG => z.2.2.2) c
  have e2 : (dc.map fun d => hasW K d.1)[i]? = (dc.map (valH w))[i]? := by rw [e]
  rw [List.getElem?_map, List.getElem?_map, h] at e2
  exact Option.some.inj e2
theorem SaysG.cel (c : SaysG fa fn ce dc ex w K) (i : Nat) {d : Str × CelW} (h : ce[i]? = some d := by rfl) : celW K (He.ma K (He.ga K d.1) "__init__") = d.2 := by
  have e : ce.map (fun c => celW K (He.ma K (He.ga K c.1) "__init__")) = ce.map (·.2) := congrArg (fun z : AlG => z.2.2.1) c
  have e2 : (ce.map fun c => celW K (He.ma K (He.ga K c.1) "__init__"))[i]? = (ce.map (·.2))[i]? := by rw [e]
  rw [List.getElem?_map, List.getElem?_map, h] at e2
  exact Option.some.inj e2
end
/-- a law's end where callees may let out: what is let out at the law itself is nothing -/
theorem no_out {P : Program} {w : World} (H : Hp) (s : Shared) (v : Value) (t : Shared) (h : L2.CX P w [] H s (fun _ _ _ => False) v t) : False := by
  obtain ⟨_, _, _, _, _, _, _, _, _, _, _, _, z⟩ := h
  exact z
theorem walk_law {l : PySem.W.OpenLaw} {x : Str} {n k : Nat} {q : Program} {d : DefRec} {loose : List Str} {Xp : (Str → Option Value) → Heap → Prop} {Yp : World → Heap → Prop}
    (most : l.most = some n) (small : n ≤ sizeLine) (nodf : d.params.defaults = []) (room : Room k callerA)
    (got : ∀ (w : World) (mg : Str → Option Value) (fa : Addr) (h : Heap), Yp w h → h.Ns mainGlobals mg → mg d.name = some (.ref fa) →
      ∃ (K : PySem.W.Frag) (fd : FuncData) (sp : Sp), K.In h ∧ (∀ (s : Shared) (u : Value), BindsTo s fd ⟨[u], []⟩ [(x, u)]) ∧
        (∀ (H : Hp) (a : Addr) (ns : List Int), ns.length ≤ n → Only H → SqL K H a (ns.map V.int) → sp [.ref a] H (fun v _ => v = .bl true) fun _ _ _ => False) ∧
        ∀ base : Heap, K.In base → base.Ns mainGlobals mg → FnOk l.prog w K mg base (L2.CX l.prog w) k fa fd [x] sp) :
    PySem.W.WalkO q loose Xp Yp l.row.toRowW d [] (fun f vs => PySem.call f vs) := by
  apply Att.attach_call most nodf
  intro w s0 s1 mg mb fa ob pm cd doc a vs ns Gr Yw ho hd hcd hmg hobj hints hlen hgens
  obtain ⟨K, fd, sp, KX, bind, wish, fok⟩ := got w mg fa _ Yw Gr.T.g hmg
  exact law_call KX Gr.T.g Gr.T.b Gr.T.builtins Gr.T.nolimit hgens hobj hints (Nat.le_trans hlen small) room fok bind (fun H only sq => wish H a ns hlen only sq) fun H v t => no_out H s1 v t
/-- further facts, one behind another -/
def allOf (l : List (PySem.W.Frag → Bool)) (K : PySem.W.Frag) : Bool := l.all fun f => f K
theorem allOf_at {l : List (PySem.W.Frag → Bool)} {K : PySem.W.Frag} (c : allOf l K = true) (i : Nat) {f : PySem.W.Frag → Bool} (h : l[i]? = some f) : f K = true := List.all_eq_true.mp c f (List.mem_of_getElem? h)
/-- nothing is let out -/
def EW0 : EWT := fun _ _ _ _ _ => False
/-- a tuple of written texts -/
def tupS (K : PySem.W.Frag) (x : Str) (ss : List String) : Bool := He.tupB K x (ss.map fun s => .str (Str.ofString s))
theorem tupS_ok {K : PySem.W.Frag} {x : Str} {ss : List String} (h : tupS K x ss = true) (H : Hp) : SqT K H (He.ga K x) ((ss.map Lx.codes).map fun k => V.str (Tx k)) := by
  have q := He.tupB_ok h H
  rw [List.map_map] at q
  rw [List.map_map]
  have e : (ss.map (He.Dv.v K ∘ fun s => He.Dv.str (Str.ofString s))) = ss.map ((fun k => V.str (Tx k)) ∘ Lx.codes) := List.map_congr_left fun s _ => mS_eq s
  rw [← e]
  exact q
end Rm

/-! X1: errors really let out: the wish of an error with a row and a column; rows and columns of a text are small. -/
namespace Rm
open PySem PySem.Spec PyProof.Rows L2 Lx
/-! ### errors really let out -/
/-- an error of the program's class x with row r and column c -/
def EW1 (K : PySem.W.Frag) : EWT := fun x r c E H => r.natAbs.log2 < 1920 ∧ c.natAbs.log2 < 1920 ∧ ∀ d, H d = none → E (.ref (He.ga K x)) (some d) (upd H d (.xd (exF r c)))
theorem hz_sign {K : PySem.W.Frag} {E : XK} (S : ScC K) (D : Ends) (σ : L2.St) (H : Hp) (p dx : Addr) (l : List Nat) (i : Nat) (r c : Int) (h0 : σ[0]? = some (some (.ref p))) (hs : Sc K H p dx l i r c) (w : EW1 K "BadCharacter" r c E H) :
    tRaiseErr (He.ga K ("BadCharacter" : Str)) (fun cls d _ H => E cls d H) (tCons (tFld K (tVar 0) ("row" : Str)) (tCons (tFld K (tVar 0) ("column" : Str)) tNil)) D σ H := by
  obtain ⟨hp, _, _⟩ := hs
  obtain ⟨h1, h2, h3⟩ := w
  exact ⟨_, h0, p, _, dx, _, _, rfl, hp, S.cl, S.nr, scF_row, _, h0, p, _, dx, _, _, rfl, hp, S.cl, S.nc, scF_col, r, c, rfl, h1, h2, h3⟩
theorem hz_token {K : PySem.W.Frag} {E : XK} (D : Ends) (σ : L2.St) (H : Hp) (r c : Int) (h1 : σ[1]? = some (some (.int r))) (h2 : σ[2]? = some (some (.int c))) (w : EW1 K "BadNumber" r c E H) :
    tRaiseErr (He.ga K ("BadNumber" : Str)) (fun cls d _ H => E cls d H) (tCons (tVar 1) (tCons (tVar 2) tNil)) D σ H := ⟨_, h1, _, h2, r, c, rfl, w.1, w.2.1, w.2.2⟩
/-- rows and columns of a text are small -/
theorem adv_bound : ∀ (l : List Nat) (r c : Int), r ≤ (adv l r c).1 ∧ (adv l r c).1 ≤ r + l.length ∧ min 1 c ≤ (adv l r c).2 ∧ (adv l r c).2 ≤ max 1 c + l.length
  | [], r, c => by
    show r ≤ r ∧ r ≤ r + 0 ∧ min 1 c ≤ c ∧ c ≤ max 1 c + 0
    omega
  | x :: xs, r, c => by
    rw [adv]
    split
    · have h := adv_bound xs (r + 1) 1
      rw [List.length_cons]
      omega
    · have h := adv_bound xs r (c + 1)
      rw [List.length_cons]
      omega
theorem log_small {i : Int} (h0 : 0 ≤ i) (h : i ≤ 20000000) : i.natAbs.log2 < 1920 := by
  have h2 : i.natAbs < 2 ^ 25 := by
    have : (2 : Nat) ^ 25 = 33554432 := by decide
    omega
  by_cases z : i.natAbs = 0
  · rw [z]
    decide
  · exact Nat.lt_of_lt_of_le ((Nat.log2_lt z).mpr h2) (by decide)
theorem adv_small {l : List Nat} (h : l.length ≤ 10000000) : (adv l 1 1).1.natAbs.log2 < 1920 ∧ (adv l 1 1).2.natAbs.log2 < 1920 := by
  have b := adv_bound l 1 1
  exact ⟨log_small (by omega) (by omega), log_small (by omega) (by omega)⟩
end Rm

/-! C1: the cursor over the tokens: promises, readings (by gen.py), runs. -/
namespace Rm
open PySem PySem.Spec PyProof.Rows L2 Lx
abbrev CC (K : PySem.W.Frag) : Addr := He.ga K ("Cursor" : Str)
def cuF (f : Addr) (i : Int) : List (Str × V) := [("found", .ref f), ("at", .int i)]
section
variable {f : Addr} {i j : Int}
theorem neFA : ¬ (("found" : Str) = "at") := by decide +kernel
theorem cuF_found : (cuF f i).lookup ("found" : Str) = some (.ref f) := lk_eq
theorem cuF_at : (cuF f i).lookup ("at" : Str) = some (.int i) := by
  unfold cuF
  rw [lk_ne (fun e => neFA e.symm), lk_eq]
theorem cuF_no {m : Str} (h1 : ¬ m = "found") (h2 : ¬ m = "at") : (cuF f i).lookup m = none := by
  unfold cuF
  rw [lk_ne h1, lk_ne h2]
  rfl
theorem cuF_pat : putF ("at" : Str) (.int j) (cuF f i) = cuF f j := by
  unfold cuF
  rw [pf_ne neFA, pf_eq]
theorem cuF_init : putF ("at" : Str) (.int i) (putF ("found" : Str) (.ref f) []) = cuF f i := by
  rw [pf_nil, pf_ne neFA, pf_nil]
  rfl
end
structure CuC (K : PySem.W.Frag) : Prop where
  cl : Cls K (CC K)
  nf : NoAttr K (CC K) "found"
  na : NoAttr K (CC K) "at"
abbrev cuO (K : PySem.W.Frag) (dx f : Addr) (i : Nat) : HO := .ins (CC K) dx (cuF f (i : Int))
/-- a cursor at p over the tokens ts (the list stands at f), at the i-th -/
def Cu (K : PySem.W.Frag) (H : Hp) (p dx f : Addr) (ts : List Tk) (i : Nat) : Prop := H p = some (cuO K dx f i) ∧ TksAt H f ts ∧ ts.length ≤ 10000001
abbrev mvU (K : PySem.W.Frag) (H : Hp) (p dx f : Addr) (i : Nat) : Hp := upd H p (cuO K dx f i)
def sp_Cursor_kind (K : PySem.W.Frag) : Sp := fun vs H Q _ => ∃ (p dx f : Addr) (ts : List Tk) (i a : Nat) (t : Tk), vs = [.ref p, .int (a : Int)] ∧ Cu K H p dx f ts i ∧ ts[i + a]? = some t ∧ Q (.str (kdS t.kind)) H
def sp_Cursor_word (K : PySem.W.Frag) : Sp := fun vs H Q _ => ∃ (p dx f : Addr) (ts : List Tk) (i a : Nat) (t : Tk), vs = [.ref p, .int (a : Int)] ∧ Cu K H p dx f ts i ∧ ts[i + a]? = some t ∧ Q (.str (Tx t.text)) H
def sp_Cursor_take (K : PySem.W.Frag) : Sp := fun vs H Q _ => ∃ (p dx f : Addr) (ts : List Tk) (i : Nat) (t : Tk), vs = [.ref p] ∧ Cu K H p dx f ts i ∧ ts[i]? = some t ∧ Q (.str (Tx t.text)) (mvU K H p dx f (i + 1))
def sp_Cursor_took (K : PySem.W.Frag) : Sp := fun vs H Q _ => ∃ (p dx f : Addr) (ts : List Tk) (i : Nat) (t : Tk) (w : List Nat), vs = [.ref p, .str (Tx w)] ∧ Cu K H p dx f ts i ∧ ts[i]? = some t ∧
  (t.text = w → Q (.bl true) (mvU K H p dx f (i + 1))) ∧ (t.text ≠ w → Q (.bl false) H)
def sp_Cursor_refuse (K : PySem.W.Frag) (EW : EWT) : Sp := fun vs H Q E => ∃ (p dx f : Addr) (ts : List Tk) (i : Nat) (t : Tk), vs = [.ref p] ∧ Cu K H p dx f ts i ∧ ts[i]? = some t ∧ EW "Unexpected" t.row t.col E H
def sp_Cursor_want (K : PySem.W.Frag) (EW : EWT) : Sp := fun vs H Q E => ∃ (p dx f : Addr) (ts : List Tk) (i : Nat) (t : Tk) (w : List Nat), vs = [.ref p, .str (Tx w)] ∧ Cu K H p dx f ts i ∧ ts[i]? = some t ∧
  (t.text = w → Q .non (mvU K H p dx f (i + 1))) ∧ (t.text ≠ w → EW "Unexpected" t.row t.col E H)
def sp_Cursor_take_name (K : PySem.W.Frag) (EW : EWT) : Sp := fun vs H Q E => ∃ (p dx f : Addr) (ts : List Tk) (i : Nat) (t : Tk), vs = [.ref p] ∧ Cu K H p dx f ts i ∧ ts[i]? = some t ∧
  (t.kind = .name → Q (.str (Tx t.text)) (mvU K H p dx f (i + 1))) ∧ (t.kind ≠ .name → EW "Unexpected" t.row t.col E H)
def sp_Cursor_want_end (K : PySem.W.Frag) (EW : EWT) : Sp := fun vs H Q E => ∃ (p dx f : Addr) (ts : List Tk) (i : Nat) (t : Tk), vs = [.ref p] ∧ Cu K H p dx f ts i ∧ ts[i]? = some t ∧
  (t.kind = .fin → Q .non H) ∧ (t.kind ≠ .fin → EW "Unexpected" t.row t.col E H)
def sp_Cursor_init (K : PySem.W.Frag) (EW : EWT) : Sp := fun vs H Q E => ∃ (p dx : Addr) (l : List Nat), vs = [.ref p, .str (Tx l)] ∧ H p = some (.ins (CC K) dx []) ∧ l.length ≤ 10000000 ∧
  (∀ (ts : List Tk) (f : Addr) (H' : Hp), lex l 1 1 = (ts, none) → H f = none → Same H H' → TksAt H' f ts → Q .non (mvU K H' p dx f 0)) ∧
  (∀ (ts : List Tk) (e : Er) (r c : Int) (H' : Hp), lex l 1 1 = (ts, some (e, r, c)) → Same H H' → EW (erS e) r c E H')
/-! ### readings -/

def ns_Cursor_kind : List Str := ["self", "ahead"]
def t_Cursor_kind (K : PySem.W.Frag) (E : XK) : TS :=
  (tRet (tOp (rIxT K) (tOp (rIxL K) (tFld K (tVar 0) ("found" : Str)) (tOp rAddI (tFld K (tVar 0) ("at" : Str)) (tVar 1))) (tC (.int 0))))

def ns_Cursor_word : List Str := ["self", "ahead"]
def t_Cursor_word (K : PySem.W.Frag) (E : XK) : TS :=
  (tRet (tOp (rIxT K) (tOp (rIxL K) (tFld K (tVar 0) ("found" : Str)) (tOp rAddI (tFld K (tVar 0) ("at" : Str)) (tVar 1))) (tC (.int 1))))

def ns_Cursor_take : List Str := ["self", "word"]
def t_Cursor_take (K : PySem.W.Frag) (E : XK) : TS :=
  (tSeq (tAsg (tMeth (He.ga K ("Cursor" : Str)) ("word" : Str) (sp_Cursor_word K) [.int 0] E (tVar 0) tNil) (gName 1))
    (tSeq (sFldAug K (tVar 0) (tC (.int 1)) rAdd ("at" : Str))
    (tRet (tVar 1))))

def ns_Cursor_took : List Str := ["self", "word"]
def t_Cursor_took (K : PySem.W.Frag) (E : XK) : TS :=
  (tSeq (tIfS (tTest (tOp rNe (tMeth (He.ga K ("Cursor" : Str)) ("word" : Str) (sp_Cursor_word K) [.int 0] E (tVar 0) tNil) (tVar 1)))
      (tRet (tC (.bl false)))
      tNext)
    (tSeq (sFldAug K (tVar 0) (tC (.int 1)) rAdd ("at" : Str))
    (tRet (tC (.bl true)))))

def ns_Cursor_refuse : List Str := ["self", "_", "row", "column"]
def t_Cursor_refuse (K : PySem.W.Frag) (E : XK) (rz0 : TS) : TS :=
  (tSeq (tAsg (tOp (rIxL K) (tFld K (tVar 0) ("found" : Str)) (tFld K (tVar 0) ("at" : Str))) (gTup K 4 (gCons (gName 1) (gCons (gName 1) (gCons (gName 2) (gCons (gName 3) gNil))))))
    rz0)

def ns_Cursor_want : List Str := ["self", "word"]
def t_Cursor_want (K : PySem.W.Frag) (E : XK) : TS :=
  (tIfS (tNot (tB (tMeth (He.ga K ("Cursor" : Str)) ("took" : Str) (sp_Cursor_took K) [] E (tVar 0) (tCons (tVar 1) tNil))))
      (tDrop (tMeth (He.ga K ("Cursor" : Str)) ("refuse" : Str) (sp_Cursor_refuse K (EW1 K)) [] E (tVar 0) tNil))
      tNext)

def ns_Cursor_take_name : List Str := ["self"]
def t_Cursor_take_name (K : PySem.W.Frag) (E : XK) : TS :=
  (tSeq (tIfS (tTest (tOp rNe (tMeth (He.ga K ("Cursor" : Str)) ("kind" : Str) (sp_Cursor_kind K) [.int 0] E (tVar 0) tNil) (tC (.str ("name" : Str)))))
      (tDrop (tMeth (He.ga K ("Cursor" : Str)) ("refuse" : Str) (sp_Cursor_refuse K (EW1 K)) [] E (tVar 0) tNil))
      tNext)
    (tRet (tMeth (He.ga K ("Cursor" : Str)) ("take" : Str) (sp_Cursor_take K) [] E (tVar 0) tNil)))

def ns_Cursor_want_end : List Str := ["self"]
def t_Cursor_want_end (K : PySem.W.Frag) (E : XK) : TS :=
  (tIfS (tTest (tOp rNe (tMeth (He.ga K ("Cursor" : Str)) ("kind" : Str) (sp_Cursor_kind K) [.int 0] E (tVar 0) tNil) (tC (.str ("end" : Str)))))
      (tDrop (tMeth (He.ga K ("Cursor" : Str)) ("refuse" : Str) (sp_Cursor_refuse K (EW1 K)) [] E (tVar 0) tNil))
      tNext)

def ns_Cursor_init : List Str := ["self", "text"]
def t_Cursor_init (K : PySem.W.Frag) (E : XK) : TS :=
  (tSeq (sFld K (tVar 0) (tCall (sp_tokens K (EW1 K)) [] E (tCons (tVar 1) tNil)) ("found" : Str))
    (sFld K (tVar 0) (tC (.int 0)) ("at" : Str)))

theorem TksAt.get {H : Hp} {f : Addr} {ts : List Tk} {i : Nat} {t : Tk} (h : TksAt H f ts) (ht : ts[i]? = some t) : ∃ (xs : List V) (q : Addr), H f = some (.lst xs) ∧ xs[i]? = some (.ref q) ∧ H q = some (.tup (tkV t)) := by
  obtain ⟨qs, h1, h2, h3⟩ := h
  have hi : i < qs.length := by
    rw [h2]
    exact (List.getElem?_eq_some_iff.mp ht).1
  have e : qs[i]? = some qs[i] := List.getElem?_eq_getElem hi
  exact ⟨_, qs[i], h1, by rw [List.getElem?_map, e]; rfl, h3 i _ t e ht⟩
theorem dec_tx (a b : List Nat) : decide (V.str (Tx a) = V.str (Tx b)) = decide (a = b) := by
  rw [Bool.eq_iff_iff]
  simp only [decide_eq_true_eq, V.str.injEq]
  exact ⟨fun e => Tx_inj e, fun e => by rw [e]⟩
theorem kdS_inj {a b : Kd} (h : kdS a = kdS b) : a = b := by
  cases a <;> cases b <;> first | rfl | (exfalso; revert h; decide +kernel)
section
variable {K : PySem.W.Frag} {vs : List V} {H : Hp} {Q : VK} {E : XK} (S : CuC K)
include S
theorem run_Cursor_kind (h : sp_Cursor_kind K vs H Q E) : t_Cursor_kind K E (DQ Q) (start ns_Cursor_kind vs) H := by
  obtain ⟨p, dx, f, ts, i, a, t, rfl, ⟨hp, hT, hl⟩, ht, q⟩ := h
  obtain ⟨xs, u, h1, h2, h3⟩ := hT.get ht
  refine ⟨_, rfl, p, _, dx, _, _, rfl, hp, S.cl, S.nf, cuF_found, _, rfl, p, _, dx, _, _, rfl, hp, S.cl, S.na, cuF_at, _, rfl, _, _, rfl, rfl, f, xs, _, .ref u, rfl, rfl, SqL.of h1, at_of (j := i + a) (by push_cast; rfl) h2, ?_⟩
  exact ⟨u, _, _, _, rfl, rfl, SqT.of h3, rfl, q⟩
theorem run_Cursor_word (h : sp_Cursor_word K vs H Q E) : t_Cursor_word K E (DQ Q) (start ns_Cursor_word vs) H := by
  obtain ⟨p, dx, f, ts, i, a, t, rfl, ⟨hp, hT, hl⟩, ht, q⟩ := h
  obtain ⟨xs, u, h1, h2, h3⟩ := hT.get ht
  refine ⟨_, rfl, p, _, dx, _, _, rfl, hp, S.cl, S.nf, cuF_found, _, rfl, p, _, dx, _, _, rfl, hp, S.cl, S.na, cuF_at, _, rfl, _, _, rfl, rfl, f, xs, _, .ref u, rfl, rfl, SqL.of h1, at_of (j := i + a) (by push_cast; rfl) h2, ?_⟩
  exact ⟨u, _, _, _, rfl, rfl, SqT.of h3, rfl, q⟩
theorem cu_at {dx f : Addr} {p : Addr} {i : Nat} {m : Str} (h1 : ¬ m = "found") (h2 : ¬ m = "at") : (cuF f (i : Int)).lookup m = none := cuF_no h1 h2
theorem run_Cursor_take (h : sp_Cursor_take K vs H Q E) : t_Cursor_take K E (DQ Q) (start ns_Cursor_take vs) H := by
  obtain ⟨p, dx, f, ts, i, t, rfl, ⟨hp, hT, hl⟩, ht, q⟩ := h
  refine ⟨_, rfl, p, dx, _, rfl, hp, cuF_no (by decide +kernel) (by decide +kernel), p, dx, f, ts, i, 0, t, rfl, ⟨hp, hT, hl⟩, ht, ?_⟩
  refine ⟨_, rfl, p, _, dx, _, _, rfl, hp, S.cl, S.na, cuF_at, _, _, rfl, rfl, dx, _, hp, (by show 2 < 1000; decide), ?_⟩
  rw [cuF_pat]
  exact ⟨_, rfl, q⟩
theorem run_Cursor_took (h : sp_Cursor_took K vs H Q E) : t_Cursor_took K E (DQ Q) (start ns_Cursor_took vs) H := by
  obtain ⟨p, dx, f, ts, i, t, w, rfl, ⟨hp, hT, hl⟩, ht, q1, q2⟩ := h
  refine ⟨_, rfl, p, dx, _, rfl, hp, cuF_no (by decide +kernel) (by decide +kernel), p, dx, f, ts, i, 0, t, rfl, ⟨hp, hT, hl⟩, ht, _, rfl, rfl, _, rfl, ?_⟩
  rw [dec_tx]
  refine ite2 (fun c => ?_) (fun c => ?_)
  · have c : ¬ t.text = w := by simpa using c
    exact q2 c
  · have c : t.text = w := by simpa using c
    refine ⟨_, rfl, p, _, dx, _, _, rfl, hp, S.cl, S.na, cuF_at, _, _, rfl, rfl, dx, _, hp, (by show 2 < 1000; decide), ?_⟩
    rw [cuF_pat]
    exact q1 c
theorem run_Cursor_refuse (h : sp_Cursor_refuse K (EW1 K) vs H Q E) : t_Cursor_refuse K E (tRaiseErr (He.ga K ("Unexpected" : Str)) (fun cls d _ H => E cls d H) (tCons (tVar 2) (tCons (tVar 3) tNil))) (DQ Q) (start ns_Cursor_refuse vs) H := by
  obtain ⟨p, dx, f, ts, i, t, rfl, ⟨hp, hT, hl⟩, ht, q⟩ := h
  obtain ⟨xs, u, h1, h2, h3⟩ := hT.get ht
  refine ⟨_, rfl, p, _, dx, _, _, rfl, hp, S.cl, S.nf, cuF_found, _, rfl, p, _, dx, _, _, rfl, hp, S.cl, S.na, cuF_at, f, xs, _, .ref u, rfl, rfl, SqL.of h1, at_of (j := i) rfl h2, ?_⟩
  refine ⟨u, _, rfl, SqT.of h3, rfl, _, _, rfl, _, _, rfl, _, _, rfl, _, _, rfl, rfl, ?_⟩
  exact ⟨_, rfl, _, rfl, t.row, t.col, rfl, q.1, q.2.1, q.2.2⟩
theorem run_Cursor_want (h : sp_Cursor_want K (EW1 K) vs H Q E) : t_Cursor_want K E (DQ Q) (start ns_Cursor_want vs) H := by
  obtain ⟨p, dx, f, ts, i, t, w, rfl, ⟨hp, hT, hl⟩, ht, q1, q2⟩ := h
  refine ⟨_, rfl, p, dx, _, rfl, hp, cuF_no (by decide +kernel) (by decide +kernel), _, rfl, p, dx, f, ts, i, t, w, rfl, ⟨hp, hT, hl⟩, ht, fun c => ?_, fun c => ?_⟩
  · exact ⟨_, rfl, iteF (q1 c)⟩
  · exact ⟨_, rfl, iteT ⟨_, rfl, p, dx, _, rfl, hp, cuF_no (by decide +kernel) (by decide +kernel), p, dx, f, ts, i, t, rfl, ⟨hp, hT, hl⟩, ht, q2 c⟩⟩
theorem run_Cursor_take_name (h : sp_Cursor_take_name K (EW1 K) vs H Q E) : t_Cursor_take_name K E (DQ Q) (start ns_Cursor_take_name vs) H := by
  obtain ⟨p, dx, f, ts, i, t, rfl, ⟨hp, hT, hl⟩, ht, q1, q2⟩ := h
  refine ⟨_, rfl, p, dx, _, rfl, hp, cuF_no (by decide +kernel) (by decide +kernel), p, dx, f, ts, i, 0, t, rfl, ⟨hp, hT, hl⟩, ht, rfl, _, rfl, ?_⟩
  refine ite2 (fun c => ?_) (fun c => ?_)
  · have c : ¬ t.kind = .name := fun e => by
      rw [e] at c
      exact absurd c (by decide +kernel)
    exact ⟨_, rfl, p, dx, _, rfl, hp, cuF_no (by decide +kernel) (by decide +kernel), p, dx, f, ts, i, t, rfl, ⟨hp, hT, hl⟩, ht, q2 c⟩
  · have c : t.kind = .name := by
      have c : kdS t.kind = ("name" : Str) := by simpa using c
      exact kdS_inj (b := .name) c
    exact ⟨_, rfl, p, dx, _, rfl, hp, cuF_no (by decide +kernel) (by decide +kernel), p, dx, f, ts, i, t, rfl, ⟨hp, hT, hl⟩, ht, q1 c⟩
theorem run_Cursor_want_end (h : sp_Cursor_want_end K (EW1 K) vs H Q E) : t_Cursor_want_end K E (DQ Q) (start ns_Cursor_want_end vs) H := by
  obtain ⟨p, dx, f, ts, i, t, rfl, ⟨hp, hT, hl⟩, ht, q1, q2⟩ := h
  refine ⟨_, rfl, p, dx, _, rfl, hp, cuF_no (by decide +kernel) (by decide +kernel), p, dx, f, ts, i, 0, t, rfl, ⟨hp, hT, hl⟩, ht, rfl, _, rfl, ?_⟩
  refine ite2 (fun c => ?_) (fun c => ?_)
  · have c : ¬ t.kind = .fin := fun e => by
      rw [e] at c
      exact absurd c (by decide +kernel)
    exact ⟨_, rfl, p, dx, _, rfl, hp, cuF_no (by decide +kernel) (by decide +kernel), p, dx, f, ts, i, t, rfl, ⟨hp, hT, hl⟩, ht, q2 c⟩
  · have c : t.kind = .fin := by
      have c : kdS t.kind = ("end" : Str) := by simpa using c
      exact kdS_inj (b := .fin) c
    exact q1 c
theorem run_Cursor_init (h : sp_Cursor_init K (EW1 K) vs H Q E) : t_Cursor_init K E (DQ Q) (start ns_Cursor_init vs) H := by
  obtain ⟨p, dx, l, rfl, hp, hl, q1, q2⟩ := h
  refine ⟨_, rfl, l, rfl, hl, fun ts f H1 e1 nf s1 hT => ?_, fun ts e r c H1 e1 s1 => q2 ts e r c H1 e1 s1⟩
  have hp1 := s1 _ _ hp
  refine ⟨_, rfl, p, _, dx, _, rfl, hp1, S.cl, S.nf, (by show 0 < 1000; decide), ?_⟩
  refine ⟨_, rfl, p, _, dx, _, rfl, upd_same, S.cl, S.na, (by show 1 < 1000; decide), ?_⟩
  rw [cuF_init, upd_upd]
  exact q1 ts f H1 e1 nf s1 hT
end
end Rm

/-! P0: the parser as plain Lean: functions over the tokens that are left, by a depth n; loops by LF turns. -/
namespace Rm
open PySem PySem.Spec PyProof.Rows L2 Lx
inductive Rs (α : Type) where
  | ok (a : α) (l : List Tk)
  | no (r c : Int)
  | out
def Rs.bind {α β : Type} (x : Rs α) (f : α → List Tk → Rs β) : Rs β := match x with
  | .ok a l => f a l
  | .no r c => .no r c
  | .out => .out
abbrev Pf := List Tk → Rs PyData
def dS (s : String) : PyData := .str (Str.ofString s)
def dW (w : List Nat) : PyData := .str (Tx w)
def LF : Nat := 1000000
/-- the word w is wanted -/
def wantW (s : String) (l : List Tk) : Rs Unit := match l with
  | [] => .out
  | t :: r => if t.text = codes s then .ok () r else .no t.row t.col
def nameW (l : List Tk) : Rs (List Nat) := match l with
  | [] => .out
  | t :: r => if t.kind = .name then .ok t.text r else .no t.row t.col
def isW (s : String) (l : List Tk) : Bool := match l with
  | [] => false
  | t :: _ => decide (t.text = codes s)
def lev1 : List (List Nat) := ["==", "<", "<="].map codes
def lev2 : List (List Nat) := ["+", "-"].map codes
def lev3 : List (List Nat) := ["*", "div", "mod"].map codes
def lev (w : List Nat) : Int := if w ∈ lev1 then 1 else if w ∈ lev2 then 2 else if w ∈ lev3 then 3 else 0
def pName : Pf := fun l => (nameW l).bind fun w r => .ok (dW w) r
def rowLoop (part : Pf) : Nat → List PyData → Pf
  | 0, _, _ => .out
  | m + 1, acc, l => if isW "," l then (part l.tail).bind fun x r => rowLoop part m (acc ++ [x]) r else (wantW ")" l).bind fun _ r => .ok (.tuple acc) r
def pRow (part : Pf) : Pf := fun l => (wantW "(" l).bind fun _ l => if isW ")" l then .ok (.tuple []) l.tail else (part l).bind fun x l => rowLoop part LF [x] l
def blockLoop (part : Pf) : Nat → List PyData → Pf
  | 0, _, _ => .out
  | m + 1, acc, l => if isW "}" l then .ok (.tuple acc) l.tail else (part l).bind fun x r => blockLoop part m (acc ++ [x]) r
def pBlock (part : Pf) : Pf := fun l => (wantW "{" l).bind fun _ l => blockLoop part LF [] l
def pAim : List Tk → Rs PyData := fun l =>
  if isW "const" l then .ok (dS "const") l.tail else if isW "parent" l then .ok (dS "parent") l.tail else (wantW "var" l).bind fun _ l => if isW "parent" l then .ok (dS "varparent") l.tail else .ok (dS "var") l
def opsLoop (post : Pf) (ops : PyData → Int → Pf) (level : Int) : Nat → PyData → Pf
  | 0, _, _ => .out
  | _ + 1, _, [] => .out
  | m + 1, left, t :: l => if level ≤ lev t.text then (post l).bind fun x l => (ops x (lev t.text + 1) l).bind fun right l =>
      if lev t.text = 1 then .ok (.tuple [dS "op", dW t.text, left, right]) l else opsLoop post ops level m (.tuple [dS "op", dW t.text, left, right]) l
    else .ok left (t :: l)
def hasDot (l : List Tk) : Bool := match l with
  | d :: t :: u :: _ => decide (d.text = codes ".") && ((decide (t.kind = .name) || decide (t.text = codes "call")) && decide (u.text = codes "("))
  | _ => false
def postLoop (row : Pf) : Nat → PyData → Pf
  | 0, _, _ => .out
  | m + 1, tree, l => if hasDot l then match l with
      | _ :: t :: l => (row l).bind fun args l => postLoop row m (if t.text = codes "call" then .tuple [dS "call", tree, args] else .tuple [dS "send", tree, dW t.text, args]) l
      | _ => .out
    else .ok tree l
def constL : List (List Nat) := ["true", "false", "nothing", "self"].map codes
def aimL : List (List Nat) := ["const", "var", "parent"].map codes
/-- the defs that call one another, at one depth -/
structure Ps where
  whole : Pf
  ops : PyData → Int → Pf
  post : Pf
  prim : Pf
  rowN : Pf
  rowW : Pf
  slots : Pf
  slot : Pf
  method : Pf
  body : Pf
  stmt : Pf
  ended : Pf
  set : Pf
  assign : PyData → Pf
  slet : Pf
  sprint : Pf
  sreturn : Pf
  sif : Pf
  swhile : Pf
  sput : Pf
  sdrop : Pf
def psOut : Ps := ⟨fun _ => .out, fun _ _ _ => .out, fun _ => .out, fun _ => .out, fun _ => .out, fun _ => .out, fun _ => .out, fun _ => .out, fun _ => .out, fun _ => .out, fun _ => .out, fun _ => .out, fun _ => .out, fun _ _ => .out, fun _ => .out, fun _ => .out, fun _ => .out, fun _ => .out, fun _ => .out, fun _ => .out, fun _ => .out⟩
def psStep (p : Ps) : Ps where
  whole := fun l => (p.post l).bind fun x l => p.ops x 1 l
  ops := fun left level l => opsLoop p.post p.ops level LF left l
  post := fun l => (p.prim l).bind fun x l => postLoop p.rowW LF x l
  prim := fun l => match l with
    | [] => .out
    | t :: r => if t.kind = .number then .ok (.tuple [dS "num", .int (val t.text)]) r else if t.text ∈ constL then .ok (.tuple [dW t.text]) r
      else if t.text = codes "(" then (p.whole r).bind fun x l => (wantW ")" l).bind fun _ l => .ok x l
      else if t.text = codes "object" then (p.slots r).bind fun x l => .ok (.tuple [dS "object", x]) l
      else if t.text = codes "fn" then (p.rowN r).bind fun ps l => (p.body l).bind fun b l => .ok (.tuple [dS "fn", ps, b]) l
      else if t.text = codes "resend" then (nameW r).bind fun w l => (p.rowW l).bind fun as l => .ok (.tuple [dS "resend", dW w, as]) l
      else (nameW (t :: r)).bind fun w l => if isW "(" l then (p.rowW l).bind fun as l => .ok (.tuple [dS "own", dW w, as]) l else .ok (.tuple [dS "name", dW w]) l
  rowN := pRow pName
  rowW := pRow p.whole
  slots := pBlock p.slot
  slot := fun l => if isW "method" l then p.method l else
    (match l with | [] => Rs.out | t :: _ => if t.text ∈ aimL then pAim l else .ok (dS "const") l).bind fun a l => (nameW l).bind fun w l => (wantW "=" l).bind fun _ l => (p.ended l).bind fun x l => .ok (.tuple [a, dW w, x]) l
  method := fun l => (wantW "method" l).bind fun _ l => (nameW l).bind fun w l => (p.rowN l).bind fun ps l => (p.body l).bind fun b l => .ok (.tuple [dS "method", dW w, ps, b]) l
  body := pBlock p.stmt
  stmt := fun l => match l with
    | [] => .out
    | t :: r => if t.text = codes "let" then p.slet r else if t.text = codes "print" then p.sprint r else if t.text = codes "return" then p.sreturn r else if t.text = codes "if" then p.sif r else if t.text = codes "while" then p.swhile r
      else if t.text = codes "put" then p.sput r else if t.text = codes "drop" then p.sdrop r
      else if t.kind = .name ∧ isW ":=" r then p.set l
      else (p.post l).bind fun x l => if isW "." l then p.assign x l.tail else (p.ops x 1 l).bind fun y l => (wantW ";" l).bind fun _ l => .ok (.tuple [dS "expr", y]) l
  ended := fun l => (p.whole l).bind fun x l => (wantW ";" l).bind fun _ l => .ok x l
  set := fun l => (nameW l).bind fun w l => (wantW ":=" l).bind fun _ l => (p.ended l).bind fun x l => .ok (.tuple [dS "set", dW w, x]) l
  assign := fun target l => (nameW l).bind fun w l => (wantW ":=" l).bind fun _ l => (p.ended l).bind fun x l => .ok (.tuple [dS "assign", target, dW w, x]) l
  slet := fun l => (nameW l).bind fun w l => (wantW "=" l).bind fun _ l => (p.ended l).bind fun x l => .ok (.tuple [dS "let", dW w, x]) l
  sprint := fun l => (p.ended l).bind fun x l => .ok (.tuple [dS "print", x]) l
  sreturn := fun l => (p.ended l).bind fun x l => .ok (.tuple [dS "return", x]) l
  sif := fun l => (p.whole l).bind fun c l => (p.body l).bind fun b l => if isW "else" l then (p.body l.tail).bind fun o l => .ok (.tuple [dS "if", c, b, o]) l else .ok (.tuple [dS "if", c, b, .none]) l
  swhile := fun l => (p.whole l).bind fun c l => (p.body l).bind fun b l => .ok (.tuple [dS "while", c, b]) l
  sput := fun l => (p.post l).bind fun x l => (wantW "." l).bind fun _ l => (nameW l).bind fun w l => (pAim l).bind fun a l => (wantW "=" l).bind fun _ l => (p.ended l).bind fun y l => .ok (.tuple [dS "put", x, dW w, a, y]) l
  sdrop := fun l => (p.post l).bind fun x l => (wantW "." l).bind fun _ l => (nameW l).bind fun w l => (wantW ";" l).bind fun _ l => .ok (.tuple [dS "drop", x, dW w]) l
def ps : Nat → Ps
  | 0 => psOut
  | n + 1 => psStep (ps n)
/-- what stands at the cursor: only it moves, what else was tracked stays -/
def Fr (p : Addr) (H H' : Hp) : Prop := ∀ b o, b ≠ p → H b = some o → H' b = some o
theorem Fr.refl (p : Addr) (H : Hp) : Fr p H H := fun _ _ _ h => h
theorem Fr.trans {p : Addr} {H H1 H2 : Hp} (a : Fr p H H1) (b : Fr p H1 H2) : Fr p H H2 := fun c o n h => b c o n (a c o n h)
theorem Fr.mv {p : Addr} {H : Hp} (o : HO) : Fr p H (upd H p o) := fun b u n h => by
  rw [upd_ne n]
  exact h
theorem Fr.new {p a : Addr} {H : Hp} {o : HO} (n : H a = none) : Fr p H (upd H a o) := fun b u _ h => by
  rw [upd_ne (ne_of_none h n)]
  exact h
theorem Fr.tk {p : Addr} {H H' : Hp} {K : PySem.W.Frag} {dx f : Addr} {i : Nat} (hp : H p = some (cuO K dx f i)) (k : Fr p H H') : TK H H' := fun a xs h => k a _ (ne_of h hp (by intro z; cases z)) h
/-! ### the tokens of a text: the end stands last and only there -/
structure Wf (ts : List Tk) : Prop where
  next : ∀ (i : Nat) (t : Tk), ts[i]? = some t → t.kind ≠ .fin → ∃ u, ts[i + 1]? = some u
  fin : ∀ t ∈ ts, t.kind = .fin → t.text = []
  num : ∀ t ∈ ts, t.kind = .number → isNum t.text = true ∧ t.text ≠ []
theorem step_kind {x : Nat} {xs : List Nat} {r c : Int} {t : Tk} {l' : List Nat} {r2 c2 : Int} (h : Lx.step x xs r c = .ok (t, l', r2, c2)) : t.kind ≠ .fin ∧ (t.kind = .number → isNum t.text = true ∧ t.text ≠ []) := by
  unfold Lx.step at h
  split at h
  · cases h
    refine ⟨?_, ?_⟩
    · show Lx.kindOf _ ≠ _
      unfold Lx.kindOf
      split <;> (intro z; cases z)
    · show Lx.kindOf _ = _ → _
      unfold Lx.kindOf
      split <;> (intro z; cases z)
  · split at h
    · rename_i hd
      split at h
      · rename_i hn
        cases h
        have hw : isWP x = true := by
          show (isLet x || (isDig x || x == 95)) = true
          rw [hd, Bool.true_or, Bool.or_true]
        exact ⟨(fun z => by cases z), fun _ => ⟨hn, List.length_pos_iff.mp (word_pos hw)⟩⟩
      · cases h
    · split at h
      · cases h
        exact ⟨(fun z => by cases z), fun z => by cases z⟩
      · split at h
        · cases h
          exact ⟨(fun z => by cases z), fun z => by cases z⟩
        · cases h
theorem wf_end (r c : Int) : Wf [⟨.fin, [], r, c⟩] := by
  refine ⟨fun i t h ne => ?_, fun t h _ => ?_, fun t h e => ?_⟩
  · cases i with
    | zero =>
      cases h
      exact absurd rfl ne
    | succ i => simp at h
  · rw [List.mem_singleton.mp h]
  · rw [List.mem_singleton.mp h] at e
    cases e
theorem Wf.cons {t : Tk} {ts : List Tk} (h : Wf ts) (ne : ts ≠ []) (k1 : t.kind ≠ .fin) (k2 : t.kind = .number → isNum t.text = true ∧ t.text ≠ []) : Wf (t :: ts) := by
  refine ⟨fun i u e hu => ?_, fun u m e => ?_, fun u m e => ?_⟩
  · cases i with
    | zero =>
      cases ts with
      | nil => exact absurd rfl ne
      | cons v vs => exact ⟨v, rfl⟩
    | succ i => exact h.next i u e hu
  · rcases List.mem_cons.mp m with rfl | m
    · exact absurd e k1
    · exact h.fin u m e
  · rcases List.mem_cons.mp m with rfl | m
    · exact k2 e
    · exact h.num u m e
theorem lexF_wf : ∀ (n : Nat) (l : List Nat) (r c : Int), l.length < n → (lexF n l r c).2 = none → Wf (lexF n l r c).1 ∧ (lexF n l r c).1 ≠ []
  | 0, l, r, c, h, _ => absurd h (Nat.not_lt_zero _)
  | n + 1, l, r, c, h, e => by
    have hs := skip_len false l r c
    unfold lexF at e ⊢
    split
    · exact ⟨wf_end _ _, by simp⟩
    · rename_i x xs r' c' hsk
      rw [hsk] at e hs
      dsimp only at e
      split
      · rename_i er hst
        rw [hst] at e
        cases e
      · rename_i t l' r2 c2 hst
        rw [hst] at e
        have hl := step_len hst
        have hs : (x :: xs).length ≤ l.length := hs
        obtain ⟨w1, w2⟩ := lexF_wf n l' r2 c2 (by omega) e
        obtain ⟨k1, k2⟩ := step_kind hst
        exact ⟨w1.cons w2 k1 k2, by simp⟩
theorem lex_wf {l : List Nat} {r c : Int} {ts : List Tk} (h : lex l r c = (ts, none)) : Wf ts ∧ ts ≠ [] := by
  have q := lexF_wf (l.length + 1) l r c (Nat.lt_succ_self _) (by
    have : (lex l r c).2 = none := by rw [h]
    exact this)
  have e : (lexF (l.length + 1) l r c).1 = ts := by
    have : (lex l r c).1 = ts := by rw [h]
    exact this
  rw [e] at q
  exact q
/-- no more tokens than signs, and one -/
theorem lexF_count : ∀ (n : Nat) (l : List Nat) (r c : Int), (lexF n l r c).1.length ≤ l.length + 1
  | 0, l, r, c => Nat.zero_le _
  | n + 1, l, r, c => by
    have hs := skip_len false l r c
    unfold lexF
    split
    · exact Nat.succ_le_succ (Nat.zero_le _)
    · rename_i x xs r' c' hsk
      rw [hsk] at hs
      have hs : (x :: xs).length ≤ l.length := hs
      split
      · exact Nat.zero_le _
      · rename_i t l' r2 c2 hst
        have hl := step_len hst
        have ih := lexF_count n l' r2 c2
        show (lexF n l' r2 c2).1.length + 1 ≤ _
        omega
theorem lex_count (l : List Nat) (r c : Int) : (lex l r c).1.length ≤ l.length + 1 := lexF_count _ l r c
end Rm

/-! P1: the parser's defs: promises, readings (by gen.py), runs. -/
namespace Rm
open PySem PySem.Spec PyProof.Rows L2 Lx
/-- at a token that is there -/
structure At (K : PySem.W.Frag) (H : Hp) (p dx f : Addr) (ts : List Tk) (i : Nat) : Prop where
  cu : Cu K H p dx f ts i
  lt : i < ts.length
  wf : Wf ts
/-- what is wanted behind a piece that gives x -/
structure Ret (K : PySem.W.Frag) (p dx f : Addr) (ts : List Tk) (H : Hp) (Q : VK) (E : XK) (x : Rs PyData) : Prop where
  some_ : x ≠ .out
  ok : ∀ d j v H', x = .ok d (ts.drop j) → Fr p H H' → At K H' p dx f ts j → Tr H' v d → Q v H'
  no : ∀ r c H', x = .no r c → Fr p H H' → EW1 K "Unexpected" r c E H'
def sp_pf (K : PySem.W.Frag) (g : Pf) : Sp := fun vs H Q E => ∃ (p dx f : Addr) (ts : List Tk) (i : Nat), vs = [.ref p] ∧ At K H p dx f ts i ∧ Ret K p dx f ts H Q E (g (ts.drop i))
abbrev sp_parse_name (K : PySem.W.Frag) : Sp := sp_pf K pName
abbrev sp_parse_aim (K : PySem.W.Frag) : Sp := sp_pf K pAim
def sp_has_own_dot (K : PySem.W.Frag) : Sp := fun vs H Q _ => ∃ (p dx f : Addr) (ts : List Tk) (i : Nat), vs = [.ref p] ∧ At K H p dx f ts i ∧ Q (.bl (hasDot (ts.drop i))) H
abbrev sp_parse_whole (K : PySem.W.Frag) (n : Nat) : Sp := sp_pf K (ps n).whole
def sp_parse_operators (K : PySem.W.Frag) (n : Nat) : Sp := fun vs H Q E => ∃ (p dx f : Addr) (ts : List Tk) (i : Nat) (v : V) (d : PyData) (level : Int), vs = [.ref p, v, .int level] ∧ At K H p dx f ts i ∧ Tr H v d ∧ 1 ≤ level ∧ Ret K p dx f ts H Q E ((ps n).ops d level (ts.drop i))
abbrev sp_parse_postfix (K : PySem.W.Frag) (n : Nat) : Sp := sp_pf K (ps n).post
abbrev sp_parse_primary (K : PySem.W.Frag) (n : Nat) : Sp := sp_pf K (ps n).prim
def sp_parse_row (K : PySem.W.Frag) (n : Nat) : Sp := fun vs H Q E => ∃ (p dx f : Addr) (ts : List Tk) (i : Nat) (g : Addr) (part : Pf), vs = [.ref p, .ref g] ∧ ((g = He.ga K ("parse_name" : Str) ∧ part = (ps n).rowN) ∨ (g = He.ga K ("parse_whole" : Str) ∧ part = (ps n).rowW)) ∧ At K H p dx f ts i ∧ Ret K p dx f ts H Q E (part (ts.drop i))
abbrev sp_parse_slots (K : PySem.W.Frag) (n : Nat) : Sp := sp_pf K (ps n).slots
abbrev sp_parse_slot (K : PySem.W.Frag) (n : Nat) : Sp := sp_pf K (ps n).slot
abbrev sp_parse_method (K : PySem.W.Frag) (n : Nat) : Sp := sp_pf K (ps n).method
abbrev sp_parse_body (K : PySem.W.Frag) (n : Nat) : Sp := sp_pf K (ps n).body
abbrev sp_parse_statement (K : PySem.W.Frag) (n : Nat) : Sp := sp_pf K (ps n).stmt
abbrev sp_parse_ended (K : PySem.W.Frag) (n : Nat) : Sp := sp_pf K (ps n).ended
abbrev sp_parse_set (K : PySem.W.Frag) (n : Nat) : Sp := sp_pf K (ps n).set
def sp_parse_assign (K : PySem.W.Frag) (n : Nat) : Sp := fun vs H Q E => ∃ (p dx f : Addr) (ts : List Tk) (i : Nat) (v : V) (d : PyData), vs = [.ref p, v] ∧ At K H p dx f ts i ∧ Tr H v d ∧ Ret K p dx f ts H Q E ((ps n).assign d (ts.drop i))
abbrev sp_parse_let (K : PySem.W.Frag) (n : Nat) : Sp := sp_pf K (ps n).slet
abbrev sp_parse_print (K : PySem.W.Frag) (n : Nat) : Sp := sp_pf K (ps n).sprint
abbrev sp_parse_return (K : PySem.W.Frag) (n : Nat) : Sp := sp_pf K (ps n).sreturn
abbrev sp_parse_if (K : PySem.W.Frag) (n : Nat) : Sp := sp_pf K (ps n).sif
abbrev sp_parse_while (K : PySem.W.Frag) (n : Nat) : Sp := sp_pf K (ps n).swhile
abbrev sp_parse_put (K : PySem.W.Frag) (n : Nat) : Sp := sp_pf K (ps n).sput
abbrev sp_parse_drop (K : PySem.W.Frag) (n : Nat) : Sp := sp_pf K (ps n).sdrop
/-- what parse_row's part may be -/
def RowS (K : PySem.W.Frag) (n : Nat) (a : Addr) (sp : Sp) : Prop := (a = He.ga K ("parse_name" : Str) ∧ sp = sp_parse_name K) ∨ (a = He.ga K ("parse_whole" : Str) ∧ sp = sp_parse_whole K n)
/-- what stands behind the words of statements -/
def StmtS (K : PySem.W.Frag) (n : Nat) (a : Addr) (sp : Sp) : Prop := (a = He.ga K ("parse_let" : Str) ∧ sp = sp_parse_let K n) ∨ (a = He.ga K ("parse_print" : Str) ∧ sp = sp_parse_print K n) ∨ (a = He.ga K ("parse_return" : Str) ∧ sp = sp_parse_return K n) ∨
  (a = He.ga K ("parse_if" : Str) ∧ sp = sp_parse_if K n) ∨ (a = He.ga K ("parse_while" : Str) ∧ sp = sp_parse_while K n) ∨ (a = He.ga K ("parse_put" : Str) ∧ sp = sp_parse_put K n) ∨ (a = He.ga K ("parse_drop" : Str) ∧ sp = sp_parse_drop K n)
/-! ### steps -/
section
variable {K : PySem.W.Frag} {H H' : Hp} {Q : VK} {E : XK} {p dx f : Addr} {ts : List Tk} {i j : Nat}
theorem drop_at {t : Tk} (h : ts[i]? = some t) : ts.drop i = t :: ts.drop (i + 1) := by
  obtain ⟨hi, e⟩ := List.getElem?_eq_some_iff.mp h
  rw [List.drop_eq_getElem_cons hi, e]
theorem At.tok (a : At K H p dx f ts i) : ∃ t, ts[i]? = some t ∧ ts.drop i = t :: ts.drop (i + 1) := by
  have e : ts[i]? = some (ts[i]'a.lt) := List.getElem?_eq_getElem a.lt
  exact ⟨_, e, drop_at e⟩
theorem At.fr (a : At K H p dx f ts i) (k : Fr p H H') (h : H' p = some (cuO K dx f j)) (lt : j < ts.length) : At K H' p dx f ts j := by
  obtain ⟨⟨h1, h2, h3⟩, _, w⟩ := a
  refine ⟨⟨h, ?_, h3⟩, lt, w⟩
  obtain ⟨qs, q1, q2, q3⟩ := h2
  refine ⟨qs, k _ _ (ne_of q1 h1 (by intro z; cases z)) q1, q2, fun m q t e1 e2 => ?_⟩
  have q4 := q3 m q t e1 e2
  exact k _ _ (ne_of q4 h1 (by intro z; cases z)) q4
theorem At.tk (a : At K H p dx f ts i) (k : Fr p H H') : TK H H' := Fr.tk a.cu.1 k
theorem At.new {q : Addr} {o : HO} (a : At K H p dx f ts i) (n : H q = none) : At K (upd H q o) p dx f ts i := a.fr (Fr.new n) (by
  rw [upd_ne (ne_of_none a.cu.1 n)]
  exact a.cu.1) a.lt
/-- the cursor moves on -/
theorem At.step {t : Tk} (a : At K H p dx f ts i) (ht : ts[i]? = some t) (k : t.kind ≠ .fin) : At K (mvU K H p dx f (i + 1)) p dx f ts (i + 1) := by
  obtain ⟨u, hu⟩ := a.wf.next i t ht k
  exact a.fr (Fr.mv _) upd_same (List.getElem?_eq_some_iff.mp hu).1
theorem At.word_fin {t : Tk} {w : List Nat} (a : At K H p dx f ts i) (ht : ts[i]? = some t) (h : t.text = w) (hw : w ≠ []) : t.kind ≠ .fin := fun e => hw (by
  rw [← h]
  exact a.wf.fin t (List.mem_of_getElem? ht) e)
theorem Ret.from_ {x : Rs PyData} (R : Ret K p dx f ts H Q E x) (k : Fr p H H') : Ret K p dx f ts H' Q E x := ⟨R.some_, fun d j v G e k2 a t => R.ok d j v G e (k.trans k2) a t, fun r c G e k2 => R.no r c G e (k.trans k2)⟩
theorem Ret.done {d : PyData} {v : V} (R : Ret K p dx f ts H Q E (.ok d (ts.drop j))) (a : At K H p dx f ts j) (t : Tr H v d) : Q v H := R.ok d j v H rfl (Fr.refl p H) a t
theorem Ret.tup {ds : List PyData} {xs : List V} {q : Addr} (R : Ret K p dx f ts H Q E (.ok (.tuple ds) (ts.drop j))) (a : At K H p dx f ts j) (t : Trs H xs ds) (n : H q = none) : Q (.ref q) (upd H q (.tup xs)) :=
  R.ok _ j _ _ rfl (Fr.new n) (a.new n) (.tup upd_same (t.keep (TK.new n)))
/-- a def of the parser is called -/
theorem Ret.call {x : Rs PyData} {k : PyData → List Tk → Rs PyData} {Q' : VK} (R : Ret K p dx f ts H Q E (x.bind k)) (q : ∀ d j v G, Fr p H G → At K G p dx f ts j → Tr G v d → Ret K p dx f ts G Q E (k d (ts.drop j)) → Q' v G) : Ret K p dx f ts H Q' E x := by
  refine ⟨fun e => R.some_ (by rw [e]; rfl), fun d j v G e fr a t => ?_, fun r c G e fr => R.no r c G (by rw [e]; rfl) fr⟩
  refine q d j v G fr a t ?_
  rw [e] at R
  exact R.from_ fr
theorem Ret.tail {x : Rs PyData} {Q' : VK} (R : Ret K p dx f ts H Q E x) (q : ∀ v G, Q v G → Q' v G) : Ret K p dx f ts H Q' E x := ⟨R.some_, fun d j v G e k a t => q v G (R.ok d j v G e k a t), R.no⟩
abbrev cM (K : PySem.W.Frag) (m : Str) (sp : Sp) (dv : List V) (E : XK) (ta : TA) : TE := tMeth (He.ga K ("Cursor" : Str)) m sp dv E (tVar 0) ta
variable {σ : L2.St} {Y : VK}
theorem ex_word {t : Tk} (hσ : σ[0]? = some (some (.ref p))) (a : At K H p dx f ts i) (ht : ts[i]? = some t) (y : Y (.str (Tx t.text)) H) : cM K "word" (sp_Cursor_word K) [.int 0] E tNil σ H Y :=
  ⟨_, hσ, p, dx, _, rfl, a.cu.1, cuF_no (by decide +kernel) (by decide +kernel), p, dx, f, ts, i, 0, t, rfl, a.cu, ht, y⟩
theorem ex_kind {t : Tk} (hσ : σ[0]? = some (some (.ref p))) (a : At K H p dx f ts i) (ht : ts[i]? = some t) (y : Y (.str (kdS t.kind)) H) : cM K "kind" (sp_Cursor_kind K) [.int 0] E tNil σ H Y :=
  ⟨_, hσ, p, dx, _, rfl, a.cu.1, cuF_no (by decide +kernel) (by decide +kernel), p, dx, f, ts, i, 0, t, rfl, a.cu, ht, y⟩
theorem ex_wordN {t : Tk} {m : Nat} (hσ : σ[0]? = some (some (.ref p))) (a : At K H p dx f ts i) (ht : ts[i + m]? = some t) (y : Y (.str (Tx t.text)) H) : cM K "word" (sp_Cursor_word K) [] E (tCons (tC (.int (m : Int))) tNil) σ H Y :=
  ⟨_, hσ, p, dx, _, rfl, a.cu.1, cuF_no (by decide +kernel) (by decide +kernel), p, dx, f, ts, i, m, t, rfl, a.cu, ht, y⟩
theorem ex_kindN {t : Tk} {m : Nat} (hσ : σ[0]? = some (some (.ref p))) (a : At K H p dx f ts i) (ht : ts[i + m]? = some t) (y : Y (.str (kdS t.kind)) H) : cM K "kind" (sp_Cursor_kind K) [] E (tCons (tC (.int (m : Int))) tNil) σ H Y :=
  ⟨_, hσ, p, dx, _, rfl, a.cu.1, cuF_no (by decide +kernel) (by decide +kernel), p, dx, f, ts, i, m, t, rfl, a.cu, ht, y⟩
theorem ex_take {t : Tk} (hσ : σ[0]? = some (some (.ref p))) (a : At K H p dx f ts i) (ht : ts[i]? = some t) (k : t.kind ≠ .fin) (y : ∀ G, Fr p H G → At K G p dx f ts (i + 1) → Y (.str (Tx t.text)) G) : cM K "take" (sp_Cursor_take K) [] E tNil σ H Y :=
  ⟨_, hσ, p, dx, _, rfl, a.cu.1, cuF_no (by decide +kernel) (by decide +kernel), p, dx, f, ts, i, t, rfl, a.cu, ht, y _ (Fr.mv _) (a.step ht k)⟩
theorem ex_took {t : Tk} {s : String} (hσ : σ[0]? = some (some (.ref p))) (a : At K H p dx f ts i) (ht : ts[i]? = some t) (hs : codes s ≠ []) (y1 : t.text = codes s → ∀ G, Fr p H G → At K G p dx f ts (i + 1) → Y (.bl true) G) (y2 : t.text ≠ codes s → Y (.bl false) H) :
    cM K "took" (sp_Cursor_took K) [] E (tCons (tC (.str (Str.ofString s))) tNil) σ H Y :=
  ⟨_, hσ, p, dx, _, rfl, a.cu.1, cuF_no (by decide +kernel) (by decide +kernel), p, dx, f, ts, i, t, codes s, by rw [← Tx_of s]; rfl, a.cu, ht, fun c => y1 c _ (Fr.mv _) (a.step ht (a.word_fin ht c hs)), y2⟩
theorem ex_name {k : List Nat → List Tk → Rs PyData} (hσ : σ[0]? = some (some (.ref p))) (a : At K H p dx f ts i) (R : Ret K p dx f ts H Q E ((nameW (ts.drop i)).bind k))
    (y : ∀ w G, Fr p H G → At K G p dx f ts (i + 1) → Ret K p dx f ts G Q E (k w (ts.drop (i + 1))) → Y (.str (Tx w)) G) : cM K "take_name" (sp_Cursor_take_name K (EW1 K)) [] E tNil σ H Y := by
  obtain ⟨t, ht, ed⟩ := a.tok
  rw [ed] at R
  refine ⟨_, hσ, p, dx, _, rfl, a.cu.1, cuF_no (by decide +kernel) (by decide +kernel), p, dx, f, ts, i, t, rfl, a.cu, ht, fun c => ?_, fun c => ?_⟩
  · have e : nameW (t :: ts.drop (i + 1)) = .ok t.text (ts.drop (i + 1)) := if_pos c
    rw [e] at R
    exact y _ _ (Fr.mv _) (a.step ht (by rw [c]; intro z; cases z)) (R.from_ (Fr.mv _))
  · have e : nameW (t :: ts.drop (i + 1)) = .no t.row t.col := if_neg c
    rw [e] at R
    exact R.no _ _ _ rfl (Fr.refl p H)
theorem st_want {s : String} {k : Unit → List Tk → Rs PyData} {D : Ends} (hσ : σ[0]? = some (some (.ref p))) (a : At K H p dx f ts i) (hs : codes s ≠ []) (R : Ret K p dx f ts H Q E ((wantW s (ts.drop i)).bind k))
    (y : ∀ G, Fr p H G → At K G p dx f ts (i + 1) → Ret K p dx f ts G Q E (k () (ts.drop (i + 1))) → D.nx σ G) : tDrop (cM K "want" (sp_Cursor_want K (EW1 K)) [] E (tCons (tC (.str (Str.ofString s))) tNil)) D σ H := by
  obtain ⟨t, ht, ed⟩ := a.tok
  rw [ed] at R
  refine ⟨_, hσ, p, dx, _, rfl, a.cu.1, cuF_no (by decide +kernel) (by decide +kernel), p, dx, f, ts, i, t, codes s, by rw [← Tx_of s]; rfl, a.cu, ht, fun c => ?_, fun c => ?_⟩
  · have e : wantW s (t :: ts.drop (i + 1)) = .ok () (ts.drop (i + 1)) := if_pos c
    rw [e] at R
    exact y _ (Fr.mv _) (a.step ht (a.word_fin ht c hs)) (R.from_ (Fr.mv _))
  · have e : wantW s (t :: ts.drop (i + 1)) = .no t.row t.col := if_neg c
    rw [e] at R
    exact R.no _ _ _ rfl (Fr.refl p H)
theorem isW_at {t : Tk} {s : String} (ht : ts[i]? = some t) : isW s (ts.drop i) = decide (t.text = codes s) := by
  rw [drop_at ht]
  rfl
theorem tail_at : (ts.drop i).tail = ts.drop (i + 1) := by
  rw [← List.drop_one, List.drop_drop]
end
/-! ### readings -/

def ns_parse_name : List Str := ["cursor"]
def t_parse_name (K : PySem.W.Frag) (E : XK) : TS :=
  (tRet (tMeth (He.ga K ("Cursor" : Str)) ("take_name" : Str) (sp_Cursor_take_name K (EW1 K)) [] E (tVar 0) tNil))

def ns_parse_aim : List Str := ["cursor"]
def t_parse_aim (K : PySem.W.Frag) (E : XK) : TS :=
  (tSeq (tIfS (tB (tMeth (He.ga K ("Cursor" : Str)) ("took" : Str) (sp_Cursor_took K) [] E (tVar 0) (tCons (tC (.str ("const" : Str))) tNil)))
      (tRet (tC (.str ("const" : Str))))
      tNext)
    (tSeq (tIfS (tB (tMeth (He.ga K ("Cursor" : Str)) ("took" : Str) (sp_Cursor_took K) [] E (tVar 0) (tCons (tC (.str ("parent" : Str))) tNil)))
      (tRet (tC (.str ("parent" : Str))))
      tNext)
    (tSeq (tDrop (tMeth (He.ga K ("Cursor" : Str)) ("want" : Str) (sp_Cursor_want K (EW1 K)) [] E (tVar 0) (tCons (tC (.str ("var" : Str))) tNil)))
    (tSeq (tIfS (tB (tMeth (He.ga K ("Cursor" : Str)) ("took" : Str) (sp_Cursor_took K) [] E (tVar 0) (tCons (tC (.str ("parent" : Str))) tNil)))
      (tRet (tC (.str ("varparent" : Str))))
      tNext)
    (tRet (tC (.str ("var" : Str))))))))

def ns_has_own_dot : List Str := ["cursor"]
def t_has_own_dot (K : PySem.W.Frag) (E : XK) : TS :=
  (tSeq (tIfS (tTest (tOp rNe (tMeth (He.ga K ("Cursor" : Str)) ("word" : Str) (sp_Cursor_word K) [.int 0] E (tVar 0) tNil) (tC (.str ("." : Str)))))
      (tRet (tC (.bl false)))
      tNext)
    (tSeq (tIfS (tAnd (tTest (tOp rNe (tMeth (He.ga K ("Cursor" : Str)) ("kind" : Str) (sp_Cursor_kind K) [] E (tVar 0) (tCons (tC (.int 1)) tNil)) (tC (.str ("name" : Str))))) (tTest (tOp rNe (tMeth (He.ga K ("Cursor" : Str)) ("word" : Str) (sp_Cursor_word K) [] E (tVar 0) (tCons (tC (.int 1)) tNil)) (tC (.str ("call" : Str))))))
      (tRet (tC (.bl false)))
      tNext)
    (tRet (tOp rEq (tMeth (He.ga K ("Cursor" : Str)) ("word" : Str) (sp_Cursor_word K) [] E (tVar 0) (tCons (tC (.int 2)) tNil)) (tC (.str ("(" : Str)))))))

def ns_parse_whole : List Str := ["cursor"]
def t_parse_whole (K : PySem.W.Frag) (w : World) (n : Nat) (E : XK) : TS :=
  (tRet (tCall (sp_parse_operators K n) [] E (tCons (tVar 0) (tCons (tCall (sp_parse_postfix K n) [] E (tCons (tVar 0) tNil)) (tCons (tC (.int 1)) tNil)))))

def ns_parse_operators : List Str := ["cursor", "left", "level", "sign", "higher", "right"]
def t_parse_operators (K : PySem.W.Frag) (w : World) (n : Nat) (E : XK) : TS :=
  (tSeq (tWhile (tTest (tOp rGeI (tKGet2 K w (tC (.ref (He.ga K ("LEVELS" : Str)))) (tMeth (He.ga K ("Cursor" : Str)) ("word" : Str) (sp_Cursor_word K) [.int 0] E (tVar 0) tNil) (tC (.int 0))) (tVar 2)))
      (tSeq (tAsg (tMeth (He.ga K ("Cursor" : Str)) ("take" : Str) (sp_Cursor_take K) [] E (tVar 0) tNil) (gName 3))
    (tSeq (tAsg (tOp rAddI (tOp (rKIx K w) (tC (.ref (He.ga K ("LEVELS" : Str)))) (tVar 3)) (tC (.int 1))) (gName 4))
    (tSeq (tAsg (tCall (sp_parse_operators K n) [] E (tCons (tVar 0) (tCons (tCall (sp_parse_postfix K n) [] E (tCons (tVar 0) tNil)) (tCons (tVar 4) tNil)))) (gName 5))
    (tSeq (tAsg (tTup (tCons (tC (.str ("op" : Str))) (tCons (tVar 3) (tCons (tVar 1) (tCons (tVar 5) tNil))))) (gName 1))
    (tIfS (tTest (tOp rEq (tOp (rKIx K w) (tC (.ref (He.ga K ("LEVELS" : Str)))) (tVar 3)) (tC (.int 1))))
      (tRet (tVar 1))
      tNext))))))
    (tRet (tVar 1)))

def ns_parse_postfix : List Str := ["cursor", "tree", "word", "args"]
def t_parse_postfix (K : PySem.W.Frag) (w : World) (n : Nat) (E : XK) : TS :=
  (tSeq (tAsg (tCall (sp_parse_primary K n) [] E (tCons (tVar 0) tNil)) (gName 1))
    (tSeq (tWhile (tB (tCall (sp_has_own_dot K) [] E (tCons (tVar 0) tNil)))
      (tSeq (tDrop (tMeth (He.ga K ("Cursor" : Str)) ("want" : Str) (sp_Cursor_want K (EW1 K)) [] E (tVar 0) (tCons (tC (.str ("." : Str))) tNil)))
    (tSeq (tAsg (tMeth (He.ga K ("Cursor" : Str)) ("take" : Str) (sp_Cursor_take K) [] E (tVar 0) tNil) (gName 2))
    (tSeq (tAsg (tCall (sp_parse_row K n) [] E (tCons (tVar 0) (tCons (tC (.ref (He.ga K ("parse_whole" : Str)))) tNil))) (gName 3))
    (tIfS (tTest (tOp rEq (tVar 2) (tC (.str ("call" : Str)))))
      (tAsg (tTup (tCons (tC (.str ("call" : Str))) (tCons (tVar 1) (tCons (tVar 3) tNil)))) (gName 1))
      (tAsg (tTup (tCons (tC (.str ("send" : Str))) (tCons (tVar 1) (tCons (tVar 2) (tCons (tVar 3) tNil))))) (gName 1)))))))
    (tRet (tVar 1))))

def ns_parse_primary : List Str := ["cursor", "tree", "params", "name"]
def t_parse_primary (K : PySem.W.Frag) (w : World) (n : Nat) (E : XK) : TS :=
  (tSeq (tIfS (tTest (tOp rEq (tMeth (He.ga K ("Cursor" : Str)) ("kind" : Str) (sp_Cursor_kind K) [.int 0] E (tVar 0) tNil) (tC (.str ("number" : Str)))))
      (tRet (tTup (tCons (tC (.str ("num" : Str))) (tCons (tCB rIntS (tCons (tMeth (He.ga K ("Cursor" : Str)) ("take" : Str) (sp_Cursor_take K) [] E (tVar 0) tNil) tNil)) tNil))))
      tNext)
    (tSeq (tIfS (tTest (tOp (rIn K false) (tMeth (He.ga K ("Cursor" : Str)) ("word" : Str) (sp_Cursor_word K) [.int 0] E (tVar 0) tNil) (tC (.ref (He.ga K ("CONSTANTS" : Str))))))
      (tRet (tTup (tCons (tMeth (He.ga K ("Cursor" : Str)) ("take" : Str) (sp_Cursor_take K) [] E (tVar 0) tNil) tNil)))
      tNext)
    (tSeq (tIfS (tB (tMeth (He.ga K ("Cursor" : Str)) ("took" : Str) (sp_Cursor_took K) [] E (tVar 0) (tCons (tC (.str ("(" : Str))) tNil)))
      (tSeq (tAsg (tCall (sp_parse_whole K n) [] E (tCons (tVar 0) tNil)) (gName 1))
    (tSeq (tDrop (tMeth (He.ga K ("Cursor" : Str)) ("want" : Str) (sp_Cursor_want K (EW1 K)) [] E (tVar 0) (tCons (tC (.str (")" : Str))) tNil)))
    (tRet (tVar 1))))
      tNext)
    (tSeq (tIfS (tB (tMeth (He.ga K ("Cursor" : Str)) ("took" : Str) (sp_Cursor_took K) [] E (tVar 0) (tCons (tC (.str ("object" : Str))) tNil)))
      (tRet (tTup (tCons (tC (.str ("object" : Str))) (tCons (tCall (sp_parse_slots K n) [] E (tCons (tVar 0) tNil)) tNil))))
      tNext)
    (tSeq (tIfS (tB (tMeth (He.ga K ("Cursor" : Str)) ("took" : Str) (sp_Cursor_took K) [] E (tVar 0) (tCons (tC (.str ("fn" : Str))) tNil)))
      (tSeq (tAsg (tCall (sp_parse_row K n) [] E (tCons (tVar 0) (tCons (tC (.ref (He.ga K ("parse_name" : Str)))) tNil))) (gName 2))
    (tRet (tTup (tCons (tC (.str ("fn" : Str))) (tCons (tVar 2) (tCons (tCall (sp_parse_body K n) [] E (tCons (tVar 0) tNil)) tNil))))))
      tNext)
    (tSeq (tIfS (tB (tMeth (He.ga K ("Cursor" : Str)) ("took" : Str) (sp_Cursor_took K) [] E (tVar 0) (tCons (tC (.str ("resend" : Str))) tNil)))
      (tSeq (tAsg (tMeth (He.ga K ("Cursor" : Str)) ("take_name" : Str) (sp_Cursor_take_name K (EW1 K)) [] E (tVar 0) tNil) (gName 3))
    (tRet (tTup (tCons (tC (.str ("resend" : Str))) (tCons (tVar 3) (tCons (tCall (sp_parse_row K n) [] E (tCons (tVar 0) (tCons (tC (.ref (He.ga K ("parse_whole" : Str)))) tNil))) tNil))))))
      tNext)
    (tSeq (tAsg (tMeth (He.ga K ("Cursor" : Str)) ("take_name" : Str) (sp_Cursor_take_name K (EW1 K)) [] E (tVar 0) tNil) (gName 3))
    (tSeq (tIfS (tTest (tOp rEq (tMeth (He.ga K ("Cursor" : Str)) ("word" : Str) (sp_Cursor_word K) [.int 0] E (tVar 0) tNil) (tC (.str ("(" : Str)))))
      (tRet (tTup (tCons (tC (.str ("own" : Str))) (tCons (tVar 3) (tCons (tCall (sp_parse_row K n) [] E (tCons (tVar 0) (tCons (tC (.ref (He.ga K ("parse_whole" : Str)))) tNil))) tNil)))))
      tNext)
    (tRet (tTup (tCons (tC (.str ("name" : Str))) (tCons (tVar 3) tNil))))))))))))

def ns_parse_row : List Str := ["cursor", "parse_part", "parts"]
def t_parse_row (K : PySem.W.Frag) (w : World) (n : Nat) (E : XK) : TS :=
  (tSeq (tDrop (tMeth (He.ga K ("Cursor" : Str)) ("want" : Str) (sp_Cursor_want K (EW1 K)) [] E (tVar 0) (tCons (tC (.str ("(" : Str))) tNil)))
    (tSeq (tIfS (tB (tMeth (He.ga K ("Cursor" : Str)) ("took" : Str) (sp_Cursor_took K) [] E (tVar 0) (tCons (tC (.str (")" : Str))) tNil)))
      (tRet (tTup tNil))
      tNext)
    (tSeq (tAsg (tLst (tCons (tCallP 1 (RowS K n) E (tCons (tVar 0) tNil)) tNil)) (gName 2))
    (tSeq (tWhile (tB (tMeth (He.ga K ("Cursor" : Str)) ("took" : Str) (sp_Cursor_took K) [] E (tVar 0) (tCons (tC (.str ("," : Str))) tNil)))
      (tDrop (tBM K "list" rAppend (tVar 2) (tCons (tCallP 1 (RowS K n) E (tCons (tVar 0) tNil)) tNil))))
    (tSeq (tDrop (tMeth (He.ga K ("Cursor" : Str)) ("want" : Str) (sp_Cursor_want K (EW1 K)) [] E (tVar 0) (tCons (tC (.str (")" : Str))) tNil)))
    (tRet (tCB (rTupleOf K) (tCons (tVar 2) tNil))))))))

def ns_parse_slots : List Str := ["cursor", "slots"]
def t_parse_slots (K : PySem.W.Frag) (w : World) (n : Nat) (E : XK) : TS :=
  (tSeq (tDrop (tMeth (He.ga K ("Cursor" : Str)) ("want" : Str) (sp_Cursor_want K (EW1 K)) [] E (tVar 0) (tCons (tC (.str ("{" : Str))) tNil)))
    (tSeq (tAsg (tLst tNil) (gName 1))
    (tSeq (tWhile (tNot (tB (tMeth (He.ga K ("Cursor" : Str)) ("took" : Str) (sp_Cursor_took K) [] E (tVar 0) (tCons (tC (.str ("}" : Str))) tNil))))
      (tDrop (tBM K "list" rAppend (tVar 1) (tCons (tCall (sp_parse_slot K n) [] E (tCons (tVar 0) tNil)) tNil))))
    (tRet (tCB (rTupleOf K) (tCons (tVar 1) tNil))))))

def ns_parse_slot : List Str := ["cursor", "aim", "name"]
def t_parse_slot (K : PySem.W.Frag) (w : World) (n : Nat) (E : XK) : TS :=
  (tSeq (tIfS (tTest (tOp rEq (tMeth (He.ga K ("Cursor" : Str)) ("word" : Str) (sp_Cursor_word K) [.int 0] E (tVar 0) tNil) (tC (.str ("method" : Str)))))
      (tRet (tCall (sp_parse_method K n) [] E (tCons (tVar 0) tNil)))
      tNext)
    (tSeq (tAsg (tC (.str ("const" : Str))) (gName 1))
    (tSeq (tIfS (tTest (tOp (rIn K false) (tMeth (He.ga K ("Cursor" : Str)) ("word" : Str) (sp_Cursor_word K) [.int 0] E (tVar 0) tNil) (tC (.ref (He.ga K ("AIMS" : Str))))))
      (tAsg (tCall (sp_parse_aim K) [] E (tCons (tVar 0) tNil)) (gName 1))
      tNext)
    (tSeq (tAsg (tMeth (He.ga K ("Cursor" : Str)) ("take_name" : Str) (sp_Cursor_take_name K (EW1 K)) [] E (tVar 0) tNil) (gName 2))
    (tSeq (tDrop (tMeth (He.ga K ("Cursor" : Str)) ("want" : Str) (sp_Cursor_want K (EW1 K)) [] E (tVar 0) (tCons (tC (.str ("=" : Str))) tNil)))
    (tRet (tTup (tCons (tVar 1) (tCons (tVar 2) (tCons (tCall (sp_parse_ended K n) [] E (tCons (tVar 0) tNil)) tNil))))))))))

def ns_parse_method : List Str := ["cursor", "name", "params"]
def t_parse_method (K : PySem.W.Frag) (w : World) (n : Nat) (E : XK) : TS :=
  (tSeq (tDrop (tMeth (He.ga K ("Cursor" : Str)) ("want" : Str) (sp_Cursor_want K (EW1 K)) [] E (tVar 0) (tCons (tC (.str ("method" : Str))) tNil)))
    (tSeq (tAsg (tMeth (He.ga K ("Cursor" : Str)) ("take_name" : Str) (sp_Cursor_take_name K (EW1 K)) [] E (tVar 0) tNil) (gName 1))
    (tSeq (tAsg (tCall (sp_parse_row K n) [] E (tCons (tVar 0) (tCons (tC (.ref (He.ga K ("parse_name" : Str)))) tNil))) (gName 2))
    (tRet (tTup (tCons (tC (.str ("method" : Str))) (tCons (tVar 1) (tCons (tVar 2) (tCons (tCall (sp_parse_body K n) [] E (tCons (tVar 0) tNil)) tNil)))))))))

def ns_parse_body : List Str := ["cursor", "statements"]
def t_parse_body (K : PySem.W.Frag) (w : World) (n : Nat) (E : XK) : TS :=
  (tSeq (tDrop (tMeth (He.ga K ("Cursor" : Str)) ("want" : Str) (sp_Cursor_want K (EW1 K)) [] E (tVar 0) (tCons (tC (.str ("{" : Str))) tNil)))
    (tSeq (tAsg (tLst tNil) (gName 1))
    (tSeq (tWhile (tNot (tB (tMeth (He.ga K ("Cursor" : Str)) ("took" : Str) (sp_Cursor_took K) [] E (tVar 0) (tCons (tC (.str ("}" : Str))) tNil))))
      (tDrop (tBM K "list" rAppend (tVar 1) (tCons (tCall (sp_parse_statement K n) [] E (tCons (tVar 0) tNil)) tNil))))
    (tRet (tCB (rTupleOf K) (tCons (tVar 1) tNil))))))

def ns_parse_statement : List Str := ["cursor", "word", "parse_rest", "first", "tree"]
def t_parse_statement (K : PySem.W.Frag) (w : World) (n : Nat) (E : XK) : TS :=
  (tSeq (tAsg (tMeth (He.ga K ("Cursor" : Str)) ("word" : Str) (sp_Cursor_word K) [.int 0] E (tVar 0) tNil) (gName 1))
    (tSeq (tIfS (tB (tKIn K w (tVar 1) (tC (.ref (He.ga K ("STATEMENTS" : Str))))))
      (tSeq (tDrop (tMeth (He.ga K ("Cursor" : Str)) ("take" : Str) (sp_Cursor_take K) [] E (tVar 0) tNil))
    (tSeq (tAsg (tOp (rKIx K w) (tC (.ref (He.ga K ("STATEMENTS" : Str)))) (tVar 1)) (gName 2))
    (tRet (tCallP 2 (StmtS K n) E (tCons (tVar 0) tNil)))))
      tNext)
    (tSeq (tIfS (tAnd (tTest (tOp rEq (tMeth (He.ga K ("Cursor" : Str)) ("kind" : Str) (sp_Cursor_kind K) [.int 0] E (tVar 0) tNil) (tC (.str ("name" : Str))))) (tTest (tOp rEq (tMeth (He.ga K ("Cursor" : Str)) ("word" : Str) (sp_Cursor_word K) [] E (tVar 0) (tCons (tC (.int 1)) tNil)) (tC (.str (":=" : Str))))))
      (tRet (tCall (sp_parse_set K n) [] E (tCons (tVar 0) tNil)))
      tNext)
    (tSeq (tAsg (tCall (sp_parse_postfix K n) [] E (tCons (tVar 0) tNil)) (gName 3))
    (tSeq (tIfS (tB (tMeth (He.ga K ("Cursor" : Str)) ("took" : Str) (sp_Cursor_took K) [] E (tVar 0) (tCons (tC (.str ("." : Str))) tNil)))
      (tRet (tCall (sp_parse_assign K n) [] E (tCons (tVar 0) (tCons (tVar 3) tNil))))
      tNext)
    (tSeq (tAsg (tCall (sp_parse_operators K n) [] E (tCons (tVar 0) (tCons (tVar 3) (tCons (tC (.int 1)) tNil)))) (gName 4))
    (tSeq (tDrop (tMeth (He.ga K ("Cursor" : Str)) ("want" : Str) (sp_Cursor_want K (EW1 K)) [] E (tVar 0) (tCons (tC (.str (";" : Str))) tNil)))
    (tRet (tTup (tCons (tC (.str ("expr" : Str))) (tCons (tVar 4) tNil)))))))))))

def ns_parse_ended : List Str := ["cursor", "tree"]
def t_parse_ended (K : PySem.W.Frag) (w : World) (n : Nat) (E : XK) : TS :=
  (tSeq (tAsg (tCall (sp_parse_whole K n) [] E (tCons (tVar 0) tNil)) (gName 1))
    (tSeq (tDrop (tMeth (He.ga K ("Cursor" : Str)) ("want" : Str) (sp_Cursor_want K (EW1 K)) [] E (tVar 0) (tCons (tC (.str (";" : Str))) tNil)))
    (tRet (tVar 1))))

def ns_parse_set : List Str := ["cursor", "name"]
def t_parse_set (K : PySem.W.Frag) (w : World) (n : Nat) (E : XK) : TS :=
  (tSeq (tAsg (tMeth (He.ga K ("Cursor" : Str)) ("take_name" : Str) (sp_Cursor_take_name K (EW1 K)) [] E (tVar 0) tNil) (gName 1))
    (tSeq (tDrop (tMeth (He.ga K ("Cursor" : Str)) ("want" : Str) (sp_Cursor_want K (EW1 K)) [] E (tVar 0) (tCons (tC (.str (":=" : Str))) tNil)))
    (tRet (tTup (tCons (tC (.str ("set" : Str))) (tCons (tVar 1) (tCons (tCall (sp_parse_ended K n) [] E (tCons (tVar 0) tNil)) tNil)))))))

def ns_parse_assign : List Str := ["cursor", "target", "name"]
def t_parse_assign (K : PySem.W.Frag) (w : World) (n : Nat) (E : XK) : TS :=
  (tSeq (tAsg (tMeth (He.ga K ("Cursor" : Str)) ("take_name" : Str) (sp_Cursor_take_name K (EW1 K)) [] E (tVar 0) tNil) (gName 2))
    (tSeq (tDrop (tMeth (He.ga K ("Cursor" : Str)) ("want" : Str) (sp_Cursor_want K (EW1 K)) [] E (tVar 0) (tCons (tC (.str (":=" : Str))) tNil)))
    (tRet (tTup (tCons (tC (.str ("assign" : Str))) (tCons (tVar 1) (tCons (tVar 2) (tCons (tCall (sp_parse_ended K n) [] E (tCons (tVar 0) tNil)) tNil))))))))

def ns_parse_let : List Str := ["cursor", "name"]
def t_parse_let (K : PySem.W.Frag) (w : World) (n : Nat) (E : XK) : TS :=
  (tSeq (tAsg (tMeth (He.ga K ("Cursor" : Str)) ("take_name" : Str) (sp_Cursor_take_name K (EW1 K)) [] E (tVar 0) tNil) (gName 1))
    (tSeq (tDrop (tMeth (He.ga K ("Cursor" : Str)) ("want" : Str) (sp_Cursor_want K (EW1 K)) [] E (tVar 0) (tCons (tC (.str ("=" : Str))) tNil)))
    (tRet (tTup (tCons (tC (.str ("let" : Str))) (tCons (tVar 1) (tCons (tCall (sp_parse_ended K n) [] E (tCons (tVar 0) tNil)) tNil)))))))

def ns_parse_print : List Str := ["cursor"]
def t_parse_print (K : PySem.W.Frag) (w : World) (n : Nat) (E : XK) : TS :=
  (tRet (tTup (tCons (tC (.str ("print" : Str))) (tCons (tCall (sp_parse_ended K n) [] E (tCons (tVar 0) tNil)) tNil))))

def ns_parse_return : List Str := ["cursor"]
def t_parse_return (K : PySem.W.Frag) (w : World) (n : Nat) (E : XK) : TS :=
  (tRet (tTup (tCons (tC (.str ("return" : Str))) (tCons (tCall (sp_parse_ended K n) [] E (tCons (tVar 0) tNil)) tNil))))

def ns_parse_if : List Str := ["cursor", "condition", "body", "other"]
def t_parse_if (K : PySem.W.Frag) (w : World) (n : Nat) (E : XK) : TS :=
  (tSeq (tAsg (tCall (sp_parse_whole K n) [] E (tCons (tVar 0) tNil)) (gName 1))
    (tSeq (tAsg (tCall (sp_parse_body K n) [] E (tCons (tVar 0) tNil)) (gName 2))
    (tSeq (tAsg (tC .non) (gName 3))
    (tSeq (tIfS (tB (tMeth (He.ga K ("Cursor" : Str)) ("took" : Str) (sp_Cursor_took K) [] E (tVar 0) (tCons (tC (.str ("else" : Str))) tNil)))
      (tAsg (tCall (sp_parse_body K n) [] E (tCons (tVar 0) tNil)) (gName 3))
      tNext)
    (tRet (tTup (tCons (tC (.str ("if" : Str))) (tCons (tVar 1) (tCons (tVar 2) (tCons (tVar 3) tNil))))))))))

def ns_parse_while : List Str := ["cursor", "condition"]
def t_parse_while (K : PySem.W.Frag) (w : World) (n : Nat) (E : XK) : TS :=
  (tSeq (tAsg (tCall (sp_parse_whole K n) [] E (tCons (tVar 0) tNil)) (gName 1))
    (tRet (tTup (tCons (tC (.str ("while" : Str))) (tCons (tVar 1) (tCons (tCall (sp_parse_body K n) [] E (tCons (tVar 0) tNil)) tNil))))))

def ns_parse_put : List Str := ["cursor", "target", "name", "aim"]
def t_parse_put (K : PySem.W.Frag) (w : World) (n : Nat) (E : XK) : TS :=
  (tSeq (tAsg (tCall (sp_parse_postfix K n) [] E (tCons (tVar 0) tNil)) (gName 1))
    (tSeq (tDrop (tMeth (He.ga K ("Cursor" : Str)) ("want" : Str) (sp_Cursor_want K (EW1 K)) [] E (tVar 0) (tCons (tC (.str ("." : Str))) tNil)))
    (tSeq (tAsg (tMeth (He.ga K ("Cursor" : Str)) ("take_name" : Str) (sp_Cursor_take_name K (EW1 K)) [] E (tVar 0) tNil) (gName 2))
    (tSeq (tAsg (tCall (sp_parse_aim K) [] E (tCons (tVar 0) tNil)) (gName 3))
    (tSeq (tDrop (tMeth (He.ga K ("Cursor" : Str)) ("want" : Str) (sp_Cursor_want K (EW1 K)) [] E (tVar 0) (tCons (tC (.str ("=" : Str))) tNil)))
    (tRet (tTup (tCons (tC (.str ("put" : Str))) (tCons (tVar 1) (tCons (tVar 2) (tCons (tVar 3) (tCons (tCall (sp_parse_ended K n) [] E (tCons (tVar 0) tNil)) tNil))))))))))))

def ns_parse_drop : List Str := ["cursor", "target", "name"]
def t_parse_drop (K : PySem.W.Frag) (w : World) (n : Nat) (E : XK) : TS :=
  (tSeq (tAsg (tCall (sp_parse_postfix K n) [] E (tCons (tVar 0) tNil)) (gName 1))
    (tSeq (tDrop (tMeth (He.ga K ("Cursor" : Str)) ("want" : Str) (sp_Cursor_want K (EW1 K)) [] E (tVar 0) (tCons (tC (.str ("." : Str))) tNil)))
    (tSeq (tAsg (tMeth (He.ga K ("Cursor" : Str)) ("take_name" : Str) (sp_Cursor_take_name K (EW1 K)) [] E (tVar 0) tNil) (gName 2))
    (tSeq (tDrop (tMeth (He.ga K ("Cursor" : Str)) ("want" : Str) (sp_Cursor_want K (EW1 K)) [] E (tVar 0) (tCons (tC (.str (";" : Str))) tNil)))
    (tRet (tTup (tCons (tC (.str ("drop" : Str))) (tCons (tVar 1) (tCons (tVar 2) tNil)))))))))

section
variable {K : PySem.W.Frag} {w : World} {n : Nat} {vs : List V} {H : Hp} {Q : VK} {E : XK}
theorem run_parse_name (h : sp_parse_name K vs H Q E) : t_parse_name K E (DQ Q) (start ns_parse_name vs) H := by
  obtain ⟨p, dx, f, ts, i, rfl, a, R⟩ := h
  exact ex_name rfl a R fun w G k a1 R1 => R1.done a1 (.str _)
theorem run_parse_aim (h : sp_parse_aim K vs H Q E) : t_parse_aim K E (DQ Q) (start ns_parse_aim vs) H := by
  obtain ⟨p, dx, f, ts, i, rfl, a, R⟩ := h
  obtain ⟨t, ht, ed⟩ := a.tok
  unfold pAim at R
  rw [isW_at ht, isW_at ht, tail_at] at R
  refine ex_took rfl a ht (by decide) (fun c G k a1 => ⟨_, rfl, iteT ?_⟩) (fun c => ⟨_, rfl, iteF ?_⟩)
  · rw [if_pos (decide_eq_true c)] at R
    exact (R.from_ k).done a1 (.str _)
  rw [if_neg (by simpa using c)] at R
  refine ex_took rfl a ht (by decide) (fun c G k a1 => ⟨_, rfl, iteT ?_⟩) (fun c => ⟨_, rfl, iteF ?_⟩)
  · rw [if_pos (decide_eq_true c)] at R
    exact (R.from_ k).done a1 (.str _)
  rw [if_neg (by simpa using c)] at R
  refine st_want rfl a (by decide) R fun G k a1 R1 => ?_
  obtain ⟨t1, ht1, ed1⟩ := a1.tok
  rw [isW_at ht1, tail_at] at R1
  refine ex_took rfl a1 ht1 (by decide) (fun c G k a2 => ⟨_, rfl, iteT ?_⟩) (fun c => ⟨_, rfl, iteF ?_⟩)
  · rw [if_pos (decide_eq_true c)] at R1
    exact (R1.from_ k).done a2 (.str _)
  · rw [if_neg (by simpa using c)] at R1
    exact R1.done a1 (.str _)
theorem run_parse_whole (h : sp_parse_whole K (n + 1) vs H Q E) : t_parse_whole K w n E (DQ Q) (start ns_parse_whole vs) H := by
  obtain ⟨p, dx, f, ts, i, rfl, a, R⟩ := h
  refine ⟨_, rfl, _, rfl, p, dx, f, ts, i, rfl, a, Ret.call R fun d j v G k a1 t R1 => ?_⟩
  exact ⟨p, dx, f, ts, j, v, d, 1, rfl, a1, t, Int.le_refl _, R1⟩
theorem run_parse_ended (h : sp_parse_ended K (n + 1) vs H Q E) : t_parse_ended K w n E (DQ Q) (start ns_parse_ended vs) H := by
  obtain ⟨p, dx, f, ts, i, rfl, a, R⟩ := h
  refine ⟨_, rfl, p, dx, f, ts, i, rfl, a, Ret.call R fun d j v G k a1 t R1 => ?_⟩
  exact st_want rfl a1 (by decide) R1 fun G k a2 R2 => ⟨_, rfl, R2.done a2 (t.keep (a1.tk k))⟩
theorem run_parse_set (h : sp_parse_set K (n + 1) vs H Q E) : t_parse_set K w n E (DQ Q) (start ns_parse_set vs) H := by
  obtain ⟨p, dx, f, ts, i, rfl, a, R⟩ := h
  refine ex_name rfl a R fun w G k a1 R1 => ?_
  refine st_want rfl a1 (by decide) R1 fun G k a2 R2 => ?_
  refine ⟨_, rfl, _, rfl, p, dx, f, ts, _, rfl, a2, Ret.call R2 fun d j v G k a3 t R3 => ?_⟩
  exact ⟨(by show 3 ≤ sizeLine; decide), fun q nq => R3.tup a3 (.cons (.str _) (.cons (.str _) (.cons t .nil))) nq⟩
theorem run_parse_assign (h : sp_parse_assign K (n + 1) vs H Q E) : t_parse_assign K w n E (DQ Q) (start ns_parse_assign vs) H := by
  obtain ⟨p, dx, f, ts, i, tv, td, rfl, a, tt, R⟩ := h
  refine ex_name rfl a R fun w G k a1 R1 => ?_
  have tt1 := tt.keep (a.tk k)
  refine st_want rfl a1 (by decide) R1 fun G k a2 R2 => ?_
  have tt2 := tt1.keep (a1.tk k)
  refine ⟨_, rfl, _, rfl, _, rfl, p, dx, f, ts, _, rfl, a2, Ret.call R2 fun d j v G k a3 t R3 => ?_⟩
  have tt3 := tt2.keep (a2.tk k)
  exact ⟨(by show 4 ≤ sizeLine; decide), fun q nq => R3.tup a3 (.cons (.str _) (.cons tt3 (.cons (.str _) (.cons t .nil)))) nq⟩
theorem run_parse_let (h : sp_parse_let K (n + 1) vs H Q E) : t_parse_let K w n E (DQ Q) (start ns_parse_let vs) H := by
  obtain ⟨p, dx, f, ts, i, rfl, a, R⟩ := h
  refine ex_name rfl a R fun w G k a1 R1 => ?_
  refine st_want rfl a1 (by decide) R1 fun G k a2 R2 => ?_
  refine ⟨_, rfl, _, rfl, p, dx, f, ts, _, rfl, a2, Ret.call R2 fun d j v G k a3 t R3 => ?_⟩
  exact ⟨(by show 3 ≤ sizeLine; decide), fun q nq => R3.tup a3 (.cons (.str _) (.cons (.str _) (.cons t .nil))) nq⟩
theorem run_parse_print (h : sp_parse_print K (n + 1) vs H Q E) : t_parse_print K w n E (DQ Q) (start ns_parse_print vs) H := by
  obtain ⟨p, dx, f, ts, i, rfl, a, R⟩ := h
  refine ⟨_, rfl, p, dx, f, ts, _, rfl, a, Ret.call R fun d j v G k a3 t R3 => ?_⟩
  exact ⟨(by show 2 ≤ sizeLine; decide), fun q nq => R3.tup a3 (.cons (.str _) (.cons t .nil)) nq⟩
theorem run_parse_return (h : sp_parse_return K (n + 1) vs H Q E) : t_parse_return K w n E (DQ Q) (start ns_parse_return vs) H := by
  obtain ⟨p, dx, f, ts, i, rfl, a, R⟩ := h
  refine ⟨_, rfl, p, dx, f, ts, _, rfl, a, Ret.call R fun d j v G k a3 t R3 => ?_⟩
  exact ⟨(by show 2 ≤ sizeLine; decide), fun q nq => R3.tup a3 (.cons (.str _) (.cons t .nil)) nq⟩
theorem run_parse_while (h : sp_parse_while K (n + 1) vs H Q E) : t_parse_while K w n E (DQ Q) (start ns_parse_while vs) H := by
  obtain ⟨p, dx, f, ts, i, rfl, a, R⟩ := h
  refine ⟨_, rfl, p, dx, f, ts, _, rfl, a, Ret.call R fun d1 j1 v1 G1 k1 a1 t1 R1 => ?_⟩
  refine ⟨_, rfl, _, rfl, p, dx, f, ts, _, rfl, a1, Ret.call R1 fun d2 j2 v2 G2 k2 a2 t2 R2 => ?_⟩
  exact ⟨(by show 3 ≤ sizeLine; decide), fun q nq => R2.tup a2 (.cons (.str _) (.cons (t1.keep (a1.tk k2)) (.cons t2 .nil))) nq⟩
theorem run_parse_drop (h : sp_parse_drop K (n + 1) vs H Q E) : t_parse_drop K w n E (DQ Q) (start ns_parse_drop vs) H := by
  obtain ⟨p, dx, f, ts, i, rfl, a, R⟩ := h
  refine ⟨_, rfl, p, dx, f, ts, _, rfl, a, Ret.call R fun d1 j1 v1 G1 k1 a1 t1 R1 => ?_⟩
  refine st_want rfl a1 (by decide) R1 fun G2 k2 a2 R2 => ?_
  refine ex_name rfl a2 R2 fun w G3 k3 a3 R3 => ?_
  refine st_want rfl a3 (by decide) R3 fun G4 k4 a4 R4 => ?_
  have t4 := t1.keep ((a1.tk k2).trans ((a2.tk k3).trans (a3.tk k4)))
  exact ⟨_, rfl, _, rfl, (by show 3 ≤ sizeLine; decide), fun q nq => R4.tup a4 (.cons (.str _) (.cons t4 (.cons (.str _) .nil))) nq⟩
theorem run_parse_put (h : sp_parse_put K (n + 1) vs H Q E) : t_parse_put K w n E (DQ Q) (start ns_parse_put vs) H := by
  obtain ⟨p, dx, f, ts, i, rfl, a, R⟩ := h
  refine ⟨_, rfl, p, dx, f, ts, _, rfl, a, Ret.call R fun d1 j1 v1 G1 k1 a1 t1 R1 => ?_⟩
  refine st_want rfl a1 (by decide) R1 fun G2 k2 a2 R2 => ?_
  refine ex_name rfl a2 R2 fun w G3 k3 a3 R3 => ?_
  refine ⟨_, rfl, p, dx, f, ts, _, rfl, a3, Ret.call R3 fun d4 j4 v4 G4 k4 a4 t4 R4 => ?_⟩
  refine st_want rfl a4 (by decide) R4 fun G5 k5 a5 R5 => ?_
  refine ⟨_, rfl, _, rfl, _, rfl, _, rfl, p, dx, f, ts, _, rfl, a5, Ret.call R5 fun d6 j6 v6 G6 k6 a6 t6 R6 => ?_⟩
  have tA := t1.keep ((a1.tk k2).trans ((a2.tk k3).trans ((a3.tk k4).trans ((a4.tk k5).trans (a5.tk k6)))))
  have tB := t4.keep ((a4.tk k5).trans (a5.tk k6))
  exact ⟨(by show 5 ≤ sizeLine; decide), fun q nq => R6.tup a6 (.cons (.str _) (.cons tA (.cons (.str _) (.cons tB (.cons t6 .nil))))) nq⟩
theorem run_parse_method (h : sp_parse_method K (n + 1) vs H Q E) : t_parse_method K w n E (DQ Q) (start ns_parse_method vs) H := by
  obtain ⟨p, dx, f, ts, i, rfl, a, R⟩ := h
  refine st_want rfl a (by decide) R fun G1 k1 a1 R1 => ?_
  refine ex_name rfl a1 R1 fun w G2 k2 a2 R2 => ?_
  refine ⟨_, rfl, p, dx, f, ts, _, _, _, rfl, .inl ⟨rfl, rfl⟩, a2, Ret.call R2 fun d3 j3 v3 G3 k3 a3 t3 R3 => ?_⟩
  refine ⟨_, rfl, _, rfl, _, rfl, p, dx, f, ts, _, rfl, a3, Ret.call R3 fun d4 j4 v4 G4 k4 a4 t4 R4 => ?_⟩
  exact ⟨(by show 4 ≤ sizeLine; decide), fun q nq => R4.tup a4 (.cons (.str _) (.cons (.str _) (.cons (t3.keep (a3.tk k4)) (.cons t4 .nil)))) nq⟩
theorem run_parse_if (h : sp_parse_if K (n + 1) vs H Q E) : t_parse_if K w n E (DQ Q) (start ns_parse_if vs) H := by
  obtain ⟨p, dx, f, ts, i, rfl, a, R⟩ := h
  refine ⟨_, rfl, p, dx, f, ts, _, rfl, a, Ret.call R fun d1 j1 v1 G1 k1 a1 t1 R1 => ?_⟩
  refine ⟨_, rfl, p, dx, f, ts, _, rfl, a1, Ret.call R1 fun d2 j2 v2 G2 k2 a2 t2 R2 => ?_⟩
  have t12 := t1.keep (a1.tk k2)
  obtain ⟨t, ht, ed⟩ := a2.tok
  rw [isW_at ht, tail_at] at R2
  refine ex_took rfl a2 ht (by decide) (fun c G k a3 => ⟨_, rfl, iteT ?_⟩) (fun c => ⟨_, rfl, iteF ?_⟩)
  · rw [if_pos (decide_eq_true c)] at R2
    have R3 := R2.from_ k
    refine ⟨_, rfl, p, dx, f, ts, _, rfl, a3, Ret.call R3 fun d4 j4 v4 G4 k4 a4 t4 R4 => ?_⟩
    have kk := (a2.tk k).trans (a3.tk k4)
    exact ⟨_, rfl, _, rfl, _, rfl, (by show 4 ≤ sizeLine; decide), fun q nq => R4.tup a4 (.cons (.str _) (.cons (t12.keep kk) (.cons (t2.keep kk) (.cons t4 .nil)))) nq⟩
  · rw [if_neg (by simpa using c)] at R2
    exact ⟨_, rfl, _, rfl, _, rfl, (by show 4 ≤ sizeLine; decide), fun q nq => R2.tup a2 (.cons (.str _) (.cons t12 (.cons t2 (.cons .non .nil)))) nq⟩
theorem dec_s (a : List Nat) (s : String) : decide (V.str (Tx a) = V.str (Str.ofString s)) = decide (a = codes s) := by rw [Tx_of s, dec_tx]
theorem dec_k (a b : Kd) : decide (V.str (kdS a) = V.str (kdS b)) = decide (a = b) := by
  rw [Bool.eq_iff_iff]
  simp only [decide_eq_true_eq, V.str.injEq]
  exact ⟨kdS_inj, fun e => by rw [e]⟩
theorem lk_c {w : List Nat} {s : String} {v : V} {r : List (Str × V)} : ((Str.ofString s, v) :: r).lookup (Tx w) = if w = codes s then some v else r.lookup (Tx w) := by
  rw [Tx_of s]
  by_cases h : w = codes s
  · rw [if_pos h, h, lk_eq]
  · rw [if_neg h, lk_ne fun e => h (Tx_inj e)]
def levV : List (Str × V) := [("==", .int 1), ("<", .int 1), ("<=", .int 1), ("+", .int 2), ("-", .int 2), ("*", .int 3), ("div", .int 3), ("mod", .int 3)]
def stmV (K : PySem.W.Frag) : List (Str × V) := [("let", .ref (He.ga K ("parse_let" : Str))), ("print", .ref (He.ga K ("parse_print" : Str))), ("return", .ref (He.ga K ("parse_return" : Str))), ("if", .ref (He.ga K ("parse_if" : Str))), ("while", .ref (He.ga K ("parse_while" : Str))), ("put", .ref (He.ga K ("parse_put" : Str))), ("drop", .ref (He.ga K ("parse_drop" : Str)))]
theorem stm_cases (K : PySem.W.Frag) (n : Nat) (t : Tk) (r : List Tk) : (∃ a g, (stmV K).lookup (Tx t.text) = some (.ref a) ∧ StmtS K n a (sp_pf K g) ∧ (ps (n + 1)).stmt (t :: r) = g r ∧ t.text ≠ []) ∨
    ((stmV K).lookup (Tx t.text) = none ∧ (ps (n + 1)).stmt (t :: r) = if t.kind = .name ∧ isW ":=" r then (ps n).set (t :: r)
      else ((ps n).post (t :: r)).bind fun x l => if isW "." l then (ps n).assign x l.tail else ((ps n).ops x 1 l).bind fun y l => (wantW ";" l).bind fun _ l => .ok (.tuple [dS "expr", y]) l) := by
  have e : (ps (n + 1)).stmt (t :: r) = if t.text = codes "let" then (ps n).slet r else if t.text = codes "print" then (ps n).sprint r else if t.text = codes "return" then (ps n).sreturn r else if t.text = codes "if" then (ps n).sif r else if t.text = codes "while" then (ps n).swhile r
      else if t.text = codes "put" then (ps n).sput r else if t.text = codes "drop" then (ps n).sdrop r
      else if t.kind = .name ∧ isW ":=" r then (ps n).set (t :: r)
      else ((ps n).post (t :: r)).bind fun x l => if isW "." l then (ps n).assign x l.tail else ((ps n).ops x 1 l).bind fun y l => (wantW ";" l).bind fun _ l => .ok (.tuple [dS "expr", y]) l := rfl
  have l : (stmV K).lookup (Tx t.text) = if t.text = codes "let" then some (.ref (He.ga K ("parse_let" : Str))) else if t.text = codes "print" then some (.ref (He.ga K ("parse_print" : Str))) else if t.text = codes "return" then some (.ref (He.ga K ("parse_return" : Str)))
      else if t.text = codes "if" then some (.ref (He.ga K ("parse_if" : Str))) else if t.text = codes "while" then some (.ref (He.ga K ("parse_while" : Str))) else if t.text = codes "put" then some (.ref (He.ga K ("parse_put" : Str))) else if t.text = codes "drop" then some (.ref (He.ga K ("parse_drop" : Str))) else none := by
    unfold stmV
    rw [lk_c, lk_c, lk_c, lk_c, lk_c, lk_c, lk_c]
    rfl
  rw [e, l]
  by_cases c1 : t.text = codes "let"
  · exact .inl ⟨_, _, if_pos c1, .inl ⟨rfl, rfl⟩, if_pos c1, by rw [c1]; decide⟩
  rw [if_neg c1, if_neg c1]
  by_cases c2 : t.text = codes "print"
  · exact .inl ⟨_, _, if_pos c2, .inr (.inl ⟨rfl, rfl⟩), if_pos c2, by rw [c2]; decide⟩
  rw [if_neg c2, if_neg c2]
  by_cases c3 : t.text = codes "return"
  · exact .inl ⟨_, _, if_pos c3, .inr (.inr (.inl ⟨rfl, rfl⟩)), if_pos c3, by rw [c3]; decide⟩
  rw [if_neg c3, if_neg c3]
  by_cases c4 : t.text = codes "if"
  · exact .inl ⟨_, _, if_pos c4, .inr (.inr (.inr (.inl ⟨rfl, rfl⟩))), if_pos c4, by rw [c4]; decide⟩
  rw [if_neg c4, if_neg c4]
  by_cases c5 : t.text = codes "while"
  · exact .inl ⟨_, _, if_pos c5, .inr (.inr (.inr (.inr (.inl ⟨rfl, rfl⟩)))), if_pos c5, by rw [c5]; decide⟩
  rw [if_neg c5, if_neg c5]
  by_cases c6 : t.text = codes "put"
  · exact .inl ⟨_, _, if_pos c6, .inr (.inr (.inr (.inr (.inr (.inl ⟨rfl, rfl⟩))))), if_pos c6, by rw [c6]; decide⟩
  rw [if_neg c6, if_neg c6]
  by_cases c7 : t.text = codes "drop"
  · exact .inl ⟨_, _, if_pos c7, .inr (.inr (.inr (.inr (.inr (.inr ⟨rfl, rfl⟩))))), if_pos c7, by rw [c7]; decide⟩
  rw [if_neg c7, if_neg c7]
  exact .inr ⟨rfl, rfl⟩
theorem run_has_own_dot (h : sp_has_own_dot K vs H Q E) : t_has_own_dot K E (DQ Q) (start ns_has_own_dot vs) H := by
  obtain ⟨p, dx, f, ts, i, rfl, a, q⟩ := h
  obtain ⟨t0, h0, e0⟩ := a.tok
  refine ex_word rfl a h0 ⟨rfl, _, rfl, ?_⟩
  rw [dec_s]
  refine ite2 (fun c => ?_) (fun c => ?_)
  · have c : t0.text ≠ codes "." := by simpa using c
    have e : hasDot (ts.drop i) = false := by
      rw [e0]
      cases ts.drop (i + 1) with
      | nil => rfl
      | cons t r =>
        cases r with
        | nil => rfl
        | cons u r =>
          show (decide (t0.text = codes ".") && _) = false
          rw [decide_eq_false c]
          rfl
    rw [e] at q
    exact q
  have c : t0.text = codes "." := by simpa using c
  obtain ⟨t1, h1⟩ := a.wf.next i t0 h0 (a.word_fin h0 c (by decide))
  have e1 := drop_at h1
  have fin2 : (t1.kind = .name ∨ t1.text = codes "call") → ∃ t2, ts[i + 2]? = some t2 := fun z => a.wf.next (i + 1) t1 h1 (by
    rcases z with z | z
    · rw [z]
      intro y
      cases y
    · exact a.word_fin (i := i) (H := H) (K := K) (p := p) (dx := dx) (f := f) h0 c (by decide) |> fun _ => fun y => absurd (a.wf.fin t1 (List.mem_of_getElem? h1) y) (by rw [z]; decide))
  have val2 : ∀ t2, ts[i + 2]? = some t2 → hasDot (ts.drop i) = ((decide (t1.kind = .name) || decide (t1.text = codes "call")) && decide (t2.text = codes "(")) := fun t2 h2 => by
    rw [e0, e1, drop_at h2]
    show (decide (t0.text = codes ".") && _) = _
    rw [decide_eq_true c]
    rfl
  have fls : ¬ (t1.kind = .name ∨ t1.text = codes "call") → hasDot (ts.drop i) = false := fun z => by
    rw [e0, e1]
    cases ts.drop (i + 1 + 1) with
    | nil => rfl
    | cons u r =>
      show (decide (t0.text = codes ".") && ((decide (t1.kind = .name) || decide (t1.text = codes "call")) && _)) = false
      rw [decide_eq_false fun y => z (.inl y), decide_eq_false fun y => z (.inr y)]
      simp
  have last : ∀ t2, ts[i + 2]? = some t2 → (t1.kind = .name ∨ t1.text = codes "call") → Q (.bl (decide (t2.text = codes "("))) H := fun t2 h2 z => by
    rw [val2 t2 h2] at q
    have e : (decide (t1.kind = .name) || decide (t1.text = codes "call")) = true := by
      rcases z with z | z
      · rw [decide_eq_true z]
        rfl
      · rw [decide_eq_true z, Bool.or_true]
    rw [e, Bool.true_and] at q
    exact q
  refine ex_kindN (m := 1) rfl a h1 ⟨rfl, _, rfl, ?_⟩
  rw [show ("name" : Str) = kdS .name from rfl, dec_k]
  refine ite2 (fun z => ?_) (fun z => ?_)
  · have z : t1.kind ≠ .name := by simpa using z
    refine ex_wordN (m := 1) rfl a h1 ⟨rfl, _, rfl, ?_⟩
    rw [dec_s]
    refine ite2 (fun y => ?_) (fun y => ?_)
    · have y : t1.text ≠ codes "call" := by simpa using y
      rw [fls fun x => x.elim z y] at q
      exact q
    · have y : t1.text = codes "call" := by simpa using y
      obtain ⟨t2, h2⟩ := fin2 (.inr y)
      refine ex_wordN (m := 2) rfl a h2 ⟨rfl, ?_⟩
      rw [dec_s]
      exact last t2 h2 (.inr y)
  · have z : t1.kind = .name := by simpa using z
    obtain ⟨t2, h2⟩ := fin2 (.inl z)
    refine ex_wordN (m := 2) rfl a h2 ⟨rfl, ?_⟩
    rw [dec_s]
    exact last t2 h2 (.inl z)
/-! ### loops: what is wanted is kept at the entry's heap -/
theorem Ret.call0 {p dx f : Addr} {ts : List Tk} {H0 G : Hp} {x : Rs PyData} {k : PyData → List Tk → Rs PyData} {Q' : VK} (R : Ret K p dx f ts H0 Q E (x.bind k)) (fr : Fr p H0 G)
    (q : ∀ d j v G1, Fr p G G1 → At K G1 p dx f ts j → Tr G1 v d → Ret K p dx f ts H0 Q E (k d (ts.drop j)) → Q' v G1) : Ret K p dx f ts G Q' E x := by
  refine ⟨fun e => R.some_ (by rw [e]; rfl), fun d j v G1 e fr1 a t => ?_, fun r c G1 e fr1 => R.no r c G1 (by rw [e]; rfl) (fr.trans fr1)⟩
  refine q d j v G1 fr1 a t ?_
  rw [e] at R
  exact R
theorem At.put {p dx f u : Addr} {ts : List Tk} {i : Nat} {G : Hp} {xs ys : List V} (a : At K G p dx f ts i) (h : G u = some (.lst xs)) (uf : u ≠ f) : At K (upd G u (.lst ys)) p dx f ts i := by
  obtain ⟨⟨h1, h2, h3⟩, lt, w⟩ := a
  have up : u ≠ p := ne_of h h1 (by intro z; cases z)
  refine ⟨⟨by rw [upd_ne up.symm]; exact h1, ?_, h3⟩, lt, w⟩
  obtain ⟨qs, q1, q2, q3⟩ := h2
  refine ⟨qs, by rw [upd_ne uf.symm]; exact q1, q2, fun m q t e1 e2 => ?_⟩
  have q4 := q3 m q t e1 e2
  rw [upd_ne (ne_of q4 h (by intro z; cases z))]
  exact q4
theorem TK.put {u : Addr} {G : Hp} {xs ys : List V} (h : G u = some (.lst xs)) : TK G (upd G u (.lst ys)) := fun b zs e => by
  rw [upd_ne (ne_of e h (by intro z; cases z))]
  exact e
theorem Fr.put {p u : Addr} {H0 G : Hp} {o : HO} (k : Fr p H0 G) (n : H0 u = none) : Fr p H0 (upd G u o) := fun b z e h => by
  rw [upd_ne (ne_of_none h n)]
  exact k b z e h
/-- want, behind which what is wanted is kept -/
theorem st_want0 {p dx f : Addr} {ts : List Tk} {i : Nat} {H0 G : Hp} {σ : L2.St} {s : String} {k : Unit → List Tk → Rs PyData} {D : Ends} (hσ : σ[0]? = some (some (.ref p))) (a : At K G p dx f ts i) (hs : codes s ≠ []) (fr : Fr p H0 G) (R : Ret K p dx f ts H0 Q E ((wantW s (ts.drop i)).bind k))
    (y : ∀ G1, Fr p G G1 → At K G1 p dx f ts (i + 1) → Ret K p dx f ts H0 Q E (k () (ts.drop (i + 1))) → D.nx σ G1) : tDrop (cM K "want" (sp_Cursor_want K (EW1 K)) [] E (tCons (tC (.str (Str.ofString s))) tNil)) D σ G := by
  obtain ⟨t, ht, ed⟩ := a.tok
  rw [ed] at R
  refine ⟨_, hσ, p, dx, _, rfl, a.cu.1, cuF_no (by decide +kernel) (by decide +kernel), p, dx, f, ts, i, t, codes s, by rw [← Tx_of s]; rfl, a.cu, ht, fun c => ?_, fun c => ?_⟩
  · have e : wantW s (t :: ts.drop (i + 1)) = .ok () (ts.drop (i + 1)) := if_pos c
    rw [e] at R
    exact y _ (Fr.mv _) (a.step ht (a.word_fin ht c hs)) R
  · have e : wantW s (t :: ts.drop (i + 1)) = .no t.row t.col := if_neg c
    rw [e] at R
    exact R.no _ _ _ rfl fr
/-- { part .. } -/
theorem run_block {p dx f : Addr} {ts : List Tk} {i : Nat} {g : Pf} (a : At K H p dx f ts i) (R : Ret K p dx f ts H Q E (pBlock g (ts.drop i))) :
    (tSeq (tDrop (cM K "want" (sp_Cursor_want K (EW1 K)) [] E (tCons (tC (.str ("{" : Str))) tNil))) (tSeq (tAsg (tLst tNil) (gName 1))
      (tSeq (tWhile (tNot (tB (cM K "took" (sp_Cursor_took K) [] E (tCons (tC (.str ("}" : Str))) tNil)))) (tDrop (tBM K "list" rAppend (tVar 1) (tCons (tCall (sp_pf K g) [] E (tCons (tVar 0) tNil)) tNil))))
        (tRet (tCB (rTupleOf K) (tCons (tVar 1) tNil)))))) (DQ Q) [some (.ref p), none] H := by
  refine st_want rfl a (by decide) R fun G k a1 R1 => ?_
  refine ⟨(by show 0 ≤ sizeLine; decide), fun u nu => ?_⟩
  have uf : u ≠ f := by
    obtain ⟨_, ⟨qs, q1, _⟩, _⟩ := a1.cu
    exact fun z => by
      rw [z, q1] at nu
      cases nu
  have up : u ≠ p := fun z => by
    rw [z, a1.cu.1] at nu
    cases nu
  refine ⟨fun m σ G2 => ∃ (j : Nat) (acc : List PyData) (xs : List V), Ret K p dx f ts G Q E (blockLoop g m acc (ts.drop j)) ∧ Fr p G G2 ∧ At K G2 p dx f ts j ∧ σ = [some (.ref p), some (.ref u)] ∧ G2 u = some (.lst xs) ∧ Trs G2 xs acc ∧ xs.length + m = LF,
    ⟨LF, _, [], [], R1, Fr.new nu, a1.new nu, rfl, upd_same, .nil, Nat.zero_add _⟩, ?_⟩
  rintro m σ G2 ⟨j, acc, xs, R2, fr2, a2, rfl, hu, tr, hm⟩
  cases m with
  | zero => exact absurd rfl R2.some_
  | succ m =>
    obtain ⟨t, ht, ed⟩ := a2.tok
    unfold blockLoop at R2
    rw [isW_at ht, tail_at] at R2
    refine ex_took rfl a2 ht (by decide) (fun c G3 k3 a3 => ⟨_, rfl, iteF ?_⟩) (fun c => ⟨_, rfl, iteT ⟨_, fun _ _ z => z, ?_⟩⟩)
    · rw [if_pos (decide_eq_true c)] at R2
      have hu3 := k3 _ _ up hu
      refine ⟨_, rfl, u, _, rfl, .inl ⟨SqL.of hu3, fun q nq => ?_⟩⟩
      exact R2.ok _ _ _ _ rfl ((fr2.trans k3).trans (Fr.new nq)) (a3.new nq) (.tup upd_same ((tr.keep (a2.tk k3)).keep (TK.new nq)))
    · rw [if_neg (by simpa using c)] at R2
      refine ⟨_, rfl, .inl ⟨rfl, _, SqL.of hu⟩, _, rfl, p, dx, f, ts, j, rfl, a2, Ret.call0 R2 fr2 fun d j3 v G3 k3 a3 t3 R3 => ?_⟩
      have hu3 := k3 _ _ up hu
      refine ⟨u, _, _, rfl, rfl, hu3, Nat.lt_of_le_of_lt (show xs.length ≤ LF by omega) (by decide), ?_⟩
      exact ⟨m, Nat.lt_succ_self m, j3, _, _, R3, (fr2.trans k3).put nu, a3.put hu3 uf, rfl, upd_same, ((tr.keep (a2.tk k3)).keep (TK.put hu3)).snoc (t3.keep (TK.put hu3)), by rw [List.length_append, List.length_singleton]; omega⟩
theorem run_parse_slots (h : sp_parse_slots K (n + 1) vs H Q E) : t_parse_slots K w n E (DQ Q) (start ns_parse_slots vs) H := by
  obtain ⟨p, dx, f, ts, i, rfl, a, R⟩ := h
  exact run_block a R
theorem run_parse_body (h : sp_parse_body K (n + 1) vs H Q E) : t_parse_body K w n E (DQ Q) (start ns_parse_body vs) H := by
  obtain ⟨p, dx, f, ts, i, rfl, a, R⟩ := h
  exact run_block a R
theorem run_row {p dx f g : Addr} {ts : List Tk} {i : Nat} {pt : Pf} (hS : RowS K n g (sp_pf K pt)) (a : At K H p dx f ts i) (R : Ret K p dx f ts H Q E (pRow pt (ts.drop i))) : t_parse_row K w n E (DQ Q) [some (.ref p), some (.ref g), none] H := by
  refine st_want rfl a (by decide) R fun G k a1 R1 => ?_
  obtain ⟨t, ht, ed⟩ := a1.tok
  rw [isW_at ht, tail_at] at R1
  refine ex_took rfl a1 ht (by decide) (fun c G1 k1 a2 => ⟨_, rfl, iteT ?_⟩) (fun c => ⟨_, rfl, iteF ?_⟩)
  · rw [if_pos (decide_eq_true c)] at R1
    exact ⟨(by show 0 ≤ sizeLine; decide), fun q nq => (R1.from_ k1).tup a2 .nil nq⟩
  rw [if_neg (by simpa using c)] at R1
  refine ⟨g, _, rfl, hS, _, rfl, p, dx, f, ts, _, rfl, a1, Ret.call0 R1 (Fr.refl p G) fun d0 j0 v0 G0 k0 a0 t0 R0 => ?_⟩
  refine ⟨(by show 1 ≤ sizeLine; decide), fun u nu => ?_⟩
  have nuG : G u = none := by
    cases e : G u with
    | none => rfl
    | some o =>
      by_cases z : u = p
      · rw [z, a0.cu.1] at nu
        cases nu
      · rw [k0 _ _ z e] at nu
        cases nu
  have uf : u ≠ f := by
    obtain ⟨_, ⟨qs, q1, _⟩, _⟩ := a0.cu
    exact fun z => by
      rw [z, q1] at nu
      cases nu
  have up : u ≠ p := fun z => by
    rw [z, a0.cu.1] at nu
    cases nu
  refine ⟨fun m σ G2 => ∃ (j : Nat) (acc : List PyData) (xs : List V), Ret K p dx f ts G Q E (rowLoop pt m acc (ts.drop j)) ∧ Fr p G G2 ∧ At K G2 p dx f ts j ∧ σ = [some (.ref p), some (.ref g), some (.ref u)] ∧ G2 u = some (.lst xs) ∧ Trs G2 xs acc ∧ xs.length + m = LF + 1,
    ⟨LF, _, [d0], [v0], R0, k0.trans (Fr.new nu), a0.new nu, rfl, upd_same, .cons (t0.keep (TK.new nu)) .nil, Nat.add_comm _ _⟩, ?_⟩
  rintro m σ G2 ⟨j, acc, xs, R2, fr2, a2, rfl, hu, tr, hm⟩
  cases m with
  | zero => exact absurd rfl R2.some_
  | succ m =>
    obtain ⟨t, ht, ed⟩ := a2.tok
    unfold rowLoop at R2
    rw [isW_at ht, tail_at] at R2
    refine ex_took rfl a2 ht (by decide) (fun c G3 k3 a3 => ⟨_, rfl, iteT ⟨_, fun _ _ z => z, ?_⟩⟩) (fun c => ⟨_, rfl, iteF ?_⟩)
    · rw [if_pos (decide_eq_true c)] at R2
      have hu3 := k3 _ _ up hu
      refine ⟨_, rfl, .inl ⟨rfl, _, SqL.of hu3⟩, g, _, rfl, hS, _, rfl, p, dx, f, ts, _, rfl, a3, Ret.call0 R2 (fr2.trans k3) fun d j4 v G4 k4 a4 t4 R4 => ?_⟩
      have hu4 := k4 _ _ up hu3
      refine ⟨u, _, _, rfl, rfl, hu4, Nat.lt_of_le_of_lt (show xs.length ≤ LF + 1 by omega) (by decide), ?_⟩
      exact ⟨m, Nat.lt_succ_self m, j4, _, _, R4, ((fr2.trans k3).trans k4).put nuG, a4.put hu4 uf, rfl, upd_same, (((tr.keep (a2.tk k3)).keep (a3.tk k4)).keep (TK.put hu4)).snoc (t4.keep (TK.put hu4)), by rw [List.length_append, List.length_singleton]; omega⟩
    · rw [if_neg (by simpa using c)] at R2
      refine st_want0 rfl a2 (by decide) fr2 R2 fun G3 k3 a3 R3 => ?_
      have hu3 := k3 _ _ up hu
      refine ⟨_, rfl, u, _, rfl, .inl ⟨SqL.of hu3, fun q nq => ?_⟩⟩
      exact R3.ok _ _ _ _ rfl ((fr2.trans k3).trans (Fr.new nq)) (a3.new nq) (.tup upd_same ((tr.keep (a2.tk k3)).keep (TK.new nq)))
theorem run_parse_row (h : sp_parse_row K (n + 1) vs H Q E) : t_parse_row K w n E (DQ Q) (start ns_parse_row vs) H := by
  obtain ⟨p, dx, f, ts, i, g, part, rfl, hg, a, R⟩ := h
  rcases hg with ⟨rfl, rfl⟩ | ⟨rfl, rfl⟩
  · exact run_row (.inl ⟨rfl, rfl⟩) a R
  · exact run_row (.inr ⟨rfl, rfl⟩) a R
theorem run_parse_slot (hA : ∀ H, SqT K H (He.ga K ("AIMS" : Str)) (aimL.map fun k => V.str (Tx k))) (h : sp_parse_slot K (n + 1) vs H Q E) : t_parse_slot K w n E (DQ Q) (start ns_parse_slot vs) H := by
  obtain ⟨p, dx, f, ts, i, rfl, a, R⟩ := h
  obtain ⟨t, ht, ed⟩ := a.tok
  have R : Ret K p dx f ts H Q E (if isW "method" (ts.drop i) then (ps n).method (ts.drop i) else (match ts.drop i with | [] => Rs.out | t :: _ => if t.text ∈ aimL then pAim (ts.drop i) else .ok (dS "const") (ts.drop i)).bind fun a l => (nameW l).bind fun w l => (wantW "=" l).bind fun _ l => ((ps n).ended l).bind fun x l => .ok (.tuple [a, dW w, x]) l) := R
  have em : (match ts.drop i with | [] => Rs.out | t :: _ => if t.text ∈ aimL then pAim (ts.drop i) else .ok (dS "const") (ts.drop i)) = if t.text ∈ aimL then pAim (ts.drop i) else .ok (dS "const") (ts.drop i) := by rw [ed]
  rw [isW_at ht, em] at R
  refine ex_word rfl a ht ⟨rfl, _, rfl, ?_⟩
  rw [dec_s]
  refine ite2 (fun c => ?_) (fun c => ?_)
  · rw [if_pos c] at R
    exact ⟨_, rfl, p, dx, f, ts, i, rfl, a, R⟩
  rw [if_neg c] at R
  have tail : ∀ (G : Hp) (j : Nat) (d : PyData) (v : V), At K G p dx f ts j → Tr G v d → Ret K p dx f ts G Q E ((nameW (ts.drop j)).bind fun w l => (wantW "=" l).bind fun _ l => ((ps n).ended l).bind fun x l => .ok (.tuple [d, dW w, x]) l) →
      (tSeq (tAsg (cM K "take_name" (sp_Cursor_take_name K (EW1 K)) [] E tNil) (gName 2)) (tSeq (tDrop (cM K "want" (sp_Cursor_want K (EW1 K)) [] E (tCons (tC (.str ("=" : Str))) tNil)))
        (tRet (tTup (tCons (tVar 1) (tCons (tVar 2) (tCons (tCall (sp_parse_ended K n) [] E (tCons (tVar 0) tNil)) tNil))))))) (DQ Q) [some (.ref p), some v, none] G := fun G j d v a1 tv R1 => by
    refine ex_name rfl a1 R1 fun w G2 k2 a2 R2 => ?_
    refine st_want rfl a2 (by decide) R2 fun G3 k3 a3 R3 => ?_
    refine ⟨_, rfl, _, rfl, _, rfl, p, dx, f, ts, _, rfl, a3, Ret.call R3 fun d4 j4 v4 G4 k4 a4 t4 R4 => ?_⟩
    have tv4 := tv.keep ((a1.tk k2).trans ((a2.tk k3).trans (a3.tk k4)))
    exact ⟨(by show 3 ≤ sizeLine; decide), fun q nq => R4.tup a4 (.cons tv4 (.cons (.str _) (.cons t4 .nil))) nq⟩
  refine ex_word rfl a ht ⟨_, _, rfl, .inr (hA H), rfl, flat_map _, _, rfl, ?_⟩
  rw [if_neg Bool.false_ne_true, in_list]
  refine ite2 (fun c => ?_) (fun c => ?_)
  · rw [if_pos (of_decide_eq_true c)] at R
    exact ⟨_, rfl, p, dx, f, ts, i, rfl, a, Ret.call R fun d1 j1 v1 G1 k1 a1 t1 R1 => tail G1 j1 d1 v1 a1 t1 R1⟩
  · rw [if_neg fun z => c (decide_eq_true z)] at R
    exact tail H i _ _ a (.str _) R
theorem run_parse_statement (hS : KD K w (He.ga K ("STATEMENTS" : Str)) (stmV K)) (h : sp_parse_statement K (n + 1) vs H Q E) : t_parse_statement K w n E (DQ Q) (start ns_parse_statement vs) H := by
  obtain ⟨p, dx, f, ts, i, rfl, a, R⟩ := h
  obtain ⟨t, ht, ed⟩ := a.tok
  rw [ed] at R
  refine ex_word rfl a ht ?_
  refine ⟨_, rfl, _, _, _, rfl, rfl, hS, _, rfl, ?_⟩
  rcases stm_cases K n t (ts.drop (i + 1)) with ⟨b, g, l1, l2, l3, l4⟩ | ⟨l1, l3⟩
  · rw [l1]
    rw [l3] at R
    refine iteT ?_
    refine ex_take rfl a ht (fun z => l4 (a.wf.fin t (List.mem_of_getElem? ht) z)) fun G k a1 => ?_
    refine ⟨_, rfl, _, _, _, _, rfl, rfl, hS, l1, ?_⟩
    exact ⟨b, _, rfl, l2, _, rfl, p, dx, f, ts, _, rfl, a1, R.from_ k⟩
  rw [l1]
  rw [l3] at R
  refine iteF ?_
  have rest : ¬ (t.kind = .name ∧ isW ":=" (ts.drop (i + 1))) → (tSeq (tAsg (tCall (sp_parse_postfix K n) [] E (tCons (tVar 0) tNil)) (gName 3))
    (tSeq (tIfS (tB (cM K "took" (sp_Cursor_took K) [] E (tCons (tC (.str ("." : Str))) tNil)))
      (tRet (tCall (sp_parse_assign K n) [] E (tCons (tVar 0) (tCons (tVar 3) tNil))))
      tNext)
    (tSeq (tAsg (tCall (sp_parse_operators K n) [] E (tCons (tVar 0) (tCons (tVar 3) (tCons (tC (.int 1)) tNil)))) (gName 4))
    (tSeq (tDrop (cM K "want" (sp_Cursor_want K (EW1 K)) [] E (tCons (tC (.str (";" : Str))) tNil)))
    (tRet (tTup (tCons (tC (.str ("expr" : Str))) (tCons (tVar 4) tNil)))))))) (DQ Q) [some (.ref p), some (.str (Tx t.text)), none, none, none] H := fun z => by
    rw [if_neg z, ← ed] at R
    refine ⟨_, rfl, p, dx, f, ts, i, rfl, a, Ret.call R fun d1 j1 v1 G1 k1 a1 t1 R1 => ?_⟩
    obtain ⟨u, hu, eu⟩ := a1.tok
    rw [isW_at hu, tail_at] at R1
    refine ex_took rfl a1 hu (by decide) (fun c G2 k2 a2 => ⟨_, rfl, iteT ?_⟩) (fun c => ⟨_, rfl, iteF ?_⟩)
    · rw [if_pos (decide_eq_true c)] at R1
      exact ⟨_, rfl, _, rfl, p, dx, f, ts, _, v1, d1, rfl, a2, t1.keep (a1.tk k2), R1.from_ k2⟩
    rw [if_neg (by simpa using c)] at R1
    refine ⟨_, rfl, _, rfl, p, dx, f, ts, _, v1, d1, 1, rfl, a1, t1, Int.le_refl _, Ret.call R1 fun d2 j2 v2 G2 k2 a2 t2 R2 => ?_⟩
    refine st_want rfl a2 (by decide) R2 fun G3 k3 a3 R3 => ?_
    exact ⟨_, rfl, (by show 2 ≤ sizeLine; decide), fun q nq => R3.tup a3 (.cons (.str _) (.cons (t2.keep (a2.tk k3)) .nil)) nq⟩
  refine ex_kind rfl a ht ⟨rfl, _, rfl, ?_⟩
  rw [show ("name" : Str) = kdS .name from rfl, dec_k]
  refine ite2 (fun c => ?_) (fun c => ?_)
  · have c := of_decide_eq_true c
    obtain ⟨t1, h1⟩ := a.wf.next i t ht (by rw [c]; intro z; cases z)
    refine ex_wordN (m := 1) rfl a h1 ⟨rfl, _, rfl, ?_⟩
    rw [dec_s, ← isW_at h1]
    refine ite2 (fun c2 => ?_) (fun c2 => ?_)
    · rw [if_pos ⟨c, c2⟩, ← ed] at R
      exact ⟨_, rfl, p, dx, f, ts, i, rfl, a, R⟩
    · exact rest fun z => c2 z.2
  · exact rest fun z => c (decide_eq_true z.1)
theorem num_text {w : List Nat} (h : isNum w = true) (hne : w ≠ []) : PySem.intText? (Tx w) = some ((val w : Nat) : Int) ∧ (Tx w).length ≤ 640 := by
  have e : (w.all isDig && (!(decide (1 < w.length) && (w.head? == some 48)) && (decide (w.length ≤ 13) && decide (val w ≤ 1000000000000)))) = true := h
  rw [Bool.and_eq_true, Bool.and_eq_true, Bool.and_eq_true] at e
  obtain ⟨h1, _, h3, _⟩ := e
  have h3 := of_decide_eq_true h3
  have hd : NumText.AllDigits (Tx w).cps.toList := fun x hx => by
    have q := List.all_eq_true.mp h1 x hx
    unfold isDig at q
    simp at q
    exact q
  refine ⟨intText_digits hd (by exact hne) (by show w.length ≤ 4300; omega), ?_⟩
  show w.length ≤ 640
  omega
theorem run_parse_primary (hC : ∀ H, SqT K H (He.ga K ("CONSTANTS" : Str)) (constL.map fun k => V.str (Tx k))) (h : sp_parse_primary K (n + 1) vs H Q E) : t_parse_primary K w n E (DQ Q) (start ns_parse_primary vs) H := by
  obtain ⟨p, dx, f, ts, i, rfl, a, R⟩ := h
  obtain ⟨t, ht, ed⟩ := a.tok
  have R : Ret K p dx f ts H Q E ((ps (n + 1)).prim (ts.drop i)) := R
  rw [ed] at R
  have R : Ret K p dx f ts H Q E (if t.kind = .number then .ok (.tuple [dS "num", .int (val t.text)]) (ts.drop (i + 1)) else if t.text ∈ constL then .ok (.tuple [dW t.text]) (ts.drop (i + 1))
      else if t.text = codes "(" then ((ps n).whole (ts.drop (i + 1))).bind fun x l => (wantW ")" l).bind fun _ l => .ok x l
      else if t.text = codes "object" then ((ps n).slots (ts.drop (i + 1))).bind fun x l => .ok (.tuple [dS "object", x]) l
      else if t.text = codes "fn" then ((ps n).rowN (ts.drop (i + 1))).bind fun ps' l => ((ps n).body l).bind fun b l => .ok (.tuple [dS "fn", ps', b]) l
      else if t.text = codes "resend" then (nameW (ts.drop (i + 1))).bind fun w l => ((ps n).rowW l).bind fun as l => .ok (.tuple [dS "resend", dW w, as]) l
      else (nameW (t :: ts.drop (i + 1))).bind fun w l => if isW "(" l then ((ps n).rowW l).bind fun as l => .ok (.tuple [dS "own", dW w, as]) l else .ok (.tuple [dS "name", dW w]) l) := R
  refine ex_kind rfl a ht ⟨rfl, _, rfl, ?_⟩
  rw [show ("number" : Str) = kdS .number from rfl, dec_k]
  refine ite2 (fun c => ?_) (fun c => ?_)
  · have c := of_decide_eq_true c
    rw [if_pos c] at R
    have hn := a.wf.num t (List.mem_of_getElem? ht) c
    refine ex_take rfl a ht (by rw [c]; intro z; cases z) fun G k a1 => ?_
    obtain ⟨i1, i2⟩ := num_text hn.1 hn.2
    refine ⟨_, _, rfl, i1, i2, (by show 2 ≤ sizeLine; decide), fun q nq => (R.from_ k).tup a1 (.cons (.str _) (.cons (.int _) .nil)) nq⟩
  rw [if_neg fun z => c (decide_eq_true z)] at R
  refine ex_word rfl a ht ⟨_, _, rfl, .inr (hC H), rfl, flat_map _, _, rfl, ?_⟩
  rw [if_neg Bool.false_ne_true, in_list]
  refine ite2 (fun c => ?_) (fun c => ?_)
  · have c := of_decide_eq_true c
    rw [if_pos c] at R
    have ne : t.text ≠ [] := by
      have z : ∀ x ∈ constL, x ≠ [] := by decide +kernel
      exact z _ c
    refine ex_take rfl a ht (fun z => ne (a.wf.fin t (List.mem_of_getElem? ht) z)) fun G k a1 => ?_
    exact ⟨(by show 1 ≤ sizeLine; decide), fun q nq => (R.from_ k).tup a1 (.cons (.str _) .nil) nq⟩
  rw [if_neg fun z => c (decide_eq_true z)] at R
  refine ex_took rfl a ht (by decide) (fun c G k a1 => ⟨_, rfl, iteT ?_⟩) (fun c => ⟨_, rfl, iteF ?_⟩)
  · rw [if_pos c] at R
    refine ⟨_, rfl, p, dx, f, ts, _, rfl, a1, Ret.call (R.from_ k) fun d2 j2 v2 G2 k2 a2 t2 R2 => ?_⟩
    exact st_want rfl a2 (by decide) R2 fun G3 k3 a3 R3 => ⟨_, rfl, R3.done a3 (t2.keep (a2.tk k3))⟩
  rw [if_neg c] at R
  refine ex_took rfl a ht (by decide) (fun c G k a1 => ⟨_, rfl, iteT ?_⟩) (fun c => ⟨_, rfl, iteF ?_⟩)
  · rw [if_pos c] at R
    refine ⟨_, rfl, p, dx, f, ts, _, rfl, a1, Ret.call (R.from_ k) fun d2 j2 v2 G2 k2 a2 t2 R2 => ?_⟩
    exact ⟨(by show 2 ≤ sizeLine; decide), fun q nq => R2.tup a2 (.cons (.str _) (.cons t2 .nil)) nq⟩
  rw [if_neg c] at R
  refine ex_took rfl a ht (by decide) (fun c G k a1 => ⟨_, rfl, iteT ?_⟩) (fun c => ⟨_, rfl, iteF ?_⟩)
  · rw [if_pos c] at R
    refine ⟨_, rfl, p, dx, f, ts, _, _, _, rfl, .inl ⟨rfl, rfl⟩, a1, Ret.call (R.from_ k) fun d2 j2 v2 G2 k2 a2 t2 R2 => ?_⟩
    refine ⟨_, rfl, _, rfl, p, dx, f, ts, _, rfl, a2, Ret.call R2 fun d3 j3 v3 G3 k3 a3 t3 R3 => ?_⟩
    exact ⟨(by show 3 ≤ sizeLine; decide), fun q nq => R3.tup a3 (.cons (.str _) (.cons (t2.keep (a2.tk k3)) (.cons t3 .nil))) nq⟩
  rw [if_neg c] at R
  refine ex_took rfl a ht (by decide) (fun c G k a1 => ⟨_, rfl, iteT ?_⟩) (fun c => ⟨_, rfl, iteF ?_⟩)
  · rw [if_pos c] at R
    refine ex_name rfl a1 (R.from_ k) fun w G2 k2 a2 R2 => ?_
    refine ⟨_, rfl, _, rfl, p, dx, f, ts, _, _, _, rfl, .inr ⟨rfl, rfl⟩, a2, Ret.call R2 fun d3 j3 v3 G3 k3 a3 t3 R3 => ?_⟩
    exact ⟨(by show 3 ≤ sizeLine; decide), fun q nq => R3.tup a3 (.cons (.str _) (.cons (.str _) (.cons t3 .nil))) nq⟩
  rw [if_neg c, ← ed] at R
  refine ex_name rfl a R fun w G1 k1 a1 R1 => ?_
  obtain ⟨u, hu, eu⟩ := a1.tok
  rw [isW_at hu] at R1
  refine ex_word rfl a1 hu ⟨rfl, _, rfl, ?_⟩
  rw [dec_s]
  refine ite2 (fun c => ?_) (fun c => ?_)
  · rw [if_pos c] at R1
    refine ⟨_, rfl, _, rfl, p, dx, f, ts, _, _, _, rfl, .inr ⟨rfl, rfl⟩, a1, Ret.call R1 fun d3 j3 v3 G3 k3 a3 t3 R3 => ?_⟩
    exact ⟨(by show 3 ≤ sizeLine; decide), fun q nq => R3.tup a3 (.cons (.str _) (.cons (.str _) (.cons t3 .nil))) nq⟩
  · rw [if_neg c] at R1
    exact ⟨_, rfl, (by show 2 ≤ sizeLine; decide), fun q nq => R1.tup a1 (.cons (.str _) (.cons (.str _) .nil)) nq⟩
theorem lev_cases (x : List Nat) : (levV.lookup (Tx x) = some (.int (lev x)) ∧ 1 ≤ lev x ∧ x ≠ []) ∨ (levV.lookup (Tx x) = none ∧ lev x = 0) := by
  have l : levV.lookup (Tx x) = if x = codes "==" then some (.int 1) else if x = codes "<" then some (.int 1) else if x = codes "<=" then some (.int 1) else if x = codes "+" then some (.int 2) else if x = codes "-" then some (.int 2)
      else if x = codes "*" then some (.int 3) else if x = codes "div" then some (.int 3) else if x = codes "mod" then some (.int 3) else none := by
    unfold levV
    rw [lk_c, lk_c, lk_c, lk_c, lk_c, lk_c, lk_c, lk_c]
    rfl
  rw [l]
  by_cases c1 : x = codes "=="
  · subst c1; exact .inl ⟨by decide +kernel, by decide +kernel, by decide⟩
  rw [if_neg c1]
  by_cases c2 : x = codes "<"
  · subst c2; exact .inl ⟨by decide +kernel, by decide +kernel, by decide⟩
  rw [if_neg c2]
  by_cases c3 : x = codes "<="
  · subst c3; exact .inl ⟨by decide +kernel, by decide +kernel, by decide⟩
  rw [if_neg c3]
  by_cases c4 : x = codes "+"
  · subst c4; exact .inl ⟨by decide +kernel, by decide +kernel, by decide⟩
  rw [if_neg c4]
  by_cases c5 : x = codes "-"
  · subst c5; exact .inl ⟨by decide +kernel, by decide +kernel, by decide⟩
  rw [if_neg c5]
  by_cases c6 : x = codes "*"
  · subst c6; exact .inl ⟨by decide +kernel, by decide +kernel, by decide⟩
  rw [if_neg c6]
  by_cases c7 : x = codes "div"
  · subst c7; exact .inl ⟨by decide +kernel, by decide +kernel, by decide⟩
  rw [if_neg c7]
  by_cases c8 : x = codes "mod"
  · subst c8; exact .inl ⟨by decide +kernel, by decide +kernel, by decide⟩
  rw [if_neg c8]
  refine .inr ⟨rfl, ?_⟩
  unfold lev
  rw [if_neg (by simp [lev1, c1, c2, c3]), if_neg (by simp [lev2, c4, c5]), if_neg (by simp [lev3, c6, c7, c8])]
theorem lev_get (x : List Nat) : (levV.lookup (Tx x)).getD (.int 0) = .int (lev x) := by
  rcases lev_cases x with ⟨e, _, _⟩ | ⟨e, z⟩
  · rw [e]; rfl
  · rw [e, z]; rfl
theorem run_parse_operators (hL : KD K w (He.ga K ("LEVELS" : Str)) levV) (h : sp_parse_operators K (n + 1) vs H Q E) : t_parse_operators K w n E (DQ Q) (start ns_parse_operators vs) H := by
  obtain ⟨p, dx, f, ts, i, v, d, level, rfl, a, tv, hlv, R⟩ := h
  refine ⟨fun m σ G => ∃ (j : Nat) (d : PyData) (v : V) (v3 v4 v5 : Option V), Ret K p dx f ts H Q E (opsLoop (ps n).post (ps n).ops level m d (ts.drop j)) ∧ Fr p H G ∧ At K G p dx f ts j ∧ Tr G v d ∧ σ = [some (.ref p), some v, some (.int level), v3, v4, v5],
    ⟨LF, i, d, v, none, none, none, R, Fr.refl p H, a, tv, rfl⟩, ?_⟩
  rintro m σ G ⟨j, d, v, v3, v4, v5, R, fr, a, tv, rfl⟩
  cases m with
  | zero => exact absurd rfl R.some_
  | succ m =>
    obtain ⟨t, ht, ed⟩ := a.tok
    rw [ed] at R
    have R : Ret K p dx f ts H Q E (if level ≤ lev t.text then ((ps n).post (ts.drop (j + 1))).bind fun x l => ((ps n).ops x (lev t.text + 1) l).bind fun right l =>
      if lev t.text = 1 then .ok (.tuple [dS "op", dW t.text, d, right]) l else opsLoop (ps n).post (ps n).ops level m (.tuple [dS "op", dW t.text, d, right]) l else .ok d (t :: ts.drop (j + 1))) := R
    refine ⟨_, levV, rfl, hL, ex_word rfl a ht ⟨_, rfl, ?_⟩⟩
    rw [lev_get]
    refine ⟨_, rfl, _, _, rfl, rfl, _, rfl, ?_⟩
    by_cases c : level ≤ lev t.text
    · rw [decide_eq_true c]
      rw [if_pos c] at R
      obtain ⟨lk, l1, lne⟩ : levV.lookup (Tx t.text) = some (.int (lev t.text)) ∧ 1 ≤ lev t.text ∧ t.text ≠ [] := by
        rcases lev_cases t.text with z | ⟨_, z⟩
        · exact z
        · omega
      refine iteT ⟨_, fun _ _ z => z, ?_⟩
      refine ex_take rfl a ht (fun z => lne (a.wf.fin t (List.mem_of_getElem? ht) z)) fun G1 k1 a1 => ?_
      refine ⟨_, rfl, _, _, _, _, rfl, rfl, hL, lk, _, _, rfl, rfl, ?_⟩
      refine ⟨_, rfl, _, rfl, p, dx, f, ts, _, rfl, a1, Ret.call0 R (fr.trans k1) fun d2 j2 v2 G2 k2 a2 t2 R2 => ?_⟩
      have fr2 := (fr.trans k1).trans k2
      refine ⟨_, rfl, p, dx, f, ts, _, v2, d2, _, rfl, a2, t2, by omega, Ret.call0 R2 fr2 fun d3 j3 v3 G3 k3 a3 t3 R3 => ?_⟩
      have fr3 := fr2.trans k3
      have tv3 := tv.keep ((a.tk k1).trans ((a1.tk k2).trans (a2.tk k3)))
      refine ⟨_, rfl, _, rfl, _, rfl, (by show 4 ≤ sizeLine; decide), fun q nq => ?_⟩
      have tn : Tr (upd G3 q (.tup [.str ("op" : Str), .str (Tx t.text), v, v3])) (.ref q) (.tuple [dS "op", dW t.text, d, d3]) := .tup upd_same ((Trs.cons (.str _) (.cons (.str _) (.cons tv3 (.cons t3 .nil)))).keep (TK.new nq))
      refine ⟨_, rfl, _, _, _, _, rfl, rfl, hL, lk, rfl, _, rfl, ?_⟩
      by_cases c1 : lev t.text = 1
      · rw [c1, if_pos rfl] at R3
        rw [show decide (V.int (lev t.text) = V.int 1) = true from decide_eq_true (by rw [c1])]
        exact iteT ⟨_, rfl, R3.ok _ _ _ _ rfl (fr3.trans (Fr.new nq)) (a3.new nq) (by rw [c1] at *; exact tn)⟩
      · rw [if_neg c1] at R3
        rw [show decide (V.int (lev t.text) = V.int 1) = false from decide_eq_false fun z => c1 (by injection z)]
        exact iteF ⟨m, Nat.lt_succ_self m, j3, _, _, _, _, _, R3, fr3.trans (Fr.new nq), a3.new nq, tn, rfl⟩
    · rw [decide_eq_false c]
      rw [if_neg c, ← ed] at R
      exact iteF ⟨_, rfl, R.ok _ _ _ _ rfl fr a tv⟩
theorem st_want_yes {p dx f : Addr} {ts : List Tk} {i : Nat} {G : Hp} {σ : L2.St} {s : String} {t : Tk} {D : Ends} (hσ : σ[0]? = some (some (.ref p))) (a : At K G p dx f ts i) (hs : codes s ≠ []) (ht : ts[i]? = some t) (c : t.text = codes s)
    (y : ∀ G1, Fr p G G1 → At K G1 p dx f ts (i + 1) → D.nx σ G1) : tDrop (cM K "want" (sp_Cursor_want K (EW1 K)) [] E (tCons (tC (.str (Str.ofString s))) tNil)) D σ G :=
  ⟨_, hσ, p, dx, _, rfl, a.cu.1, cuF_no (by decide +kernel) (by decide +kernel), p, dx, f, ts, i, t, codes s, by rw [← Tx_of s]; rfl, a.cu, ht, fun c => y _ (Fr.mv _) (a.step ht (a.word_fin ht c hs)), fun z => absurd c z⟩
theorem run_parse_postfix (h : sp_parse_postfix K (n + 1) vs H Q E) : t_parse_postfix K w n E (DQ Q) (start ns_parse_postfix vs) H := by
  obtain ⟨p, dx, f, ts, i, rfl, a, R⟩ := h
  refine ⟨_, rfl, p, dx, f, ts, i, rfl, a, Ret.call0 R (Fr.refl p H) fun d1 j1 v1 G1 k1 a1 t1 R1 => ?_⟩
  refine ⟨fun m σ G => ∃ (j : Nat) (d : PyData) (v : V) (v2 v3 : Option V), Ret K p dx f ts H Q E (postLoop (ps n).rowW m d (ts.drop j)) ∧ Fr p H G ∧ At K G p dx f ts j ∧ Tr G v d ∧ σ = [some (.ref p), some v, v2, v3],
    ⟨LF, j1, d1, v1, none, none, R1, k1, a1, t1, rfl⟩, ?_⟩
  rintro m σ G ⟨j, d, v, v2, v3, R, fr, a, tv, rfl⟩
  cases m with
  | zero => exact absurd rfl R.some_
  | succ m =>
    refine ⟨_, rfl, p, dx, f, ts, j, rfl, a, _, rfl, ?_⟩
    unfold postLoop at R
    cases hd : hasDot (ts.drop j) with
    | false =>
      rw [hd, if_neg Bool.false_ne_true] at R
      exact iteF ⟨_, rfl, R.ok _ _ _ _ rfl fr a tv⟩
    | true =>
      rw [hd, if_pos rfl] at R
      obtain ⟨t0, h0, e0⟩ := a.tok
      have c0 : t0.text = codes "." ∧ ∃ t1 t2 r, ts.drop (j + 1) = t1 :: t2 :: r ∧ (t1.kind = .name ∨ t1.text = codes "call") := by
        rw [e0] at hd
        cases e1 : ts.drop (j + 1) with
        | nil => rw [e1] at hd; cases hd
        | cons t1 r =>
          cases r with
          | nil => rw [e1] at hd; cases hd
          | cons t2 r =>
            rw [e1] at hd
            have hd : (decide (t0.text = codes ".") && ((decide (t1.kind = .name) || decide (t1.text = codes "call")) && decide (t2.text = codes "("))) = true := hd
            rw [Bool.and_eq_true, Bool.and_eq_true, Bool.or_eq_true] at hd
            refine ⟨of_decide_eq_true hd.1, t1, t2, r, rfl, ?_⟩
            rcases hd.2.1 with z | z
            · exact .inl (of_decide_eq_true z)
            · exact .inr (of_decide_eq_true z)
      obtain ⟨c0, t1, t2, r, e1, c1⟩ := c0
      refine iteT ⟨_, fun _ _ z => z, ?_⟩
      refine st_want_yes rfl a (by decide) h0 c0 fun G1 k1 a1 => ?_
      obtain ⟨t1', h1, e1'⟩ := a1.tok
      have same : t1' = t1 := by
        rw [e1] at e1'
        exact (List.cons.inj e1').1.symm
      subst same
      rw [e0, e1'] at R
      have R : Ret K p dx f ts H Q E (((ps n).rowW (ts.drop (j + 1 + 1))).bind fun args l => postLoop (ps n).rowW m (if t1'.text = codes "call" then .tuple [dS "call", d, args] else .tuple [dS "send", d, dW t1'.text, args]) l) := R
      have kf : t1'.kind ≠ .fin := by
        rcases c1 with z | z
        · rw [z]
          intro y
          cases y
        · exact a1.word_fin h1 z (by decide)
      refine ex_take rfl a1 h1 kf fun G2 k2 a2 => ?_
      have fr2 := (fr.trans k1).trans k2
      refine ⟨_, rfl, p, dx, f, ts, _, _, _, rfl, .inr ⟨rfl, rfl⟩, a2, Ret.call0 R fr2 fun d3 j3 v3 G3 k3 a3 t3 R3 => ?_⟩
      have fr3 := fr2.trans k3
      have tv3 := tv.keep ((a.tk k1).trans ((a1.tk k2).trans (a2.tk k3)))
      refine ⟨_, rfl, rfl, _, rfl, ?_⟩
      rw [dec_s]
      by_cases c : t1'.text = codes "call"
      · rw [decide_eq_true c]
        rw [if_pos c] at R3
        refine iteT ⟨_, rfl, _, rfl, (by show 3 ≤ sizeLine; decide), fun q nq => ?_⟩
        exact ⟨m, Nat.lt_succ_self m, j3, _, _, _, _, R3, fr3.trans (Fr.new nq), a3.new nq, .tup upd_same ((Trs.cons (.str _) (.cons tv3 (.cons t3 .nil))).keep (TK.new nq)), rfl⟩
      · rw [decide_eq_false c]
        rw [if_neg c] at R3
        refine iteF ⟨_, rfl, _, rfl, _, rfl, (by show 4 ≤ sizeLine; decide), fun q nq => ?_⟩
        exact ⟨m, Nat.lt_succ_self m, j3, _, _, _, _, R3, fr3.trans (Fr.new nq), a3.new nq, .tup upd_same ((Trs.cons (.str _) (.cons tv3 (.cons (.str _) (.cons t3 .nil)))).keep (TK.new nq)), rfl⟩
theorem no_pf {g : Pf} (hg : ∀ l, g l = .out) (vs : List V) (H : Hp) (Q : VK) (E : XK) (h : sp_pf K g vs H Q E) : False := by
  obtain ⟨p, dx, f, ts, i, _, _, R⟩ := h
  exact R.some_ (hg _)
theorem no_ops (vs : List V) (H : Hp) (Q : VK) (E : XK) (h : sp_parse_operators K 0 vs H Q E) : False := by
  obtain ⟨p, dx, f, ts, i, v, d, level, _, _, _, _, R⟩ := h
  exact R.some_ rfl
theorem no_assign (vs : List V) (H : Hp) (Q : VK) (E : XK) (h : sp_parse_assign K 0 vs H Q E) : False := by
  obtain ⟨p, dx, f, ts, i, v, d, _, _, _, R⟩ := h
  exact R.some_ rfl
theorem no_row (vs : List V) (H : Hp) (Q : VK) (E : XK) (h : sp_parse_row K 0 vs H Q E) : False := by
  obtain ⟨p, dx, f, ts, i, g, part, _, hg, _, R⟩ := h
  rcases hg with ⟨_, rfl⟩ | ⟨_, rfl⟩
  · exact R.some_ rfl
  · exact R.some_ rfl
end
end Rm

/-! P2: parse_expr, parse_item, parse: a text's tokens to the end. -/
namespace Rm
open PySem PySem.Spec PyProof.Rows L2 Lx
/-- str(i) -/
abbrev rStrI : RC := fun xs H Q => ∃ i : Int, xs = [.int i] ∧ i.natAbs.log2 < 1920 ∧ Q (.str (toString i)) H
abbrev FU : Nat := 60
def endW (l : List Tk) : Rs Unit := match l with
  | [] => .out
  | t :: r => if t.kind = .fin then .ok () (t :: r) else .no t.row t.col
def pExpr (n : Nat) : Pf := fun l => ((ps n).whole l).bind fun x l => (endW l).bind fun _ l => .ok x l
/-- a whole text: its tokens, what the parser g gives of them -/
def sp_text (K : PySem.W.Frag) (g : Pf) : Sp := fun vs H Q E => ∃ (l : List Nat) (ts : List Tk), vs = [.str (Tx l)] ∧ l.length ≤ 10000000 ∧ lex l 1 1 = (ts, none) ∧ g ts ≠ .out ∧
  (∀ d r v H', g ts = .ok d r → Same H H' → Tr H' v d → Q v H') ∧ (∀ r c H', g ts = .no r c → Same H H' → EW1 K "Unexpected" r c E H')
abbrev sp_parse_expr (K : PySem.W.Frag) : Sp := sp_text K (pExpr FU)
def itemP (n : Nat) : Pf := fun l => if isW "object" l then (nameW l.tail).bind fun w l => ((ps n).slots l).bind fun s l => .ok (.tuple [dS "object", dW w, s]) l else (ps n).method l
def itemsLoop (n : Nat) : Nat → List PyData → Pf
  | 0, _, _ => .out
  | m + 1, acc, l => if isW "main" l then .ok (.tuple acc) l.tail else (itemP n l).bind fun x r => itemsLoop n m (acc ++ [x]) r
def pText (n : Nat) : Pf := fun l => (itemsLoop n LF [] l).bind fun items l => ((ps n).body l).bind fun b l => (endW l).bind fun _ l => .ok (.tuple [items, b]) l
abbrev sp_parse_item (K : PySem.W.Frag) : Sp := sp_pf K (itemP FU)
abbrev sp_parse (K : PySem.W.Frag) : Sp := sp_text K (pText FU)
/-! ### readings -/

def ns_parse_expr : List Str := ["text", "cursor", "tree"]
def t_parse_expr (K : PySem.W.Frag) (E : XK) : TS :=
  (tSeq (tAsg (tMake (He.ga K ("Cursor" : Str)) (sp_Cursor_init K (EW1 K)) [] E (tCons (tVar 0) tNil)) (gName 1))
    (tSeq (tAsg (tCall (sp_parse_whole K FU) [] E (tCons (tVar 1) tNil)) (gName 2))
    (tSeq (tDrop (tMeth (He.ga K ("Cursor" : Str)) ("want_end" : Str) (sp_Cursor_want_end K (EW1 K)) [] E (tVar 1) tNil))
    (tRet (tVar 2)))))

def ns_parse_item : List Str := ["cursor", "name"]
def t_parse_item (K : PySem.W.Frag) (E : XK) : TS :=
  (tSeq (tIfS (tB (tMeth (He.ga K ("Cursor" : Str)) ("took" : Str) (sp_Cursor_took K) [] E (tVar 0) (tCons (tC (.str ("object" : Str))) tNil)))
      (tSeq (tAsg (tMeth (He.ga K ("Cursor" : Str)) ("take_name" : Str) (sp_Cursor_take_name K (EW1 K)) [] E (tVar 0) tNil) (gName 1))
    (tRet (tTup (tCons (tC (.str ("object" : Str))) (tCons (tVar 1) (tCons (tCall (sp_parse_slots K FU) [] E (tCons (tVar 0) tNil)) tNil))))))
      tNext)
    (tRet (tCall (sp_parse_method K FU) [] E (tCons (tVar 0) tNil))))

def ns_parse : List Str := ["text", "cursor", "items", "body"]
def t_parse (K : PySem.W.Frag) (E : XK) : TS :=
  (tSeq (tAsg (tMake (He.ga K ("Cursor" : Str)) (sp_Cursor_init K (EW1 K)) [] E (tCons (tVar 0) tNil)) (gName 1))
    (tSeq (tAsg (tLst tNil) (gName 2))
    (tSeq (tWhile (tNot (tB (tMeth (He.ga K ("Cursor" : Str)) ("took" : Str) (sp_Cursor_took K) [] E (tVar 1) (tCons (tC (.str ("main" : Str))) tNil))))
      (tDrop (tBM K "list" rAppend (tVar 2) (tCons (tCall (sp_parse_item K) [] E (tCons (tVar 1) tNil)) tNil))))
    (tSeq (tAsg (tCall (sp_parse_body K FU) [] E (tCons (tVar 1) tNil)) (gName 3))
    (tSeq (tDrop (tMeth (He.ga K ("Cursor" : Str)) ("want_end" : Str) (sp_Cursor_want_end K (EW1 K)) [] E (tVar 1) tNil))
    (tRet (tTup (tCons (tCB (rTupleOf K) (tCons (tVar 2) tNil)) (tCons (tVar 3) tNil)))))))))

section
variable {K : PySem.W.Frag} {vs : List V} {H : Hp} {Q : VK} {E : XK}
/-- the cursor's beginning -/
theorem run_start {l : List Nat} {ts : List Tk} {g : Pf} {σ : L2.St} {Y : VK} (hσ : σ[0]? = some (some (.str (Tx l)))) (hl : l.length ≤ 10000000) (hx : lex l 1 1 = (ts, none)) (h1 : g ts ≠ .out)
    (h2 : ∀ d r v H', g ts = .ok d r → Same H H' → Tr H' v d → Q v H') (h3 : ∀ r c H', g ts = .no r c → Same H H' → EW1 K "Unexpected" r c E H')
    (y : ∀ p dx f G, At K G p dx f ts 0 → Ret K p dx f ts G Q E (g ts) → Y (.ref p) G) : tMake (He.ga K ("Cursor" : Str)) (sp_Cursor_init K (EW1 K)) [] E (tCons (tVar 0) tNil) σ H Y := by
  refine ⟨_, hσ, fun p dx np nd ne => ?_⟩
  refine ⟨p, dx, l, rfl, upd_same, hl, fun ts2 f H1 e1 nf s1 hT => ⟨rfl, ?_⟩, fun ts2 e r c H1 e1 s1 => by rw [hx] at e1; cases e1⟩
  have ets : ts2 = ts := by
    rw [hx] at e1
    exact (congrArg Prod.fst e1).symm
  subst ets
  obtain ⟨wf, nonempty⟩ := lex_wf hx
  have hp1 : H1 p = some (.ins (CC K) dx []) := s1 _ _ upd_same
  have fp : f ≠ p := fun z => by
    obtain ⟨qs, q1, _⟩ := hT
    rw [z, hp1] at q1
    cases q1
  have same : Same H (mvU K H1 p dx f 0) := fun b o e => by
    show upd H1 p _ b = _
    rw [upd_ne (ne_of_none e np)]
    refine s1 b o ?_
    rw [upd_ne (ne_of_none e np), upd_ne (ne_of_none e nd)]
    exact e
  have at_ : At K (mvU K H1 p dx f 0) p dx f ts2 0 := by
    refine ⟨⟨upd_same, ?_, ?_⟩, List.length_pos_iff.mpr nonempty, wf⟩
    · obtain ⟨qs, q1, q2, q3⟩ := hT
      refine ⟨qs, by show upd H1 p _ f = _; rw [upd_ne fp]; exact q1, q2, fun m q t a1 a2 => ?_⟩
      have q4 := q3 m q t a1 a2
      show upd H1 p _ q = _
      rw [upd_ne (ne_of q4 hp1 (by intro z; cases z))]
      exact q4
    · have b := lex_count l 1 1
      rw [hx] at b
      have b : ts2.length ≤ l.length + 1 := b
      omega
  refine y p dx f _ at_ ⟨h1, fun d j v G e k a t => h2 d _ v G e (fun b o z => k b o (ne_of_none z np) (same b o z)) t, fun r c G e k => h3 r c G e (fun b o z => k b o (ne_of_none z np) (same b o z))⟩
theorem run_parse_expr (h : sp_parse_expr K vs H Q E) : t_parse_expr K E (DQ Q) (start ns_parse_expr vs) H := by
  obtain ⟨l, ts, rfl, hl, hx, h1, h2, h3⟩ := h
  show tMake (He.ga K ("Cursor" : Str)) (sp_Cursor_init K (EW1 K)) [] E (tCons (tVar 0) tNil) (start ns_parse_expr [V.str (Tx l)]) H (fun v H1 => gName 1 v (start ns_parse_expr [V.str (Tx l)]) H1 fun σ2 H2 =>
    (tSeq (tAsg (tCall (sp_parse_whole K FU) [] E (tCons (tVar 1) tNil)) (gName 2)) (tSeq (tDrop (tMeth (He.ga K ("Cursor" : Str)) ("want_end" : Str) (sp_Cursor_want_end K (EW1 K)) [] E (tVar 1) tNil)) (tRet (tVar 2)))) (DQ Q) σ2 H2)
  refine run_start (l := l) (ts := ts) (g := pExpr FU) (σ := start ns_parse_expr [V.str (Tx l)]) (Q := Q) rfl hl hx h1 h2 h3 fun p dx f G a R => ?_
  have R : Ret K p dx f ts G Q E (((ps FU).whole (ts.drop 0)).bind fun x l => (endW l).bind fun _ l => .ok x l) := R
  refine ⟨_, rfl, p, dx, f, ts, 0, rfl, a, Ret.call R fun d j v G1 k a1 t R1 => ?_⟩
  obtain ⟨u, hu, eu⟩ := a1.tok
  rw [eu] at R1
  refine ⟨_, rfl, p, dx, _, rfl, a1.cu.1, cuF_no (by decide +kernel) (by decide +kernel), p, dx, f, ts, j, u, rfl, a1.cu, hu, fun c => ?_, fun c => ?_⟩
  · have e : endW (u :: ts.drop (j + 1)) = .ok () (u :: ts.drop (j + 1)) := if_pos c
    rw [e] at R1
    have R1 : Ret K p dx f ts G1 Q E (.ok d (u :: ts.drop (j + 1))) := R1
    rw [← eu] at R1
    exact ⟨_, rfl, R1.done a1 t⟩
  · have e : endW (u :: ts.drop (j + 1)) = .no u.row u.col := if_neg c
    rw [e] at R1
    exact R1.no _ _ _ rfl (Fr.refl p G1)
theorem run_parse_item (h : sp_parse_item K vs H Q E) : t_parse_item K E (DQ Q) (start ns_parse_item vs) H := by
  obtain ⟨p, dx, f, ts, i, rfl, a, R⟩ := h
  obtain ⟨t, ht, ed⟩ := a.tok
  unfold itemP at R
  rw [isW_at ht, tail_at] at R
  refine ex_took rfl a ht (by decide) (fun c G k a1 => ⟨_, rfl, iteT ?_⟩) (fun c => ⟨_, rfl, iteF ?_⟩)
  · rw [if_pos (decide_eq_true c)] at R
    refine ex_name rfl a1 (R.from_ k) fun w G2 k2 a2 R2 => ?_
    refine ⟨_, rfl, _, rfl, p, dx, f, ts, _, rfl, a2, Ret.call R2 fun d3 j3 v3 G3 k3 a3 t3 R3 => ?_⟩
    exact ⟨(by show 3 ≤ sizeLine; decide), fun q nq => R3.tup a3 (.cons (.str _) (.cons (.str _) (.cons t3 .nil))) nq⟩
  · rw [if_neg (by simpa using c)] at R
    exact ⟨_, rfl, p, dx, f, ts, i, rfl, a, R⟩
theorem run_parse (h : sp_parse K vs H Q E) : t_parse K E (DQ Q) (start ns_parse vs) H := by
  obtain ⟨l, ts, rfl, hl, hx, h1, h2, h3⟩ := h
  show tMake (He.ga K ("Cursor" : Str)) (sp_Cursor_init K (EW1 K)) [] E (tCons (tVar 0) tNil) (start ns_parse [V.str (Tx l)]) H (fun v H1 => gName 1 v (start ns_parse [V.str (Tx l)]) H1 fun σ2 H2 =>
    (tSeq (tAsg (tLst tNil) (gName 2)) (tSeq (tWhile (tNot (tB (tMeth (He.ga K ("Cursor" : Str)) ("took" : Str) (sp_Cursor_took K) [] E (tVar 1) (tCons (tC (.str ("main" : Str))) tNil))))
      (tDrop (tBM K "list" rAppend (tVar 2) (tCons (tCall (sp_parse_item K) [] E (tCons (tVar 1) tNil)) tNil))))
    (tSeq (tAsg (tCall (sp_parse_body K FU) [] E (tCons (tVar 1) tNil)) (gName 3))
    (tSeq (tDrop (tMeth (He.ga K ("Cursor" : Str)) ("want_end" : Str) (sp_Cursor_want_end K (EW1 K)) [] E (tVar 1) tNil))
    (tRet (tTup (tCons (tCB (rTupleOf K) (tCons (tVar 2) tNil)) (tCons (tVar 3) tNil)))))))) (DQ Q) σ2 H2)
  refine run_start (l := l) (ts := ts) (g := pText FU) (σ := start ns_parse [V.str (Tx l)]) (Q := Q) rfl hl hx h1 h2 h3 fun p dx f G a R => ?_
  have R : Ret K p dx f ts G Q E ((itemsLoop FU LF [] (ts.drop 0)).bind fun items l => ((ps FU).body l).bind fun b l => (endW l).bind fun _ l => .ok (.tuple [items, b]) l) := R
  refine ⟨(by show 0 ≤ sizeLine; decide), fun u nu => ?_⟩
  have uf : u ≠ f := by
    obtain ⟨_, ⟨qs, q1, _⟩, _⟩ := a.cu
    exact fun z => by
      rw [z, q1] at nu
      cases nu
  have up : u ≠ p := fun z => by
    rw [z, a.cu.1] at nu
    cases nu
  refine ⟨fun m σ G2 => ∃ (j : Nat) (acc : List PyData) (xs : List V) (b : Option V), Ret K p dx f ts G Q E ((itemsLoop FU m acc (ts.drop j)).bind fun items l => ((ps FU).body l).bind fun b l => (endW l).bind fun _ l => .ok (.tuple [items, b]) l) ∧ Fr p G G2 ∧ At K G2 p dx f ts j ∧
      σ = [some (.str (Tx l)), some (.ref p), some (.ref u), none] ∧ G2 u = some (.lst xs) ∧ Trs G2 xs acc ∧ xs.length + m = LF,
    ⟨LF, 0, [], [], none, R, Fr.new nu, a.new nu, rfl, upd_same, .nil, Nat.zero_add _⟩, ?_⟩
  rintro m σ G2 ⟨j, acc, xs, b, R2, fr2, a2, rfl, hu, tr, hm⟩
  cases m with
  | zero => exact absurd rfl R2.some_
  | succ m =>
    obtain ⟨t, ht, ed⟩ := a2.tok
    unfold itemsLoop at R2
    rw [isW_at ht, tail_at] at R2
    refine ⟨_, rfl, p, dx, _, rfl, a2.cu.1, cuF_no (by decide +kernel) (by decide +kernel), p, dx, f, ts, j, t, codes "main", by rw [← Tx_of "main"]; rfl, a2.cu, ht, fun c => ⟨_, rfl, iteF ?_⟩, fun c => ⟨_, rfl, iteT ⟨_, fun _ _ z => z, ?_⟩⟩⟩
    · have a3 := a2.step ht (a2.word_fin ht c (by decide))
      have k3 : Fr p G2 (mvU K G2 p dx f (j + 1)) := Fr.mv _
      rw [if_pos (decide_eq_true c)] at R2
      have R2 : Ret K p dx f ts G Q E (((ps FU).body (ts.drop (j + 1))).bind fun b l => (endW l).bind fun _ l => .ok (.tuple [.tuple acc, b]) l) := R2
      have hu3 := k3 _ _ up hu
      refine ⟨_, rfl, p, dx, f, ts, _, rfl, a3, Ret.call0 R2 (fr2.trans k3) fun d4 j4 v4 G4 k4 a4 t4 R4 => ?_⟩
      have fr4 := (fr2.trans k3).trans k4
      have hu4 := k4 _ _ up hu3
      have tr4 := (tr.keep (a2.tk k3)).keep (a3.tk k4)
      obtain ⟨e, he, ee⟩ := a4.tok
      rw [ee] at R4
      refine ⟨_, rfl, p, dx, _, rfl, a4.cu.1, cuF_no (by decide +kernel) (by decide +kernel), p, dx, f, ts, j4, e, rfl, a4.cu, he, fun c => ?_, fun c => ?_⟩
      · have ew : endW (e :: ts.drop (j4 + 1)) = .ok () (e :: ts.drop (j4 + 1)) := if_pos c
        rw [ew] at R4
        have R4 : Ret K p dx f ts G Q E (.ok (.tuple [.tuple acc, d4]) (e :: ts.drop (j4 + 1))) := R4
        rw [← ee] at R4
        refine ⟨_, rfl, u, _, rfl, .inl ⟨SqL.of hu4, fun q nq => ?_⟩⟩
        refine ⟨_, rfl, (by show 2 ≤ sizeLine; decide), fun q2 nq2 => ?_⟩
        have a5 := a4.new (o := .tup xs) nq
        have tt : Tr (upd G4 q (.tup xs)) (.ref q) (.tuple acc) := .tup upd_same (tr4.keep (TK.new nq))
        exact R4.ok _ _ _ _ rfl ((fr4.trans (Fr.new nq)).trans (Fr.new nq2)) (a5.new nq2) (.tup upd_same ((Trs.cons tt (.cons (t4.keep (TK.new nq)) .nil)).keep (TK.new nq2)))
      · have ew : endW (e :: ts.drop (j4 + 1)) = .no e.row e.col := if_neg c
        rw [ew] at R4
        exact R4.no _ _ _ rfl fr4
    · rw [if_neg (by simpa using c)] at R2
      have R2 : Ret K p dx f ts G Q E ((itemP FU (ts.drop j)).bind fun x r => (itemsLoop FU m (acc ++ [x]) r).bind fun items l => ((ps FU).body l).bind fun b l => (endW l).bind fun _ l => .ok (.tuple [items, b]) l) := by
        have assoc : ∀ (x : Rs PyData) (f1 : PyData → List Tk → Rs PyData) (f2 : PyData → List Tk → Rs PyData), (x.bind f1).bind f2 = x.bind fun d r => (f1 d r).bind f2 := fun x f1 f2 => by cases x <;> rfl
        rw [assoc] at R2
        exact R2
      refine ⟨_, rfl, .inl ⟨rfl, _, SqL.of hu⟩, _, rfl, p, dx, f, ts, j, rfl, a2, Ret.call0 R2 fr2 fun d j3 v G3 k3 a3 t3 R3 => ?_⟩
      have hu3 := k3 _ _ up hu
      refine ⟨u, _, _, rfl, rfl, hu3, Nat.lt_of_le_of_lt (show xs.length ≤ LF by omega) (by decide), ?_⟩
      exact ⟨m, Nat.lt_succ_self m, j3, _, _, none, R3, (fr2.trans k3).put nu, a3.put hu3 uf, rfl, upd_same, ((tr.keep (a2.tk k3)).keep (TK.put hu3)).snoc (t3.keep (TK.put hu3)), by rw [List.length_append, List.length_singleton]; omega⟩
end
end Rm

/-! M6: rows of operators: the parser's loop climbs (plain Lean). -/
namespace Rm.K6
open PySem PySem.Spec PyProof.Rows L2 Lx
/-- a sign, the operand behind it: its tokens, its tree -/
abbrev Pr : Type := Tk × List Tk × PyData
def flat : List Pr → List Tk → List Tk
  | [], r => r
  | (t, ws, _) :: m, r => t :: (ws ++ flat m r)
def nd (s : List Nat) (l r : PyData) : PyData := .tuple [dS "op", dW s, l, r]
/-- what the loop does, of pairs -/
def climb : Nat → Int → PyData → List Pr → PyData × List Pr
  | 0, _, l, m => (l, m)
  | _ + 1, _, l, [] => (l, [])
  | k + 1, L, l, (t, ws, d) :: m => if L ≤ lev t.text then
      (if lev t.text = 1 then (nd t.text l (climb k (lev t.text + 1) d m).1, (climb k (lev t.text + 1) d m).2)
        else climb k L (nd t.text l (climb k (lev t.text + 1) d m).1) (climb k (lev t.text + 1) d m).2)
    else (l, (t, ws, d) :: m)
/-- each operand is read wherever it stands in the row -/
def Good (n0 : Nat) : List Pr → List Tk → Prop
  | [], _ => True
  | (_, ws, d) :: m, r => (∀ n, n0 ≤ n → (ps n).post (ws ++ flat m r) = .ok d (flat m r)) ∧ Good n0 m r
theorem climb_len : ∀ (k : Nat) (L : Int) (l : PyData) (m : List Pr), (climb k L l m).2.length ≤ m.length
  | 0, _, _, _ => Nat.le_refl _
  | _ + 1, _, _, [] => Nat.le_refl _
  | k + 1, L, l, (t, ws, d) :: m => by
    have h1 := climb_len k (lev t.text + 1) d m
    have h2 := climb_len k L (nd t.text l (climb k (lev t.text + 1) d m).1) (climb k (lev t.text + 1) d m).2
    unfold climb
    split
    · split
      · exact Nat.le_succ_of_le h1
      · exact Nat.le_succ_of_le (Nat.le_trans h2 h1)
    · exact Nat.le_refl _
theorem climb_good {n0 : Nat} {r : List Tk} : ∀ (k : Nat) (L : Int) (l : PyData) (m : List Pr), Good n0 m r → Good n0 (climb k L l m).2 r
  | 0, _, _, _, h => h
  | _ + 1, _, _, [], h => h
  | k + 1, L, l, (t, ws, d) :: m, h => by
    have h1 := climb_good k (lev t.text + 1) d m h.2
    have h2 := climb_good k L (nd t.text l (climb k (lev t.text + 1) d m).1) (climb k (lev t.text + 1) d m).2 h1
    unfold climb
    split
    · split
      · exact h1
      · exact h2
    · exact h
theorem lev_le (x : List Nat) : 0 ≤ lev x ∧ lev x ≤ 3 := by
  unfold lev
  split
  · omega
  split
  · omega
  split <;> omega
/-- the loop climbs -/
theorem loop_climbs {n0 : Nat} {u : Tk} {r : List Tk} (hu : lev u.text = 0) : ∀ (k : Nat) (m : List Pr) (L : Int) (l : PyData) (K n : Nat), m.length < k → m.length < K → m.length < LF → 1 ≤ L → n0 + (4 - L).toNat ≤ n → Good n0 m (u :: r) →
    opsLoop (ps n).post (ps n).ops L K l (flat m (u :: r)) = .ok (climb k L l m).1 (flat (climb k L l m).2 (u :: r))
  | 0, m, L, l, K, n, h, _, _, _, _, _ => absurd h (Nat.not_lt_zero _)
  | k + 1, [], L, l, K, n, _, hK, _, hL, _, _ => by
    cases K with
    | zero => exact absurd hK (Nat.not_lt_zero _)
    | succ K =>
      show (if L ≤ lev u.text then _ else Rs.ok l (u :: r)) = _
      rw [if_neg (by omega)]
      rfl
  | k + 1, (t, ws, d) :: m, L, l, K, n, hk, hK, hF, hL, hn, hg => by
    cases K with
    | zero => exact absurd hK (Nat.not_lt_zero _)
    | succ K =>
      have hk : m.length < k := Nat.lt_of_succ_lt_succ hk
      have hK : m.length < K := Nat.lt_of_succ_lt_succ hK
      have hF : m.length < LF := Nat.lt_of_succ_lt hF
      show (if L ≤ lev t.text then ((ps n).post (ws ++ flat m (u :: r))).bind fun x l2 => ((ps n).ops x (lev t.text + 1) l2).bind fun right l3 =>
        if lev t.text = 1 then .ok (nd t.text l right) l3 else opsLoop (ps n).post (ps n).ops L K (nd t.text l right) l3 else .ok l (t :: (ws ++ flat m (u :: r)))) = _
      unfold climb
      by_cases c : L ≤ lev t.text
      · rw [if_pos c, if_pos c, hg.1 n (by omega)]
        have b := lev_le t.text
        cases n with
        | zero => omega
        | succ n =>
          have e : (ps (n + 1)).ops d (lev t.text + 1) (flat m (u :: r)) = .ok (climb k (lev t.text + 1) d m).1 (flat (climb k (lev t.text + 1) d m).2 (u :: r)) :=
            loop_climbs hu k m (lev t.text + 1) d LF n hk hF hF (by omega) (by omega) hg.2
          show (((ps (n + 1)).ops d (lev t.text + 1) (flat m (u :: r))).bind fun right l3 => if lev t.text = 1 then .ok (nd t.text l right) l3 else opsLoop (ps (n + 1)).post (ps (n + 1)).ops L K (nd t.text l right) l3) = _
          rw [e]
          show (if lev t.text = 1 then Rs.ok (nd t.text l (climb k (lev t.text + 1) d m).1) (flat (climb k (lev t.text + 1) d m).2 (u :: r)) else opsLoop (ps (n + 1)).post (ps (n + 1)).ops L K (nd t.text l (climb k (lev t.text + 1) d m).1) (flat (climb k (lev t.text + 1) d m).2 (u :: r))) = _
          by_cases c1 : lev t.text = 1
          · rw [if_pos c1, if_pos c1]
          · rw [if_neg c1, if_neg c1]
            have ln := climb_len k (lev t.text + 1) d m
            exact loop_climbs hu k _ L _ K (n + 1) (by omega) (by omega) (by omega) hL hn (climb_good k _ _ _ hg.2)
      · rw [if_neg c, if_neg c]
        rfl
end Rm.K6

/-! M6b: climbing, without fuel: split at the last sign of the lowest level. -/
namespace Rm.K6
open PySem PySem.Spec PyProof.Rows L2 Lx
theorem climb_fuel : ∀ (k k2 : Nat) (L : Int) (l : PyData) (m : List Pr), m.length < k → m.length < k2 → climb k L l m = climb k2 L l m
  | 0, _, _, _, _, h, _ => absurd h (Nat.not_lt_zero _)
  | _, 0, _, _, _, _, h => absurd h (Nat.not_lt_zero _)
  | k + 1, k2 + 1, L, l, [], _, _ => rfl
  | k + 1, k2 + 1, L, l, (t, ws, d) :: m, h, h2 => by
    have h := Nat.lt_of_succ_lt_succ h
    have h2 := Nat.lt_of_succ_lt_succ h2
    have ln := climb_len k (lev t.text + 1) d m
    unfold climb
    rw [climb_fuel k k2 (lev t.text + 1) d m h h2] at ln ⊢
    rw [climb_fuel k k2 L (nd t.text l (climb k2 (lev t.text + 1) d m).1) (climb k2 (lev t.text + 1) d m).2 (by omega) (by omega)]
def cl (L : Int) (l : PyData) (m : List Pr) : PyData × List Pr := climb (m.length + 1) L l m
theorem cl_nil (L : Int) (l : PyData) : cl L l [] = (l, []) := rfl
theorem cl_len (L : Int) (l : PyData) (m : List Pr) : (cl L l m).2.length ≤ m.length := climb_len _ _ _ _
theorem cl_cons (L : Int) (l : PyData) (t : Tk) (ws : List Tk) (d : PyData) (m : List Pr) : cl L l ((t, ws, d) :: m) = if L ≤ lev t.text then
      (if lev t.text = 1 then (nd t.text l (cl (lev t.text + 1) d m).1, (cl (lev t.text + 1) d m).2) else cl L (nd t.text l (cl (lev t.text + 1) d m).1) (cl (lev t.text + 1) d m).2)
    else (l, (t, ws, d) :: m) := by
  have ln := cl_len (lev t.text + 1) d m
  show climb (m.length + 1 + 1) L l ((t, ws, d) :: m) = _
  unfold climb
  rw [show climb (m.length + 1) (lev t.text + 1) d m = cl (lev t.text + 1) d m from rfl]
  rw [show climb (m.length + 1) L (nd t.text l (cl (lev t.text + 1) d m).1) (cl (lev t.text + 1) d m).2 = cl L (nd t.text l (cl (lev t.text + 1) d m).1) (cl (lev t.text + 1) d m).2 from climb_fuel _ _ _ _ _ (by omega) (Nat.lt_succ_self _)]
/-- the next sign is below L (or there is none) -/
def Below (L : Int) : List Pr → Prop
  | [] => True
  | (t, _, _) :: _ => lev t.text < L
theorem cl_below {L : Int} {l : PyData} : ∀ {m : List Pr}, Below L m → cl L l m = (l, m)
  | [], _ => rfl
  | (t, ws, d) :: m, h => by
    rw [cl_cons, if_neg]
    have h : lev t.text < L := h
    omega
theorem cl4 (l : PyData) (m : List Pr) : cl 4 l m = (l, m) := cl_below (by
  cases m with
  | nil => trivial
  | cons p m =>
    have := (lev_le p.1.text).2
    show lev p.1.text < 4
    omega)
def mul (l : PyData) (m : List Pr) : PyData := m.foldl (fun x p => nd p.1.text x p.2.2) l
def AllL (L : Int) (m : List Pr) : Prop := ∀ p ∈ m, L ≤ lev p.1.text
theorem AllL.cons {L : Int} {p : Pr} {m : List Pr} (h : AllL L (p :: m)) : L ≤ lev p.1.text ∧ AllL L m := ⟨h p List.mem_cons_self, fun q hq => h q (List.mem_cons_of_mem _ hq)⟩
theorem Below.mono {L M : Int} {m : List Pr} (h : Below L m) (k : L ≤ M) : Below M m := by
  cases m with
  | nil => trivial
  | cons p m =>
    have h : lev p.1.text < L := h
    show lev p.1.text < M
    omega
/-- signs of level 3, one behind another -/
theorem cl_mul : ∀ (A : List Pr) (L : Int) (l : PyData) (B : List Pr), AllL 3 A → 1 < L → L ≤ 3 → cl L l (A ++ B) = cl L (mul l A) B
  | [], _, _, _, _, _, _ => rfl
  | (t, ws, d) :: A, L, l, B, h, h1, h3 => by
    obtain ⟨a, r⟩ := h.cons
    have e : lev t.text = 3 := by
      have := (lev_le t.text).2
      have a : 3 ≤ lev t.text := a
      omega
    show cl L l ((t, ws, d) :: (A ++ B)) = _
    rw [cl_cons, if_pos (by omega), if_neg (by omega), e, show (3 : Int) + 1 = 4 from rfl, cl4]
    exact cl_mul A L _ B r h1 h3
theorem cl3 {A B : List Pr} (l : PyData) (h : AllL 3 A) (b : Below 3 B) : cl 3 l (A ++ B) = (mul l A, B) := by rw [cl_mul A 3 l B h (by decide) (by decide), cl_below b]
/-- the signs of level 3 at the beginning -/
theorem split3 : ∀ m : List Pr, ∃ A B, m = A ++ B ∧ AllL 3 A ∧ Below 3 B
  | [] => ⟨[], [], rfl, (fun _ h => by cases h), trivial⟩
  | p :: m => by
    by_cases h : 3 ≤ lev p.1.text
    · obtain ⟨A, B, e, a, b⟩ := split3 m
      refine ⟨p :: A, B, by rw [e]; rfl, fun q hq => ?_, b⟩
      rcases List.mem_cons.mp hq with rfl | hq
      · exact h
      · exact a q hq
    · exact ⟨[], p :: m, rfl, (fun _ h => by cases h), by show lev p.1.text < 3; omega⟩
/-- of a row that begins with signs above 1, what follows it below 2 stays -/
theorem cl2_app : ∀ (n : Nat) (A : List Pr) (l : PyData) (B : List Pr), A.length ≤ n → AllL 2 A → Below 2 B → cl 2 l (A ++ B) = ((cl 2 l A).1, B) ∧ (cl 2 l A).2 = []
  | _, [], l, B, _, _, b => ⟨cl_below b, rfl⟩
  | 0, _ :: _, _, _, h, _, _ => absurd h (Nat.not_succ_le_zero _)
  | n + 1, (t, ws, d) :: A, l, B, h, a, b => by
    obtain ⟨a1, a2⟩ := a.cons
    have a1 : 2 ≤ lev t.text := a1
    have hl := (lev_le t.text).2
    have hA : A.length ≤ n := Nat.le_of_succ_le_succ h
    show cl 2 l ((t, ws, d) :: (A ++ B)) = _ ∧ _
    rw [cl_cons, cl_cons, if_pos a1, if_pos a1, if_neg (by omega), if_neg (by omega)]
    rcases (show lev t.text = 2 ∨ lev t.text = 3 by omega) with e | e
    · obtain ⟨A1, A2, eA, m1, m2⟩ := split3 A
      have b2 : Below 3 (A2 ++ B) := by
        cases A2 with
        | nil => exact b.mono (by decide)
        | cons p q => exact m2
      have e1 : cl 3 d A = (mul d A1, A2) := by rw [eA]; exact cl3 d m1 m2
      have e2 : cl 3 d (A ++ B) = (mul d A1, A2 ++ B) := by rw [eA, List.append_assoc]; exact cl3 d m1 b2
      rw [e, show (2 : Int) + 1 = 3 from rfl, e1, e2]
      have lA : A2.length ≤ n := by
        have := congrArg List.length eA
        rw [List.length_append] at this
        omega
      exact cl2_app n A2 _ B lA (fun p hp => a2 p (by rw [eA]; exact List.mem_append_right _ hp)) b
    · rw [e, show (3 : Int) + 1 = 4 from rfl, cl4, cl4]
      exact cl2_app n A _ B hA a2 b
/-- split at the last sign of level 2 -/
theorem cl2_last : ∀ (n : Nat) (A : List Pr) (l : PyData) (t : Tk) (ws : List Tk) (d : PyData) (B : List Pr), A.length ≤ n → AllL 2 A → lev t.text = 2 → AllL 3 B → (cl 2 l (A ++ (t, ws, d) :: B)).1 = nd t.text (cl 2 l A).1 (mul d B)
  | _, [], l, t, ws, d, B, _, _, e, b => by
    have e3 : cl 3 d B = (mul d B, []) := by
      have := cl3 (B := []) d b trivial
      rwa [List.append_nil] at this
    show (cl 2 l ((t, ws, d) :: B)).1 = _
    rw [cl_cons, if_pos (by omega), if_neg (by omega), e, show (2 : Int) + 1 = 3 from rfl, e3]
    rfl
  | 0, _ :: _, _, _, _, _, _, h, _, _, _ => absurd h (Nat.not_succ_le_zero _)
  | n + 1, (t1, ws1, d1) :: A, l, t, ws, d, B, h, a, e, b => by
    obtain ⟨a1, a2⟩ := a.cons
    have a1 : 2 ≤ lev t1.text := a1
    have hl := (lev_le t1.text).2
    have hA : A.length ≤ n := Nat.le_of_succ_le_succ h
    show (cl 2 l ((t1, ws1, d1) :: (A ++ (t, ws, d) :: B))).1 = _
    rw [cl_cons, cl_cons, if_pos a1, if_pos a1, if_neg (by omega), if_neg (by omega)]
    rcases (show lev t1.text = 2 ∨ lev t1.text = 3 by omega) with e1 | e1
    · obtain ⟨A1, A2, eA, m1, m2⟩ := split3 A
      have b2 : Below 3 (A2 ++ (t, ws, d) :: B) := by
        cases A2 with
        | nil => show lev t.text < 3; omega
        | cons p q => exact m2
      have q1 : cl 3 d1 A = (mul d1 A1, A2) := by rw [eA]; exact cl3 d1 m1 m2
      have q2 : cl 3 d1 (A ++ (t, ws, d) :: B) = (mul d1 A1, A2 ++ (t, ws, d) :: B) := by rw [eA, List.append_assoc]; exact cl3 d1 m1 b2
      rw [e1, show (2 : Int) + 1 = 3 from rfl, q1, q2]
      have lA : A2.length ≤ n := by
        have := congrArg List.length eA
        rw [List.length_append] at this
        omega
      exact cl2_last n A2 _ t ws d B lA (fun p hp => a2 p (by rw [eA]; exact List.mem_append_right _ hp)) e b
    · rw [e1, show (3 : Int) + 1 = 4 from rfl, cl4, cl4]
      exact cl2_last n A _ t ws d B hA a2 e b
/-- without a comparison level 1 is level 2 -/
theorem cl1_eq2 : ∀ (n : Nat) (A : List Pr) (l : PyData), A.length ≤ n → AllL 2 A → cl 1 l A = cl 2 l A
  | _, [], _, _, _ => rfl
  | 0, _ :: _, _, h, _ => absurd h (Nat.not_succ_le_zero _)
  | n + 1, (t, ws, d) :: A, l, h, a => by
    obtain ⟨a1, a2⟩ := a.cons
    have a1 : 2 ≤ lev t.text := a1
    have ln := cl_len (lev t.text + 1) d A
    have hA : A.length ≤ n := Nat.le_of_succ_le_succ h
    rw [cl_cons, cl_cons, if_pos (by omega), if_pos a1, if_neg (by omega), if_neg (by omega)]
    have suf : ∃ C, A = C ++ (cl (lev t.text + 1) d A).2 := by
      rcases (show lev t.text = 2 ∨ lev t.text = 3 by have := (lev_le t.text).2; omega) with e | e
      · obtain ⟨A1, A2, eA, m1, m2⟩ := split3 A
        rw [e, show (2 : Int) + 1 = 3 from rfl]
        refine ⟨A1, ?_⟩
        have q1 : cl 3 d A = (mul d A1, A2) := by rw [eA]; exact cl3 d m1 m2
        rw [q1]
        exact eA
      · rw [e, show (3 : Int) + 1 = 4 from rfl, cl4]
        exact ⟨[], rfl⟩
    obtain ⟨C, eC⟩ := suf
    exact cl1_eq2 n _ _ (by omega) fun p hp => a2 p (by rw [eC]; exact List.mem_append_right _ hp)
/-- split at the comparison: what stands behind a second one is left -/
theorem cl1_cmp : ∀ (n : Nat) (A : List Pr) (l : PyData) (t : Tk) (ws : List Tk) (d : PyData) (B R : List Pr), A.length ≤ n → AllL 2 A → lev t.text = 1 → AllL 2 B → Below 2 R → cl 1 l (A ++ (t, ws, d) :: (B ++ R)) = (nd t.text (cl 2 l A).1 (cl 2 d B).1, R)
  | _, [], l, t, ws, d, B, R, _, _, e, b, r => by
    show cl 1 l ((t, ws, d) :: (B ++ R)) = _
    rw [cl_cons, if_pos (by omega), if_pos e, e, show (1 : Int) + 1 = 2 from rfl, (cl2_app _ B d R (Nat.le_refl _) b r).1]
    rfl
  | 0, _ :: _, _, _, _, _, _, _, h, _, _, _, _ => absurd h (Nat.not_succ_le_zero _)
  | n + 1, (t1, ws1, d1) :: A, l, t, ws, d, B, R, h, a, e, b, r => by
    obtain ⟨a1, a2⟩ := a.cons
    have a1 : 2 ≤ lev t1.text := a1
    have hl := (lev_le t1.text).2
    have hA : A.length ≤ n := Nat.le_of_succ_le_succ h
    show cl 1 l ((t1, ws1, d1) :: (A ++ (t, ws, d) :: (B ++ R))) = _
    rw [cl_cons, cl_cons, if_pos (by omega), if_pos a1, if_neg (by omega), if_neg (by omega)]
    rcases (show lev t1.text = 2 ∨ lev t1.text = 3 by omega) with e1 | e1
    · obtain ⟨A1, A2, eA, m1, m2⟩ := split3 A
      have b2 : Below 3 (A2 ++ (t, ws, d) :: (B ++ R)) := by
        cases A2 with
        | nil => show lev t.text < 3; omega
        | cons p q => exact m2
      have q1 : cl 3 d1 A = (mul d1 A1, A2) := by rw [eA]; exact cl3 d1 m1 m2
      have q2 : cl 3 d1 (A ++ (t, ws, d) :: (B ++ R)) = (mul d1 A1, A2 ++ (t, ws, d) :: (B ++ R)) := by rw [eA, List.append_assoc]; exact cl3 d1 m1 b2
      rw [e1, show (2 : Int) + 1 = 3 from rfl, q1, q2]
      have lA : A2.length ≤ n := by
        have := congrArg List.length eA
        rw [List.length_append] at this
        omega
      exact cl1_cmp n A2 _ t ws d B R lA (fun p hp => a2 p (by rw [eA]; exact List.mem_append_right _ hp)) e b r
    · rw [e1, show (3 : Int) + 1 = 4 from rfl, cl4, cl4]
      exact cl1_cmp n A _ t ws d B R hA a2 e b r
theorem mul_snoc (l : PyData) (A : List Pr) (p : Pr) : mul l (A ++ [p]) = nd p.1.text (mul l A) p.2.2 := by
  unfold mul
  rw [List.foldl_append]
  rfl
end Rm.K6

/-! M6c: the operands of rows, read wherever they stand. -/
namespace Rm.K6
open PySem PySem.Spec PyProof.Rows L2 Lx
/-- no own dot follows, no parenthesis -/
def Calm (l : List Tk) : Prop := isW "." l = false ∧ isW "(" l = false
theorem Calm.dot {l : List Tk} (h : Calm l) : hasDot l = false := by
  obtain ⟨h, _⟩ := h
  cases l with
  | nil => rfl
  | cons t l =>
    have h : decide (t.text = codes ".") = false := h
    cases l with
    | nil => rfl
    | cons u l =>
      cases l with
      | nil => rfl
      | cons v l =>
        have h : decide (t.text = codes ".") = false := h
        show (decide (t.text = codes ".") && _) = false
        rw [h]
        rfl
theorem LF_succ : ∃ k, LF = k + 1 := ⟨LF - 1, by unfold LF; omega⟩
theorem post_of {n : Nat} {l r : List Tk} {d : PyData} (h : (ps n).prim l = .ok d r) (c : hasDot r = false) : (ps (n + 1)).post l = .ok d r := by
  show ((ps n).prim l).bind (fun x l => postLoop (ps n).rowW LF x l) = _
  rw [h]
  obtain ⟨k, e⟩ := LF_succ
  show postLoop (ps n).rowW LF d r = _
  rw [e]
  show (if hasDot r then _ else Rs.ok d r) = _
  rw [c]
  rfl
theorem prim_num {n : Nat} {t : Tk} {r : List Tk} (h : t.kind = .number) : (ps (n + 1)).prim (t :: r) = .ok (.tuple [dS "num", .int (val t.text)]) r := if_pos h
/-- a name that stands alone -/
def nameOk (t : Tk) : Bool := decide (t.kind = .name) && (!decide (t.text ∈ constL) && (!decide (t.text = codes "(") && (!decide (t.text = codes "object") && (!decide (t.text = codes "fn") && !decide (t.text = codes "resend")))))
theorem prim_name0 {n : Nat} {t : Tk} {r : List Tk} (h : nameOk t = true) : (ps (n + 1)).prim (t :: r) = if isW "(" r then ((ps n).rowW r).bind fun as l => .ok (.tuple [dS "own", dW t.text, as]) l else .ok (.tuple [dS "name", dW t.text]) r := by
  unfold nameOk at h
  simp only [Bool.and_eq_true, decide_eq_true_eq, Bool.not_eq_true', decide_eq_false_iff_not] at h
  obtain ⟨h1, h2, h3, h4, h5, h6⟩ := h
  show (if t.kind = .number then _ else if t.text ∈ constL then _ else if t.text = codes "(" then _ else if t.text = codes "object" then _ else if t.text = codes "fn" then _ else if t.text = codes "resend" then _ else (nameW (t :: r)).bind _) = _
  rw [if_neg (by rw [h1]; intro z; cases z), if_neg h2, if_neg h3, if_neg h4, if_neg h5, if_neg h6]
  have e : nameW (t :: r) = .ok t.text r := if_pos h1
  rw [e]
  rfl
theorem prim_const {n : Nat} {t : Tk} {r : List Tk} (h : t.kind ≠ .number) (c : t.text ∈ constL) : (ps (n + 1)).prim (t :: r) = .ok (.tuple [dW t.text]) r := by
  show (if t.kind = .number then _ else if t.text ∈ constL then _ else _) = _
  rw [if_neg h, if_pos c]
/-- a row of no part -/
theorem rowW_nil {n : Nat} {a b : Tk} {r : List Tk} (ha : a.text = codes "(") (hb : b.text = codes ")") : (ps (n + 1)).rowW (a :: b :: r) = .ok (.tuple []) r := by
  show (wantW "(" (a :: b :: r)).bind _ = _
  have e : wantW "(" (a :: b :: r) = .ok () (b :: r) := if_pos ha
  rw [e]
  show (if isW ")" (b :: r) then _ else _) = _
  rw [show isW ")" (b :: r) = true from decide_eq_true hb]
  rfl
/-- a row of one part -/
theorem rowW_one {n : Nat} {a b : Tk} {l r : List Tk} {d : PyData} (ha : a.text = codes "(") (hb : b.text = codes ")") (hl : isW ")" l = false) (hw : (ps n).whole l = .ok d (b :: r)) : (ps (n + 1)).rowW (a :: l) = .ok (.tuple [d]) r := by
  show (wantW "(" (a :: l)).bind _ = _
  have e : wantW "(" (a :: l) = .ok () l := if_pos ha
  rw [e]
  show (if isW ")" l then _ else ((ps n).whole l).bind fun x l => rowLoop (ps n).whole LF [x] l) = _
  rw [hl, hw]
  obtain ⟨k, eL⟩ := LF_succ
  show rowLoop (ps n).whole LF [d] (b :: r) = _
  rw [eL]
  show (if isW "," (b :: r) then ((ps n).whole (b :: r).tail).bind (fun x r => rowLoop (ps n).whole k ([d] ++ [x]) r) else (wantW ")" (b :: r)).bind fun _ r => Rs.ok (PyData.tuple [d]) r) = _
  have nc : isW "," (b :: r) = false := decide_eq_false fun z => by
    rw [hb] at z
    exact absurd z (by decide)
  have ew : wantW ")" (b :: r) = .ok () r := if_pos hb
  rw [nc, ew]
  rfl
theorem ops_stop {post : Pf} {ops : PyData → Int → Pf} {L : Int} {k : Nat} {d : PyData} {b : Tk} {r : List Tk} (h : lev b.text < L) : opsLoop post ops L (k + 1) d (b :: r) = .ok d (b :: r) := by
  show (if L ≤ lev b.text then _ else Rs.ok d (b :: r)) = _
  rw [if_neg (by omega)]
theorem whole_eq (n : Nat) (l : List Tk) : (ps (n + 1)).whole l = ((ps n).post l).bind fun x l => (ps n).ops x 1 l := rfl
theorem ops_eq (n : Nat) (d : PyData) (L : Int) (l : List Tk) : (ps (n + 1)).ops d L l = opsLoop (ps n).post (ps n).ops L LF d l := by
  show (psStep (ps n)).ops d L l = _
  unfold psStep
  exact (Eq.refl _)
/-- one operand before a closing parenthesis -/
theorem whole_one {n : Nat} {b : Tk} {l r : List Tk} {d : PyData} (hb : b.text = codes ")") (h : (ps (n + 1)).post l = .ok d (b :: r)) : (ps (n + 2)).whole l = .ok d (b :: r) := by
  have z : lev b.text < 1 := by
    rw [hb]
    decide +kernel
  obtain ⟨k, eL⟩ := LF_succ
  have q : (ps (n + 1)).ops d 1 (b :: r) = .ok d (b :: r) := by
    rw [ops_eq, eL]
    exact ops_stop z
  rw [whole_eq, h]
  exact q
theorem post_eq (n : Nat) (l : List Tk) : (ps (n + 1)).post l = ((ps n).prim l).bind fun x l => postLoop (ps n).rowW LF x l := rfl
theorem postLoop_stop {row : Pf} {k : Nat} {d : PyData} {l : List Tk} (h : hasDot l = false) : postLoop row (k + 1) d l = .ok d l := by
  unfold postLoop
  rw [h]
  rfl
/-- a send (or a call) behind what was read -/
def sendD (d : PyData) (w : List Nat) (as : PyData) : PyData := if w = codes "call" then .tuple [dS "call", d, as] else .tuple [dS "send", d, dW w, as]
theorem postLoop_dot {row : Pf} {k : Nat} {d as : PyData} {a t u : Tk} {l r : List Tk} (ha : a.text = codes ".") (ht : t.kind = .name ∨ t.text = codes "call") (hu : u.text = codes "(") (hr : row (u :: l) = .ok as r) :
    postLoop row (k + 1) d (a :: t :: u :: l) = postLoop row k (sendD d t.text as) r := by
  have h : hasDot (a :: t :: u :: l) = true := by
    show (decide (a.text = codes ".") && ((decide (t.kind = .name) || decide (t.text = codes "call")) && decide (u.text = codes "("))) = true
    rw [decide_eq_true ha, decide_eq_true hu]
    rcases ht with z | z
    · rw [decide_eq_true z]
      rfl
    · rw [decide_eq_true z, Bool.or_true]
      rfl
  have e : postLoop row (k + 1) d (a :: t :: u :: l) = if hasDot (a :: t :: u :: l) then (row (u :: l)).bind fun args l => postLoop row k (sendD d t.text args) l else .ok d (a :: t :: u :: l) := rfl
  rw [e, h, if_pos rfl, hr]
  rfl
/-- one send behind a primary -/
theorem post_send {n : Nat} {d as : PyData} {a t u : Tk} {l0 l r : List Tk} (hp : (ps n).prim l0 = .ok d (a :: t :: u :: l)) (ha : a.text = codes ".") (ht : t.kind = .name ∨ t.text = codes "call") (hu : u.text = codes "(") (hr : (ps n).rowW (u :: l) = .ok as r) (c : hasDot r = false) :
    (ps (n + 1)).post l0 = .ok (sendD d t.text as) r := by
  have two : ∃ k, LF = k + 1 + 1 := ⟨LF - 2, by unfold LF; omega⟩
  obtain ⟨k, e⟩ := two
  rw [post_eq, hp]
  show postLoop (ps n).rowW LF d (a :: t :: u :: l) = _
  rw [e, postLoop_dot ha ht hu hr, postLoop_stop c]
/-- a name with a row behind it -/
theorem prim_own {n : Nat} {t u : Tk} {as : PyData} {l r : List Tk} (h : nameOk t = true) (hu : u.text = codes "(") (hr : (ps n).rowW (u :: l) = .ok as r) : (ps (n + 1)).prim (t :: u :: l) = .ok (.tuple [dS "own", dW t.text, as]) r := by
  rw [prim_name0 h, show isW "(" (u :: l) = true from decide_eq_true hu, if_pos rfl, hr]
  rfl
theorem prim_name {n : Nat} {t : Tk} {r : List Tk} (h : nameOk t = true) (c : isW "(" r = false) : (ps (n + 1)).prim (t :: r) = .ok (.tuple [dS "name", dW t.text]) r := by
  rw [prim_name0 h, c]
  rfl
end Rm.K6

/-! M6d: the five operands that the law writes. -/
namespace Rm.K6
open PySem PySem.Spec PyProof.Rows L2 Lx
def numD (w : List Nat) : PyData := .tuple [dS "num", .int (val w)]
def nameD (w : List Nat) : PyData := .tuple [dS "name", dW w]
theorem close_dot {b : Tk} {r : List Tk} (hb : b.text = codes ")") : hasDot (b :: r) = false := by
  have h : decide (b.text = codes ".") = false := decide_eq_false fun z => by
    rw [hb] at z
    exact absurd z (by decide)
  cases r with
  | nil => rfl
  | cons u l =>
    cases l with
    | nil => rfl
    | cons v l =>
      show (decide (b.text = codes ".") && _) = false
      rw [h]
      rfl
theorem dot_paren {a : Tk} {r : List Tk} (ha : a.text = codes ".") : isW "(" (a :: r) = false := decide_eq_false fun z => by
  rw [ha] at z
  exact absurd z (by decide)
variable {n : Nat} {t a m u v b c : Tk} {r : List Tk}
theorem opd_num (h : t.kind = .number) (q : Calm r) : (ps (n + 2)).post (t :: r) = .ok (numD t.text) r := post_of (prim_num h) q.dot
theorem opd_name (h : nameOk t = true) (q : Calm r) : (ps (n + 2)).post (t :: r) = .ok (nameD t.text) r := post_of (prim_name h q.2) q.dot
theorem num_in (hv : v.kind = .number) (hb : b.text = codes ")") : (ps (n + 3)).whole (v :: b :: r) = .ok (numD v.text) (b :: r) := whole_one hb (post_of (prim_num hv) (close_dot hb))
theorem const_in (hv : v.kind ≠ .number) (hc : v.text ∈ constL) (hb : b.text = codes ")") : (ps (n + 3)).whole (v :: b :: r) = .ok (.tuple [dW v.text]) (b :: r) := whole_one hb (post_of (prim_const hv hc) (close_dot hb))
/-- name.at(number) -/
theorem opd_at (h : nameOk t = true) (ha : a.text = codes ".") (hm : m.kind = .name) (hm2 : m.text ≠ codes "call") (hu : u.text = codes "(") (hv : v.kind = .number) (hv2 : v.text ≠ codes ")") (hb : b.text = codes ")") (q : Calm r) :
    (ps (n + 5)).post (t :: a :: m :: u :: v :: b :: r) = .ok (.tuple [dS "send", nameD t.text, dW m.text, .tuple [numD v.text]]) r := by
  have hr : (ps (n + 4)).rowW (u :: v :: b :: r) = .ok (.tuple [numD v.text]) r := rowW_one hu hb (decide_eq_false hv2) (num_in hv hb)
  have e := post_send (prim_name (n := n + 3) h (dot_paren (r := m :: u :: v :: b :: r) ha)) ha (.inl hm) hu hr q.dot
  unfold sendD at e
  rw [if_neg hm2] at e
  exact e
/-- self.call() -/
theorem opd_call (h : t.kind ≠ .number) (hc : t.text ∈ constL) (ha : a.text = codes ".") (hm : m.text = codes "call") (hu : u.text = codes "(") (hb : b.text = codes ")") (q : Calm r) :
    (ps (n + 2)).post (t :: a :: m :: u :: b :: r) = .ok (.tuple [dS "call", .tuple [dW t.text], .tuple []]) r := by
  have e := post_send (prim_const (n := n) h hc) ha (.inr hm) hu (rowW_nil (r := r) hu hb) q.dot
  unfold sendD at e
  rw [if_pos hm] at e
  exact e
/-- name(true).x() -/
theorem opd_own {a2 m2 u2 b2 : Tk} (h : nameOk t = true) (hu : u.text = codes "(") (hv : v.kind ≠ .number) (hc : v.text ∈ constL) (hv2 : v.text ≠ codes ")") (hb : b.text = codes ")") (ha : a2.text = codes ".") (hm : m2.kind = .name) (hm2 : m2.text ≠ codes "call")
    (hu2 : u2.text = codes "(") (hb2 : b2.text = codes ")") (q : Calm r) :
    (ps (n + 6)).post (t :: u :: v :: b :: a2 :: m2 :: u2 :: b2 :: r) = .ok (.tuple [dS "send", .tuple [dS "own", dW t.text, .tuple [.tuple [dW v.text]]], dW m2.text, .tuple []]) r := by
  have hr : (ps (n + 4)).rowW (u :: v :: b :: a2 :: m2 :: u2 :: b2 :: r) = .ok (.tuple [.tuple [dW v.text]]) (a2 :: m2 :: u2 :: b2 :: r) := rowW_one hu hb (decide_eq_false hv2) (const_in hv hc hb)
  have e := post_send (prim_own (n := n + 4) h hu hr) ha (.inl hm) hu2 (rowW_nil (n := n + 4) (r := r) hu2 hb2) q.dot
  unfold sendD at e
  rw [if_neg hm2] at e
  exact e
end Rm.K6

/-! M6e: operands by their words. -/
namespace Rm.K6
open PySem PySem.Spec PyProof.Rows L2 Lx
abbrev Wd : Type := Kd × List Nat
def wd (t : Tk) : Wd := (t.kind, t.text)
/-- tokens of these words, wherever they stand, are read as d -/
def Reads (W : List Wd) (d : PyData) : Prop := ∀ (ws : List Tk), ws.map wd = W → ∀ r, Calm r → ∀ n, 6 ≤ n → (ps n).post (ws ++ r) = .ok d r
theorem wd_eq {t : Tk} {k : Kd} {w : List Nat} (h : wd t = (k, w)) : t.kind = k ∧ t.text = w := ⟨congrArg Prod.fst h, congrArg Prod.snd h⟩
theorem wds {ws : List Tk} {x : Wd} {xs : List Wd} (h : ws.map wd = x :: xs) : ∃ t ts, ws = t :: ts ∧ wd t = x ∧ ts.map wd = xs := by
  cases ws with
  | nil => cases h
  | cons t ts =>
    rw [List.map_cons] at h
    obtain ⟨h1, h2⟩ := List.cons.inj h
    exact ⟨t, ts, rfl, h1, h2⟩
theorem wds0 {ws : List Tk} (h : ws.map wd = []) : ws = [] := List.map_eq_nil_iff.mp h
def nameW6 (w : List Nat) : Bool := !decide (w ∈ constL) && (!decide (w = codes "(") && (!decide (w = codes "object") && (!decide (w = codes "fn") && !decide (w = codes "resend"))))
theorem nameOk_of {t : Tk} {w : List Nat} (h : wd t = (.name, w)) (k : nameW6 w = true) : nameOk t = true := by
  obtain ⟨h1, h2⟩ := wd_eq h
  unfold nameOk
  rw [h1, h2, decide_eq_true rfl, Bool.true_and]
  exact k
theorem reads_num (w : List Nat) : Reads [(.number, w)] (numD w) := fun ws h r q n hn => by
  obtain ⟨t, ts, rfl, h1, h2⟩ := wds h
  obtain rfl := wds0 h2
  obtain ⟨k, e⟩ := wd_eq h1
  obtain ⟨m, rfl⟩ : ∃ m, n = m + 2 := ⟨n - 2, by omega⟩
  rw [← e]
  exact opd_num k q
theorem reads_name {w : List Nat} (hw : nameW6 w = true) : Reads [(.name, w)] (nameD w) := fun ws h r q n hn => by
  obtain ⟨t, ts, rfl, h1, h2⟩ := wds h
  obtain rfl := wds0 h2
  obtain ⟨k, e⟩ := wd_eq h1
  obtain ⟨m, rfl⟩ : ∃ m, n = m + 2 := ⟨n - 2, by omega⟩
  have ok := nameOk_of h1 hw
  rw [← e]
  exact opd_name ok q
theorem reads_at {w v : List Nat} (hw : nameW6 w = true) (hv : v ≠ codes ")") : Reads [(.name, w), (.sign, codes "."), (.name, codes "at"), (.sign, codes "("), (.number, v), (.sign, codes ")")] (.tuple [dS "send", nameD w, dW (codes "at"), .tuple [numD v]]) := fun ws h r q n hn => by
  obtain ⟨t1, _, rfl, h1, h⟩ := wds h
  obtain ⟨t2, _, rfl, h2, h⟩ := wds h
  obtain ⟨t3, _, rfl, h3, h⟩ := wds h
  obtain ⟨t4, _, rfl, h4, h⟩ := wds h
  obtain ⟨t5, _, rfl, h5, h⟩ := wds h
  obtain ⟨t6, _, rfl, h6, h⟩ := wds h
  obtain rfl := wds0 h
  obtain ⟨m, rfl⟩ : ∃ m, n = m + 5 := ⟨n - 5, by omega⟩
  have e := opd_at (n := m) (nameOk_of h1 hw) (wd_eq h2).2 (wd_eq h3).1 (by rw [(wd_eq h3).2]; decide) (wd_eq h4).2 (wd_eq h5).1 (by rw [(wd_eq h5).2]; exact hv) (wd_eq h6).2 q
  rw [(wd_eq h1).2, (wd_eq h3).2, (wd_eq h5).2] at e
  exact e
theorem reads_call : Reads [(.keyword, codes "self"), (.sign, codes "."), (.keyword, codes "call"), (.sign, codes "("), (.sign, codes ")")] (.tuple [dS "call", .tuple [dW (codes "self")], .tuple []]) := fun ws h r q n hn => by
  obtain ⟨t1, _, rfl, h1, h⟩ := wds h
  obtain ⟨t2, _, rfl, h2, h⟩ := wds h
  obtain ⟨t3, _, rfl, h3, h⟩ := wds h
  obtain ⟨t4, _, rfl, h4, h⟩ := wds h
  obtain ⟨t5, _, rfl, h5, h⟩ := wds h
  obtain rfl := wds0 h
  obtain ⟨m, rfl⟩ : ∃ m, n = m + 2 := ⟨n - 2, by omega⟩
  have e := opd_call (n := m) (t := t1) (by rw [(wd_eq h1).1]; intro z; cases z) (by rw [(wd_eq h1).2]; decide +kernel) (wd_eq h2).2 (wd_eq h3).2 (wd_eq h4).2 (wd_eq h5).2 q
  rw [(wd_eq h1).2] at e
  exact e
theorem reads_own {w : List Nat} (hw : nameW6 w = true) : Reads [(.name, w), (.sign, codes "("), (.keyword, codes "true"), (.sign, codes ")"), (.sign, codes "."), (.name, codes "x"), (.sign, codes "("), (.sign, codes ")")]
    (.tuple [dS "send", .tuple [dS "own", dW w, .tuple [.tuple [dW (codes "true")]]], dW (codes "x"), .tuple []]) := fun ws h r q n hn => by
  obtain ⟨t1, _, rfl, h1, h⟩ := wds h
  obtain ⟨t2, _, rfl, h2, h⟩ := wds h
  obtain ⟨t3, _, rfl, h3, h⟩ := wds h
  obtain ⟨t4, _, rfl, h4, h⟩ := wds h
  obtain ⟨t5, _, rfl, h5, h⟩ := wds h
  obtain ⟨t6, _, rfl, h6, h⟩ := wds h
  obtain ⟨t7, _, rfl, h7, h⟩ := wds h
  obtain ⟨t8, _, rfl, h8, h⟩ := wds h
  obtain rfl := wds0 h
  obtain ⟨m, rfl⟩ : ∃ m, n = m + 6 := ⟨n - 6, by omega⟩
  have e := opd_own (n := m) (nameOk_of h1 hw) (wd_eq h2).2 (v := t3) (by rw [(wd_eq h3).1]; intro z; cases z) (by rw [(wd_eq h3).2]; decide +kernel) (by rw [(wd_eq h3).2]; decide) (wd_eq h4).2 (wd_eq h5).2 (wd_eq h6).1 (by rw [(wd_eq h6).2]; decide) (wd_eq h7).2 (wd_eq h8).2 q
  rw [(wd_eq h1).2, (wd_eq h3).2, (wd_eq h6).2] at e
  exact e
end Rm.K6

/-! M6f: texts of words and gaps; rows of operands; what parse_expr gives of them. -/
namespace Rm.K6
open PySem PySem.Spec PyProof.Rows L2 Lx
/-! ### chains of words that touch one another -/
def catW : List Wd → List Nat
  | [] => []
  | x :: l => x.2 ++ catW l
def adjB (x : Wd) : List Wd → Bool
  | [] => true
  | y :: _ => aloneW x.2 || aloneW y.2
def chainB : List Wd → Bool
  | [] => true
  | x :: l => goodTok x.1 x.2 && (!decide (10 ∈ x.2) && (adjB x l && chainB l))
theorem headOk_alone {w r : List Nat} (h : aloneW w = true) : headOk (w ++ r) = true := by
  obtain ⟨x, rfl, _⟩ := alone_sign h
  show (x == 10 || (x == 32 || (x == 35 || aloneW [x]))) = true
  rw [h]
  simp
theorem lex_chain : ∀ (W : List Wd), chainB W = true → ∀ rest, headOk rest = true → ∀ r c, ∃ ws, ws.map wd = W ∧ lex (catW W ++ rest) r c = (ws ++ (lex rest (adv (catW W) r c).1 (adv (catW W) r c).2).1, (lex rest (adv (catW W) r c).1 (adv (catW W) r c).2).2)
  | [], _, rest, _, r, c => ⟨[], rfl, rfl⟩
  | x :: l, h, rest, hr, r, c => by
    have h : (goodTok x.1 x.2 && (!decide (10 ∈ x.2) && (adjB x l && chainB l))) = true := h
    rw [Bool.and_eq_true, Bool.and_eq_true, Bool.and_eq_true] at h
    obtain ⟨h1, h2, h3, h4⟩ := h
    have h2 : 10 ∉ x.2 := by simpa using h2
    obtain ⟨ws, e1, e2⟩ := lex_chain l h4 rest hr r (c + x.2.length)
    have hb : Bd x.2 (catW l ++ rest) := by
      cases l with
      | nil => exact .inr hr
      | cons y l =>
        have h3 : (aloneW x.2 || aloneW y.2) = true := h3
        rw [Bool.or_eq_true] at h3
        rcases h3 with h3 | h3
        · exact .inl h3
        · refine .inr ?_
          show headOk ((y.2 ++ catW l) ++ rest) = true
          rw [List.append_assoc]
          exact headOk_alone h3
    refine ⟨⟨x.1, x.2, r, c⟩ :: ws, by rw [List.map_cons, e1]; rfl, ?_⟩
    show lex ((x.2 ++ catW l) ++ rest) r c = _
    rw [List.append_assoc, lex_word r c h1 hb, e2]
    have e : adv (catW (x :: l)) r c = adv (catW l) r (c + x.2.length) := by
      show adv (x.2 ++ catW l) r c = _
      rw [adv_append, adv_flat x.2 r c h2]
    rw [e]
    rfl
theorem gap_lex {g : List Nat} (h : gapB false g = true) (rest : List Nat) (r c : Int) : lex (g ++ rest) r c = lex rest (adv g r c).1 (adv g r c).2 := lex_skip (gapB_ok false g h rest r c)
/-- t has the words W, and whatever follows is read behind it -/
def RowLex (t : List Nat) (W : List Wd) : Prop := ∀ rest, headOk rest = true → ∃ ws, ws.map wd = W ∧ lex (t ++ rest) 1 1 = (ws ++ (lex rest (adv t 1 1).1 (adv t 1 1).2).1, (lex rest (adv t 1 1).1 (adv t 1 1).2).2)
theorem RowLex.chain {W : List Wd} (h : chainB W = true) : RowLex (catW W) W := fun rest hr => lex_chain W h rest hr 1 1
theorem RowLex.more {t g : List Nat} {W V : List Wd} (h : RowLex t W) (hg : gapB false g = true) (ho : headOk g = true) (hne : g ≠ []) (hv : chainB V = true) : RowLex ((t ++ g) ++ catW V) (W ++ V) := fun rest hr => by
  obtain ⟨ws, e1, e2⟩ := h ((g ++ catW V) ++ rest) (by rw [List.append_assoc]; exact headOk_app hne ho)
  obtain ⟨vs, d1, d2⟩ := lex_chain V hv rest hr (adv (t ++ g) 1 1).1 (adv (t ++ g) 1 1).2
  refine ⟨ws ++ vs, by rw [List.map_append, e1, d1], ?_⟩
  have e3 : (t ++ g ++ catW V) ++ rest = t ++ ((g ++ catW V) ++ rest) := by simp only [List.append_assoc]
  have e4 : lex ((g ++ catW V) ++ rest) (adv t 1 1).1 (adv t 1 1).2 = lex (catW V ++ rest) (adv (t ++ g) 1 1).1 (adv (t ++ g) 1 1).2 := by
    rw [List.append_assoc, gap_lex hg, adv_append]
  rw [e3, e2, e4, d2, adv_append (t ++ g) (catW V), List.append_assoc]
theorem RowLex.whole {t : List Nat} {W : List Wd} (h : RowLex t W) : ∃ ws u, ws.map wd = W ∧ u.kind = .fin ∧ u.text = [] ∧ lex t 1 1 = (ws ++ [u], none) := by
  obtain ⟨ws, e1, e2⟩ := h [] rfl
  rw [List.append_nil, lex_end (l := []) rfl] at e2
  exact ⟨ws, ⟨.fin, [], (adv t 1 1).1, (adv t 1 1).2⟩, e1, rfl, rfl, e2⟩
/-- the same with the token known that begins behind a gap -/
theorem RowLex.at_ {t g w : List Nat} {k : Kd} {W V : List Wd} {x : List Nat} (h : RowLex t W) (hg : gapB false g = true) (ho : headOk g = true) (hne : g ≠ []) (hw : goodTok k w = true) (hb : headOk x = true) (hx : ∀ r c, ∃ ws u, ws.map wd = V ∧ u.kind = .fin ∧ u.text = [] ∧ lex x r c = (ws ++ [u], none)) :
    ∃ ws vs u, ws.map wd = W ∧ vs.map wd = V ∧ u.kind = Kd.fin ∧ u.text = [] ∧ lex (((t ++ g) ++ w) ++ x) 1 1 = (ws ++ (⟨k, w, (adv (t ++ g) 1 1).1, (adv (t ++ g) 1 1).2⟩ :: (vs ++ [u])), none) := by
  obtain ⟨ws, e1, e2⟩ := h ((g ++ w) ++ x) (by rw [List.append_assoc]; exact headOk_app hne ho)
  obtain ⟨vs, u, d1, d2, d3, d4⟩ := hx (adv (t ++ g) 1 1).1 ((adv (t ++ g) 1 1).2 + w.length)
  refine ⟨ws, vs, u, e1, d1, d2, d3, ?_⟩
  have e3 : ((t ++ g) ++ w) ++ x = t ++ ((g ++ w) ++ x) := by simp only [List.append_assoc]
  have e4 : lex ((g ++ w) ++ x) (adv t 1 1).1 (adv t 1 1).2 = lex (w ++ x) (adv (t ++ g) 1 1).1 (adv (t ++ g) 1 1).2 := by
    rw [List.append_assoc, gap_lex hg, adv_append]
  rw [e3, e2, e4, lex_word _ _ hw (.inr hb), d4]
/-- gaps and chains to the end -/
def gapped : List (List Nat × List Wd) → List Nat
  | [] => []
  | p :: l => (p.1 ++ catW p.2) ++ gapped l
def gappedB : List (List Nat × List Wd) → Bool
  | [] => true
  | p :: l => gapB false p.1 && (headOk p.1 && (!p.1.isEmpty && (chainB p.2 && gappedB l)))
def gappedW : List (List Nat × List Wd) → List Wd
  | [] => []
  | p :: l => p.2 ++ gappedW l
theorem gapped_head {l : List (List Nat × List Wd)} (h : gappedB l = true) : headOk (gapped l) = true := by
  cases l with
  | nil => rfl
  | cons p l =>
    have h : (gapB false p.1 && (headOk p.1 && (!p.1.isEmpty && (chainB p.2 && gappedB l)))) = true := h
    simp only [Bool.and_eq_true] at h
    obtain ⟨_, h2, h3, _⟩ := h
    show headOk ((p.1 ++ catW p.2) ++ gapped l) = true
    rw [List.append_assoc]
    exact headOk_app (by simpa using h3) h2
theorem lex_gapped : ∀ (l : List (List Nat × List Wd)), gappedB l = true → ∀ r c, ∃ ws u, ws.map wd = gappedW l ∧ u.kind = Kd.fin ∧ u.text = [] ∧ lex (gapped l) r c = (ws ++ [u], none)
  | [], _, r, c => ⟨[], ⟨.fin, [], r, c⟩, rfl, rfl, rfl, lex_end (l := []) rfl⟩
  | p :: l, h, r, c => by
    have h : (gapB false p.1 && (headOk p.1 && (!p.1.isEmpty && (chainB p.2 && gappedB l)))) = true := h
    simp only [Bool.and_eq_true] at h
    obtain ⟨h1, _, _, h4, h5⟩ := h
    obtain ⟨ws, e1, e2⟩ := lex_chain p.2 h4 (gapped l) (gapped_head h5) (adv p.1 r c).1 (adv p.1 r c).2
    obtain ⟨vs, u, d1, d2, d3, d4⟩ := lex_gapped l h5 (adv (catW p.2) (adv p.1 r c).1 (adv p.1 r c).2).1 (adv (catW p.2) (adv p.1 r c).1 (adv p.1 r c).2).2
    refine ⟨ws ++ vs, u, by rw [List.map_append, e1, d1]; rfl, d2, d3, ?_⟩
    show lex ((p.1 ++ catW p.2) ++ gapped l) r c = _
    rw [List.append_assoc, gap_lex h1, e2, d4, List.append_assoc]
/-! ### signs -/
def signS : List String := ["+", "-", "*", "div", "mod", "+", "-", "==", "<", "<="]
def sgnK (s : String) : Kd := if s = "div" ∨ s = "mod" then .keyword else .sign
theorem sign_ok : ∀ s ∈ signS, chainB [(sgnK s, codes s)] = true ∧ 1 ≤ lev (codes s) ∧ (codes s).length ≤ 3 ∧ PyData.strOk (Tx (codes s)) = true ∧ (lev (codes s) = 1 ↔ (s = "==" ∨ s = "<" ∨ s = "<=")) := by decide +kernel
theorem lev_dot : lev (codes ".") = 0 := by decide +kernel
theorem lev_par : lev (codes "(") = 0 := by decide +kernel
theorem lev_nil : lev [] = 0 := by decide +kernel
/-! ### rows: a sign, the words of the operand behind it, its tree -/
abbrev Itm : Type := String × List Wd × PyData
def itW : List Itm → List Wd
  | [] => []
  | i :: l => (sgnK i.1, codes i.1) :: (i.2.1 ++ itW l)
def ItOk (l : List Itm) : Prop := ∀ i ∈ l, i.1 ∈ signS ∧ Reads i.2.1 i.2.2
theorem itW_app : ∀ (a b : List Itm), itW (a ++ b) = itW a ++ itW b
  | [], b => rfl
  | i :: a, b => by
    show _ :: (i.2.1 ++ itW (a ++ b)) = (_ :: (i.2.1 ++ itW a)) ++ itW b
    rw [itW_app a b, List.cons_append, List.append_assoc]
/-- the pairs whose tokens have these words -/
def Of (m : List Pr) (l : List Itm) : Prop := m.map (fun p => (wd p.1, p.2.1.map wd, p.2.2)) = l.map fun i => ((sgnK i.1, codes i.1), i.2.1, i.2.2)
theorem split_map {W V : List Wd} {ws : List Tk} (h : ws.map wd = W ++ V) : ∃ a b, ws = a ++ b ∧ a.map wd = W ∧ b.map wd = V := by
  obtain ⟨a, b, e, h1, h2⟩ := List.map_eq_append_iff.mp h
  exact ⟨a, b, e, h1, h2⟩
theorem pairs : ∀ (l : List Itm) (ws : List Tk), ws.map wd = itW l → ∃ m : List Pr, Of m l ∧ ∀ r, ws ++ r = flat m r
  | [], ws, h => by
    obtain rfl := wds0 h
    exact ⟨[], rfl, fun _ => rfl⟩
  | i :: l, ws, h => by
    obtain ⟨t, ts, rfl, h1, h2⟩ := wds h
    obtain ⟨a, b, rfl, ha, hb⟩ := split_map h2
    obtain ⟨m, e, f⟩ := pairs l b hb
    refine ⟨(t, a, i.2.2) :: m, ?_, fun r => ?_⟩
    · show (wd t, a.map wd, i.2.2) :: m.map _ = _ :: l.map _
      rw [h1, ha]
      exact congrArg _ e
    · show t :: ((a ++ b) ++ r) = t :: (a ++ flat m r)
      rw [List.append_assoc, f]
theorem Of.mem {m : List Pr} {l : List Itm} (h : Of m l) (hl : ItOk l) : ∀ p ∈ m, 1 ≤ lev p.1.text ∧ Reads (p.2.1.map wd) p.2.2 ∧ ∃ s ∈ signS, p.1.text = codes s := fun p hp => by
  have q : (wd p.1, p.2.1.map wd, p.2.2) ∈ l.map fun i => ((sgnK i.1, codes i.1), i.2.1, i.2.2) := by
    have h : m.map (fun p => (wd p.1, p.2.1.map wd, p.2.2)) = _ := h
    rw [← h]
    exact List.mem_map.mpr ⟨p, hp, rfl⟩
  obtain ⟨i, hi, e⟩ := List.mem_map.mp q
  obtain ⟨k1, k2⟩ := hl i hi
  have e1 : (sgnK i.1, codes i.1) = wd p.1 := congrArg Prod.fst e
  have e2 : i.2.1 = p.2.1.map wd := congrArg (fun z => z.2.1) e
  have e3 : i.2.2 = p.2.2 := congrArg (fun z => z.2.2) e
  have e4 : p.1.text = codes i.1 := (congrArg Prod.snd e1).symm
  rw [← e2, ← e3, e4]
  exact ⟨(sign_ok _ k1).2.1, k2, i.1, k1, rfl⟩
theorem Of.len {m : List Pr} {l : List Itm} (h : Of m l) : m.length = l.length := by
  have := congrArg List.length h
  simpa using this
theorem Of.app {m1 m2 : List Pr} {l1 l2 : List Itm} (h1 : Of m1 l1) (h2 : Of m2 l2) : Of (m1 ++ m2) (l1 ++ l2) := by
  unfold Of at *
  rw [List.map_append, List.map_append, h1, h2]
theorem flat_app : ∀ (a b : List Pr) (r : List Tk), flat (a ++ b) r = flat a (flat b r)
  | [], _, _ => rfl
  | (t, ws, d) :: a, b, r => by
    show t :: (ws ++ flat (a ++ b) r) = t :: (ws ++ flat a (flat b r))
    rw [flat_app a b r]
/-- what stands behind an operand of a row -/
theorem calm_flat {m : List Pr} {u : Tk} (hm : ∀ p ∈ m, 1 ≤ lev p.1.text) (hu : u.text = []) : Calm (flat m [u]) := by
  cases m with
  | nil =>
    refine ⟨decide_eq_false ?_, decide_eq_false ?_⟩
    · rw [hu]
      decide
    · rw [hu]
      decide
  | cons p m =>
    have q := hm p List.mem_cons_self
    refine ⟨decide_eq_false fun e => ?_, decide_eq_false fun e => ?_⟩
    · have e : p.1.text = codes "." := e
      rw [e, lev_dot] at q
      omega
    · have e : p.1.text = codes "(" := e
      rw [e, lev_par] at q
      omega
theorem good_row {u : Tk} (hu : u.text = []) : ∀ (m : List Pr), (∀ p ∈ m, 1 ≤ lev p.1.text ∧ Reads (p.2.1.map wd) p.2.2) → Good 6 m [u]
  | [], _ => trivial
  | (t, ws, d) :: m, h => by
    have hm : ∀ p ∈ m, 1 ≤ lev p.1.text ∧ Reads (p.2.1.map wd) p.2.2 := fun p hp => h p (List.mem_cons_of_mem _ hp)
    refine ⟨fun n hn => ?_, good_row hu m hm⟩
    exact (h (t, ws, d) List.mem_cons_self).2 ws rfl _ (calm_flat (fun p hp => (hm p hp).1) hu) n hn
theorem lf_big : 1000 < LF := by
  unfold LF
  omega
theorem parse_row {ws0 : List Tk} {d0 : PyData} {m : List Pr} {u : Tk} (h0 : Reads (ws0.map wd) d0) (hm : ∀ p ∈ m, 1 ≤ lev p.1.text ∧ Reads (p.2.1.map wd) p.2.2) (hu : u.text = []) (hl : m.length ≤ 100) :
    (ps 60).whole (ws0 ++ flat m [u]) = .ok (cl 1 d0 m).1 (flat (cl 1 d0 m).2 [u]) := by
  have lu : lev u.text = 0 := by rw [hu]; exact lev_nil
  have big := lf_big
  have e := loop_climbs lu (m.length + 1) m 1 d0 LF 58 (Nat.lt_succ_self _) (by omega) (by omega) (Int.le_refl _) (show 6 + 3 ≤ 58 by decide) (good_row hu m hm)
  rw [whole_eq, h0 ws0 rfl _ (calm_flat (fun p hp => (hm p hp).1) hu) 59 (by decide)]
  show (ps 59).ops d0 1 (flat m [u]) = _
  rw [ops_eq, e]
  rfl
theorem pExpr_ok {ws0 : List Tk} {d0 : PyData} {m : List Pr} {u : Tk} (h0 : Reads (ws0.map wd) d0) (hm : ∀ p ∈ m, 1 ≤ lev p.1.text ∧ Reads (p.2.1.map wd) p.2.2) (hu : u.text = []) (hk : u.kind = .fin) (hl : m.length ≤ 100) (he : (cl 1 d0 m).2 = []) :
    pExpr FU (ws0 ++ flat m [u]) = .ok (cl 1 d0 m).1 [u] := by
  show ((ps 60).whole (ws0 ++ flat m [u])).bind _ = _
  rw [parse_row h0 hm hu hl, he]
  show (endW [u]).bind _ = _
  rw [show endW [u] = .ok () [u] from if_pos hk]
  rfl
theorem pExpr_no {ws0 : List Tk} {d0 : PyData} {m R : List Pr} {u t : Tk} {x : List Tk × PyData} (h0 : Reads (ws0.map wd) d0) (hm : ∀ p ∈ m, 1 ≤ lev p.1.text ∧ Reads (p.2.1.map wd) p.2.2) (hu : u.text = []) (hl : m.length ≤ 100) (he : (cl 1 d0 m).2 = (t, x) :: R) (hk : t.kind ≠ .fin) :
    pExpr FU (ws0 ++ flat m [u]) = .no t.row t.col := by
  show ((ps 60).whole (ws0 ++ flat m [u])).bind _ = _
  rw [parse_row h0 hm hu hl, he]
  show (endW (t :: (x.1 ++ flat R [u]))).bind _ = _
  rw [show endW (t :: (x.1 ++ flat R [u])) = .no t.row t.col from if_neg hk]
  rfl
/-! ### at most one comparison -/
def OneC (m : List Pr) : Prop := ∀ A p B, m = A ++ p :: B → lev p.1.text = 1 → AllL 2 A ∧ AllL 2 B
theorem OneC.none {m : List Pr} (h : AllL 2 m) : OneC m := fun A p B e q => by
  have := h p (by rw [e]; simp)
  omega
theorem AllL.app {L : Int} {A B : List Pr} (h : AllL L A) (k : AllL L B) : AllL L (A ++ B) := fun p hp => by
  rcases List.mem_append.mp hp with hp | hp
  · exact h p hp
  · exact k p hp
theorem AllL.one {L : Int} {p : Pr} (h : L ≤ lev p.1.text) : AllL L [p] := fun q hq => by
  rw [List.mem_singleton.mp hq]
  exact h
theorem OneC.snoc {m : List Pr} {q : Pr} (h : OneC m) (c : AllL 2 m ∨ 2 ≤ lev q.1.text) : OneC (m ++ [q]) := fun A p B e k => by
  rcases List.eq_nil_or_concat B with rfl | ⟨B', z, rfl⟩
  · obtain ⟨e1, e2⟩ := List.append_inj' e rfl
    cases e2
    subst e1
    rcases c with c | c
    · exact ⟨c, fun _ hp => by cases hp⟩
    · omega
  · rw [List.concat_eq_append] at e ⊢
    have e : m ++ [q] = (A ++ p :: B') ++ [z] := by rw [e, List.append_assoc]; rfl
    obtain ⟨e1, e2⟩ := List.append_inj' e rfl
    cases e2
    obtain ⟨a, b⟩ := h A p B' e1 k
    refine ⟨a, b.app (AllL.one ?_)⟩
    rcases c with c | c
    · have := c p (by rw [e1]; simp)
      omega
    · exact c
/-- the last one of a level, or none -/
theorem last_of (L : Int) : ∀ m : List Pr, (∀ p ∈ m, lev p.1.text ≠ L) ∨ ∃ A p B, m = A ++ p :: B ∧ lev p.1.text = L ∧ ∀ q ∈ B, lev q.1.text ≠ L
  | [] => .inl fun _ h => by cases h
  | p :: m => by
    rcases last_of L m with h | ⟨A, q, B, e, h1, h2⟩
    · by_cases c : lev p.1.text = L
      · exact .inr ⟨[], p, m, rfl, c, h⟩
      · refine .inl fun q hq => ?_
        rcases List.mem_cons.mp hq with rfl | hq
        · exact c
        · exact h q hq
    · exact .inr ⟨p :: A, q, B, by rw [e]; rfl, h1, h2⟩
theorem cl1_all {m : List Pr} {d : PyData} (h : AllL 2 m) : cl 1 d m = ((cl 2 d m).1, []) := by
  have e := (cl2_app m.length m d [] (Nat.le_refl _) h trivial).2
  rw [cl1_eq2 m.length m d (Nat.le_refl _) h]
  exact Prod.ext rfl e
theorem cl1_one {A B : List Pr} {d : PyData} {p : Pr} (a : AllL 2 A) (b : AllL 2 B) (h : lev p.1.text = 1) : cl 1 d (A ++ p :: B) = (nd p.1.text (cl 1 d A).1 (cl 1 p.2.2 B).1, []) := by
  obtain ⟨t, ws, x⟩ := p
  have e := cl1_cmp A.length A d t ws x B [] (Nat.le_refl _) a h b trivial
  rw [List.append_nil] at e
  rw [e, cl1_all a, cl1_all b]
theorem cl1_two {A B : List Pr} {d : PyData} {p : Pr} (a : AllL 2 A) (b : AllL 3 B) (h : lev p.1.text = 2) : (cl 1 d (A ++ p :: B)).1 = nd p.1.text (cl 1 d A).1 (cl 1 p.2.2 B).1 := by
  obtain ⟨t, ws, x⟩ := p
  have b2 : AllL 2 B := fun q hq => by have := b q hq; omega
  have all : AllL 2 (A ++ (t, ws, x) :: B) := a.app fun q hq => by
    rcases List.mem_cons.mp hq with rfl | hq
    · show 2 ≤ lev t.text
      have h : lev t.text = 2 := h
      omega
    · exact b2 q hq
  rw [cl1_all all, cl1_all a, cl1_all b2]
  show (cl 2 d (A ++ (t, ws, x) :: B)).1 = nd t.text (cl 2 d A).1 (cl 2 x B).1
  rw [cl2_last A.length A d t ws x B (Nat.le_refl _) a h b]
  have e := cl_mul B 2 x [] b (by decide) (by decide)
  rw [List.append_nil] at e
  rw [e]
  rfl
theorem cl1_three {A : List Pr} {d : PyData} {p : Pr} (a : AllL 3 A) (h : lev p.1.text = 3) : (cl 1 d (A ++ [p])).1 = nd p.1.text (cl 1 d A).1 (cl 1 p.2.2 []).1 := by
  have a2 : AllL 2 A := fun q hq => by have := a q hq; omega
  have al : AllL 3 (A ++ [p]) := a.app (AllL.one (by omega))
  have al2 : AllL 2 (A ++ [p]) := a2.app (AllL.one (by omega))
  have e1 := cl_mul (A ++ [p]) 2 d [] al (by decide) (by decide)
  have e2 := cl_mul A 2 d [] a (by decide) (by decide)
  rw [List.append_nil] at e1 e2
  rw [cl1_all al2, cl1_all a2, e1, e2]
  show mul d (A ++ [p]) = nd p.1.text (mul d A) p.2.2
  unfold mul
  rw [List.foldl_append]
  rfl
end Rm.K6

/-! M6g: what the law writes of rows: operands, tokens with a further comparison, shapes. -/
namespace Rm.K6
open PySem PySem.Spec PyProof.Rows L2 Lx
theorem dS_eq (s : String) : dS s = dW (codes s) := congrArg PyData.str (Tx_of s)
/-! ### operands -/
def nameS : List String := ["a", "b", "xs", "modx", "self_"]
abbrev nT (n : Nat) : List Nat := codes (toString n)
def opdW (p : Nat) (s : String) (n : Nat) : List Wd := match p with
  | 0 => [(.number, nT n)]
  | 1 => [(.name, codes s), (.sign, codes "."), (.name, codes "at"), (.sign, codes "("), (.number, nT n), (.sign, codes ")")]
  | 2 => [(.keyword, codes "self"), (.sign, codes "."), (.keyword, codes "call"), (.sign, codes "("), (.sign, codes ")")]
  | 3 => [(.name, codes s), (.sign, codes "("), (.keyword, codes "true"), (.sign, codes ")"), (.sign, codes "."), (.name, codes "x"), (.sign, codes "("), (.sign, codes ")")]
  | _ => [(.name, codes s)]
def opdD (p : Nat) (s : String) (n : Nat) : PyData := match p with
  | 0 => .tuple [dS "num", .int n]
  | 1 => .tuple [dS "send", .tuple [dS "name", dW (codes s)], dS "at", .tuple [.tuple [dS "num", .int n]]]
  | 2 => .tuple [dS "call", .tuple [dS "self"], .tuple []]
  | 3 => .tuple [dS "send", .tuple [dS "own", dW (codes s), .tuple [.tuple [dS "true"]]], dS "x", .tuple []]
  | _ => .tuple [dS "name", dW (codes s)]
theorem opd_facts : ∀ p < 5, ∀ s ∈ nameS, ∀ n < 50, chainB (opdW p s n) = true ∧ (catW (opdW p s n)).length ≤ 40 ∧ PyData.canLay0 (opdD p s n) = true ∧ PyData.depth (opdD p s n) ≤ 6 := by decide +kernel
theorem num_facts : ∀ n < 50, codes (toString ((n : Nat) : Int)) = nT n ∧ val (nT n) = n ∧ nT n ≠ codes ")" := by decide +kernel
theorem name_facts : ∀ s ∈ nameS, nameW6 (codes s) = true := by decide +kernel
structure OpdOk (t : List Nat) (d : PyData) (W : List Wd) : Prop where
  txt : catW W = t
  chain : chainB W = true
  reads : Reads W d
  len : t.length ≤ 40
  lay : PyData.canLay0 d = true
  dep : PyData.depth d ≤ 6
theorem opd_ok {p n : Nat} {s : String} (hp : p < 5) (hs : s ∈ nameS) (hn : n < 50) : OpdOk (catW (opdW p s n)) (opdD p s n) (opdW p s n) := by
  obtain ⟨f1, f2, f3, f4⟩ := opd_facts p hp s hs n hn
  obtain ⟨g1, g2, g3⟩ := num_facts n hn
  have g := name_facts s hs
  refine ⟨rfl, f1, ?_, f2, f3, f4⟩
  obtain rfl | rfl | rfl | rfl | rfl : p = 0 ∨ p = 1 ∨ p = 2 ∨ p = 3 ∨ p = 4 := by omega
  · have e := reads_num (nT n)
    unfold numD at e
    rw [g2] at e
    exact e
  · have e := reads_at (w := codes s) (v := nT n) g g3
    unfold numD nameD at e
    rw [g2, ← dS_eq "at"] at e
    exact e
  · have e := reads_call
    rw [← dS_eq "self"] at e
    exact e
  · have e := reads_own (w := codes s) g
    rw [← dS_eq "true", ← dS_eq "x"] at e
    exact e
  · exact reads_name g
/-! ### shapes -/
theorem climb_shape : ∀ (k : Nat) (L : Int) (l : PyData) (m : List Pr), (∀ p ∈ m, PyData.strOk (Tx p.1.text) = true ∧ PyData.canLay0 p.2.2 = true ∧ PyData.depth p.2.2 ≤ 6) → PyData.canLay0 l = true →
    PyData.canLay0 (climb k L l m).1 = true ∧ PyData.depth (climb k L l m).1 + (climb k L l m).2.length ≤ max (PyData.depth l) 6 + m.length ∧ (∀ p ∈ (climb k L l m).2, p ∈ m)
  | 0, _, l, m, _, h => ⟨h, Nat.add_le_add_right (Nat.le_max_left _ _) _, fun _ h => h⟩
  | _ + 1, _, l, [], _, h => ⟨h, Nat.add_le_add_right (Nat.le_max_left _ _) _, fun _ h => h⟩
  | k + 1, L, l, (t, ws, d) :: m, hm, h => by
    obtain ⟨t1, t2, t3⟩ := hm (t, ws, d) List.mem_cons_self
    have hm : ∀ p ∈ m, PyData.strOk (Tx p.1.text) = true ∧ PyData.canLay0 p.2.2 = true ∧ PyData.depth p.2.2 ≤ 6 := fun p hp => hm p (List.mem_cons_of_mem _ hp)
    obtain ⟨a1, a2, a3⟩ := climb_shape k (lev t.text + 1) d m hm t2
    have ln := climb_len k (lev t.text + 1) d m
    have t3 : PyData.depth d ≤ 6 := t3
    have ndl : PyData.canLay0 (nd t.text l (climb k (lev t.text + 1) d m).1) = true := by
      have t1 : PyData.strOk (Tx t.text) = true := t1
      have o : PyData.strOk (Str.ofString "op") = true := by decide +kernel
      simp [nd, dS, dW, PyData.canLay0, PyData.canLayAll0, t1, h, a1, o]
    have ndd : PyData.depth (nd t.text l (climb k (lev t.text + 1) d m).1) = max (PyData.depth l) (PyData.depth (climb k (lev t.text + 1) d m).1) + 1 := by
      simp [nd, dS, dW, PyData.depth, PyData.depthAll]
    obtain ⟨b1, b2, b3⟩ := climb_shape k L (nd t.text l (climb k (lev t.text + 1) d m).1) (climb k (lev t.text + 1) d m).2 (fun p hp => hm p (a3 p hp)) ndl
    unfold climb
    split
    · split
      · refine ⟨ndl, ?_, fun p hp => List.mem_cons_of_mem _ (a3 p hp)⟩
        show PyData.depth (nd t.text l (climb k (lev t.text + 1) d m).1) + (climb k (lev t.text + 1) d m).2.length ≤ max (PyData.depth l) 6 + (m.length + 1)
        rw [ndd]
        omega
      · refine ⟨b1, ?_, fun p hp => List.mem_cons_of_mem _ (a3 p (b3 p hp))⟩
        rw [ndd] at b2
        show _ ≤ max (PyData.depth l) 6 + (m.length + 1)
        omega
    · exact ⟨h, Nat.add_le_add_right (Nat.le_max_left _ _) _, fun _ h => h⟩
/-- parts that are small -/
def Lay (d : PyData) : Prop := PyData.canLay0 d = true ∧ PyData.depth d ≤ 6
theorem Of.lay {m : List Pr} {l : List Itm} (h : Of m l) (hl : ∀ i ∈ l, i.1 ∈ signS ∧ Lay i.2.2) : ∀ p ∈ m, PyData.strOk (Tx p.1.text) = true ∧ PyData.canLay0 p.2.2 = true ∧ PyData.depth p.2.2 ≤ 6 := fun p hp => by
  have q : (wd p.1, p.2.1.map wd, p.2.2) ∈ l.map fun i => ((sgnK i.1, codes i.1), i.2.1, i.2.2) := by
    have h : m.map (fun p => (wd p.1, p.2.1.map wd, p.2.2)) = _ := h
    rw [← h]
    exact List.mem_map.mpr ⟨p, hp, rfl⟩
  obtain ⟨i, hi, e⟩ := List.mem_map.mp q
  obtain ⟨k1, k2⟩ := hl i hi
  have e1 : (sgnK i.1, codes i.1) = wd p.1 := congrArg Prod.fst e
  have e3 : i.2.2 = p.2.2 := congrArg (fun z => z.2.2) e
  have e4 : p.1.text = codes i.1 := (congrArg Prod.snd e1).symm
  rw [← e3, e4]
  exact ⟨(sign_ok _ k1).2.2.2.1, k2⟩
theorem shaped_of {d : PyData} (h : PyData.canLay0 d = true) (k : PyData.depth d ≤ 60) : SeqAt.shaped d = true := by
  unfold SeqAt.shaped
  rw [h, Bool.true_and]
  exact decide_eq_true (by omega)
theorem shaped_cl {m : List Pr} {d : PyData} (hm : ∀ p ∈ m, PyData.strOk (Tx p.1.text) = true ∧ PyData.canLay0 p.2.2 = true ∧ PyData.depth p.2.2 ≤ 6) (hd : Lay d) (hl : m.length ≤ 40) : PyData.canLay0 (cl 1 d m).1 = true ∧ PyData.depth (cl 1 d m).1 ≤ 46 := by
  obtain ⟨a, b, _⟩ := climb_shape (m.length + 1) 1 d m hm hd.1
  have b : PyData.depth (cl 1 d m).1 + (cl 1 d m).2.length ≤ max (PyData.depth d) 6 + m.length := b
  have := hd.2
  exact ⟨a, by omega⟩
/-! ### one comparison among signs -/
def sgs (l : List Itm) : List (List Nat) := l.map fun i => codes i.1
theorem Of.texts {m : List Pr} {l : List Itm} (h : Of m l) : m.map (fun p => p.1.text) = sgs l := by
  have e := congrArg (fun z : List (Wd × List Wd × PyData) => z.map fun y => y.1.2) h
  simp only [List.map_map] at e
  exact e
theorem Of.trees {m : List Pr} {l : List Itm} (h : Of m l) : m.map (fun p => p.2.2) = l.map fun i => i.2.2 := by
  have e := congrArg (fun z : List (Wd × List Wd × PyData) => z.map fun y => y.2.2) h
  simp only [List.map_map] at e
  exact e
def OneT (S : List (List Nat)) : Prop := ∀ A x B, S = A ++ x :: B → lev x = 1 → (∀ y ∈ A, 2 ≤ lev y) ∧ ∀ y ∈ B, 2 ≤ lev y
theorem OneT.nil : OneT [] := fun A x B e => by
  cases A <;> cases e
theorem OneT.snoc {S : List (List Nat)} {q : List Nat} (h : OneT S) (h1 : ∀ y ∈ S, 1 ≤ lev y) (c : (∀ y ∈ S, lev y ≠ 1) ∨ 2 ≤ lev q) : OneT (S ++ [q]) := fun A x B e k => by
  rcases List.eq_nil_or_concat B with rfl | ⟨B', z, rfl⟩
  · obtain ⟨e1, e2⟩ := List.append_inj' e rfl
    cases e2
    subst e1
    refine ⟨fun y hy => ?_, fun _ hp => by cases hp⟩
    rcases c with c | c
    · have a := h1 y hy
      have b := c y hy
      omega
    · omega
  · rw [List.concat_eq_append] at e ⊢
    have e : S ++ [q] = (A ++ x :: B') ++ [z] := by rw [e, List.append_assoc]; rfl
    obtain ⟨e1, e2⟩ := List.append_inj' e rfl
    cases e2
    obtain ⟨a, b⟩ := h A x B' e1 k
    refine ⟨a, fun y hy => ?_⟩
    rcases List.mem_append.mp hy with hy | hy
    · exact b y hy
    · rw [List.mem_singleton.mp hy]
      rcases c with c | c
      · exact absurd k (c x (by rw [e1]; simp))
      · exact c
theorem OneT.c {m : List Pr} (h : OneT (m.map fun p => p.1.text)) : OneC m := fun A p B e k => by
  obtain ⟨a, b⟩ := h (A.map fun p => p.1.text) p.1.text (B.map fun p => p.1.text) (by rw [e]; simp) k
  exact ⟨fun q hq => a _ (List.mem_map.mpr ⟨q, hq, rfl⟩), fun q hq => b _ (List.mem_map.mpr ⟨q, hq, rfl⟩)⟩
def cmpB (S : List (List Nat)) : Bool := decide (codes "==" ∈ S) || (decide (codes "<" ∈ S) || decide (codes "<=" ∈ S))
theorem lev_one (x : List Nat) : lev x = 1 ↔ (x = codes "==" ∨ x = codes "<" ∨ x = codes "<=") := by
  unfold lev
  have m : x ∈ lev1 ↔ (x = codes "==" ∨ x = codes "<" ∨ x = codes "<=") := by
    unfold lev1
    simp only [List.map_cons, List.map_nil, List.mem_cons, List.not_mem_nil, or_false]
  rw [← m]
  by_cases h : x ∈ lev1
  · rw [if_pos h]
    exact ⟨fun _ => h, fun _ => rfl⟩
  · rw [if_neg h]
    constructor
    · intro e
      split at e
      · omega
      · split at e <;> omega
    · exact fun e => absurd e h
theorem cmpB_false {S : List (List Nat)} (h : cmpB S = false) : ∀ y ∈ S, lev y ≠ 1 := fun y hy e => by
  unfold cmpB at h
  simp only [Bool.or_eq_false_iff, decide_eq_false_iff_not] at h
  obtain ⟨h1, h2, h3⟩ := h
  rcases (lev_one y).mp e with rfl | rfl | rfl
  · exact h1 hy
  · exact h2 hy
  · exact h3 hy
theorem cmpB_true {S : List (List Nat)} (h : cmpB S = true) : ∃ x ∈ S, lev x = 1 := by
  unfold cmpB at h
  simp only [Bool.or_eq_true, decide_eq_true_eq] at h
  rcases h with h | h | h
  · exact ⟨_, h, (lev_one _).mpr (.inl rfl)⟩
  · exact ⟨_, h, (lev_one _).mpr (.inr (.inl rfl))⟩
  · exact ⟨_, h, (lev_one _).mpr (.inr (.inr rfl))⟩
/-! ### tokens -/
theorem row_tokens {t : List Nat} {W0 : List Wd} {its : List Itm} (h : RowLex t (W0 ++ itW its)) : ∃ ws0 m u, ws0.map wd = W0 ∧ Of m its ∧ u.kind = Kd.fin ∧ u.text = [] ∧ lex t 1 1 = (ws0 ++ flat m [u], none) := by
  obtain ⟨ws, u, e1, e2, e3, e4⟩ := h.whole
  obtain ⟨a, b, rfl, h1, h2⟩ := split_map e1
  obtain ⟨m, o, f⟩ := pairs its b h2
  exact ⟨a, m, u, h1, o, e2, e3, by rw [e4, List.append_assoc, f]⟩
theorem more_tokens {t : List Nat} {W0 V0 : List Wd} {its its2 : List Itm} {s : String} {l2 : List (List Nat × List Wd)} (dz : PyData) (h : RowLex t (W0 ++ itW its)) (hs : goodTok .sign (codes s) = true) (hg : gappedB l2 = true) (hw : gappedW l2 = V0 ++ itW its2) :
    ∃ ws0 m q zs m2 u, ws0.map wd = W0 ∧ Of m its ∧ q = (⟨.sign, codes s, (adv (t ++ [32]) 1 1).1, (adv (t ++ [32]) 1 1).2⟩ : Tk) ∧ zs.map wd = V0 ∧ Of m2 its2 ∧ u.kind = Kd.fin ∧ u.text = [] ∧
      lex (((t ++ [32]) ++ codes s) ++ gapped l2) 1 1 = (ws0 ++ flat (m ++ (q, zs, dz) :: m2) [u], none) := by
  obtain ⟨ws, vs, u, e1, e2, e3, e4, e5⟩ := h.at_ (g := [32]) (w := codes s) (k := .sign) (x := gapped l2) (V := gappedW l2) (by decide) (by decide) (by decide) hs (gapped_head hg) (lex_gapped l2 hg)
  obtain ⟨a, b, rfl, h1, h2⟩ := split_map e1
  obtain ⟨m, o, f⟩ := pairs its b h2
  rw [hw] at e2
  obtain ⟨zs, b2, rfl, h3, h4⟩ := split_map e2
  obtain ⟨m2, o2, f2⟩ := pairs its2 b2 h4
  refine ⟨a, m, _, zs, m2, u, h1, o, rfl, h3, o2, e3, e4, ?_⟩
  rw [e5, flat_app, List.append_assoc, f]
  show (a ++ flat m (_ :: ((zs ++ b2) ++ [u])), _) = (a ++ flat m (_ :: (zs ++ flat m2 [u])), _)
  rw [List.append_assoc, f2]
/-- the place behind one more sign -/
theorem adv_space (t : List Nat) : adv (t ++ [32]) 1 1 = ((adv t 1 1).1, (adv t 1 1).2 + 1) := by
  rw [adv_append]
  rfl
end Rm.K6

/-! L06: rows of operators: the law's own defs: promises, readings (by gen.py), runs. -/
namespace Rm.K6
open PySem PySem.Spec PyProof.Rows L2 Lx
/-! ### promises -/
def sp_l_operand (K : PySem.W.Frag) : Sp := fun vs H Q _ => ∃ (d r : Addr), vs = [.ref d] ∧ Draws H d r ∧ ∀ (q : Addr) (H' : Hp) (t : List Nat) (v : V) (D : PyData) (W : List Wd), Kept d H H' → Draws H' d r → H' q = some (.tup [.str (Tx t), v]) → Tr H' v D → OpdOk t D W → Q (.ref q) H'
def sp_l_sign (K : PySem.W.Frag) : Sp := fun vs H Q _ => ∃ (d r : Addr) (b : Bool), vs = [.ref d, .bl b] ∧ Draws H d r ∧ ∀ (H' : Hp) (s : String), Kept d H H' → Draws H' d r → s ∈ signS → (b = true → 2 ≤ lev (codes s)) → Q (.str (Tx (codes s))) H'
def sp_l_group (K : PySem.W.Frag) (n : Nat) : Sp := fun vs H Q _ => ∃ (a b : Addr) (ys : List V) (d0 : PyData) (m : List Pr), vs = [.ref a, .ref b] ∧ H a = some (.lst ys) ∧ Trs H ys (d0 :: m.map fun p => p.2.2) ∧ H b = some (.lst (m.map fun p => V.str (Tx p.1.text))) ∧ m.length < n ∧ m.length ≤ 100 ∧ OneC m ∧
  (∀ p ∈ m, 1 ≤ lev p.1.text) ∧ ∀ (v : V) (H' : Hp), Same H H' → Tr H' v (cl 1 d0 m).1 → Q v H'
def sp_l_told (K : PySem.W.Frag) : Sp := fun vs H Q _ => ∃ (l : List Nat) (ts : List Tk), vs = [.str (Tx l)] ∧ l.length ≤ 10000000 ∧ lex l 1 1 = (ts, none) ∧
  ((∃ d r, pExpr FU ts = .ok d r ∧ ∀ (v : V) (H' : Hp), Same H H' → Tr H' v d → Q v H') ∨
    ∃ r c, pExpr FU ts = .no r c ∧ r.natAbs.log2 < 1920 ∧ c.natAbs.log2 < 1920 ∧ ∀ (q : Addr) (H' : Hp), Same H H' → H' q = some (.tup [.int r, .int c]) → Q (.ref q) H')
def sp_l_one (K : PySem.W.Frag) : Sp := fun vs H Q _ => ∃ (d r : Addr), vs = [.ref d] ∧ Draws H d r ∧ ∀ H', Draws H' d r → Q (.bl true) H'
def sp_law (K : PySem.W.Frag) : Sp := fun vs H Q _ => ∃ (a : Addr) (ns : List Int), vs = [.ref a] ∧ SqL K H a (ns.map V.int) ∧ ns.length ≤ 63 ∧ ∀ H', Q (.bl true) H'
/-! ### readings -/

def ns_l_group : List Str := ["trees", "signs", "chosen", "at", "k", "left"]
def t_l_group (K : PySem.W.Frag) (w : World) (n : Nat) (E : XK) : TS :=
  (tSeq (tFor (iList K (tLst (tCons (tTup (tMenu (["==", "<", "<="].map mS))) (tCons (tTup (tCons (tC (.str ("+" : Str))) (tCons (tC (.str ("-" : Str))) tNil))) (tCons (tTup (tMenu (["*", "div", "mod"].map mS))) tNil))))) (gName 2)
      (tSeq (tAsg (tUn rNegI (tC (.int 1))) (gName 3))
    (tSeq (tFor (iRng1 (tCons (tCB (rLen K) (tCons (tVar 1) tNil)) tNil)) (gName 4)
      (tIfS (tTest (tOp (rIn K false) (tOp (rIxL K) (tVar 1) (tVar 4)) (tVar 2)))
      (tAsg (tVar 4) (gName 3))
      tNext))
    (tIfS (tTest (tOp rGeI (tVar 3) (tC (.int 0))))
      (tSeq (tAsg (tCall (sp_l_group K n) [] E (tCons (tSl (rSlL K) (tVar 0) oNone (oSome (tOp rAddI (tVar 3) (tC (.int 1))))) (tCons (tSl (rSlL K) (tVar 1) oNone (oSome (tVar 3))) tNil))) (gName 5))
    (tRet (tTup (tCons (tC (.str ("op" : Str))) (tCons (tOp (rIxL K) (tVar 1) (tVar 3)) (tCons (tVar 5) (tCons (tCall (sp_l_group K n) [] E (tCons (tSl (rSlL K) (tVar 0) (oSome (tOp rAddI (tVar 3) (tC (.int 1)))) oNone) (tCons (tSl (rSlL K) (tVar 1) (oSome (tOp rAddI (tVar 3) (tC (.int 1)))) oNone) tNil))) tNil)))))))
      tNext))))
    (tRet (tOp (rIxL K) (tVar 0) (tC (.int 0)))))

def ns_l_operand : List Str := ["draws", "pick", "number", "name"]
def t_l_operand (K : PySem.W.Frag) (E : XK) : TS :=
  (tSeq (tAsg (tCall (sp_l_pick K) [] E (tCons (tVar 0) (tCons (tC (.int 5)) tNil))) (gName 1))
    (tSeq (tAsg (tCall (sp_l_pick K) [] E (tCons (tVar 0) (tCons (tC (.int 50)) tNil))) (gName 2))
    (tSeq (tAsg (tOp (rIxL K) (tLst (tMenu (["a", "b", "xs", "modx", "self_"].map mS))) (tCall (sp_l_pick K) [] E (tCons (tVar 0) (tCons (tC (.int 5)) tNil)))) (gName 3))
    (tSeq (tIfS (tTest (tOp rEq (tVar 1) (tC (.int 0))))
      (tRet (tTup (tCons (tCB rStrI (tCons (tVar 2) tNil)) (tCons (tTup (tCons (tC (.str ("num" : Str))) (tCons (tVar 2) tNil))) tNil))))
      tNext)
    (tSeq (tIfS (tTest (tOp rEq (tVar 1) (tC (.int 1))))
      (tRet (tTup (tCons (tOp rCatS (tOp rCatS (tOp rCatS (tVar 3) (tC (.str (".at(" : Str)))) (tCB rStrI (tCons (tVar 2) tNil))) (tC (.str (")" : Str)))) (tCons (tTup (tCons (tC (.str ("send" : Str))) (tCons (tTup (tCons (tC (.str ("name" : Str))) (tCons (tVar 3) tNil))) (tCons (tC (.str ("at" : Str))) (tCons (tTup (tCons (tTup (tCons (tC (.str ("num" : Str))) (tCons (tVar 2) tNil))) tNil)) tNil))))) tNil))))
      tNext)
    (tSeq (tIfS (tTest (tOp rEq (tVar 1) (tC (.int 2))))
      (tRet (tTup (tCons (tC (.str ("self.call()" : Str))) (tCons (tTup (tCons (tC (.str ("call" : Str))) (tCons (tTup (tCons (tC (.str ("self" : Str))) tNil)) (tCons (tTup tNil) tNil)))) tNil))))
      tNext)
    (tSeq (tIfS (tTest (tOp rEq (tVar 1) (tC (.int 3))))
      (tRet (tTup (tCons (tOp rCatS (tVar 3) (tC (.str ("(true).x()" : Str)))) (tCons (tTup (tCons (tC (.str ("send" : Str))) (tCons (tTup (tCons (tC (.str ("own" : Str))) (tCons (tVar 3) (tCons (tTup (tCons (tTup (tCons (tC (.str ("true" : Str))) tNil)) tNil)) tNil)))) (tCons (tC (.str ("x" : Str))) (tCons (tTup tNil) tNil))))) tNil))))
      tNext)
    (tRet (tTup (tCons (tVar 3) (tCons (tTup (tCons (tC (.str ("name" : Str))) (tCons (tVar 3) tNil))) tNil)))))))))))

def ns_l_sign : List Str := ["draws", "compared", "signs", "many"]
def t_l_sign (K : PySem.W.Frag) (E : XK) : TS :=
  (tSeq (tAsg (tLst (tMenu (["+", "-", "*", "div", "mod", "+", "-", "==", "<", "<="].map mS))) (gName 2))
    (tSeq (tAsg (tC (.int 10)) (gName 3))
    (tSeq (tIfS (tB (tVar 1))
      (tAsg (tC (.int 7)) (gName 3))
      tNext)
    (tRet (tOp (rIxL K) (tVar 2) (tCall (sp_l_pick K) [] E (tCons (tVar 0) (tCons (tVar 3) tNil))))))))

def ns_l_told : List Str := ["text", "e"]
def t_l_told (K : PySem.W.Frag) (E : XK) : TS :=
  (tTry K (fun _ _ _ _ => False) (fun W => (tRet (tCallS (sp_parse_expr K) (WE W) (tCons (tVar 0) tNil)))) [(.ref (He.ga K ("Unexpected" : Str)), 1, fun xa xc xd => (tRet (tTup (tCons (tXf xa xc xd (He.ga K ("Unexpected" : Str)) ("row" : Str) (tVar 1)) (tCons (tXf xa xc xd (He.ga K ("Unexpected" : Str)) ("column" : Str) (tVar 1)) tNil)))))])

def ns_l_one : List Str := ["draws", "text", "tree", "trees", "signs", "k", "compared", "written", "row", "column"]
def t_l_one (K : PySem.W.Frag) (E : XK) : TS :=
  (tSeq (tAsg (tCall (sp_l_operand K) [] E (tCons (tVar 0) tNil)) (gTup K 2 (gCons (gName 1) (gCons (gName 2) gNil))))
    (tSeq (tAsg (tLst (tCons (tVar 2) tNil)) (gName 3))
    (tSeq (tAsg (tLst tNil) (gName 4))
    (tSeq (tFor (iRng1 (tCons (tCall (sp_l_pick K) [] E (tCons (tVar 0) (tCons (tC (.int 9)) tNil))) tNil)) (gName 5)
      (tSeq (tAsg (tOrV (tOp (rIn K false) (tC (.str ("==" : Str))) (tVar 4)) (tOrV (tOp (rIn K false) (tC (.str ("<" : Str))) (tVar 4)) (tOp (rIn K false) (tC (.str ("<=" : Str))) (tVar 4)))) (gName 6))
    (tSeq (tDrop (tBM K "list" rAppend (tVar 4) (tCons (tCall (sp_l_sign K) [] E (tCons (tVar 0) (tCons (tVar 6) tNil))) tNil)))
    (tSeq (tAsg (tCall (sp_l_operand K) [] E (tCons (tVar 0) tNil)) (gTup K 2 (gCons (gName 7) (gCons (gName 2) gNil))))
    (tSeq (tDrop (tBM K "list" rAppend (tVar 3) (tCons (tVar 2) tNil)))
    (tAsg (tOp rCatS (tOp rCatS (tOp rCatS (tOp rCatS (tVar 1) (tOp (rIxL K) (tLst (tMenu ([" ", "\n", " # and\n"].map mS))) (tCall (sp_l_pick K) [] E (tCons (tVar 0) (tCons (tC (.int 3)) tNil))))) (tOp (rIxL K) (tVar 4) (tUn rNegI (tC (.int 1))))) (tOp (rIxL K) (tLst (tCons (tC (.str (" " : Str))) (tCons (tC (.str ("\n " : Str))) tNil))) (tCall (sp_l_pick K) [] E (tCons (tVar 0) (tCons (tC (.int 2)) tNil))))) (tVar 7)) (gName 1)))))))
    (tSeq (tIfS (tTest (tOp (rNeD K) (tCall (sp_l_told K) [] E (tCons (tVar 1) tNil)) (tCall (sp_l_group K FU) [] E (tCons (tVar 3) (tCons (tVar 4) tNil)))))
      (tRet (tC (.bl false)))
      tNext)
    (tSeq (tAsg (tOp rAddI (tBM K "str" rCount (tVar 1) (tCons (tC (.str ("\n" : Str))) tNil)) (tC (.int 1))) (gName 8))
    (tSeq (tAsg (tOp rAddI (tOp rSubI (tCB rLenS (tCons (tVar 1) tNil)) (tBM K "str" rRfind (tVar 1) (tCons (tC (.str ("\n" : Str))) tNil))) (tC (.int 1))) (gName 9))
    (tSeq (tIfS (tOr (tTest (tOp (rIn K false) (tC (.str ("==" : Str))) (tVar 4))) (tOr (tTest (tOp (rIn K false) (tC (.str ("<" : Str))) (tVar 4))) (tTest (tOp (rIn K false) (tC (.str ("<=" : Str))) (tVar 4)))))
      (tRet (tAndV (tOp (rEqD K) (tCall (sp_l_told K) [] E (tCons (tOp rCatS (tVar 1) (tC (.str (" <= z" : Str)))) tNil)) (tTup (tCons (tVar 8) (tCons (tVar 9) tNil)))) (tOp (rEqD K) (tCall (sp_l_told K) [] E (tCons (tOp rCatS (tVar 1) (tC (.str (" == z + 1" : Str)))) tNil)) (tTup (tCons (tVar 8) (tCons (tVar 9) tNil))))))
      tNext)
    (tRet (tOp (rEqD K) (tCall (sp_l_told K) [] E (tCons (tOp rCatS (tVar 1) (tC (.str (" < z" : Str)))) tNil)) (tTup (tCons (tC (.str ("op" : Str))) (tCons (tC (.str ("<" : Str))) (tCons (tCall (sp_l_group K FU) [] E (tCons (tVar 3) (tCons (tVar 4) tNil))) (tCons (tTup (tCons (tC (.str ("name" : Str))) (tCons (tC (.str ("z" : Str))) tNil))) tNil)))))))))))))))

def ns_law : List Str := ["script", "draws", "k"]
def t_law (K : PySem.W.Frag) (E : XK) : TS :=
  (tSeq (tAsg (tCall (sp_l_stream K) [] E (tCons (tVar 0) (tCons (tC (.int 260)) tNil))) (gName 1))
    (tSeq (tFor (iRng1 (tCons (tCB rMin2 (tCons (tC (.int 12)) (tCons (tOp rAddI (tC (.int 1)) (tOp rFdivI (tCB (rLen K) (tCons (tDGet (tVar 1) (tC (.str ("row" : Str)))) tNil)) (tC (.int 10)))) tNil))) tNil)) (gName 2)
      (tIfS (tNot (tB (tCall (sp_l_one K) [] E (tCons (tVar 1) tNil))))
      (tRet (tC (.bl false)))
      tNext))
    (tRet (tC (.bl true)))))

section
variable {K : PySem.W.Frag} {vs : List V} {H : Hp} {Q : VK} {E : XK}
theorem _root_.Rm.Kept.alloc {d r a : Addr} {H H' : Hp} {o : HO} (k : Kept d H H') (D : Draws H' d r) (n : H' a = none) : Kept d H (upd H' a o) := k.put (k.free D.atD n)
theorem ifI {A B : Prop} {i j : Int} (h1 : i = j → A) (h2 : i ≠ j → B) : if decide (V.int i = V.int j) = true then A else B := by
  by_cases h : i = j
  · rw [decide_eq_true (congrArg V.int h)]
    exact iteT (h1 h)
  · rw [decide_eq_false fun z => h (V.int.inj z)]
    exact iteF (h2 h)
theorem num_small {n : Nat} (h : n < 50) : (((n : Nat) : Int)).natAbs.log2 < 1920 := by
  have e : ∀ n < 50, (((n : Nat) : Int)).natAbs.log2 < 1920 := by decide +kernel
  exact e n h
theorem run_l_operand (h : sp_l_operand K vs H Q E) : t_l_operand K E (DQ Q) (start ns_l_operand vs) H := by
  obtain ⟨d, r, rfl, hD, q⟩ := h
  refine ⟨_, rfl, d, 5, rfl, by decide, r, hD, fun j1 H1 a0 a1 D1 M1 => ?_⟩
  refine ⟨_, rfl, d, 50, rfl, by decide, r, D1, fun j2 H2 b0 b1 D2 M2 => ?_⟩
  refine ⟨(by show 5 ≤ sizeLine; decide), fun p np => ?_⟩
  have nd := Ne.symm (D2.neD np)
  refine ⟨_, rfl, d, 5, rfl, by decide, r, D2.fresh np, fun j3 H3 c0 c1 D3 M3 => ?_⟩
  have hp : H3 p = some (.lst (nameS.map mS)) := (M3 p nd).trans upd_same
  obtain ⟨s, hs, e⟩ := menu_at (ss := nameS) c0 c1
  refine ⟨p, _, _, _, rfl, rfl, SqL.of hp, e, ?_⟩
  have K2 : Kept d H H2 := (Kept.of_moved M1).trans (Kept.of_moved M2)
  have K3 : Kept d H H3 := (K2.alloc D2 np).trans (Kept.of_moved M3)
  obtain ⟨n, rfl⟩ : ∃ n : Nat, j2 = (n : Int) := ⟨j2.toNat, by omega⟩
  have hn : n < 50 := by omega
  have en : ((toString ((n : Nat) : Int) : String) : Str) = Tx (nT n) := by rw [Tx_of, (num_facts n hn).1]
  have ls : (codes s).length ≤ 10 := by
    have z : ∀ s ∈ nameS, (codes s).length ≤ 10 := by decide +kernel
    exact z s hs
  have ln : (nT n).length ≤ 10 := by
    have z : ∀ n < 50, (nT n).length ≤ 10 := by decide +kernel
    exact z n hn
  refine ⟨_, rfl, rfl, _, rfl, ifI (fun h => ?_) fun h0 => ?_⟩
  · refine ⟨_, rfl, _, rfl, num_small hn, _, rfl, (by show 2 ≤ sizeLine; decide), fun p1 n1 => ⟨(by show 2 ≤ sizeLine; decide), fun p2 n2 => ?_⟩⟩
    have D4 := D3.fresh (o := .tup [V.str ("num" : Str), V.int (n : Int)]) n1
    refine q p2 _ (catW (opdW 0 s n)) (.ref p1) (opdD 0 s n) (opdW 0 s n) ((K3.alloc D3 n1).alloc D4 n2) (D4.fresh n2) (upd_same.trans ?_) (.tup (TK.new n2 _ _ upd_same) (.cons (.str _) (.cons (.int _) .nil))) (opd_ok (by decide) hs hn)
    rw [en]
    show _ = some (HO.tup [V.str (Tx (nT n ++ [])), V.ref p1])
    rw [List.append_nil]
  refine ⟨_, rfl, rfl, _, rfl, ifI (fun h => ?_) fun h1 => ?_⟩
  · have e1 : Tx (codes s) ++ (".at(" : Str) = Tx (codes s ++ codes ".at(") := by rw [Tx_of, Tx_app]
    have l1 : (codes s ++ codes ".at(").length ≤ 14 := by
      rw [List.length_append]
      show (codes s).length + 4 ≤ 14
      omega
    have l2 : ((codes s ++ codes ".at(") ++ nT n).length ≤ 24 := by
      rw [List.length_append]
      omega
    refine ⟨_, rfl, _, _, rfl, rfl, (by show (codes s).length + 4 ≤ sizeLine; exact small_len (by omega)), _, rfl, _, rfl, num_small hn, _, _, rfl, rfl, ?_, _, _, rfl, rfl, ?_, _, rfl, (by show 2 ≤ sizeLine; decide), fun p1 n1 =>
      ⟨_, rfl, (by show 2 ≤ sizeLine; decide), fun p2 n2 => ⟨(by show 1 ≤ sizeLine; decide), fun p3 n3 => ⟨(by show 4 ≤ sizeLine; decide), fun p4 n4 => ⟨(by show 2 ≤ sizeLine; decide), fun p5 n5 => ?_⟩⟩⟩⟩⟩
    · rw [e1, en]
      exact small_len (show (codes s ++ codes ".at(").length + (nT n).length ≤ 10000000 by omega)
    · rw [e1, en, Tx_app]
      exact small_len (show ((codes s ++ codes ".at(") ++ nT n).length + 1 ≤ 10000000 by omega)
    have D4 := D3.fresh (o := .tup [V.str ("name" : Str), V.str (Tx (codes s))]) n1
    have D5 := D4.fresh (o := .tup [V.str ("num" : Str), V.int (n : Int)]) n2
    have D6 := D5.fresh (o := .tup [V.ref p2]) n3
    have D7 := D6.fresh (o := .tup [V.str ("send" : Str), V.ref p1, V.str ("at" : Str), V.ref p3]) n4
    have T1 := (Tr.tup (ds := [dS "name", dW (codes s)]) (upd_same (H := H3) (a := p1) (o := .tup [V.str ("name" : Str), V.str (Tx (codes s))])) (.cons (.str _) (.cons (.str _) .nil))).keep (TK.new (o := .tup [V.str ("num" : Str), V.int (n : Int)]) n2)
    have T2 := Tr.tup (ds := [dS "num", .int n]) (upd_same (a := p2) (o := .tup [V.str ("num" : Str), V.int (n : Int)]) (H := upd H3 p1 (.tup [V.str ("name" : Str), V.str (Tx (codes s))]))) (.cons (.str _) (.cons (.int _) .nil))
    have T3 := Tr.tup (upd_same (a := p3) (o := .tup [V.ref p2])) (.cons (T2.keep (TK.new n3)) .nil)
    have T4 := Tr.tup (upd_same (a := p4) (o := .tup [V.str ("send" : Str), V.ref p1, V.str ("at" : Str), V.ref p3])) (.cons (.str _) (.cons ((T1.keep (TK.new n3)).keep (TK.new n4)) (.cons (.str _) (.cons (T3.keep (TK.new n4)) .nil))))
    refine q p5 _ (catW (opdW 1 s n)) (.ref p4) (opdD 1 s n) (opdW 1 s n) (((((K3.alloc D3 n1).alloc D4 n2).alloc D5 n3).alloc D6 n4).alloc D7 n5) (D7.fresh n5) (upd_same.trans ?_) (T4.keep (TK.new n5)) (opd_ok (by decide) hs hn)
    rw [e1, en, Tx_app, Tx_of ")", Tx_app]
    have e3 : ((codes s ++ codes ".at(") ++ nT n) ++ codes ")" = catW (opdW 1 s n) := by
      have z : codes ".at(" = codes "." ++ (codes "at" ++ codes "(") := by decide
      rw [z]
      simp only [opdW, catW, List.append_assoc, List.append_nil]
    rw [e3]
  refine ⟨_, rfl, rfl, _, rfl, ifI (fun h => ?_) fun h2 => ?_⟩
  · refine ⟨(by show 1 ≤ sizeLine; decide), fun p1 n1 => ⟨(by show 0 ≤ sizeLine; decide), fun p2 n2 => ⟨(by show 3 ≤ sizeLine; decide), fun p3 n3 => ⟨(by show 2 ≤ sizeLine; decide), fun p4 n4 => ?_⟩⟩⟩⟩
    have D4 := D3.fresh (o := .tup [V.str ("self" : Str)]) n1
    have D5 := D4.fresh (o := .tup []) n2
    have D6 := D5.fresh (o := .tup [V.str ("call" : Str), V.ref p1, V.ref p2]) n3
    have T1 := Tr.tup (upd_same (H := H3) (a := p1) (o := .tup [V.str ("self" : Str)])) (.cons (.str _) .nil)
    have T2 := Tr.tup (upd_same (a := p2) (o := .tup []) (H := upd H3 p1 (.tup [V.str ("self" : Str)]))) .nil
    have T3 := Tr.tup (upd_same (a := p3) (o := .tup [V.str ("call" : Str), V.ref p1, V.ref p2])) (.cons (.str _) (.cons ((T1.keep (TK.new n2)).keep (TK.new n3)) (.cons (T2.keep (TK.new n3)) .nil)))
    refine q p4 _ (catW (opdW 2 s n)) (.ref p3) (opdD 2 s n) (opdW 2 s n) ((((K3.alloc D3 n1).alloc D4 n2).alloc D5 n3).alloc D6 n4) (D6.fresh n4) (upd_same.trans ?_) (T3.keep (TK.new n4)) (opd_ok (by decide) hs hn)
    have e3 : ("self.call()" : Str) = Tx (catW (opdW 2 s n)) := Tx_of "self.call()"
    rw [e3]
  refine ⟨_, rfl, rfl, _, rfl, ifI (fun h => ?_) fun h3 => ?_⟩
  · have e1 : Tx (codes s) ++ ("(true).x()" : Str) = Tx (codes s ++ codes "(true).x()") := by rw [Tx_of, Tx_app]
    refine ⟨_, rfl, _, _, rfl, rfl, (by show (codes s).length + 10 ≤ sizeLine; exact small_len (by omega)), _, rfl, (by show 1 ≤ sizeLine; decide), fun p1 n1 => ⟨(by show 1 ≤ sizeLine; decide), fun p2 n2 => ⟨(by show 3 ≤ sizeLine; decide), fun p3 n3 =>
      ⟨(by show 0 ≤ sizeLine; decide), fun p4 n4 => ⟨(by show 4 ≤ sizeLine; decide), fun p5 n5 => ⟨(by show 2 ≤ sizeLine; decide), fun p6 n6 => ?_⟩⟩⟩⟩⟩⟩
    have D4 := D3.fresh (o := .tup [V.str ("true" : Str)]) n1
    have D5 := D4.fresh (o := .tup [V.ref p1]) n2
    have D6 := D5.fresh (o := .tup [V.str ("own" : Str), V.str (Tx (codes s)), V.ref p2]) n3
    have D7 := D6.fresh (o := .tup []) n4
    have D8 := D7.fresh (o := .tup [V.str ("send" : Str), V.ref p3, V.str ("x" : Str), V.ref p4]) n5
    have T1 := Tr.tup (upd_same (H := H3) (a := p1) (o := .tup [V.str ("true" : Str)])) (.cons (.str _) .nil)
    have T2 := Tr.tup (upd_same (a := p2) (o := .tup [V.ref p1])) (.cons (T1.keep (TK.new n2)) .nil)
    have T3 := Tr.tup (upd_same (a := p3) (o := .tup [V.str ("own" : Str), V.str (Tx (codes s)), V.ref p2])) (.cons (.str _) (.cons (.str _) (.cons (T2.keep (TK.new n3)) .nil)))
    have T4 := T3.keep (TK.new (o := .tup []) n4)
    have T5 := Tr.tup (upd_same (a := p5) (o := .tup [V.str ("send" : Str), V.ref p3, V.str ("x" : Str), V.ref p4])) (.cons (.str _) (.cons (T4.keep (TK.new n5)) (.cons (.str _) (.cons ((Tr.tup upd_same .nil).keep (TK.new n5)) .nil))))
    refine q p6 _ (catW (opdW 3 s n)) (.ref p5) (opdD 3 s n) (opdW 3 s n) ((((((K3.alloc D3 n1).alloc D4 n2).alloc D5 n3).alloc D6 n4).alloc D7 n5).alloc D8 n6) (D8.fresh n6) (upd_same.trans ?_) (T5.keep (TK.new n6)) (opd_ok (by decide) hs hn)
    rw [e1]
    have e3 : codes s ++ codes "(true).x()" = catW (opdW 3 s n) := by
      have z : codes "(true).x()" = codes "(" ++ (codes "true" ++ (codes ")" ++ (codes "." ++ (codes "x" ++ (codes "(" ++ codes ")"))))) := by decide
      rw [z]
      simp only [opdW, catW, List.append_assoc, List.append_nil]
    rw [e3]
  · refine ⟨_, rfl, _, rfl, (by show 2 ≤ sizeLine; decide), fun p1 n1 => ⟨(by show 2 ≤ sizeLine; decide), fun p2 n2 => ?_⟩⟩
    have D4 := D3.fresh (o := .tup [V.str ("name" : Str), V.str (Tx (codes s))]) n1
    refine q p2 _ (catW (opdW 4 s n)) (.ref p1) (opdD 4 s n) (opdW 4 s n) ((K3.alloc D3 n1).alloc D4 n2) (D4.fresh n2) (upd_same.trans ?_) (.tup (TK.new n2 _ _ upd_same) (.cons (.str _) (.cons (.str _) .nil))) (opd_ok (by decide) hs hn)
    have e3 : codes s = catW (opdW 4 s n) := by
      simp only [opdW, catW, List.append_nil]
    rw [← e3]
theorem menu_ix {ss : List String} {j : Int} (h0 : 0 ≤ j) (h1 : j < (ss.length : Int)) : ∃ k s, ss[k]? = some s ∧ j = ((k : Nat) : Int) ∧ atI (ss.map mS) j = some (.str (Tx (codes s))) := by
  obtain ⟨n, rfl⟩ : ∃ n : Nat, j = (n : Int) := ⟨j.toNat, by omega⟩
  have hn : n < ss.length := by omega
  refine ⟨n, ss[n], List.getElem?_eq_getElem hn, rfl, atI_nat ?_⟩
  rw [List.getElem?_map, List.getElem?_eq_getElem hn, ← mS_eq]
  rfl
theorem first7 : ∀ k < 7, ∀ s, signS[k]? = some s → 2 ≤ lev (codes s) := by
  have z : ∀ k < 7, (signS[k]?.all fun s => decide (2 ≤ lev (codes s))) = true := by decide +kernel
  intro k hk s e
  have := z k hk
  rw [e] at this
  simpa using this
theorem run_l_sign (h : sp_l_sign K vs H Q E) : t_l_sign K E (DQ Q) (start ns_l_sign vs) H := by
  obtain ⟨d, r, b, rfl, hD, q⟩ := h
  refine ⟨(by show 10 ≤ sizeLine; decide), fun p np => ?_⟩
  have nd := Ne.symm (hD.neD np)
  have D0 := hD.fresh (o := .lst (signS.map mS)) np
  have K0 : Kept d H (upd H p (.lst (signS.map mS))) := (Kept.refl d H).put np
  have fin : ∀ m : Int, 0 < m → m ≤ 10 → (b = true → m = 7) → (tRet (tOp (rIxL K) (tVar 2) (tCall (sp_l_pick K) [] E (tCons (tVar 0) (tCons (tVar 3) tNil))))) (DQ Q) [some (.ref d), some (.bl b), some (.ref p), some (.int m)] (upd H p (.lst (signS.map mS))) := fun m m0 m1 mb => by
    refine ⟨_, rfl, _, rfl, _, rfl, d, m, rfl, m0, r, D0, fun j H1 j0 j1 D1 M1 => ?_⟩
    have hp : H1 p = some (.lst (signS.map mS)) := (M1 p nd).trans upd_same
    obtain ⟨k, s, hs, ek, e⟩ := menu_ix (ss := signS) j0 (show j < 10 by omega)
    refine ⟨p, _, _, _, rfl, rfl, SqL.of hp, e, q _ s (K0.trans (Kept.of_moved M1)) D1 (List.mem_of_getElem? hs) fun hb => first7 k ?_ s hs⟩
    have := mb hb
    omega
  refine ⟨_, rfl, b, rfl, ?_⟩
  cases b with
  | true => exact iteT (fin 7 (by decide) (by decide) fun _ => rfl)
  | false => exact iteF (fin 10 (by decide) (by decide) fun z => by cases z)
theorem cut_take (xs : List V) (k : Nat) : cutV xs none (some (k : Int)) = xs.take k := by
  unfold cutV
  rw [HT.sIx_none, HT.sIx_nat, List.drop_zero, Nat.sub_zero]
  rcases Nat.le_total k xs.length with h | h
  · rw [Nat.min_eq_left h]
  · rw [Nat.min_eq_right h, List.take_length, List.take_of_length_le h]
theorem cut_drop (xs : List V) (k : Nat) : cutV xs (some (k : Int)) none = xs.drop k := by
  unfold cutV
  rw [HT.sIx_none, HT.sIx_nat]
  rcases Nat.le_total k xs.length with h | h
  · rw [Nat.min_eq_left h]
    exact List.take_of_length_le (by rw [List.length_drop]; exact Nat.le_refl _)
  · rw [Nat.min_eq_right h, List.drop_length, List.drop_of_length_le h, List.take_nil]
theorem Trs.take {H : Hp} : ∀ (k : Nat) {vs : List V} {ds : List PyData}, Trs H vs ds → Trs H (vs.take k) (ds.take k)
  | 0, _, _, _ => .nil
  | k + 1, _, _, .nil => .nil
  | k + 1, _, _, .cons h r => .cons h (Trs.take k r)
theorem Trs.drop {H : Hp} : ∀ (k : Nat) {vs : List V} {ds : List PyData}, Trs H vs ds → Trs H (vs.drop k) (ds.drop k)
  | 0, _, _, h => h
  | k + 1, _, _, .nil => .nil
  | k + 1, _, _, .cons _ r => Trs.drop k r
theorem tk_same {H H' : Hp} (s : Same H H') : TK H H' := fun a xs h => s a _ h
/-- the signs of one level -/
def levS : Nat → List (List Nat)
  | 0 => lev1
  | 1 => lev2
  | _ => lev3
theorem lev_in (x : List Nat) (i : Nat) (hi : i < 3) : x ∈ levS i ↔ lev x = (i : Int) + 1 := by
  have d1 : ∀ y ∈ lev1, lev y = 1 := by decide +kernel
  have d2 : ∀ y ∈ lev2, lev y = 2 := by decide +kernel
  have d3 : ∀ y ∈ lev3, lev y = 3 := by decide +kernel
  have a1 : lev x = 1 → x ∈ lev1 := fun e => by
    unfold lev at e
    split at e
    · assumption
    · split at e
      · omega
      · split at e <;> omega
  have a2 : lev x = 2 → x ∈ lev2 := fun e => by
    unfold lev at e
    split at e
    · omega
    · split at e
      · assumption
      · split at e <;> omega
  have a3 : lev x = 3 → x ∈ lev3 := fun e => by
    unfold lev at e
    split at e
    · omega
    · split at e
      · omega
      · split at e
        · assumption
        · omega
  obtain rfl | rfl | rfl : i = 0 ∨ i = 1 ∨ i = 2 := by omega
  · exact ⟨fun h => d1 x h, fun e => a1 e⟩
  · exact ⟨fun h => d2 x h, fun e => a2 e⟩
  · exact ⟨fun h => d3 x h, fun e => a3 e⟩
/-- where the last sign of a level stands in a row, or -1 -/
def LastAt (L : Int) (m : List Pr) (at_ : Int) : Prop := (at_ = -1 ∧ ∀ p ∈ m, lev p.1.text ≠ L) ∨ ∃ A p B, m = A ++ p :: B ∧ at_ = (A.length : Int) ∧ lev p.1.text = L ∧ ∀ q ∈ B, lev q.1.text ≠ L
theorem LastAt.snoc_yes {L : Int} {m : List Pr} {p : Pr} (h : lev p.1.text = L) : LastAt L (m ++ [p]) (m.length : Int) := .inr ⟨m, p, [], rfl, rfl, h, fun _ h => by cases h⟩
theorem LastAt.snoc_no {L at_ : Int} {m : List Pr} {p : Pr} (k : LastAt L m at_) (h : lev p.1.text ≠ L) : LastAt L (m ++ [p]) at_ := by
  rcases k with ⟨e, k⟩ | ⟨A, q, B, e, e2, k1, k2⟩
  · refine .inl ⟨e, fun q hq => ?_⟩
    rcases List.mem_append.mp hq with hq | hq
    · exact k q hq
    · rw [List.mem_singleton.mp hq]
      exact h
  · refine .inr ⟨A, q, B ++ [p], by rw [e, List.append_assoc]; rfl, e2, k1, fun z hz => ?_⟩
    rcases List.mem_append.mp hz with hz | hz
    · exact k2 z hz
    · rw [List.mem_singleton.mp hz]
      exact h
/-- a row split at the last sign of its lowest level -/
theorem cl1_split {i : Nat} {m A B : List Pr} {p : Pr} {d : PyData} (hi : i < 3) (one : OneC m) (low : ∀ q ∈ m, (i : Int) + 1 ≤ lev q.1.text) (e : m = A ++ p :: B) (hp : lev p.1.text = (i : Int) + 1) (hB : ∀ q ∈ B, lev q.1.text ≠ (i : Int) + 1) :
    (cl 1 d m).1 = nd p.1.text (cl 1 d A).1 (cl 1 p.2.2 B).1 ∧ OneC A ∧ OneC B := by
  subst e
  have lA : ∀ q ∈ A, (i : Int) + 1 ≤ lev q.1.text := fun q hq => low q (List.mem_append_left _ hq)
  have lB : ∀ q ∈ B, (i : Int) + 2 ≤ lev q.1.text := fun q hq => by
    have a := low q (List.mem_append_right _ (List.mem_cons_of_mem _ hq))
    have b := hB q hq
    omega
  obtain rfl | rfl | rfl : i = 0 ∨ i = 1 ∨ i = 2 := by omega
  · obtain ⟨a, b⟩ := one A p B rfl hp
    rw [cl1_one a b hp]
    exact ⟨rfl, .none a, .none b⟩
  · exact ⟨cl1_two lA lB hp, .none lA, .none fun q hq => by have := lB q hq; omega⟩
  · have eB : B = [] := by
      cases B with
      | nil => rfl
      | cons q B =>
        have a := lB q List.mem_cons_self
        have b := (lev_le q.1.text).2
        omega
    subst eB
    exact ⟨cl1_three lA hp, .none fun q hq => by have := lA q hq; omega, .none fun q hq => by cases hq⟩
def GIv (a b p1 p2 p3 : Addr) (G0 : Hp) (m : List Pr) (i : Nat) (σ : L2.St) (G : Hp) : Prop := G = G0 ∧ i ≤ 3 ∧ (∀ q ∈ m, (i : Int) + 1 ≤ lev q.1.text) ∧ ∃ v2 v3 v4 : Option V, σ = [some (.ref a), some (.ref b), v2, v3, v4, none]
def GIn (a b p : Addr) (G0 : Hp) (m : List Pr) (L : Int) (k : Nat) (σ : L2.St) (G : Hp) : Prop := G = G0 ∧ ∃ (at_ : Int) (v4 : Option V), σ = [some (.ref a), some (.ref b), some (.ref p), some (.int at_), v4, none] ∧ LastAt L (m.take k) at_
theorem run_l_group {w : World} {n : Nat} (h : sp_l_group K (n + 1) vs H Q E) : t_l_group K w n E (DQ Q) (start ns_l_group vs) H := by
  obtain ⟨a, b, ys, d0, m, rfl, ha, tr, hb, hn, hm, one, low, q⟩ := h
  refine ⟨(by show 3 ≤ sizeLine; decide), fun p1 n1 => ⟨(by show 2 ≤ sizeLine; decide), fun p2 n2 => ⟨(by show 3 ≤ sizeLine; decide), fun p3 n3 => ⟨(by show 3 ≤ sizeLine; decide), fun pl nl => ?_⟩⟩⟩⟩
  have hm1 : (["==", "<", "<="].map mS) = lev1.map fun k => V.str (Tx k) := by
    unfold lev1
    simp only [List.map_cons, List.map_nil, mS_eq]
  have hm2 : [V.str ("+" : Str), V.str ("-" : Str)] = lev2.map fun k => V.str (Tx k) := by
    unfold lev2
    show [mS "+", mS "-"] = _
    simp only [List.map_cons, List.map_nil, mS_eq]
  have hm3 : (["*", "div", "mod"].map mS) = lev3.map fun k => V.str (Tx k) := by
    unfold lev3
    simp only [List.map_cons, List.map_nil, mS_eq]
  have s1 := same_upd (o := .tup (["==", "<", "<="].map mS)) n1
  have s2 := same_upd (o := .tup [V.str ("+" : Str), V.str ("-" : Str)]) n2
  have s3 := same_upd (o := .tup (["*", "div", "mod"].map mS)) n3
  have s4 := same_upd (o := .lst [V.ref p1, V.ref p2, V.ref p3]) nl
  have S0 := ((s1.trans s2).trans s3).trans s4
  have ht : ∀ i < 3, ∃ p, [V.ref p1, V.ref p2, V.ref p3][i]? = some (.ref p) ∧ (upd (upd (upd (upd H p1 (.tup (["==", "<", "<="].map mS))) p2 (.tup [V.str ("+" : Str), V.str ("-" : Str)])) p3 (.tup (["*", "div", "mod"].map mS))) pl (.lst [V.ref p1, V.ref p2, V.ref p3])) p = some (.tup ((levS i).map fun k => V.str (Tx k))) := fun i hi => by
    obtain rfl | rfl | rfl : i = 0 ∨ i = 1 ∨ i = 2 := by omega
    · exact ⟨p1, rfl, by rw [(((s2.trans s3).trans s4) _ _ upd_same), hm1]; rfl⟩
    · exact ⟨p2, rfl, by rw [((s3.trans s4) _ _ upd_same), hm2]; rfl⟩
    · exact ⟨p3, rfl, by rw [(s4 _ _ upd_same), hm3]; rfl⟩
  have hL : (upd (upd (upd (upd H p1 (.tup (["==", "<", "<="].map mS))) p2 (.tup [V.str ("+" : Str), V.str ("-" : Str)])) p3 (.tup (["*", "div", "mod"].map mS))) pl (.lst [V.ref p1, V.ref p2, V.ref p3])) pl = some (.lst [V.ref p1, V.ref p2, V.ref p3]) := upd_same
  generalize (upd (upd (upd (upd H p1 (.tup (["==", "<", "<="].map mS))) p2 (.tup [V.str ("+" : Str), V.str ("-" : Str)])) p3 (.tup (["*", "div", "mod"].map mS))) pl (.lst [V.ref p1, V.ref p2, V.ref p3])) = G0 at S0 ht hL ⊢
  refine ⟨pl, rfl, ⟨_, SqL.of hL⟩, ?_⟩
  have ha0 := S0 _ _ ha
  have hb0 := S0 _ _ hb
  have tr0 := tr.keep (tk_same S0)
  refine for_list (xs := [V.ref p1, V.ref p2, V.ref p3]) (GIv a b p1 p2 p3 G0 m) ⟨rfl, by decide, fun p hp => low p hp, none, none, none, rfl⟩ (fun i σ G _ e => by rw [e.1]; exact SqL.of hL) ?_ ?_
  · rintro i x σ G hx ⟨rfl, hi3, lw, v2, v3, v4, rfl⟩
    have hi : i < 3 := (List.getElem?_eq_some_iff.mp hx).1
    obtain ⟨p, ep, hp⟩ := ht i hi
    rw [ep] at hx
    cases hx
    refine ⟨_, rfl, ?_⟩
    refine ⟨_, rfl, _, _, rfl, .inl ⟨_, SqL.of hb0, rfl⟩, _, rfl, by rw [List.length_map]; omega, by rw [List.length_map]; omega, ?_⟩
    rw [Int.toNat_natCast]
    refine for_range (lo := 0) (n := (m.map fun p => V.str (Tx p.1.text)).length) (GIn a b p G m ((i : Int) + 1)) ⟨rfl, -1, v4, rfl, .inl ⟨rfl, fun q hq => by cases hq⟩⟩ ?_ ?_
    · rintro k σ G hk ⟨rfl, at_, v4, rfl, la⟩
      rw [List.length_map] at hk
      have ek : m.take (k + 1) = m.take k ++ [m[k]] := by rw [List.take_add_one, List.getElem?_eq_getElem hk]; rfl
      have gk : (m.map fun p => V.str (Tx p.1.text))[k]? = some (.str (Tx (m[k]).1.text)) := by rw [List.getElem?_map, List.getElem?_eq_getElem hk]; rfl
      refine ⟨_, rfl, _, rfl, b, _, _, _, rfl, rfl, SqL.of hb0, by rw [Int.zero_add]; exact atI_nat gk, _, rfl, p, _, rfl, .inr (SqT.of hp), rfl, List.all_eq_true.mpr (fun y hy => by obtain ⟨z, _, rfl⟩ := List.mem_map.mp hy; rfl), _, rfl, ?_⟩
      show (if inV (.str (Tx (m[k]).1.text)) ((levS i).map fun k => V.str (Tx k)) = true then _ else _)
      rw [in_list]
      refine ite2 (fun c => ?_) (fun c => ?_)
      · have c := (lev_in _ i hi).mp (of_decide_eq_true c)
        refine ⟨_, rfl, rfl, (k : Int), some (.int (0 + (k : Int))), ?_, ?_⟩
        · rw [Int.zero_add]
          rfl
        · rw [ek]
          have l : ((m.take k).length : Int) = (k : Int) := by rw [List.length_take]; omega
          rw [← l]
          exact .snoc_yes c
      · have c : lev (m[k]).1.text ≠ (i : Int) + 1 := fun z => c (decide_eq_true ((lev_in _ i hi).mpr z))
        exact ⟨rfl, at_, _, rfl, by rw [ek]; exact la.snoc_no c⟩
    · rintro σ G ⟨rfl, at_, v4, rfl, la⟩
      rw [List.length_map, List.take_length] at la
      refine ⟨_, rfl, _, _, rfl, rfl, _, rfl, ?_⟩
      rcases la with ⟨rfl, la⟩ | ⟨A, pr, B, em, rfl, hl, hB⟩
      · refine iteF ⟨rfl, by omega, fun q hq => ?_, _, _, _, rfl⟩
        have a := lw q hq
        have b := la q hq
        omega
      · rw [decide_eq_true (show (0 : Int) ≤ (A.length : Int) by omega)]
        refine iteT ?_
        obtain ⟨ec, oA, oB⟩ := cl1_split (d := d0) hi one lw em hl hB
        have lm : m.length = A.length + (B.length + 1) := by rw [em, List.length_append, List.length_cons]
        have e1 : (A.length : Int) + 1 = ((A.length + 1 : Nat) : Int) := by omega
        -- the first half
        refine ⟨_, rfl, _, rfl, _, _, rfl, rfl, _, rfl, a, ys, rfl, SqL.of ha0, fun l1 nl1 => ?_⟩
        rw [e1, cut_take]
        have t1 := same_upd (o := .lst (ys.take (A.length + 1))) nl1
        refine ⟨_, rfl, _, rfl, _, rfl, b, _, rfl, SqL.of (t1 _ _ hb0), fun l2 nl2 => ?_⟩
        rw [cut_take]
        have t2 := same_upd (o := .lst ((m.map fun p => V.str (Tx p.1.text)).take A.length)) nl2
        have trA : Trs G (ys.take (A.length + 1)) (d0 :: A.map fun p => p.2.2) := by
          have z := Trs.take (A.length + 1) tr0
          have e : (d0 :: m.map fun p => p.2.2).take (A.length + 1) = d0 :: A.map fun p => p.2.2 := by
            rw [em, List.take_succ_cons, List.map_append, List.take_left' (by rw [List.length_map])]
          rw [e] at z
          exact z
        have trB : Trs G (ys.drop (A.length + 1)) (pr.2.2 :: B.map fun p => p.2.2) := by
          have z := Trs.drop (A.length + 1) tr0
          have e : (d0 :: m.map fun p => p.2.2).drop (A.length + 1) = pr.2.2 :: B.map fun p => p.2.2 := by
            rw [em, List.drop_succ_cons, List.map_append, List.drop_left' (by rw [List.length_map])]
            rfl
          rw [e] at z
          exact z
        have sgA : (m.map fun p => V.str (Tx p.1.text)).take A.length = A.map fun p => V.str (Tx p.1.text) := by
          rw [em, List.map_append, List.take_left' (by rw [List.length_map])]
        have sgB : (m.map fun p => V.str (Tx p.1.text)).drop (A.length + 1) = B.map fun p => V.str (Tx p.1.text) := by
          rw [em, List.map_append, List.map_cons]
          have e : (A.map (fun p => V.str (Tx p.1.text)) ++ V.str (Tx pr.1.text) :: B.map fun p => V.str (Tx p.1.text)) = (A.map (fun p => V.str (Tx p.1.text)) ++ [V.str (Tx pr.1.text)]) ++ B.map fun p => V.str (Tx p.1.text) := by rw [List.append_assoc]; rfl
          rw [e, List.drop_left' (by rw [List.length_append, List.length_map]; rfl)]
        refine ⟨l1, l2, _, d0, A, rfl, t2 _ _ upd_same, trA.keep (tk_same (t1.trans t2)), by rw [upd_same, sgA], by omega, by omega, oA, fun z hz => low z (by rw [em]; exact List.mem_append_left _ hz), fun vA GA sA tA => ?_⟩
        have sgA2 : (m.map fun p => V.str (Tx p.1.text))[A.length]? = some (.str (Tx pr.1.text)) := by
          rw [em, List.map_append, List.getElem?_append_right (by rw [List.length_map]; exact Nat.le_refl _), List.length_map, Nat.sub_self]
          rfl
        have TA := (t1.trans t2).trans sA
        refine ⟨_, rfl, _, rfl, b, _, _, _, rfl, rfl, SqL.of (TA _ _ hb0), atI_nat sgA2, _, rfl, _, rfl, _, rfl, _, _, rfl, rfl, _, rfl, a, ys, rfl, SqL.of (TA _ _ ha0), fun l3 nl3 => ?_⟩
        rw [e1, cut_drop]
        have t3 := same_upd (o := .lst (ys.drop (A.length + 1))) nl3
        refine ⟨_, rfl, _, rfl, _, _, rfl, rfl, _, rfl, b, _, rfl, SqL.of (t3 _ _ (TA _ _ hb0)), fun l4 nl4 => ?_⟩
        rw [e1, cut_drop]
        have t4 := same_upd (o := .lst ((m.map fun p => V.str (Tx p.1.text)).drop (A.length + 1))) nl4
        refine ⟨l3, l4, _, pr.2.2, B, rfl, t4 _ _ upd_same, trB.keep (tk_same ((TA.trans t3).trans t4)), by rw [upd_same, sgB], by omega, by omega, oB, fun z hz => low z (by rw [em]; exact List.mem_append_right _ (List.mem_cons_of_mem _ hz)), fun vB GB sB tB => ?_⟩
        refine ⟨(by show 4 ≤ sizeLine; decide), fun qa nqa => ?_⟩
        have TB := (t3.trans t4).trans sB
        have t5 := same_upd (o := .tup [V.str ("op" : Str), V.str (Tx pr.1.text), vA, vB]) nqa
        refine q _ _ (((S0.trans TA).trans TB).trans t5) ?_
        rw [ec]
        exact .tup upd_same (.cons (.str _) (.cons (.str _) (.cons (tA.keep (tk_same (TB.trans t5))) (.cons (tB.keep (tk_same t5)) .nil))))
  · rintro σ G ⟨rfl, _, lw, v2, v3, v4, rfl⟩
    have em : m = [] := by
      cases m with
      | nil => rfl
      | cons p m =>
        have a := lw p List.mem_cons_self
        have b := (lev_le p.1.text).2
        have a : (3 : Int) + 1 ≤ lev p.1.text := a
        omega
    subst em
    cases tr0 with
    | cons t1 t2 =>
      cases t2
      exact ⟨_, rfl, a, _, _, _, rfl, rfl, SqL.of ha0, rfl, q _ _ S0 t1⟩
/-- what the classes say of one another -/
theorem run_l_told (ex : PySem.W.exmOne K (.ref (He.ga K ("Unexpected" : Str))) (.ref (He.ga K ("Unexpected" : Str))) = some true) (h : sp_l_told K vs H Q E) : t_l_told K E (DQ Q) (start ns_l_told vs) H := by
  obtain ⟨l, ts, rfl, hl, hx, h⟩ := h
  rcases h with ⟨d, r, hp, q⟩ | ⟨r, c, hp, hr, hc, q⟩
  · refine ⟨_, rfl, l, ts, rfl, hl, hx, (by rw [hp]; intro z; cases z), fun d2 r2 v H1 e1 s1 t1 => ?_, fun r2 c2 H1 e1 s1 => by rw [hp] at e1; cases e1⟩
    rw [hp] at e1
    cases e1
    exact q v H1 s1 t1
  · refine ⟨_, rfl, l, ts, rfl, hl, hx, (by rw [hp]; intro z; cases z), (fun d2 r2 v H1 e1 s1 t1 => by rw [hp] at e1; cases e1), fun r2 c2 H1 e1 s1 => ?_⟩
    rw [hp] at e1
    cases e1
    refine ⟨hr, hc, fun dd nd => ?_⟩
    have row : (exF r c).lookup ("row" : Str) = some (.int r) := by
      unfold exF
      rw [lookup_put, if_neg (by decide +kernel), lookup_put, if_pos rfl]
    have col : (exF r c).lookup ("column" : Str) = some (.int c) := by
      unfold exF
      rw [lookup_put, if_pos rfl]
    refine ⟨true, ex, fun _ a na => ?_, fun z => nomatch z⟩
    refine ⟨_, rfl, rfl, rfl, dd, _, _, rfl, upd_same, row, _, rfl, rfl, rfl, dd, _, _, rfl, upd_same, col, (by show 2 ≤ sizeLine; decide), fun p np => ?_⟩
    refine q p _ (fun b o e => ?_) upd_same
    have s2 := same_upd (o := .xd (exF r c)) nd b o (s1 b o e)
    rw [upd_ne (ne_of_none s2 np)]
    exact s2
/-- the three asked, as a value and as a test -/
theorem cmp3 {a4 : Addr} {S : List (List Nat)} {σ : L2.St} {G : Hp} {Y : VK} (h4 : σ[4]? = some (some (.ref a4))) (hs : G a4 = some (.lst (S.map fun k => V.str (Tx k)))) (y : Y (.bl (cmpB S)) G) :
    (tOrV (tOp (rIn K false) (tC (.str ("==" : Str))) (tVar 4)) (tOrV (tOp (rIn K false) (tC (.str ("<" : Str))) (tVar 4)) (tOp (rIn K false) (tC (.str ("<=" : Str))) (tVar 4)))) σ G Y := by
  have fl : (S.map fun k => V.str (Tx k)).all flatV = true := List.all_eq_true.mpr (fun y hy => by obtain ⟨z, _, rfl⟩ := List.mem_map.mp hy; rfl)
  have iv : ∀ s : String, inV (.str (s : Str)) (S.map fun k => V.str (Tx k)) = decide (codes s ∈ S) := fun s => by rw [Tx_of]; exact in_list S (codes s)
  refine ⟨_, h4, a4, _, rfl, .inl (SqL.of hs), rfl, fl, _, rfl, ?_⟩
  show (if inV (.str ("==" : Str)) (S.map fun k => V.str (Tx k)) = true then _ else _)
  rw [iv "=="]
  unfold cmpB at y
  refine ite2 (fun c => ?_) (fun c => ?_)
  · rw [c, Bool.true_or] at y
    exact y
  · have c : decide (codes "==" ∈ S) = false := by simpa using c
    rw [c, Bool.false_or] at y
    refine ⟨_, h4, a4, _, rfl, .inl (SqL.of hs), rfl, fl, _, rfl, ?_⟩
    show (if inV (.str ("<" : Str)) (S.map fun k => V.str (Tx k)) = true then _ else _)
    rw [iv "<"]
    refine ite2 (fun c => ?_) (fun c => ?_)
    · rw [c, Bool.true_or] at y
      exact y
    · have c : decide (codes "<" ∈ S) = false := by simpa using c
      rw [c, Bool.false_or] at y
      refine ⟨_, h4, a4, _, rfl, .inl (SqL.of hs), rfl, fl, ?_⟩
      show Y (.bl (inV (.str ("<=" : Str)) (S.map fun k => V.str (Tx k)))) G
      rw [iv "<="]
      exact y
theorem cmp3T {a4 : Addr} {S : List (List Nat)} {σ : L2.St} {G : Hp} {Y : Bool → Hp → Prop} (h4 : σ[4]? = some (some (.ref a4))) (hs : G a4 = some (.lst (S.map fun k => V.str (Tx k)))) (y : Y (cmpB S) G) :
    (tOr (tTest (tOp (rIn K false) (tC (.str ("==" : Str))) (tVar 4))) (tOr (tTest (tOp (rIn K false) (tC (.str ("<" : Str))) (tVar 4))) (tTest (tOp (rIn K false) (tC (.str ("<=" : Str))) (tVar 4))))) σ G Y := by
  have fl : (S.map fun k => V.str (Tx k)).all flatV = true := List.all_eq_true.mpr (fun y hy => by obtain ⟨z, _, rfl⟩ := List.mem_map.mp hy; rfl)
  have iv : ∀ s : String, inV (.str (s : Str)) (S.map fun k => V.str (Tx k)) = decide (codes s ∈ S) := fun s => by rw [Tx_of]; exact in_list S (codes s)
  refine ⟨_, h4, a4, _, rfl, .inl (SqL.of hs), rfl, fl, _, rfl, ?_⟩
  show (if inV (.str ("==" : Str)) (S.map fun k => V.str (Tx k)) = true then _ else _)
  rw [iv "=="]
  unfold cmpB at y
  refine ite2 (fun c => ?_) (fun c => ?_)
  · rw [c, Bool.true_or] at y
    exact y
  · have c : decide (codes "==" ∈ S) = false := by simpa using c
    rw [c, Bool.false_or] at y
    refine ⟨_, h4, a4, _, rfl, .inl (SqL.of hs), rfl, fl, _, rfl, ?_⟩
    show (if inV (.str ("<" : Str)) (S.map fun k => V.str (Tx k)) = true then _ else _)
    rw [iv "<"]
    refine ite2 (fun c => ?_) (fun c => ?_)
    · rw [c, Bool.true_or] at y
      exact y
    · have c : decide (codes "<" ∈ S) = false := by simpa using c
      rw [c, Bool.false_or] at y
      refine ⟨_, h4, a4, _, rfl, .inl (SqL.of hs), rfl, fl, _, rfl, ?_⟩
      show Y (inV (.str ("<=" : Str)) (S.map fun k => V.str (Tx k))) G
      rw [iv "<="]
      exact y
/-- what is known of a row that has been written -/
structure RowOk (t : List Nat) (d0 : PyData) (W0 : List Wd) (its : List Itm) : Prop where
  len : t.length ≤ 40 + 60 * its.length
  lex : RowLex t (W0 ++ itW its)
  reads : Reads W0 d0
  itsOk : ItOk its
  lay0 : Lay d0
  lay : ∀ i ∈ its, i.1 ∈ signS ∧ Lay i.2.2
  one : OneT (sgs its)
theorem RowOk.first {t : List Nat} {d0 : PyData} {W0 : List Wd} (h : OpdOk t d0 W0) : RowOk t d0 W0 [] := by
  obtain ⟨h1, h2, h3, h4, h5, h6⟩ := h
  refine ⟨h4, ?_, h3, (fun i hi => by cases hi), ⟨h5, h6⟩, (fun i hi => by cases hi), .nil⟩
  have e := RowLex.chain h2
  rw [h1] at e
  rw [show itW [] = [] from rfl, List.append_nil]
  exact e
theorem RowOk.sgs_ge {t : List Nat} {d0 : PyData} {W0 : List Wd} {its : List Itm} (h : RowOk t d0 W0 its) : ∀ y ∈ sgs its, 1 ≤ lev y := fun y hy => by
  obtain ⟨i, hi, rfl⟩ := List.mem_map.mp hy
  exact (sign_ok _ (h.itsOk i hi).1).2.1
theorem RowOk.more {t x g1 g2 : List Nat} {d0 d : PyData} {W0 W : List Wd} {its : List Itm} {s : String} (h : RowOk t d0 W0 its) (o : OpdOk x d W) (hs : s ∈ signS) (c : cmpB (sgs its) = true → 2 ≤ lev (codes s))
    (a1 : gapB false g1 = true ∧ headOk g1 = true ∧ g1 ≠ [] ∧ g1.length ≤ 10) (a2 : gapB false g2 = true ∧ headOk g2 = true ∧ g2 ≠ [] ∧ g2.length ≤ 3) : RowOk ((((t ++ g1) ++ codes s) ++ g2) ++ x) d0 W0 (its ++ [(s, W, d)]) := by
  obtain ⟨s1, s2, s3, s4, _⟩ := sign_ok s hs
  obtain ⟨o1, o2, o3, o4, o5, o6⟩ := o
  refine ⟨?_, ?_, h.reads, ?_, h.lay0, ?_, ?_⟩
  · have := h.len
    simp only [List.length_append, List.length_cons, List.length_nil]
    omega
  · have e1 := h.lex.more a1.1 a1.2.1 a1.2.2.1 s1
    have e2 := e1.more a2.1 a2.2.1 a2.2.2.1 o2
    rw [o1] at e2
    have e3 : catW [(sgnK s, codes s)] = codes s := List.append_nil _
    rw [e3] at e2
    have e4 : W0 ++ itW (its ++ [(s, W, d)]) = (W0 ++ itW its ++ [(sgnK s, codes s)]) ++ W := by
      rw [itW_app]
      show W0 ++ (itW its ++ (_ :: (W ++ []))) = _
      rw [List.append_nil]
      simp only [List.append_assoc]
      rfl
    rw [e4]
    exact e2
  · intro i hi
    rcases List.mem_append.mp hi with hi | hi
    · exact h.itsOk i hi
    · rw [List.mem_singleton.mp hi]
      exact ⟨hs, o3⟩
  · intro i hi
    rcases List.mem_append.mp hi with hi | hi
    · exact h.lay i hi
    · rw [List.mem_singleton.mp hi]
      exact ⟨hs, o5, o6⟩
  · have e : sgs (its ++ [(s, W, d)]) = sgs its ++ [codes s] := List.map_append
    rw [e]
    refine h.one.snoc h.sgs_ge ?_
    cases z : cmpB (sgs its) with
    | true => exact .inr (c z)
    | false => exact .inl (cmpB_false z)
def menu1 : List String := [" ", "\n", " # and\n"]
def menu2 : List String := [" ", "\n "]
theorem menu1_ok : ∀ s ∈ menu1, gapB false (codes s) = true ∧ headOk (codes s) = true ∧ codes s ≠ [] ∧ (codes s).length ≤ 10 := by decide +kernel
theorem menu2_ok : ∀ s ∈ menu2, gapB false (codes s) = true ∧ headOk (codes s) = true ∧ codes s ≠ [] ∧ (codes s).length ≤ 3 := by decide +kernel
def OIv (d r a3 a4 : Addr) (k : Nat) (σ : L2.St) (G : Hp) : Prop := ∃ (t : List Nat) (d0 : PyData) (W0 : List Wd) (its : List Itm) (ys : List V) (v2 v5 v6 v7 : Option V), σ = [some (.ref d), some (.str (Tx t)), v2, some (.ref a3), some (.ref a4), v5, v6, v7, none, none] ∧ Draws G d r ∧
  G a3 = some (.lst ys) ∧ Trs G ys (d0 :: its.map fun i => i.2.2) ∧ G a4 = some (.lst ((sgs its).map fun k => V.str (Tx k))) ∧ its.length = k ∧ RowOk t d0 W0 its
theorem kept_tk {d : Addr} {G G' : Hp} (k : Kept d G G') {o : HO} (hd : G d = some o) (ho : ∀ xs, o ≠ .tup xs) : TK G G' := fun a xs h => k a _ (ne_of h hd fun z => ho xs z.symm) h
theorem _root_.Rm.Draws.ntup {G : Hp} {d r : Addr} (h : Draws G d r) : ∃ o, G d = some o ∧ (∀ xs, o ≠ .tup xs) ∧ ∀ xs, o ≠ .lst xs := by
  obtain ⟨i, s, ns, h1, _⟩ := h
  exact ⟨_, h1, (fun xs z => by cases z), fun xs z => by cases z⟩
theorem _root_.Rm.Draws.tk {G G' : Hp} {d r : Addr} (h : Draws G d r) (k : Kept d G G') : TK G G' := by
  obtain ⟨o, h1, h2, _⟩ := h.ntup
  exact kept_tk k h1 h2
theorem _root_.Rm.Draws.ne_lst {G : Hp} {d r a : Addr} {xs : List V} (h : Draws G d r) (ha : G a = some (.lst xs)) : a ≠ d := by
  obtain ⟨o, h1, _, h3⟩ := h.ntup
  exact ne_of ha h1 fun z => h3 xs z.symm
theorem put_tk {u : Addr} {G : Hp} {xs ys : List V} (h : G u = some (.lst xs)) : TK G (upd G u (.lst ys)) := TK.put h
theorem Trs.snoc2 {G : Hp} {v : V} {d : PyData} (h : Tr G v d) {vs : List V} {ds : List PyData} (r : Trs G vs ds) : Trs G (vs ++ [v]) (ds ++ [d]) := Trs.snoc h r
theorem run_l_one (h : sp_l_one K vs H Q E) : t_l_one K E (DQ Q) (start ns_l_one vs) H := by
  obtain ⟨d, r, rfl, hD, q⟩ := h
  refine ⟨_, rfl, d, r, rfl, hD, fun q0 H1 t0 v0 d0 W0 K1 D1 hq tr ok => ?_⟩
  refine ⟨q0, _, rfl, SqT.of hq, rfl, _, _, rfl, _, _, rfl, rfl, ?_⟩
  refine ⟨_, rfl, (by show 1 ≤ sizeLine; decide), fun a3 n3 => ?_⟩
  refine ⟨(by show 0 ≤ sizeLine; decide), fun a4 n4 => ?_⟩
  have D2 := D1.fresh (o := .lst [v0]) n3
  have D3 := D2.fresh (o := .lst []) n4
  have r3 := D1.neR n3
  have r4 := D2.neR n4
  have n34 : a3 ≠ a4 := ne_of_none upd_same n4
  have h3 : (upd (upd H1 a3 (.lst [v0])) a4 (.lst [])) a3 = some (.lst [v0]) := by rw [upd_ne n34]; exact upd_same
  have tr3 : Trs (upd (upd H1 a3 (.lst [v0])) a4 (.lst [])) [v0] (d0 :: ([] : List Itm).map fun i => i.2.2) := .cons ((tr.keep (TK.new n3)).keep (TK.new n4)) .nil
  refine ⟨_, rfl, d, 9, rfl, by decide, r, D3, fun many H4 m0 m1 D4 M4 => ?_⟩
  obtain ⟨n, rfl⟩ : ∃ n : Nat, many = n := ⟨many.toNat, by omega⟩
  refine ⟨_, rfl, by omega, by omega, ?_⟩
  rw [Int.toNat_natCast]
  have nd3 : a3 ≠ d := Ne.symm (D1.neD n3)
  have nd4 : a4 ≠ d := Ne.symm (D2.neD n4)
  refine for_range (lo := 0) (n := n) (OIv d r a3 a4) ⟨t0, d0, W0, [], [v0], _, _, _, _, rfl, D4, (M4 a3 nd3).trans h3, tr3.keep (D3.tk (Kept.of_moved M4)), (M4 a4 nd4).trans upd_same, rfl, .first ok⟩ ?_ ?_
  · rintro k σ H5 hk ⟨t, e0, V0, its, ys, v2, v5, v6, v7, rfl, D5, g3, gt, g4, hl, R⟩
    -- compared
    refine cmp3 (S := sgs its) rfl g4 ?_
    -- signs.append(sign)
    refine ⟨_, rfl, .inl ⟨rfl, _, SqL.of g4⟩, _, rfl, _, rfl, d, r, _, rfl, D5, fun H6 s K6 D6 hs hc => ?_⟩
    have p3 : H6 a3 = some (.lst ys) := K6 _ _ (D5.ne_lst g3) g3
    have p4 := K6 _ _ (D5.ne_lst g4) g4
    have pt := gt.keep (D5.tk K6)
    have ls : ((sgs its).map fun k => V.str (Tx k)).length ≤ 9 := by
      rw [List.length_map]
      show (its.map _).length ≤ 9
      rw [List.length_map]
      omega
    refine ⟨a4, _, _, rfl, rfl, p4, Nat.lt_of_le_of_lt ls (by decide), ?_⟩
    have e4 : ((sgs its).map fun k => V.str (Tx k)) ++ [V.str (Tx (codes s))] = ((sgs its) ++ [codes s]).map fun k => V.str (Tx k) := by rw [List.map_append]; rfl
    rw [e4]
    have D7 := D6.other (o := .lst (((sgs its) ++ [codes s]).map fun k => V.str (Tx k))) nd4 (Ne.symm r4)
    have w3 : (upd H6 a4 (.lst (((sgs its) ++ [codes s]).map fun k => V.str (Tx k)))) a3 = some (.lst ys) := by rw [upd_ne n34]; exact p3
    have wt := pt.keep (put_tk (ys := ((sgs its) ++ [codes s]).map fun k => V.str (Tx k)) p4)
    -- written, tree = operand
    refine ⟨_, rfl, d, r, rfl, D7, fun q8 H8 t8 v8 d8 W8 K8 D8 hq8 tr8 ok8 => ?_⟩
    refine ⟨q8, _, rfl, SqT.of hq8, rfl, _, _, rfl, _, _, rfl, rfl, ?_⟩
    have x3 : H8 a3 = some (.lst ys) := K8 _ _ (D7.ne_lst w3) w3
    have x4 := K8 _ _ (D7.ne_lst upd_same) (upd_same (H := H6) (a := a4) (o := .lst (((sgs its) ++ [codes s]).map fun k => V.str (Tx k))))
    have xt := wt.keep (D7.tk K8)
    have ly : ys.length ≤ 20 := by
      have z : ∀ {G : Hp} {vs : List V} {ds : List PyData}, Trs G vs ds → vs.length = ds.length := fun h => by
        induction h using Trs.rec (motive_1 := fun _ _ _ => True) with
        | nil => rfl
        | cons _ _ _ ih => rw [List.length_cons, List.length_cons, ih]
        | non => trivial
        | int => trivial
        | str => trivial
        | tup => trivial
      rw [z gt, List.length_cons, List.length_map]
      omega
    -- trees.append(tree)
    refine ⟨_, rfl, .inl ⟨rfl, _, SqL.of x3⟩, _, rfl, a3, _, _, rfl, rfl, x3, Nat.lt_of_le_of_lt ly (by decide), ?_⟩
    have D9 := D8.other (o := .lst (ys ++ [v8])) nd3 (Ne.symm r3)
    have y3 : (upd H8 a3 (.lst (ys ++ [v8]))) a3 = some (.lst (ys ++ [v8])) := upd_same
    have y4 : (upd H8 a3 (.lst (ys ++ [v8]))) a4 = some (.lst (((sgs its) ++ [codes s]).map fun k => V.str (Tx k))) := by rw [upd_ne (Ne.symm n34)]; exact x4
    have yt : Trs (upd H8 a3 (.lst (ys ++ [v8]))) (ys ++ [v8]) ((e0 :: its.map fun i => i.2.2) ++ [d8]) := Trs.snoc2 (tr8.keep (put_tk x3)) (xt.keep (put_tk x3))
    generalize upd H8 a3 (.lst (ys ++ [v8])) = H9 at D9 y3 y4 yt ⊢
    -- text
    refine ⟨_, rfl, (by show 3 ≤ sizeLine; decide), fun p10 n10 => ?_⟩
    have nd10 := Ne.symm (D9.neD n10)
    have D10 := D9.fresh (o := .lst (menu1.map mS)) n10
    refine ⟨_, rfl, d, 3, rfl, by decide, r, D10, fun j11 H11 a11 b11 D11 M11 => ?_⟩
    have z10 : H11 p10 = some (.lst (menu1.map mS)) := (M11 p10 nd10).trans upd_same
    obtain ⟨g1, hg1, i11⟩ := menu_at (ss := menu1) a11 b11
    have a1 := menu1_ok g1 hg1
    have k11 : Kept d H9 H11 := ((Kept.refl d H9).put n10).trans (Kept.of_moved M11)
    have lt := R.len
    refine ⟨p10, _, _, _, rfl, rfl, SqL.of z10, i11, _, _, rfl, rfl, ?_, ?_⟩
    · show t.length + (codes g1).length ≤ sizeLine
      exact small_len (by omega)
    rw [Tx_app]
    have s3 := (sign_ok s hs).2.2.1
    have u4 : H11 a4 = some (.lst (((sgs its).map fun k => V.str (Tx k)) ++ [V.str (Tx (codes s))])) := by rw [e4]; exact k11 _ _ nd4 y4
    refine ⟨_, rfl, _, rfl, a4, _, _, _, rfl, rfl, SqL.of u4, atI_last _ _, _, _, rfl, rfl, ?_, ?_⟩
    · show (t ++ codes g1).length + (codes s).length ≤ sizeLine
      rw [List.length_append]
      exact small_len (by omega)
    rw [Tx_app]
    refine ⟨(by show 2 ≤ sizeLine; decide), fun p12 n12 => ?_⟩
    have nd12 := Ne.symm (D11.neD n12)
    have D12 := D11.fresh (o := .lst (menu2.map mS)) n12
    refine ⟨_, rfl, d, 2, rfl, by decide, r, D12, fun j13 H13 a13 b13 D13 M13 => ?_⟩
    have z12 : H13 p12 = some (.lst (menu2.map mS)) := (M13 p12 nd12).trans upd_same
    obtain ⟨g2, hg2, i13⟩ := menu_at (ss := menu2) a13 b13
    have a2 := menu2_ok g2 hg2
    have k13 : Kept d H9 H13 := (k11.alloc D11 n12).trans (Kept.of_moved M13)
    refine ⟨p12, _, _, _, rfl, rfl, SqL.of z12, i13, _, _, rfl, rfl, ?_, ?_⟩
    · show ((t ++ codes g1) ++ codes s).length + (codes g2).length ≤ sizeLine
      simp only [List.length_append]
      exact small_len (by omega)
    rw [Tx_app]
    have l8 := ok8.len
    refine ⟨_, rfl, _, _, rfl, rfl, ?_, ?_⟩
    · show (((t ++ codes g1) ++ codes s) ++ codes g2).length + t8.length ≤ sizeLine
      simp only [List.length_append]
      exact small_len (by omega)
    rw [Tx_app]
    refine ⟨_, e0, V0, its ++ [(s, W8, d8)], ys ++ [v8], _, _, _, _, rfl, D13, k13 _ _ nd3 y3, ?_, ?_, by rw [List.length_append, hl]; rfl, R.more ok8 hs hc a1 a2⟩
    · have e : (e0 :: (its ++ [(s, W8, d8)]).map fun i => i.2.2) = (e0 :: its.map fun i => i.2.2) ++ [d8] := by
        rw [List.map_append]
        rfl
      rw [e]
      exact yt.keep (D9.tk k13)
    · have e : sgs (its ++ [(s, W8, d8)]) = sgs its ++ [codes s] := List.map_append
      rw [e]
      exact k13 _ _ nd4 y4
  · rintro σ H5 ⟨t, e0, V0, its, ys, v2, v5, v6, v7, rfl, D5, g3, gt, g4, hl, R⟩
    obtain ⟨ws0, m, u, w0, om, uk, ut, ex⟩ := row_tokens R.lex
    have lt := R.len
    have lm := om.len
    have hm := om.mem R.itsOk
    have one : OneC m := OneT.c (by rw [om.texts]; exact R.one)
    have lay := om.lay R.lay
    have hm2 : ∀ p ∈ m, 1 ≤ lev p.1.text ∧ Reads (p.2.1.map wd) p.2.2 := fun p hp => ⟨(hm p hp).1, (hm p hp).2.1⟩
    have rd0 : Reads (ws0.map wd) e0 := by rw [w0]; exact R.reads
    have tl : t.length ≤ 10000000 := by omega
    have gtm : Trs H5 ys (e0 :: m.map fun p => p.2.2) := by rw [om.trees]; exact gt
    have g4m : H5 a4 = some (.lst (m.map fun p => V.str (Tx p.1.text))) := by
      rw [g4, ← om.texts, List.map_map]
      rfl
    have e2 : (cl 1 e0 m).2 = [] := by
      cases z : cmpB (sgs its) with
      | true =>
        obtain ⟨x, hx, l1⟩ := cmpB_true z
        rw [← om.texts] at hx
        obtain ⟨p, hp, rfl⟩ := List.mem_map.mp hx
        obtain ⟨A, B, rfl⟩ := List.append_of_mem hp
        obtain ⟨a, b⟩ := one A p B rfl l1
        rw [cl1_one a b l1]
      | false =>
        have z := cmpB_false z
        rw [cl1_all fun p hp => ?_]
        have a := (hm p hp).1
        have b := z p.1.text (by rw [← om.texts]; exact List.mem_map.mpr ⟨p, hp, rfl⟩)
        omega
    have sc := shaped_cl lay R.lay0 (by omega)
    have shc := shaped_of sc.1 (by omega)
    refine ⟨_, rfl, t, _, rfl, tl, ex, .inl ⟨_, _, pExpr_ok rd0 hm2 ut uk (by omega) e2, fun v6 H6 s6 tr6 => ?_⟩⟩
    refine ⟨_, rfl, _, rfl, a3, a4, ys, e0, m, rfl, s6 _ _ g3, gtm.keep (tk_same s6), s6 _ _ g4m, (show m.length < 60 by omega), by omega, one, fun p hp => (hm p hp).1, fun v7 H7 s7 tr7 => ?_⟩
    refine ⟨_, _, (tr6.keep (tk_same s7)).dp, tr7.dp, shc, shc, _, rfl, ?_⟩
    rw [SeqAt.eqv_refl _ (SeqAt.canLay_of_shaped shc)]
    refine iteF ?_
    have S7 := s6.trans s7
    have D7 := D5.same S7
    -- row, column
    obtain ⟨c1, c2⟩ := place_ok t
    refine ⟨_, rfl, rfl, _, _, rfl, rfl, _, _, rfl, rfl, ?_⟩
    refine ⟨_, rfl, _, rfl, small_len tl, _, rfl, rfl, _, _, rfl, rfl, _, _, rfl, rfl, _, _, rfl, rfl, ?_⟩
    have c3 : ((Tx t).length : Int) - Txt.rfind (Tx t) ("\n" : Str) + 1 = (adv t 1 1).2 + 1 := by rw [← c2]; rfl
    obtain ⟨b1, b2⟩ := adv_bound t 1 1
    have sm1 : (Txt.count (Tx t) ("\n" : Str) + 1).natAbs.log2 < 1920 := by rw [c1]; exact log_small (by omega) (by omega)
    have sm2 : (((Tx t).length : Int) - Txt.rfind (Tx t) ("\n" : Str) + 1).natAbs.log2 < 1920 := by rw [c3]; exact log_small (by omega) (by omega)
    have sh2 : SeqAt.shaped (.tuple [.int (Txt.count (Tx t) ("\n" : Str) + 1), .int (((Tx t).length : Int) - Txt.rfind (Tx t) ("\n" : Str) + 1)]) = true := by
      unfold SeqAt.shaped
      simp [PyData.canLay0, PyData.canLayAll0, PyData.depth, PyData.depthAll]
    refine cmp3T (S := sgs its) rfl (S7 _ _ g4) ?_
    cases z : cmpB (sgs its) with
    | true =>
      refine iteT ?_
      obtain ⟨x, hx, l1⟩ := cmpB_true z
      rw [← om.texts] at hx
      -- a second comparison
      have two : ∀ (s : String) (l2 : List (List Nat × List Wd)) (V0 : List Wd) (its2 : List Itm) (dz : PyData), goodTok .sign (codes s) = true → lev (codes s) = 1 → gappedB l2 = true → gappedW l2 = V0 ++ itW its2 → Reads V0 dz → ItOk its2 → its2.length ≤ 5 →
          ∃ ts, lex (((t ++ [32]) ++ codes s) ++ gapped l2) 1 1 = (ts, none) ∧ pExpr FU ts = .no (Txt.count (Tx t) ("\n" : Str) + 1) (((Tx t).length : Int) - Txt.rfind (Tx t) ("\n" : Str) + 1) := fun s l2 Vz its2 dz q1 q2 q3 q4 q5 q6 q7 => by
        obtain ⟨ws1, m1, qt, zs, m2, u1, f1, f2, f3, f4, f5, f6, f7, f8⟩ := more_tokens dz R.lex q1 q3 q4
        refine ⟨_, f8, ?_⟩
        have hm1 := f2.mem R.itsOk
        have hm3 := f5.mem q6
        have one1 : OneC m1 := OneT.c (by rw [f2.texts]; exact R.one)
        have hx1 : x ∈ m1.map fun p => p.1.text := by rw [f2.texts, ← om.texts]; exact hx
        obtain ⟨p, hp, rfl⟩ := List.mem_map.mp hx1
        obtain ⟨A, B, em⟩ := List.append_of_mem hp
        obtain ⟨a, b⟩ := one1 A p B em l1
        obtain ⟨pt, pws, px⟩ := p
        have ecl : (cl 1 e0 (m1 ++ (qt, zs, dz) :: m2)).2 = (qt, zs, dz) :: m2 := by
          have e := cl1_cmp A.length A e0 pt pws px B ((qt, zs, dz) :: m2) (Nat.le_refl _) a l1 b (by
            show lev qt.text < 2
            rw [f3]
            show lev (codes s) < 2
            omega)
          have e3 : m1 ++ (qt, zs, dz) :: m2 = A ++ (pt, pws, px) :: (B ++ (qt, zs, dz) :: m2) := by rw [em, List.append_assoc]; rfl
          rw [e3, e]
        have hall : ∀ p ∈ m1 ++ (qt, zs, dz) :: m2, 1 ≤ lev p.1.text ∧ Reads (p.2.1.map wd) p.2.2 := fun p hp => by
          rcases List.mem_append.mp hp with hp | hp
          · exact ⟨(hm1 p hp).1, (hm1 p hp).2.1⟩
          · rcases List.mem_cons.mp hp with rfl | hp
            · refine ⟨?_, ?_⟩
              · rw [f3]
                show 1 ≤ lev (codes s)
                omega
              · show Reads (zs.map wd) dz
                rw [f4]
                exact q5
            · exact ⟨(hm3 p hp).1, (hm3 p hp).2.1⟩
        have e := pExpr_no (by rw [f1]; exact R.reads) hall f7 (by have := f2.len; have := f5.len; rw [List.length_append, List.length_cons]; omega) ecl (by rw [f3]; intro z; cases z)
        rw [e, f3, adv_space, c1, c3]
      have nz : nameW6 (codes "z") = true := by decide +kernel
      obtain ⟨ts1, lx1, px1⟩ := two "<=" [([32], [(.name, codes "z")])] [(.name, codes "z")] [] (nameD (codes "z")) (by decide +kernel) (by decide +kernel) (by decide +kernel) rfl (reads_name nz) (fun i hi => by cases hi) (by decide)
      obtain ⟨ts2, lx2, px2⟩ := two "==" [([32], [(.name, codes "z")]), ([32], [(.sign, codes "+")]), ([32], [(.number, codes "1")])] [(.name, codes "z")] [("+", [(.number, codes "1")], numD (codes "1"))] (nameD (codes "z")) (by decide +kernel) (by decide +kernel) (by decide +kernel) (by decide +kernel) (reads_name nz)
        (fun i hi => by rw [List.mem_singleton.mp hi]; exact ⟨by decide, reads_num _⟩) (by decide)
      have x1 : Tx t ++ (" <= z" : Str) = Tx (((t ++ [32]) ++ codes "<=") ++ gapped [([32], [(.name, codes "z")])]) := by
        rw [Tx_of, Tx_app]
        have e : codes " <= z" = [32] ++ (codes "<=" ++ gapped [([32], [(.name, codes "z")])]) := by decide
        rw [e]
        simp only [List.append_assoc]
      have x2 : Tx t ++ (" == z + 1" : Str) = Tx (((t ++ [32]) ++ codes "==") ++ gapped [([32], [(.name, codes "z")]), ([32], [(.sign, codes "+")]), ([32], [(.number, codes "1")])]) := by
        rw [Tx_of, Tx_app]
        have e : codes " == z + 1" = [32] ++ (codes "==" ++ gapped [([32], [(.name, codes "z")]), ([32], [(.sign, codes "+")]), ([32], [(.number, codes "1")])]) := by decide
        rw [e]
        simp only [List.append_assoc]
      refine ⟨_, rfl, _, _, rfl, rfl, (by show t.length + 5 ≤ sizeLine; exact small_len (by omega)), ?_⟩
      rw [x1]
      refine ⟨_, ts1, rfl, (by simp only [List.length_append]; show t.length + 1 + 2 + 2 ≤ _; omega), lx1, .inr ⟨_, _, px1, sm1, sm2, fun q8 H8 s8 hq8 => ?_⟩⟩
      refine ⟨_, rfl, _, rfl, (by show 2 ≤ sizeLine; decide), fun p9 n9 => ?_⟩
      have s9 := same_upd (o := .tup [V.int (Txt.count (Tx t) ("\n" : Str) + 1), V.int (((Tx t).length : Int) - Txt.rfind (Tx t) ("\n" : Str) + 1)]) n9
      refine ⟨_, _, .tup (SqT.of (s9 _ _ hq8)) (.cons (.int _) (.cons (.int _) .nil)), .tup (SqT.of upd_same) (.cons (.int _) (.cons (.int _) .nil)), sh2, sh2, _, rfl, ?_⟩
      rw [SeqAt.eqv_refl _ (SeqAt.canLay_of_shaped sh2)]
      refine iteT ?_
      refine ⟨_, rfl, _, _, rfl, rfl, (by show t.length + 9 ≤ sizeLine; exact small_len (by omega)), ?_⟩
      rw [x2]
      refine ⟨_, ts2, rfl, (by simp only [List.length_append]; show t.length + 1 + 2 + 6 ≤ _; omega), lx2, .inr ⟨_, _, px2, sm1, sm2, fun q10 H10 s10 hq10 => ?_⟩⟩
      refine ⟨_, rfl, _, rfl, (by show 2 ≤ sizeLine; decide), fun p11 n11 => ?_⟩
      have s11 := same_upd (o := .tup [V.int (Txt.count (Tx t) ("\n" : Str) + 1), V.int (((Tx t).length : Int) - Txt.rfind (Tx t) ("\n" : Str) + 1)]) n11
      refine ⟨_, _, .tup (SqT.of (s11 _ _ hq10)) (.cons (.int _) (.cons (.int _) .nil)), .tup (SqT.of upd_same) (.cons (.int _) (.cons (.int _) .nil)), sh2, sh2, ?_⟩
      rw [SeqAt.eqv_refl _ (SeqAt.canLay_of_shaped sh2)]
      exact q _ ((((D7.same s8).same s9).same s10).same s11)
    | false =>
      refine iteF ?_
      have z := cmpB_false z
      have nz : nameW6 (codes "z") = true := by decide +kernel
      obtain ⟨ws1, m1, qt, zs, m2, u1, f1, f2, f3, f4, f5, f6, f7, f8⟩ := more_tokens (s := "<") (l2 := [([32], [(.name, codes "z")])]) (V0 := [(.name, codes "z")]) (its2 := []) (nameD (codes "z")) R.lex (by decide +kernel) (by decide +kernel) rfl
      have em2 : m2 = [] := List.map_eq_nil_iff.mp f5
      subst em2
      have hm1 := f2.mem R.itsOk
      have all1 : AllL 2 m1 := fun p hp => by
        have a := (hm1 p hp).1
        have b := z p.1.text (by rw [← f2.texts]; exact List.mem_map.mpr ⟨p, hp, rfl⟩)
        omega
      have lq : lev qt.text = 1 := by
        rw [f3]
        show lev (codes "<") = 1
        decide +kernel
      have ecl : cl 1 e0 (m1 ++ [(qt, zs, nameD (codes "z"))]) = (nd (codes "<") (cl 1 e0 m1).1 (nameD (codes "z")), []) := by
        rw [cl1_one all1 (fun _ hp => by cases hp) lq, f3]
        rfl
      have hall : ∀ p ∈ m1 ++ [(qt, zs, nameD (codes "z"))], 1 ≤ lev p.1.text ∧ Reads (p.2.1.map wd) p.2.2 := fun p hp => by
        rcases List.mem_append.mp hp with hp | hp
        · exact ⟨(hm1 p hp).1, (hm1 p hp).2.1⟩
        · rw [List.mem_singleton.mp hp]
          refine ⟨?_, ?_⟩
          · show 1 ≤ lev qt.text
            omega
          · show Reads (zs.map wd) (nameD (codes "z"))
            rw [f4]
            exact reads_name nz
      have px := pExpr_ok (by rw [f1]; exact R.reads) hall f7 f6 (by have := f2.len; rw [List.length_append, List.length_singleton]; omega) (by rw [ecl])
      rw [ecl] at px
      have x1 : Tx t ++ (" < z" : Str) = Tx (((t ++ [32]) ++ codes "<") ++ gapped [([32], [(.name, codes "z")])]) := by
        rw [Tx_of, Tx_app]
        have e : codes " < z" = [32] ++ (codes "<" ++ gapped [([32], [(.name, codes "z")])]) := by decide
        rw [e]
        simp only [List.append_assoc]
      refine ⟨_, rfl, _, _, rfl, rfl, (by show t.length + 4 ≤ sizeLine; exact small_len (by omega)), ?_⟩
      rw [x1]
      refine ⟨_, _, rfl, (by simp only [List.length_append]; show t.length + 1 + 1 + 2 ≤ _; omega), f8, .inl ⟨_, _, px, fun v8 H8 s8 tr8 => ?_⟩⟩
      have S8 := S7.trans s8
      have one1 : OneC m1 := OneT.c (by rw [f2.texts]; exact R.one)
      have gt1 : Trs H8 ys (e0 :: m1.map fun p => p.2.2) := by rw [f2.trees]; exact gt.keep (tk_same S8)
      have g41 : H8 a4 = some (.lst (m1.map fun p => V.str (Tx p.1.text))) := by
        rw [S8 _ _ g4, ← f2.texts, List.map_map]
        rfl
      refine ⟨_, rfl, _, rfl, a3, a4, ys, e0, m1, rfl, S8 _ _ g3, gt1, g41, (show m1.length < 60 by have := f2.len; omega), by have := f2.len; omega, one1, fun p hp => (hm1 p hp).1, fun v9 H9 s9 tr9 => ?_⟩
      refine ⟨(by show 2 ≤ sizeLine; decide), fun p10 n10 => ⟨(by show 4 ≤ sizeLine; decide), fun p11 n11 => ?_⟩⟩
      have s10 := same_upd (o := .tup [V.str ("name" : Str), V.str ("z" : Str)]) n10
      have s11 := same_upd (o := .tup [V.str ("op" : Str), V.str ("<" : Str), v9, V.ref p10]) n11
      have T10 := Tr.tup (ds := [dS "name", dS "z"]) (upd_same (H := H9) (a := p10) (o := .tup [V.str ("name" : Str), V.str ("z" : Str)])) (.cons (.str _) (.cons (.str _) .nil))
      have T11 := Tr.tup (ds := [dS "op", dS "<", (cl 1 e0 m1).1, .tuple [dS "name", dS "z"]]) (upd_same (a := p11) (o := .tup [V.str ("op" : Str), V.str ("<" : Str), v9, V.ref p10])) (.cons (.str _) (.cons (.str _) (.cons (tr9.keep (tk_same (s10.trans s11))) (.cons (T10.keep (tk_same s11)) .nil))))
      have ed : nd (codes "<") (cl 1 e0 m1).1 (nameD (codes "z")) = .tuple [dS "op", dS "<", (cl 1 e0 m1).1, .tuple [dS "name", dS "z"]] := by
        unfold nd nameD
        rw [dS_eq "<", dS_eq "z"]
      have sc1 := shaped_cl (f2.lay R.lay) R.lay0 (by have := f2.len; omega)
      have sh3 : SeqAt.shaped (.tuple [dS "op", dS "<", (cl 1 e0 m1).1, .tuple [dS "name", dS "z"]]) = true := by
        have o1 : PyData.strOk (Str.ofString "op") = true := by decide +kernel
        have o2 : PyData.strOk (Str.ofString "<") = true := by decide +kernel
        have o3 : PyData.strOk (Str.ofString "name") = true := by decide +kernel
        have o4 : PyData.strOk (Str.ofString "z") = true := by decide +kernel
        refine shaped_of (by simp [dS, PyData.canLay0, PyData.canLayAll0, sc1.1, o1, o2, o3, o4]) ?_
        simp only [dS, PyData.depth, PyData.depthAll]
        have := sc1.2
        omega
      rw [ed] at tr8
      refine ⟨_, _, (tr8.keep (tk_same ((s9.trans s10).trans s11))).dp, T11.dp, sh3, sh3, ?_⟩
      rw [SeqAt.eqv_refl _ (SeqAt.canLay_of_shaped sh3)]
      exact q _ ((((D7.same s8).same s9).same s10).same s11)
theorem run_law (h : sp_law K vs H Q E) : t_law K E (DQ Q) (start ns_law vs) H := by
  obtain ⟨a, ns, rfl, hS, hl, q⟩ := h
  refine ⟨_, rfl, a, ns, 260, rfl, hS, hl, by decide, by decide, fun d H1 r s rs s1 nd hd hr nrd hrl hrm => ?_⟩
  have D1 : Draws H1 d r := ⟨0, s, rs, hd, hr, Int.le_refl _⟩
  refine ⟨_, rfl, d, _, rfl, dget_row hd, _, _, rfl, .inl ⟨_, SqL.of hr, rfl⟩, _, _, rfl, rfl, ⟨by decide, by decide⟩, _, _, rfl, rfl, _, _, rfl, ?_⟩
  have hq : (rs.map V.int).length = rs.length := List.length_map _
  rw [hq]
  have h0 : (0 : Int) ≤ (rs.length : Int) / 10 := Int.ediv_nonneg (by omega) (by decide)
  obtain ⟨n, en⟩ : ∃ n : Nat, (if (1 + (rs.length : Int) / 10) < 12 then (1 + (rs.length : Int) / 10) else 12) = (n : Int) := by
    split
    · exact ⟨(1 + (rs.length : Int) / 10).toNat, by omega⟩
    · exact ⟨12, rfl⟩
  have nb : (n : Int) ≤ 12 := by
    rw [← en]
    split <;> omega
  rw [en]
  refine ⟨_, rfl, by omega, by omega, ?_⟩
  rw [Int.toNat_natCast]
  refine for_range (lo := 0) (n := n) (fun k σ H => (∃ v2 : Option V, σ = [some (.ref a), some (.ref d), v2]) ∧ Draws H d r) ⟨⟨_, rfl⟩, D1⟩ ?_ ?_
  · rintro k σ H2 hk ⟨⟨v2, rfl⟩, D2⟩
    refine ⟨_, rfl, d, r, rfl, D2, fun H3 D3 => ⟨true, rfl, iteF ⟨⟨_, rfl⟩, D3⟩⟩⟩
  · rintro σ H2 ⟨⟨v2, rfl⟩, D2⟩
    exact q H2
theorem no_group (vs : List V) (H : Hp) (Q : VK) (E : XK) (h : sp_l_group K 0 vs H Q E) : False := by
  obtain ⟨a, b, ys, d0, m, _, _, _, _, hn, _⟩ := h
  exact absurd hn (Nat.not_lt_zero _)
end
end Rm.K6

namespace Rm.K6.W06
open PySem PySem.Spec PyProof.Rows L2 Rm
def top (i : Nat) : Stmt := PySem.Challenge.pw_reaimed_k06_rows_of_operators.main.body.getD i (.Pass ⟨0, 0, 0, 0⟩)
abbrev s_l_mix : Stmt := top 52
theorem sc_l_mix : FnScope ns_l_mix ["cell", "k"] (defScope s_l_mix) := ⟨rfl, rfl, rfl, by decide +kernel, rfl, by decide +kernel, by decide +kernel⟩
abbrev s_l_pick : Stmt := top 54
theorem sc_l_pick : FnScope ns_l_pick ["draws", "many"] (defScope s_l_pick) := ⟨rfl, rfl, rfl, by decide +kernel, rfl, by decide +kernel, by decide +kernel⟩
abbrev s_l_stream : Stmt := top 53
theorem sc_l_stream : FnScope ns_l_stream ["script", "most"] (defScope s_l_stream) := ⟨rfl, rfl, rfl, by decide +kernel, rfl, by decide +kernel, by decide +kernel⟩
abbrev s_is_letter : Stmt := top 14
theorem sc_is_letter : FnScope ns_is_letter ["char"] (defScope s_is_letter) := ⟨rfl, rfl, rfl, by decide +kernel, rfl, by decide +kernel, by decide +kernel⟩
abbrev s_is_word_part : Stmt := top 15
theorem sc_is_word_part : FnScope ns_is_word_part ["char"] (defScope s_is_word_part) := ⟨rfl, rfl, rfl, by decide +kernel, rfl, by decide +kernel, by decide +kernel⟩
abbrev s_is_number : Stmt := top 16
theorem sc_is_number : FnScope ns_is_number ["word"] (defScope s_is_number) := ⟨rfl, rfl, rfl, by decide +kernel, rfl, by decide +kernel, by decide +kernel⟩
abbrev s_word_kind : Stmt := top 17
theorem sc_word_kind : FnScope ns_word_kind ["word"] (defScope s_word_kind) := ⟨rfl, rfl, rfl, by decide +kernel, rfl, by decide +kernel, by decide +kernel⟩
abbrev s_Scanner_init : Stmt := inClass (top 18) 0
theorem sc_Scanner_init : FnScope ns_Scanner_init ["self", "text"] (defScope s_Scanner_init) := ⟨rfl, rfl, rfl, by decide +kernel, rfl, by decide +kernel, by decide +kernel⟩
abbrev s_Scanner_is_done : Stmt := inClass (top 18) 1
theorem sc_Scanner_is_done : FnScope ns_Scanner_is_done ["self"] (defScope s_Scanner_is_done) := ⟨rfl, rfl, rfl, by decide +kernel, rfl, by decide +kernel, by decide +kernel⟩
abbrev s_Scanner_skip_newline : Stmt := inClass (top 18) 3
theorem sc_Scanner_skip_newline : FnScope ns_Scanner_skip_newline ["self"] (defScope s_Scanner_skip_newline) := ⟨rfl, rfl, rfl, by decide +kernel, rfl, by decide +kernel, by decide +kernel⟩
abbrev s_Scanner_row_end : Stmt := inClass (top 18) 4
theorem sc_Scanner_row_end : FnScope ns_Scanner_row_end ["self"] (defScope s_Scanner_row_end) := ⟨rfl, rfl, rfl, by decide +kernel, rfl, by decide +kernel, by decide +kernel⟩
abbrev s_Scanner_word_end : Stmt := inClass (top 18) 5
theorem sc_Scanner_word_end : FnScope ns_Scanner_word_end ["self"] (defScope s_Scanner_word_end) := ⟨rfl, rfl, rfl, by decide +kernel, rfl, by decide +kernel, by decide +kernel⟩
abbrev s_Scanner_take_to : Stmt := inClass (top 18) 6
theorem sc_Scanner_take_to : FnScope ns_Scanner_take_to ["self", "end"] (defScope s_Scanner_take_to) := ⟨rfl, rfl, rfl, by decide +kernel, rfl, by decide +kernel, by decide +kernel⟩
abbrev s_Scanner_skip_gaps : Stmt := inClass (top 18) 2
theorem sc_Scanner_skip_gaps : FnScope ns_Scanner_skip_gaps ["self"] (defScope s_Scanner_skip_gaps) := ⟨rfl, rfl, rfl, by decide +kernel, rfl, by decide +kernel, by decide +kernel⟩
abbrev s_Scanner_take_sign : Stmt := inClass (top 18) 8
theorem sc_Scanner_take_sign : FnScope ns_Scanner_take_sign ["self"] (defScope s_Scanner_take_sign) := ⟨rfl, rfl, rfl, by decide +kernel, rfl, by decide +kernel, by decide +kernel⟩
abbrev s_Scanner_take_token : Stmt := inClass (top 18) 7
theorem sc_Scanner_take_token : FnScope ns_Scanner_take_token ["self"] (defScope s_Scanner_take_token) := ⟨rfl, rfl, rfl, by decide +kernel, rfl, by decide +kernel, by decide +kernel⟩
abbrev s_tokens : Stmt := top 13
theorem sc_tokens : FnScope ns_tokens ["text"] (defScope s_tokens) := ⟨rfl, rfl, rfl, by decide +kernel, rfl, by decide +kernel, by decide +kernel⟩
abbrev s_Cursor_kind : Stmt := inClass (top 20) 1
theorem sc_Cursor_kind : FnScope ns_Cursor_kind ["self", "ahead"] (defScope s_Cursor_kind) := ⟨rfl, rfl, rfl, by decide +kernel, rfl, by decide +kernel, by decide +kernel⟩
abbrev s_Cursor_word : Stmt := inClass (top 20) 2
theorem sc_Cursor_word : FnScope ns_Cursor_word ["self", "ahead"] (defScope s_Cursor_word) := ⟨rfl, rfl, rfl, by decide +kernel, rfl, by decide +kernel, by decide +kernel⟩
abbrev s_Cursor_take : Stmt := inClass (top 20) 3
theorem sc_Cursor_take : FnScope ns_Cursor_take ["self"] (defScope s_Cursor_take) := ⟨rfl, rfl, rfl, by decide +kernel, rfl, by decide +kernel, by decide +kernel⟩
abbrev s_Cursor_took : Stmt := inClass (top 20) 4
theorem sc_Cursor_took : FnScope ns_Cursor_took ["self", "word"] (defScope s_Cursor_took) := ⟨rfl, rfl, rfl, by decide +kernel, rfl, by decide +kernel, by decide +kernel⟩
abbrev s_Cursor_refuse : Stmt := inClass (top 20) 8
theorem sc_Cursor_refuse : FnScope ns_Cursor_refuse ["self"] (defScope s_Cursor_refuse) := ⟨rfl, rfl, rfl, by decide +kernel, rfl, by decide +kernel, by decide +kernel⟩
abbrev s_Cursor_want : Stmt := inClass (top 20) 5
theorem sc_Cursor_want : FnScope ns_Cursor_want ["self", "word"] (defScope s_Cursor_want) := ⟨rfl, rfl, rfl, by decide +kernel, rfl, by decide +kernel, by decide +kernel⟩
abbrev s_Cursor_take_name : Stmt := inClass (top 20) 6
theorem sc_Cursor_take_name : FnScope ns_Cursor_take_name ["self"] (defScope s_Cursor_take_name) := ⟨rfl, rfl, rfl, by decide +kernel, rfl, by decide +kernel, by decide +kernel⟩
abbrev s_Cursor_want_end : Stmt := inClass (top 20) 7
theorem sc_Cursor_want_end : FnScope ns_Cursor_want_end ["self"] (defScope s_Cursor_want_end) := ⟨rfl, rfl, rfl, by decide +kernel, rfl, by decide +kernel, by decide +kernel⟩
abbrev s_Cursor_init : Stmt := inClass (top 20) 0
theorem sc_Cursor_init : FnScope ns_Cursor_init ["self", "text"] (defScope s_Cursor_init) := ⟨rfl, rfl, rfl, by decide +kernel, rfl, by decide +kernel, by decide +kernel⟩
abbrev s_parse_name : Stmt := top 29
theorem sc_parse_name : FnScope ns_parse_name ["cursor"] (defScope s_parse_name) := ⟨rfl, rfl, rfl, by decide +kernel, rfl, by decide +kernel, by decide +kernel⟩
abbrev s_parse_aim : Stmt := top 32
theorem sc_parse_aim : FnScope ns_parse_aim ["cursor"] (defScope s_parse_aim) := ⟨rfl, rfl, rfl, by decide +kernel, rfl, by decide +kernel, by decide +kernel⟩
abbrev s_has_own_dot : Stmt := top 48
theorem sc_has_own_dot : FnScope ns_has_own_dot ["cursor"] (defScope s_has_own_dot) := ⟨rfl, rfl, rfl, by decide +kernel, rfl, by decide +kernel, by decide +kernel⟩
abbrev s_parse_whole : Stmt := top 45
theorem sc_parse_whole : FnScope ns_parse_whole ["cursor"] (defScope s_parse_whole) := ⟨rfl, rfl, rfl, by decide +kernel, rfl, by decide +kernel, by decide +kernel⟩
abbrev s_parse_operators : Stmt := top 46
theorem sc_parse_operators : FnScope ns_parse_operators ["cursor", "left", "level"] (defScope s_parse_operators) := ⟨rfl, rfl, rfl, by decide +kernel, rfl, by decide +kernel, by decide +kernel⟩
abbrev s_parse_postfix : Stmt := top 47
theorem sc_parse_postfix : FnScope ns_parse_postfix ["cursor"] (defScope s_parse_postfix) := ⟨rfl, rfl, rfl, by decide +kernel, rfl, by decide +kernel, by decide +kernel⟩
abbrev s_parse_primary : Stmt := top 49
theorem sc_parse_primary : FnScope ns_parse_primary ["cursor"] (defScope s_parse_primary) := ⟨rfl, rfl, rfl, by decide +kernel, rfl, by decide +kernel, by decide +kernel⟩
abbrev s_parse_row : Stmt := top 28
theorem sc_parse_row : FnScope ns_parse_row ["cursor", "parse_part"] (defScope s_parse_row) := ⟨rfl, rfl, rfl, by decide +kernel, rfl, by decide +kernel, by decide +kernel⟩
abbrev s_parse_slots : Stmt := top 30
theorem sc_parse_slots : FnScope ns_parse_slots ["cursor"] (defScope s_parse_slots) := ⟨rfl, rfl, rfl, by decide +kernel, rfl, by decide +kernel, by decide +kernel⟩
abbrev s_parse_slot : Stmt := top 31
theorem sc_parse_slot : FnScope ns_parse_slot ["cursor"] (defScope s_parse_slot) := ⟨rfl, rfl, rfl, by decide +kernel, rfl, by decide +kernel, by decide +kernel⟩
abbrev s_parse_method : Stmt := top 27
theorem sc_parse_method : FnScope ns_parse_method ["cursor"] (defScope s_parse_method) := ⟨rfl, rfl, rfl, by decide +kernel, rfl, by decide +kernel, by decide +kernel⟩
abbrev s_parse_body : Stmt := top 33
theorem sc_parse_body : FnScope ns_parse_body ["cursor"] (defScope s_parse_body) := ⟨rfl, rfl, rfl, by decide +kernel, rfl, by decide +kernel, by decide +kernel⟩
abbrev s_parse_statement : Stmt := top 34
theorem sc_parse_statement : FnScope ns_parse_statement ["cursor"] (defScope s_parse_statement) := ⟨rfl, rfl, rfl, by decide +kernel, rfl, by decide +kernel, by decide +kernel⟩
abbrev s_parse_ended : Stmt := top 44
theorem sc_parse_ended : FnScope ns_parse_ended ["cursor"] (defScope s_parse_ended) := ⟨rfl, rfl, rfl, by decide +kernel, rfl, by decide +kernel, by decide +kernel⟩
abbrev s_parse_set : Stmt := top 35
theorem sc_parse_set : FnScope ns_parse_set ["cursor"] (defScope s_parse_set) := ⟨rfl, rfl, rfl, by decide +kernel, rfl, by decide +kernel, by decide +kernel⟩
abbrev s_parse_assign : Stmt := top 36
theorem sc_parse_assign : FnScope ns_parse_assign ["cursor", "target"] (defScope s_parse_assign) := ⟨rfl, rfl, rfl, by decide +kernel, rfl, by decide +kernel, by decide +kernel⟩
abbrev s_parse_let : Stmt := top 37
theorem sc_parse_let : FnScope ns_parse_let ["cursor"] (defScope s_parse_let) := ⟨rfl, rfl, rfl, by decide +kernel, rfl, by decide +kernel, by decide +kernel⟩
abbrev s_parse_print : Stmt := top 38
theorem sc_parse_print : FnScope ns_parse_print ["cursor"] (defScope s_parse_print) := ⟨rfl, rfl, rfl, by decide +kernel, rfl, by decide +kernel, by decide +kernel⟩
abbrev s_parse_return : Stmt := top 39
theorem sc_parse_return : FnScope ns_parse_return ["cursor"] (defScope s_parse_return) := ⟨rfl, rfl, rfl, by decide +kernel, rfl, by decide +kernel, by decide +kernel⟩
abbrev s_parse_if : Stmt := top 40
theorem sc_parse_if : FnScope ns_parse_if ["cursor"] (defScope s_parse_if) := ⟨rfl, rfl, rfl, by decide +kernel, rfl, by decide +kernel, by decide +kernel⟩
abbrev s_parse_while : Stmt := top 41
theorem sc_parse_while : FnScope ns_parse_while ["cursor"] (defScope s_parse_while) := ⟨rfl, rfl, rfl, by decide +kernel, rfl, by decide +kernel, by decide +kernel⟩
abbrev s_parse_put : Stmt := top 42
theorem sc_parse_put : FnScope ns_parse_put ["cursor"] (defScope s_parse_put) := ⟨rfl, rfl, rfl, by decide +kernel, rfl, by decide +kernel, by decide +kernel⟩
abbrev s_parse_drop : Stmt := top 43
theorem sc_parse_drop : FnScope ns_parse_drop ["cursor"] (defScope s_parse_drop) := ⟨rfl, rfl, rfl, by decide +kernel, rfl, by decide +kernel, by decide +kernel⟩
abbrev s_l_group : Stmt := top 57
theorem sc_l_group : FnScope ns_l_group ["trees", "signs"] (defScope s_l_group) := ⟨rfl, rfl, rfl, by decide +kernel, rfl, by decide +kernel, by decide +kernel⟩
abbrev s_parse_expr : Stmt := top 26
theorem sc_parse_expr : FnScope ns_parse_expr ["text"] (defScope s_parse_expr) := ⟨rfl, rfl, rfl, by decide +kernel, rfl, by decide +kernel, by decide +kernel⟩
abbrev s_l_operand : Stmt := top 55
theorem sc_l_operand : FnScope ns_l_operand ["draws"] (defScope s_l_operand) := ⟨rfl, rfl, rfl, by decide +kernel, rfl, by decide +kernel, by decide +kernel⟩
abbrev s_l_sign : Stmt := top 56
theorem sc_l_sign : FnScope ns_l_sign ["draws", "compared"] (defScope s_l_sign) := ⟨rfl, rfl, rfl, by decide +kernel, rfl, by decide +kernel, by decide +kernel⟩
abbrev s_l_told : Stmt := top 58
theorem sc_l_told : FnScope ns_l_told ["text"] (defScope s_l_told) := ⟨rfl, rfl, rfl, by decide +kernel, rfl, by decide +kernel, by decide +kernel⟩
abbrev s_l_one : Stmt := top 59
theorem sc_l_one : FnScope ns_l_one ["draws"] (defScope s_l_one) := ⟨rfl, rfl, rfl, by decide +kernel, rfl, by decide +kernel, by decide +kernel⟩
abbrev s_law : Stmt := top 60
theorem sc_law : FnScope ns_law ["script"] (defScope s_law) := ⟨rfl, rfl, rfl, by decide +kernel, rfl, by decide +kernel, by decide +kernel⟩
abbrev s_te : Stmt := inClass (top 2) 0
theorem te_is : TeIs s_te := ⟨_, _, _, _, _, _, _, _, _, _, _, _, _, _, _, _, _, _, _, _, _, _, _, _, _, rfl, rfl, rfl, rfl⟩
structure Txt (P : Program) (w : World) (K : PySem.W.Frag) (mg : Str → Option Value) : Prop where
  free_int : mg ("int" : Str) = none
  glo__law_mix : mg ("_law_mix" : Str) = some (.ref (He.ga K ("_law_mix" : Str)))
  free_len : mg ("len" : Str) = none
  free_range : mg ("range" : Str) = none
  free_min : mg ("min" : Str) = none
  glo_is_letter : mg ("is_letter" : Str) = some (.ref (He.ga K ("is_letter" : Str)))
  str_DIGITS : ∃ t, mg ("DIGITS" : Str) = some (.str ("0123456789" : Str) t)
  int_MOST_DIGITS : ∃ t, mg ("MOST_DIGITS" : Str) = some (.int 13 t)
  int_LARGEST : ∃ t, mg ("LARGEST" : Str) = some (.int 1000000000000 t)
  glo_KEYWORDS : mg ("KEYWORDS" : Str) = some (.ref (He.ga K ("KEYWORDS" : Str)))
  glo_is_word_part : mg ("is_word_part" : Str) = some (.ref (He.ga K ("is_word_part" : Str)))
  cls_Scanner : Cls K (He.ga K ("Scanner" : Str))
  meth_Scanner_is_done : Meth K (He.ga K ("Scanner" : Str)) ("is_done" : Str) (He.ma K (He.ga K ("Scanner" : Str)) ("is_done" : Str))
  meth_Scanner_skip_newline : Meth K (He.ga K ("Scanner" : Str)) ("skip_newline" : Str) (He.ma K (He.ga K ("Scanner" : Str)) ("skip_newline" : Str))
  meth_Scanner_take_to : Meth K (He.ga K ("Scanner" : Str)) ("take_to" : Str) (He.ma K (He.ga K ("Scanner" : Str)) ("take_to" : Str))
  meth_Scanner_row_end : Meth K (He.ga K ("Scanner" : Str)) ("row_end" : Str) (He.ma K (He.ga K ("Scanner" : Str)) ("row_end" : Str))
  glo_LONG_SIGNS : mg ("LONG_SIGNS" : Str) = some (.ref (He.ga K ("LONG_SIGNS" : Str)))
  glo_SHORT_SIGNS : mg ("SHORT_SIGNS" : Str) = some (.ref (He.ga K ("SHORT_SIGNS" : Str)))
  glo_BadCharacter : mg ("BadCharacter" : Str) = some (.ref (He.ga K ("BadCharacter" : Str)))
  meth_Scanner_word_end : Meth K (He.ga K ("Scanner" : Str)) ("word_end" : Str) (He.ma K (He.ga K ("Scanner" : Str)) ("word_end" : Str))
  glo_word_kind : mg ("word_kind" : Str) = some (.ref (He.ga K ("word_kind" : Str)))
  glo_is_number : mg ("is_number" : Str) = some (.ref (He.ga K ("is_number" : Str)))
  glo_BadNumber : mg ("BadNumber" : Str) = some (.ref (He.ga K ("BadNumber" : Str)))
  meth_Scanner_take_sign : Meth K (He.ga K ("Scanner" : Str)) ("take_sign" : Str) (He.ma K (He.ga K ("Scanner" : Str)) ("take_sign" : Str))
  glo_Scanner : mg ("Scanner" : Str) = some (.ref (He.ga K ("Scanner" : Str)))
  mkr_Scanner : Mk K (He.ga K ("Scanner" : Str)) (He.ma K (He.ga K ("Scanner" : Str)) "__init__")
  meth_Scanner_skip_gaps : Meth K (He.ga K ("Scanner" : Str)) ("skip_gaps" : Str) (He.ma K (He.ga K ("Scanner" : Str)) ("skip_gaps" : Str))
  meth_Scanner_take_token : Meth K (He.ga K ("Scanner" : Str)) ("take_token" : Str) (He.ma K (He.ga K ("Scanner" : Str)) ("take_token" : Str))
  cls_Cursor : Cls K (He.ga K ("Cursor" : Str))
  meth_Cursor_word : Meth K (He.ga K ("Cursor" : Str)) ("word" : Str) (He.ma K (He.ga K ("Cursor" : Str)) ("word" : Str))
  glo_Unexpected : mg ("Unexpected" : Str) = some (.ref (He.ga K ("Unexpected" : Str)))
  meth_Cursor_took : Meth K (He.ga K ("Cursor" : Str)) ("took" : Str) (He.ma K (He.ga K ("Cursor" : Str)) ("took" : Str))
  meth_Cursor_refuse : Meth K (He.ga K ("Cursor" : Str)) ("refuse" : Str) (He.ma K (He.ga K ("Cursor" : Str)) ("refuse" : Str))
  meth_Cursor_kind : Meth K (He.ga K ("Cursor" : Str)) ("kind" : Str) (He.ma K (He.ga K ("Cursor" : Str)) ("kind" : Str))
  meth_Cursor_take : Meth K (He.ga K ("Cursor" : Str)) ("take" : Str) (He.ma K (He.ga K ("Cursor" : Str)) ("take" : Str))
  glo_tokens : mg ("tokens" : Str) = some (.ref (He.ga K ("tokens" : Str)))
  meth_Cursor_take_name : Meth K (He.ga K ("Cursor" : Str)) ("take_name" : Str) (He.ma K (He.ga K ("Cursor" : Str)) ("take_name" : Str))
  meth_Cursor_want : Meth K (He.ga K ("Cursor" : Str)) ("want" : Str) (He.ma K (He.ga K ("Cursor" : Str)) ("want" : Str))
  glo_parse_postfix : mg ("parse_postfix" : Str) = some (.ref (He.ga K ("parse_postfix" : Str)))
  int_COMPARISON : ∃ t, mg ("COMPARISON" : Str) = some (.int 1 t)
  glo_parse_operators : mg ("parse_operators" : Str) = some (.ref (He.ga K ("parse_operators" : Str)))
  glo_LEVELS : mg ("LEVELS" : Str) = some (.ref (He.ga K ("LEVELS" : Str)))
  glo_parse_primary : mg ("parse_primary" : Str) = some (.ref (He.ga K ("parse_primary" : Str)))
  glo_has_own_dot : mg ("has_own_dot" : Str) = some (.ref (He.ga K ("has_own_dot" : Str)))
  glo_parse_whole : mg ("parse_whole" : Str) = some (.ref (He.ga K ("parse_whole" : Str)))
  glo_parse_row : mg ("parse_row" : Str) = some (.ref (He.ga K ("parse_row" : Str)))
  glo_CONSTANTS : mg ("CONSTANTS" : Str) = some (.ref (He.ga K ("CONSTANTS" : Str)))
  glo_parse_slots : mg ("parse_slots" : Str) = some (.ref (He.ga K ("parse_slots" : Str)))
  glo_parse_name : mg ("parse_name" : Str) = some (.ref (He.ga K ("parse_name" : Str)))
  glo_parse_body : mg ("parse_body" : Str) = some (.ref (He.ga K ("parse_body" : Str)))
  free_tuple : mg ("tuple" : Str) = none
  glo_parse_slot : mg ("parse_slot" : Str) = some (.ref (He.ga K ("parse_slot" : Str)))
  glo_parse_method : mg ("parse_method" : Str) = some (.ref (He.ga K ("parse_method" : Str)))
  glo_AIMS : mg ("AIMS" : Str) = some (.ref (He.ga K ("AIMS" : Str)))
  glo_parse_aim : mg ("parse_aim" : Str) = some (.ref (He.ga K ("parse_aim" : Str)))
  glo_parse_ended : mg ("parse_ended" : Str) = some (.ref (He.ga K ("parse_ended" : Str)))
  glo_parse_statement : mg ("parse_statement" : Str) = some (.ref (He.ga K ("parse_statement" : Str)))
  glo_STATEMENTS : mg ("STATEMENTS" : Str) = some (.ref (He.ga K ("STATEMENTS" : Str)))
  glo_parse_set : mg ("parse_set" : Str) = some (.ref (He.ga K ("parse_set" : Str)))
  glo_parse_assign : mg ("parse_assign" : Str) = some (.ref (He.ga K ("parse_assign" : Str)))
  glo__law_group : mg ("_law_group" : Str) = some (.ref (He.ga K ("_law_group" : Str)))
  glo_Cursor : mg ("Cursor" : Str) = some (.ref (He.ga K ("Cursor" : Str)))
  mkr_Cursor : Mk K (He.ga K ("Cursor" : Str)) (He.ma K (He.ga K ("Cursor" : Str)) "__init__")
  meth_Cursor_want_end : Meth K (He.ga K ("Cursor" : Str)) ("want_end" : Str) (He.ma K (He.ga K ("Cursor" : Str)) ("want_end" : Str))
  glo__law_pick : mg ("_law_pick" : Str) = some (.ref (He.ga K ("_law_pick" : Str)))
  free_str : mg ("str" : Str) = none
  glo_parse_expr : mg ("parse_expr" : Str) = some (.ref (He.ga K ("parse_expr" : Str)))
  noat_Unexpected_row : NoAttr K (He.ga K ("Unexpected" : Str)) ("row" : Str)
  noat_Unexpected_column : NoAttr K (He.ga K ("Unexpected" : Str)) ("column" : Str)
  glo__law_operand : mg ("_law_operand" : Str) = some (.ref (He.ga K ("_law_operand" : Str)))
  glo__law_sign : mg ("_law_sign" : Str) = some (.ref (He.ga K ("_law_sign" : Str)))
  glo__law_told : mg ("_law_told" : Str) = some (.ref (He.ga K ("_law_told" : Str)))
  glo__law_stream : mg ("_law_stream" : Str) = some (.ref (He.ga K ("_law_stream" : Str)))
  glo__law_one : mg ("_law_one" : Str) = some (.ref (He.ga K ("_law_one" : Str)))
  glo_law : mg ("law" : Str) = some (.ref (He.ga K ("law" : Str)))
  noat_Scanner_text : NoAttr K (He.ga K ("Scanner" : Str)) ("text" : Str)
  noat_Scanner_at : NoAttr K (He.ga K ("Scanner" : Str)) ("at" : Str)
  noat_Scanner_row : NoAttr K (He.ga K ("Scanner" : Str)) ("row" : Str)
  noat_Scanner_column : NoAttr K (He.ga K ("Scanner" : Str)) ("column" : Str)
  noat_Cursor_found : NoAttr K (He.ga K ("Cursor" : Str)) ("found" : Str)
  noat_Cursor_at : NoAttr K (He.ga K ("Cursor" : Str)) ("at" : Str)
  glo_parse_let : mg ("parse_let" : Str) = some (.ref (He.ga K ("parse_let" : Str)))
  glo_parse_print : mg ("parse_print" : Str) = some (.ref (He.ga K ("parse_print" : Str)))
  glo_parse_return : mg ("parse_return" : Str) = some (.ref (He.ga K ("parse_return" : Str)))
  glo_parse_if : mg ("parse_if" : Str) = some (.ref (He.ga K ("parse_if" : Str)))
  glo_parse_while : mg ("parse_while" : Str) = some (.ref (He.ga K ("parse_while" : Str)))
  glo_parse_put : mg ("parse_put" : Str) = some (.ref (He.ga K ("parse_put" : Str)))
  glo_parse_drop : mg ("parse_drop" : Str) = some (.ref (He.ga K ("parse_drop" : Str)))
  d_l_mix : ∃ fd, FunD K ("_law_mix" : Str) ("_law_mix" : Str) (defArgs s_l_mix) (defBody s_l_mix) (defScope s_l_mix) [] [] (He.ga K ("_law_mix" : Str)) fd
  d_l_pick : ∃ fd, FunD K ("_law_pick" : Str) ("_law_pick" : Str) (defArgs s_l_pick) (defBody s_l_pick) (defScope s_l_pick) [] [] (He.ga K ("_law_pick" : Str)) fd
  d_l_stream : ∃ fd, FunD K ("_law_stream" : Str) ("_law_stream" : Str) (defArgs s_l_stream) (defBody s_l_stream) (defScope s_l_stream) [] [] (He.ga K ("_law_stream" : Str)) fd
  d_is_letter : ∃ fd, FunD K ("is_letter" : Str) ("is_letter" : Str) (defArgs s_is_letter) (defBody s_is_letter) (defScope s_is_letter) [] [] (He.ga K ("is_letter" : Str)) fd
  d_is_word_part : ∃ fd, FunD K ("is_word_part" : Str) ("is_word_part" : Str) (defArgs s_is_word_part) (defBody s_is_word_part) (defScope s_is_word_part) [] [] (He.ga K ("is_word_part" : Str)) fd
  d_is_number : ∃ fd, FunD K ("is_number" : Str) ("is_number" : Str) (defArgs s_is_number) (defBody s_is_number) (defScope s_is_number) [] [] (He.ga K ("is_number" : Str)) fd
  d_word_kind : ∃ fd, FunD K ("word_kind" : Str) ("word_kind" : Str) (defArgs s_word_kind) (defBody s_word_kind) (defScope s_word_kind) [] [] (He.ga K ("word_kind" : Str)) fd
  d_Scanner_init : ∃ fd, FunD K ("__init__" : Str) ("Scanner.__init__" : Str) (defArgs s_Scanner_init) (defBody s_Scanner_init) (defScope s_Scanner_init) [] [] (He.ma K (He.ga K ("Scanner" : Str)) ("__init__" : Str)) fd
  d_Scanner_is_done : ∃ fd, FunD K ("is_done" : Str) ("Scanner.is_done" : Str) (defArgs s_Scanner_is_done) (defBody s_Scanner_is_done) (defScope s_Scanner_is_done) [] [] (He.ma K (He.ga K ("Scanner" : Str)) ("is_done" : Str)) fd
  d_Scanner_skip_newline : ∃ fd, FunD K ("skip_newline" : Str) ("Scanner.skip_newline" : Str) (defArgs s_Scanner_skip_newline) (defBody s_Scanner_skip_newline) (defScope s_Scanner_skip_newline) [] [] (He.ma K (He.ga K ("Scanner" : Str)) ("skip_newline" : Str)) fd
  d_Scanner_row_end : ∃ fd, FunD K ("row_end" : Str) ("Scanner.row_end" : Str) (defArgs s_Scanner_row_end) (defBody s_Scanner_row_end) (defScope s_Scanner_row_end) [] [] (He.ma K (He.ga K ("Scanner" : Str)) ("row_end" : Str)) fd
  d_Scanner_word_end : ∃ fd, FunD K ("word_end" : Str) ("Scanner.word_end" : Str) (defArgs s_Scanner_word_end) (defBody s_Scanner_word_end) (defScope s_Scanner_word_end) [] [] (He.ma K (He.ga K ("Scanner" : Str)) ("word_end" : Str)) fd
  d_Scanner_take_to : ∃ fd, FunD K ("take_to" : Str) ("Scanner.take_to" : Str) (defArgs s_Scanner_take_to) (defBody s_Scanner_take_to) (defScope s_Scanner_take_to) [] [] (He.ma K (He.ga K ("Scanner" : Str)) ("take_to" : Str)) fd
  d_Scanner_skip_gaps : ∃ fd, FunD K ("skip_gaps" : Str) ("Scanner.skip_gaps" : Str) (defArgs s_Scanner_skip_gaps) (defBody s_Scanner_skip_gaps) (defScope s_Scanner_skip_gaps) [] [] (He.ma K (He.ga K ("Scanner" : Str)) ("skip_gaps" : Str)) fd
  d_Scanner_take_sign : ∃ fd, FunD K ("take_sign" : Str) ("Scanner.take_sign" : Str) (defArgs s_Scanner_take_sign) (defBody s_Scanner_take_sign) (defScope s_Scanner_take_sign) [] [] (He.ma K (He.ga K ("Scanner" : Str)) ("take_sign" : Str)) fd
  d_Scanner_take_token : ∃ fd, FunD K ("take_token" : Str) ("Scanner.take_token" : Str) (defArgs s_Scanner_take_token) (defBody s_Scanner_take_token) (defScope s_Scanner_take_token) [] [] (He.ma K (He.ga K ("Scanner" : Str)) ("take_token" : Str)) fd
  d_tokens : ∃ fd, FunD K ("tokens" : Str) ("tokens" : Str) (defArgs s_tokens) (defBody s_tokens) (defScope s_tokens) [] [] (He.ga K ("tokens" : Str)) fd
  d_Cursor_kind : ∃ fd, FunD K ("kind" : Str) ("Cursor.kind" : Str) (defArgs s_Cursor_kind) (defBody s_Cursor_kind) (defScope s_Cursor_kind) [.int 0] [] (He.ma K (He.ga K ("Cursor" : Str)) ("kind" : Str)) fd
  d_Cursor_word : ∃ fd, FunD K ("word" : Str) ("Cursor.word" : Str) (defArgs s_Cursor_word) (defBody s_Cursor_word) (defScope s_Cursor_word) [.int 0] [] (He.ma K (He.ga K ("Cursor" : Str)) ("word" : Str)) fd
  d_Cursor_take : ∃ fd, FunD K ("take" : Str) ("Cursor.take" : Str) (defArgs s_Cursor_take) (defBody s_Cursor_take) (defScope s_Cursor_take) [] [] (He.ma K (He.ga K ("Cursor" : Str)) ("take" : Str)) fd
  d_Cursor_took : ∃ fd, FunD K ("took" : Str) ("Cursor.took" : Str) (defArgs s_Cursor_took) (defBody s_Cursor_took) (defScope s_Cursor_took) [] [] (He.ma K (He.ga K ("Cursor" : Str)) ("took" : Str)) fd
  d_Cursor_refuse : ∃ fd, FunD K ("refuse" : Str) ("Cursor.refuse" : Str) (defArgs s_Cursor_refuse) (defBody s_Cursor_refuse) (defScope s_Cursor_refuse) [] [] (He.ma K (He.ga K ("Cursor" : Str)) ("refuse" : Str)) fd
  d_Cursor_want : ∃ fd, FunD K ("want" : Str) ("Cursor.want" : Str) (defArgs s_Cursor_want) (defBody s_Cursor_want) (defScope s_Cursor_want) [] [] (He.ma K (He.ga K ("Cursor" : Str)) ("want" : Str)) fd
  d_Cursor_take_name : ∃ fd, FunD K ("take_name" : Str) ("Cursor.take_name" : Str) (defArgs s_Cursor_take_name) (defBody s_Cursor_take_name) (defScope s_Cursor_take_name) [] [] (He.ma K (He.ga K ("Cursor" : Str)) ("take_name" : Str)) fd
  d_Cursor_want_end : ∃ fd, FunD K ("want_end" : Str) ("Cursor.want_end" : Str) (defArgs s_Cursor_want_end) (defBody s_Cursor_want_end) (defScope s_Cursor_want_end) [] [] (He.ma K (He.ga K ("Cursor" : Str)) ("want_end" : Str)) fd
  d_Cursor_init : ∃ fd, FunD K ("__init__" : Str) ("Cursor.__init__" : Str) (defArgs s_Cursor_init) (defBody s_Cursor_init) (defScope s_Cursor_init) [] [] (He.ma K (He.ga K ("Cursor" : Str)) ("__init__" : Str)) fd
  d_parse_name : ∃ fd, FunD K ("parse_name" : Str) ("parse_name" : Str) (defArgs s_parse_name) (defBody s_parse_name) (defScope s_parse_name) [] [] (He.ga K ("parse_name" : Str)) fd
  d_parse_aim : ∃ fd, FunD K ("parse_aim" : Str) ("parse_aim" : Str) (defArgs s_parse_aim) (defBody s_parse_aim) (defScope s_parse_aim) [] [] (He.ga K ("parse_aim" : Str)) fd
  d_has_own_dot : ∃ fd, FunD K ("has_own_dot" : Str) ("has_own_dot" : Str) (defArgs s_has_own_dot) (defBody s_has_own_dot) (defScope s_has_own_dot) [] [] (He.ga K ("has_own_dot" : Str)) fd
  d_parse_whole : ∃ fd, FunD K ("parse_whole" : Str) ("parse_whole" : Str) (defArgs s_parse_whole) (defBody s_parse_whole) (defScope s_parse_whole) [] [] (He.ga K ("parse_whole" : Str)) fd
  d_parse_operators : ∃ fd, FunD K ("parse_operators" : Str) ("parse_operators" : Str) (defArgs s_parse_operators) (defBody s_parse_operators) (defScope s_parse_operators) [] [] (He.ga K ("parse_operators" : Str)) fd
  d_parse_postfix : ∃ fd, FunD K ("parse_postfix" : Str) ("parse_postfix" : Str) (defArgs s_parse_postfix) (defBody s_parse_postfix) (defScope s_parse_postfix) [] [] (He.ga K ("parse_postfix" : Str)) fd
  d_parse_primary : ∃ fd, FunD K ("parse_primary" : Str) ("parse_primary" : Str) (defArgs s_parse_primary) (defBody s_parse_primary) (defScope s_parse_primary) [] [] (He.ga K ("parse_primary" : Str)) fd
  d_parse_row : ∃ fd, FunD K ("parse_row" : Str) ("parse_row" : Str) (defArgs s_parse_row) (defBody s_parse_row) (defScope s_parse_row) [] [] (He.ga K ("parse_row" : Str)) fd
  d_parse_slots : ∃ fd, FunD K ("parse_slots" : Str) ("parse_slots" : Str) (defArgs s_parse_slots) (defBody s_parse_slots) (defScope s_parse_slots) [] [] (He.ga K ("parse_slots" : Str)) fd
  d_parse_slot : ∃ fd, FunD K ("parse_slot" : Str) ("parse_slot" : Str) (defArgs s_parse_slot) (defBody s_parse_slot) (defScope s_parse_slot) [] [] (He.ga K ("parse_slot" : Str)) fd
  d_parse_method : ∃ fd, FunD K ("parse_method" : Str) ("parse_method" : Str) (defArgs s_parse_method) (defBody s_parse_method) (defScope s_parse_method) [] [] (He.ga K ("parse_method" : Str)) fd
  d_parse_body : ∃ fd, FunD K ("parse_body" : Str) ("parse_body" : Str) (defArgs s_parse_body) (defBody s_parse_body) (defScope s_parse_body) [] [] (He.ga K ("parse_body" : Str)) fd
  d_parse_statement : ∃ fd, FunD K ("parse_statement" : Str) ("parse_statement" : Str) (defArgs s_parse_statement) (defBody s_parse_statement) (defScope s_parse_statement) [] [] (He.ga K ("parse_statement" : Str)) fd
  d_parse_ended : ∃ fd, FunD K ("parse_ended" : Str) ("parse_ended" : Str) (defArgs s_parse_ended) (defBody s_parse_ended) (defScope s_parse_ended) [] [] (He.ga K ("parse_ended" : Str)) fd
  d_parse_set : ∃ fd, FunD K ("parse_set" : Str) ("parse_set" : Str) (defArgs s_parse_set) (defBody s_parse_set) (defScope s_parse_set) [] [] (He.ga K ("parse_set" : Str)) fd
  d_parse_assign : ∃ fd, FunD K ("parse_assign" : Str) ("parse_assign" : Str) (defArgs s_parse_assign) (defBody s_parse_assign) (defScope s_parse_assign) [] [] (He.ga K ("parse_assign" : Str)) fd
  d_parse_let : ∃ fd, FunD K ("parse_let" : Str) ("parse_let" : Str) (defArgs s_parse_let) (defBody s_parse_let) (defScope s_parse_let) [] [] (He.ga K ("parse_let" : Str)) fd
  d_parse_print : ∃ fd, FunD K ("parse_print" : Str) ("parse_print" : Str) (defArgs s_parse_print) (defBody s_parse_print) (defScope s_parse_print) [] [] (He.ga K ("parse_print" : Str)) fd
  d_parse_return : ∃ fd, FunD K ("parse_return" : Str) ("parse_return" : Str) (defArgs s_parse_return) (defBody s_parse_return) (defScope s_parse_return) [] [] (He.ga K ("parse_return" : Str)) fd
  d_parse_if : ∃ fd, FunD K ("parse_if" : Str) ("parse_if" : Str) (defArgs s_parse_if) (defBody s_parse_if) (defScope s_parse_if) [] [] (He.ga K ("parse_if" : Str)) fd
  d_parse_while : ∃ fd, FunD K ("parse_while" : Str) ("parse_while" : Str) (defArgs s_parse_while) (defBody s_parse_while) (defScope s_parse_while) [] [] (He.ga K ("parse_while" : Str)) fd
  d_parse_put : ∃ fd, FunD K ("parse_put" : Str) ("parse_put" : Str) (defArgs s_parse_put) (defBody s_parse_put) (defScope s_parse_put) [] [] (He.ga K ("parse_put" : Str)) fd
  d_parse_drop : ∃ fd, FunD K ("parse_drop" : Str) ("parse_drop" : Str) (defArgs s_parse_drop) (defBody s_parse_drop) (defScope s_parse_drop) [] [] (He.ga K ("parse_drop" : Str)) fd
  d_l_group : ∃ fd, FunD K ("_law_group" : Str) ("_law_group" : Str) (defArgs s_l_group) (defBody s_l_group) (defScope s_l_group) [] [] (He.ga K ("_law_group" : Str)) fd
  d_parse_expr : ∃ fd, FunD K ("parse_expr" : Str) ("parse_expr" : Str) (defArgs s_parse_expr) (defBody s_parse_expr) (defScope s_parse_expr) [] [] (He.ga K ("parse_expr" : Str)) fd
  d_l_operand : ∃ fd, FunD K ("_law_operand" : Str) ("_law_operand" : Str) (defArgs s_l_operand) (defBody s_l_operand) (defScope s_l_operand) [] [] (He.ga K ("_law_operand" : Str)) fd
  d_l_sign : ∃ fd, FunD K ("_law_sign" : Str) ("_law_sign" : Str) (defArgs s_l_sign) (defBody s_l_sign) (defScope s_l_sign) [] [] (He.ga K ("_law_sign" : Str)) fd
  d_l_told : ∃ fd, FunD K ("_law_told" : Str) ("_law_told" : Str) (defArgs s_l_told) (defBody s_l_told) (defScope s_l_told) [] [] (He.ga K ("_law_told" : Str)) fd
  d_l_one : ∃ fd, FunD K ("_law_one" : Str) ("_law_one" : Str) (defArgs s_l_one) (defBody s_l_one) (defScope s_l_one) [] [] (He.ga K ("_law_one" : Str)) fd
  d_law : ∃ fd, FunD K ("law" : Str) ("law" : Str) (defArgs s_law) (defBody s_law) (defScope s_law) [] [] (He.ga K ("law" : Str)) fd
  kw : ∀ H, SqT K H (He.ga K ("KEYWORDS" : Str)) (Lx.kwL.map fun k => V.str (Tx k))
  lg : ∀ H, SqT K H (He.ga K ("LONG_SIGNS" : Str)) (Lx.longL.map fun k => V.str (Tx k))
  sh : ∀ H, SqT K H (He.ga K ("SHORT_SIGNS" : Str)) (Lx.shortL.map fun k => V.str (Tx k))
  aims : ∀ H, SqT K H (He.ga K ("AIMS" : Str)) (aimL.map fun k => V.str (Tx k))
  consts : ∀ H, SqT K H (He.ga K ("CONSTANTS" : Str)) (constL.map fun k => V.str (Tx k))
  err_BadCharacter : ErrK P K (He.ga K ("BadCharacter" : Str))
  err_BadNumber : ErrK P K (He.ga K ("BadNumber" : Str))
  err_Unexpected : ErrK P K (He.ga K ("Unexpected" : Str))
  exc_Unexpected : ExcC K (He.ga K ("Unexpected" : Str))
  exm_Unexpected_Unexpected : PySem.W.exmOne K (.ref (He.ga K ("Unexpected" : Str))) (.ref (He.ga K ("Unexpected" : Str))) = some true
  dic_LEVELS : KD K w (He.ga K ("LEVELS" : Str)) levV
  dic_STATEMENTS : KD K w (He.ga K ("STATEMENTS" : Str)) (stmV K)
theorem Txt.sc {P : Program} {w : World} {K : PySem.W.Frag} {mg : Str → Option Value} (T : Txt P w K mg) : ScC K := ⟨T.cls_Scanner, T.noat_Scanner_text, T.noat_Scanner_at, T.noat_Scanner_row, T.noat_Scanner_column⟩
theorem Txt.cu {P : Program} {w : World} {K : PySem.W.Frag} {mg : Str → Option Value} (T : Txt P w K mg) : CuC K := ⟨T.cls_Cursor, T.noat_Cursor_found, T.noat_Cursor_at⟩
section
variable {P : Program} {w : World} {K : PySem.W.Frag} {mg : Str → Option Value} {base : Heap}
theorem ok_l_mix (T : Txt P w K mg) {fd : FuncData} (F : FunD K ("_law_mix" : Str) ("_law_mix" : Str) (defArgs s_l_mix) (defBody s_l_mix) (defScope s_l_mix) [] [] (He.ga K ("_law_mix" : Str)) fd) : Def P w K mg base 1 (He.ga K ("_law_mix" : Str)) fd ["cell", "k"] (sp_l_mix K) := by
  refine ⟨F.ok (CX := L2.CX P w) sc_l_mix (fun vs H Q E h => ?_) (fun cdv A outer s H vs Q E hr h => ⟨t_l_mix K E, ?_, run_l_mix h⟩), F.bindsN fun _ _ _ _ _ _ us hl => match us, hl with | [_, _], _ => rfl, F.kp⟩
  · obtain ⟨_, _, rfl, _⟩ := h
    rfl
  · exact (pss_cons (ps_set (i := 2) sc_l_mix.nd rfl (Or.inl rfl) (pe_op op_mod (pe_callTy call_int1 (by rfl) T.free_int (by decide +kernel) (pa_cons (pe_op op_add (pe_op op_add (pe_op op_mul (pv 0) pe_int) (pe_op op_mul (pv 1) pe_int)) pe_int) pa_nil)) pe_int))
      (pss_one (ps_ret (pe_op op_mod (pe_op op_mod (pe_callTy call_int1 (by rfl) T.free_int (by decide +kernel) (pa_cons (pe_op op_add (pe_op op_add (pe_op op_add (pe_op op_mul (pv 2) (pv 2)) (pe_op op_mul (pv 0) pe_int)) (pe_op op_mul (pv 1) pe_int)) pe_int) pa_nil)) pe_int) pe_int))))
theorem ok_l_pick (T : Txt P w K mg) {fd : FuncData} (F : FunD K ("_law_pick" : Str) ("_law_pick" : Str) (defArgs s_l_pick) (defBody s_l_pick) (defScope s_l_pick) [] [] (He.ga K ("_law_pick" : Str)) fd) : Def P w K mg base 2 (He.ga K ("_law_pick" : Str)) fd ["draws", "many"] (sp_l_pick K) := by
  obtain ⟨fd_l_mix, F_l_mix⟩ := T.d_l_mix
  have G_l_mix := ok_l_mix (P := P) (w := w) (base := base) T F_l_mix
  refine ⟨F.ok (CX := L2.CX P w) sc_l_pick (fun vs H Q E h => ?_) (fun cdv A outer s H vs Q E hr h => ⟨t_l_pick K E, ?_, run_l_pick h⟩), F.bindsN fun _ _ _ _ _ _ us hl => match us, hl with | [_, _], _ => rfl, F.kp⟩
  · obtain ⟨_, _, rfl, _⟩ := h
    rfl
  · have hu := hu_of hr
    exact (pss_cons (ps_set (i := 2) sc_l_pick.nd rfl (Or.inl rfl) (pe_dget hu (pv 0) pe_str (fun _ _ => rfl)))
      (pss_cons (ps_dput hu (pv 0) pe_str (pe_op op_add (pv 2) pe_int) rfl)
      (pss_cons (ps_set (i := 3) sc_l_pick.nd rfl (Or.inl rfl) (pe_call G_l_mix.fn (hr.mono (by decide)) rfl T.glo__law_mix G_l_mix.kp G_l_mix.bd .nil (passE (takes_of rfl rfl rfl rfl)) (pa_cons (pe_dget hu (pv 0) pe_str (fun _ _ => rfl)) (pa_cons (pv 2) pa_nil))))
      (pss_cons (ps_if (pt_cmpR op_lt (pv 2) (pe_callB call_len (by rfl) T.free_len (by decide +kernel) (pa_cons (pe_dget hu (pv 0) pe_str (fun _ _ => rfl)) pa_nil)) (nomark _)) (pss_one (ps_set (i := 3) sc_l_pick.nd rfl (Or.inl rfl) (pe_ix ix_list (pe_dget hu (pv 0) pe_str (fun _ _ => rfl)) (pv 2) (fun _ _ => rfl)))) pss_nil)
      (pss_one (ps_ret (pe_op op_mod (pe_callTy call_int1 (by rfl) T.free_int (by decide +kernel) (pa_cons (pv 3) pa_nil)) (pv 1))))))))
theorem ok_l_stream (T : Txt P w K mg) {fd : FuncData} (F : FunD K ("_law_stream" : Str) ("_law_stream" : Str) (defArgs s_l_stream) (defBody s_l_stream) (defScope s_l_stream) [] [] (He.ga K ("_law_stream" : Str)) fd) : Def P w K mg base 2 (He.ga K ("_law_stream" : Str)) fd ["script", "most"] (sp_l_stream K) := by
  obtain ⟨fd_l_mix, F_l_mix⟩ := T.d_l_mix
  have G_l_mix := ok_l_mix (P := P) (w := w) (base := base) T F_l_mix
  refine ⟨F.ok (CX := L2.CX P w) sc_l_stream (fun vs H Q E h => ?_) (fun cdv A outer s H vs Q E hr h => ⟨t_l_stream K E, ?_, run_l_stream h⟩), F.bindsN fun _ _ _ _ _ _ us hl => match us, hl with | [_, _], _ => rfl, F.kp⟩
  · obtain ⟨_, _, _, rfl, _⟩ := h
    rfl
  · exact (pss_cons (ps_set (i := 2) sc_l_stream.nd rfl (Or.inl rfl) (pe_lst pa_nil))
      (pss_cons (ps_for (passes_of rfl) rfl (pi_range1 (by rfl) T.free_range (pa_cons (pe_callB (call_min2 rfl) (by rfl) T.free_min (by decide +kernel) (pa_cons (pe_callB call_len (by rfl) T.free_len (by decide +kernel) (pa_cons (pv 0) pa_nil)) (pa_cons pe_int pa_nil))) pa_nil)) (pg_name (i := 3) sc_l_stream.nd rfl (Or.inl rfl)) (pss_cons (ps_set (i := 4) sc_l_stream.nd rfl (Or.inl rfl) (pe_ix ix_list (pv 0) (pv 3) (fun _ _ => rfl)))
      (pss_one (ps_if (pt_cmpR op_ge (pv 4) (pe_op op_pow pe_int pe_int) (nomark _)) (pss_one (ps_for (passes_of rfl) rfl (pi_range1 (by rfl) T.free_range (pa_cons pe_int pa_nil)) (pg_name (i := 5) sc_l_stream.nd rfl (Or.inl rfl)) (pss_one (ps_if (PW.pt (pw_and (pt_cmpR op_gt (pv 4) pe_int (nomark _)) (pw_and1 (pt_cmpR op_lt (pe_callB call_len (by rfl) T.free_len (by decide +kernel) (pa_cons (pv 2) pa_nil)) (pv 1) (nomark _))))) (pss_cons (ps_expr (pe_bm PySem.F.plainAttrs_list PySem.F.slot_list_append PySem.F.type_list_append mt_append (pv 2) (pa_cons (pe_op op_mod (pe_callTy call_int1 (by rfl) T.free_int (by decide +kernel) (pa_cons (pv 4) pa_nil)) pe_int) pa_nil)))
      (pss_one (ps_set (i := 4) sc_l_stream.nd rfl (Or.inl rfl) (pe_op op_fdiv (pv 4) pe_int)))) pss_nil)))) (pss_one (ps_for (passes_of rfl) rfl (pi_range1 (by rfl) T.free_range (pa_cons pe_int pa_nil)) (pg_name (i := 5) sc_l_stream.nd rfl (Or.inl rfl)) (pss_one (ps_if (pt_cmpR op_lt (pe_callB call_len (by rfl) T.free_len (by decide +kernel) (pa_cons (pv 2) pa_nil)) (pv 1) (nomark _)) (pss_one (ps_expr (pe_bm PySem.F.plainAttrs_list PySem.F.slot_list_append PySem.F.type_list_append mt_append (pv 2) (pa_cons (pe_call G_l_mix.fn (hr.mono (by decide)) rfl T.glo__law_mix G_l_mix.kp G_l_mix.bd .nil (passE (takes_of rfl rfl rfl rfl)) (pa_cons (pv 4) (pa_cons (pe_op op_add (pe_op op_mul pe_int (pv 5)) (pv 3)) pa_nil))) pa_nil)))) pss_nil))))))))
      (pss_one (ps_ret (pe_disp (pps_cons pe_str (pv 2) (pps_cons pe_str pe_int (pps_cons pe_str (pe_callB call_len (by rfl) T.free_len (by decide +kernel) (pa_cons (pv 2) pa_nil)) pps_nil))) (by rfl) (by rfl) (fun z => by cases z) (by decide))))))
theorem ok_is_letter (T : Txt P w K mg) {fd : FuncData} (F : FunD K ("is_letter" : Str) ("is_letter" : Str) (defArgs s_is_letter) (defBody s_is_letter) (defScope s_is_letter) [] [] (He.ga K ("is_letter" : Str)) fd) : Def P w K mg base 1 (He.ga K ("is_letter" : Str)) fd ["char"] (sp_is_letter K) := by
  refine ⟨F.ok (CX := L2.CX P w) sc_is_letter (fun vs H Q E h => ?_) (fun cdv A outer s H vs Q E hr h => ⟨t_is_letter K E, ?_, run_is_letter h⟩), F.bindsN fun _ _ _ _ _ _ us hl => match us, hl with | [_], _ => rfl, F.kp⟩
  · obtain ⟨_, rfl, _⟩ := h
    rfl
  · exact (pss_one (ps_ret (pe_and (pe_bm0 PySem.F.plainAttrs_str PySem.F.slot_str_isascii PySem.F.type_str_isascii mt_isascii (pv 0)) (pe_one (pe_bm0 PySem.F.plainAttrs_str PySem.F.slot_str_isalpha PySem.F.type_str_isalpha mt_isalpha (pv 0))))))
theorem ok_is_word_part (T : Txt P w K mg) {fd : FuncData} (F : FunD K ("is_word_part" : Str) ("is_word_part" : Str) (defArgs s_is_word_part) (defBody s_is_word_part) (defScope s_is_word_part) [] [] (He.ga K ("is_word_part" : Str)) fd) : Def P w K mg base 2 (He.ga K ("is_word_part" : Str)) fd ["char"] (sp_is_word_part K) := by
  obtain ⟨fd_is_letter, F_is_letter⟩ := T.d_is_letter
  have G_is_letter := ok_is_letter (P := P) (w := w) (base := base) T F_is_letter
  obtain ⟨tk_DIGITS, i_DIGITS⟩ := T.str_DIGITS
  refine ⟨F.ok (CX := L2.CX P w) sc_is_word_part (fun vs H Q E h => ?_) (fun cdv A outer s H vs Q E hr h => ⟨t_is_word_part K E, ?_, run_is_word_part h⟩), F.bindsN fun _ _ _ _ _ _ us hl => match us, hl with | [_], _ => rfl, F.kp⟩
  · obtain ⟨_, rfl, _⟩ := h
    rfl
  · exact (pss_one (ps_ret (pe_or (pe_call G_is_letter.fn (hr.mono (by decide)) rfl T.glo_is_letter G_is_letter.kp G_is_letter.bd .nil (passE (takes_of rfl rfl rfl rfl)) (pa_cons (pv 0) pa_nil)) (pe_or (pe_cmpR op_in_sign (pv 0) (pe_glob rfl i_DIGITS ⟨_, rfl⟩) (by with_unfolding_all rfl)) (pe_one (pe_cmpR op_eq (pv 0) pe_str (nomark _)))))))
theorem ok_is_number (T : Txt P w K mg) {fd : FuncData} (F : FunD K ("is_number" : Str) ("is_number" : Str) (defArgs s_is_number) (defBody s_is_number) (defScope s_is_number) [] [] (He.ga K ("is_number" : Str)) fd) : Def P w K mg base 1 (He.ga K ("is_number" : Str)) fd ["word"] (sp_is_number K) := by
  obtain ⟨tk_MOST_DIGITS, i_MOST_DIGITS⟩ := T.int_MOST_DIGITS
  obtain ⟨tk_LARGEST, i_LARGEST⟩ := T.int_LARGEST
  refine ⟨F.ok (CX := L2.CX P w) sc_is_number (fun vs H Q E h => ?_) (fun cdv A outer s H vs Q E hr h => ⟨t_is_number K E, ?_, run_is_number h⟩), F.bindsN fun _ _ _ _ _ _ us hl => match us, hl with | [_], _ => rfl, F.kp⟩
  · obtain ⟨_, rfl, _⟩ := h
    rfl
  · exact (pss_cons (ps_if (PW.pt (pw_or (pt_not (pt_val (pe_bm0 PySem.F.plainAttrs_str PySem.F.slot_str_isascii PySem.F.type_str_isascii mt_isascii (pv 0)))) (pw_or1 (pt_not (pt_val (pe_bm0 PySem.F.plainAttrs_str PySem.F.slot_str_isdigit PySem.F.type_str_isdigit mt_isdigit (pv 0))))))) (pss_one (ps_ret pe_bl)) pss_nil)
      (pss_cons (ps_if (PW.pt (pw_and (pt_cmpR op_gt (pe_callB call_len_str (by rfl) T.free_len (by decide +kernel) (pa_cons (pv 0) pa_nil)) pe_int (nomark _)) (pw_and1 (pt_cmpR op_eq (pe_ix ix_str (pv 0) pe_int (fun _ _ => rfl)) pe_str (nomark _))))) (pss_one (ps_ret pe_bl)) pss_nil)
      (pss_one (ps_ret (pe_and (pe_cmpR op_le (pe_callB call_len_str (by rfl) T.free_len (by decide +kernel) (pa_cons (pv 0) pa_nil)) (pe_glob rfl i_MOST_DIGITS ⟨_, rfl⟩) (nomark _)) (pe_one (pe_cmpR op_le (pe_callTy call_int_str (by rfl) T.free_int (by decide +kernel) (pa_cons (pv 0) pa_nil)) (pe_glob rfl i_LARGEST ⟨_, rfl⟩) (nomark _))))))))
theorem ok_word_kind (T : Txt P w K mg) {fd : FuncData} (F : FunD K ("word_kind" : Str) ("word_kind" : Str) (defArgs s_word_kind) (defBody s_word_kind) (defScope s_word_kind) [] [] (He.ga K ("word_kind" : Str)) fd) : Def P w K mg base 1 (He.ga K ("word_kind" : Str)) fd ["word"] (sp_word_kind K) := by
  refine ⟨F.ok (CX := L2.CX P w) sc_word_kind (fun vs H Q E h => ?_) (fun cdv A outer s H vs Q E hr h => ⟨t_word_kind K E, ?_, run_word_kind T.kw h⟩), F.bindsN fun _ _ _ _ _ _ us hl => match us, hl with | [_], _ => rfl, F.kp⟩
  · obtain ⟨_, rfl, _⟩ := h
    rfl
  · exact (pss_cons (ps_if (pt_cmpR op_in_seq (pv 0) (pe_glob rfl T.glo_KEYWORDS rfl) (by with_unfolding_all rfl)) (pss_one (ps_ret pe_str)) pss_nil)
      (pss_one (ps_ret pe_str)))
theorem ok_Scanner_init (T : Txt P w K mg) {fd : FuncData} (F : FunD K ("__init__" : Str) ("Scanner.__init__" : Str) (defArgs s_Scanner_init) (defBody s_Scanner_init) (defScope s_Scanner_init) [] [] (He.ma K (He.ga K ("Scanner" : Str)) ("__init__" : Str)) fd) : Def P w K mg base 1 (He.ma K (He.ga K ("Scanner" : Str)) ("__init__" : Str)) fd ["self", "text"] (sp_Scanner_init K) := by
  refine ⟨F.ok (CX := L2.CX P w) sc_Scanner_init (fun vs H Q E h => ?_) (fun cdv A outer s H vs Q E hr h => ⟨t_Scanner_init K E, ?_, run_Scanner_init T.sc h⟩), F.bindsN fun _ _ _ _ _ _ us hl => match us, hl with | [_, _], _ => rfl, F.kp⟩
  · obtain ⟨_, _, _, rfl, _⟩ := h
    rfl
  · exact (pss_cons (ps_fld (pv 0) (pv 1) rfl)
      (pss_cons (ps_fld (pv 0) pe_int rfl)
      (pss_cons (ps_fld (pv 0) pe_int rfl)
      (pss_one (ps_fld (pv 0) pe_int rfl)))))
theorem ok_Scanner_is_done (T : Txt P w K mg) {fd : FuncData} (F : FunD K ("is_done" : Str) ("Scanner.is_done" : Str) (defArgs s_Scanner_is_done) (defBody s_Scanner_is_done) (defScope s_Scanner_is_done) [] [] (He.ma K (He.ga K ("Scanner" : Str)) ("is_done" : Str)) fd) : Def P w K mg base 1 (He.ma K (He.ga K ("Scanner" : Str)) ("is_done" : Str)) fd ["self"] (sp_Scanner_is_done K) := by
  refine ⟨F.ok (CX := L2.CX P w) sc_Scanner_is_done (fun vs H Q E h => ?_) (fun cdv A outer s H vs Q E hr h => ⟨t_Scanner_is_done K E, ?_, run_Scanner_is_done T.sc h⟩), F.bindsN fun _ _ _ _ _ _ us hl => match us, hl with | [_], _ => rfl, F.kp⟩
  · obtain ⟨_, _, _, _, _, _, rfl, _⟩ := h
    rfl
  · exact (pss_one (ps_ret (pe_cmpR op_eq (pe_fld (pv 0) rfl) (pe_callB call_len_str (by rfl) T.free_len (by decide +kernel) (pa_cons (pe_fld (pv 0) rfl) pa_nil)) (nomark _))))
theorem ok_Scanner_skip_newline (T : Txt P w K mg) {fd : FuncData} (F : FunD K ("skip_newline" : Str) ("Scanner.skip_newline" : Str) (defArgs s_Scanner_skip_newline) (defBody s_Scanner_skip_newline) (defScope s_Scanner_skip_newline) [] [] (He.ma K (He.ga K ("Scanner" : Str)) ("skip_newline" : Str)) fd) : Def P w K mg base 1 (He.ma K (He.ga K ("Scanner" : Str)) ("skip_newline" : Str)) fd ["self"] (sp_Scanner_skip_newline K) := by
  refine ⟨F.ok (CX := L2.CX P w) sc_Scanner_skip_newline (fun vs H Q E h => ?_) (fun cdv A outer s H vs Q E hr h => ⟨t_Scanner_skip_newline K E, ?_, run_Scanner_skip_newline T.sc h⟩), F.bindsN fun _ _ _ _ _ _ us hl => match us, hl with | [_], _ => rfl, F.kp⟩
  · obtain ⟨_, _, _, _, _, _, rfl, _⟩ := h
    rfl
  · exact (pss_cons (ps_fldaug (pv 0) pe_int in_add)
      (pss_cons (ps_fldaug (pv 0) pe_int in_add)
      (pss_one (ps_fld (pv 0) pe_int rfl))))
theorem ok_Scanner_row_end (T : Txt P w K mg) {fd : FuncData} (F : FunD K ("row_end" : Str) ("Scanner.row_end" : Str) (defArgs s_Scanner_row_end) (defBody s_Scanner_row_end) (defScope s_Scanner_row_end) [] [] (He.ma K (He.ga K ("Scanner" : Str)) ("row_end" : Str)) fd) : Def P w K mg base 1 (He.ma K (He.ga K ("Scanner" : Str)) ("row_end" : Str)) fd ["self"] (sp_Scanner_row_end K) := by
  refine ⟨F.ok (CX := L2.CX P w) sc_Scanner_row_end (fun vs H Q E h => ?_) (fun cdv A outer s H vs Q E hr h => ⟨t_Scanner_row_end K E, ?_, run_Scanner_row_end T.sc h⟩), F.bindsN fun _ _ _ _ _ _ us hl => match us, hl with | [_], _ => rfl, F.kp⟩
  · obtain ⟨_, _, _, _, _, _, rfl, _⟩ := h
    rfl
  · exact (pss_cons (ps_set (i := 1) sc_Scanner_row_end.nd rfl (Or.inl rfl) (pe_bm PySem.F.plainAttrs_str PySem.F.slot_str_find PySem.F.type_str_find mt_find3 (pe_fld (pv 0) rfl) (pa_cons pe_str (pa_cons (pe_fld (pv 0) rfl) pa_nil))))
      (pss_cons (ps_if (pt_cmpR op_eq (pv 1) (pe_un un_neg pe_int) (nomark _)) (pss_one (ps_ret (pe_callB call_len_str (by rfl) T.free_len (by decide +kernel) (pa_cons (pe_fld (pv 0) rfl) pa_nil)))) pss_nil)
      (pss_one (ps_ret (pv 1)))))
theorem ok_Scanner_word_end (T : Txt P w K mg) {fd : FuncData} (F : FunD K ("word_end" : Str) ("Scanner.word_end" : Str) (defArgs s_Scanner_word_end) (defBody s_Scanner_word_end) (defScope s_Scanner_word_end) [] [] (He.ma K (He.ga K ("Scanner" : Str)) ("word_end" : Str)) fd) : Def P w K mg base 3 (He.ma K (He.ga K ("Scanner" : Str)) ("word_end" : Str)) fd ["self"] (sp_Scanner_word_end K) := by
  obtain ⟨fd_is_word_part, F_is_word_part⟩ := T.d_is_word_part
  have G_is_word_part := ok_is_word_part (P := P) (w := w) (base := base) T F_is_word_part
  refine ⟨F.ok (CX := L2.CX P w) sc_Scanner_word_end (fun vs H Q E h => ?_) (fun cdv A outer s H vs Q E hr h => ⟨t_Scanner_word_end K E, ?_, run_Scanner_word_end T.sc h⟩), F.bindsN fun _ _ _ _ _ _ us hl => match us, hl with | [_], _ => rfl, F.kp⟩
  · obtain ⟨_, _, _, _, _, _, rfl, _⟩ := h
    rfl
  · exact (pss_cons (ps_set (i := 1) sc_Scanner_word_end.nd rfl (Or.inl rfl) (pe_fld (pv 0) rfl))
      (pss_cons (ps_while (passes_of rfl) (PW.pt (pw_and (pt_cmpR op_lt (pv 1) (pe_callB call_len_str (by rfl) T.free_len (by decide +kernel) (pa_cons (pe_fld (pv 0) rfl) pa_nil)) (nomark _)) (pw_and1 (pt_val (pe_call G_is_word_part.fn (hr.mono (by decide)) rfl T.glo_is_word_part G_is_word_part.kp G_is_word_part.bd .nil (passE (takes_of rfl rfl rfl rfl)) (pa_cons (pe_ix ix_str (pe_fld (pv 0) rfl) (pv 1) (fun _ _ => rfl)) pa_nil)))))) (pss_one (ps_aug (i := 1) sc_Scanner_word_end.nd rfl (Or.inl rfl) pe_int ip_add)))
      (pss_one (ps_ret (pv 1)))))
theorem ok_Scanner_take_to (T : Txt P w K mg) {fd : FuncData} (F : FunD K ("take_to" : Str) ("Scanner.take_to" : Str) (defArgs s_Scanner_take_to) (defBody s_Scanner_take_to) (defScope s_Scanner_take_to) [] [] (He.ma K (He.ga K ("Scanner" : Str)) ("take_to" : Str)) fd) : Def P w K mg base 1 (He.ma K (He.ga K ("Scanner" : Str)) ("take_to" : Str)) fd ["self", "end"] (sp_Scanner_take_to K) := by
  refine ⟨F.ok (CX := L2.CX P w) sc_Scanner_take_to (fun vs H Q E h => ?_) (fun cdv A outer s H vs Q E hr h => ⟨t_Scanner_take_to K E, ?_, run_Scanner_take_to T.sc h⟩), F.bindsN fun _ _ _ _ _ _ us hl => match us, hl with | [_, _], _ => rfl, F.kp⟩
  · obtain ⟨_, _, _, _, _, _, _, rfl, _⟩ := h
    rfl
  · exact (pss_cons (ps_set (i := 2) sc_Scanner_take_to.nd rfl (Or.inl rfl) (pe_slice sl_str (pe_fld (pv 0) rfl) (po_some (pe_fld (pv 0) rfl)) (po_some (pv 1))))
      (pss_cons (ps_fldaug (pv 0) (pe_op op_sub (pv 1) (pe_fld (pv 0) rfl)) in_add)
      (pss_cons (ps_fld (pv 0) (pv 1) rfl)
      (pss_one (ps_ret (pv 2))))))
theorem ok_Scanner_skip_gaps (T : Txt P w K mg) {fd : FuncData} (F : FunD K ("skip_gaps" : Str) ("Scanner.skip_gaps" : Str) (defArgs s_Scanner_skip_gaps) (defBody s_Scanner_skip_gaps) (defScope s_Scanner_skip_gaps) [] [] (He.ma K (He.ga K ("Scanner" : Str)) ("skip_gaps" : Str)) fd) : Def P w K mg base 2 (He.ma K (He.ga K ("Scanner" : Str)) ("skip_gaps" : Str)) fd ["self"] (sp_Scanner_skip_gaps K) := by
  obtain ⟨fd_Scanner_is_done, F_Scanner_is_done⟩ := T.d_Scanner_is_done
  have G_Scanner_is_done := ok_Scanner_is_done (P := P) (w := w) (base := base) T F_Scanner_is_done
  obtain ⟨fd_Scanner_skip_newline, F_Scanner_skip_newline⟩ := T.d_Scanner_skip_newline
  have G_Scanner_skip_newline := ok_Scanner_skip_newline (P := P) (w := w) (base := base) T F_Scanner_skip_newline
  obtain ⟨fd_Scanner_take_to, F_Scanner_take_to⟩ := T.d_Scanner_take_to
  have G_Scanner_take_to := ok_Scanner_take_to (P := P) (w := w) (base := base) T F_Scanner_take_to
  obtain ⟨fd_Scanner_row_end, F_Scanner_row_end⟩ := T.d_Scanner_row_end
  have G_Scanner_row_end := ok_Scanner_row_end (P := P) (w := w) (base := base) T F_Scanner_row_end
  refine ⟨F.ok (CX := L2.CX P w) sc_Scanner_skip_gaps (fun vs H Q E h => ?_) (fun cdv A outer s H vs Q E hr h => ⟨t_Scanner_skip_gaps K E, ?_, run_Scanner_skip_gaps T.sc h⟩), F.bindsN fun _ _ _ _ _ _ us hl => match us, hl with | [_], _ => rfl, F.kp⟩
  · obtain ⟨_, _, _, _, _, _, rfl, _⟩ := h
    rfl
  · exact (pss_one (ps_while (passes_of rfl) (pt_not (pt_val (pe_meth0 (pv 0) T.cls_Scanner T.meth_Scanner_is_done G_Scanner_is_done.fn (hr.mono (by decide)) G_Scanner_is_done.bd .nil (passE (takes_of rfl rfl rfl rfl))))) (pss_cons (ps_set (i := 1) sc_Scanner_skip_gaps.nd rfl (Or.inl rfl) (pe_ix ix_str (pe_fld (pv 0) rfl) (pe_fld (pv 0) rfl) (fun _ _ => rfl)))
      (pss_one (ps_if (pt_cmpR op_eq (pv 1) pe_str (nomark _)) (pss_one (ps_expr (pe_meth0 (pv 0) T.cls_Scanner T.meth_Scanner_skip_newline G_Scanner_skip_newline.fn (hr.mono (by decide)) G_Scanner_skip_newline.bd .nil (passE (takes_of rfl rfl rfl rfl))))) (pss_one (ps_if (pt_cmpR op_eq (pv 1) pe_str (nomark _)) (pss_one (ps_expr (pe_meth (pv 0) T.cls_Scanner T.meth_Scanner_take_to G_Scanner_take_to.fn (hr.mono (by decide)) G_Scanner_take_to.bd .nil (passE (takes_of rfl rfl rfl rfl)) (pa_cons (pe_op op_add (pe_fld (pv 0) rfl) pe_int) pa_nil)))) (pss_one (ps_if (pt_cmpR op_eq (pv 1) pe_str (nomark _)) (pss_one (ps_expr (pe_meth (pv 0) T.cls_Scanner T.meth_Scanner_take_to G_Scanner_take_to.fn (hr.mono (by decide)) G_Scanner_take_to.bd .nil (passE (takes_of rfl rfl rfl rfl)) (pa_cons (pe_meth0 (pv 0) T.cls_Scanner T.meth_Scanner_row_end G_Scanner_row_end.fn (hr.mono (by decide)) G_Scanner_row_end.bd .nil (passE (takes_of rfl rfl rfl rfl))) pa_nil)))) (pss_one ps_retN))))))))))
theorem ok_Scanner_take_sign (T : Txt P w K mg) {fd : FuncData} (F : FunD K ("take_sign" : Str) ("Scanner.take_sign" : Str) (defArgs s_Scanner_take_sign) (defBody s_Scanner_take_sign) (defScope s_Scanner_take_sign) [] [] (He.ma K (He.ga K ("Scanner" : Str)) ("take_sign" : Str)) fd) : Def P w K mg base 2 (He.ma K (He.ga K ("Scanner" : Str)) ("take_sign" : Str)) fd ["self"] (sp_Scanner_take_sign K (EW1 K)) := by
  obtain ⟨fd_Scanner_take_to, F_Scanner_take_to⟩ := T.d_Scanner_take_to
  have G_Scanner_take_to := ok_Scanner_take_to (P := P) (w := w) (base := base) T F_Scanner_take_to
  refine ⟨F.ok (CX := L2.CX P w) sc_Scanner_take_sign (fun vs H Q E h => ?_) (fun cdv A outer s H vs Q E hr h => ⟨t_Scanner_take_sign K (EW1 K) E (tRaiseErr (He.ga K ("BadCharacter" : Str)) (fun cls d _ H => E cls d H) (tCons (tFld K (tVar 0) ("row" : Str)) (tCons (tFld K (tVar 0) ("column" : Str)) tNil))), ?_, run_Scanner_take_sign T.sc T.lg T.sh (hz_sign T.sc) h⟩), F.bindsN fun _ _ _ _ _ _ us hl => match us, hl with | [_], _ => rfl, F.kp⟩
  · obtain ⟨_, _, _, _, _, _, _, _, rfl, _⟩ := h
    rfl
  · exact (pss_cons (ps_set (i := 1) sc_Scanner_take_sign.nd rfl (Or.inl rfl) (pe_slice sl_str (pe_fld (pv 0) rfl) (po_some (pe_fld (pv 0) rfl)) (po_some (pe_op op_add (pe_fld (pv 0) rfl) pe_int))))
      (pss_cons (ps_if (pt_cmpR op_in_seq (pv 1) (pe_glob rfl T.glo_LONG_SIGNS rfl) (by with_unfolding_all rfl)) (pss_one (ps_ret (pe_meth (pv 0) T.cls_Scanner T.meth_Scanner_take_to G_Scanner_take_to.fn (hr.mono (by decide)) G_Scanner_take_to.bd .nil (passE (takes_of rfl rfl rfl rfl)) (pa_cons (pe_op op_add (pe_fld (pv 0) rfl) pe_int) pa_nil)))) pss_nil)
      (pss_cons (ps_if (pt_cmpR op_in_seq (pe_ix ix_str (pe_fld (pv 0) rfl) (pe_fld (pv 0) rfl) (fun _ _ => rfl)) (pe_glob rfl T.glo_SHORT_SIGNS rfl) (by with_unfolding_all rfl)) (pss_one (ps_ret (pe_meth (pv 0) T.cls_Scanner T.meth_Scanner_take_to G_Scanner_take_to.fn (hr.mono (by decide)) G_Scanner_take_to.bd .nil (passE (takes_of rfl rfl rfl rfl)) (pa_cons (pe_op op_add (pe_fld (pv 0) rfl) pe_int) pa_nil)))) pss_nil)
      (pss_one (ps_err rfl T.err_BadCharacter hr (takes_of rfl rfl rfl rfl) T.glo_BadCharacter (pa_cons (pe_fld (pv 0) rfl) (pa_cons (pe_fld (pv 0) rfl) pa_nil)))))))
theorem ok_Scanner_take_token (T : Txt P w K mg) {fd : FuncData} (F : FunD K ("take_token" : Str) ("Scanner.take_token" : Str) (defArgs s_Scanner_take_token) (defBody s_Scanner_take_token) (defScope s_Scanner_take_token) [] [] (He.ma K (He.ga K ("Scanner" : Str)) ("take_token" : Str)) fd) : Def P w K mg base 4 (He.ma K (He.ga K ("Scanner" : Str)) ("take_token" : Str)) fd ["self"] (sp_Scanner_take_token K (EW1 K)) := by
  obtain ⟨fd_is_letter, F_is_letter⟩ := T.d_is_letter
  have G_is_letter := ok_is_letter (P := P) (w := w) (base := base) T F_is_letter
  obtain ⟨fd_Scanner_take_to, F_Scanner_take_to⟩ := T.d_Scanner_take_to
  have G_Scanner_take_to := ok_Scanner_take_to (P := P) (w := w) (base := base) T F_Scanner_take_to
  obtain ⟨fd_Scanner_word_end, F_Scanner_word_end⟩ := T.d_Scanner_word_end
  have G_Scanner_word_end := ok_Scanner_word_end (P := P) (w := w) (base := base) T F_Scanner_word_end
  obtain ⟨fd_word_kind, F_word_kind⟩ := T.d_word_kind
  have G_word_kind := ok_word_kind (P := P) (w := w) (base := base) T F_word_kind
  obtain ⟨fd_is_number, F_is_number⟩ := T.d_is_number
  have G_is_number := ok_is_number (P := P) (w := w) (base := base) T F_is_number
  obtain ⟨fd_Scanner_take_sign, F_Scanner_take_sign⟩ := T.d_Scanner_take_sign
  have G_Scanner_take_sign := ok_Scanner_take_sign (P := P) (w := w) (base := base) T F_Scanner_take_sign
  obtain ⟨tk_DIGITS, i_DIGITS⟩ := T.str_DIGITS
  refine ⟨F.ok (CX := L2.CX P w) sc_Scanner_take_token (fun vs H Q E h => ?_) (fun cdv A outer s H vs Q E hr h => ⟨t_Scanner_take_token K (EW1 K) E (tRaiseErr (He.ga K ("BadNumber" : Str)) (fun cls d _ H => E cls d H) (tCons (tVar 1) (tCons (tVar 2) tNil))), ?_, run_Scanner_take_token T.sc hz_token h⟩), F.bindsN fun _ _ _ _ _ _ us hl => match us, hl with | [_], _ => rfl, F.kp⟩
  · obtain ⟨_, _, _, _, _, _, _, _, rfl, _⟩ := h
    rfl
  · exact (pss_cons (ps_set (i := 1) sc_Scanner_take_token.nd rfl (Or.inl rfl) (pe_fld (pv 0) rfl))
      (pss_cons (ps_set (i := 2) sc_Scanner_take_token.nd rfl (Or.inl rfl) (pe_fld (pv 0) rfl))
      (pss_cons (ps_set (i := 3) sc_Scanner_take_token.nd rfl (Or.inl rfl) (pe_ix ix_str (pe_fld (pv 0) rfl) (pe_fld (pv 0) rfl) (fun _ _ => rfl)))
      (pss_cons (ps_if (pt_val (pe_call G_is_letter.fn (hr.mono (by decide)) rfl T.glo_is_letter G_is_letter.kp G_is_letter.bd .nil (passE (takes_of rfl rfl rfl rfl)) (pa_cons (pv 3) pa_nil))) (pss_cons (ps_set (i := 4) sc_Scanner_take_token.nd rfl (Or.inl rfl) (pe_meth (pv 0) T.cls_Scanner T.meth_Scanner_take_to G_Scanner_take_to.fn (hr.mono (by decide)) G_Scanner_take_to.bd .nil (passE (takes_of rfl rfl rfl rfl)) (pa_cons (pe_meth0 (pv 0) T.cls_Scanner T.meth_Scanner_word_end G_Scanner_word_end.fn (hr.mono (by decide)) G_Scanner_word_end.bd .nil (passE (takes_of rfl rfl rfl rfl))) pa_nil)))
      (pss_one (ps_ret (pe_tup (pa_cons (pe_call G_word_kind.fn (hr.mono (by decide)) rfl T.glo_word_kind G_word_kind.kp G_word_kind.bd .nil (passE (takes_of rfl rfl rfl rfl)) (pa_cons (pv 4) pa_nil)) (pa_cons (pv 4) (pa_cons (pv 1) (pa_cons (pv 2) pa_nil)))))))) pss_nil)
      (pss_cons (ps_if (pt_cmpR op_in_sign (pv 3) (pe_glob rfl i_DIGITS ⟨_, rfl⟩) (by with_unfolding_all rfl)) (pss_cons (ps_set (i := 4) sc_Scanner_take_token.nd rfl (Or.inl rfl) (pe_meth (pv 0) T.cls_Scanner T.meth_Scanner_take_to G_Scanner_take_to.fn (hr.mono (by decide)) G_Scanner_take_to.bd .nil (passE (takes_of rfl rfl rfl rfl)) (pa_cons (pe_meth0 (pv 0) T.cls_Scanner T.meth_Scanner_word_end G_Scanner_word_end.fn (hr.mono (by decide)) G_Scanner_word_end.bd .nil (passE (takes_of rfl rfl rfl rfl))) pa_nil)))
      (pss_cons (ps_if (pt_not (pt_val (pe_call G_is_number.fn (hr.mono (by decide)) rfl T.glo_is_number G_is_number.kp G_is_number.bd .nil (passE (takes_of rfl rfl rfl rfl)) (pa_cons (pv 4) pa_nil)))) (pss_one (ps_err rfl T.err_BadNumber hr (takes_of rfl rfl rfl rfl) T.glo_BadNumber (pa_cons (pv 1) (pa_cons (pv 2) pa_nil)))) pss_nil)
      (pss_one (ps_ret (pe_tup (pa_cons pe_str (pa_cons (pv 4) (pa_cons (pv 1) (pa_cons (pv 2) pa_nil))))))))) pss_nil)
      (pss_one (ps_ret (pe_tup (pa_cons pe_str (pa_cons (pe_meth0 (pv 0) T.cls_Scanner T.meth_Scanner_take_sign G_Scanner_take_sign.fn (hr.mono (by decide)) G_Scanner_take_sign.bd .nil (passE (takes_of rfl rfl rfl rfl))) (pa_cons (pv 1) (pa_cons (pv 2) pa_nil))))))))))))
theorem ok_tokens (T : Txt P w K mg) {fd : FuncData} (F : FunD K ("tokens" : Str) ("tokens" : Str) (defArgs s_tokens) (defBody s_tokens) (defScope s_tokens) [] [] (He.ga K ("tokens" : Str)) fd) : Def P w K mg base 5 (He.ga K ("tokens" : Str)) fd ["text"] (sp_tokens K (EW1 K)) := by
  obtain ⟨fd_Scanner_init, F_Scanner_init⟩ := T.d_Scanner_init
  have G_Scanner_init := ok_Scanner_init (P := P) (w := w) (base := base) T F_Scanner_init
  obtain ⟨fd_Scanner_skip_gaps, F_Scanner_skip_gaps⟩ := T.d_Scanner_skip_gaps
  have G_Scanner_skip_gaps := ok_Scanner_skip_gaps (P := P) (w := w) (base := base) T F_Scanner_skip_gaps
  obtain ⟨fd_Scanner_is_done, F_Scanner_is_done⟩ := T.d_Scanner_is_done
  have G_Scanner_is_done := ok_Scanner_is_done (P := P) (w := w) (base := base) T F_Scanner_is_done
  obtain ⟨fd_Scanner_take_token, F_Scanner_take_token⟩ := T.d_Scanner_take_token
  have G_Scanner_take_token := ok_Scanner_take_token (P := P) (w := w) (base := base) T F_Scanner_take_token
  refine ⟨F.ok (CX := L2.CX P w) sc_tokens (fun vs H Q E h => ?_) (fun cdv A outer s H vs Q E hr h => ⟨t_tokens K (EW1 K) E, ?_, run_tokens T.sc h⟩), F.bindsN fun _ _ _ _ _ _ us hl => match us, hl with | [_], _ => rfl, F.kp⟩
  · obtain ⟨_, rfl, _⟩ := h
    rfl
  · exact (pss_cons (ps_set (i := 1) sc_tokens.nd rfl (Or.inl rfl) (pe_make T.mkr_Scanner G_Scanner_init.fn (hr.mono (by decide)) rfl T.glo_Scanner G_Scanner_init.bd .nil (passE (takes_of rfl rfl rfl rfl)) (pa_cons (pv 0) pa_nil)))
      (pss_cons (ps_set (i := 2) sc_tokens.nd rfl (Or.inl rfl) (pe_lst pa_nil))
      (pss_cons (ps_expr (pe_meth0 (pv 1) T.cls_Scanner T.meth_Scanner_skip_gaps G_Scanner_skip_gaps.fn (hr.mono (by decide)) G_Scanner_skip_gaps.bd .nil (passE (takes_of rfl rfl rfl rfl))))
      (pss_cons (ps_while (passes_of rfl) (pt_not (pt_val (pe_meth0 (pv 1) T.cls_Scanner T.meth_Scanner_is_done G_Scanner_is_done.fn (hr.mono (by decide)) G_Scanner_is_done.bd .nil (passE (takes_of rfl rfl rfl rfl))))) (pss_cons (ps_expr (pe_bm PySem.F.plainAttrs_list PySem.F.slot_list_append PySem.F.type_list_append mt_append (pv 2) (pa_cons (pe_meth0 (pv 1) T.cls_Scanner T.meth_Scanner_take_token G_Scanner_take_token.fn (hr.mono (by decide)) G_Scanner_take_token.bd .nil (passE (takes_of rfl rfl rfl rfl))) pa_nil)))
      (pss_one (ps_expr (pe_meth0 (pv 1) T.cls_Scanner T.meth_Scanner_skip_gaps G_Scanner_skip_gaps.fn (hr.mono (by decide)) G_Scanner_skip_gaps.bd .nil (passE (takes_of rfl rfl rfl rfl)))))))
      (pss_cons (ps_expr (pe_bm PySem.F.plainAttrs_list PySem.F.slot_list_append PySem.F.type_list_append mt_append (pv 2) (pa_cons (pe_tup (pa_cons pe_str (pa_cons pe_str (pa_cons (pe_fld (pv 1) rfl) (pa_cons (pe_fld (pv 1) rfl) pa_nil))))) pa_nil)))
      (pss_one (ps_ret (pv 2))))))))
theorem ok_Cursor_kind (T : Txt P w K mg) {fd : FuncData} (F : FunD K ("kind" : Str) ("Cursor.kind" : Str) (defArgs s_Cursor_kind) (defBody s_Cursor_kind) (defScope s_Cursor_kind) [.int 0] [] (He.ma K (He.ga K ("Cursor" : Str)) ("kind" : Str)) fd) : Def P w K mg base 1 (He.ma K (He.ga K ("Cursor" : Str)) ("kind" : Str)) fd ["self", "ahead"] (sp_Cursor_kind K) := by
  obtain ⟨ds0, v0, b0⟩ := FunD.binds1 (ps := ["self", "ahead"]) F 2 1 (by simp) rfl fun T kV doc pm an cdv ct us its h1 h2 => match us, its, h1, h2 with | [_, _], [_], _, _ => ⟨_, rfl, rfl⟩
  cases v0
  refine ⟨F.ok (CX := L2.CX P w) sc_Cursor_kind (fun vs H Q E h => ?_) (fun cdv A outer s H vs Q E hr h => ⟨t_Cursor_kind K E, ?_, run_Cursor_kind T.cu h⟩), b0, F.kp⟩
  · obtain ⟨_, _, _, _, _, _, _, rfl, _⟩ := h
    rfl
  · exact (pss_one (ps_ret (pe_ix ix_tup (pe_ix ix_list (pe_fld (pv 0) rfl) (pe_op op_add (pe_fld (pv 0) rfl) (pv 1)) (fun _ _ => rfl)) pe_int (fun _ _ => rfl))))
theorem ok_Cursor_word (T : Txt P w K mg) {fd : FuncData} (F : FunD K ("word" : Str) ("Cursor.word" : Str) (defArgs s_Cursor_word) (defBody s_Cursor_word) (defScope s_Cursor_word) [.int 0] [] (He.ma K (He.ga K ("Cursor" : Str)) ("word" : Str)) fd) : Def P w K mg base 1 (He.ma K (He.ga K ("Cursor" : Str)) ("word" : Str)) fd ["self", "ahead"] (sp_Cursor_word K) := by
  obtain ⟨ds0, v0, b0⟩ := FunD.binds1 (ps := ["self", "ahead"]) F 2 1 (by simp) rfl fun T kV doc pm an cdv ct us its h1 h2 => match us, its, h1, h2 with | [_, _], [_], _, _ => ⟨_, rfl, rfl⟩
  cases v0
  refine ⟨F.ok (CX := L2.CX P w) sc_Cursor_word (fun vs H Q E h => ?_) (fun cdv A outer s H vs Q E hr h => ⟨t_Cursor_word K E, ?_, run_Cursor_word T.cu h⟩), b0, F.kp⟩
  · obtain ⟨_, _, _, _, _, _, _, rfl, _⟩ := h
    rfl
  · exact (pss_one (ps_ret (pe_ix ix_tup (pe_ix ix_list (pe_fld (pv 0) rfl) (pe_op op_add (pe_fld (pv 0) rfl) (pv 1)) (fun _ _ => rfl)) pe_int (fun _ _ => rfl))))
theorem ok_Cursor_take (T : Txt P w K mg) {fd : FuncData} (F : FunD K ("take" : Str) ("Cursor.take" : Str) (defArgs s_Cursor_take) (defBody s_Cursor_take) (defScope s_Cursor_take) [] [] (He.ma K (He.ga K ("Cursor" : Str)) ("take" : Str)) fd) : Def P w K mg base 2 (He.ma K (He.ga K ("Cursor" : Str)) ("take" : Str)) fd ["self"] (sp_Cursor_take K) := by
  obtain ⟨fd_Cursor_word, F_Cursor_word⟩ := T.d_Cursor_word
  have G_Cursor_word := ok_Cursor_word (P := P) (w := w) (base := base) T F_Cursor_word
  obtain ⟨ds_Cursor_word, v_Cursor_word, b_Cursor_word⟩ := FunD.binds1 (ps := ["self", "ahead"]) F_Cursor_word 1 0 (by simp) rfl fun T kV doc pm an cdv ct us its h1 h2 => match us, its, h1, h2 with | [_], [_], _, _ => ⟨_, rfl, rfl⟩
  refine ⟨F.ok (CX := L2.CX P w) sc_Cursor_take (fun vs H Q E h => ?_) (fun cdv A outer s H vs Q E hr h => ⟨t_Cursor_take K E, ?_, run_Cursor_take T.cu h⟩), F.bindsN fun _ _ _ _ _ _ us hl => match us, hl with | [_], _ => rfl, F.kp⟩
  · obtain ⟨_, _, _, _, _, _, rfl, _⟩ := h
    rfl
  · exact (pss_cons (ps_set (i := 1) sc_Cursor_take.nd rfl (Or.inl rfl) (pe_meth0 (pv 0) T.cls_Cursor T.meth_Cursor_word G_Cursor_word.fn (hr.mono (by decide)) b_Cursor_word v_Cursor_word (passE (takes_of rfl rfl rfl rfl))))
      (pss_cons (ps_fldaug (pv 0) pe_int in_add)
      (pss_one (ps_ret (pv 1)))))
theorem ok_Cursor_took (T : Txt P w K mg) {fd : FuncData} (F : FunD K ("took" : Str) ("Cursor.took" : Str) (defArgs s_Cursor_took) (defBody s_Cursor_took) (defScope s_Cursor_took) [] [] (He.ma K (He.ga K ("Cursor" : Str)) ("took" : Str)) fd) : Def P w K mg base 2 (He.ma K (He.ga K ("Cursor" : Str)) ("took" : Str)) fd ["self", "word"] (sp_Cursor_took K) := by
  obtain ⟨fd_Cursor_word, F_Cursor_word⟩ := T.d_Cursor_word
  have G_Cursor_word := ok_Cursor_word (P := P) (w := w) (base := base) T F_Cursor_word
  obtain ⟨ds_Cursor_word, v_Cursor_word, b_Cursor_word⟩ := FunD.binds1 (ps := ["self", "ahead"]) F_Cursor_word 1 0 (by simp) rfl fun T kV doc pm an cdv ct us its h1 h2 => match us, its, h1, h2 with | [_], [_], _, _ => ⟨_, rfl, rfl⟩
  refine ⟨F.ok (CX := L2.CX P w) sc_Cursor_took (fun vs H Q E h => ?_) (fun cdv A outer s H vs Q E hr h => ⟨t_Cursor_took K E, ?_, run_Cursor_took T.cu h⟩), F.bindsN fun _ _ _ _ _ _ us hl => match us, hl with | [_, _], _ => rfl, F.kp⟩
  · obtain ⟨_, _, _, _, _, _, _, rfl, _⟩ := h
    rfl
  · exact (pss_cons (ps_if (pt_cmpR op_ne (pe_meth0 (pv 0) T.cls_Cursor T.meth_Cursor_word G_Cursor_word.fn (hr.mono (by decide)) b_Cursor_word v_Cursor_word (passE (takes_of rfl rfl rfl rfl))) (pv 1) (nomark _)) (pss_one (ps_ret pe_bl)) pss_nil)
      (pss_cons (ps_fldaug (pv 0) pe_int in_add)
      (pss_one (ps_ret pe_bl))))
theorem ok_Cursor_refuse (T : Txt P w K mg) {fd : FuncData} (F : FunD K ("refuse" : Str) ("Cursor.refuse" : Str) (defArgs s_Cursor_refuse) (defBody s_Cursor_refuse) (defScope s_Cursor_refuse) [] [] (He.ma K (He.ga K ("Cursor" : Str)) ("refuse" : Str)) fd) : Def P w K mg base 1 (He.ma K (He.ga K ("Cursor" : Str)) ("refuse" : Str)) fd ["self"] (sp_Cursor_refuse K (EW1 K)) := by
  refine ⟨F.ok (CX := L2.CX P w) sc_Cursor_refuse (fun vs H Q E h => ?_) (fun cdv A outer s H vs Q E hr h => ⟨t_Cursor_refuse K E (tRaiseErr (He.ga K ("Unexpected" : Str)) (fun cls d _ H => E cls d H) (tCons (tVar 2) (tCons (tVar 3) tNil))), ?_, run_Cursor_refuse T.cu h⟩), F.bindsN fun _ _ _ _ _ _ us hl => match us, hl with | [_], _ => rfl, F.kp⟩
  · obtain ⟨_, _, _, _, _, _, rfl, _⟩ := h
    rfl
  · exact (pss_cons (ps_asg (pe_ix ix_list (pe_fld (pv 0) rfl) (pe_fld (pv 0) rfl) (fun _ _ => rfl)) (pg_tup rfl (pgs_cons (pg_name (i := 1) sc_Cursor_refuse.nd rfl (Or.inl rfl)) (pgs_cons (pg_name (i := 1) sc_Cursor_refuse.nd rfl (Or.inl rfl)) (pgs_cons (pg_name (i := 2) sc_Cursor_refuse.nd rfl (Or.inl rfl)) (pgs_cons (pg_name (i := 3) sc_Cursor_refuse.nd rfl (Or.inl rfl)) pgs_nil))))))
      (pss_one (ps_err rfl T.err_Unexpected hr (takes_of rfl rfl rfl rfl) T.glo_Unexpected (pa_cons (pv 2) (pa_cons (pv 3) pa_nil)))))
theorem ok_Cursor_want (T : Txt P w K mg) {fd : FuncData} (F : FunD K ("want" : Str) ("Cursor.want" : Str) (defArgs s_Cursor_want) (defBody s_Cursor_want) (defScope s_Cursor_want) [] [] (He.ma K (He.ga K ("Cursor" : Str)) ("want" : Str)) fd) : Def P w K mg base 3 (He.ma K (He.ga K ("Cursor" : Str)) ("want" : Str)) fd ["self", "word"] (sp_Cursor_want K (EW1 K)) := by
  obtain ⟨fd_Cursor_took, F_Cursor_took⟩ := T.d_Cursor_took
  have G_Cursor_took := ok_Cursor_took (P := P) (w := w) (base := base) T F_Cursor_took
  obtain ⟨fd_Cursor_refuse, F_Cursor_refuse⟩ := T.d_Cursor_refuse
  have G_Cursor_refuse := ok_Cursor_refuse (P := P) (w := w) (base := base) T F_Cursor_refuse
  refine ⟨F.ok (CX := L2.CX P w) sc_Cursor_want (fun vs H Q E h => ?_) (fun cdv A outer s H vs Q E hr h => ⟨t_Cursor_want K E, ?_, run_Cursor_want T.cu h⟩), F.bindsN fun _ _ _ _ _ _ us hl => match us, hl with | [_, _], _ => rfl, F.kp⟩
  · obtain ⟨_, _, _, _, _, _, _, rfl, _⟩ := h
    rfl
  · exact (pss_one (ps_if (pt_not (pt_val (pe_meth (pv 0) T.cls_Cursor T.meth_Cursor_took G_Cursor_took.fn (hr.mono (by decide)) G_Cursor_took.bd .nil (passE (takes_of rfl rfl rfl rfl)) (pa_cons (pv 1) pa_nil)))) (pss_one (ps_expr (pe_meth0 (pv 0) T.cls_Cursor T.meth_Cursor_refuse G_Cursor_refuse.fn (hr.mono (by decide)) G_Cursor_refuse.bd .nil (passE (takes_of rfl rfl rfl rfl))))) pss_nil))
theorem ok_Cursor_take_name (T : Txt P w K mg) {fd : FuncData} (F : FunD K ("take_name" : Str) ("Cursor.take_name" : Str) (defArgs s_Cursor_take_name) (defBody s_Cursor_take_name) (defScope s_Cursor_take_name) [] [] (He.ma K (He.ga K ("Cursor" : Str)) ("take_name" : Str)) fd) : Def P w K mg base 3 (He.ma K (He.ga K ("Cursor" : Str)) ("take_name" : Str)) fd ["self"] (sp_Cursor_take_name K (EW1 K)) := by
  obtain ⟨fd_Cursor_kind, F_Cursor_kind⟩ := T.d_Cursor_kind
  have G_Cursor_kind := ok_Cursor_kind (P := P) (w := w) (base := base) T F_Cursor_kind
  obtain ⟨fd_Cursor_refuse, F_Cursor_refuse⟩ := T.d_Cursor_refuse
  have G_Cursor_refuse := ok_Cursor_refuse (P := P) (w := w) (base := base) T F_Cursor_refuse
  obtain ⟨fd_Cursor_take, F_Cursor_take⟩ := T.d_Cursor_take
  have G_Cursor_take := ok_Cursor_take (P := P) (w := w) (base := base) T F_Cursor_take
  obtain ⟨ds_Cursor_kind, v_Cursor_kind, b_Cursor_kind⟩ := FunD.binds1 (ps := ["self", "ahead"]) F_Cursor_kind 1 0 (by simp) rfl fun T kV doc pm an cdv ct us its h1 h2 => match us, its, h1, h2 with | [_], [_], _, _ => ⟨_, rfl, rfl⟩
  refine ⟨F.ok (CX := L2.CX P w) sc_Cursor_take_name (fun vs H Q E h => ?_) (fun cdv A outer s H vs Q E hr h => ⟨t_Cursor_take_name K E, ?_, run_Cursor_take_name T.cu h⟩), F.bindsN fun _ _ _ _ _ _ us hl => match us, hl with | [_], _ => rfl, F.kp⟩
  · obtain ⟨_, _, _, _, _, _, rfl, _⟩ := h
    rfl
  · exact (pss_cons (ps_if (pt_cmpR op_ne (pe_meth0 (pv 0) T.cls_Cursor T.meth_Cursor_kind G_Cursor_kind.fn (hr.mono (by decide)) b_Cursor_kind v_Cursor_kind (passE (takes_of rfl rfl rfl rfl))) pe_str (nomark _)) (pss_one (ps_expr (pe_meth0 (pv 0) T.cls_Cursor T.meth_Cursor_refuse G_Cursor_refuse.fn (hr.mono (by decide)) G_Cursor_refuse.bd .nil (passE (takes_of rfl rfl rfl rfl))))) pss_nil)
      (pss_one (ps_ret (pe_meth0 (pv 0) T.cls_Cursor T.meth_Cursor_take G_Cursor_take.fn (hr.mono (by decide)) G_Cursor_take.bd .nil (passE (takes_of rfl rfl rfl rfl))))))
theorem ok_Cursor_want_end (T : Txt P w K mg) {fd : FuncData} (F : FunD K ("want_end" : Str) ("Cursor.want_end" : Str) (defArgs s_Cursor_want_end) (defBody s_Cursor_want_end) (defScope s_Cursor_want_end) [] [] (He.ma K (He.ga K ("Cursor" : Str)) ("want_end" : Str)) fd) : Def P w K mg base 2 (He.ma K (He.ga K ("Cursor" : Str)) ("want_end" : Str)) fd ["self"] (sp_Cursor_want_end K (EW1 K)) := by
  obtain ⟨fd_Cursor_kind, F_Cursor_kind⟩ := T.d_Cursor_kind
  have G_Cursor_kind := ok_Cursor_kind (P := P) (w := w) (base := base) T F_Cursor_kind
  obtain ⟨fd_Cursor_refuse, F_Cursor_refuse⟩ := T.d_Cursor_refuse
  have G_Cursor_refuse := ok_Cursor_refuse (P := P) (w := w) (base := base) T F_Cursor_refuse
  obtain ⟨ds_Cursor_kind, v_Cursor_kind, b_Cursor_kind⟩ := FunD.binds1 (ps := ["self", "ahead"]) F_Cursor_kind 1 0 (by simp) rfl fun T kV doc pm an cdv ct us its h1 h2 => match us, its, h1, h2 with | [_], [_], _, _ => ⟨_, rfl, rfl⟩
  refine ⟨F.ok (CX := L2.CX P w) sc_Cursor_want_end (fun vs H Q E h => ?_) (fun cdv A outer s H vs Q E hr h => ⟨t_Cursor_want_end K E, ?_, run_Cursor_want_end T.cu h⟩), F.bindsN fun _ _ _ _ _ _ us hl => match us, hl with | [_], _ => rfl, F.kp⟩
  · obtain ⟨_, _, _, _, _, _, rfl, _⟩ := h
    rfl
  · exact (pss_one (ps_if (pt_cmpR op_ne (pe_meth0 (pv 0) T.cls_Cursor T.meth_Cursor_kind G_Cursor_kind.fn (hr.mono (by decide)) b_Cursor_kind v_Cursor_kind (passE (takes_of rfl rfl rfl rfl))) pe_str (nomark _)) (pss_one (ps_expr (pe_meth0 (pv 0) T.cls_Cursor T.meth_Cursor_refuse G_Cursor_refuse.fn (hr.mono (by decide)) G_Cursor_refuse.bd .nil (passE (takes_of rfl rfl rfl rfl))))) pss_nil))
theorem ok_Cursor_init (T : Txt P w K mg) {fd : FuncData} (F : FunD K ("__init__" : Str) ("Cursor.__init__" : Str) (defArgs s_Cursor_init) (defBody s_Cursor_init) (defScope s_Cursor_init) [] [] (He.ma K (He.ga K ("Cursor" : Str)) ("__init__" : Str)) fd) : Def P w K mg base 6 (He.ma K (He.ga K ("Cursor" : Str)) ("__init__" : Str)) fd ["self", "text"] (sp_Cursor_init K (EW1 K)) := by
  obtain ⟨fd_tokens, F_tokens⟩ := T.d_tokens
  have G_tokens := ok_tokens (P := P) (w := w) (base := base) T F_tokens
  refine ⟨F.ok (CX := L2.CX P w) sc_Cursor_init (fun vs H Q E h => ?_) (fun cdv A outer s H vs Q E hr h => ⟨t_Cursor_init K E, ?_, run_Cursor_init T.cu h⟩), F.bindsN fun _ _ _ _ _ _ us hl => match us, hl with | [_, _], _ => rfl, F.kp⟩
  · obtain ⟨_, _, _, rfl, _⟩ := h
    rfl
  · exact (pss_cons (ps_fld (pv 0) (pe_call G_tokens.fn (hr.mono (by decide)) rfl T.glo_tokens G_tokens.kp G_tokens.bd .nil (passE (takes_of rfl rfl rfl rfl)) (pa_cons (pv 1) pa_nil)) rfl)
      (pss_one (ps_fld (pv 0) pe_int rfl)))
theorem ok_parse_name (T : Txt P w K mg) {fd : FuncData} (F : FunD K ("parse_name" : Str) ("parse_name" : Str) (defArgs s_parse_name) (defBody s_parse_name) (defScope s_parse_name) [] [] (He.ga K ("parse_name" : Str)) fd) : Def P w K mg base 4 (He.ga K ("parse_name" : Str)) fd ["cursor"] (sp_parse_name K) := by
  obtain ⟨fd_Cursor_take_name, F_Cursor_take_name⟩ := T.d_Cursor_take_name
  have G_Cursor_take_name := ok_Cursor_take_name (P := P) (w := w) (base := base) T F_Cursor_take_name
  refine ⟨F.ok (CX := L2.CX P w) sc_parse_name (fun vs H Q E h => ?_) (fun cdv A outer s H vs Q E hr h => ⟨t_parse_name K E, ?_, run_parse_name h⟩), F.bindsN fun _ _ _ _ _ _ us hl => match us, hl with | [_], _ => rfl, F.kp⟩
  · obtain ⟨_, _, _, _, _, rfl, _⟩ := h
    rfl
  · exact (pss_one (ps_ret (pe_meth0 (pv 0) T.cls_Cursor T.meth_Cursor_take_name G_Cursor_take_name.fn (hr.mono (by decide)) G_Cursor_take_name.bd .nil (passE (takes_of rfl rfl rfl rfl)))))
theorem ok_parse_aim (T : Txt P w K mg) {fd : FuncData} (F : FunD K ("parse_aim" : Str) ("parse_aim" : Str) (defArgs s_parse_aim) (defBody s_parse_aim) (defScope s_parse_aim) [] [] (He.ga K ("parse_aim" : Str)) fd) : Def P w K mg base 4 (He.ga K ("parse_aim" : Str)) fd ["cursor"] (sp_parse_aim K) := by
  obtain ⟨fd_Cursor_took, F_Cursor_took⟩ := T.d_Cursor_took
  have G_Cursor_took := ok_Cursor_took (P := P) (w := w) (base := base) T F_Cursor_took
  obtain ⟨fd_Cursor_want, F_Cursor_want⟩ := T.d_Cursor_want
  have G_Cursor_want := ok_Cursor_want (P := P) (w := w) (base := base) T F_Cursor_want
  refine ⟨F.ok (CX := L2.CX P w) sc_parse_aim (fun vs H Q E h => ?_) (fun cdv A outer s H vs Q E hr h => ⟨t_parse_aim K E, ?_, run_parse_aim h⟩), F.bindsN fun _ _ _ _ _ _ us hl => match us, hl with | [_], _ => rfl, F.kp⟩
  · obtain ⟨_, _, _, _, _, rfl, _⟩ := h
    rfl
  · exact (pss_cons (ps_if (pt_val (pe_meth (pv 0) T.cls_Cursor T.meth_Cursor_took G_Cursor_took.fn (hr.mono (by decide)) G_Cursor_took.bd .nil (passE (takes_of rfl rfl rfl rfl)) (pa_cons pe_str pa_nil))) (pss_one (ps_ret pe_str)) pss_nil)
      (pss_cons (ps_if (pt_val (pe_meth (pv 0) T.cls_Cursor T.meth_Cursor_took G_Cursor_took.fn (hr.mono (by decide)) G_Cursor_took.bd .nil (passE (takes_of rfl rfl rfl rfl)) (pa_cons pe_str pa_nil))) (pss_one (ps_ret pe_str)) pss_nil)
      (pss_cons (ps_expr (pe_meth (pv 0) T.cls_Cursor T.meth_Cursor_want G_Cursor_want.fn (hr.mono (by decide)) G_Cursor_want.bd .nil (passE (takes_of rfl rfl rfl rfl)) (pa_cons pe_str pa_nil)))
      (pss_cons (ps_if (pt_val (pe_meth (pv 0) T.cls_Cursor T.meth_Cursor_took G_Cursor_took.fn (hr.mono (by decide)) G_Cursor_took.bd .nil (passE (takes_of rfl rfl rfl rfl)) (pa_cons pe_str pa_nil))) (pss_one (ps_ret pe_str)) pss_nil)
      (pss_one (ps_ret pe_str))))))
theorem ok_has_own_dot (T : Txt P w K mg) {fd : FuncData} (F : FunD K ("has_own_dot" : Str) ("has_own_dot" : Str) (defArgs s_has_own_dot) (defBody s_has_own_dot) (defScope s_has_own_dot) [] [] (He.ga K ("has_own_dot" : Str)) fd) : Def P w K mg base 2 (He.ga K ("has_own_dot" : Str)) fd ["cursor"] (sp_has_own_dot K) := by
  obtain ⟨fd_Cursor_word, F_Cursor_word⟩ := T.d_Cursor_word
  have G_Cursor_word := ok_Cursor_word (P := P) (w := w) (base := base) T F_Cursor_word
  obtain ⟨fd_Cursor_kind, F_Cursor_kind⟩ := T.d_Cursor_kind
  have G_Cursor_kind := ok_Cursor_kind (P := P) (w := w) (base := base) T F_Cursor_kind
  obtain ⟨ds_Cursor_word, v_Cursor_word, b_Cursor_word⟩ := FunD.binds1 (ps := ["self", "ahead"]) F_Cursor_word 1 0 (by simp) rfl fun T kV doc pm an cdv ct us its h1 h2 => match us, its, h1, h2 with | [_], [_], _, _ => ⟨_, rfl, rfl⟩
  refine ⟨F.ok (CX := L2.CX P w) sc_has_own_dot (fun vs H Q E h => ?_) (fun cdv A outer s H vs Q E hr h => ⟨t_has_own_dot K E, ?_, run_has_own_dot h⟩), F.bindsN fun _ _ _ _ _ _ us hl => match us, hl with | [_], _ => rfl, F.kp⟩
  · obtain ⟨_, _, _, _, _, rfl, _⟩ := h
    rfl
  · exact (pss_cons (ps_if (pt_cmpR op_ne (pe_meth0 (pv 0) T.cls_Cursor T.meth_Cursor_word G_Cursor_word.fn (hr.mono (by decide)) b_Cursor_word v_Cursor_word (passE (takes_of rfl rfl rfl rfl))) pe_str (nomark _)) (pss_one (ps_ret pe_bl)) pss_nil)
      (pss_cons (ps_if (PW.pt (pw_and (pt_cmpR op_ne (pe_meth (pv 0) T.cls_Cursor T.meth_Cursor_kind G_Cursor_kind.fn (hr.mono (by decide)) G_Cursor_kind.bd .nil (passE (takes_of rfl rfl rfl rfl)) (pa_cons pe_int pa_nil)) pe_str (nomark _)) (pw_and1 (pt_cmpR op_ne (pe_meth (pv 0) T.cls_Cursor T.meth_Cursor_word G_Cursor_word.fn (hr.mono (by decide)) G_Cursor_word.bd .nil (passE (takes_of rfl rfl rfl rfl)) (pa_cons pe_int pa_nil)) pe_str (nomark _))))) (pss_one (ps_ret pe_bl)) pss_nil)
      (pss_one (ps_ret (pe_cmpR op_eq (pe_meth (pv 0) T.cls_Cursor T.meth_Cursor_word G_Cursor_word.fn (hr.mono (by decide)) G_Cursor_word.bd .nil (passE (takes_of rfl rfl rfl rfl)) (pa_cons pe_int pa_nil)) pe_str (nomark _))))))
structure Rec (P : Program) (w : World) (K : PySem.W.Frag) (mg : Str → Option Value) (base : Heap) (n : Nat) : Prop where
  c_parse_whole : ∀ {fd : FuncData}, FunD K ("parse_whole" : Str) ("parse_whole" : Str) (defArgs s_parse_whole) (defBody s_parse_whole) (defScope s_parse_whole) [] [] (He.ga K ("parse_whole" : Str)) fd → Def P w K mg base (5 + n) (He.ga K ("parse_whole" : Str)) fd ["cursor"] (sp_parse_whole K n)
  c_parse_operators : ∀ {fd : FuncData}, FunD K ("parse_operators" : Str) ("parse_operators" : Str) (defArgs s_parse_operators) (defBody s_parse_operators) (defScope s_parse_operators) [] [] (He.ga K ("parse_operators" : Str)) fd → Def P w K mg base (5 + n) (He.ga K ("parse_operators" : Str)) fd ["cursor", "left", "level"] (sp_parse_operators K n)
  c_parse_postfix : ∀ {fd : FuncData}, FunD K ("parse_postfix" : Str) ("parse_postfix" : Str) (defArgs s_parse_postfix) (defBody s_parse_postfix) (defScope s_parse_postfix) [] [] (He.ga K ("parse_postfix" : Str)) fd → Def P w K mg base (5 + n) (He.ga K ("parse_postfix" : Str)) fd ["cursor"] (sp_parse_postfix K n)
  c_parse_primary : ∀ {fd : FuncData}, FunD K ("parse_primary" : Str) ("parse_primary" : Str) (defArgs s_parse_primary) (defBody s_parse_primary) (defScope s_parse_primary) [] [] (He.ga K ("parse_primary" : Str)) fd → Def P w K mg base (5 + n) (He.ga K ("parse_primary" : Str)) fd ["cursor"] (sp_parse_primary K n)
  c_parse_row : ∀ {fd : FuncData}, FunD K ("parse_row" : Str) ("parse_row" : Str) (defArgs s_parse_row) (defBody s_parse_row) (defScope s_parse_row) [] [] (He.ga K ("parse_row" : Str)) fd → Def P w K mg base (5 + n) (He.ga K ("parse_row" : Str)) fd ["cursor", "parse_part"] (sp_parse_row K n)
  c_parse_slots : ∀ {fd : FuncData}, FunD K ("parse_slots" : Str) ("parse_slots" : Str) (defArgs s_parse_slots) (defBody s_parse_slots) (defScope s_parse_slots) [] [] (He.ga K ("parse_slots" : Str)) fd → Def P w K mg base (5 + n) (He.ga K ("parse_slots" : Str)) fd ["cursor"] (sp_parse_slots K n)
  c_parse_slot : ∀ {fd : FuncData}, FunD K ("parse_slot" : Str) ("parse_slot" : Str) (defArgs s_parse_slot) (defBody s_parse_slot) (defScope s_parse_slot) [] [] (He.ga K ("parse_slot" : Str)) fd → Def P w K mg base (5 + n) (He.ga K ("parse_slot" : Str)) fd ["cursor"] (sp_parse_slot K n)
  c_parse_method : ∀ {fd : FuncData}, FunD K ("parse_method" : Str) ("parse_method" : Str) (defArgs s_parse_method) (defBody s_parse_method) (defScope s_parse_method) [] [] (He.ga K ("parse_method" : Str)) fd → Def P w K mg base (5 + n) (He.ga K ("parse_method" : Str)) fd ["cursor"] (sp_parse_method K n)
  c_parse_body : ∀ {fd : FuncData}, FunD K ("parse_body" : Str) ("parse_body" : Str) (defArgs s_parse_body) (defBody s_parse_body) (defScope s_parse_body) [] [] (He.ga K ("parse_body" : Str)) fd → Def P w K mg base (5 + n) (He.ga K ("parse_body" : Str)) fd ["cursor"] (sp_parse_body K n)
  c_parse_statement : ∀ {fd : FuncData}, FunD K ("parse_statement" : Str) ("parse_statement" : Str) (defArgs s_parse_statement) (defBody s_parse_statement) (defScope s_parse_statement) [] [] (He.ga K ("parse_statement" : Str)) fd → Def P w K mg base (5 + n) (He.ga K ("parse_statement" : Str)) fd ["cursor"] (sp_parse_statement K n)
  c_parse_ended : ∀ {fd : FuncData}, FunD K ("parse_ended" : Str) ("parse_ended" : Str) (defArgs s_parse_ended) (defBody s_parse_ended) (defScope s_parse_ended) [] [] (He.ga K ("parse_ended" : Str)) fd → Def P w K mg base (5 + n) (He.ga K ("parse_ended" : Str)) fd ["cursor"] (sp_parse_ended K n)
  c_parse_set : ∀ {fd : FuncData}, FunD K ("parse_set" : Str) ("parse_set" : Str) (defArgs s_parse_set) (defBody s_parse_set) (defScope s_parse_set) [] [] (He.ga K ("parse_set" : Str)) fd → Def P w K mg base (5 + n) (He.ga K ("parse_set" : Str)) fd ["cursor"] (sp_parse_set K n)
  c_parse_assign : ∀ {fd : FuncData}, FunD K ("parse_assign" : Str) ("parse_assign" : Str) (defArgs s_parse_assign) (defBody s_parse_assign) (defScope s_parse_assign) [] [] (He.ga K ("parse_assign" : Str)) fd → Def P w K mg base (5 + n) (He.ga K ("parse_assign" : Str)) fd ["cursor", "target"] (sp_parse_assign K n)
  c_parse_let : ∀ {fd : FuncData}, FunD K ("parse_let" : Str) ("parse_let" : Str) (defArgs s_parse_let) (defBody s_parse_let) (defScope s_parse_let) [] [] (He.ga K ("parse_let" : Str)) fd → Def P w K mg base (5 + n) (He.ga K ("parse_let" : Str)) fd ["cursor"] (sp_parse_let K n)
  c_parse_print : ∀ {fd : FuncData}, FunD K ("parse_print" : Str) ("parse_print" : Str) (defArgs s_parse_print) (defBody s_parse_print) (defScope s_parse_print) [] [] (He.ga K ("parse_print" : Str)) fd → Def P w K mg base (5 + n) (He.ga K ("parse_print" : Str)) fd ["cursor"] (sp_parse_print K n)
  c_parse_return : ∀ {fd : FuncData}, FunD K ("parse_return" : Str) ("parse_return" : Str) (defArgs s_parse_return) (defBody s_parse_return) (defScope s_parse_return) [] [] (He.ga K ("parse_return" : Str)) fd → Def P w K mg base (5 + n) (He.ga K ("parse_return" : Str)) fd ["cursor"] (sp_parse_return K n)
  c_parse_if : ∀ {fd : FuncData}, FunD K ("parse_if" : Str) ("parse_if" : Str) (defArgs s_parse_if) (defBody s_parse_if) (defScope s_parse_if) [] [] (He.ga K ("parse_if" : Str)) fd → Def P w K mg base (5 + n) (He.ga K ("parse_if" : Str)) fd ["cursor"] (sp_parse_if K n)
  c_parse_while : ∀ {fd : FuncData}, FunD K ("parse_while" : Str) ("parse_while" : Str) (defArgs s_parse_while) (defBody s_parse_while) (defScope s_parse_while) [] [] (He.ga K ("parse_while" : Str)) fd → Def P w K mg base (5 + n) (He.ga K ("parse_while" : Str)) fd ["cursor"] (sp_parse_while K n)
  c_parse_put : ∀ {fd : FuncData}, FunD K ("parse_put" : Str) ("parse_put" : Str) (defArgs s_parse_put) (defBody s_parse_put) (defScope s_parse_put) [] [] (He.ga K ("parse_put" : Str)) fd → Def P w K mg base (5 + n) (He.ga K ("parse_put" : Str)) fd ["cursor"] (sp_parse_put K n)
  c_parse_drop : ∀ {fd : FuncData}, FunD K ("parse_drop" : Str) ("parse_drop" : Str) (defArgs s_parse_drop) (defBody s_parse_drop) (defScope s_parse_drop) [] [] (He.ga K ("parse_drop" : Str)) fd → Def P w K mg base (5 + n) (He.ga K ("parse_drop" : Str)) fd ["cursor"] (sp_parse_drop K n)
  c_l_group : ∀ {fd : FuncData}, FunD K ("_law_group" : Str) ("_law_group" : Str) (defArgs s_l_group) (defBody s_l_group) (defScope s_l_group) [] [] (He.ga K ("_law_group" : Str)) fd → Def P w K mg base (5 + n) (He.ga K ("_law_group" : Str)) fd ["trees", "signs"] (sp_l_group K n)
theorem ok_parse_whole (T : Txt P w K mg) {n : Nat} (IH : Rec P w K mg base n) {fd : FuncData} (F : FunD K ("parse_whole" : Str) ("parse_whole" : Str) (defArgs s_parse_whole) (defBody s_parse_whole) (defScope s_parse_whole) [] [] (He.ga K ("parse_whole" : Str)) fd) : Def P w K mg base (5 + n + 1) (He.ga K ("parse_whole" : Str)) fd ["cursor"] (sp_parse_whole K (n + 1)) := by
  obtain ⟨fd_parse_operators, F_parse_operators⟩ := T.d_parse_operators
  have G_parse_operators := IH.c_parse_operators F_parse_operators
  obtain ⟨fd_parse_postfix, F_parse_postfix⟩ := T.d_parse_postfix
  have G_parse_postfix := IH.c_parse_postfix F_parse_postfix
  obtain ⟨tk_COMPARISON, i_COMPARISON⟩ := T.int_COMPARISON
  refine ⟨F.ok (CX := L2.CX P w) sc_parse_whole (fun vs H Q E h => ?_) (fun cdv A outer s H vs Q E hr h => ⟨t_parse_whole K w n E, ?_, run_parse_whole h⟩), F.bindsN fun _ _ _ _ _ _ us hl => match us, hl with | [_], _ => rfl, F.kp⟩
  · obtain ⟨_, _, _, _, _, rfl, _⟩ := h
    rfl
  · exact (pss_one (ps_ret (pe_call G_parse_operators.fn (hr.mono (by omega)) rfl T.glo_parse_operators G_parse_operators.kp G_parse_operators.bd .nil (passE (takes_of rfl rfl rfl rfl)) (pa_cons (pv 0) (pa_cons (pe_call G_parse_postfix.fn (hr.mono (by omega)) rfl T.glo_parse_postfix G_parse_postfix.kp G_parse_postfix.bd .nil (passE (takes_of rfl rfl rfl rfl)) (pa_cons (pv 0) pa_nil)) (pa_cons (pe_glob rfl i_COMPARISON ⟨_, rfl⟩) pa_nil))))))
theorem ok_parse_operators (T : Txt P w K mg) {n : Nat} (IH : Rec P w K mg base n) {fd : FuncData} (F : FunD K ("parse_operators" : Str) ("parse_operators" : Str) (defArgs s_parse_operators) (defBody s_parse_operators) (defScope s_parse_operators) [] [] (He.ga K ("parse_operators" : Str)) fd) : Def P w K mg base (5 + n + 1) (He.ga K ("parse_operators" : Str)) fd ["cursor", "left", "level"] (sp_parse_operators K (n + 1)) := by
  obtain ⟨fd_Cursor_word, F_Cursor_word⟩ := T.d_Cursor_word
  have G_Cursor_word := ok_Cursor_word (P := P) (w := w) (base := base) T F_Cursor_word
  obtain ⟨fd_Cursor_take, F_Cursor_take⟩ := T.d_Cursor_take
  have G_Cursor_take := ok_Cursor_take (P := P) (w := w) (base := base) T F_Cursor_take
  obtain ⟨fd_parse_operators, F_parse_operators⟩ := T.d_parse_operators
  have G_parse_operators := IH.c_parse_operators F_parse_operators
  obtain ⟨fd_parse_postfix, F_parse_postfix⟩ := T.d_parse_postfix
  have G_parse_postfix := IH.c_parse_postfix F_parse_postfix
  obtain ⟨ds_Cursor_word, v_Cursor_word, b_Cursor_word⟩ := FunD.binds1 (ps := ["self", "ahead"]) F_Cursor_word 1 0 (by simp) rfl fun T kV doc pm an cdv ct us its h1 h2 => match us, its, h1, h2 with | [_], [_], _, _ => ⟨_, rfl, rfl⟩
  obtain ⟨tk_COMPARISON, i_COMPARISON⟩ := T.int_COMPARISON
  refine ⟨F.ok (CX := L2.CX P w) sc_parse_operators (fun vs H Q E h => ?_) (fun cdv A outer s H vs Q E hr h => ⟨t_parse_operators K w n E, ?_, run_parse_operators T.dic_LEVELS h⟩), F.bindsN fun _ _ _ _ _ _ us hl => match us, hl with | [_, _, _], _ => rfl, F.kp⟩
  · obtain ⟨_, _, _, _, _, _, _, _, rfl, _⟩ := h
    rfl
  · exact (pss_cons (ps_while (passes_of rfl) (pt_cmpR op_ge (pe_kget2 (pe_glob rfl T.glo_LEVELS rfl) (pe_meth0 (pv 0) T.cls_Cursor T.meth_Cursor_word G_Cursor_word.fn (hr.mono (by omega)) b_Cursor_word v_Cursor_word (passE (takes_of rfl rfl rfl rfl))) pe_int ⟨rfl, rfl, rfl, rfl⟩) (pv 2) (nomark _)) (pss_cons (ps_set (i := 3) sc_parse_operators.nd rfl (Or.inl rfl) (pe_meth0 (pv 0) T.cls_Cursor T.meth_Cursor_take G_Cursor_take.fn (hr.mono (by omega)) G_Cursor_take.bd .nil (passE (takes_of rfl rfl rfl rfl))))
      (pss_cons (ps_set (i := 4) sc_parse_operators.nd rfl (Or.inl rfl) (pe_op op_add (pe_ix ix_kd (pe_glob rfl T.glo_LEVELS rfl) (pv 3) (fun _ _ => rfl)) pe_int))
      (pss_cons (ps_set (i := 5) sc_parse_operators.nd rfl (Or.inl rfl) (pe_call G_parse_operators.fn (hr.mono (by omega)) rfl T.glo_parse_operators G_parse_operators.kp G_parse_operators.bd .nil (passE (takes_of rfl rfl rfl rfl)) (pa_cons (pv 0) (pa_cons (pe_call G_parse_postfix.fn (hr.mono (by omega)) rfl T.glo_parse_postfix G_parse_postfix.kp G_parse_postfix.bd .nil (passE (takes_of rfl rfl rfl rfl)) (pa_cons (pv 0) pa_nil)) (pa_cons (pv 4) pa_nil)))))
      (pss_cons (ps_set (i := 1) sc_parse_operators.nd rfl (Or.inl rfl) (pe_tup (pa_cons pe_str (pa_cons (pv 3) (pa_cons (pv 1) (pa_cons (pv 5) pa_nil))))))
      (pss_one (ps_if (pt_cmpR op_eq (pe_ix ix_kd (pe_glob rfl T.glo_LEVELS rfl) (pv 3) (fun _ _ => rfl)) (pe_glob rfl i_COMPARISON ⟨_, rfl⟩) (nomark _)) (pss_one (ps_ret (pv 1))) pss_nil)))))))
      (pss_one (ps_ret (pv 1))))
theorem ok_parse_postfix (T : Txt P w K mg) {n : Nat} (IH : Rec P w K mg base n) {fd : FuncData} (F : FunD K ("parse_postfix" : Str) ("parse_postfix" : Str) (defArgs s_parse_postfix) (defBody s_parse_postfix) (defScope s_parse_postfix) [] [] (He.ga K ("parse_postfix" : Str)) fd) : Def P w K mg base (5 + n + 1) (He.ga K ("parse_postfix" : Str)) fd ["cursor"] (sp_parse_postfix K (n + 1)) := by
  obtain ⟨fd_parse_primary, F_parse_primary⟩ := T.d_parse_primary
  have G_parse_primary := IH.c_parse_primary F_parse_primary
  obtain ⟨fd_has_own_dot, F_has_own_dot⟩ := T.d_has_own_dot
  have G_has_own_dot := ok_has_own_dot (P := P) (w := w) (base := base) T F_has_own_dot
  obtain ⟨fd_Cursor_want, F_Cursor_want⟩ := T.d_Cursor_want
  have G_Cursor_want := ok_Cursor_want (P := P) (w := w) (base := base) T F_Cursor_want
  obtain ⟨fd_Cursor_take, F_Cursor_take⟩ := T.d_Cursor_take
  have G_Cursor_take := ok_Cursor_take (P := P) (w := w) (base := base) T F_Cursor_take
  obtain ⟨fd_parse_row, F_parse_row⟩ := T.d_parse_row
  have G_parse_row := IH.c_parse_row F_parse_row
  refine ⟨F.ok (CX := L2.CX P w) sc_parse_postfix (fun vs H Q E h => ?_) (fun cdv A outer s H vs Q E hr h => ⟨t_parse_postfix K w n E, ?_, run_parse_postfix h⟩), F.bindsN fun _ _ _ _ _ _ us hl => match us, hl with | [_], _ => rfl, F.kp⟩
  · obtain ⟨_, _, _, _, _, rfl, _⟩ := h
    rfl
  · exact (pss_cons (ps_set (i := 1) sc_parse_postfix.nd rfl (Or.inl rfl) (pe_call G_parse_primary.fn (hr.mono (by omega)) rfl T.glo_parse_primary G_parse_primary.kp G_parse_primary.bd .nil (passE (takes_of rfl rfl rfl rfl)) (pa_cons (pv 0) pa_nil)))
      (pss_cons (ps_while (passes_of rfl) (pt_val (pe_call G_has_own_dot.fn (hr.mono (by omega)) rfl T.glo_has_own_dot G_has_own_dot.kp G_has_own_dot.bd .nil (passE (takes_of rfl rfl rfl rfl)) (pa_cons (pv 0) pa_nil))) (pss_cons (ps_expr (pe_meth (pv 0) T.cls_Cursor T.meth_Cursor_want G_Cursor_want.fn (hr.mono (by omega)) G_Cursor_want.bd .nil (passE (takes_of rfl rfl rfl rfl)) (pa_cons pe_str pa_nil)))
      (pss_cons (ps_set (i := 2) sc_parse_postfix.nd rfl (Or.inl rfl) (pe_meth0 (pv 0) T.cls_Cursor T.meth_Cursor_take G_Cursor_take.fn (hr.mono (by omega)) G_Cursor_take.bd .nil (passE (takes_of rfl rfl rfl rfl))))
      (pss_cons (ps_set (i := 3) sc_parse_postfix.nd rfl (Or.inl rfl) (pe_call G_parse_row.fn (hr.mono (by omega)) rfl T.glo_parse_row G_parse_row.kp G_parse_row.bd .nil (passE (takes_of rfl rfl rfl rfl)) (pa_cons (pv 0) (pa_cons (pe_glob rfl T.glo_parse_whole rfl) pa_nil))))
      (pss_one (ps_if (pt_cmpR op_eq (pv 2) pe_str (nomark _)) (pss_one (ps_set (i := 1) sc_parse_postfix.nd rfl (Or.inl rfl) (pe_tup (pa_cons pe_str (pa_cons (pv 1) (pa_cons (pv 3) pa_nil)))))) (pss_one (ps_set (i := 1) sc_parse_postfix.nd rfl (Or.inl rfl) (pe_tup (pa_cons pe_str (pa_cons (pv 1) (pa_cons (pv 2) (pa_cons (pv 3) pa_nil)))))))))))))
      (pss_one (ps_ret (pv 1)))))
theorem ok_parse_primary (T : Txt P w K mg) {n : Nat} (IH : Rec P w K mg base n) {fd : FuncData} (F : FunD K ("parse_primary" : Str) ("parse_primary" : Str) (defArgs s_parse_primary) (defBody s_parse_primary) (defScope s_parse_primary) [] [] (He.ga K ("parse_primary" : Str)) fd) : Def P w K mg base (5 + n + 1) (He.ga K ("parse_primary" : Str)) fd ["cursor"] (sp_parse_primary K (n + 1)) := by
  obtain ⟨fd_Cursor_kind, F_Cursor_kind⟩ := T.d_Cursor_kind
  have G_Cursor_kind := ok_Cursor_kind (P := P) (w := w) (base := base) T F_Cursor_kind
  obtain ⟨fd_Cursor_take, F_Cursor_take⟩ := T.d_Cursor_take
  have G_Cursor_take := ok_Cursor_take (P := P) (w := w) (base := base) T F_Cursor_take
  obtain ⟨fd_Cursor_word, F_Cursor_word⟩ := T.d_Cursor_word
  have G_Cursor_word := ok_Cursor_word (P := P) (w := w) (base := base) T F_Cursor_word
  obtain ⟨fd_Cursor_took, F_Cursor_took⟩ := T.d_Cursor_took
  have G_Cursor_took := ok_Cursor_took (P := P) (w := w) (base := base) T F_Cursor_took
  obtain ⟨fd_parse_whole, F_parse_whole⟩ := T.d_parse_whole
  have G_parse_whole := IH.c_parse_whole F_parse_whole
  obtain ⟨fd_Cursor_want, F_Cursor_want⟩ := T.d_Cursor_want
  have G_Cursor_want := ok_Cursor_want (P := P) (w := w) (base := base) T F_Cursor_want
  obtain ⟨fd_parse_slots, F_parse_slots⟩ := T.d_parse_slots
  have G_parse_slots := IH.c_parse_slots F_parse_slots
  obtain ⟨fd_parse_row, F_parse_row⟩ := T.d_parse_row
  have G_parse_row := IH.c_parse_row F_parse_row
  obtain ⟨fd_parse_body, F_parse_body⟩ := T.d_parse_body
  have G_parse_body := IH.c_parse_body F_parse_body
  obtain ⟨fd_Cursor_take_name, F_Cursor_take_name⟩ := T.d_Cursor_take_name
  have G_Cursor_take_name := ok_Cursor_take_name (P := P) (w := w) (base := base) T F_Cursor_take_name
  obtain ⟨ds_Cursor_kind, v_Cursor_kind, b_Cursor_kind⟩ := FunD.binds1 (ps := ["self", "ahead"]) F_Cursor_kind 1 0 (by simp) rfl fun T kV doc pm an cdv ct us its h1 h2 => match us, its, h1, h2 with | [_], [_], _, _ => ⟨_, rfl, rfl⟩
  obtain ⟨ds_Cursor_word, v_Cursor_word, b_Cursor_word⟩ := FunD.binds1 (ps := ["self", "ahead"]) F_Cursor_word 1 0 (by simp) rfl fun T kV doc pm an cdv ct us its h1 h2 => match us, its, h1, h2 with | [_], [_], _, _ => ⟨_, rfl, rfl⟩
  refine ⟨F.ok (CX := L2.CX P w) sc_parse_primary (fun vs H Q E h => ?_) (fun cdv A outer s H vs Q E hr h => ⟨t_parse_primary K w n E, ?_, run_parse_primary T.consts h⟩), F.bindsN fun _ _ _ _ _ _ us hl => match us, hl with | [_], _ => rfl, F.kp⟩
  · obtain ⟨_, _, _, _, _, rfl, _⟩ := h
    rfl
  · exact (pss_cons (ps_if (pt_cmpR op_eq (pe_meth0 (pv 0) T.cls_Cursor T.meth_Cursor_kind G_Cursor_kind.fn (hr.mono (by omega)) b_Cursor_kind v_Cursor_kind (passE (takes_of rfl rfl rfl rfl))) pe_str (nomark _)) (pss_one (ps_ret (pe_tup (pa_cons pe_str (pa_cons (pe_callTy call_int_str (by rfl) T.free_int (by decide +kernel) (pa_cons (pe_meth0 (pv 0) T.cls_Cursor T.meth_Cursor_take G_Cursor_take.fn (hr.mono (by omega)) G_Cursor_take.bd .nil (passE (takes_of rfl rfl rfl rfl))) pa_nil)) pa_nil))))) pss_nil)
      (pss_cons (ps_if (pt_cmpR op_in_seq (pe_meth0 (pv 0) T.cls_Cursor T.meth_Cursor_word G_Cursor_word.fn (hr.mono (by omega)) b_Cursor_word v_Cursor_word (passE (takes_of rfl rfl rfl rfl))) (pe_glob rfl T.glo_CONSTANTS rfl) (by with_unfolding_all rfl)) (pss_one (ps_ret (pe_tup (pa_cons (pe_meth0 (pv 0) T.cls_Cursor T.meth_Cursor_take G_Cursor_take.fn (hr.mono (by omega)) G_Cursor_take.bd .nil (passE (takes_of rfl rfl rfl rfl))) pa_nil)))) pss_nil)
      (pss_cons (ps_if (pt_val (pe_meth (pv 0) T.cls_Cursor T.meth_Cursor_took G_Cursor_took.fn (hr.mono (by omega)) G_Cursor_took.bd .nil (passE (takes_of rfl rfl rfl rfl)) (pa_cons pe_str pa_nil))) (pss_cons (ps_set (i := 1) sc_parse_primary.nd rfl (Or.inl rfl) (pe_call G_parse_whole.fn (hr.mono (by omega)) rfl T.glo_parse_whole G_parse_whole.kp G_parse_whole.bd .nil (passE (takes_of rfl rfl rfl rfl)) (pa_cons (pv 0) pa_nil)))
      (pss_cons (ps_expr (pe_meth (pv 0) T.cls_Cursor T.meth_Cursor_want G_Cursor_want.fn (hr.mono (by omega)) G_Cursor_want.bd .nil (passE (takes_of rfl rfl rfl rfl)) (pa_cons pe_str pa_nil)))
      (pss_one (ps_ret (pv 1))))) pss_nil)
      (pss_cons (ps_if (pt_val (pe_meth (pv 0) T.cls_Cursor T.meth_Cursor_took G_Cursor_took.fn (hr.mono (by omega)) G_Cursor_took.bd .nil (passE (takes_of rfl rfl rfl rfl)) (pa_cons pe_str pa_nil))) (pss_one (ps_ret (pe_tup (pa_cons pe_str (pa_cons (pe_call G_parse_slots.fn (hr.mono (by omega)) rfl T.glo_parse_slots G_parse_slots.kp G_parse_slots.bd .nil (passE (takes_of rfl rfl rfl rfl)) (pa_cons (pv 0) pa_nil)) pa_nil))))) pss_nil)
      (pss_cons (ps_if (pt_val (pe_meth (pv 0) T.cls_Cursor T.meth_Cursor_took G_Cursor_took.fn (hr.mono (by omega)) G_Cursor_took.bd .nil (passE (takes_of rfl rfl rfl rfl)) (pa_cons pe_str pa_nil))) (pss_cons (ps_set (i := 2) sc_parse_primary.nd rfl (Or.inl rfl) (pe_call G_parse_row.fn (hr.mono (by omega)) rfl T.glo_parse_row G_parse_row.kp G_parse_row.bd .nil (passE (takes_of rfl rfl rfl rfl)) (pa_cons (pv 0) (pa_cons (pe_glob rfl T.glo_parse_name rfl) pa_nil))))
      (pss_one (ps_ret (pe_tup (pa_cons pe_str (pa_cons (pv 2) (pa_cons (pe_call G_parse_body.fn (hr.mono (by omega)) rfl T.glo_parse_body G_parse_body.kp G_parse_body.bd .nil (passE (takes_of rfl rfl rfl rfl)) (pa_cons (pv 0) pa_nil)) pa_nil))))))) pss_nil)
      (pss_cons (ps_if (pt_val (pe_meth (pv 0) T.cls_Cursor T.meth_Cursor_took G_Cursor_took.fn (hr.mono (by omega)) G_Cursor_took.bd .nil (passE (takes_of rfl rfl rfl rfl)) (pa_cons pe_str pa_nil))) (pss_cons (ps_set (i := 3) sc_parse_primary.nd rfl (Or.inl rfl) (pe_meth0 (pv 0) T.cls_Cursor T.meth_Cursor_take_name G_Cursor_take_name.fn (hr.mono (by omega)) G_Cursor_take_name.bd .nil (passE (takes_of rfl rfl rfl rfl))))
      (pss_one (ps_ret (pe_tup (pa_cons pe_str (pa_cons (pv 3) (pa_cons (pe_call G_parse_row.fn (hr.mono (by omega)) rfl T.glo_parse_row G_parse_row.kp G_parse_row.bd .nil (passE (takes_of rfl rfl rfl rfl)) (pa_cons (pv 0) (pa_cons (pe_glob rfl T.glo_parse_whole rfl) pa_nil))) pa_nil))))))) pss_nil)
      (pss_cons (ps_set (i := 3) sc_parse_primary.nd rfl (Or.inl rfl) (pe_meth0 (pv 0) T.cls_Cursor T.meth_Cursor_take_name G_Cursor_take_name.fn (hr.mono (by omega)) G_Cursor_take_name.bd .nil (passE (takes_of rfl rfl rfl rfl))))
      (pss_cons (ps_if (pt_cmpR op_eq (pe_meth0 (pv 0) T.cls_Cursor T.meth_Cursor_word G_Cursor_word.fn (hr.mono (by omega)) b_Cursor_word v_Cursor_word (passE (takes_of rfl rfl rfl rfl))) pe_str (nomark _)) (pss_one (ps_ret (pe_tup (pa_cons pe_str (pa_cons (pv 3) (pa_cons (pe_call G_parse_row.fn (hr.mono (by omega)) rfl T.glo_parse_row G_parse_row.kp G_parse_row.bd .nil (passE (takes_of rfl rfl rfl rfl)) (pa_cons (pv 0) (pa_cons (pe_glob rfl T.glo_parse_whole rfl) pa_nil))) pa_nil)))))) pss_nil)
      (pss_one (ps_ret (pe_tup (pa_cons pe_str (pa_cons (pv 3) pa_nil)))))))))))))
theorem ok_parse_row (T : Txt P w K mg) {n : Nat} (IH : Rec P w K mg base n) {fd : FuncData} (F : FunD K ("parse_row" : Str) ("parse_row" : Str) (defArgs s_parse_row) (defBody s_parse_row) (defScope s_parse_row) [] [] (He.ga K ("parse_row" : Str)) fd) : Def P w K mg base (5 + n + 1) (He.ga K ("parse_row" : Str)) fd ["cursor", "parse_part"] (sp_parse_row K (n + 1)) := by
  obtain ⟨fd_Cursor_want, F_Cursor_want⟩ := T.d_Cursor_want
  have G_Cursor_want := ok_Cursor_want (P := P) (w := w) (base := base) T F_Cursor_want
  obtain ⟨fd_Cursor_took, F_Cursor_took⟩ := T.d_Cursor_took
  have G_Cursor_took := ok_Cursor_took (P := P) (w := w) (base := base) T F_Cursor_took
  have rowA : ∀ f sp, RowS K n f sp → ∃ fd ps, Def P w K mg base (5 + n) f fd ps sp := by
    rintro f sp (⟨rfl, rfl⟩ | ⟨rfl, rfl⟩)
    · obtain ⟨fd, F⟩ := T.d_parse_name
      exact ⟨fd, _, (ok_parse_name T F).mono (by omega)⟩
    · obtain ⟨fd, F⟩ := T.d_parse_whole
      exact ⟨fd, _, IH.c_parse_whole F⟩
  refine ⟨F.ok (CX := L2.CX P w) sc_parse_row (fun vs H Q E h => ?_) (fun cdv A outer s H vs Q E hr h => ⟨t_parse_row K w n E, ?_, run_parse_row h⟩), F.bindsN fun _ _ _ _ _ _ us hl => match us, hl with | [_, _], _ => rfl, F.kp⟩
  · obtain ⟨_, _, _, _, _, _, _, rfl, _⟩ := h
    rfl
  · exact (pss_cons (ps_expr (pe_meth (pv 0) T.cls_Cursor T.meth_Cursor_want G_Cursor_want.fn (hr.mono (by omega)) G_Cursor_want.bd .nil (passE (takes_of rfl rfl rfl rfl)) (pa_cons pe_str pa_nil)))
      (pss_cons (ps_if (pt_val (pe_meth (pv 0) T.cls_Cursor T.meth_Cursor_took G_Cursor_took.fn (hr.mono (by omega)) G_Cursor_took.bd .nil (passE (takes_of rfl rfl rfl rfl)) (pa_cons pe_str pa_nil))) (pss_one (ps_ret (pe_tup pa_nil))) pss_nil)
      (pss_cons (ps_set (i := 2) sc_parse_row.nd rfl (Or.inl rfl) (pe_lst (pa_cons (pe_callP rowA (hr.mono (by omega)) rfl (Or.inl rfl) (passE (takes_of rfl rfl rfl rfl)) (pa_cons (pv 0) pa_nil)) pa_nil)))
      (pss_cons (ps_while (passes_of rfl) (pt_val (pe_meth (pv 0) T.cls_Cursor T.meth_Cursor_took G_Cursor_took.fn (hr.mono (by omega)) G_Cursor_took.bd .nil (passE (takes_of rfl rfl rfl rfl)) (pa_cons pe_str pa_nil))) (pss_one (ps_expr (pe_bm PySem.F.plainAttrs_list PySem.F.slot_list_append PySem.F.type_list_append mt_append (pv 2) (pa_cons (pe_callP rowA (hr.mono (by omega)) rfl (Or.inl rfl) (passE (takes_of rfl rfl rfl rfl)) (pa_cons (pv 0) pa_nil)) pa_nil)))))
      (pss_cons (ps_expr (pe_meth (pv 0) T.cls_Cursor T.meth_Cursor_want G_Cursor_want.fn (hr.mono (by omega)) G_Cursor_want.bd .nil (passE (takes_of rfl rfl rfl rfl)) (pa_cons pe_str pa_nil)))
      (pss_one (ps_ret (pe_callTy call_tuple_of (by rfl) T.free_tuple (by decide +kernel) (pa_cons (pv 2) pa_nil)))))))))
theorem ok_parse_slots (T : Txt P w K mg) {n : Nat} (IH : Rec P w K mg base n) {fd : FuncData} (F : FunD K ("parse_slots" : Str) ("parse_slots" : Str) (defArgs s_parse_slots) (defBody s_parse_slots) (defScope s_parse_slots) [] [] (He.ga K ("parse_slots" : Str)) fd) : Def P w K mg base (5 + n + 1) (He.ga K ("parse_slots" : Str)) fd ["cursor"] (sp_parse_slots K (n + 1)) := by
  obtain ⟨fd_Cursor_want, F_Cursor_want⟩ := T.d_Cursor_want
  have G_Cursor_want := ok_Cursor_want (P := P) (w := w) (base := base) T F_Cursor_want
  obtain ⟨fd_Cursor_took, F_Cursor_took⟩ := T.d_Cursor_took
  have G_Cursor_took := ok_Cursor_took (P := P) (w := w) (base := base) T F_Cursor_took
  obtain ⟨fd_parse_slot, F_parse_slot⟩ := T.d_parse_slot
  have G_parse_slot := IH.c_parse_slot F_parse_slot
  refine ⟨F.ok (CX := L2.CX P w) sc_parse_slots (fun vs H Q E h => ?_) (fun cdv A outer s H vs Q E hr h => ⟨t_parse_slots K w n E, ?_, run_parse_slots h⟩), F.bindsN fun _ _ _ _ _ _ us hl => match us, hl with | [_], _ => rfl, F.kp⟩
  · obtain ⟨_, _, _, _, _, rfl, _⟩ := h
    rfl
  · exact (pss_cons (ps_expr (pe_meth (pv 0) T.cls_Cursor T.meth_Cursor_want G_Cursor_want.fn (hr.mono (by omega)) G_Cursor_want.bd .nil (passE (takes_of rfl rfl rfl rfl)) (pa_cons pe_str pa_nil)))
      (pss_cons (ps_set (i := 1) sc_parse_slots.nd rfl (Or.inl rfl) (pe_lst pa_nil))
      (pss_cons (ps_while (passes_of rfl) (pt_not (pt_val (pe_meth (pv 0) T.cls_Cursor T.meth_Cursor_took G_Cursor_took.fn (hr.mono (by omega)) G_Cursor_took.bd .nil (passE (takes_of rfl rfl rfl rfl)) (pa_cons pe_str pa_nil)))) (pss_one (ps_expr (pe_bm PySem.F.plainAttrs_list PySem.F.slot_list_append PySem.F.type_list_append mt_append (pv 1) (pa_cons (pe_call G_parse_slot.fn (hr.mono (by omega)) rfl T.glo_parse_slot G_parse_slot.kp G_parse_slot.bd .nil (passE (takes_of rfl rfl rfl rfl)) (pa_cons (pv 0) pa_nil)) pa_nil)))))
      (pss_one (ps_ret (pe_callTy call_tuple_of (by rfl) T.free_tuple (by decide +kernel) (pa_cons (pv 1) pa_nil)))))))
theorem ok_parse_slot (T : Txt P w K mg) {n : Nat} (IH : Rec P w K mg base n) {fd : FuncData} (F : FunD K ("parse_slot" : Str) ("parse_slot" : Str) (defArgs s_parse_slot) (defBody s_parse_slot) (defScope s_parse_slot) [] [] (He.ga K ("parse_slot" : Str)) fd) : Def P w K mg base (5 + n + 1) (He.ga K ("parse_slot" : Str)) fd ["cursor"] (sp_parse_slot K (n + 1)) := by
  obtain ⟨fd_Cursor_word, F_Cursor_word⟩ := T.d_Cursor_word
  have G_Cursor_word := ok_Cursor_word (P := P) (w := w) (base := base) T F_Cursor_word
  obtain ⟨fd_parse_method, F_parse_method⟩ := T.d_parse_method
  have G_parse_method := IH.c_parse_method F_parse_method
  obtain ⟨fd_parse_aim, F_parse_aim⟩ := T.d_parse_aim
  have G_parse_aim := ok_parse_aim (P := P) (w := w) (base := base) T F_parse_aim
  obtain ⟨fd_Cursor_take_name, F_Cursor_take_name⟩ := T.d_Cursor_take_name
  have G_Cursor_take_name := ok_Cursor_take_name (P := P) (w := w) (base := base) T F_Cursor_take_name
  obtain ⟨fd_Cursor_want, F_Cursor_want⟩ := T.d_Cursor_want
  have G_Cursor_want := ok_Cursor_want (P := P) (w := w) (base := base) T F_Cursor_want
  obtain ⟨fd_parse_ended, F_parse_ended⟩ := T.d_parse_ended
  have G_parse_ended := IH.c_parse_ended F_parse_ended
  obtain ⟨ds_Cursor_word, v_Cursor_word, b_Cursor_word⟩ := FunD.binds1 (ps := ["self", "ahead"]) F_Cursor_word 1 0 (by simp) rfl fun T kV doc pm an cdv ct us its h1 h2 => match us, its, h1, h2 with | [_], [_], _, _ => ⟨_, rfl, rfl⟩
  refine ⟨F.ok (CX := L2.CX P w) sc_parse_slot (fun vs H Q E h => ?_) (fun cdv A outer s H vs Q E hr h => ⟨t_parse_slot K w n E, ?_, run_parse_slot T.aims h⟩), F.bindsN fun _ _ _ _ _ _ us hl => match us, hl with | [_], _ => rfl, F.kp⟩
  · obtain ⟨_, _, _, _, _, rfl, _⟩ := h
    rfl
  · exact (pss_cons (ps_if (pt_cmpR op_eq (pe_meth0 (pv 0) T.cls_Cursor T.meth_Cursor_word G_Cursor_word.fn (hr.mono (by omega)) b_Cursor_word v_Cursor_word (passE (takes_of rfl rfl rfl rfl))) pe_str (nomark _)) (pss_one (ps_ret (pe_call G_parse_method.fn (hr.mono (by omega)) rfl T.glo_parse_method G_parse_method.kp G_parse_method.bd .nil (passE (takes_of rfl rfl rfl rfl)) (pa_cons (pv 0) pa_nil)))) pss_nil)
      (pss_cons (ps_set (i := 1) sc_parse_slot.nd rfl (Or.inl rfl) pe_str)
      (pss_cons (ps_if (pt_cmpR op_in_seq (pe_meth0 (pv 0) T.cls_Cursor T.meth_Cursor_word G_Cursor_word.fn (hr.mono (by omega)) b_Cursor_word v_Cursor_word (passE (takes_of rfl rfl rfl rfl))) (pe_glob rfl T.glo_AIMS rfl) (by with_unfolding_all rfl)) (pss_one (ps_set (i := 1) sc_parse_slot.nd rfl (Or.inl rfl) (pe_call G_parse_aim.fn (hr.mono (by omega)) rfl T.glo_parse_aim G_parse_aim.kp G_parse_aim.bd .nil (passE (takes_of rfl rfl rfl rfl)) (pa_cons (pv 0) pa_nil)))) pss_nil)
      (pss_cons (ps_set (i := 2) sc_parse_slot.nd rfl (Or.inl rfl) (pe_meth0 (pv 0) T.cls_Cursor T.meth_Cursor_take_name G_Cursor_take_name.fn (hr.mono (by omega)) G_Cursor_take_name.bd .nil (passE (takes_of rfl rfl rfl rfl))))
      (pss_cons (ps_expr (pe_meth (pv 0) T.cls_Cursor T.meth_Cursor_want G_Cursor_want.fn (hr.mono (by omega)) G_Cursor_want.bd .nil (passE (takes_of rfl rfl rfl rfl)) (pa_cons pe_str pa_nil)))
      (pss_one (ps_ret (pe_tup (pa_cons (pv 1) (pa_cons (pv 2) (pa_cons (pe_call G_parse_ended.fn (hr.mono (by omega)) rfl T.glo_parse_ended G_parse_ended.kp G_parse_ended.bd .nil (passE (takes_of rfl rfl rfl rfl)) (pa_cons (pv 0) pa_nil)) pa_nil)))))))))))
theorem ok_parse_method (T : Txt P w K mg) {n : Nat} (IH : Rec P w K mg base n) {fd : FuncData} (F : FunD K ("parse_method" : Str) ("parse_method" : Str) (defArgs s_parse_method) (defBody s_parse_method) (defScope s_parse_method) [] [] (He.ga K ("parse_method" : Str)) fd) : Def P w K mg base (5 + n + 1) (He.ga K ("parse_method" : Str)) fd ["cursor"] (sp_parse_method K (n + 1)) := by
  obtain ⟨fd_Cursor_want, F_Cursor_want⟩ := T.d_Cursor_want
  have G_Cursor_want := ok_Cursor_want (P := P) (w := w) (base := base) T F_Cursor_want
  obtain ⟨fd_Cursor_take_name, F_Cursor_take_name⟩ := T.d_Cursor_take_name
  have G_Cursor_take_name := ok_Cursor_take_name (P := P) (w := w) (base := base) T F_Cursor_take_name
  obtain ⟨fd_parse_row, F_parse_row⟩ := T.d_parse_row
  have G_parse_row := IH.c_parse_row F_parse_row
  obtain ⟨fd_parse_body, F_parse_body⟩ := T.d_parse_body
  have G_parse_body := IH.c_parse_body F_parse_body
  refine ⟨F.ok (CX := L2.CX P w) sc_parse_method (fun vs H Q E h => ?_) (fun cdv A outer s H vs Q E hr h => ⟨t_parse_method K w n E, ?_, run_parse_method h⟩), F.bindsN fun _ _ _ _ _ _ us hl => match us, hl with | [_], _ => rfl, F.kp⟩
  · obtain ⟨_, _, _, _, _, rfl, _⟩ := h
    rfl
  · exact (pss_cons (ps_expr (pe_meth (pv 0) T.cls_Cursor T.meth_Cursor_want G_Cursor_want.fn (hr.mono (by omega)) G_Cursor_want.bd .nil (passE (takes_of rfl rfl rfl rfl)) (pa_cons pe_str pa_nil)))
      (pss_cons (ps_set (i := 1) sc_parse_method.nd rfl (Or.inl rfl) (pe_meth0 (pv 0) T.cls_Cursor T.meth_Cursor_take_name G_Cursor_take_name.fn (hr.mono (by omega)) G_Cursor_take_name.bd .nil (passE (takes_of rfl rfl rfl rfl))))
      (pss_cons (ps_set (i := 2) sc_parse_method.nd rfl (Or.inl rfl) (pe_call G_parse_row.fn (hr.mono (by omega)) rfl T.glo_parse_row G_parse_row.kp G_parse_row.bd .nil (passE (takes_of rfl rfl rfl rfl)) (pa_cons (pv 0) (pa_cons (pe_glob rfl T.glo_parse_name rfl) pa_nil))))
      (pss_one (ps_ret (pe_tup (pa_cons pe_str (pa_cons (pv 1) (pa_cons (pv 2) (pa_cons (pe_call G_parse_body.fn (hr.mono (by omega)) rfl T.glo_parse_body G_parse_body.kp G_parse_body.bd .nil (passE (takes_of rfl rfl rfl rfl)) (pa_cons (pv 0) pa_nil)) pa_nil))))))))))
theorem ok_parse_body (T : Txt P w K mg) {n : Nat} (IH : Rec P w K mg base n) {fd : FuncData} (F : FunD K ("parse_body" : Str) ("parse_body" : Str) (defArgs s_parse_body) (defBody s_parse_body) (defScope s_parse_body) [] [] (He.ga K ("parse_body" : Str)) fd) : Def P w K mg base (5 + n + 1) (He.ga K ("parse_body" : Str)) fd ["cursor"] (sp_parse_body K (n + 1)) := by
  obtain ⟨fd_Cursor_want, F_Cursor_want⟩ := T.d_Cursor_want
  have G_Cursor_want := ok_Cursor_want (P := P) (w := w) (base := base) T F_Cursor_want
  obtain ⟨fd_Cursor_took, F_Cursor_took⟩ := T.d_Cursor_took
  have G_Cursor_took := ok_Cursor_took (P := P) (w := w) (base := base) T F_Cursor_took
  obtain ⟨fd_parse_statement, F_parse_statement⟩ := T.d_parse_statement
  have G_parse_statement := IH.c_parse_statement F_parse_statement
  refine ⟨F.ok (CX := L2.CX P w) sc_parse_body (fun vs H Q E h => ?_) (fun cdv A outer s H vs Q E hr h => ⟨t_parse_body K w n E, ?_, run_parse_body h⟩), F.bindsN fun _ _ _ _ _ _ us hl => match us, hl with | [_], _ => rfl, F.kp⟩
  · obtain ⟨_, _, _, _, _, rfl, _⟩ := h
    rfl
  · exact (pss_cons (ps_expr (pe_meth (pv 0) T.cls_Cursor T.meth_Cursor_want G_Cursor_want.fn (hr.mono (by omega)) G_Cursor_want.bd .nil (passE (takes_of rfl rfl rfl rfl)) (pa_cons pe_str pa_nil)))
      (pss_cons (ps_set (i := 1) sc_parse_body.nd rfl (Or.inl rfl) (pe_lst pa_nil))
      (pss_cons (ps_while (passes_of rfl) (pt_not (pt_val (pe_meth (pv 0) T.cls_Cursor T.meth_Cursor_took G_Cursor_took.fn (hr.mono (by omega)) G_Cursor_took.bd .nil (passE (takes_of rfl rfl rfl rfl)) (pa_cons pe_str pa_nil)))) (pss_one (ps_expr (pe_bm PySem.F.plainAttrs_list PySem.F.slot_list_append PySem.F.type_list_append mt_append (pv 1) (pa_cons (pe_call G_parse_statement.fn (hr.mono (by omega)) rfl T.glo_parse_statement G_parse_statement.kp G_parse_statement.bd .nil (passE (takes_of rfl rfl rfl rfl)) (pa_cons (pv 0) pa_nil)) pa_nil)))))
      (pss_one (ps_ret (pe_callTy call_tuple_of (by rfl) T.free_tuple (by decide +kernel) (pa_cons (pv 1) pa_nil)))))))
theorem ok_parse_statement (T : Txt P w K mg) {n : Nat} (IH : Rec P w K mg base n) {fd : FuncData} (F : FunD K ("parse_statement" : Str) ("parse_statement" : Str) (defArgs s_parse_statement) (defBody s_parse_statement) (defScope s_parse_statement) [] [] (He.ga K ("parse_statement" : Str)) fd) : Def P w K mg base (5 + n + 1) (He.ga K ("parse_statement" : Str)) fd ["cursor"] (sp_parse_statement K (n + 1)) := by
  obtain ⟨fd_Cursor_word, F_Cursor_word⟩ := T.d_Cursor_word
  have G_Cursor_word := ok_Cursor_word (P := P) (w := w) (base := base) T F_Cursor_word
  obtain ⟨fd_Cursor_take, F_Cursor_take⟩ := T.d_Cursor_take
  have G_Cursor_take := ok_Cursor_take (P := P) (w := w) (base := base) T F_Cursor_take
  obtain ⟨fd_Cursor_kind, F_Cursor_kind⟩ := T.d_Cursor_kind
  have G_Cursor_kind := ok_Cursor_kind (P := P) (w := w) (base := base) T F_Cursor_kind
  obtain ⟨fd_parse_set, F_parse_set⟩ := T.d_parse_set
  have G_parse_set := IH.c_parse_set F_parse_set
  obtain ⟨fd_parse_postfix, F_parse_postfix⟩ := T.d_parse_postfix
  have G_parse_postfix := IH.c_parse_postfix F_parse_postfix
  obtain ⟨fd_Cursor_took, F_Cursor_took⟩ := T.d_Cursor_took
  have G_Cursor_took := ok_Cursor_took (P := P) (w := w) (base := base) T F_Cursor_took
  obtain ⟨fd_parse_assign, F_parse_assign⟩ := T.d_parse_assign
  have G_parse_assign := IH.c_parse_assign F_parse_assign
  obtain ⟨fd_parse_operators, F_parse_operators⟩ := T.d_parse_operators
  have G_parse_operators := IH.c_parse_operators F_parse_operators
  obtain ⟨fd_Cursor_want, F_Cursor_want⟩ := T.d_Cursor_want
  have G_Cursor_want := ok_Cursor_want (P := P) (w := w) (base := base) T F_Cursor_want
  obtain ⟨ds_Cursor_word, v_Cursor_word, b_Cursor_word⟩ := FunD.binds1 (ps := ["self", "ahead"]) F_Cursor_word 1 0 (by simp) rfl fun T kV doc pm an cdv ct us its h1 h2 => match us, its, h1, h2 with | [_], [_], _, _ => ⟨_, rfl, rfl⟩
  obtain ⟨ds_Cursor_kind, v_Cursor_kind, b_Cursor_kind⟩ := FunD.binds1 (ps := ["self", "ahead"]) F_Cursor_kind 1 0 (by simp) rfl fun T kV doc pm an cdv ct us its h1 h2 => match us, its, h1, h2 with | [_], [_], _, _ => ⟨_, rfl, rfl⟩
  have stmtA : ∀ f sp, StmtS K n f sp → ∃ fd ps, Def P w K mg base (5 + n) f fd ps sp := by
    rintro f sp (⟨rfl, rfl⟩ | ⟨rfl, rfl⟩ | ⟨rfl, rfl⟩ | ⟨rfl, rfl⟩ | ⟨rfl, rfl⟩ | ⟨rfl, rfl⟩ | ⟨rfl, rfl⟩)
    · obtain ⟨fd, F⟩ := T.d_parse_let
      exact ⟨fd, _, IH.c_parse_let F⟩
    · obtain ⟨fd, F⟩ := T.d_parse_print
      exact ⟨fd, _, IH.c_parse_print F⟩
    · obtain ⟨fd, F⟩ := T.d_parse_return
      exact ⟨fd, _, IH.c_parse_return F⟩
    · obtain ⟨fd, F⟩ := T.d_parse_if
      exact ⟨fd, _, IH.c_parse_if F⟩
    · obtain ⟨fd, F⟩ := T.d_parse_while
      exact ⟨fd, _, IH.c_parse_while F⟩
    · obtain ⟨fd, F⟩ := T.d_parse_put
      exact ⟨fd, _, IH.c_parse_put F⟩
    · obtain ⟨fd, F⟩ := T.d_parse_drop
      exact ⟨fd, _, IH.c_parse_drop F⟩
  obtain ⟨tk_COMPARISON, i_COMPARISON⟩ := T.int_COMPARISON
  refine ⟨F.ok (CX := L2.CX P w) sc_parse_statement (fun vs H Q E h => ?_) (fun cdv A outer s H vs Q E hr h => ⟨t_parse_statement K w n E, ?_, run_parse_statement T.dic_STATEMENTS h⟩), F.bindsN fun _ _ _ _ _ _ us hl => match us, hl with | [_], _ => rfl, F.kp⟩
  · obtain ⟨_, _, _, _, _, rfl, _⟩ := h
    rfl
  · exact (pss_cons (ps_set (i := 1) sc_parse_statement.nd rfl (Or.inl rfl) (pe_meth0 (pv 0) T.cls_Cursor T.meth_Cursor_word G_Cursor_word.fn (hr.mono (by omega)) b_Cursor_word v_Cursor_word (passE (takes_of rfl rfl rfl rfl))))
      (pss_cons (ps_if (pt_cmp (pc_kin (pv 1) (pe_glob rfl T.glo_STATEMENTS rfl))) (pss_cons (ps_expr (pe_meth0 (pv 0) T.cls_Cursor T.meth_Cursor_take G_Cursor_take.fn (hr.mono (by omega)) G_Cursor_take.bd .nil (passE (takes_of rfl rfl rfl rfl))))
      (pss_cons (ps_set (i := 2) sc_parse_statement.nd rfl (Or.inl rfl) (pe_ix ix_kd (pe_glob rfl T.glo_STATEMENTS rfl) (pv 1) (fun _ _ => rfl)))
      (pss_one (ps_ret (pe_callP stmtA (hr.mono (by omega)) rfl (Or.inl rfl) (passE (takes_of rfl rfl rfl rfl)) (pa_cons (pv 0) pa_nil)))))) pss_nil)
      (pss_cons (ps_if (PW.pt (pw_and (pt_cmpR op_eq (pe_meth0 (pv 0) T.cls_Cursor T.meth_Cursor_kind G_Cursor_kind.fn (hr.mono (by omega)) b_Cursor_kind v_Cursor_kind (passE (takes_of rfl rfl rfl rfl))) pe_str (nomark _)) (pw_and1 (pt_cmpR op_eq (pe_meth (pv 0) T.cls_Cursor T.meth_Cursor_word G_Cursor_word.fn (hr.mono (by omega)) G_Cursor_word.bd .nil (passE (takes_of rfl rfl rfl rfl)) (pa_cons pe_int pa_nil)) pe_str (nomark _))))) (pss_one (ps_ret (pe_call G_parse_set.fn (hr.mono (by omega)) rfl T.glo_parse_set G_parse_set.kp G_parse_set.bd .nil (passE (takes_of rfl rfl rfl rfl)) (pa_cons (pv 0) pa_nil)))) pss_nil)
      (pss_cons (ps_set (i := 3) sc_parse_statement.nd rfl (Or.inl rfl) (pe_call G_parse_postfix.fn (hr.mono (by omega)) rfl T.glo_parse_postfix G_parse_postfix.kp G_parse_postfix.bd .nil (passE (takes_of rfl rfl rfl rfl)) (pa_cons (pv 0) pa_nil)))
      (pss_cons (ps_if (pt_val (pe_meth (pv 0) T.cls_Cursor T.meth_Cursor_took G_Cursor_took.fn (hr.mono (by omega)) G_Cursor_took.bd .nil (passE (takes_of rfl rfl rfl rfl)) (pa_cons pe_str pa_nil))) (pss_one (ps_ret (pe_call G_parse_assign.fn (hr.mono (by omega)) rfl T.glo_parse_assign G_parse_assign.kp G_parse_assign.bd .nil (passE (takes_of rfl rfl rfl rfl)) (pa_cons (pv 0) (pa_cons (pv 3) pa_nil))))) pss_nil)
      (pss_cons (ps_set (i := 4) sc_parse_statement.nd rfl (Or.inl rfl) (pe_call G_parse_operators.fn (hr.mono (by omega)) rfl T.glo_parse_operators G_parse_operators.kp G_parse_operators.bd .nil (passE (takes_of rfl rfl rfl rfl)) (pa_cons (pv 0) (pa_cons (pv 3) (pa_cons (pe_glob rfl i_COMPARISON ⟨_, rfl⟩) pa_nil)))))
      (pss_cons (ps_expr (pe_meth (pv 0) T.cls_Cursor T.meth_Cursor_want G_Cursor_want.fn (hr.mono (by omega)) G_Cursor_want.bd .nil (passE (takes_of rfl rfl rfl rfl)) (pa_cons pe_str pa_nil)))
      (pss_one (ps_ret (pe_tup (pa_cons pe_str (pa_cons (pv 4) pa_nil))))))))))))
theorem ok_parse_ended (T : Txt P w K mg) {n : Nat} (IH : Rec P w K mg base n) {fd : FuncData} (F : FunD K ("parse_ended" : Str) ("parse_ended" : Str) (defArgs s_parse_ended) (defBody s_parse_ended) (defScope s_parse_ended) [] [] (He.ga K ("parse_ended" : Str)) fd) : Def P w K mg base (5 + n + 1) (He.ga K ("parse_ended" : Str)) fd ["cursor"] (sp_parse_ended K (n + 1)) := by
  obtain ⟨fd_parse_whole, F_parse_whole⟩ := T.d_parse_whole
  have G_parse_whole := IH.c_parse_whole F_parse_whole
  obtain ⟨fd_Cursor_want, F_Cursor_want⟩ := T.d_Cursor_want
  have G_Cursor_want := ok_Cursor_want (P := P) (w := w) (base := base) T F_Cursor_want
  refine ⟨F.ok (CX := L2.CX P w) sc_parse_ended (fun vs H Q E h => ?_) (fun cdv A outer s H vs Q E hr h => ⟨t_parse_ended K w n E, ?_, run_parse_ended h⟩), F.bindsN fun _ _ _ _ _ _ us hl => match us, hl with | [_], _ => rfl, F.kp⟩
  · obtain ⟨_, _, _, _, _, rfl, _⟩ := h
    rfl
  · exact (pss_cons (ps_set (i := 1) sc_parse_ended.nd rfl (Or.inl rfl) (pe_call G_parse_whole.fn (hr.mono (by omega)) rfl T.glo_parse_whole G_parse_whole.kp G_parse_whole.bd .nil (passE (takes_of rfl rfl rfl rfl)) (pa_cons (pv 0) pa_nil)))
      (pss_cons (ps_expr (pe_meth (pv 0) T.cls_Cursor T.meth_Cursor_want G_Cursor_want.fn (hr.mono (by omega)) G_Cursor_want.bd .nil (passE (takes_of rfl rfl rfl rfl)) (pa_cons pe_str pa_nil)))
      (pss_one (ps_ret (pv 1)))))
theorem ok_parse_set (T : Txt P w K mg) {n : Nat} (IH : Rec P w K mg base n) {fd : FuncData} (F : FunD K ("parse_set" : Str) ("parse_set" : Str) (defArgs s_parse_set) (defBody s_parse_set) (defScope s_parse_set) [] [] (He.ga K ("parse_set" : Str)) fd) : Def P w K mg base (5 + n + 1) (He.ga K ("parse_set" : Str)) fd ["cursor"] (sp_parse_set K (n + 1)) := by
  obtain ⟨fd_Cursor_take_name, F_Cursor_take_name⟩ := T.d_Cursor_take_name
  have G_Cursor_take_name := ok_Cursor_take_name (P := P) (w := w) (base := base) T F_Cursor_take_name
  obtain ⟨fd_Cursor_want, F_Cursor_want⟩ := T.d_Cursor_want
  have G_Cursor_want := ok_Cursor_want (P := P) (w := w) (base := base) T F_Cursor_want
  obtain ⟨fd_parse_ended, F_parse_ended⟩ := T.d_parse_ended
  have G_parse_ended := IH.c_parse_ended F_parse_ended
  refine ⟨F.ok (CX := L2.CX P w) sc_parse_set (fun vs H Q E h => ?_) (fun cdv A outer s H vs Q E hr h => ⟨t_parse_set K w n E, ?_, run_parse_set h⟩), F.bindsN fun _ _ _ _ _ _ us hl => match us, hl with | [_], _ => rfl, F.kp⟩
  · obtain ⟨_, _, _, _, _, rfl, _⟩ := h
    rfl
  · exact (pss_cons (ps_set (i := 1) sc_parse_set.nd rfl (Or.inl rfl) (pe_meth0 (pv 0) T.cls_Cursor T.meth_Cursor_take_name G_Cursor_take_name.fn (hr.mono (by omega)) G_Cursor_take_name.bd .nil (passE (takes_of rfl rfl rfl rfl))))
      (pss_cons (ps_expr (pe_meth (pv 0) T.cls_Cursor T.meth_Cursor_want G_Cursor_want.fn (hr.mono (by omega)) G_Cursor_want.bd .nil (passE (takes_of rfl rfl rfl rfl)) (pa_cons pe_str pa_nil)))
      (pss_one (ps_ret (pe_tup (pa_cons pe_str (pa_cons (pv 1) (pa_cons (pe_call G_parse_ended.fn (hr.mono (by omega)) rfl T.glo_parse_ended G_parse_ended.kp G_parse_ended.bd .nil (passE (takes_of rfl rfl rfl rfl)) (pa_cons (pv 0) pa_nil)) pa_nil))))))))
theorem ok_parse_assign (T : Txt P w K mg) {n : Nat} (IH : Rec P w K mg base n) {fd : FuncData} (F : FunD K ("parse_assign" : Str) ("parse_assign" : Str) (defArgs s_parse_assign) (defBody s_parse_assign) (defScope s_parse_assign) [] [] (He.ga K ("parse_assign" : Str)) fd) : Def P w K mg base (5 + n + 1) (He.ga K ("parse_assign" : Str)) fd ["cursor", "target"] (sp_parse_assign K (n + 1)) := by
  obtain ⟨fd_Cursor_take_name, F_Cursor_take_name⟩ := T.d_Cursor_take_name
  have G_Cursor_take_name := ok_Cursor_take_name (P := P) (w := w) (base := base) T F_Cursor_take_name
  obtain ⟨fd_Cursor_want, F_Cursor_want⟩ := T.d_Cursor_want
  have G_Cursor_want := ok_Cursor_want (P := P) (w := w) (base := base) T F_Cursor_want
  obtain ⟨fd_parse_ended, F_parse_ended⟩ := T.d_parse_ended
  have G_parse_ended := IH.c_parse_ended F_parse_ended
  refine ⟨F.ok (CX := L2.CX P w) sc_parse_assign (fun vs H Q E h => ?_) (fun cdv A outer s H vs Q E hr h => ⟨t_parse_assign K w n E, ?_, run_parse_assign h⟩), F.bindsN fun _ _ _ _ _ _ us hl => match us, hl with | [_, _], _ => rfl, F.kp⟩
  · obtain ⟨_, _, _, _, _, _, _, rfl, _⟩ := h
    rfl
  · exact (pss_cons (ps_set (i := 2) sc_parse_assign.nd rfl (Or.inl rfl) (pe_meth0 (pv 0) T.cls_Cursor T.meth_Cursor_take_name G_Cursor_take_name.fn (hr.mono (by omega)) G_Cursor_take_name.bd .nil (passE (takes_of rfl rfl rfl rfl))))
      (pss_cons (ps_expr (pe_meth (pv 0) T.cls_Cursor T.meth_Cursor_want G_Cursor_want.fn (hr.mono (by omega)) G_Cursor_want.bd .nil (passE (takes_of rfl rfl rfl rfl)) (pa_cons pe_str pa_nil)))
      (pss_one (ps_ret (pe_tup (pa_cons pe_str (pa_cons (pv 1) (pa_cons (pv 2) (pa_cons (pe_call G_parse_ended.fn (hr.mono (by omega)) rfl T.glo_parse_ended G_parse_ended.kp G_parse_ended.bd .nil (passE (takes_of rfl rfl rfl rfl)) (pa_cons (pv 0) pa_nil)) pa_nil)))))))))
theorem ok_parse_let (T : Txt P w K mg) {n : Nat} (IH : Rec P w K mg base n) {fd : FuncData} (F : FunD K ("parse_let" : Str) ("parse_let" : Str) (defArgs s_parse_let) (defBody s_parse_let) (defScope s_parse_let) [] [] (He.ga K ("parse_let" : Str)) fd) : Def P w K mg base (5 + n + 1) (He.ga K ("parse_let" : Str)) fd ["cursor"] (sp_parse_let K (n + 1)) := by
  obtain ⟨fd_Cursor_take_name, F_Cursor_take_name⟩ := T.d_Cursor_take_name
  have G_Cursor_take_name := ok_Cursor_take_name (P := P) (w := w) (base := base) T F_Cursor_take_name
  obtain ⟨fd_Cursor_want, F_Cursor_want⟩ := T.d_Cursor_want
  have G_Cursor_want := ok_Cursor_want (P := P) (w := w) (base := base) T F_Cursor_want
  obtain ⟨fd_parse_ended, F_parse_ended⟩ := T.d_parse_ended
  have G_parse_ended := IH.c_parse_ended F_parse_ended
  refine ⟨F.ok (CX := L2.CX P w) sc_parse_let (fun vs H Q E h => ?_) (fun cdv A outer s H vs Q E hr h => ⟨t_parse_let K w n E, ?_, run_parse_let h⟩), F.bindsN fun _ _ _ _ _ _ us hl => match us, hl with | [_], _ => rfl, F.kp⟩
  · obtain ⟨_, _, _, _, _, rfl, _⟩ := h
    rfl
  · exact (pss_cons (ps_set (i := 1) sc_parse_let.nd rfl (Or.inl rfl) (pe_meth0 (pv 0) T.cls_Cursor T.meth_Cursor_take_name G_Cursor_take_name.fn (hr.mono (by omega)) G_Cursor_take_name.bd .nil (passE (takes_of rfl rfl rfl rfl))))
      (pss_cons (ps_expr (pe_meth (pv 0) T.cls_Cursor T.meth_Cursor_want G_Cursor_want.fn (hr.mono (by omega)) G_Cursor_want.bd .nil (passE (takes_of rfl rfl rfl rfl)) (pa_cons pe_str pa_nil)))
      (pss_one (ps_ret (pe_tup (pa_cons pe_str (pa_cons (pv 1) (pa_cons (pe_call G_parse_ended.fn (hr.mono (by omega)) rfl T.glo_parse_ended G_parse_ended.kp G_parse_ended.bd .nil (passE (takes_of rfl rfl rfl rfl)) (pa_cons (pv 0) pa_nil)) pa_nil))))))))
theorem ok_parse_print (T : Txt P w K mg) {n : Nat} (IH : Rec P w K mg base n) {fd : FuncData} (F : FunD K ("parse_print" : Str) ("parse_print" : Str) (defArgs s_parse_print) (defBody s_parse_print) (defScope s_parse_print) [] [] (He.ga K ("parse_print" : Str)) fd) : Def P w K mg base (5 + n + 1) (He.ga K ("parse_print" : Str)) fd ["cursor"] (sp_parse_print K (n + 1)) := by
  obtain ⟨fd_parse_ended, F_parse_ended⟩ := T.d_parse_ended
  have G_parse_ended := IH.c_parse_ended F_parse_ended
  refine ⟨F.ok (CX := L2.CX P w) sc_parse_print (fun vs H Q E h => ?_) (fun cdv A outer s H vs Q E hr h => ⟨t_parse_print K w n E, ?_, run_parse_print h⟩), F.bindsN fun _ _ _ _ _ _ us hl => match us, hl with | [_], _ => rfl, F.kp⟩
  · obtain ⟨_, _, _, _, _, rfl, _⟩ := h
    rfl
  · exact (pss_one (ps_ret (pe_tup (pa_cons pe_str (pa_cons (pe_call G_parse_ended.fn (hr.mono (by omega)) rfl T.glo_parse_ended G_parse_ended.kp G_parse_ended.bd .nil (passE (takes_of rfl rfl rfl rfl)) (pa_cons (pv 0) pa_nil)) pa_nil)))))
theorem ok_parse_return (T : Txt P w K mg) {n : Nat} (IH : Rec P w K mg base n) {fd : FuncData} (F : FunD K ("parse_return" : Str) ("parse_return" : Str) (defArgs s_parse_return) (defBody s_parse_return) (defScope s_parse_return) [] [] (He.ga K ("parse_return" : Str)) fd) : Def P w K mg base (5 + n + 1) (He.ga K ("parse_return" : Str)) fd ["cursor"] (sp_parse_return K (n + 1)) := by
  obtain ⟨fd_parse_ended, F_parse_ended⟩ := T.d_parse_ended
  have G_parse_ended := IH.c_parse_ended F_parse_ended
  refine ⟨F.ok (CX := L2.CX P w) sc_parse_return (fun vs H Q E h => ?_) (fun cdv A outer s H vs Q E hr h => ⟨t_parse_return K w n E, ?_, run_parse_return h⟩), F.bindsN fun _ _ _ _ _ _ us hl => match us, hl with | [_], _ => rfl, F.kp⟩
  · obtain ⟨_, _, _, _, _, rfl, _⟩ := h
    rfl
  · exact (pss_one (ps_ret (pe_tup (pa_cons pe_str (pa_cons (pe_call G_parse_ended.fn (hr.mono (by omega)) rfl T.glo_parse_ended G_parse_ended.kp G_parse_ended.bd .nil (passE (takes_of rfl rfl rfl rfl)) (pa_cons (pv 0) pa_nil)) pa_nil)))))
theorem ok_parse_if (T : Txt P w K mg) {n : Nat} (IH : Rec P w K mg base n) {fd : FuncData} (F : FunD K ("parse_if" : Str) ("parse_if" : Str) (defArgs s_parse_if) (defBody s_parse_if) (defScope s_parse_if) [] [] (He.ga K ("parse_if" : Str)) fd) : Def P w K mg base (5 + n + 1) (He.ga K ("parse_if" : Str)) fd ["cursor"] (sp_parse_if K (n + 1)) := by
  obtain ⟨fd_parse_whole, F_parse_whole⟩ := T.d_parse_whole
  have G_parse_whole := IH.c_parse_whole F_parse_whole
  obtain ⟨fd_parse_body, F_parse_body⟩ := T.d_parse_body
  have G_parse_body := IH.c_parse_body F_parse_body
  obtain ⟨fd_Cursor_took, F_Cursor_took⟩ := T.d_Cursor_took
  have G_Cursor_took := ok_Cursor_took (P := P) (w := w) (base := base) T F_Cursor_took
  refine ⟨F.ok (CX := L2.CX P w) sc_parse_if (fun vs H Q E h => ?_) (fun cdv A outer s H vs Q E hr h => ⟨t_parse_if K w n E, ?_, run_parse_if h⟩), F.bindsN fun _ _ _ _ _ _ us hl => match us, hl with | [_], _ => rfl, F.kp⟩
  · obtain ⟨_, _, _, _, _, rfl, _⟩ := h
    rfl
  · exact (pss_cons (ps_set (i := 1) sc_parse_if.nd rfl (Or.inl rfl) (pe_call G_parse_whole.fn (hr.mono (by omega)) rfl T.glo_parse_whole G_parse_whole.kp G_parse_whole.bd .nil (passE (takes_of rfl rfl rfl rfl)) (pa_cons (pv 0) pa_nil)))
      (pss_cons (ps_set (i := 2) sc_parse_if.nd rfl (Or.inl rfl) (pe_call G_parse_body.fn (hr.mono (by omega)) rfl T.glo_parse_body G_parse_body.kp G_parse_body.bd .nil (passE (takes_of rfl rfl rfl rfl)) (pa_cons (pv 0) pa_nil)))
      (pss_cons (ps_set (i := 3) sc_parse_if.nd rfl (Or.inl rfl) pe_non)
      (pss_cons (ps_if (pt_val (pe_meth (pv 0) T.cls_Cursor T.meth_Cursor_took G_Cursor_took.fn (hr.mono (by omega)) G_Cursor_took.bd .nil (passE (takes_of rfl rfl rfl rfl)) (pa_cons pe_str pa_nil))) (pss_one (ps_set (i := 3) sc_parse_if.nd rfl (Or.inl rfl) (pe_call G_parse_body.fn (hr.mono (by omega)) rfl T.glo_parse_body G_parse_body.kp G_parse_body.bd .nil (passE (takes_of rfl rfl rfl rfl)) (pa_cons (pv 0) pa_nil)))) pss_nil)
      (pss_one (ps_ret (pe_tup (pa_cons pe_str (pa_cons (pv 1) (pa_cons (pv 2) (pa_cons (pv 3) pa_nil)))))))))))
theorem ok_parse_while (T : Txt P w K mg) {n : Nat} (IH : Rec P w K mg base n) {fd : FuncData} (F : FunD K ("parse_while" : Str) ("parse_while" : Str) (defArgs s_parse_while) (defBody s_parse_while) (defScope s_parse_while) [] [] (He.ga K ("parse_while" : Str)) fd) : Def P w K mg base (5 + n + 1) (He.ga K ("parse_while" : Str)) fd ["cursor"] (sp_parse_while K (n + 1)) := by
  obtain ⟨fd_parse_whole, F_parse_whole⟩ := T.d_parse_whole
  have G_parse_whole := IH.c_parse_whole F_parse_whole
  obtain ⟨fd_parse_body, F_parse_body⟩ := T.d_parse_body
  have G_parse_body := IH.c_parse_body F_parse_body
  refine ⟨F.ok (CX := L2.CX P w) sc_parse_while (fun vs H Q E h => ?_) (fun cdv A outer s H vs Q E hr h => ⟨t_parse_while K w n E, ?_, run_parse_while h⟩), F.bindsN fun _ _ _ _ _ _ us hl => match us, hl with | [_], _ => rfl, F.kp⟩
  · obtain ⟨_, _, _, _, _, rfl, _⟩ := h
    rfl
  · exact (pss_cons (ps_set (i := 1) sc_parse_while.nd rfl (Or.inl rfl) (pe_call G_parse_whole.fn (hr.mono (by omega)) rfl T.glo_parse_whole G_parse_whole.kp G_parse_whole.bd .nil (passE (takes_of rfl rfl rfl rfl)) (pa_cons (pv 0) pa_nil)))
      (pss_one (ps_ret (pe_tup (pa_cons pe_str (pa_cons (pv 1) (pa_cons (pe_call G_parse_body.fn (hr.mono (by omega)) rfl T.glo_parse_body G_parse_body.kp G_parse_body.bd .nil (passE (takes_of rfl rfl rfl rfl)) (pa_cons (pv 0) pa_nil)) pa_nil)))))))
theorem ok_parse_put (T : Txt P w K mg) {n : Nat} (IH : Rec P w K mg base n) {fd : FuncData} (F : FunD K ("parse_put" : Str) ("parse_put" : Str) (defArgs s_parse_put) (defBody s_parse_put) (defScope s_parse_put) [] [] (He.ga K ("parse_put" : Str)) fd) : Def P w K mg base (5 + n + 1) (He.ga K ("parse_put" : Str)) fd ["cursor"] (sp_parse_put K (n + 1)) := by
  obtain ⟨fd_parse_postfix, F_parse_postfix⟩ := T.d_parse_postfix
  have G_parse_postfix := IH.c_parse_postfix F_parse_postfix
  obtain ⟨fd_Cursor_want, F_Cursor_want⟩ := T.d_Cursor_want
  have G_Cursor_want := ok_Cursor_want (P := P) (w := w) (base := base) T F_Cursor_want
  obtain ⟨fd_Cursor_take_name, F_Cursor_take_name⟩ := T.d_Cursor_take_name
  have G_Cursor_take_name := ok_Cursor_take_name (P := P) (w := w) (base := base) T F_Cursor_take_name
  obtain ⟨fd_parse_aim, F_parse_aim⟩ := T.d_parse_aim
  have G_parse_aim := ok_parse_aim (P := P) (w := w) (base := base) T F_parse_aim
  obtain ⟨fd_parse_ended, F_parse_ended⟩ := T.d_parse_ended
  have G_parse_ended := IH.c_parse_ended F_parse_ended
  refine ⟨F.ok (CX := L2.CX P w) sc_parse_put (fun vs H Q E h => ?_) (fun cdv A outer s H vs Q E hr h => ⟨t_parse_put K w n E, ?_, run_parse_put h⟩), F.bindsN fun _ _ _ _ _ _ us hl => match us, hl with | [_], _ => rfl, F.kp⟩
  · obtain ⟨_, _, _, _, _, rfl, _⟩ := h
    rfl
  · exact (pss_cons (ps_set (i := 1) sc_parse_put.nd rfl (Or.inl rfl) (pe_call G_parse_postfix.fn (hr.mono (by omega)) rfl T.glo_parse_postfix G_parse_postfix.kp G_parse_postfix.bd .nil (passE (takes_of rfl rfl rfl rfl)) (pa_cons (pv 0) pa_nil)))
      (pss_cons (ps_expr (pe_meth (pv 0) T.cls_Cursor T.meth_Cursor_want G_Cursor_want.fn (hr.mono (by omega)) G_Cursor_want.bd .nil (passE (takes_of rfl rfl rfl rfl)) (pa_cons pe_str pa_nil)))
      (pss_cons (ps_set (i := 2) sc_parse_put.nd rfl (Or.inl rfl) (pe_meth0 (pv 0) T.cls_Cursor T.meth_Cursor_take_name G_Cursor_take_name.fn (hr.mono (by omega)) G_Cursor_take_name.bd .nil (passE (takes_of rfl rfl rfl rfl))))
      (pss_cons (ps_set (i := 3) sc_parse_put.nd rfl (Or.inl rfl) (pe_call G_parse_aim.fn (hr.mono (by omega)) rfl T.glo_parse_aim G_parse_aim.kp G_parse_aim.bd .nil (passE (takes_of rfl rfl rfl rfl)) (pa_cons (pv 0) pa_nil)))
      (pss_cons (ps_expr (pe_meth (pv 0) T.cls_Cursor T.meth_Cursor_want G_Cursor_want.fn (hr.mono (by omega)) G_Cursor_want.bd .nil (passE (takes_of rfl rfl rfl rfl)) (pa_cons pe_str pa_nil)))
      (pss_one (ps_ret (pe_tup (pa_cons pe_str (pa_cons (pv 1) (pa_cons (pv 2) (pa_cons (pv 3) (pa_cons (pe_call G_parse_ended.fn (hr.mono (by omega)) rfl T.glo_parse_ended G_parse_ended.kp G_parse_ended.bd .nil (passE (takes_of rfl rfl rfl rfl)) (pa_cons (pv 0) pa_nil)) pa_nil)))))))))))))
theorem ok_parse_drop (T : Txt P w K mg) {n : Nat} (IH : Rec P w K mg base n) {fd : FuncData} (F : FunD K ("parse_drop" : Str) ("parse_drop" : Str) (defArgs s_parse_drop) (defBody s_parse_drop) (defScope s_parse_drop) [] [] (He.ga K ("parse_drop" : Str)) fd) : Def P w K mg base (5 + n + 1) (He.ga K ("parse_drop" : Str)) fd ["cursor"] (sp_parse_drop K (n + 1)) := by
  obtain ⟨fd_parse_postfix, F_parse_postfix⟩ := T.d_parse_postfix
  have G_parse_postfix := IH.c_parse_postfix F_parse_postfix
  obtain ⟨fd_Cursor_want, F_Cursor_want⟩ := T.d_Cursor_want
  have G_Cursor_want := ok_Cursor_want (P := P) (w := w) (base := base) T F_Cursor_want
  obtain ⟨fd_Cursor_take_name, F_Cursor_take_name⟩ := T.d_Cursor_take_name
  have G_Cursor_take_name := ok_Cursor_take_name (P := P) (w := w) (base := base) T F_Cursor_take_name
  refine ⟨F.ok (CX := L2.CX P w) sc_parse_drop (fun vs H Q E h => ?_) (fun cdv A outer s H vs Q E hr h => ⟨t_parse_drop K w n E, ?_, run_parse_drop h⟩), F.bindsN fun _ _ _ _ _ _ us hl => match us, hl with | [_], _ => rfl, F.kp⟩
  · obtain ⟨_, _, _, _, _, rfl, _⟩ := h
    rfl
  · exact (pss_cons (ps_set (i := 1) sc_parse_drop.nd rfl (Or.inl rfl) (pe_call G_parse_postfix.fn (hr.mono (by omega)) rfl T.glo_parse_postfix G_parse_postfix.kp G_parse_postfix.bd .nil (passE (takes_of rfl rfl rfl rfl)) (pa_cons (pv 0) pa_nil)))
      (pss_cons (ps_expr (pe_meth (pv 0) T.cls_Cursor T.meth_Cursor_want G_Cursor_want.fn (hr.mono (by omega)) G_Cursor_want.bd .nil (passE (takes_of rfl rfl rfl rfl)) (pa_cons pe_str pa_nil)))
      (pss_cons (ps_set (i := 2) sc_parse_drop.nd rfl (Or.inl rfl) (pe_meth0 (pv 0) T.cls_Cursor T.meth_Cursor_take_name G_Cursor_take_name.fn (hr.mono (by omega)) G_Cursor_take_name.bd .nil (passE (takes_of rfl rfl rfl rfl))))
      (pss_cons (ps_expr (pe_meth (pv 0) T.cls_Cursor T.meth_Cursor_want G_Cursor_want.fn (hr.mono (by omega)) G_Cursor_want.bd .nil (passE (takes_of rfl rfl rfl rfl)) (pa_cons pe_str pa_nil)))
      (pss_one (ps_ret (pe_tup (pa_cons pe_str (pa_cons (pv 1) (pa_cons (pv 2) pa_nil))))))))))
theorem ok_l_group (T : Txt P w K mg) {n : Nat} (IH : Rec P w K mg base n) {fd : FuncData} (F : FunD K ("_law_group" : Str) ("_law_group" : Str) (defArgs s_l_group) (defBody s_l_group) (defScope s_l_group) [] [] (He.ga K ("_law_group" : Str)) fd) : Def P w K mg base (5 + n + 1) (He.ga K ("_law_group" : Str)) fd ["trees", "signs"] (sp_l_group K (n + 1)) := by
  obtain ⟨fd_l_group, F_l_group⟩ := T.d_l_group
  have G_l_group := IH.c_l_group F_l_group
  refine ⟨F.ok (CX := L2.CX P w) sc_l_group (fun vs H Q E h => ?_) (fun cdv A outer s H vs Q E hr h => ⟨t_l_group K w n E, ?_, run_l_group h⟩), F.bindsN fun _ _ _ _ _ _ us hl => match us, hl with | [_, _], _ => rfl, F.kp⟩
  · obtain ⟨_, _, _, _, _, rfl, _⟩ := h
    rfl
  · exact (pss_cons (ps_for (passes_of rfl) rfl (pi_list (pe_lst (pa_cons (pe_tup (pa_cons pe_str (pa_cons pe_str (pa_cons pe_str pa_nil)))) (pa_cons (pe_tup (pa_cons pe_str (pa_cons pe_str pa_nil))) (pa_cons (pe_tup (pa_cons pe_str (pa_cons pe_str (pa_cons pe_str pa_nil)))) pa_nil))))) (pg_name (i := 2) sc_l_group.nd rfl (Or.inl rfl)) (pss_cons (ps_set (i := 3) sc_l_group.nd rfl (Or.inl rfl) (pe_un un_neg pe_int))
      (pss_cons (ps_for (passes_of rfl) rfl (pi_range1 (by rfl) T.free_range (pa_cons (pe_callB call_len (by rfl) T.free_len (by decide +kernel) (pa_cons (pv 1) pa_nil)) pa_nil)) (pg_name (i := 4) sc_l_group.nd rfl (Or.inl rfl)) (pss_one (ps_if (pt_cmpR op_in_seq (pe_ix ix_list (pv 1) (pv 4) (fun _ _ => rfl)) (pv 2) (by with_unfolding_all rfl)) (pss_one (ps_set (i := 3) sc_l_group.nd rfl (Or.inl rfl) (pv 4))) pss_nil)))
      (pss_one (ps_if (pt_cmpR op_ge (pv 3) pe_int (nomark _)) (pss_cons (ps_set (i := 5) sc_l_group.nd rfl (Or.inl rfl) (pe_call G_l_group.fn (hr.mono (by omega)) rfl T.glo__law_group G_l_group.kp G_l_group.bd .nil (passE (takes_of rfl rfl rfl rfl)) (pa_cons (pe_slice sl_list (pv 0) po_none (po_some (pe_op op_add (pv 3) pe_int))) (pa_cons (pe_slice sl_list (pv 1) po_none (po_some (pv 3))) pa_nil))))
      (pss_one (ps_ret (pe_tup (pa_cons pe_str (pa_cons (pe_ix ix_list (pv 1) (pv 3) (fun _ _ => rfl)) (pa_cons (pv 5) (pa_cons (pe_call G_l_group.fn (hr.mono (by omega)) rfl T.glo__law_group G_l_group.kp G_l_group.bd .nil (passE (takes_of rfl rfl rfl rfl)) (pa_cons (pe_slice sl_list (pv 0) (po_some (pe_op op_add (pv 3) pe_int)) po_none) (pa_cons (pe_slice sl_list (pv 1) (po_some (pe_op op_add (pv 3) pe_int)) po_none) pa_nil))) pa_nil)))))))) pss_nil)))))
      (pss_one (ps_ret (pe_ix ix_list (pv 0) pe_int (fun _ _ => rfl)))))
theorem rec_all (T : Txt P w K mg) : ∀ n, Rec P w K mg base n
  | 0 => { c_parse_whole := fun F => .never (no_pf fun _ => rfl) (F.bindsN fun _ _ _ _ _ _ us hl => match us, hl with | [_], _ => rfl) F.kp, c_parse_operators := fun F => .never no_ops (F.bindsN fun _ _ _ _ _ _ us hl => match us, hl with | [_, _, _], _ => rfl) F.kp, c_parse_postfix := fun F => .never (no_pf fun _ => rfl) (F.bindsN fun _ _ _ _ _ _ us hl => match us, hl with | [_], _ => rfl) F.kp, c_parse_primary := fun F => .never (no_pf fun _ => rfl) (F.bindsN fun _ _ _ _ _ _ us hl => match us, hl with | [_], _ => rfl) F.kp, c_parse_row := fun F => .never no_row (F.bindsN fun _ _ _ _ _ _ us hl => match us, hl with | [_, _], _ => rfl) F.kp, c_parse_slots := fun F => .never (no_pf fun _ => rfl) (F.bindsN fun _ _ _ _ _ _ us hl => match us, hl with | [_], _ => rfl) F.kp, c_parse_slot := fun F => .never (no_pf fun _ => rfl) (F.bindsN fun _ _ _ _ _ _ us hl => match us, hl with | [_], _ => rfl) F.kp, c_parse_method := fun F => .never (no_pf fun _ => rfl) (F.bindsN fun _ _ _ _ _ _ us hl => match us, hl with | [_], _ => rfl) F.kp, c_parse_body := fun F => .never (no_pf fun _ => rfl) (F.bindsN fun _ _ _ _ _ _ us hl => match us, hl with | [_], _ => rfl) F.kp, c_parse_statement := fun F => .never (no_pf fun _ => rfl) (F.bindsN fun _ _ _ _ _ _ us hl => match us, hl with | [_], _ => rfl) F.kp, c_parse_ended := fun F => .never (no_pf fun _ => rfl) (F.bindsN fun _ _ _ _ _ _ us hl => match us, hl with | [_], _ => rfl) F.kp, c_parse_set := fun F => .never (no_pf fun _ => rfl) (F.bindsN fun _ _ _ _ _ _ us hl => match us, hl with | [_], _ => rfl) F.kp, c_parse_assign := fun F => .never no_assign (F.bindsN fun _ _ _ _ _ _ us hl => match us, hl with | [_, _], _ => rfl) F.kp, c_parse_let := fun F => .never (no_pf fun _ => rfl) (F.bindsN fun _ _ _ _ _ _ us hl => match us, hl with | [_], _ => rfl) F.kp, c_parse_print := fun F => .never (no_pf fun _ => rfl) (F.bindsN fun _ _ _ _ _ _ us hl => match us, hl with | [_], _ => rfl) F.kp, c_parse_return := fun F => .never (no_pf fun _ => rfl) (F.bindsN fun _ _ _ _ _ _ us hl => match us, hl with | [_], _ => rfl) F.kp, c_parse_if := fun F => .never (no_pf fun _ => rfl) (F.bindsN fun _ _ _ _ _ _ us hl => match us, hl with | [_], _ => rfl) F.kp, c_parse_while := fun F => .never (no_pf fun _ => rfl) (F.bindsN fun _ _ _ _ _ _ us hl => match us, hl with | [_], _ => rfl) F.kp, c_parse_put := fun F => .never (no_pf fun _ => rfl) (F.bindsN fun _ _ _ _ _ _ us hl => match us, hl with | [_], _ => rfl) F.kp, c_parse_drop := fun F => .never (no_pf fun _ => rfl) (F.bindsN fun _ _ _ _ _ _ us hl => match us, hl with | [_], _ => rfl) F.kp, c_l_group := fun F => .never no_group (F.bindsN fun _ _ _ _ _ _ us hl => match us, hl with | [_, _], _ => rfl) F.kp }
  | n + 1 => { c_parse_whole := fun F => ok_parse_whole T (rec_all T n) F, c_parse_operators := fun F => ok_parse_operators T (rec_all T n) F, c_parse_postfix := fun F => ok_parse_postfix T (rec_all T n) F, c_parse_primary := fun F => ok_parse_primary T (rec_all T n) F, c_parse_row := fun F => ok_parse_row T (rec_all T n) F, c_parse_slots := fun F => ok_parse_slots T (rec_all T n) F, c_parse_slot := fun F => ok_parse_slot T (rec_all T n) F, c_parse_method := fun F => ok_parse_method T (rec_all T n) F, c_parse_body := fun F => ok_parse_body T (rec_all T n) F, c_parse_statement := fun F => ok_parse_statement T (rec_all T n) F, c_parse_ended := fun F => ok_parse_ended T (rec_all T n) F, c_parse_set := fun F => ok_parse_set T (rec_all T n) F, c_parse_assign := fun F => ok_parse_assign T (rec_all T n) F, c_parse_let := fun F => ok_parse_let T (rec_all T n) F, c_parse_print := fun F => ok_parse_print T (rec_all T n) F, c_parse_return := fun F => ok_parse_return T (rec_all T n) F, c_parse_if := fun F => ok_parse_if T (rec_all T n) F, c_parse_while := fun F => ok_parse_while T (rec_all T n) F, c_parse_put := fun F => ok_parse_put T (rec_all T n) F, c_parse_drop := fun F => ok_parse_drop T (rec_all T n) F, c_l_group := fun F => ok_l_group T (rec_all T n) F }
theorem ok_parse_expr (T : Txt P w K mg) {fd : FuncData} (F : FunD K ("parse_expr" : Str) ("parse_expr" : Str) (defArgs s_parse_expr) (defBody s_parse_expr) (defScope s_parse_expr) [] [] (He.ga K ("parse_expr" : Str)) fd) : Def P w K mg base 66 (He.ga K ("parse_expr" : Str)) fd ["text"] (sp_parse_expr K) := by
  obtain ⟨fd_Cursor_init, F_Cursor_init⟩ := T.d_Cursor_init
  have G_Cursor_init := ok_Cursor_init (P := P) (w := w) (base := base) T F_Cursor_init
  obtain ⟨fd_parse_whole, F_parse_whole⟩ := T.d_parse_whole
  have G_parse_whole := (rec_all (P := P) (w := w) (base := base) T 60).c_parse_whole F_parse_whole
  obtain ⟨fd_Cursor_want_end, F_Cursor_want_end⟩ := T.d_Cursor_want_end
  have G_Cursor_want_end := ok_Cursor_want_end (P := P) (w := w) (base := base) T F_Cursor_want_end
  refine ⟨F.ok (CX := L2.CX P w) sc_parse_expr (fun vs H Q E h => ?_) (fun cdv A outer s H vs Q E hr h => ⟨t_parse_expr K E, ?_, run_parse_expr h⟩), F.bindsN fun _ _ _ _ _ _ us hl => match us, hl with | [_], _ => rfl, F.kp⟩
  · obtain ⟨_, _, rfl, _⟩ := h
    rfl
  · exact (pss_cons (ps_set (i := 1) sc_parse_expr.nd rfl (Or.inl rfl) (pe_make T.mkr_Cursor G_Cursor_init.fn (hr.mono (by decide)) rfl T.glo_Cursor G_Cursor_init.bd .nil (passE (takes_of rfl rfl rfl rfl)) (pa_cons (pv 0) pa_nil)))
      (pss_cons (ps_set (i := 2) sc_parse_expr.nd rfl (Or.inl rfl) (pe_call G_parse_whole.fn (hr.mono (by decide)) rfl T.glo_parse_whole G_parse_whole.kp G_parse_whole.bd .nil (passE (takes_of rfl rfl rfl rfl)) (pa_cons (pv 1) pa_nil)))
      (pss_cons (ps_expr (pe_meth0 (pv 1) T.cls_Cursor T.meth_Cursor_want_end G_Cursor_want_end.fn (hr.mono (by decide)) G_Cursor_want_end.bd .nil (passE (takes_of rfl rfl rfl rfl))))
      (pss_one (ps_ret (pv 2))))))
theorem ok_l_operand (T : Txt P w K mg) {fd : FuncData} (F : FunD K ("_law_operand" : Str) ("_law_operand" : Str) (defArgs s_l_operand) (defBody s_l_operand) (defScope s_l_operand) [] [] (He.ga K ("_law_operand" : Str)) fd) : Def P w K mg base 3 (He.ga K ("_law_operand" : Str)) fd ["draws"] (sp_l_operand K) := by
  obtain ⟨fd_l_pick, F_l_pick⟩ := T.d_l_pick
  have G_l_pick := ok_l_pick (P := P) (w := w) (base := base) T F_l_pick
  refine ⟨F.ok (CX := L2.CX P w) sc_l_operand (fun vs H Q E h => ?_) (fun cdv A outer s H vs Q E hr h => ⟨t_l_operand K E, ?_, run_l_operand h⟩), F.bindsN fun _ _ _ _ _ _ us hl => match us, hl with | [_], _ => rfl, F.kp⟩
  · obtain ⟨_, _, rfl, _⟩ := h
    rfl
  · exact (pss_cons (ps_set (i := 1) sc_l_operand.nd rfl (Or.inl rfl) (pe_call G_l_pick.fn (hr.mono (by decide)) rfl T.glo__law_pick G_l_pick.kp G_l_pick.bd .nil (passE (takes_of rfl rfl rfl rfl)) (pa_cons (pv 0) (pa_cons pe_int pa_nil))))
      (pss_cons (ps_set (i := 2) sc_l_operand.nd rfl (Or.inl rfl) (pe_call G_l_pick.fn (hr.mono (by decide)) rfl T.glo__law_pick G_l_pick.kp G_l_pick.bd .nil (passE (takes_of rfl rfl rfl rfl)) (pa_cons (pv 0) (pa_cons pe_int pa_nil))))
      (pss_cons (ps_set (i := 3) sc_l_operand.nd rfl (Or.inl rfl) (pe_ix ix_list (pe_lst (pa_cons pe_str (pa_cons pe_str (pa_cons pe_str (pa_cons pe_str (pa_cons pe_str pa_nil)))))) (pe_call G_l_pick.fn (hr.mono (by decide)) rfl T.glo__law_pick G_l_pick.kp G_l_pick.bd .nil (passE (takes_of rfl rfl rfl rfl)) (pa_cons (pv 0) (pa_cons pe_int pa_nil))) (fun _ _ => rfl)))
      (pss_cons (ps_if (pt_cmpR op_eq (pv 1) pe_int (nomark _)) (pss_one (ps_ret (pe_tup (pa_cons (pe_callTy call_str_int (by rfl) T.free_str (by decide +kernel) (pa_cons (pv 2) pa_nil)) (pa_cons (pe_tup (pa_cons pe_str (pa_cons (pv 2) pa_nil))) pa_nil))))) pss_nil)
      (pss_cons (ps_if (pt_cmpR op_eq (pv 1) pe_int (nomark _)) (pss_one (ps_ret (pe_tup (pa_cons (pe_op op_add_str (pe_op op_add_str (pe_op op_add_str (pv 3) pe_str) (pe_callTy call_str_int (by rfl) T.free_str (by decide +kernel) (pa_cons (pv 2) pa_nil))) pe_str) (pa_cons (pe_tup (pa_cons pe_str (pa_cons (pe_tup (pa_cons pe_str (pa_cons (pv 3) pa_nil))) (pa_cons pe_str (pa_cons (pe_tup (pa_cons (pe_tup (pa_cons pe_str (pa_cons (pv 2) pa_nil))) pa_nil)) pa_nil))))) pa_nil))))) pss_nil)
      (pss_cons (ps_if (pt_cmpR op_eq (pv 1) pe_int (nomark _)) (pss_one (ps_ret (pe_tup (pa_cons pe_str (pa_cons (pe_tup (pa_cons pe_str (pa_cons (pe_tup (pa_cons pe_str pa_nil)) (pa_cons (pe_tup pa_nil) pa_nil)))) pa_nil))))) pss_nil)
      (pss_cons (ps_if (pt_cmpR op_eq (pv 1) pe_int (nomark _)) (pss_one (ps_ret (pe_tup (pa_cons (pe_op op_add_str (pv 3) pe_str) (pa_cons (pe_tup (pa_cons pe_str (pa_cons (pe_tup (pa_cons pe_str (pa_cons (pv 3) (pa_cons (pe_tup (pa_cons (pe_tup (pa_cons pe_str pa_nil)) pa_nil)) pa_nil)))) (pa_cons pe_str (pa_cons (pe_tup pa_nil) pa_nil))))) pa_nil))))) pss_nil)
      (pss_one (ps_ret (pe_tup (pa_cons (pv 3) (pa_cons (pe_tup (pa_cons pe_str (pa_cons (pv 3) pa_nil))) pa_nil))))))))))))
theorem ok_l_sign (T : Txt P w K mg) {fd : FuncData} (F : FunD K ("_law_sign" : Str) ("_law_sign" : Str) (defArgs s_l_sign) (defBody s_l_sign) (defScope s_l_sign) [] [] (He.ga K ("_law_sign" : Str)) fd) : Def P w K mg base 3 (He.ga K ("_law_sign" : Str)) fd ["draws", "compared"] (sp_l_sign K) := by
  obtain ⟨fd_l_pick, F_l_pick⟩ := T.d_l_pick
  have G_l_pick := ok_l_pick (P := P) (w := w) (base := base) T F_l_pick
  refine ⟨F.ok (CX := L2.CX P w) sc_l_sign (fun vs H Q E h => ?_) (fun cdv A outer s H vs Q E hr h => ⟨t_l_sign K E, ?_, run_l_sign h⟩), F.bindsN fun _ _ _ _ _ _ us hl => match us, hl with | [_, _], _ => rfl, F.kp⟩
  · obtain ⟨_, _, _, rfl, _⟩ := h
    rfl
  · exact (pss_cons (ps_set (i := 2) sc_l_sign.nd rfl (Or.inl rfl) (pe_lst (pa_cons pe_str (pa_cons pe_str (pa_cons pe_str (pa_cons pe_str (pa_cons pe_str (pa_cons pe_str (pa_cons pe_str (pa_cons pe_str (pa_cons pe_str (pa_cons pe_str pa_nil))))))))))))
      (pss_cons (ps_set (i := 3) sc_l_sign.nd rfl (Or.inl rfl) pe_int)
      (pss_cons (ps_if (pt_val (pv 1)) (pss_one (ps_set (i := 3) sc_l_sign.nd rfl (Or.inl rfl) pe_int)) pss_nil)
      (pss_one (ps_ret (pe_ix ix_list (pv 2) (pe_call G_l_pick.fn (hr.mono (by decide)) rfl T.glo__law_pick G_l_pick.kp G_l_pick.bd .nil (passE (takes_of rfl rfl rfl rfl)) (pa_cons (pv 0) (pa_cons (pv 3) pa_nil))) (fun _ _ => rfl)))))))
theorem ok_l_told (T : Txt P w K mg) {fd : FuncData} (F : FunD K ("_law_told" : Str) ("_law_told" : Str) (defArgs s_l_told) (defBody s_l_told) (defScope s_l_told) [] [] (He.ga K ("_law_told" : Str)) fd) : Def P w K mg base 67 (He.ga K ("_law_told" : Str)) fd ["text"] (sp_l_told K) := by
  obtain ⟨fd_parse_expr, F_parse_expr⟩ := T.d_parse_expr
  have G_parse_expr := ok_parse_expr (P := P) (w := w) (base := base) T F_parse_expr
  refine ⟨F.ok (CX := L2.CX P w) sc_l_told (fun vs H Q E h => ?_) (fun cdv A outer s H vs Q E hr h => ⟨t_l_told K E, ?_, run_l_told T.exm_Unexpected_Unexpected h⟩), F.bindsN fun _ _ _ _ _ _ us hl => match us, hl with | [_], _ => rfl, F.kp⟩
  · obtain ⟨_, _, rfl, _⟩ := h
    rfl
  · exact (pss_one (ps_try_named rfl rfl sc_l_told.nd takes0 (fun W pn xe tk _ => (pss_one (ps_ret (pe_callS G_parse_expr.fn (hr.mono (by decide)) rfl T.glo_parse_expr G_parse_expr.kp G_parse_expr.bd (fun σ => passAt tk σ) (pa_cons (pv 0) pa_nil))))) (.cons ⟨rfl, by decide, Or.inl T.glo_Unexpected⟩ rfl rfl (fun xa oe xc xd pn hz hf => (pss_one (ps_ret (pe_tup (pa_cons (pe_xf (xf_of T.exc_Unexpected) T.noat_Unexpected_row hz hf (pv 1)) (pa_cons (pe_xf (xf_of T.exc_Unexpected) T.noat_Unexpected_column hz hf (pv 1)) pa_nil)))))) .nil)))
theorem ok_l_one (T : Txt P w K mg) {fd : FuncData} (F : FunD K ("_law_one" : Str) ("_law_one" : Str) (defArgs s_l_one) (defBody s_l_one) (defScope s_l_one) [] [] (He.ga K ("_law_one" : Str)) fd) : Def P w K mg base 68 (He.ga K ("_law_one" : Str)) fd ["draws"] (sp_l_one K) := by
  obtain ⟨fd_l_operand, F_l_operand⟩ := T.d_l_operand
  have G_l_operand := ok_l_operand (P := P) (w := w) (base := base) T F_l_operand
  obtain ⟨fd_l_pick, F_l_pick⟩ := T.d_l_pick
  have G_l_pick := ok_l_pick (P := P) (w := w) (base := base) T F_l_pick
  obtain ⟨fd_l_sign, F_l_sign⟩ := T.d_l_sign
  have G_l_sign := ok_l_sign (P := P) (w := w) (base := base) T F_l_sign
  obtain ⟨fd_l_group, F_l_group⟩ := T.d_l_group
  have G_l_group := (rec_all (P := P) (w := w) (base := base) T 60).c_l_group F_l_group
  obtain ⟨fd_l_told, F_l_told⟩ := T.d_l_told
  have G_l_told := ok_l_told (P := P) (w := w) (base := base) T F_l_told
  refine ⟨F.ok (CX := L2.CX P w) sc_l_one (fun vs H Q E h => ?_) (fun cdv A outer s H vs Q E hr h => ⟨t_l_one K E, ?_, run_l_one h⟩), F.bindsN fun _ _ _ _ _ _ us hl => match us, hl with | [_], _ => rfl, F.kp⟩
  · obtain ⟨_, _, rfl, _⟩ := h
    rfl
  · exact (pss_cons (ps_asg (pe_call G_l_operand.fn (hr.mono (by decide)) rfl T.glo__law_operand G_l_operand.kp G_l_operand.bd .nil (passE (takes_of rfl rfl rfl rfl)) (pa_cons (pv 0) pa_nil)) (pg_tup rfl (pgs_cons (pg_name (i := 1) sc_l_one.nd rfl (Or.inl rfl)) (pgs_cons (pg_name (i := 2) sc_l_one.nd rfl (Or.inl rfl)) pgs_nil))))
      (pss_cons (ps_set (i := 3) sc_l_one.nd rfl (Or.inl rfl) (pe_lst (pa_cons (pv 2) pa_nil)))
      (pss_cons (ps_set (i := 4) sc_l_one.nd rfl (Or.inl rfl) (pe_lst pa_nil))
      (pss_cons (ps_for (passes_of rfl) rfl (pi_range1 (by rfl) T.free_range (pa_cons (pe_call G_l_pick.fn (hr.mono (by decide)) rfl T.glo__law_pick G_l_pick.kp G_l_pick.bd .nil (passE (takes_of rfl rfl rfl rfl)) (pa_cons (pv 0) (pa_cons pe_int pa_nil))) pa_nil)) (pg_name (i := 5) sc_l_one.nd rfl (Or.inl rfl)) (pss_cons (ps_set (i := 6) sc_l_one.nd rfl (Or.inl rfl) (pe_or (pe_cmpR op_in_seq pe_str (pv 4) (by with_unfolding_all rfl)) (pe_or (pe_cmpR op_in_seq pe_str (pv 4) (by with_unfolding_all rfl)) (pe_one (pe_cmpR op_in_seq pe_str (pv 4) (by with_unfolding_all rfl))))))
      (pss_cons (ps_expr (pe_bm PySem.F.plainAttrs_list PySem.F.slot_list_append PySem.F.type_list_append mt_append (pv 4) (pa_cons (pe_call G_l_sign.fn (hr.mono (by decide)) rfl T.glo__law_sign G_l_sign.kp G_l_sign.bd .nil (passE (takes_of rfl rfl rfl rfl)) (pa_cons (pv 0) (pa_cons (pv 6) pa_nil))) pa_nil)))
      (pss_cons (ps_asg (pe_call G_l_operand.fn (hr.mono (by decide)) rfl T.glo__law_operand G_l_operand.kp G_l_operand.bd .nil (passE (takes_of rfl rfl rfl rfl)) (pa_cons (pv 0) pa_nil)) (pg_tup rfl (pgs_cons (pg_name (i := 7) sc_l_one.nd rfl (Or.inl rfl)) (pgs_cons (pg_name (i := 2) sc_l_one.nd rfl (Or.inl rfl)) pgs_nil))))
      (pss_cons (ps_expr (pe_bm PySem.F.plainAttrs_list PySem.F.slot_list_append PySem.F.type_list_append mt_append (pv 3) (pa_cons (pv 2) pa_nil)))
      (pss_one (ps_set (i := 1) sc_l_one.nd rfl (Or.inl rfl) (pe_op op_add_str (pe_op op_add_str (pe_op op_add_str (pe_op op_add_str (pv 1) (pe_ix ix_list (pe_lst (pa_cons pe_str (pa_cons pe_str (pa_cons pe_str pa_nil)))) (pe_call G_l_pick.fn (hr.mono (by decide)) rfl T.glo__law_pick G_l_pick.kp G_l_pick.bd .nil (passE (takes_of rfl rfl rfl rfl)) (pa_cons (pv 0) (pa_cons pe_int pa_nil))) (fun _ _ => rfl))) (pe_ix ix_list (pv 4) (pe_un un_neg pe_int) (fun _ _ => rfl))) (pe_ix ix_list (pe_lst (pa_cons pe_str (pa_cons pe_str pa_nil))) (pe_call G_l_pick.fn (hr.mono (by decide)) rfl T.glo__law_pick G_l_pick.kp G_l_pick.bd .nil (passE (takes_of rfl rfl rfl rfl)) (pa_cons (pv 0) (pa_cons pe_int pa_nil))) (fun _ _ => rfl))) (pv 7)))))))))
      (pss_cons (ps_if (pt_cmpR (op_neD hr.units) (pe_call G_l_told.fn (hr.mono (by decide)) rfl T.glo__law_told G_l_told.kp G_l_told.bd .nil (passE (takes_of rfl rfl rfl rfl)) (pa_cons (pv 1) pa_nil)) (pe_call G_l_group.fn (hr.mono (by decide)) rfl T.glo__law_group G_l_group.kp G_l_group.bd .nil (passE (takes_of rfl rfl rfl rfl)) (pa_cons (pv 3) (pa_cons (pv 4) pa_nil))) (nomark _)) (pss_one (ps_ret pe_bl)) pss_nil)
      (pss_cons (ps_set (i := 8) sc_l_one.nd rfl (Or.inl rfl) (pe_op op_add (pe_bm PySem.F.plainAttrs_str PySem.F.slot_str_count PySem.F.type_str_count mt_count (pv 1) (pa_cons pe_str pa_nil)) pe_int))
      (pss_cons (ps_set (i := 9) sc_l_one.nd rfl (Or.inl rfl) (pe_op op_add (pe_op op_sub (pe_callB call_len_str (by rfl) T.free_len (by decide +kernel) (pa_cons (pv 1) pa_nil)) (pe_bm PySem.F.plainAttrs_str PySem.F.slot_str_rfind PySem.F.type_str_rfind mt_rfind (pv 1) (pa_cons pe_str pa_nil))) pe_int))
      (pss_cons (ps_if (PW.pt (pw_or (pt_cmpR op_in_seq pe_str (pv 4) (by with_unfolding_all rfl)) (pw_or (pt_cmpR op_in_seq pe_str (pv 4) (by with_unfolding_all rfl)) (pw_or1 (pt_cmpR op_in_seq pe_str (pv 4) (by with_unfolding_all rfl)))))) (pss_one (ps_ret (pe_and (pe_cmpR (op_eqD hr.units) (pe_call G_l_told.fn (hr.mono (by decide)) rfl T.glo__law_told G_l_told.kp G_l_told.bd .nil (passE (takes_of rfl rfl rfl rfl)) (pa_cons (pe_op op_add_str (pv 1) pe_str) pa_nil)) (pe_tup (pa_cons (pv 8) (pa_cons (pv 9) pa_nil))) (nomark _)) (pe_one (pe_cmpR (op_eqD hr.units) (pe_call G_l_told.fn (hr.mono (by decide)) rfl T.glo__law_told G_l_told.kp G_l_told.bd .nil (passE (takes_of rfl rfl rfl rfl)) (pa_cons (pe_op op_add_str (pv 1) pe_str) pa_nil)) (pe_tup (pa_cons (pv 8) (pa_cons (pv 9) pa_nil))) (nomark _)))))) pss_nil)
      (pss_one (ps_ret (pe_cmpR (op_eqD hr.units) (pe_call G_l_told.fn (hr.mono (by decide)) rfl T.glo__law_told G_l_told.kp G_l_told.bd .nil (passE (takes_of rfl rfl rfl rfl)) (pa_cons (pe_op op_add_str (pv 1) pe_str) pa_nil)) (pe_tup (pa_cons pe_str (pa_cons pe_str (pa_cons (pe_call G_l_group.fn (hr.mono (by decide)) rfl T.glo__law_group G_l_group.kp G_l_group.bd .nil (passE (takes_of rfl rfl rfl rfl)) (pa_cons (pv 3) (pa_cons (pv 4) pa_nil))) (pa_cons (pe_tup (pa_cons pe_str (pa_cons pe_str pa_nil))) pa_nil))))) (nomark _))))))))))))
theorem ok_law (T : Txt P w K mg) {fd : FuncData} (F : FunD K ("law" : Str) ("law" : Str) (defArgs s_law) (defBody s_law) (defScope s_law) [] [] (He.ga K ("law" : Str)) fd) : Def P w K mg base 69 (He.ga K ("law" : Str)) fd ["script"] (sp_law K) := by
  obtain ⟨fd_l_stream, F_l_stream⟩ := T.d_l_stream
  have G_l_stream := ok_l_stream (P := P) (w := w) (base := base) T F_l_stream
  obtain ⟨fd_l_one, F_l_one⟩ := T.d_l_one
  have G_l_one := ok_l_one (P := P) (w := w) (base := base) T F_l_one
  refine ⟨F.ok (CX := L2.CX P w) sc_law (fun vs H Q E h => ?_) (fun cdv A outer s H vs Q E hr h => ⟨t_law K E, ?_, run_law h⟩), F.bindsN fun _ _ _ _ _ _ us hl => match us, hl with | [_], _ => rfl, F.kp⟩
  · obtain ⟨_, _, rfl, _⟩ := h
    rfl
  · have hu := hu_of hr
    exact (pss_cons (ps_set (i := 1) sc_law.nd rfl (Or.inl rfl) (pe_call G_l_stream.fn (hr.mono (by decide)) rfl T.glo__law_stream G_l_stream.kp G_l_stream.bd .nil (passE (takes_of rfl rfl rfl rfl)) (pa_cons (pv 0) (pa_cons pe_int pa_nil))))
      (pss_cons (ps_for (passes_of rfl) rfl (pi_range1 (by rfl) T.free_range (pa_cons (pe_callB (call_min2 rfl) (by rfl) T.free_min (by decide +kernel) (pa_cons pe_int (pa_cons (pe_op op_add pe_int (pe_op op_fdiv (pe_callB call_len (by rfl) T.free_len (by decide +kernel) (pa_cons (pe_dget hu (pv 1) pe_str (fun _ _ => rfl)) pa_nil)) pe_int)) pa_nil))) pa_nil)) (pg_name (i := 2) sc_law.nd rfl (Or.inl rfl)) (pss_one (ps_if (pt_not (pt_val (pe_call G_l_one.fn (hr.mono (by decide)) rfl T.glo__law_one G_l_one.kp G_l_one.bd .nil (passE (takes_of rfl rfl rfl rfl)) (pa_cons (pv 1) pa_nil)))) (pss_one (ps_ret pe_bl)) pss_nil)))
      (pss_one (ps_ret pe_bl))))
end
def fn : List He.DefD := [⟨(("_law_mix" : Str), none), ("_law_mix" : Str), ("_law_mix" : Str), defArgs s_l_mix, defBody s_l_mix, defScope s_l_mix, [], []⟩,
  ⟨(("_law_pick" : Str), none), ("_law_pick" : Str), ("_law_pick" : Str), defArgs s_l_pick, defBody s_l_pick, defScope s_l_pick, [], []⟩,
  ⟨(("_law_stream" : Str), none), ("_law_stream" : Str), ("_law_stream" : Str), defArgs s_l_stream, defBody s_l_stream, defScope s_l_stream, [], []⟩,
  ⟨(("is_letter" : Str), none), ("is_letter" : Str), ("is_letter" : Str), defArgs s_is_letter, defBody s_is_letter, defScope s_is_letter, [], []⟩,
  ⟨(("is_word_part" : Str), none), ("is_word_part" : Str), ("is_word_part" : Str), defArgs s_is_word_part, defBody s_is_word_part, defScope s_is_word_part, [], []⟩,
  ⟨(("is_number" : Str), none), ("is_number" : Str), ("is_number" : Str), defArgs s_is_number, defBody s_is_number, defScope s_is_number, [], []⟩,
  ⟨(("word_kind" : Str), none), ("word_kind" : Str), ("word_kind" : Str), defArgs s_word_kind, defBody s_word_kind, defScope s_word_kind, [], []⟩,
  ⟨(("Scanner" : Str), some ("__init__" : Str)), ("__init__" : Str), ("Scanner.__init__" : Str), defArgs s_Scanner_init, defBody s_Scanner_init, defScope s_Scanner_init, [], []⟩,
  ⟨(("Scanner" : Str), some ("is_done" : Str)), ("is_done" : Str), ("Scanner.is_done" : Str), defArgs s_Scanner_is_done, defBody s_Scanner_is_done, defScope s_Scanner_is_done, [], []⟩,
  ⟨(("Scanner" : Str), some ("skip_newline" : Str)), ("skip_newline" : Str), ("Scanner.skip_newline" : Str), defArgs s_Scanner_skip_newline, defBody s_Scanner_skip_newline, defScope s_Scanner_skip_newline, [], []⟩,
  ⟨(("Scanner" : Str), some ("row_end" : Str)), ("row_end" : Str), ("Scanner.row_end" : Str), defArgs s_Scanner_row_end, defBody s_Scanner_row_end, defScope s_Scanner_row_end, [], []⟩,
  ⟨(("Scanner" : Str), some ("word_end" : Str)), ("word_end" : Str), ("Scanner.word_end" : Str), defArgs s_Scanner_word_end, defBody s_Scanner_word_end, defScope s_Scanner_word_end, [], []⟩,
  ⟨(("Scanner" : Str), some ("take_to" : Str)), ("take_to" : Str), ("Scanner.take_to" : Str), defArgs s_Scanner_take_to, defBody s_Scanner_take_to, defScope s_Scanner_take_to, [], []⟩,
  ⟨(("Scanner" : Str), some ("skip_gaps" : Str)), ("skip_gaps" : Str), ("Scanner.skip_gaps" : Str), defArgs s_Scanner_skip_gaps, defBody s_Scanner_skip_gaps, defScope s_Scanner_skip_gaps, [], []⟩,
  ⟨(("Scanner" : Str), some ("take_sign" : Str)), ("take_sign" : Str), ("Scanner.take_sign" : Str), defArgs s_Scanner_take_sign, defBody s_Scanner_take_sign, defScope s_Scanner_take_sign, [], []⟩,
  ⟨(("Scanner" : Str), some ("take_token" : Str)), ("take_token" : Str), ("Scanner.take_token" : Str), defArgs s_Scanner_take_token, defBody s_Scanner_take_token, defScope s_Scanner_take_token, [], []⟩,
  ⟨(("tokens" : Str), none), ("tokens" : Str), ("tokens" : Str), defArgs s_tokens, defBody s_tokens, defScope s_tokens, [], []⟩,
  ⟨(("Cursor" : Str), some ("kind" : Str)), ("kind" : Str), ("Cursor.kind" : Str), defArgs s_Cursor_kind, defBody s_Cursor_kind, defScope s_Cursor_kind, [.int 0], []⟩,
  ⟨(("Cursor" : Str), some ("word" : Str)), ("word" : Str), ("Cursor.word" : Str), defArgs s_Cursor_word, defBody s_Cursor_word, defScope s_Cursor_word, [.int 0], []⟩,
  ⟨(("Cursor" : Str), some ("take" : Str)), ("take" : Str), ("Cursor.take" : Str), defArgs s_Cursor_take, defBody s_Cursor_take, defScope s_Cursor_take, [], []⟩,
  ⟨(("Cursor" : Str), some ("took" : Str)), ("took" : Str), ("Cursor.took" : Str), defArgs s_Cursor_took, defBody s_Cursor_took, defScope s_Cursor_took, [], []⟩,
  ⟨(("Cursor" : Str), some ("refuse" : Str)), ("refuse" : Str), ("Cursor.refuse" : Str), defArgs s_Cursor_refuse, defBody s_Cursor_refuse, defScope s_Cursor_refuse, [], []⟩,
  ⟨(("Cursor" : Str), some ("want" : Str)), ("want" : Str), ("Cursor.want" : Str), defArgs s_Cursor_want, defBody s_Cursor_want, defScope s_Cursor_want, [], []⟩,
  ⟨(("Cursor" : Str), some ("take_name" : Str)), ("take_name" : Str), ("Cursor.take_name" : Str), defArgs s_Cursor_take_name, defBody s_Cursor_take_name, defScope s_Cursor_take_name, [], []⟩,
  ⟨(("Cursor" : Str), some ("want_end" : Str)), ("want_end" : Str), ("Cursor.want_end" : Str), defArgs s_Cursor_want_end, defBody s_Cursor_want_end, defScope s_Cursor_want_end, [], []⟩,
  ⟨(("Cursor" : Str), some ("__init__" : Str)), ("__init__" : Str), ("Cursor.__init__" : Str), defArgs s_Cursor_init, defBody s_Cursor_init, defScope s_Cursor_init, [], []⟩,
  ⟨(("parse_name" : Str), none), ("parse_name" : Str), ("parse_name" : Str), defArgs s_parse_name, defBody s_parse_name, defScope s_parse_name, [], []⟩,
  ⟨(("parse_aim" : Str), none), ("parse_aim" : Str), ("parse_aim" : Str), defArgs s_parse_aim, defBody s_parse_aim, defScope s_parse_aim, [], []⟩,
  ⟨(("has_own_dot" : Str), none), ("has_own_dot" : Str), ("has_own_dot" : Str), defArgs s_has_own_dot, defBody s_has_own_dot, defScope s_has_own_dot, [], []⟩,
  ⟨(("parse_whole" : Str), none), ("parse_whole" : Str), ("parse_whole" : Str), defArgs s_parse_whole, defBody s_parse_whole, defScope s_parse_whole, [], []⟩,
  ⟨(("parse_operators" : Str), none), ("parse_operators" : Str), ("parse_operators" : Str), defArgs s_parse_operators, defBody s_parse_operators, defScope s_parse_operators, [], []⟩,
  ⟨(("parse_postfix" : Str), none), ("parse_postfix" : Str), ("parse_postfix" : Str), defArgs s_parse_postfix, defBody s_parse_postfix, defScope s_parse_postfix, [], []⟩,
  ⟨(("parse_primary" : Str), none), ("parse_primary" : Str), ("parse_primary" : Str), defArgs s_parse_primary, defBody s_parse_primary, defScope s_parse_primary, [], []⟩,
  ⟨(("parse_row" : Str), none), ("parse_row" : Str), ("parse_row" : Str), defArgs s_parse_row, defBody s_parse_row, defScope s_parse_row, [], []⟩,
  ⟨(("parse_slots" : Str), none), ("parse_slots" : Str), ("parse_slots" : Str), defArgs s_parse_slots, defBody s_parse_slots, defScope s_parse_slots, [], []⟩,
  ⟨(("parse_slot" : Str), none), ("parse_slot" : Str), ("parse_slot" : Str), defArgs s_parse_slot, defBody s_parse_slot, defScope s_parse_slot, [], []⟩,
  ⟨(("parse_method" : Str), none), ("parse_method" : Str), ("parse_method" : Str), defArgs s_parse_method, defBody s_parse_method, defScope s_parse_method, [], []⟩,
  ⟨(("parse_body" : Str), none), ("parse_body" : Str), ("parse_body" : Str), defArgs s_parse_body, defBody s_parse_body, defScope s_parse_body, [], []⟩,
  ⟨(("parse_statement" : Str), none), ("parse_statement" : Str), ("parse_statement" : Str), defArgs s_parse_statement, defBody s_parse_statement, defScope s_parse_statement, [], []⟩,
  ⟨(("parse_ended" : Str), none), ("parse_ended" : Str), ("parse_ended" : Str), defArgs s_parse_ended, defBody s_parse_ended, defScope s_parse_ended, [], []⟩,
  ⟨(("parse_set" : Str), none), ("parse_set" : Str), ("parse_set" : Str), defArgs s_parse_set, defBody s_parse_set, defScope s_parse_set, [], []⟩,
  ⟨(("parse_assign" : Str), none), ("parse_assign" : Str), ("parse_assign" : Str), defArgs s_parse_assign, defBody s_parse_assign, defScope s_parse_assign, [], []⟩,
  ⟨(("parse_let" : Str), none), ("parse_let" : Str), ("parse_let" : Str), defArgs s_parse_let, defBody s_parse_let, defScope s_parse_let, [], []⟩,
  ⟨(("parse_print" : Str), none), ("parse_print" : Str), ("parse_print" : Str), defArgs s_parse_print, defBody s_parse_print, defScope s_parse_print, [], []⟩,
  ⟨(("parse_return" : Str), none), ("parse_return" : Str), ("parse_return" : Str), defArgs s_parse_return, defBody s_parse_return, defScope s_parse_return, [], []⟩,
  ⟨(("parse_if" : Str), none), ("parse_if" : Str), ("parse_if" : Str), defArgs s_parse_if, defBody s_parse_if, defScope s_parse_if, [], []⟩,
  ⟨(("parse_while" : Str), none), ("parse_while" : Str), ("parse_while" : Str), defArgs s_parse_while, defBody s_parse_while, defScope s_parse_while, [], []⟩,
  ⟨(("parse_put" : Str), none), ("parse_put" : Str), ("parse_put" : Str), defArgs s_parse_put, defBody s_parse_put, defScope s_parse_put, [], []⟩,
  ⟨(("parse_drop" : Str), none), ("parse_drop" : Str), ("parse_drop" : Str), defArgs s_parse_drop, defBody s_parse_drop, defScope s_parse_drop, [], []⟩,
  ⟨(("_law_group" : Str), none), ("_law_group" : Str), ("_law_group" : Str), defArgs s_l_group, defBody s_l_group, defScope s_l_group, [], []⟩,
  ⟨(("parse_expr" : Str), none), ("parse_expr" : Str), ("parse_expr" : Str), defArgs s_parse_expr, defBody s_parse_expr, defScope s_parse_expr, [], []⟩,
  ⟨(("_law_operand" : Str), none), ("_law_operand" : Str), ("_law_operand" : Str), defArgs s_l_operand, defBody s_l_operand, defScope s_l_operand, [], []⟩,
  ⟨(("_law_sign" : Str), none), ("_law_sign" : Str), ("_law_sign" : Str), defArgs s_l_sign, defBody s_l_sign, defScope s_l_sign, [], []⟩,
  ⟨(("_law_told" : Str), none), ("_law_told" : Str), ("_law_told" : Str), defArgs s_l_told, defBody s_l_told, defScope s_l_told, [], []⟩,
  ⟨(("_law_one" : Str), none), ("_law_one" : Str), ("_law_one" : Str), defArgs s_l_one, defBody s_l_one, defScope s_l_one, [], []⟩,
  ⟨(("law" : Str), none), ("law" : Str), ("law" : Str), defArgs s_law, defBody s_law, defScope s_law, [], []⟩]
def fa : List He.Fa := [.free ("int" : Str),
  .glo ("_law_mix" : Str),
  .free ("len" : Str),
  .free ("range" : Str),
  .free ("min" : Str),
  .glo ("is_letter" : Str),
  .str ("DIGITS" : Str) ("0123456789" : Str),
  .int ("MOST_DIGITS" : Str) 13,
  .int ("LARGEST" : Str) 1000000000000,
  .glo ("KEYWORDS" : Str),
  .glo ("is_word_part" : Str),
  .cls ("Scanner" : Str),
  .meth ("Scanner" : Str) ("is_done" : Str),
  .meth ("Scanner" : Str) ("skip_newline" : Str),
  .meth ("Scanner" : Str) ("take_to" : Str),
  .meth ("Scanner" : Str) ("row_end" : Str),
  .glo ("LONG_SIGNS" : Str),
  .glo ("SHORT_SIGNS" : Str),
  .glo ("BadCharacter" : Str),
  .meth ("Scanner" : Str) ("word_end" : Str),
  .glo ("word_kind" : Str),
  .glo ("is_number" : Str),
  .glo ("BadNumber" : Str),
  .meth ("Scanner" : Str) ("take_sign" : Str),
  .glo ("Scanner" : Str),
  .mkr ("Scanner" : Str),
  .meth ("Scanner" : Str) ("skip_gaps" : Str),
  .meth ("Scanner" : Str) ("take_token" : Str),
  .cls ("Cursor" : Str),
  .meth ("Cursor" : Str) ("word" : Str),
  .glo ("Unexpected" : Str),
  .meth ("Cursor" : Str) ("took" : Str),
  .meth ("Cursor" : Str) ("refuse" : Str),
  .meth ("Cursor" : Str) ("kind" : Str),
  .meth ("Cursor" : Str) ("take" : Str),
  .glo ("tokens" : Str),
  .meth ("Cursor" : Str) ("take_name" : Str),
  .meth ("Cursor" : Str) ("want" : Str),
  .glo ("parse_postfix" : Str),
  .int ("COMPARISON" : Str) 1,
  .glo ("parse_operators" : Str),
  .glo ("LEVELS" : Str),
  .glo ("parse_primary" : Str),
  .glo ("has_own_dot" : Str),
  .glo ("parse_whole" : Str),
  .glo ("parse_row" : Str),
  .glo ("CONSTANTS" : Str),
  .glo ("parse_slots" : Str),
  .glo ("parse_name" : Str),
  .glo ("parse_body" : Str),
  .free ("tuple" : Str),
  .glo ("parse_slot" : Str),
  .glo ("parse_method" : Str),
  .glo ("AIMS" : Str),
  .glo ("parse_aim" : Str),
  .glo ("parse_ended" : Str),
  .glo ("parse_statement" : Str),
  .glo ("STATEMENTS" : Str),
  .glo ("parse_set" : Str),
  .glo ("parse_assign" : Str),
  .glo ("_law_group" : Str),
  .glo ("Cursor" : Str),
  .mkr ("Cursor" : Str),
  .meth ("Cursor" : Str) ("want_end" : Str),
  .glo ("_law_pick" : Str),
  .free ("str" : Str),
  .glo ("parse_expr" : Str),
  .noat ("Unexpected" : Str) ("row" : Str),
  .noat ("Unexpected" : Str) ("column" : Str),
  .glo ("_law_operand" : Str),
  .glo ("_law_sign" : Str),
  .glo ("_law_told" : Str),
  .glo ("_law_stream" : Str),
  .glo ("_law_one" : Str),
  .glo ("law" : Str),
  .noat ("Scanner" : Str) ("text" : Str),
  .noat ("Scanner" : Str) ("at" : Str),
  .noat ("Scanner" : Str) ("row" : Str),
  .noat ("Scanner" : Str) ("column" : Str),
  .noat ("Cursor" : Str) ("found" : Str),
  .noat ("Cursor" : Str) ("at" : Str),
  .glo ("parse_let" : Str),
  .glo ("parse_print" : Str),
  .glo ("parse_return" : Str),
  .glo ("parse_if" : Str),
  .glo ("parse_while" : Str),
  .glo ("parse_put" : Str),
  .glo ("parse_drop" : Str)]
def dc0 : List (Str × He.Dv) := [(("==" : Str), .int 1), (("<" : Str), .int 1), (("<=" : Str), .int 1), (("+" : Str), .int 2), (("-" : Str), .int 2), (("*" : Str), .int 3), (("div" : Str), .int 3), (("mod" : Str), .int 3)]
def dc1 : List (Str × He.Dv) := [(("let" : Str), .glo "parse_let"), (("print" : Str), .glo "parse_print"), (("return" : Str), .glo "parse_return"), (("if" : Str), .glo "parse_if"), (("while" : Str), .glo "parse_while"), (("put" : Str), .glo "parse_put"), (("drop" : Str), .glo "parse_drop")]
def dc : DcL := [(("LEVELS" : Str), dc0), (("STATEMENTS" : Str), dc1)]
def exs : List (PySem.W.Frag → Bool) := [fun K => tupS K "KEYWORDS" kwS, fun K => tupS K "LONG_SIGNS" [":=", "==", "<="], fun K => tupS K "SHORT_SIGNS" ["{", "}", "(", ")", ",", ";", ".", "=", "+", "-", "*", "<"], fun K => tupS K "AIMS" ["const", "var", "parent"], fun K => tupS K "CONSTANTS" ["true", "false", "nothing", "self"], fun K => errB K ("/claim/cut.py" : Str) (He.ga K ("BadCharacter" : Str)), fun K => errB K ("/claim/cut.py" : Str) (He.ga K ("BadNumber" : Str)), fun K => errB K ("/claim/cut.py" : Str) (He.ga K ("Unexpected" : Str)), fun K => excB K (He.ga K ("Unexpected" : Str)), fun K => decide (PySem.W.exmOne K (.ref (He.ga K ("Unexpected" : Str))) (.ref (He.ga K ("Unexpected" : Str))) = some true), fun K => dicB K ("LEVELS" : Str) dc0, fun K => dicB K ("STATEMENTS" : Str) dc1]
abbrev ex : PySem.W.Frag → Bool := allOf exs
def ce : List (Str × CelW) := [(("BadCharacter" : Str), celV "__init__" "TextError.__init__" s_te), (("BadNumber" : Str), celV "__init__" "TextError.__init__" s_te), (("Unexpected" : Str), celV "__init__" "TextError.__init__" s_te)]
theorem txt_mk {P : Program} {w : World} {K : PySem.W.Frag} {h : Heap} {mg : Str → Option Value} (X : K.In h) (G : h.Ns mainGlobals mg) (c : SaysG fa fn ce dc ex w K) (pt : (P.main.scope.names.lookup ("super" : Str)).isSome = false) (pf : ((P.main.file : Str) == "/claim/cut.py") = true) : Txt P w K mg where
  free_int := He.free_ok X G (c.fact 0 (f := .free ("int" : Str)) rfl)
  glo__law_mix := He.glo_ok X G (c.fact 1 (f := .glo ("_law_mix" : Str)) rfl)
  free_len := He.free_ok X G (c.fact 2 (f := .free ("len" : Str)) rfl)
  free_range := He.free_ok X G (c.fact 3 (f := .free ("range" : Str)) rfl)
  free_min := He.free_ok X G (c.fact 4 (f := .free ("min" : Str)) rfl)
  glo_is_letter := He.glo_ok X G (c.fact 5 (f := .glo ("is_letter" : Str)) rfl)
  str_DIGITS := He.str_ok X G (c.fact 6 (f := .str ("DIGITS" : Str) ("0123456789" : Str)) rfl)
  int_MOST_DIGITS := He.int_ok X G (c.fact 7 (f := .int ("MOST_DIGITS" : Str) 13) rfl)
  int_LARGEST := He.int_ok X G (c.fact 8 (f := .int ("LARGEST" : Str) 1000000000000) rfl)
  glo_KEYWORDS := He.glo_ok X G (c.fact 9 (f := .glo ("KEYWORDS" : Str)) rfl)
  glo_is_word_part := He.glo_ok X G (c.fact 10 (f := .glo ("is_word_part" : Str)) rfl)
  cls_Scanner := He.cls_ok (c.fact 11 (f := .cls ("Scanner" : Str)) rfl)
  meth_Scanner_is_done := He.meth_ok (c.fact 12 (f := .meth ("Scanner" : Str) ("is_done" : Str)) rfl)
  meth_Scanner_skip_newline := He.meth_ok (c.fact 13 (f := .meth ("Scanner" : Str) ("skip_newline" : Str)) rfl)
  meth_Scanner_take_to := He.meth_ok (c.fact 14 (f := .meth ("Scanner" : Str) ("take_to" : Str)) rfl)
  meth_Scanner_row_end := He.meth_ok (c.fact 15 (f := .meth ("Scanner" : Str) ("row_end" : Str)) rfl)
  glo_LONG_SIGNS := He.glo_ok X G (c.fact 16 (f := .glo ("LONG_SIGNS" : Str)) rfl)
  glo_SHORT_SIGNS := He.glo_ok X G (c.fact 17 (f := .glo ("SHORT_SIGNS" : Str)) rfl)
  glo_BadCharacter := He.glo_ok X G (c.fact 18 (f := .glo ("BadCharacter" : Str)) rfl)
  meth_Scanner_word_end := He.meth_ok (c.fact 19 (f := .meth ("Scanner" : Str) ("word_end" : Str)) rfl)
  glo_word_kind := He.glo_ok X G (c.fact 20 (f := .glo ("word_kind" : Str)) rfl)
  glo_is_number := He.glo_ok X G (c.fact 21 (f := .glo ("is_number" : Str)) rfl)
  glo_BadNumber := He.glo_ok X G (c.fact 22 (f := .glo ("BadNumber" : Str)) rfl)
  meth_Scanner_take_sign := He.meth_ok (c.fact 23 (f := .meth ("Scanner" : Str) ("take_sign" : Str)) rfl)
  glo_Scanner := He.glo_ok X G (c.fact 24 (f := .glo ("Scanner" : Str)) rfl)
  mkr_Scanner := He.mkr_ok (c.fact 25 (f := .mkr ("Scanner" : Str)) rfl)
  meth_Scanner_skip_gaps := He.meth_ok (c.fact 26 (f := .meth ("Scanner" : Str) ("skip_gaps" : Str)) rfl)
  meth_Scanner_take_token := He.meth_ok (c.fact 27 (f := .meth ("Scanner" : Str) ("take_token" : Str)) rfl)
  cls_Cursor := He.cls_ok (c.fact 28 (f := .cls ("Cursor" : Str)) rfl)
  meth_Cursor_word := He.meth_ok (c.fact 29 (f := .meth ("Cursor" : Str) ("word" : Str)) rfl)
  glo_Unexpected := He.glo_ok X G (c.fact 30 (f := .glo ("Unexpected" : Str)) rfl)
  meth_Cursor_took := He.meth_ok (c.fact 31 (f := .meth ("Cursor" : Str) ("took" : Str)) rfl)
  meth_Cursor_refuse := He.meth_ok (c.fact 32 (f := .meth ("Cursor" : Str) ("refuse" : Str)) rfl)
  meth_Cursor_kind := He.meth_ok (c.fact 33 (f := .meth ("Cursor" : Str) ("kind" : Str)) rfl)
  meth_Cursor_take := He.meth_ok (c.fact 34 (f := .meth ("Cursor" : Str) ("take" : Str)) rfl)
  glo_tokens := He.glo_ok X G (c.fact 35 (f := .glo ("tokens" : Str)) rfl)
  meth_Cursor_take_name := He.meth_ok (c.fact 36 (f := .meth ("Cursor" : Str) ("take_name" : Str)) rfl)
  meth_Cursor_want := He.meth_ok (c.fact 37 (f := .meth ("Cursor" : Str) ("want" : Str)) rfl)
  glo_parse_postfix := He.glo_ok X G (c.fact 38 (f := .glo ("parse_postfix" : Str)) rfl)
  int_COMPARISON := He.int_ok X G (c.fact 39 (f := .int ("COMPARISON" : Str) 1) rfl)
  glo_parse_operators := He.glo_ok X G (c.fact 40 (f := .glo ("parse_operators" : Str)) rfl)
  glo_LEVELS := He.glo_ok X G (c.fact 41 (f := .glo ("LEVELS" : Str)) rfl)
  glo_parse_primary := He.glo_ok X G (c.fact 42 (f := .glo ("parse_primary" : Str)) rfl)
  glo_has_own_dot := He.glo_ok X G (c.fact 43 (f := .glo ("has_own_dot" : Str)) rfl)
  glo_parse_whole := He.glo_ok X G (c.fact 44 (f := .glo ("parse_whole" : Str)) rfl)
  glo_parse_row := He.glo_ok X G (c.fact 45 (f := .glo ("parse_row" : Str)) rfl)
  glo_CONSTANTS := He.glo_ok X G (c.fact 46 (f := .glo ("CONSTANTS" : Str)) rfl)
  glo_parse_slots := He.glo_ok X G (c.fact 47 (f := .glo ("parse_slots" : Str)) rfl)
  glo_parse_name := He.glo_ok X G (c.fact 48 (f := .glo ("parse_name" : Str)) rfl)
  glo_parse_body := He.glo_ok X G (c.fact 49 (f := .glo ("parse_body" : Str)) rfl)
  free_tuple := He.free_ok X G (c.fact 50 (f := .free ("tuple" : Str)) rfl)
  glo_parse_slot := He.glo_ok X G (c.fact 51 (f := .glo ("parse_slot" : Str)) rfl)
  glo_parse_method := He.glo_ok X G (c.fact 52 (f := .glo ("parse_method" : Str)) rfl)
  glo_AIMS := He.glo_ok X G (c.fact 53 (f := .glo ("AIMS" : Str)) rfl)
  glo_parse_aim := He.glo_ok X G (c.fact 54 (f := .glo ("parse_aim" : Str)) rfl)
  glo_parse_ended := He.glo_ok X G (c.fact 55 (f := .glo ("parse_ended" : Str)) rfl)
  glo_parse_statement := He.glo_ok X G (c.fact 56 (f := .glo ("parse_statement" : Str)) rfl)
  glo_STATEMENTS := He.glo_ok X G (c.fact 57 (f := .glo ("STATEMENTS" : Str)) rfl)
  glo_parse_set := He.glo_ok X G (c.fact 58 (f := .glo ("parse_set" : Str)) rfl)
  glo_parse_assign := He.glo_ok X G (c.fact 59 (f := .glo ("parse_assign" : Str)) rfl)
  glo__law_group := He.glo_ok X G (c.fact 60 (f := .glo ("_law_group" : Str)) rfl)
  glo_Cursor := He.glo_ok X G (c.fact 61 (f := .glo ("Cursor" : Str)) rfl)
  mkr_Cursor := He.mkr_ok (c.fact 62 (f := .mkr ("Cursor" : Str)) rfl)
  meth_Cursor_want_end := He.meth_ok (c.fact 63 (f := .meth ("Cursor" : Str) ("want_end" : Str)) rfl)
  glo__law_pick := He.glo_ok X G (c.fact 64 (f := .glo ("_law_pick" : Str)) rfl)
  free_str := He.free_ok X G (c.fact 65 (f := .free ("str" : Str)) rfl)
  glo_parse_expr := He.glo_ok X G (c.fact 66 (f := .glo ("parse_expr" : Str)) rfl)
  noat_Unexpected_row := He.noat_ok (c.fact 67 (f := .noat ("Unexpected" : Str) ("row" : Str)) rfl)
  noat_Unexpected_column := He.noat_ok (c.fact 68 (f := .noat ("Unexpected" : Str) ("column" : Str)) rfl)
  glo__law_operand := He.glo_ok X G (c.fact 69 (f := .glo ("_law_operand" : Str)) rfl)
  glo__law_sign := He.glo_ok X G (c.fact 70 (f := .glo ("_law_sign" : Str)) rfl)
  glo__law_told := He.glo_ok X G (c.fact 71 (f := .glo ("_law_told" : Str)) rfl)
  glo__law_stream := He.glo_ok X G (c.fact 72 (f := .glo ("_law_stream" : Str)) rfl)
  glo__law_one := He.glo_ok X G (c.fact 73 (f := .glo ("_law_one" : Str)) rfl)
  glo_law := He.glo_ok X G (c.fact 74 (f := .glo ("law" : Str)) rfl)
  noat_Scanner_text := He.noat_ok (c.fact 75 (f := .noat ("Scanner" : Str) ("text" : Str)) rfl)
  noat_Scanner_at := He.noat_ok (c.fact 76 (f := .noat ("Scanner" : Str) ("at" : Str)) rfl)
  noat_Scanner_row := He.noat_ok (c.fact 77 (f := .noat ("Scanner" : Str) ("row" : Str)) rfl)
  noat_Scanner_column := He.noat_ok (c.fact 78 (f := .noat ("Scanner" : Str) ("column" : Str)) rfl)
  noat_Cursor_found := He.noat_ok (c.fact 79 (f := .noat ("Cursor" : Str) ("found" : Str)) rfl)
  noat_Cursor_at := He.noat_ok (c.fact 80 (f := .noat ("Cursor" : Str) ("at" : Str)) rfl)
  glo_parse_let := He.glo_ok X G (c.fact 81 (f := .glo ("parse_let" : Str)) rfl)
  glo_parse_print := He.glo_ok X G (c.fact 82 (f := .glo ("parse_print" : Str)) rfl)
  glo_parse_return := He.glo_ok X G (c.fact 83 (f := .glo ("parse_return" : Str)) rfl)
  glo_parse_if := He.glo_ok X G (c.fact 84 (f := .glo ("parse_if" : Str)) rfl)
  glo_parse_while := He.glo_ok X G (c.fact 85 (f := .glo ("parse_while" : Str)) rfl)
  glo_parse_put := He.glo_ok X G (c.fact 86 (f := .glo ("parse_put" : Str)) rfl)
  glo_parse_drop := He.glo_ok X G (c.fact 87 (f := .glo ("parse_drop" : Str)) rfl)
  d_l_mix := c.def_ 0 rfl
  d_l_pick := c.def_ 1 rfl
  d_l_stream := c.def_ 2 rfl
  d_is_letter := c.def_ 3 rfl
  d_is_word_part := c.def_ 4 rfl
  d_is_number := c.def_ 5 rfl
  d_word_kind := c.def_ 6 rfl
  d_Scanner_init := c.def_ 7 rfl
  d_Scanner_is_done := c.def_ 8 rfl
  d_Scanner_skip_newline := c.def_ 9 rfl
  d_Scanner_row_end := c.def_ 10 rfl
  d_Scanner_word_end := c.def_ 11 rfl
  d_Scanner_take_to := c.def_ 12 rfl
  d_Scanner_skip_gaps := c.def_ 13 rfl
  d_Scanner_take_sign := c.def_ 14 rfl
  d_Scanner_take_token := c.def_ 15 rfl
  d_tokens := c.def_ 16 rfl
  d_Cursor_kind := c.def_ 17 rfl
  d_Cursor_word := c.def_ 18 rfl
  d_Cursor_take := c.def_ 19 rfl
  d_Cursor_took := c.def_ 20 rfl
  d_Cursor_refuse := c.def_ 21 rfl
  d_Cursor_want := c.def_ 22 rfl
  d_Cursor_take_name := c.def_ 23 rfl
  d_Cursor_want_end := c.def_ 24 rfl
  d_Cursor_init := c.def_ 25 rfl
  d_parse_name := c.def_ 26 rfl
  d_parse_aim := c.def_ 27 rfl
  d_has_own_dot := c.def_ 28 rfl
  d_parse_whole := c.def_ 29 rfl
  d_parse_operators := c.def_ 30 rfl
  d_parse_postfix := c.def_ 31 rfl
  d_parse_primary := c.def_ 32 rfl
  d_parse_row := c.def_ 33 rfl
  d_parse_slots := c.def_ 34 rfl
  d_parse_slot := c.def_ 35 rfl
  d_parse_method := c.def_ 36 rfl
  d_parse_body := c.def_ 37 rfl
  d_parse_statement := c.def_ 38 rfl
  d_parse_ended := c.def_ 39 rfl
  d_parse_set := c.def_ 40 rfl
  d_parse_assign := c.def_ 41 rfl
  d_parse_let := c.def_ 42 rfl
  d_parse_print := c.def_ 43 rfl
  d_parse_return := c.def_ 44 rfl
  d_parse_if := c.def_ 45 rfl
  d_parse_while := c.def_ 46 rfl
  d_parse_put := c.def_ 47 rfl
  d_parse_drop := c.def_ 48 rfl
  d_l_group := c.def_ 49 rfl
  d_parse_expr := c.def_ 50 rfl
  d_l_operand := c.def_ 51 rfl
  d_l_sign := c.def_ 52 rfl
  d_l_told := c.def_ 53 rfl
  d_l_one := c.def_ 54 rfl
  d_law := c.def_ 55 rfl
  kw := fun H => tupS_ok (allOf_at c.more 0 rfl) H
  lg := fun H => tupS_ok (allOf_at c.more 1 rfl) H
  sh := fun H => tupS_ok (allOf_at c.more 2 rfl) H
  aims := fun H => tupS_ok (allOf_at c.more 3 rfl) H
  consts := fun H => tupS_ok (allOf_at c.more 4 rfl) H
  err_BadCharacter := errB_ok (st := s_te) (allOf_at c.more 5 rfl) (c.cel 0 rfl) te_is pt pf
  err_BadNumber := errB_ok (st := s_te) (allOf_at c.more 6 rfl) (c.cel 1 rfl) te_is pt pf
  err_Unexpected := errB_ok (st := s_te) (allOf_at c.more 7 rfl) (c.cel 2 rfl) te_is pt pf
  exc_Unexpected := excB_ok (allOf_at c.more 8 rfl)
  exm_Unexpected_Unexpected := of_decide_eq_true (allOf_at c.more 9 rfl)
  dic_LEVELS := dicB_ok (allOf_at c.more 10 rfl) (c.dic 0 rfl)
  dic_STATEMENTS := dicB_ok (allOf_at c.more 11 rfl) (c.dic 1 rfl)
abbrev R : PySem.W.OpenRow := PySem.W.OpenLaw.row PySem.Challenge.rw_reaimed_k06_rows_of_operators
abbrev hk : PySem.W.Hook := hookG 4 fa fn ce dc ex
def ob (s : PySem.W.SharedT) : AlG := obsGG 4 fa fn ce dc ex (HandSHeadRun.getT s)
theorem ob_eq (s : PySem.W.SharedT) : ob s = hk.obs s.abs := obsGG_eq (HandSHeadRun.getT_eq s)
def names : List PySem.Str := [("AimError" : Str), ("TextError" : Str), ("BadCharacter" : Str), ("BadNumber" : Str), ("Unexpected" : Str), ("KEYWORDS" : Str), ("LONG_SIGNS" : Str), ("SHORT_SIGNS" : Str), ("DIGITS" : Str), ("LARGEST" : Str), ("MOST_DIGITS" : Str), ("tokens" : Str), ("is_letter" : Str), ("is_word_part" : Str), ("is_number" : Str), ("word_kind" : Str), ("Scanner" : Str), ("Cursor" : Str), ("COMPARISON" : Str), ("LEVELS" : Str), ("CONSTANTS" : Str), ("AIMS" : Str), ("parse_expr" : Str), ("parse_method" : Str), ("parse_row" : Str), ("parse_name" : Str), ("parse_slots" : Str), ("parse_slot" : Str), ("parse_aim" : Str), ("parse_body" : Str), ("parse_statement" : Str), ("parse_set" : Str), ("parse_assign" : Str), ("parse_let" : Str), ("parse_print" : Str), ("parse_return" : Str), ("parse_if" : Str), ("parse_while" : Str), ("parse_put" : Str), ("parse_drop" : Str), ("parse_ended" : Str), ("parse_whole" : Str), ("parse_operators" : Str), ("parse_postfix" : Str), ("has_own_dot" : Str), ("parse_primary" : Str), ("STATEMENTS" : Str), ("_law_mix" : Str), ("_law_stream" : Str), ("_law_pick" : Str), ("_law_operand" : Str), ("_law_sign" : Str), ("_law_group" : Str), ("_law_told" : Str), ("_law_one" : Str)]
theorem run (w : World) : HandSHeadRun.RunEq R (PySem.W.view R.prog [60]) hk ob 16000 names w := PySem.W.byRow2 "special-get-raises" (P := fun w => HandSHeadRun.RunEq R (PySem.W.view R.prog [60]) hk ob 16000 names w) (fun w _ => by kernel_rfl) (fun w _ => by kernel_rfl) w
theorem facts {P : Program} {w : World} {K : PySem.W.Frag} {h : Heap} {mg : Str → Option Value} {f : Addr} (X : K.In h) (G : h.Ns mainGlobals mg) (hfa : mg ("law" : Str) = some (.ref f)) (c : SaysG fa fn ce dc ex w K) (pt : (P.main.scope.names.lookup ("super" : Str)).isSome = false) (pf : ((P.main.file : Str) == "/claim/cut.py") = true) :
    ∃ fd : FuncData, (∀ (s : Shared) (v : Value), BindsTo s fd ⟨[v], []⟩ [("script", v)]) ∧ ∀ base : Heap, K.In base → base.Ns mainGlobals mg → FnOk P w K mg base (L2.CX P w) 69 f fd ["script"] (sp_law K) := by
  have T : Txt P w K mg := txt_mk X G c pt pf
  obtain ⟨fd, F⟩ := T.d_law
  have e := hfa.symm.trans (He.glo_ok X G (c.fact 74 (f := .glo "law") rfl))
  cases e
  have b := FunD.bindsA (ps := ["script"]) F fun _ _ _ _ _ _ us hl => match us, hl with | [_], _ => rfl
  refine ⟨fd, fun s v => b s [v] rfl, fun base _ _ => ?_⟩
  exact (ok_law (P := P) (w := w) (base := base) T F).fn
end Rm.K6.W06
open PySem PySem.W PySem.Calls PyProof.Rows
theorem PySem.Challenge.cw_reaimed_k06_rows_of_operators_holds : PySem.Challenge.rw_reaimed_k06_rows_of_operators.Holds := by
  w_on
  o_law
  refine HandSHeadRun.head_any (r := OpenLaw.row PySem.Challenge.rw_reaimed_k06_rows_of_operators) (q := view (OpenLaw.row PySem.Challenge.rw_reaimed_k06_rows_of_operators).prog [60]) (H := Rm.K6.W06.hk) (ob := Rm.K6.W06.ob) (M := 16000)
    (loose := Rm.K6.W06.names) (d := HandSHeadRun.topDef (OpenLaw.row PySem.Challenge.rw_reaimed_k06_rows_of_operators).prog 60) (kwd := []) Rm.K6.W06.ob_eq (by kernel_rfl) (fun _ => by kernel_rfl) Rm.K6.W06.run
    (by kernel_rfl) (by kernel_rfl) (by kernel_rfl) (by rfl) (by first | assumption | decide +kernel) (by decide +kernel) ⟨rfl, rfl, rfl, rfl, rfl, by decide +kernel⟩ ?hw ?hc
  case hw => w_witness2
  case hc =>
    refine Rm.walk_law (l := PySem.Challenge.rw_reaimed_k06_rows_of_operators) (n := 63) (k := 69) (x := "script") rfl (by decide) (by kernel_rfl) ⟨rfl, by decide, by decide⟩ fun w mg fa h Y G hmg0 => ?_
    obtain ⟨K, KX, c⟩ := Y
    have hmg : mg ("law" : PySem.Str) = some (.ref fa) := by
      have e : (HandSHeadRun.topDef (OpenLaw.row PySem.Challenge.rw_reaimed_k06_rows_of_operators).prog 60).name = ("law" : PySem.Str) := by kernel_rfl
      rw [← e]
      exact hmg0
    obtain ⟨fd, hb, hF⟩ := Rm.K6.W06.facts (P := (PySem.Challenge.rw_reaimed_k06_rows_of_operators).prog) (w := w) KX G hmg c (by kernel_rfl) (by kernel_rfl)
    exact ⟨K, fd, _, KX, hb, fun H a ns hl _ hS => ⟨a, ns, rfl, hS, hl, fun _ => rfl⟩, hF⟩
