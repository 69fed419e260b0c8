import PyProof.Rows.All
import Wide.All
import OpenK.AllK
import Wide.FinOn
import HandS.ForMost
import HandS.More
import HandS.StrMore
import HandS.IsInst
import HandS.Exc
import HandS.ExcOwn
import HandS.ExcInit
import HandS.TryOnly
import HandS.Defaults
import HandS.LawCells
import HandS.TupAny
import HandS.WordsExc
import HandS.Head0
import HandS.Head1
import HandS.Head2
import HandS.HeadEnd
import HandS.HeadHook1
import HandS.HeadHook2
import KE.KExcSuper
import HandS.FStr
import HandS.HeadWalk
import HandS.ExcField
import HandS.ExcIs
import HandS.TryMany
import KE.KExcIs
import HandS.CallLocal
import PySem.Challenge.RW_reaimed_k01_texts_with_a_bad_place
set_option Elab.async false
set_option linter.all false
set_option maxRecDepth 100000
set_option maxHeartbeats 4000000
/-! B0: readings by short names; a def that keeps a promise; the law's draws. -/
namespace Rm
open PySem PySem.Spec PyProof.Rows L2
/-! ### readings of operations, by short names -/
abbrev rAddI : R2 := rI0 fun i j => .int (i + j)
abbrev rSubI : R2 := rI0 fun i j => .int (i - j)
abbrev rMulI : R2 := rI CMul fun i j => .int (i * j)
abbrev rFdivI : R2 := rI CDiv fun i j => .int (i / j)
abbrev rModI : R2 := rI (fun _ j => 0 < j) fun i j => .int (i % j)
abbrev rPowI : R2 := rI CPow fun i j => .int (i ^ j.toNat)
abbrev rLtI : R2 := rI0 fun i j => .bl (decide (i < j))
abbrev rLeI : R2 := rI0 fun i j => .bl (decide (i ≤ j))
abbrev rGtI : R2 := rI0 fun i j => .bl (decide (j < i))
abbrev rGeI : R2 := rI0 fun i j => .bl (decide (j ≤ i))
abbrev rNegI : V → Hp → VK → Prop := rU fun i => .int (-i)
def rInS : R2 := fun x y H Q => ∃ i j, x = .str i ∧ y = .str j ∧ Q (.bl (!(Builtin.Str.occurrences j i 0 j.length 1).isEmpty)) H
def rNotInS : R2 := fun x y H Q => ∃ i j, x = .str i ∧ y = .str j ∧ Q (.bl (!(!(Builtin.Str.occurrences j i 0 j.length 1).isEmpty))) H
def rInSign : R2 := fun x y H Q => ∃ (c : Nat) (z : Str), x = .str ⟨#[c]⟩ ∧ y = .str z ∧ Q (.bl (decide (c ∈ z.cps.toList))) H
def rNotInSign : R2 := fun x y H Q => ∃ (c : Nat) (z : Str), x = .str ⟨#[c]⟩ ∧ y = .str z ∧ Q (.bl (!decide (c ∈ z.cps.toList))) H
def rIsN : R2 := fun x y H Q => y = .non ∧ Q (.bl (decide (x = .non))) H
def rNotN : R2 := fun x y H Q => y = .non ∧ Q (.bl (!decide (x = .non))) H
abbrev RM := V → List V → Hp → VK → Prop
abbrev RC := List V → Hp → VK → Prop
def rIsascii : RM := fun x xs H Q => ∃ a, x = .str a ∧ xs = [] ∧ True ∧ Q (.bl (Txt.isascii a)) H
def rIsalpha : RM := fun x xs H Q => ∃ a, x = .str a ∧ xs = [] ∧ True ∧ Q (.bl (Txt.isalpha a)) H
def rIsdigit : RM := fun x xs H Q => ∃ a, x = .str a ∧ xs = [] ∧ True ∧ Q (.bl (Txt.isdigit a)) H
def rCount : RM := fun x xs H Q => ∃ a b, x = .str a ∧ xs = [.str b] ∧ Q (.int (Txt.count a b)) H
def rRfind : RM := fun x xs H Q => ∃ a b, x = .str a ∧ xs = [.str b] ∧ Q (.int (Txt.rfind a b)) H
def rFind : RM := fun x xs H Q => ∃ a b, x = .str a ∧ xs = [.str b] ∧ Q (.int (Txt.find a b)) H
def rFind3 : RM := fun x xs H Q => ∃ (a b : Str) (i : Int), x = .str a ∧ xs = [.str b, .int i] ∧ Q (.int (Txt.find3 a b i)) H
def rStartswith : RM := fun x xs H Q => ∃ a b, x = .str a ∧ xs = [.str b] ∧ Q (.bl (Txt.startswith a b)) H
def rEndswith : RM := fun x xs H Q => ∃ a b, x = .str a ∧ xs = [.str b] ∧ Q (.bl (Txt.endswith a b)) H
def rIntS : RC := fun xs H Q => ∃ a n, xs = [.str a] ∧ PySem.intText? a = some n ∧ a.length ≤ 640 ∧ Q (.int n) H
def rInt1 : RC := fun xs H Q => (∃ i, xs = [.int i] ∧ Q (.int i) H) ∨ ∃ k, xs = [.bl k] ∧ Q (.int (if k then 1 else 0)) H
def rMin2 : RC := fun xs H Q => ∃ i j, xs = [.int i, .int j] ∧ Q (.int (if j < i then j else i)) H
def rMax2 : RC := fun xs H Q => ∃ i j, xs = [.int i, .int j] ∧ Q (.int (if j > i then j else i)) H
def rTupleOf (K : PySem.W.Frag) : RC := fun xs H Q => ∃ p ys, xs = [.ref p] ∧ ((SqL K H p ys ∧ ∀ l, H l = none → Q (.ref l) (upd H l (.tup ys))) ∨ (SqT K H p ys ∧ Q (.ref p) H))
def rLenD : RC := fun xs H Q => ∃ a kvs, xs = [V.ref a] ∧ H a = some (.dK kvs) ∧ Q (.int kvs.length) H
abbrev oNone : TO := tNoPart
abbrev oSome (t : TE) : TO := tPart t
/-! ### a def that keeps its promise -/
structure Def (P : Program) (w : World) (K : PySem.W.Frag) (mg : Str → Option Value) (base : Heap) (k : Nat) (f : Addr) (fd : FuncData) (ps : List Str) (sp : Sp) : Prop where
  fn : FnOk P w K mg base (L2.CX P w) k f fd ps sp
  bd : Binds K fd ps []
  kp : PySem.W.keepIn K (.ref f) = true
/-- what a callee may let out, at a caller that wishes the same -/
theorem passE {X : Cx} {E : XK} (tk : Takes X (fun cls d _ H => E cls d H)) : Passes (L2.CX X.prog X.w) X E := passes_call tk fun _ _ _ _ h => h
/-! ### the law's draws: {"row": a list of ints, "at": i, "seed": s} -/
abbrev kRow : Key := Sum.inr ("row" : Str)
abbrev kAt : Key := Sum.inr ("at" : Str)
abbrev kSeed : Key := Sum.inr ("seed" : Str)
def drK (r : Addr) (i s : Int) : List (Key × V) := [(kRow, .ref r), (kAt, .int i), (kSeed, .int s)]
theorem kRA : ¬ kRow = kAt := by decide +kernel
theorem kRS : ¬ kRow = kSeed := by decide +kernel
theorem kAS : ¬ kAt = kSeed := by decide +kernel
theorem kSA : ¬ kSeed = kAt := by decide +kernel
theorem drK_at (r : Addr) (i s : Int) : valV (drK r i s) kAt = some (.int i) := by
  unfold drK
  rw [valV_neg (p := (kRow, V.ref r)) kRA, valV_pos (p := (kAt, V.int i)) rfl]
theorem drK_row (r : Addr) (i s : Int) : valV (drK r i s) kRow = some (.ref r) := by
  unfold drK
  rw [valV_pos (p := (kRow, V.ref r)) rfl]
theorem drK_seed (r : Addr) (i s : Int) : valV (drK r i s) kSeed = some (.int s) := by
  unfold drK
  rw [valV_neg (p := (kRow, V.ref r)) kRS, valV_neg (p := (kAt, V.int i)) kAS, valV_pos (p := (kSeed, V.int s)) rfl]
theorem drK_put (r : Addr) (i j s : Int) : putK (drK r i s) kAt (.int j) = drK r j s := by
  unfold putK
  rw [valV_any, drK_at, if_pos (show (some (V.int i)).isSome = true from rfl)]
  unfold drK
  rw [List.map_cons, List.map_cons, List.map_cons, List.map_nil, if_neg kRA, if_pos rfl, if_neg kSA]
theorem drK_len (r : Addr) (i s : Int) : (drK r i s).length < sizeLine := by
  show 3 < sizeLine
  decide
theorem drK_merge (p : Addr) (i s : Int) : mergeK [] (drK p i s) = drK p i s := by
  have e1 : putK [] kRow (V.ref p) = [(kRow, V.ref p)] := putK_new _ rfl
  have e2 : putK [(kRow, V.ref p)] kAt (V.int i) = [(kRow, V.ref p), (kAt, V.int i)] := putK_new _ (by rw [valV_neg kRA] <;> rfl)
  have e3 : putK [(kRow, V.ref p), (kAt, V.int i)] kSeed (V.int s) = drK p i s := putK_new _ (by rw [valV_neg kRS, valV_neg kAS] <;> rfl)
  show putK (putK (putK [] kRow (V.ref p)) kAt (V.int i)) kSeed (V.int s) = _
  rw [e1, e2, e3]
section
variable {H : Hp} {d r : Addr} {i s : Int}
theorem dget_at (h : H d = some (.dK (drK r i s))) : DGet H d (.str ("at" : Str)) (some (.int i)) := .inl ⟨_, kAt, .inl h, rfl, (drK_at r i s).symm⟩
theorem dget_row (h : H d = some (.dK (drK r i s))) : DGet H d (.str ("row" : Str)) (some (.ref r)) := .inl ⟨_, kRow, .inl h, rfl, (drK_row r i s).symm⟩
theorem dget_seed (h : H d = some (.dK (drK r i s))) : DGet H d (.str ("seed" : Str)) (some (.int s)) := .inl ⟨_, kSeed, .inl h, rfl, (drK_seed r i s).symm⟩
theorem dput_at (h : H d = some (.dK (drK r i s))) (j : Int) : DPut H d (.str ("at" : Str)) (.int j) (upd H d (.dK (drK r j s))) := .inl ⟨_, kAt, h, rfl, drK_len r i s, by rw [drK_put]⟩
end
/-- at d: draws, their row at r -/
def Draws (H : Hp) (d r : Addr) : Prop := ∃ (i s : Int) (ns : List Int), H d = some (.dK (drK r i s)) ∧ H r = some (.lst (ns.map V.int)) ∧ 0 ≤ i
theorem Draws.atD {H : Hp} {d r : Addr} (h : Draws H d r) : ∃ o, H d = some o := let ⟨_, _, _, h, _⟩ := h; ⟨_, h⟩
theorem Draws.atR {H : Hp} {d r : Addr} (h : Draws H d r) : ∃ o, H r = some o := let ⟨_, _, _, _, h, _⟩ := h; ⟨_, h⟩
theorem Draws.ne {H : Hp} {d r : Addr} (h : Draws H d r) : r ≠ d := by
  obtain ⟨i, s, ns, h1, h2, _⟩ := h
  exact ne_of h2 h1 (by intro z; cases z)
theorem Draws.neD {H : Hp} {d r a : Addr} (h : Draws H d r) (n : H a = none) : d ≠ a := let ⟨_, e⟩ := h.atD; ne_of_none e n
theorem Draws.neR {H : Hp} {d r a : Addr} (h : Draws H d r) (n : H a = none) : r ≠ a := let ⟨_, e⟩ := h.atR; ne_of_none e n
theorem same_upd {H : Hp} {a : Addr} {o : HO} (n : H a = none) : Same H (upd H a o) := fun b u e => by
  rw [upd_ne (ne_of_none e n)]
  exact e
theorem Draws.same {H H' : Hp} {d r : Addr} (h : Draws H d r) (s : Same H H') : Draws H' d r := by
  obtain ⟨i, z, ns, h1, h2, h3⟩ := h
  exact ⟨i, z, ns, s _ _ h1, s _ _ h2, h3⟩
theorem Draws.keep {H H' : Hp} {d r : Addr} (h : Draws H d r) (s : ∀ b, (b = d ∨ b = r) → H' b = H b) : Draws H' d r := by
  obtain ⟨i, z, ns, h1, h2, h3⟩ := h
  exact ⟨i, z, ns, (s _ (.inl rfl)).trans h1, (s _ (.inr rfl)).trans h2, h3⟩
theorem Draws.fresh {H : Hp} {d r a : Addr} {o : HO} (h : Draws H d r) (n : H a = none) : Draws (upd H a o) d r := h.same (same_upd n)
theorem Draws.other {H : Hp} {d r a : Addr} {o : HO} (h : Draws H d r) (hd : a ≠ d) (hr : a ≠ r) : Draws (upd H a o) d r := h.keep fun b e => by
  rcases e with rfl | rfl
  · exact upd_ne (Ne.symm hd)
  · exact upd_ne (Ne.symm hr)
/-- the draws may have moved, nothing else has changed -/
def Moved (d : Addr) (H H' : Hp) : Prop := ∀ b, b ≠ d → H' b = H b
theorem Moved.refl (d : Addr) (H : Hp) : Moved d H H := fun _ _ => rfl
theorem Moved.trans {d : Addr} {H H1 H2 : Hp} (a : Moved d H H1) (b : Moved d H1 H2) : Moved d H H2 := fun c n => (b c n).trans (a c n)
/-! ### promises -/
def sp_l_mix (K : PySem.W.Frag) : Sp := fun vs H Q _ => ∃ (c k : Int), vs = [.int c, .int k] ∧ ∀ z : Int, Q (.int z) H
def sp_l_pick (K : PySem.W.Frag) : Sp := fun vs H Q _ => ∃ (d : Addr) (m : Int), vs = [.ref d, .int m] ∧ 0 < m ∧ ∃ r, Draws H d r ∧ ∀ (j : Int) (H' : Hp), 0 ≤ j → j < m → Draws H' d r → Moved d H H' → Q (.int j) H'
def sp_l_stream (K : PySem.W.Frag) : Sp := fun vs H Q _ => ∃ (a : Addr) (ns : List Int) (m : Int), vs = [.ref a, .int m] ∧ SqL K H a (ns.map V.int) ∧ ns.length ≤ 63 ∧ 0 ≤ m ∧ m ≤ 10000 ∧
  ∀ (d : Addr) (H' : Hp) (r : Addr) (s : Int) (rs : List Int), Same H H' → H d = none → H' d = some (.dK (drK r 0 s)) → H' r = some (.lst (rs.map V.int)) → r ≠ d → rs.length ≤ 3780 → (rs.length : Int) ≤ m → Q (.ref d) H'
abbrev DQ (Q : VK) : Ends := { nx := fun _ H' => Q .non H', rt := Q }
theorem lk_ne {a b : Str} {v : V} {r : List (Str × V)} (h : ¬ a = b) : List.lookup a ((b, v) :: r) = List.lookup a r := by
  have e : (a == b) = false := by simpa using h
  simp only [List.lookup, e]
theorem lk_eq {a : Str} {v : V} {r : List (Str × V)} : List.lookup a ((a, v) :: r) = some v := by simp [List.lookup]
theorem pf_ne {a b : Str} {v w : V} {r : List (Str × V)} (h : ¬ b = a) : putF a v ((b, w) :: r) = (b, w) :: putF a v r := by
  show (if b = a then (b, v) :: r else (b, w) :: putF a v r) = _
  rw [if_neg h]
theorem pf_eq {a : Str} {v w : V} {r : List (Str × V)} : putF a v ((a, w) :: r) = (a, v) :: r := by
  show (if a = a then (a, v) :: r else (a, w) :: putF a v r) = _
  rw [if_pos rfl]
theorem pf_nil {a : Str} {v : V} : putF a v [] = [(a, v)] := rfl
end Rm

/-! B1: the law's draws: readings (by gen.py) and that they keep their promises. -/
namespace Rm
open PySem PySem.Spec PyProof.Rows L2

def t_l_mix (K : PySem.W.Frag) (E : XK) : TS :=
  (tSeq (tAsg (tOp rModI (tCB rInt1 (tCons (tOp rAddI (tOp rAddI (tOp rMulI (tVar 0) (tC (.int 48271))) (tOp rMulI (tVar 1) (tC (.int 69621)))) (tC (.int 11))) tNil)) (tC (.int 2147483647))) (gName 2))
    (tRet (tOp rModI (tOp rModI (tCB rInt1 (tCons (tOp rAddI (tOp rAddI (tOp rAddI (tOp rMulI (tVar 2) (tVar 2)) (tOp rMulI (tVar 0) (tC (.int 40692)))) (tOp rMulI (tVar 1) (tC (.int 7)))) (tC (.int 3))) tNil)) (tC (.int 1000003))) (tC (.int 1000)))))
def ns_l_mix : List Str := ["cell", "k", "low"]

def t_l_pick (K : PySem.W.Frag) (E : XK) : TS :=
  (tSeq (tAsg (tDGet (tVar 0) (tC (.str ("at" : Str)))) (gName 2))
    (tSeq (sDPut (tVar 0) (tC (.str ("at" : Str))) (tOp rAddI (tVar 2) (tC (.int 1))))
    (tSeq (tAsg (tCall (sp_l_mix K) [] E (tCons (tDGet (tVar 0) (tC (.str ("seed" : Str)))) (tCons (tVar 2) tNil))) (gName 3))
    (tSeq (tIfS (tTest (tOp rLtI (tVar 2) (tCB (rLen K) (tCons (tDGet (tVar 0) (tC (.str ("row" : Str)))) tNil))))
      (tAsg (tOp (rIxL K) (tDGet (tVar 0) (tC (.str ("row" : Str)))) (tVar 2)) (gName 3))
      tNext)
    (tRet (tOp rModI (tCB rInt1 (tCons (tVar 3) tNil)) (tVar 1)))))))
def ns_l_pick : List Str := ["draws", "many", "at", "number"]

def t_l_stream (K : PySem.W.Frag) (E : XK) : TS :=
  (tSeq (tAsg (tLst tNil) (gName 2))
    (tSeq (tFor (iRng1 (tCons (tCB rMin2 (tCons (tCB (rLen K) (tCons (tVar 0) tNil)) (tCons (tC (.int 63)) tNil))) tNil)) (gName 3)
      (tSeq (tAsg (tOp (rIxL K) (tVar 0) (tVar 3)) (gName 4))
    (tIfS (tTest (tOp rGeI (tVar 4) (tOp rPowI (tC (.int 10)) (tC (.int 18)))))
      (tFor (iRng1 (tCons (tC (.int 60)) tNil)) (gName 5)
      (tIfS (tAnd (tTest (tOp rGtI (tVar 4) (tC (.int 0)))) (tTest (tOp rLtI (tCB (rLen K) (tCons (tVar 2) tNil)) (tVar 1))))
      (tSeq (tDrop (tBM K "list" rAppend (tVar 2) (tCons (tOp rModI (tCB rInt1 (tCons (tVar 4) tNil)) (tC (.int 1000))) tNil)))
    (tAsg (tOp rFdivI (tVar 4) (tC (.int 1000))) (gName 4)))
      tNext))
      (tFor (iRng1 (tCons (tC (.int 3)) tNil)) (gName 5)
      (tIfS (tTest (tOp rLtI (tCB (rLen K) (tCons (tVar 2) tNil)) (tVar 1)))
      (tDrop (tBM K "list" rAppend (tVar 2) (tCons (tCall (sp_l_mix K) [] E (tCons (tVar 4) (tCons (tOp rAddI (tOp rMulI (tC (.int 64)) (tVar 5)) (tVar 3)) tNil))) tNil)))
      tNext)))))
    (tRet (tDisp [((tC (.str ("row" : Str))), (tVar 2)), ((tC (.str ("at" : Str))), (tC (.int 0))), ((tC (.str ("seed" : Str))), (tCB (rLen K) (tCons (tVar 2) tNil)))]))))
def ns_l_stream : List Str := ["script", "most", "row", "k", "rest", "j"]


theorem run_l_mix {K : PySem.W.Frag} {vs : List V} {H : Hp} {Q : VK} {E : XK} (h : sp_l_mix K vs H Q E) : t_l_mix K E { nx := fun _ H' => Q .non H', rt := Q } (start ns_l_mix vs) H := by
  obtain ⟨c, k, rfl, q⟩ := h
  refine ⟨_, rfl, _, _, rfl, rfl, .inr (by decide), _, rfl, _, _, rfl, rfl, .inr (by decide), _, _, rfl, rfl, _, _, rfl, rfl, .inl ⟨_, rfl, ?_⟩⟩
  refine ⟨_, _, rfl, rfl, (by show (0 : Int) < 2147483647; decide), ?_⟩
  have b1 : 0 ≤ (c * 48271 + k * 69621 + 11) % 2147483647 := Int.emod_nonneg _ (by decide)
  have b2 : (c * 48271 + k * 69621 + 11) % 2147483647 < 2147483647 := Int.emod_lt_of_pos _ (by decide)
  refine ⟨_, rfl, _, rfl, _, _, rfl, rfl, .inl ⟨by omega, by omega⟩, _, rfl, _, _, rfl, rfl, .inr (by decide), _, _, rfl, rfl, _, rfl, _, _, rfl, rfl, .inr (by decide), _, _, rfl, rfl, _, _, rfl, rfl, .inl ⟨_, rfl, ?_⟩⟩
  exact ⟨_, _, rfl, rfl, (by show (0 : Int) < 1000003; decide), _, _, rfl, rfl, (by show (0 : Int) < 1000; decide), q _⟩
theorem run_l_pick {K : PySem.W.Frag} {vs : List V} {H : Hp} {Q : VK} {E : XK} (h : sp_l_pick K vs H Q E) : t_l_pick K E { nx := fun _ H' => Q .non H', rt := Q } (start ns_l_pick vs) H := by
  obtain ⟨d, m, rfl, hm, r, hD, q⟩ := h
  obtain ⟨i, s, ns, h1, h2, h3⟩ := id hD
  have nrd : r ≠ d := hD.ne
  -- at = draws["at"]
  refine ⟨_, rfl, d, _, rfl, dget_at h1, ?_⟩
  -- draws["at"] = at + 1
  refine ⟨_, rfl, _, _, rfl, rfl, _, rfl, d, _, rfl, dput_at h1 _, ?_⟩
  have h1' : (upd H d (.dK (drK r (i + 1) s))) d = some (.dK (drK r (i + 1) s)) := upd_same
  have h2' : (upd H d (.dK (drK r (i + 1) s))) r = some (.lst (ns.map V.int)) := by rw [upd_ne nrd]; exact h2
  have D' : Draws (upd H d (.dK (drK r (i + 1) s))) d r := ⟨i + 1, s, ns, h1', h2', by omega⟩
  have M' : Moved d H (upd H d (.dK (drK r (i + 1) s))) := fun b n => upd_ne n
  have fin : ∀ z : Int, Q (.int (z % m)) (upd H d (.dK (drK r (i + 1) s))) := fun z => q _ _ (Int.emod_nonneg _ (by omega)) (Int.emod_lt_of_pos _ hm) D' M'
  -- number = mix(draws["seed"], at)
  refine ⟨_, rfl, d, _, rfl, dget_seed h1', _, rfl, _, _, rfl, fun z => ?_⟩
  -- if at < len(draws["row"])
  refine ⟨_, rfl, _, rfl, d, _, rfl, dget_row h1', _, _, rfl, .inl ⟨_, SqL.of h2', rfl⟩, _, _, rfl, rfl, _, rfl, ?_⟩
  by_cases c : i < ((ns.map V.int).length : Int)
  · rw [decide_eq_true c]
    refine iteT ?_
    rw [List.length_map] at c
    obtain ⟨n, rfl⟩ : ∃ n : Nat, i = (n : Int) := ⟨i.toNat, by omega⟩
    have hn : n < ns.length := by omega
    refine ⟨_, rfl, d, _, rfl, dget_row h1', _, rfl, r, ns.map V.int, (n : Int), .int ns[n], rfl, rfl, SqL.of h2', atI_nat (by rw [List.getElem?_map, List.getElem?_eq_getElem hn]; rfl), ?_⟩
    exact ⟨_, rfl, .inl ⟨_, rfl, _, rfl, _, _, rfl, rfl, hm, fin _⟩⟩
  · rw [decide_eq_false c]
    refine iteF ?_
    exact ⟨_, rfl, .inl ⟨_, rfl, _, rfl, _, _, rfl, rfl, hm, fin _⟩⟩
theorem map_snoc (rs : List Int) (z : Int) : rs.map V.int ++ [V.int z] = (rs ++ [z]).map V.int := by
  rw [List.map_append]
  rfl
theorem run_l_stream {K : PySem.W.Frag} {vs : List V} {H : Hp} {Q : VK} {E : XK} (h : sp_l_stream K vs H Q E) : t_l_stream K E { nx := fun _ H' => Q .non H', rt := Q } (start ns_l_stream vs) H := by
  obtain ⟨a, ns, m, rfl, hS, hl, hm0, hm, q⟩ := h
  refine ⟨(by show 0 ≤ sizeLine; decide), fun p np => ?_⟩
  refine ⟨_, rfl, _, _, rfl, .inl ⟨_, (same_upd np).seq hS, rfl⟩, _, _, rfl, ?_⟩
  have e0 : (if (63 : Int) < ((ns.map V.int).length : Int) then (63 : Int) else ((ns.map V.int).length : Int)) = (ns.length : Int) := by
    rw [List.length_map, if_neg (by omega)]
  rw [e0]
  refine ⟨(ns.length : Int), rfl, by omega, by omega, ?_⟩
  rw [Int.toNat_natCast]
  refine for_range (lo := 0) (n := ns.length) (fun i σ H2 => ∃ (rs : List Int) (kv rv jv : Option V), σ = [some (.ref a), some (.int m), some (.ref p), kv, rv, jv] ∧ Same H H2 ∧ H2 p = some (.lst (rs.map V.int)) ∧ rs.length ≤ 60 * i ∧ (rs.length : Int) ≤ m)
    ⟨[], none, none, none, rfl, same_upd np, upd_same, Nat.zero_le _, hm0⟩ ?_ ?_
  · rintro i σ H2 hi ⟨rs, kv, rv, jv, rfl, s2, hp, h60, hm2⟩
    -- rest = script[k]
    have hz : (ns.map V.int)[i]? = some (.int ns[i]) := by rw [List.getElem?_map, List.getElem?_eq_getElem hi]; rfl
    refine ⟨_, rfl, _, rfl, a, ns.map V.int, _, .int ns[i], rfl, rfl, s2.seq hS, at_of (j := i) (by simp) hz, ?_⟩
    -- if rest >= 10 ** 18
    refine ⟨_, rfl, _, _, rfl, rfl, ⟨by decide, by decide, by decide⟩, _, _, rfl, rfl, _, rfl, ?_⟩
    refine ite2 (fun _ => ?_) (fun _ => ?_)
    · -- for j in range(60)
      refine ⟨60, rfl, by decide, by decide, ?_⟩
      refine for_range (lo := 0) (n := 60) (fun j σ H3 => ∃ (rs : List Int) (kv jv : Option V) (z : Int), σ = [some (.ref a), some (.int m), some (.ref p), kv, some (.int z), jv] ∧ Same H H3 ∧ H3 p = some (.lst (rs.map V.int)) ∧ rs.length ≤ 60 * i + j ∧ (rs.length : Int) ≤ m)
        ⟨rs, _, _, _, rfl, s2, hp, by omega, hm2⟩ ?_ ?_
      · rintro j σ H3 hj ⟨rs, kv, jv, z, rfl, s3, hp, h60, hm2⟩
        refine ⟨_, rfl, _, _, rfl, rfl, _, rfl, ?_⟩
        refine ite2 (fun _ => ?_) (fun _ => ?_)
        · refine ⟨_, rfl, _, _, rfl, .inl ⟨_, SqL.of hp, rfl⟩, _, rfl, _, _, rfl, rfl, _, rfl, ?_⟩
          rw [List.length_map]
          refine ite2 (fun c => ?_) (fun _ => ?_)
          · have c := of_decide_eq_true c
            refine ⟨_, rfl, Or.inl ⟨rfl, _, SqL.of hp⟩, _, rfl, .inl ⟨_, rfl, _, _, rfl, rfl, (by show (0 : Int) < 1000; decide), p, _, _, rfl, rfl, hp, (by rw [List.length_map]; exact Nat.lt_of_lt_of_le (show rs.length < 20000 by omega) (by decide)), ?_⟩⟩
            refine ⟨_, rfl, _, _, rfl, rfl, ⟨by decide, by decide⟩, ?_⟩
            refine ⟨rs ++ [z % 1000], _, _, _, rfl, fun b o e => ?_, ?_, by rw [List.length_append, List.length_singleton]; omega, by rw [List.length_append, List.length_singleton]; omega⟩
            · rw [upd_ne (ne_of_none e np)]
              exact s3 b o e
            · rw [upd_same, map_snoc]
          · exact ⟨rs, _, _, z, rfl, s3, hp, by omega, hm2⟩
        · exact ⟨rs, _, _, z, rfl, s3, hp, by omega, hm2⟩
      · rintro σ H3 ⟨rs, kv, jv, z, rfl, s3, hp, h60, hm2⟩
        exact ⟨rs, _, _, _, rfl, s3, hp, by omega, hm2⟩
    · refine ⟨3, rfl, by decide, by decide, ?_⟩
      refine for_range (lo := 0) (n := 3) (fun j σ H3 => ∃ (rs : List Int) (jv : Option V), σ = [some (.ref a), some (.int m), some (.ref p), some (.int (0 + i)), some (.int ns[i]), jv] ∧ Same H H3 ∧ H3 p = some (.lst (rs.map V.int)) ∧ rs.length ≤ 60 * i + j ∧ (rs.length : Int) ≤ m)
        ⟨rs, _, rfl, s2, hp, by omega, hm2⟩ ?_ ?_
      · rintro j σ H3 hj ⟨rs, jv, rfl, s3, hp, h60, hm2⟩
        refine ⟨_, rfl, _, _, rfl, .inl ⟨_, SqL.of hp, rfl⟩, _, rfl, _, _, rfl, rfl, _, rfl, ?_⟩
        rw [List.length_map]
        refine ite2 (fun c => ?_) (fun _ => ?_)
        · have c := of_decide_eq_true c
          refine ⟨_, rfl, Or.inl ⟨rfl, _, SqL.of hp⟩, _, rfl, _, rfl, _, _, rfl, rfl, .inl ⟨by decide, by decide⟩, _, rfl, _, _, rfl, rfl, _, _, rfl, fun z => ?_⟩
          refine ⟨p, _, _, rfl, rfl, hp, (by rw [List.length_map]; exact Nat.lt_of_lt_of_le (show rs.length < 20000 by omega) (by decide)), ?_⟩
          refine ⟨rs ++ [z], _, rfl, fun b o e => ?_, ?_, by rw [List.length_append, List.length_singleton]; omega, by rw [List.length_append, List.length_singleton]; omega⟩
          · rw [upd_ne (ne_of_none e np)]
            exact s3 b o e
          · rw [upd_same, map_snoc]
        · exact ⟨rs, _, rfl, s3, hp, by omega, hm2⟩
      · rintro σ H3 ⟨rs, jv, rfl, s3, hp, h60, hm2⟩
        exact ⟨rs, _, _, _, rfl, s3, hp, by omega, hm2⟩
  · rintro σ H2 ⟨rs, kv, rv, jv, rfl, s2, hp, h60, hm2⟩
    -- return {..}
    intro d nd
    have npd : p ≠ d := ne_of_none hp nd
    have hp' : (upd H2 d (.dK [])) p = some (.lst (rs.map V.int)) := by rw [upd_ne npd]; exact hp
    refine ⟨_, rfl, _, rfl, _, _, rfl, .inl ⟨_, SqL.of hp', rfl⟩, ?_⟩
    refine ⟨upd_same, drK p 0 (rs.length : Int), ?_, (by show 3 ≤ 15; decide), ?_⟩
    · rw [List.length_map]
      rfl
    · rw [drK_merge, upd_upd]
      refine q d _ p (rs.length : Int) rs (fun b o e => ?_) (s2.free nd) upd_same ?_ npd (by omega) hm2
      · rw [upd_ne (ne_of_none (s2 b o e) nd)]
        exact s2 b o e
      · rw [upd_ne npd]
        exact hp
end Rm

/-! Lx: the tokens of a text as plain functions over codes; no Python here. -/
namespace Lx
def isLet (c : Nat) : Bool := (decide (65 ≤ c) && decide (c ≤ 90)) || (decide (97 ≤ c) && decide (c ≤ 122))
def isDig (c : Nat) : Bool := decide (48 ≤ c) && decide (c ≤ 57)
def isWP (c : Nat) : Bool := isLet c || (isDig c || c == 95)
/-- behind spaces, newlines and comments (true: within a comment) -/
def skip : Bool → List Nat → Int → Int → List Nat × Int × Int
  | _, [], r, c => ([], r, c)
  | true, x :: xs, r, c => if x = 10 then skip false xs (r + 1) 1 else skip true xs r (c + 1)
  | false, x :: xs, r, c => if x = 10 then skip false xs (r + 1) 1 else if x = 32 then skip false xs r (c + 1) else if x = 35 then skip true xs r (c + 1) else (x :: xs, r, c)
inductive Kd where
  | name | number | keyword | sign | fin
  deriving DecidableEq
structure Tk where
  kind : Kd
  text : List Nat
  row : Int
  col : Int
  deriving DecidableEq
inductive Er where
  | char | num
  deriving DecidableEq
abbrev codes (s : String) : List Nat := s.toList.map Char.toNat
def kwL : List (List Nat) := ["method", "main", "object", "const", "var", "parent", "let", "print", "return", "if", "else", "while", "put", "drop", "resend", "fn", "call", "self", "true", "false", "nothing", "div", "mod"].map codes
def longL : List (List Nat) := [":=", "==", "<="].map codes
def shortL : List (List Nat) := ["{", "}", "(", ")", ",", ";", ".", "=", "+", "-", "*", "<"].map codes
def val (l : List Nat) : Nat := l.foldl (fun a c => a * 10 + (c - 48)) 0
def isNum (w : List Nat) : Bool := w.all isDig && (!(decide (1 < w.length) && (w.head? == some 48)) && (decide (w.length ≤ 13) && decide (val w ≤ 1000000000000)))
def word (l : List Nat) : List Nat := l.takeWhile isWP
def kindOf (w : List Nat) : Kd := if w ∈ kwL then .keyword else .name
/-- the token at the beginning of x :: xs, what is behind it, and its place -/
def step (x : Nat) (xs : List Nat) (r c : Int) : Except (Er × Int × Int) (Tk × List Nat × Int × Int) :=
  if isLet x then .ok (⟨kindOf (word (x :: xs)), word (x :: xs), r, c⟩, (x :: xs).drop (word (x :: xs)).length, r, c + (word (x :: xs)).length)
  else if isDig x then
    if isNum (word (x :: xs)) then .ok (⟨.number, word (x :: xs), r, c⟩, (x :: xs).drop (word (x :: xs)).length, r, c + (word (x :: xs)).length) else .error (.num, r, c)
  else if (x :: xs).take 2 ∈ longL then .ok (⟨.sign, (x :: xs).take 2, r, c⟩, (x :: xs).drop 2, r, c + 2)
  else if [x] ∈ shortL then .ok (⟨.sign, [x], r, c⟩, xs, r, c + 1)
  else .error (.char, r, c)
abbrev Out := List Tk × Option (Er × Int × Int)
def lexF : Nat → List Nat → Int → Int → Out
  | 0, _, _, _ => ([], none)
  | n + 1, l, r, c => match skip false l r c with
    | ([], r', c') => ([⟨.fin, [], r', c'⟩], none)
    | (x :: xs, r', c') => match step x xs r' c' with
      | .error e => ([], some e)
      | .ok (t, l', r2, c2) => (t :: (lexF n l' r2 c2).1, (lexF n l' r2 c2).2)
def lex (l : List Nat) (r c : Int) : Out := lexF (l.length + 1) l r c

theorem skip_len : ∀ (b : Bool) (l : List Nat) (r c : Int), (skip b l r c).1.length ≤ l.length
  | _, [], r, c => by simp [skip]
  | true, x :: xs, r, c => by
    unfold skip
    split
    · exact Nat.le_succ_of_le (skip_len false xs _ _)
    · exact Nat.le_succ_of_le (skip_len true xs _ _)
  | false, x :: xs, r, c => by
    unfold skip
    split
    · exact Nat.le_succ_of_le (skip_len false xs _ _)
    · split
      · exact Nat.le_succ_of_le (skip_len false xs _ _)
      · split
        · exact Nat.le_succ_of_le (skip_len true xs _ _)
        · exact Nat.le_refl _
theorem skip_idem : ∀ (b : Bool) (l : List Nat) (r c : Int), skip false (skip b l r c).1 (skip b l r c).2.1 (skip b l r c).2.2 = skip b l r c
  | true, [], r, c => rfl
  | false, [], r, c => rfl
  | true, x :: xs, r, c => by
    by_cases h : x = 10
    · have e : skip true (x :: xs) r c = skip false xs (r + 1) 1 := by rw [skip, if_pos h]
      rw [e]; exact skip_idem false xs _ _
    · have e : skip true (x :: xs) r c = skip true xs r (c + 1) := by rw [skip, if_neg h]
      rw [e]; exact skip_idem true xs _ _
  | false, x :: xs, r, c => by
    by_cases h : x = 10
    · have e : skip false (x :: xs) r c = skip false xs (r + 1) 1 := by rw [skip, if_pos h]
      rw [e]; exact skip_idem false xs _ _
    · by_cases h2 : x = 32
      · have e : skip false (x :: xs) r c = skip false xs r (c + 1) := by rw [skip, if_neg h, if_pos h2]
        rw [e]; exact skip_idem false xs _ _
      · by_cases h3 : x = 35
        · have e : skip false (x :: xs) r c = skip true xs r (c + 1) := by rw [skip, if_neg h, if_neg h2, if_pos h3]
          rw [e]; exact skip_idem true xs _ _
        · have e : skip false (x :: xs) r c = (x :: xs, r, c) := by rw [skip, if_neg h, if_neg h2, if_neg h3]
          rw [e]; exact e
theorem takeWhile_len (p : Nat → Bool) : ∀ l : List Nat, (l.takeWhile p).length ≤ l.length
  | [] => Nat.le_refl _
  | x :: xs => by
    rw [List.takeWhile_cons]
    split
    · exact Nat.succ_le_succ (takeWhile_len p xs)
    · exact Nat.zero_le _
theorem word_pos {x : Nat} {xs : List Nat} (h : isWP x = true) : 0 < (word (x :: xs)).length := by
  unfold word
  rw [List.takeWhile_cons, if_pos h]
  exact Nat.succ_pos _
theorem word_len (l : List Nat) : (word l).length ≤ l.length := takeWhile_len _ l
theorem step_len {x : Nat} {xs : List Nat} {r c : Int} {t : Tk} {l' : List Nat} {r2 c2 : Int} (h : step x xs r c = .ok (t, l', r2, c2)) : l'.length < (x :: xs).length := by
  unfold step at h
  have wl := word_len (x :: xs)
  have drop_lt : ∀ n, 0 < n → n ≤ (x :: xs).length → ((x :: xs).drop n).length < (x :: xs).length := fun n h1 h2 => by rw [List.length_drop]; omega
  split at h
  · rename_i h1
    cases h
    exact drop_lt _ (word_pos (by unfold isWP; rw [h1]; rfl)) wl
  · split at h
    · rename_i h1 h2
      split at h
      · cases h
        exact drop_lt _ (word_pos (by unfold isWP; rw [h2]; simp)) wl
      · cases h
    · split at h
      · rename_i h3
        cases h
        have : 2 ≤ (x :: xs).length := by
          have e : ∀ w ∈ longL, w.length = 2 := by decide +kernel
          have q := e _ h3
          rw [List.length_take] at q
          omega
        exact drop_lt 2 (by decide) this
      · split at h
        · cases h
          exact Nat.lt_succ_self _
        · cases h
theorem lexF_fuel : ∀ (n m : Nat) (l : List Nat) (r c : Int), l.length < n → l.length < m → lexF n l r c = lexF m l r c
  | 0, _, l, _, _, h, _ => absurd h (Nat.not_lt_zero _)
  | _, 0, l, _, _, _, h => absurd h (Nat.not_lt_zero _)
  | n + 1, m + 1, l, r, c, h1, h2 => by
    unfold lexF
    have sl := skip_len false l r c
    rcases e : skip false l r c with ⟨_ | ⟨x, xs⟩, r', c'⟩
    · rfl
    · rw [e] at sl
      simp only
      cases es : step x xs r' c' with
      | error e => rfl
      | ok q =>
        obtain ⟨t, l', r2, c2⟩ := q
        have := step_len es
        have sl' : (x :: xs).length ≤ l.length := sl
        simp only
        rw [lexF_fuel n m l' r2 c2 (by omega) (by omega)]
theorem lex_eq (l : List Nat) (r c : Int) : lex l r c = match skip false l r c with
    | ([], r', c') => ([⟨.fin, [], r', c'⟩], none)
    | (x :: xs, r', c') => match step x xs r' c' with
      | .error e => ([], some e)
      | .ok (t, l', r2, c2) => (t :: (lex l' r2 c2).1, (lex l' r2 c2).2) := by
  unfold lex
  rw [lexF]
  have sl := skip_len false l r c
  rcases e : skip false l r c with ⟨_ | ⟨x, xs⟩, r', c'⟩
  · rfl
  · rw [e] at sl
    simp only
    cases es : step x xs r' c' with
    | error e => rfl
    | ok q =>
      obtain ⟨t, l', r2, c2⟩ := q
      have := step_len es
      have sl' : (x :: xs).length ≤ l.length := sl
      simp only
      rw [lexF_fuel l.length (l'.length + 1) l' r2 c2 (by omega) (by omega)]
/-- what is skipped changes nothing -/
theorem lex_skip {l l2 : List Nat} {r c r2 c2 : Int} (h : skip false l r c = skip false l2 r2 c2) : lex l r c = lex l2 r2 c2 := by
  rw [lex_eq, lex_eq, h]
theorem lex_end {l : List Nat} {r c r' c' : Int} (h : skip false l r c = ([], r', c')) : lex l r c = ([⟨.fin, [], r', c'⟩], none) := by
  rw [lex_eq, h]
theorem lex_tok {l : List Nat} {x : Nat} {xs : List Nat} {r c r' c' : Int} {t : Tk} {l' : List Nat} {r2 c2 : Int} (h : skip false l r c = (x :: xs, r', c')) (hs : step x xs r' c' = .ok (t, l', r2, c2)) :
    lex l r c = (t :: (lex l' r2 c2).1, (lex l' r2 c2).2) := by
  rw [lex_eq, h]
  simp only [hs]
theorem lex_err {l : List Nat} {x : Nat} {xs : List Nat} {r c r' c' : Int} {e : Er × Int × Int} (h : skip false l r c = (x :: xs, r', c')) (hs : step x xs r' c' = .error e) : lex l r c = ([], some e) := by
  rw [lex_eq, h]
  simp only [hs]
theorem skip_here {x : Nat} {xs : List Nat} {r c : Int} (h : x ≠ 10 ∧ x ≠ 32 ∧ x ≠ 35) : skip false (x :: xs) r c = (x :: xs, r, c) := by
  rw [skip, if_neg h.1, if_neg h.2.1, if_neg h.2.2]
/-! ### places -/
def adv : List Nat → Int → Int → Int × Int
  | [], r, c => (r, c)
  | x :: xs, r, c => if x = 10 then adv xs (r + 1) 1 else adv xs r (c + 1)
theorem adv_append : ∀ (a b : List Nat) (r c : Int), adv (a ++ b) r c = adv b (adv a r c).1 (adv a r c).2
  | [], b, r, c => rfl
  | x :: xs, b, r, c => by
    show (if x = 10 then adv (xs ++ b) (r + 1) 1 else adv (xs ++ b) r (c + 1)) = _
    by_cases h : x = 10
    · rw [if_pos h, adv, if_pos h]; exact adv_append xs b _ _
    · rw [if_neg h, adv, if_neg h]; exact adv_append xs b _ _
theorem adv_flat : ∀ (a : List Nat) (r c : Int), 10 ∉ a → adv a r c = (r, c + a.length)
  | [], r, c, _ => by simp [adv]
  | x :: xs, r, c, h => by
    have h1 : x ≠ 10 := fun e => h (by simp [e])
    rw [adv, if_neg h1, adv_flat xs r (c + 1) fun m => h (List.mem_cons_of_mem _ m), List.length_cons]
    congr 1
    omega
/-- gaps: whatever follows, they are skipped whole -/
def Gap (g : List Nat) : Prop := ∀ (rest : List Nat) (r c : Int), skip false (g ++ rest) r c = skip false rest (adv g r c).1 (adv g r c).2
theorem Gap.nil : Gap [] := fun _ _ _ => rfl
theorem Gap.append {a b : List Nat} (h1 : Gap a) (h2 : Gap b) : Gap (a ++ b) := fun rest r c => by
  rw [List.append_assoc, h1, h2, adv_append]
/-- a run of the scanner's skipping over a gap, by computation: the end is not within a comment -/
def gapB : Bool → List Nat → Bool
  | b, [] => !b
  | true, x :: xs => if x = 10 then gapB false xs else gapB true xs
  | false, x :: xs => if x = 10 then gapB false xs else if x = 32 then gapB false xs else if x = 35 then gapB true xs else false
theorem gapB_ok : ∀ (b : Bool) (g : List Nat), gapB b g = true → ∀ (rest : List Nat) (r c : Int), skip b (g ++ rest) r c = skip false rest (adv g r c).1 (adv g r c).2
  | true, [], h, rest, r, c => by cases h
  | false, [], h, rest, r, c => rfl
  | true, x :: xs, h, rest, r, c => by
    show skip true (x :: (xs ++ rest)) r c = _
    rw [skip, adv]
    rw [gapB] at h
    by_cases e : x = 10
    · rw [if_pos e] at h ⊢; rw [if_pos e]; exact gapB_ok false xs h rest _ _
    · rw [if_neg e] at h ⊢; rw [if_neg e]; exact gapB_ok true xs h rest _ _
  | false, x :: xs, h, rest, r, c => by
    show skip false (x :: (xs ++ rest)) r c = _
    rw [skip, adv]
    rw [gapB] at h
    by_cases e : x = 10
    · rw [if_pos e] at h ⊢; rw [if_pos e]; exact gapB_ok false xs h rest _ _
    · rw [if_neg e] at h ⊢; rw [if_neg e]
      by_cases e2 : x = 32
      · rw [if_pos e2] at h ⊢; exact gapB_ok false xs h rest _ _
      · rw [if_neg e2] at h ⊢
        by_cases e3 : x = 35
        · rw [if_pos e3] at h ⊢; exact gapB_ok true xs h rest _ _
        · rw [if_neg e3] at h; cases h
theorem Gap.of {g : List Nat} (h : gapB false g = true) : Gap g := gapB_ok false g h
/-- a comment at the end of the text -/
theorem skip_comment : ∀ (l : List Nat) (r c : Int), 10 ∉ l → skip true l r c = ([], r, c + l.length)
  | [], r, c, _ => by simp [skip]
  | x :: xs, r, c, h => by
    have h1 : x ≠ 10 := fun e => h (by simp [e])
    rw [skip, if_neg h1, skip_comment xs r (c + 1) fun m => h (List.mem_cons_of_mem _ m), List.length_cons]
    congr 2
    omega
end Lx

/-! S0: texts of one newline; the scanner's fields; what the defs of the tokens promise. -/
namespace Rm
open PySem PySem.Spec PyProof.Rows L2 Lx
/-- the text of these codes -/
abbrev Tx (l : List Nat) : Str := ⟨l.toArray⟩
theorem Tx_len (l : List Nat) : (Tx l).length = l.length := rfl
theorem Tx_inj {a b : List Nat} (h : Tx a = Tx b) : a = b := by
  have := congrArg (fun s : Str => s.cps.toList) h
  exact this
theorem Tx_of (s : String) : Str.ofString s = Tx (codes s) := by
  have h := TL.tl_ofString s
  exact TL.ext_tl h
theorem Tx_app (a b : List Nat) : Tx a ++ Tx b = Tx (a ++ b) := TL.ext_tl (by rw [TL.tl_append])
theorem nl1 : ("\n" : Str) = ⟨#[10]⟩ := by decide +kernel
theorem small_len {n : Nat} (h : n ≤ 10000000) : n ≤ sizeLine := Nat.le_trans h (by decide)
/-! ### one letter -/
theorem let_ok : ∀ c < 128, Txt.isalpha ⟨#[c]⟩ = isLet c := by decide +kernel
theorem dig_ok : ∀ c < 128, PySem.Unicode.isDigit c = isDig c := by decide +kernel
theorem ascii1 (c : Nat) : Txt.isascii ⟨#[c]⟩ = decide (c < 128) := by
  show (#[c] : Array Nat).all (fun x => decide (x < 128)) = _
  simp
theorem isLet_lt {c : Nat} (h : isLet c = true) : c < 128 := by
  unfold isLet at h
  simp at h
  omega
theorem isDig_lt {c : Nat} (h : isDig c = true) : c < 128 := by
  unfold isDig at h
  simp at h
  omega
theorem isWP_lt {c : Nat} (h : isWP c = true) : c < 128 := by
  unfold isWP at h
  simp only [Bool.or_eq_true] at h
  rcases h with h | h | h
  · exact isLet_lt h
  · exact isDig_lt h
  · have := beq_iff_eq.mp h
    omega
theorem digits_mem (c : Nat) : decide (c ∈ ("0123456789" : Str).cps.toList) = isDig c := by
  rw [show ("0123456789" : Str).cps.toList = [48, 49, 50, 51, 52, 53, 54, 55, 56, 57] by decide +kernel]
  unfold isDig
  rw [Bool.eq_iff_iff]
  simp
  omega
theorem under1 : ("_" : Str) = ⟨#[95]⟩ := by decide +kernel
theorem dec_one (a b : Nat) : decide (V.str ⟨#[a]⟩ = V.str ⟨#[b]⟩) = decide (a = b) := by
  rw [Bool.eq_iff_iff]
  simp
/-! ### finding newlines -/
theorem find_nl (l : List Nat) (i : Nat) (h : i ≤ l.length) : Txt.find3 (Tx l) ("\n" : Str) (i : Int) = (if i + ((l.drop i).takeWhile (fun c => c != 10)).length = l.length then -1 else ((i + ((l.drop i).takeWhile (fun c => c != 10)).length : Nat) : Int)) := by
  rw [nl1]
  have hf : PySem.fromIndex (Tx l).length (i : Int) = i := by
    unfold PySem.fromIndex
    rw [if_neg (by omega)]
    omega
  have hget : ∀ v, v < l.length → (Tx l).cps.getD v 0 = l.getD v 0 := fun v hv => by simp [Array.getD, hv]
  -- the takeWhile
  have key : ∀ (m : List Nat) (k : Nat), (∀ v, v < k → v < m.length → m.getD v 0 ≠ 10) → k ≤ m.length → (k = m.length ∨ m.getD k 0 = 10) → (m.takeWhile (fun c => c != 10)).length = k := by
    intro m
    induction m with
    | nil =>
      intro k _ hk _
      simp at hk
      simp [hk]
    | cons x xs ih =>
      intro k hv hk he
      cases k with
      | zero =>
        rcases he with he | he
        · simp at he
        · have e : x = 10 := by simpa using he
          simp [e]
      | succ k =>
        have e : x ≠ 10 := by simpa using hv 0 (by omega) (by simp)
        rw [List.takeWhile_cons, if_pos (by simpa using e), List.length_cons]
        refine congrArg Nat.succ (ih k (fun v h1 h2 => ?_) (by simpa using hk) ?_)
        · have q := hv (v + 1) (by omega) (by simpa using h2)
          simpa using q
        · rcases he with he | he
          · exact .inl (by simpa using he)
          · exact .inr (by simpa using he)
  have dropget : ∀ v, (l.drop i).getD v 0 = l.getD (i + v) 0 := fun v => by simp [List.getD_eq_getElem?_getD, List.getElem?_drop]
  rcases StrLaws.find3_spec (Tx l) 10 (i : Int) with ⟨h0, hn⟩ | ⟨k, h0, h1, h2, h3, h4⟩
  · rw [hf] at hn
    have e := key (l.drop i) (l.drop i).length (fun v _ hv => by
      rw [dropget]
      rw [List.length_drop] at hv
      have q := hn (i + v) (by omega) (by show i + v < l.length; omega)
      rw [hget _ (by omega)] at q
      exact q) (Nat.le_refl _) (.inl rfl)
    rw [h0, e, List.length_drop, if_pos (by omega)]
  · rw [hf] at h1 h4
    have h2' : k < l.length := h2
    have e := key (l.drop i) (k - i) (fun v hk hv => by
      rw [dropget]
      have q := h4 (i + v) (by omega) (by omega)
      rw [hget _ (by omega)] at q
      exact q) (by rw [List.length_drop]; omega) (.inr (by rw [dropget, show i + (k - i) = k by omega, ← hget k h2']; exact h3))
    rw [h0, e, show i + (k - i) = k by omega, if_neg (by omega)]
/-! ### the place of a text's end: rows by count, columns by rfind -/
theorem cnt_adv : ∀ (l : List Nat) (r c : Int), (adv l r c).1 = r + PyProof.Rows.cnt 10 l
  | [], r, c => by simp [adv, PyProof.Rows.cnt_nil]
  | x :: xs, r, c => by
    rw [PyProof.Rows.cnt_cons, adv]
    by_cases h : x = 10
    · rw [if_pos h, if_pos h, cnt_adv xs]
      omega
    · rw [if_neg h, if_neg h, cnt_adv xs]
      omega
/-- the column behind a text: counted from its last newline -/
theorem adv_col : ∀ (a b : List Nat) (r c : Int), 10 ∉ b → (adv (a ++ 10 :: b) r c).2 = b.length + 1
  | [], b, r, c, h => by
    show (if (10 : Nat) = 10 then adv b (r + 1) 1 else adv b r (c + 1)).2 = _
    rw [if_pos rfl, adv_flat b _ _ h]
    show (1 : Int) + b.length = _
    omega
  | x :: xs, b, r, c, h => by
    show (if x = 10 then adv (xs ++ 10 :: b) (r + 1) 1 else adv (xs ++ 10 :: b) r (c + 1)).2 = _
    split
    · exact adv_col xs b _ _ h
    · exact adv_col xs b _ _ h
theorem place_ok (l : List Nat) : Txt.count (Tx l) ("\n" : Str) + 1 = (adv l 1 1).1 ∧ ((l.length : Int) - Txt.rfind (Tx l) ("\n" : Str)) = (adv l 1 1).2 := by
  refine ⟨?_, ?_⟩
  · rw [nl1, PyProof.Rows.count_cnt, cnt_adv]
    show cnt 10 l + 1 = 1 + cnt 10 l
    omega
  · rw [nl1]
    unfold Txt.rfind
    rcases StrLaws.last_spec (Tx l) ⟨#[10]⟩ with ⟨h0, hn⟩ | ⟨i, h0, hi, hn⟩
    · rw [h0]
      have hno : 10 ∉ l := fun hm => by
        obtain ⟨v, hv, e⟩ := List.mem_iff_getElem.mp hm
        exact hn v ((StrLaws.subAt_one (Tx l) 10 v).mpr (by show l[v]? = some 10; rw [List.getElem?_eq_getElem hv, e]))
      rw [adv_flat l 1 1 hno]
      show (l.length : Int) - (-1) = 1 + (l.length : Int)
      omega
    · rw [h0]
      have e1 : l[i]? = some 10 := (StrLaws.subAt_one (Tx l) 10 i).mp hi
      obtain ⟨hlt, e2⟩ := List.getElem?_eq_some_iff.mp e1
      have hno : 10 ∉ l.drop (i + 1) := fun hm => by
        obtain ⟨v, hv, e⟩ := List.mem_iff_getElem.mp hm
        rw [List.length_drop] at hv
        refine hn (i + 1 + v) (by omega) ((StrLaws.subAt_one (Tx l) 10 (i + 1 + v)).mpr ?_)
        show l[i + 1 + v]? = some 10
        rw [List.getElem_drop] at e
        rw [List.getElem?_eq_getElem (by omega), e]
      have el : l = l.take i ++ 10 :: l.drop (i + 1) := by
        rw [← e2, ← List.drop_eq_getElem_cons hlt, List.take_append_drop]
      have q := adv_col (l.take i) (l.drop (i + 1)) 1 1 hno
      rw [← el] at q
      rw [q, List.length_drop]
      show (l.length : Int) - (i : Int) = ((l.length - (i + 1) : Nat) : Int) + 1
      omega
end Rm

/-! S1: the tokens' defs: promises, readings (by gen.py), and that the readings keep the promises. -/
namespace Rm
open PySem PySem.Spec PyProof.Rows L2 Lx
/-- what is wanted where an error of the class of this name is raised with a row and a column -/
abbrev EWT := Str → Int → Int → XK → Hp → Prop
def kdS : Kd → Str
  | .name => "name"
  | .number => "number"
  | .keyword => "keyword"
  | .sign => "sign"
  | .fin => "end"
def erS : Er → Str
  | .char => "BadCharacter"
  | .num => "BadNumber"
def tkV (t : Tk) : List V := [.str (kdS t.kind), .str (Tx t.text), .int t.row, .int t.col]
abbrev CS (K : PySem.W.Frag) : Addr := He.ga K ("Scanner" : Str)
def scF (l : List Nat) (i r c : Int) : List (Str × V) := [("text", .str (Tx l)), ("at", .int i), ("row", .int r), ("column", .int c)]
theorem neTA : ¬ (("text" : Str) = "at") := by decide +kernel
theorem neTR : ¬ (("text" : Str) = "row") := by decide +kernel
theorem neTC : ¬ (("text" : Str) = "column") := by decide +kernel
theorem neAR : ¬ (("at" : Str) = "row") := by decide +kernel
theorem neAC : ¬ (("at" : Str) = "column") := by decide +kernel
theorem neRC : ¬ (("row" : Str) = "column") := by decide +kernel
section
variable {l : List Nat} {i r c j : Int}
theorem scF_text : (scF l i r c).lookup ("text" : Str) = some (.str (Tx l)) := lk_eq
theorem scF_at : (scF l i r c).lookup ("at" : Str) = some (.int i) := by
  unfold scF
  rw [lk_ne (Ne.symm neTA), lk_eq]
theorem scF_row : (scF l i r c).lookup ("row" : Str) = some (.int r) := by
  unfold scF
  rw [lk_ne (Ne.symm neTR), lk_ne (Ne.symm neAR), lk_eq]
theorem scF_col : (scF l i r c).lookup ("column" : Str) = some (.int c) := by
  unfold scF
  rw [lk_ne (Ne.symm neTC), lk_ne (Ne.symm neAC), lk_ne (Ne.symm neRC), lk_eq]
theorem scF_no {m : Str} (h1 : ¬ m = "text") (h2 : ¬ m = "at") (h3 : ¬ m = "row") (h4 : ¬ m = "column") : (scF l i r c).lookup m = none := by
  unfold scF
  rw [lk_ne h1, lk_ne h2, lk_ne h3, lk_ne h4]
  rfl
theorem scF_pat : putF ("at" : Str) (.int j) (scF l i r c) = scF l j r c := by
  unfold scF
  rw [pf_ne neTA, pf_eq]
theorem scF_prow : putF ("row" : Str) (.int j) (scF l i r c) = scF l i j c := by
  unfold scF
  rw [pf_ne neTR, pf_ne neAR, pf_eq]
theorem scF_pcol : putF ("column" : Str) (.int j) (scF l i r c) = scF l i r j := by
  unfold scF
  rw [pf_ne neTC, pf_ne neAC, pf_ne neRC, pf_eq]
theorem scF_len : (scF l i r c).length < 1000 := by
  show 4 < 1000
  decide
theorem scF_init : putF ("column" : Str) (.int c) (putF ("row" : Str) (.int r) (putF ("at" : Str) (.int i) (putF ("text" : Str) (.str (Tx l)) []))) = scF l i r c := by
  rw [pf_nil, pf_ne neTA, pf_nil, pf_ne neTR, pf_ne neAR, pf_nil, pf_ne neTC, pf_ne neAC, pf_ne neRC, pf_nil]
  rfl
end
structure ScC (K : PySem.W.Frag) : Prop where
  cl : Cls K (CS K)
  nt : NoAttr K (CS K) "text"
  na : NoAttr K (CS K) "at"
  nr : NoAttr K (CS K) "row"
  nc : NoAttr K (CS K) "column"
theorem upd_self {H : Hp} {a : Addr} {o : HO} (h : H a = some o) : upd H a o = H := by
  funext b
  by_cases e : b = a
  · rw [e, upd_same, h]
  · rw [upd_ne e]
/-! ### promises -/
def sp_is_letter (K : PySem.W.Frag) : Sp := fun vs H Q _ => ∃ c : Nat, vs = [.str ⟨#[c]⟩] ∧ Q (.bl (isLet c)) H
def sp_is_word_part (K : PySem.W.Frag) : Sp := fun vs H Q _ => ∃ c : Nat, vs = [.str ⟨#[c]⟩] ∧ Q (.bl (isWP c)) H
def sp_is_number (K : PySem.W.Frag) : Sp := fun vs H Q _ => ∃ w : List Nat, vs = [.str (Tx w)] ∧ w ≠ [] ∧ w.length ≤ 10000000 ∧ (∀ x ∈ w, isWP x = true) ∧ Q (.bl (isNum w)) H
def sp_word_kind (K : PySem.W.Frag) : Sp := fun vs H Q _ => ∃ w : List Nat, vs = [.str (Tx w)] ∧ Q (.str (kdS (kindOf w))) H
/-- a scanner at p: its text, how far it has read, row and column -/
def Sc (K : PySem.W.Frag) (H : Hp) (p dx : Addr) (l : List Nat) (i : Nat) (r c : Int) : Prop := H p = some (.ins (CS K) dx (scF l (i : Int) r c)) ∧ l.length ≤ 10000000 ∧ i ≤ l.length
abbrev scO (K : PySem.W.Frag) (dx : Addr) (l : List Nat) (i : Nat) (r c : Int) : HO := .ins (CS K) dx (scF l (i : Int) r c)
def sp_Scanner_init (K : PySem.W.Frag) : Sp := fun vs H Q _ => ∃ (p dx : Addr) (l : List Nat), vs = [.ref p, .str (Tx l)] ∧ H p = some (.ins (CS K) dx []) ∧ Q .non (upd H p (scO K dx l 0 1 1))
def sp_Scanner_is_done (K : PySem.W.Frag) : Sp := fun vs H Q _ => ∃ (p dx : Addr) (l : List Nat) (i : Nat) (r c : Int), vs = [.ref p] ∧ Sc K H p dx l i r c ∧ Q (.bl (decide (i = l.length))) H
def sp_Scanner_skip_newline (K : PySem.W.Frag) : Sp := fun vs H Q _ => ∃ (p dx : Addr) (l : List Nat) (i : Nat) (r c : Int), vs = [.ref p] ∧ Sc K H p dx l i r c ∧ Q .non (upd H p (scO K dx l (i + 1) (r + 1) 1))
abbrev rowLen (l : List Nat) : Nat := (l.takeWhile (fun c => c != 10)).length
def sp_Scanner_row_end (K : PySem.W.Frag) : Sp := fun vs H Q _ => ∃ (p dx : Addr) (l : List Nat) (i : Nat) (r c : Int), vs = [.ref p] ∧ Sc K H p dx l i r c ∧ Q (.int ((i + rowLen (l.drop i) : Nat) : Int)) H
def sp_Scanner_word_end (K : PySem.W.Frag) : Sp := fun vs H Q _ => ∃ (p dx : Addr) (l : List Nat) (i : Nat) (r c : Int), vs = [.ref p] ∧ Sc K H p dx l i r c ∧ Q (.int ((i + (word (l.drop i)).length : Nat) : Int)) H
def sp_Scanner_take_to (K : PySem.W.Frag) : Sp := fun vs H Q _ => ∃ (p dx : Addr) (l : List Nat) (i n : Nat) (r c : Int), vs = [.ref p, .int ((i + n : Nat) : Int)] ∧ Sc K H p dx l i r c ∧ i + n ≤ l.length ∧
  Q (.str (Tx ((l.drop i).take n))) (upd H p (scO K dx l (i + n) r (c + n)))
def sp_Scanner_skip_gaps (K : PySem.W.Frag) : Sp := fun vs H Q _ => ∃ (p dx : Addr) (l : List Nat) (i : Nat) (r c : Int), vs = [.ref p] ∧ Sc K H p dx l i r c ∧
  ∀ (j : Nat) (r2 c2 : Int), j ≤ l.length → skip false (l.drop i) r c = (l.drop j, r2, c2) → Q .non (upd H p (scO K dx l j r2 c2))
/-- at a place that is no gap and not the end: a sign -/
def sp_Scanner_take_sign (K : PySem.W.Frag) (EW : EWT) : Sp := fun vs H Q E => ∃ (p dx : Addr) (l : List Nat) (i : Nat) (r c : Int) (x : Nat) (xs : List Nat), vs = [.ref p] ∧ Sc K H p dx l i r c ∧ l.drop i = x :: xs ∧ isLet x = false ∧ isDig x = false ∧
  (∀ t (n : Nat), i + n ≤ l.length → Lx.step x xs r c = .ok (⟨.sign, t, r, c⟩, l.drop (i + n), r, c + n) → Q (.str (Tx t)) (upd H p (scO K dx l (i + n) r (c + n)))) ∧ (Lx.step x xs r c = .error (.char, r, c) → EW "BadCharacter" r c E H)
def sp_Scanner_take_token (K : PySem.W.Frag) (EW : EWT) : Sp := fun vs H Q E => ∃ (p dx : Addr) (l : List Nat) (i : Nat) (r c : Int) (x : Nat) (xs : List Nat), vs = [.ref p] ∧ Sc K H p dx l i r c ∧ l.drop i = x :: xs ∧
  (∀ (t : Tk) (n : Nat) (q : Addr) (H' : Hp), i + n ≤ l.length → Lx.step x xs r c = .ok (t, l.drop (i + n), r, c + n) → H q = none → H' = upd (upd H p (scO K dx l (i + n) r (c + n))) q (.tup (tkV t)) → Q (.ref q) H') ∧
  (∀ (e : Er) (H' : Hp), Lx.step x xs r c = .error (e, r, c) → (H' = H ∨ ∃ n : Nat, H' = upd H p (scO K dx l (i + n) r (c + n))) → EW (erS e) r c E H')
/-- a list of tokens at p: tuples -/
def TksAt (H : Hp) (p : Addr) (ts : List Tk) : Prop := ∃ qs : List Addr, H p = some (.lst (qs.map V.ref)) ∧ qs.length = ts.length ∧ ∀ (k : Nat) (q : Addr) (t : Tk), qs[k]? = some q → ts[k]? = some t → H q = some (.tup (tkV t))
def sp_tokens (K : PySem.W.Frag) (EW : EWT) : Sp := fun vs H Q E => ∃ l : List Nat, vs = [.str (Tx l)] ∧ l.length ≤ 10000000 ∧
  (∀ (ts : List Tk) (p : Addr) (H' : Hp), lex l 1 1 = (ts, none) → H p = none → Same H H' → TksAt H' p ts → Q (.ref p) H') ∧
  (∀ (ts : List Tk) (e : Er) (r c : Int) (H' : Hp), lex l 1 1 = (ts, some (e, r, c)) → Same H H' → EW (erS e) r c E H')
/-! ### readings -/

def ns_is_letter : List Str := ["char"]
def t_is_letter (K : PySem.W.Frag) (E : XK) : TS :=
  (tRet (tAndV (tBM0 K "str" rIsascii (tVar 0)) (tBM0 K "str" rIsalpha (tVar 0))))

def ns_is_word_part : List Str := ["char"]
def t_is_word_part (K : PySem.W.Frag) (E : XK) : TS :=
  (tRet (tOrV (tCall (sp_is_letter K) [] E (tCons (tVar 0) tNil)) (tOrV (tOp rInSign (tVar 0) (tC (.str ("0123456789" : Str)))) (tOp rEq (tVar 0) (tC (.str ("_" : Str)))))))

def ns_is_number : List Str := ["word"]
def t_is_number (K : PySem.W.Frag) (E : XK) : TS :=
  (tSeq (tIfS (tOr (tNot (tB (tBM0 K "str" rIsascii (tVar 0)))) (tNot (tB (tBM0 K "str" rIsdigit (tVar 0)))))
      (tRet (tC (.bl false)))
      tNext)
    (tSeq (tIfS (tAnd (tTest (tOp rGtI (tCB rLenS (tCons (tVar 0) tNil)) (tC (.int 1)))) (tTest (tOp rEq (tOp rIxS (tVar 0) (tC (.int 0))) (tC (.str ("0" : Str))))))
      (tRet (tC (.bl false)))
      tNext)
    (tRet (tAndV (tOp rLeI (tCB rLenS (tCons (tVar 0) tNil)) (tC (.int 13))) (tOp rLeI (tCB rIntS (tCons (tVar 0) tNil)) (tC (.int 1000000000000)))))))

def ns_word_kind : List Str := ["word"]
def t_word_kind (K : PySem.W.Frag) (E : XK) : TS :=
  (tSeq (tIfS (tTest (tOp (rIn K false) (tVar 0) (tC (.ref (He.ga K ("KEYWORDS" : Str))))))
      (tRet (tC (.str ("keyword" : Str))))
      tNext)
    (tRet (tC (.str ("name" : Str)))))

def ns_Scanner_init : List Str := ["self", "text"]
def t_Scanner_init (K : PySem.W.Frag) (E : XK) : TS :=
  (tSeq (sFld K (tVar 0) (tVar 1) ("text" : Str))
    (tSeq (sFld K (tVar 0) (tC (.int 0)) ("at" : Str))
    (tSeq (sFld K (tVar 0) (tC (.int 1)) ("row" : Str))
    (sFld K (tVar 0) (tC (.int 1)) ("column" : Str)))))

def ns_Scanner_is_done : List Str := ["self"]
def t_Scanner_is_done (K : PySem.W.Frag) (E : XK) : TS :=
  (tRet (tOp rEq (tFld K (tVar 0) ("at" : Str)) (tCB rLenS (tCons (tFld K (tVar 0) ("text" : Str)) tNil))))

def ns_Scanner_skip_newline : List Str := ["self"]
def t_Scanner_skip_newline (K : PySem.W.Frag) (E : XK) : TS :=
  (tSeq (sFldAug K (tVar 0) (tC (.int 1)) rAdd ("at" : Str))
    (tSeq (sFldAug K (tVar 0) (tC (.int 1)) rAdd ("row" : Str))
    (sFld K (tVar 0) (tC (.int 1)) ("column" : Str))))

def ns_Scanner_row_end : List Str := ["self", "end"]
def t_Scanner_row_end (K : PySem.W.Frag) (E : XK) : TS :=
  (tSeq (tAsg (tBM K "str" rFind3 (tFld K (tVar 0) ("text" : Str)) (tCons (tC (.str ("\n" : Str))) (tCons (tFld K (tVar 0) ("at" : Str)) tNil))) (gName 1))
    (tSeq (tIfS (tTest (tOp rEq (tVar 1) (tUn rNegI (tC (.int 1)))))
      (tRet (tCB rLenS (tCons (tFld K (tVar 0) ("text" : Str)) tNil)))
      tNext)
    (tRet (tVar 1))))

def ns_Scanner_word_end : List Str := ["self", "end"]
def t_Scanner_word_end (K : PySem.W.Frag) (E : XK) : TS :=
  (tSeq (tAsg (tFld K (tVar 0) ("at" : Str)) (gName 1))
    (tSeq (tWhile (tAnd (tTest (tOp rLtI (tVar 1) (tCB rLenS (tCons (tFld K (tVar 0) ("text" : Str)) tNil)))) (tB (tCall (sp_is_word_part K) [] E (tCons (tOp rIxS (tFld K (tVar 0) ("text" : Str)) (tVar 1)) tNil))))
      (tAug 1 (tC (.int 1)) (ipI fun i j => i + j)))
    (tRet (tVar 1))))

def ns_Scanner_take_to : List Str := ["self", "end", "taken"]
def t_Scanner_take_to (K : PySem.W.Frag) (E : XK) : TS :=
  (tSeq (tAsg (tSl rSlS (tFld K (tVar 0) ("text" : Str)) (oSome (tFld K (tVar 0) ("at" : Str))) (oSome (tVar 1))) (gName 2))
    (tSeq (sFldAug K (tVar 0) (tOp rSubI (tVar 1) (tFld K (tVar 0) ("at" : Str))) rAdd ("column" : Str))
    (tSeq (sFld K (tVar 0) (tVar 1) ("at" : Str))
    (tRet (tVar 2)))))

def ns_Scanner_skip_gaps : List Str := ["self", "char"]
def t_Scanner_skip_gaps (K : PySem.W.Frag) (E : XK) : TS :=
  (tWhile (tNot (tB (tMeth (He.ga K ("Scanner" : Str)) ("is_done" : Str) (sp_Scanner_is_done K) [] E (tVar 0) tNil)))
      (tSeq (tAsg (tOp rIxS (tFld K (tVar 0) ("text" : Str)) (tFld K (tVar 0) ("at" : Str))) (gName 1))
    (tIfS (tTest (tOp rEq (tVar 1) (tC (.str ("\n" : Str)))))
      (tDrop (tMeth (He.ga K ("Scanner" : Str)) ("skip_newline" : Str) (sp_Scanner_skip_newline K) [] E (tVar 0) tNil))
      (tIfS (tTest (tOp rEq (tVar 1) (tC (.str (" " : Str)))))
      (tDrop (tMeth (He.ga K ("Scanner" : Str)) ("take_to" : Str) (sp_Scanner_take_to K) [] E (tVar 0) (tCons (tOp rAddI (tFld K (tVar 0) ("at" : Str)) (tC (.int 1))) tNil)))
      (tIfS (tTest (tOp rEq (tVar 1) (tC (.str ("#" : Str)))))
      (tDrop (tMeth (He.ga K ("Scanner" : Str)) ("take_to" : Str) (sp_Scanner_take_to K) [] E (tVar 0) (tCons (tMeth (He.ga K ("Scanner" : Str)) ("row_end" : Str) (sp_Scanner_row_end K) [] E (tVar 0) tNil) tNil)))
      tRetN)))))

def ns_Scanner_take_sign : List Str := ["self", "pair"]
def t_Scanner_take_sign (K : PySem.W.Frag) (EW : EWT) (E : XK) (rz0 : TS) : TS :=
  (tSeq (tAsg (tSl rSlS (tFld K (tVar 0) ("text" : Str)) (oSome (tFld K (tVar 0) ("at" : Str))) (oSome (tOp rAddI (tFld K (tVar 0) ("at" : Str)) (tC (.int 2))))) (gName 1))
    (tSeq (tIfS (tTest (tOp (rIn K false) (tVar 1) (tC (.ref (He.ga K ("LONG_SIGNS" : Str))))))
      (tRet (tMeth (He.ga K ("Scanner" : Str)) ("take_to" : Str) (sp_Scanner_take_to K) [] E (tVar 0) (tCons (tOp rAddI (tFld K (tVar 0) ("at" : Str)) (tC (.int 2))) tNil)))
      tNext)
    (tSeq (tIfS (tTest (tOp (rIn K false) (tOp rIxS (tFld K (tVar 0) ("text" : Str)) (tFld K (tVar 0) ("at" : Str))) (tC (.ref (He.ga K ("SHORT_SIGNS" : Str))))))
      (tRet (tMeth (He.ga K ("Scanner" : Str)) ("take_to" : Str) (sp_Scanner_take_to K) [] E (tVar 0) (tCons (tOp rAddI (tFld K (tVar 0) ("at" : Str)) (tC (.int 1))) tNil)))
      tNext)
    rz0)))

def ns_Scanner_take_token : List Str := ["self", "row", "column", "char", "word"]
def t_Scanner_take_token (K : PySem.W.Frag) (EW : EWT) (E : XK) (rz0 : TS) : TS :=
  (tSeq (tAsg (tFld K (tVar 0) ("row" : Str)) (gName 1))
    (tSeq (tAsg (tFld K (tVar 0) ("column" : Str)) (gName 2))
    (tSeq (tAsg (tOp rIxS (tFld K (tVar 0) ("text" : Str)) (tFld K (tVar 0) ("at" : Str))) (gName 3))
    (tSeq (tIfS (tB (tCall (sp_is_letter K) [] E (tCons (tVar 3) tNil)))
      (tSeq (tAsg (tMeth (He.ga K ("Scanner" : Str)) ("take_to" : Str) (sp_Scanner_take_to K) [] E (tVar 0) (tCons (tMeth (He.ga K ("Scanner" : Str)) ("word_end" : Str) (sp_Scanner_word_end K) [] E (tVar 0) tNil) tNil)) (gName 4))
    (tRet (tTup (tCons (tCall (sp_word_kind K) [] E (tCons (tVar 4) tNil)) (tCons (tVar 4) (tCons (tVar 1) (tCons (tVar 2) tNil)))))))
      tNext)
    (tSeq (tIfS (tTest (tOp rInSign (tVar 3) (tC (.str ("0123456789" : Str)))))
      (tSeq (tAsg (tMeth (He.ga K ("Scanner" : Str)) ("take_to" : Str) (sp_Scanner_take_to K) [] E (tVar 0) (tCons (tMeth (He.ga K ("Scanner" : Str)) ("word_end" : Str) (sp_Scanner_word_end K) [] E (tVar 0) tNil) tNil)) (gName 4))
    (tSeq (tIfS (tNot (tB (tCall (sp_is_number K) [] E (tCons (tVar 4) tNil))))
      rz0
      tNext)
    (tRet (tTup (tCons (tC (.str ("number" : Str))) (tCons (tVar 4) (tCons (tVar 1) (tCons (tVar 2) tNil))))))))
      tNext)
    (tRet (tTup (tCons (tC (.str ("sign" : Str))) (tCons (tMeth (He.ga K ("Scanner" : Str)) ("take_sign" : Str) (sp_Scanner_take_sign K EW) [] E (tVar 0) tNil) (tCons (tVar 1) (tCons (tVar 2) tNil)))))))))))

def ns_tokens : List Str := ["text", "scanner", "found"]
def t_tokens (K : PySem.W.Frag) (EW : EWT) (E : XK) : TS :=
  (tSeq (tAsg (tMake (He.ga K ("Scanner" : Str)) (sp_Scanner_init K) [] E (tCons (tVar 0) tNil)) (gName 1))
    (tSeq (tAsg (tLst tNil) (gName 2))
    (tSeq (tDrop (tMeth (He.ga K ("Scanner" : Str)) ("skip_gaps" : Str) (sp_Scanner_skip_gaps K) [] E (tVar 1) tNil))
    (tSeq (tWhile (tNot (tB (tMeth (He.ga K ("Scanner" : Str)) ("is_done" : Str) (sp_Scanner_is_done K) [] E (tVar 1) tNil)))
      (tSeq (tDrop (tBM K "list" rAppend (tVar 2) (tCons (tMeth (He.ga K ("Scanner" : Str)) ("take_token" : Str) (sp_Scanner_take_token K EW) [] E (tVar 1) tNil) tNil)))
    (tDrop (tMeth (He.ga K ("Scanner" : Str)) ("skip_gaps" : Str) (sp_Scanner_skip_gaps K) [] E (tVar 1) tNil))))
    (tSeq (tDrop (tBM K "list" rAppend (tVar 2) (tCons (tTup (tCons (tC (.str ("end" : Str))) (tCons (tC (.str ("" : Str))) (tCons (tFld K (tVar 1) ("row" : Str)) (tCons (tFld K (tVar 1) ("column" : Str)) tNil))))) tNil)))
    (tRet (tVar 2)))))))

/-! ### runs -/
theorem _root_.L2.Same.put {H H' : Hp} {a : Addr} {o : HO} (s : Same H H') (n : H a = none) : Same H (upd H' a o) := fun b u e => by
  rw [upd_ne (ne_of_none e n)]
  exact s b u e
theorem bf {b : Bool} (h : ¬ b = true) : b = false := Bool.eq_false_iff.mpr h
section
variable {K : PySem.W.Frag} {vs : List V} {H : Hp} {Q : VK} {E : XK}
theorem run_is_letter (h : sp_is_letter K vs H Q E) : t_is_letter K E (DQ Q) (start ns_is_letter vs) H := by
  obtain ⟨c, rfl, q⟩ := h
  refine ⟨_, rfl, rfl, _, rfl, rfl, trivial, _, rfl, ?_⟩
  rw [ascii1]
  refine ite2 (fun h => ?_) (fun h => ?_)
  · have h := of_decide_eq_true h
    refine ⟨_, rfl, rfl, _, rfl, rfl, trivial, ?_⟩
    rw [let_ok c h]
    exact q
  · have e : isLet c = false := by
      cases e : isLet c with
      | false => rfl
      | true => exact absurd (decide_eq_true (isLet_lt e)) h
    show Q (.bl false) H
    rw [← e]
    exact q
theorem run_is_word_part (h : sp_is_word_part K vs H Q E) : t_is_word_part K E (DQ Q) (start ns_is_word_part vs) H := by
  obtain ⟨c, rfl, q⟩ := h
  refine ⟨_, rfl, c, rfl, _, rfl, ?_⟩
  have e : isWP c = (isLet c || (isDig c || c == 95)) := rfl
  refine ite2 (fun h => ?_) (fun h => ?_)
  · rw [e, h] at q
    exact q
  · have h := bf h
    refine ⟨_, rfl, c, _, rfl, rfl, _, rfl, ?_⟩
    rw [digits_mem]
    refine ite2 (fun h2 => ?_) (fun h2 => ?_)
    · rw [e, h, h2] at q
      exact q
    · have h2 := bf h2
      refine ⟨_, rfl, rfl, ?_⟩
      rw [under1, dec_one]
      rw [e, h, h2] at q
      rw [Bool.false_or, Bool.false_or] at q
      rw [show decide (c = 95) = (c == 95) by rw [Bool.beq_eq_decide_eq]]
      exact q
theorem isdigit_ok {w : List Nat} (hne : w ≠ []) (hw : ∀ x ∈ w, isWP x = true) : Txt.isdigit (Tx w) = w.all isDig := by
  have h1 : (Tx w).length > 0 := List.length_pos_iff.mpr hne
  show (decide ((Tx w).length > 0) && w.toArray.all PySem.Unicode.isDigit) = _
  rw [decide_eq_true h1, Bool.true_and, List.all_toArray]
  rw [Bool.eq_iff_iff, List.all_eq_true, List.all_eq_true]
  exact ⟨fun h x hx => by rw [← dig_ok x (isWP_lt (hw x hx))]; exact h x hx, fun h x hx => by rw [dig_ok x (isWP_lt (hw x hx))]; exact h x hx⟩
theorem isascii_ok {w : List Nat} (hw : ∀ x ∈ w, isWP x = true) : Txt.isascii (Tx w) = true := by
  show w.toArray.all (fun x => decide (x < 128)) = true
  rw [List.all_toArray, List.all_eq_true]
  exact fun x hx => decide_eq_true (isWP_lt (hw x hx))
theorem run_is_number (h : sp_is_number K vs H Q E) : t_is_number K E (DQ Q) (start ns_is_number vs) H := by
  obtain ⟨w, rfl, hne, hl, hw, q⟩ := h
  refine ⟨_, rfl, rfl, _, rfl, rfl, trivial, _, rfl, ?_⟩
  rw [isascii_ok hw]
  refine iteF ?_
  refine ⟨_, rfl, rfl, _, rfl, rfl, trivial, _, rfl, ?_⟩
  rw [isdigit_ok hne hw]
  have e : isNum w = (w.all isDig && (!(decide (1 < w.length) && (w.head? == some 48)) && (decide (w.length ≤ 13) && decide (val w ≤ 1000000000000)))) := rfl
  refine ite2 (fun h => ?_) (fun h => ?_)
  · have h : w.all isDig = false := by simpa using h
    rw [e, h] at q
    exact q
  · have h : w.all isDig = true := by simpa using h
    have hz : (Tx w).length ≤ sizeLine := small_len hl
    have hpos : 0 < w.length := List.length_pos_iff.mpr hne
    refine ⟨_, rfl, _, rfl, hz, _, _, rfl, rfl, _, rfl, ?_⟩
    have e1 : decide ((1 : Int) < ((Tx w).length : Int)) = decide (1 < w.length) := by
      rw [Tx_len]
      exact decide_eq_decide.mpr (by omega)
    rw [e1]
    have tail : (decide (1 < w.length) && (w.head? == some 48)) = false →
        (tRet (tAndV (tOp rLeI (tCB rLenS (tCons (tVar 0) tNil)) (tC (.int 13))) (tOp rLeI (tCB rIntS (tCons (tVar 0) tNil)) (tC (.int 1000000000000))))) (DQ Q) (start ns_is_number [V.str (Tx w)]) H := fun hh => by
      rw [e, h, hh] at q
      rw [Bool.true_and, Bool.not_false, Bool.true_and] at q
      refine ⟨_, rfl, _, rfl, hz, _, _, rfl, rfl, _, rfl, ?_⟩
      have e2 : decide (((Tx w).length : Int) ≤ 13) = decide (w.length ≤ 13) := by
        rw [Tx_len]
        exact decide_eq_decide.mpr (by omega)
      rw [e2]
      refine ite2 (fun h3 => ?_) (fun h3 => ?_)
      · have h3' := of_decide_eq_true h3
        have hd : NumText.AllDigits (Tx w).cps.toList := fun x hx => by
          have q := List.all_eq_true.mp h x hx
          unfold isDig at q
          simp at q
          exact q
        have hi := intText_digits hd (by exact hne) (by show w.length ≤ 4300; omega)
        refine ⟨_, rfl, _, _, rfl, hi, (by show w.length ≤ 640; omega), _, _, rfl, rfl, ?_⟩
        have e3 : decide (((NumText.digitsVal (Tx w).cps.toList : Nat) : Int) ≤ 1000000000000) = decide (val w ≤ 1000000000000) := by
          show decide (((val w : Nat) : Int) ≤ 1000000000000) = _
          exact decide_eq_decide.mpr (by omega)
        show Q (.bl (decide (((NumText.digitsVal (Tx w).cps.toList : Nat) : Int) ≤ 1000000000000))) H
        rw [e3]
        rw [h3, Bool.true_and] at q
        exact q
      · have h3 := bf h3
        rw [h3, Bool.false_and] at q
        exact q
    refine ite2 (fun h2 => ?_) (fun h2 => ?_)
    · obtain ⟨c, cs, rfl⟩ : ∃ c cs, w = c :: cs := by
        cases w with
        | nil => exact absurd rfl hne
        | cons c cs => exact ⟨c, cs, rfl⟩
      refine ⟨_, rfl, _, _, c, rfl, rfl, hz, atI_nat (j := 0) rfl, rfl, _, rfl, ?_⟩
      rw [show ("0" : Str) = ⟨#[48]⟩ by decide +kernel, dec_one]
      refine ite2 (fun h3 => ?_) (fun h3 => ?_)
      · have h3 := of_decide_eq_true h3
        have e4 : (decide (1 < (c :: cs).length) && ((c :: cs).head? == some 48)) = true := by rw [h2, h3]; simp
        rw [e, h, e4] at q
        exact q
      · refine tail ?_
        rw [h2]
        have : ¬ c = 48 := fun z => h3 (decide_eq_true z)
        simp [this]
    · refine iteF (tail ?_)
      rw [bf h2]
      rfl
theorem in_list (L : List (List Nat)) (w : List Nat) : inV (.str (Tx w)) (L.map fun k => V.str (Tx k)) = decide (w ∈ L) := by
  unfold inV
  rw [Bool.eq_iff_iff, List.any_eq_true, decide_eq_true_iff]
  constructor
  · rintro ⟨v, hv, e⟩
    obtain ⟨k, hk, rfl⟩ := List.mem_map.mp hv
    have e : (Tx k == Tx w) = true := e
    have := Tx_inj (beq_iff_eq.mp e)
    rw [← this]
    exact hk
  · intro h
    exact ⟨V.str (Tx w), List.mem_map.mpr ⟨w, h, rfl⟩, by show (Tx w == Tx w) = true; simp⟩
theorem take_word : ∀ l : List Nat, l.take (word l).length = word l
  | [] => rfl
  | x :: xs => by
    unfold word
    rw [List.takeWhile_cons]
    split
    · rw [List.length_cons, List.take_succ_cons]
      exact congrArg (x :: ·) (take_word xs)
    · rfl
theorem word_all : ∀ (l : List Nat), ∀ y ∈ word l, isWP y = true
  | [], y, h => by cases h
  | x :: xs, y, h => by
    unfold word at h
    rw [List.takeWhile_cons] at h
    split at h
    · rename_i hx
      rcases List.mem_cons.mp h with rfl | h
      · exact hx
      · exact word_all xs y h
    · cases h
theorem flat_map (l : List (List Nat)) : (l.map fun k => V.str (Tx k)).all flatV = true := by
  rw [List.all_eq_true]
  intro v hv
  obtain ⟨k, _, rfl⟩ := List.mem_map.mp hv
  rfl
theorem run_word_kind (hK : ∀ H, SqT K H (He.ga K ("KEYWORDS" : Str)) (kwL.map fun k => V.str (Tx k))) (h : sp_word_kind K vs H Q E) : t_word_kind K E (DQ Q) (start ns_word_kind vs) H := by
  obtain ⟨w, rfl, q⟩ := h
  refine ⟨_, rfl, _, _, rfl, .inr (hK H), rfl, flat_map _, _, rfl, ?_⟩
  rw [if_neg Bool.false_ne_true, in_list]
  have e : kindOf w = if w ∈ kwL then .keyword else .name := rfl
  refine ite2 (fun h => ?_) (fun h => ?_)
  · rw [e, if_pos (of_decide_eq_true h)] at q
    exact q
  · rw [e, if_neg (fun z => h (decide_eq_true z))] at q
    exact q
theorem skip_true : ∀ (l : List Nat) (r c : Int), skip true l r c = skip false (l.drop (rowLen l)) r (c + (rowLen l : Nat))
  | [], r, c => by
    show ([], r, c) = ([], r, c + ((0 : Nat) : Int))
    rw [Int.natCast_zero, Int.add_zero]
  | x :: xs, r, c => by
    unfold rowLen
    rw [List.takeWhile_cons]
    by_cases h : x = 10
    · rw [skip, if_pos h, if_neg (by simp [h])]
      show _ = skip false (x :: xs) r _
      rw [skip, if_pos h]
    · rw [skip, if_neg h, if_pos (by simpa using h), skip_true xs r (c + 1), List.length_cons, List.drop_succ_cons]
      congr 1
      unfold rowLen
      omega
theorem cut_any (l : List Nat) (i n : Nat) : cutS (Tx l) (some (i : Int)) (some ((i + n : Nat) : Int)) = Tx ((l.drop i).take n) := by
  unfold cutS
  rw [HT.sIx_nat, HT.sIx_nat, Tx_len]
  refine TL.ext_tl ?_
  show (l.drop (min i l.length)).take (min (i + n) l.length - min i l.length) = (l.drop i).take n
  by_cases h : i ≤ l.length
  · rw [Nat.min_eq_left h]
    by_cases h2 : i + n ≤ l.length
    · rw [Nat.min_eq_left h2, Nat.add_sub_cancel_left]
    · rw [Nat.min_eq_right (by omega), List.take_of_length_le (by rw [List.length_drop]; omega), List.take_of_length_le (by rw [List.length_drop]; omega)]
  · rw [Nat.min_eq_right (show l.length ≤ i by omega), List.drop_eq_nil_of_le (Nat.le_refl _), List.drop_eq_nil_of_le (show l.length ≤ i by omega), List.take_nil, List.take_nil]
theorem cut_ok (l : List Nat) (i n : Nat) (h : i + n ≤ l.length) : cutS (Tx l) (some (i : Int)) (some ((i + n : Nat) : Int)) = Tx ((l.drop i).take n) := by
  unfold cutS
  rw [HT.sIx_nat, HT.sIx_nat, Tx_len, Nat.min_eq_left (show i ≤ l.length by omega), Nat.min_eq_left h, Nat.add_sub_cancel_left]
theorem drop_cons {l : List Nat} {i : Nat} (h : i < l.length) : l.drop i = l[i] :: l.drop (i + 1) := List.drop_eq_getElem_cons h
section
variable (S : ScC K)
include S
theorem run_Scanner_init (h : sp_Scanner_init K vs H Q E) : t_Scanner_init K E (DQ Q) (start ns_Scanner_init vs) H := by
  obtain ⟨p, dx, l, rfl, hp, q⟩ := h
  refine ⟨_, rfl, _, rfl, p, _, dx, _, rfl, hp, S.cl, S.nt, (by show 0 < 1000; decide), ?_⟩
  refine ⟨_, rfl, p, _, dx, _, rfl, upd_same, S.cl, S.na, (by show 1 < 1000; decide), ?_⟩
  rw [upd_upd]
  refine ⟨_, rfl, p, _, dx, _, rfl, upd_same, S.cl, S.nr, (by rw [pf_nil, pf_ne neTA, pf_nil]; show 2 < 1000; decide), ?_⟩
  rw [upd_upd]
  refine ⟨_, rfl, p, _, dx, _, rfl, upd_same, S.cl, S.nc, (by rw [pf_nil, pf_ne neTA, pf_nil, pf_ne neTR, pf_ne neAR, pf_nil]; show 3 < 1000; decide), ?_⟩
  rw [upd_upd, scF_init]
  exact q
theorem run_Scanner_is_done (h : sp_Scanner_is_done K vs H Q E) : t_Scanner_is_done K E (DQ Q) (start ns_Scanner_is_done vs) H := by
  obtain ⟨p, dx, l, i, r, c, rfl, ⟨hp, hl, hi⟩, q⟩ := h
  refine ⟨_, rfl, p, _, dx, _, _, rfl, hp, S.cl, S.na, scF_at, _, rfl, p, _, dx, _, _, rfl, hp, S.cl, S.nt, scF_text, _, rfl, small_len hl, rfl, ?_⟩
  rw [dec_int]
  have e : ((i : Int) == ((Tx l).length : Int)) = decide (i = l.length) := by
    rw [Tx_len, Bool.beq_eq_decide_eq]
    exact decide_eq_decide.mpr (by omega)
  rw [e]
  exact q
theorem run_Scanner_skip_newline (h : sp_Scanner_skip_newline K vs H Q E) : t_Scanner_skip_newline K E (DQ Q) (start ns_Scanner_skip_newline vs) H := by
  obtain ⟨p, dx, l, i, r, c, rfl, ⟨hp, hl, hi⟩, q⟩ := h
  refine ⟨_, rfl, p, _, dx, _, _, rfl, hp, S.cl, S.na, scF_at, _, _, rfl, rfl, dx, _, hp, scF_len, ?_⟩
  rw [scF_pat]
  refine ⟨_, rfl, p, _, dx, _, _, rfl, upd_same, S.cl, S.nr, scF_row, _, _, rfl, rfl, dx, _, upd_same, scF_len, ?_⟩
  rw [upd_upd, scF_prow]
  refine ⟨_, rfl, p, _, dx, _, rfl, upd_same, S.cl, S.nc, scF_len, ?_⟩
  rw [upd_upd, scF_pcol]
  exact q
theorem run_Scanner_row_end (h : sp_Scanner_row_end K vs H Q E) : t_Scanner_row_end K E (DQ Q) (start ns_Scanner_row_end vs) H := by
  obtain ⟨p, dx, l, i, r, c, rfl, ⟨hp, hl, hi⟩, q⟩ := h
  refine ⟨_, rfl, p, _, dx, _, _, rfl, hp, S.cl, S.nt, scF_text, rfl, _, rfl, p, _, dx, _, _, rfl, hp, S.cl, S.na, scF_at, _, _, _, rfl, rfl, ?_⟩
  rw [find_nl l i hi]
  by_cases e : i + ((l.drop i).takeWhile (fun c => c != 10)).length = l.length
  · rw [if_pos e]
    refine ⟨_, rfl, _, rfl, rfl, _, rfl, iteT ?_⟩
    refine ⟨_, rfl, p, _, dx, _, _, rfl, hp, S.cl, S.nt, scF_text, _, rfl, small_len hl, ?_⟩
    rw [Tx_len, ← e]
    exact q
  · rw [if_neg e]
    refine ⟨_, rfl, _, rfl, rfl, _, rfl, ?_⟩
    rw [dec_int, show ((((i + ((l.drop i).takeWhile (fun c => c != 10)).length : Nat) : Int)) == -1) = false by rw [Bool.beq_eq_decide_eq]; exact decide_eq_false (by omega)]
    refine iteF ⟨_, rfl, q⟩
theorem run_Scanner_word_end (h : sp_Scanner_word_end K vs H Q E) : t_Scanner_word_end K E (DQ Q) (start ns_Scanner_word_end vs) H := by
  obtain ⟨p, dx, l, i, r, c, rfl, ⟨hp, hl, hi⟩, q⟩ := h
  refine ⟨_, rfl, p, _, dx, _, _, rfl, hp, S.cl, S.na, scF_at, ?_⟩
  refine ⟨fun m σ H' => H' = H ∧ ∃ j : Nat, m = l.length - j ∧ σ = [some (.ref p), some (.int (j : Int))] ∧ j ≤ l.length ∧ i + (word (l.drop i)).length = j + (word (l.drop j)).length, ⟨_, rfl, i, rfl, rfl, hi, rfl⟩, ?_⟩
  rintro m σ H' ⟨rfl, j, rfl, rfl, hj, e⟩
  refine ⟨_, rfl, _, rfl, p, _, dx, _, _, rfl, hp, S.cl, S.nt, scF_text, _, rfl, small_len hl, _, _, rfl, rfl, _, rfl, ?_⟩
  have fin : (word (l.drop j)).length = 0 → (tRet (tVar 1)) (DQ Q) [some (.ref p), some (.int (j : Int))] H' := fun hz => by
    refine ⟨_, rfl, ?_⟩
    rw [hz, Nat.add_zero] at e
    rw [← e]
    exact q
  by_cases hlt : j < l.length
  · rw [decide_eq_true (show (j : Int) < ((Tx l).length : Int) by rw [Tx_len]; omega)]
    refine iteT ?_
    refine ⟨_, rfl, p, _, dx, _, _, rfl, hp, S.cl, S.nt, scF_text, _, rfl, _, _, l[j], rfl, rfl, small_len hl, atI_nat (j := j) (by rw [List.getElem?_eq_getElem hlt]), l[j], rfl, _, rfl, ?_⟩
    refine ite2 (fun h => ?_) (fun h => ?_)
    · refine ⟨fun σ' H'' => H'' = H' ∧ ∃ j2 : Nat, σ' = [some (.ref p), some (.int (j2 : Int))] ∧ j2 = j + 1, ?_, ?_⟩
      · rintro σ' H'' ⟨rfl, j2, rfl, rfl⟩
        refine ⟨l.length - (j + 1), by omega, rfl, j + 1, rfl, rfl, hlt, ?_⟩
        rw [e, drop_cons hlt]
        unfold word
        rw [List.takeWhile_cons, if_pos h, List.length_cons]
        omega
      · exact ⟨_, rfl, _, _, rfl, rfl, rfl, j + 1, rfl, rfl⟩
    · refine fin ?_
      rw [drop_cons hlt]
      unfold word
      rw [List.takeWhile_cons, if_neg h]
      rfl
  · rw [decide_eq_false (show ¬ (j : Int) < ((Tx l).length : Int) by rw [Tx_len]; omega)]
    refine iteF (fin ?_)
    rw [List.drop_eq_nil_of_le (by omega)]
    rfl
theorem run_Scanner_take_to (h : sp_Scanner_take_to K vs H Q E) : t_Scanner_take_to K E (DQ Q) (start ns_Scanner_take_to vs) H := by
  obtain ⟨p, dx, l, i, n, r, c, rfl, ⟨hp, hl, hi⟩, hn, q⟩ := h
  refine ⟨_, rfl, p, _, dx, _, _, rfl, hp, S.cl, S.nt, scF_text, ?_⟩
  refine ⟨_, rfl, p, _, dx, _, _, rfl, hp, S.cl, S.na, scF_at, _, rfl, _, rfl, _, rfl, _, rfl, small_len hl, ?_⟩
  rw [cut_ok l i n hn]
  refine ⟨_, rfl, p, _, dx, _, _, rfl, hp, S.cl, S.nc, scF_col, _, rfl, _, rfl, p, _, dx, _, _, rfl, hp, S.cl, S.na, scF_at, _, _, rfl, rfl, _, _, rfl, rfl, dx, _, hp, scF_len, ?_⟩
  rw [scF_pcol]
  refine ⟨_, rfl, _, rfl, p, _, dx, _, rfl, upd_same, S.cl, S.na, scF_len, ?_⟩
  rw [upd_upd, scF_pat, show c + (((i + n : Nat) : Int) - (i : Int)) = c + n by omega]
  exact ⟨_, rfl, q⟩
theorem run_Scanner_skip_gaps (h : sp_Scanner_skip_gaps K vs H Q E) : t_Scanner_skip_gaps K E (DQ Q) (start ns_Scanner_skip_gaps vs) H := by
  obtain ⟨p, dx, l, i, r, c, rfl, ⟨hp, hl, hi⟩, q⟩ := h
  refine ⟨fun m σ H' => ∃ (j : Nat) (r2 c2 : Int) (cv : Option V), m = l.length - j ∧ σ = [some (.ref p), cv] ∧ H' = upd H p (scO K dx l j r2 c2) ∧ j ≤ l.length ∧ skip false (l.drop i) r c = skip false (l.drop j) r2 c2,
    ⟨_, i, r, c, none, rfl, rfl, (upd_self hp).symm, hi, rfl⟩, ?_⟩
  rintro m σ H' ⟨j, r2, c2, cv, rfl, rfl, rfl, hj, e⟩
  refine ⟨_, rfl, p, dx, _, rfl, upd_same, scF_no (by decide +kernel) (by decide +kernel) (by decide +kernel) (by decide +kernel), p, dx, l, j, r2, c2, rfl, ⟨upd_same, hl, hj⟩, _, rfl, ?_⟩
  by_cases hlt : j < l.length
  · rw [decide_eq_false (show ¬ j = l.length by omega)]
    refine iteT ⟨fun σ' H'' => ∃ m', m' < l.length - j ∧ ∃ (j2 : Nat) (r3 c3 : Int) (cv : Option V), m' = l.length - j2 ∧ σ' = [some (.ref p), cv] ∧ H'' = upd H p (scO K dx l j2 r3 c3) ∧ j2 ≤ l.length ∧ skip false (l.drop i) r c = skip false (l.drop j2) r3 c3, fun _ _ z => z, ?_⟩
    have ed := drop_cons hlt
    refine ⟨_, rfl, p, _, dx, _, _, rfl, upd_same, S.cl, S.nt, scF_text, _, rfl, p, _, dx, _, _, rfl, upd_same, S.cl, S.na, scF_at, _, _, l[j], rfl, rfl, small_len hl, atI_nat (j := j) (by rw [List.getElem?_eq_getElem hlt]), ?_⟩
    refine ⟨_, rfl, rfl, _, rfl, ?_⟩
    rw [nl1, dec_one]
    refine ite2 (fun h => ?_) (fun h => ?_)
    · have h := of_decide_eq_true h
      refine ⟨_, rfl, p, dx, _, rfl, upd_same, scF_no (by decide +kernel) (by decide +kernel) (by decide +kernel) (by decide +kernel), p, dx, l, j, r2, c2, rfl, ⟨upd_same, hl, hj⟩, ?_⟩
      rw [upd_upd]
      refine ⟨l.length - (j + 1), by omega, j + 1, r2 + 1, 1, _, rfl, rfl, rfl, hlt, ?_⟩
      rw [e, ed, skip, if_pos h]
    · have h : ¬ l[j] = 10 := fun z => h (decide_eq_true z)
      refine ⟨_, rfl, rfl, _, rfl, ?_⟩
      rw [show (" " : Str) = ⟨#[32]⟩ by decide +kernel, dec_one]
      refine ite2 (fun h2 => ?_) (fun h2 => ?_)
      · have h2 := of_decide_eq_true h2
        refine ⟨_, rfl, p, dx, _, rfl, upd_same, scF_no (by decide +kernel) (by decide +kernel) (by decide +kernel) (by decide +kernel), _, rfl, p, _, dx, _, _, rfl, upd_same, S.cl, S.na, scF_at, _, _, rfl, rfl,
          p, dx, l, j, 1, r2, c2, rfl, ⟨upd_same, hl, hj⟩, hlt, ?_⟩
        rw [upd_upd]
        refine ⟨l.length - (j + 1), by omega, j + 1, r2, c2 + 1, _, rfl, rfl, rfl, hlt, ?_⟩
        rw [e, ed, skip, if_neg h, if_pos h2]
      · have h2 : ¬ l[j] = 32 := fun z => h2 (decide_eq_true z)
        refine ⟨_, rfl, rfl, _, rfl, ?_⟩
        rw [show ("#" : Str) = ⟨#[35]⟩ by decide +kernel, dec_one]
        refine ite2 (fun h3 => ?_) (fun h3 => ?_)
        · have h3 := of_decide_eq_true h3
          have hr : rowLen (l.drop j) = rowLen (l.drop (j + 1)) + 1 := by
            rw [ed]
            show (List.takeWhile (fun c => c != 10) (l[j] :: l.drop (j + 1))).length = _
            rw [List.takeWhile_cons, if_pos (by simpa using h)]
            rfl
          have hrl : rowLen (l.drop j) ≤ (l.drop j).length := takeWhile_len _ _
          rw [List.length_drop] at hrl
          refine ⟨_, rfl, p, dx, _, rfl, upd_same, scF_no (by decide +kernel) (by decide +kernel) (by decide +kernel) (by decide +kernel), _, rfl, p, dx, _, rfl, upd_same, scF_no (by decide +kernel) (by decide +kernel) (by decide +kernel) (by decide +kernel),
            p, dx, l, j, r2, c2, rfl, ⟨upd_same, hl, hj⟩, p, dx, l, j, rowLen (l.drop j), r2, c2, rfl, ⟨upd_same, hl, hj⟩, by omega, ?_⟩
          rw [upd_upd]
          refine ⟨l.length - (j + rowLen (l.drop j)), by omega, j + rowLen (l.drop j), r2, c2 + (rowLen (l.drop j) : Nat), _, rfl, rfl, rfl, by omega, ?_⟩
          rw [e, ed, skip, if_neg h, if_neg h2, if_pos h3, skip_true, List.drop_drop, ← ed, hr]
          congr 1
          · congr 1
            omega
          · omega
        · have h3 : ¬ l[j] = 35 := fun z => h3 (decide_eq_true z)
          refine q j r2 c2 hj ?_
          rw [e, ed, skip_here ⟨h, h2, h3⟩]
  · rw [decide_eq_true (show j = l.length by omega)]
    refine iteF (q j r2 c2 hj ?_)
    rw [e, List.drop_eq_nil_of_le (by omega)]
    rfl
theorem run_Scanner_take_sign {EW : EWT} {rz0 : TS} (hLg : ∀ H, SqT K H (He.ga K ("LONG_SIGNS" : Str)) (longL.map fun k => V.str (Tx k))) (hSh : ∀ H, SqT K H (He.ga K ("SHORT_SIGNS" : Str)) (shortL.map fun k => V.str (Tx k)))
    (hz : ∀ (D : Ends) (σ : L2.St) (H : Hp) (p dx : Addr) (l : List Nat) (i : Nat) (r c : Int), σ[0]? = some (some (.ref p)) → Sc K H p dx l i r c → EW "BadCharacter" r c E H → rz0 D σ H)
    (h : sp_Scanner_take_sign K EW vs H Q E) : t_Scanner_take_sign K EW E rz0 (DQ Q) (start ns_Scanner_take_sign vs) H := by
  obtain ⟨p, dx, l, i, r, c, x, xs, rfl, ⟨hp, hl, hi⟩, ed, h1, h2, q, qe⟩ := h
  have hlt : i < l.length := by
    have := congrArg List.length ed
    rw [List.length_drop, List.length_cons] at this
    omega
  have hx : l[i]? = some x := by
    have := congrArg List.head? ed
    rw [List.head?_drop] at this
    exact this
  have est : Lx.step x xs r c = if (x :: xs).take 2 ∈ longL then .ok (⟨.sign, (x :: xs).take 2, r, c⟩, (x :: xs).drop 2, r, c + 2) else if [x] ∈ shortL then .ok (⟨.sign, [x], r, c⟩, xs, r, c + 1) else .error (.char, r, c) := by
    unfold Lx.step
    rw [if_neg (by rw [h1]; exact Bool.false_ne_true), if_neg (by rw [h2]; exact Bool.false_ne_true)]
  refine ⟨_, rfl, p, _, dx, _, _, rfl, hp, S.cl, S.nt, scF_text, _, rfl, p, _, dx, _, _, rfl, hp, S.cl, S.na, scF_at, _, rfl, _, rfl, p, _, dx, _, _, rfl, hp, S.cl, S.na, scF_at, _, _, rfl, rfl, _, rfl, _, rfl, small_len hl, ?_⟩
  rw [show (i : Int) + 2 = ((i + 2 : Nat) : Int) by omega, cut_any, ed]
  refine ⟨_, rfl, _, _, rfl, .inr (hLg H), rfl, flat_map _, _, rfl, ?_⟩
  rw [if_neg Bool.false_ne_true, in_list]
  refine ite2 (fun h3 => ?_) (fun h3 => ?_)
  · have h3 := of_decide_eq_true h3
    have h2l : i + 2 ≤ l.length := by
      have e : ∀ w ∈ longL, w.length = 2 := by decide +kernel
      have q := e _ h3
      rw [← ed, List.length_take, List.length_drop] at q
      omega
    refine ⟨_, rfl, p, dx, _, rfl, hp, scF_no (by decide +kernel) (by decide +kernel) (by decide +kernel) (by decide +kernel), _, rfl, p, _, dx, _, _, rfl, hp, S.cl, S.na, scF_at, _, _, rfl, rfl,
      p, dx, l, i, 2, r, c, rfl, ⟨hp, hl, hi⟩, h2l, ?_⟩
    rw [ed]
    refine q _ 2 h2l ?_
    rw [est, if_pos h3, ← ed, List.drop_drop]
    rfl
  · have h3 : ¬ (x :: xs).take 2 ∈ longL := fun z => h3 (decide_eq_true z)
    rw [if_neg h3] at est
    refine ⟨_, rfl, p, _, dx, _, _, rfl, hp, S.cl, S.nt, scF_text, _, rfl, p, _, dx, _, _, rfl, hp, S.cl, S.na, scF_at, _, _, x, rfl, rfl, small_len hl, atI_nat (j := i) hx, _, _, rfl, .inr (hSh H), rfl, flat_map _, _, rfl, ?_⟩
    rw [if_neg Bool.false_ne_true, show (⟨#[x]⟩ : Str) = Tx [x] from rfl, in_list]
    refine ite2 (fun h4 => ?_) (fun h4 => ?_)
    · have h4 := of_decide_eq_true h4
      refine ⟨_, rfl, p, dx, _, rfl, hp, scF_no (by decide +kernel) (by decide +kernel) (by decide +kernel) (by decide +kernel), _, rfl, p, _, dx, _, _, rfl, hp, S.cl, S.na, scF_at, _, _, rfl, rfl,
        p, dx, l, i, 1, r, c, rfl, ⟨hp, hl, hi⟩, hlt, ?_⟩
      rw [ed]
      refine q _ 1 hlt ?_
      rw [est, if_pos h4, ← List.drop_drop, ed]
      rfl
    · have h4 : ¬ [x] ∈ shortL := fun z => h4 (decide_eq_true z)
      rw [if_neg h4] at est
      exact hz _ _ _ p dx l i r c rfl ⟨hp, hl, hi⟩ (qe est)
theorem run_Scanner_take_token {EW : EWT} {rz0 : TS} (hz : ∀ (D : Ends) (σ : L2.St) (H : Hp) (r c : Int), σ[1]? = some (some (.int r)) → σ[2]? = some (some (.int c)) → EW "BadNumber" r c E H → rz0 D σ H)
    (h : sp_Scanner_take_token K EW vs H Q E) : t_Scanner_take_token K EW E rz0 (DQ Q) (start ns_Scanner_take_token vs) H := by
  obtain ⟨p, dx, l, i, r, c, x, xs, rfl, ⟨hp, hl, hi⟩, ed, q, qe⟩ := h
  have hlt : i < l.length := by
    have := congrArg List.length ed
    rw [List.length_drop, List.length_cons] at this
    omega
  have hx : l[i]? = some x := by
    have := congrArg List.head? ed
    rw [List.head?_drop] at this
    exact this
  have wl := word_len (l.drop i)
  rw [List.length_drop] at wl
  have wd : (l.drop i).take (word (l.drop i)).length = word (l.drop i) := take_word _
  have dw : (x :: xs).drop (word (l.drop i)).length = l.drop (i + (word (l.drop i)).length) := by rw [← ed, List.drop_drop]
  have hn : i + (word (l.drop i)).length ≤ l.length := by omega
  refine ⟨_, rfl, p, _, dx, _, _, rfl, hp, S.cl, S.nr, scF_row, _, rfl, p, _, dx, _, _, rfl, hp, S.cl, S.nc, scF_col, _, rfl, p, _, dx, _, _, rfl, hp, S.cl, S.nt, scF_text, _, rfl, p, _, dx, _, _, rfl, hp, S.cl, S.na, scF_at, _, _, x, rfl, rfl, small_len hl, atI_nat (j := i) hx, ?_⟩
  refine ⟨_, rfl, x, rfl, _, rfl, ?_⟩
  refine ite2 (fun h1 => ?_) (fun h1 => ?_)
  · -- a name or a keyword
    refine ⟨_, rfl, p, dx, _, rfl, hp, scF_no (by decide +kernel) (by decide +kernel) (by decide +kernel) (by decide +kernel), _, rfl, p, dx, _, rfl, hp, scF_no (by decide +kernel) (by decide +kernel) (by decide +kernel) (by decide +kernel),
      p, dx, l, i, r, c, rfl, ⟨hp, hl, hi⟩, p, dx, l, i, (word (l.drop i)).length, r, c, rfl, ⟨hp, hl, hi⟩, hn, ?_⟩
    rw [wd]
    refine ⟨_, rfl, word (l.drop i), rfl, _, rfl, _, rfl, _, rfl, (by show 4 ≤ sizeLine; decide), fun a na => ?_⟩
    have nap : a ≠ p := fun z => by rw [z, upd_same] at na; cases na
    rw [upd_ne nap] at na
    refine q ⟨kindOf (word (l.drop i)), word (l.drop i), r, c⟩ _ a _ hn ?_ na rfl
    unfold Lx.step
    rw [if_pos h1, ← ed, List.drop_drop]
  · have h1 := bf h1
    refine ⟨_, rfl, x, _, rfl, rfl, _, rfl, ?_⟩
    rw [digits_mem]
    refine ite2 (fun h2 => ?_) (fun h2 => ?_)
    · -- what begins with a digit
      have hall : ∀ y ∈ word (l.drop i), isWP y = true := word_all _
      have hne : word (l.drop i) ≠ [] := by
        rw [ed]
        have := word_pos (x := x) (xs := xs) (by unfold isWP; rw [h2]; simp)
        exact List.ne_nil_of_length_pos this
      refine ⟨_, rfl, p, dx, _, rfl, hp, scF_no (by decide +kernel) (by decide +kernel) (by decide +kernel) (by decide +kernel), _, rfl, p, dx, _, rfl, hp, scF_no (by decide +kernel) (by decide +kernel) (by decide +kernel) (by decide +kernel),
        p, dx, l, i, r, c, rfl, ⟨hp, hl, hi⟩, p, dx, l, i, (word (l.drop i)).length, r, c, rfl, ⟨hp, hl, hi⟩, hn, ?_⟩
      rw [wd]
      refine ⟨_, rfl, word (l.drop i), rfl, hne, by omega, hall, _, rfl, ?_⟩
      have est : Lx.step x xs r c = if isNum (word (x :: xs)) then .ok (⟨.number, word (x :: xs), r, c⟩, (x :: xs).drop (word (x :: xs)).length, r, c + (word (x :: xs)).length) else .error (.num, r, c) := by
        unfold Lx.step
        rw [if_neg (by rw [h1]; exact Bool.false_ne_true), if_pos h2]
      rw [← ed] at est
      cases hnum : isNum (word (l.drop i)) with
      | false =>
        refine iteT ?_
        rw [hnum, if_neg Bool.false_ne_true] at est
        exact hz _ _ _ r c rfl rfl (qe .num _ est (.inr ⟨_, rfl⟩))
      | true =>
        refine iteF ?_
        rw [hnum, if_pos rfl, List.drop_drop] at est
        refine ⟨_, rfl, _, rfl, _, rfl, (by show 4 ≤ sizeLine; decide), fun a na => ?_⟩
        have nap : a ≠ p := fun z => by rw [z, upd_same] at na; cases na
        rw [upd_ne nap] at na
        exact q ⟨.number, word (l.drop i), r, c⟩ _ a _ hn est na rfl
    · have h2 := bf h2
      refine ⟨_, rfl, p, dx, _, rfl, hp, scF_no (by decide +kernel) (by decide +kernel) (by decide +kernel) (by decide +kernel), p, dx, l, i, r, c, x, xs, rfl, ⟨hp, hl, hi⟩, ed, h1, h2, fun t n hn est => ?_, fun est => qe .char _ est (.inl rfl)⟩
      refine ⟨_, rfl, _, rfl, (by show 4 ≤ sizeLine; decide), fun a na => ?_⟩
      have nap : a ≠ p := fun z => by rw [z, upd_same] at na; cases na
      rw [upd_ne nap] at na
      exact q ⟨.sign, t, r, c⟩ n a _ hn est na rfl
theorem run_tokens {EW : EWT} (h : sp_tokens K EW vs H Q E) : t_tokens K EW E (DQ Q) (start ns_tokens vs) H := by
  obtain ⟨l, rfl, hl, q, qe⟩ := h
  refine ⟨_, rfl, fun x dx nx ndx nex => ?_⟩
  refine ⟨x, dx, l, rfl, upd_same, rfl, ?_⟩
  rw [upd_upd]
  refine ⟨(by show 0 ≤ sizeLine; decide), fun f nf => ?_⟩
  have nfx : f ≠ x := fun z => by rw [z, upd_same] at nf; cases nf
  have nfd : f ≠ dx := fun z => by rw [z, upd_ne nex, upd_same] at nf; cases nf
  have nfH : H f = none := by rw [upd_ne nfx, upd_ne nfd] at nf; exact nf
  have s0 : Same H (upd (upd (upd H dx (.own x)) x (scO K dx l 0 1 1)) f (.lst [])) := fun b o e => by
    rw [upd_ne (ne_of_none e nfH), upd_ne (ne_of_none e nx), upd_ne (ne_of_none e ndx)]
    exact e
  -- scanner.skip_gaps()
  refine ⟨_, rfl, x, dx, _, rfl, (by rw [upd_ne nfx.symm, upd_same]), scF_no (by decide +kernel) (by decide +kernel) (by decide +kernel) (by decide +kernel), x, dx, l, 0, 1, 1, rfl, ⟨by rw [upd_ne nfx.symm, upd_same], hl, Nat.zero_le _⟩, fun j r c hj es => ?_⟩
  have start1 : lex l 1 1 = lex (l.drop j) r c := lex_skip (by
    have := skip_idem false (l.drop 0) 1 1
    rw [es] at this
    rw [this, ← es]
    rfl)
  refine ⟨fun m σ H' => ∃ (j : Nat) (r c : Int) (ts : List Tk), m = l.length - j ∧ σ = [some (.str (Tx l)), some (.ref x), some (.ref f)] ∧ H' x = some (scO K dx l j r c) ∧ TksAt H' f ts ∧ ts.length ≤ j ∧ j ≤ l.length ∧ skip false (l.drop j) r c = (l.drop j, r, c) ∧
      lex l 1 1 = (ts ++ (lex (l.drop j) r c).1, (lex (l.drop j) r c).2) ∧ Same H H', ⟨_, j, r, c, [], rfl, rfl, upd_same, ⟨[], ?_, rfl, fun k q t e => by simp at e⟩, Nat.zero_le _, hj, ?_, start1, ?_⟩, ?_⟩
  · rw [upd_ne nfx, upd_same]
    rfl
  · have := skip_idem false (l.drop 0) 1 1
    rw [es] at this
    exact this
  · exact s0.put nx
  rintro m σ H' ⟨j, r, c, ts, rfl, rfl, hx, hT, htl, hj, hs, hlx, s1⟩
  have hsc : Sc K H' x dx l j r c := ⟨hx, hl, hj⟩
  refine ⟨_, rfl, x, dx, _, rfl, hx, scF_no (by decide +kernel) (by decide +kernel) (by decide +kernel) (by decide +kernel), x, dx, l, j, r, c, rfl, hsc, _, rfl, ?_⟩
  obtain ⟨qs, hf, hql, hqs⟩ := id hT
  by_cases hlt : j < l.length
  · rw [decide_eq_false (show ¬ j = l.length by omega)]
    refine iteT ⟨fun σ' H'' => ∃ m', m' < l.length - j ∧ ∃ (j : Nat) (r c : Int) (ts : List Tk), m' = l.length - j ∧ σ' = [some (.str (Tx l)), some (.ref x), some (.ref f)] ∧ H'' x = some (scO K dx l j r c) ∧ TksAt H'' f ts ∧ ts.length ≤ j ∧ j ≤ l.length ∧ skip false (l.drop j) r c = (l.drop j, r, c) ∧
      lex l 1 1 = (ts ++ (lex (l.drop j) r c).1, (lex (l.drop j) r c).2) ∧ Same H H'', fun _ _ z => z, ?_⟩
    have ed := drop_cons hlt
    refine ⟨_, rfl, .inl ⟨rfl, _, SqL.of hf⟩, _, rfl, x, dx, _, rfl, hx, scF_no (by decide +kernel) (by decide +kernel) (by decide +kernel) (by decide +kernel), x, dx, l, j, r, c, l[j], l.drop (j + 1), rfl, hsc, ed, fun t n a H2 hn est na eH2 => ?_, fun e H2 est eH2 => ?_⟩
    · subst eH2
      have nax : a ≠ x := fun z => by rw [z, hx] at na; cases na
      have naf : a ≠ f := fun z => by rw [z, hf] at na; cases na
      have nxf : x ≠ f := nfx.symm
      have hf2 : (upd (upd H' x (scO K dx l (j + n) r (c + n))) a (.tup (tkV t))) f = some (.lst (qs.map V.ref)) := by rw [upd_ne naf.symm, upd_ne nfx]; exact hf
      have hlex : lex (l.drop j) r c = (t :: (lex (l.drop (j + n)) r (c + n)).1, (lex (l.drop (j + n)) r (c + n)).2) := lex_tok (by rw [hs, ed]) est
      have hlen := step_len est
      rw [← ed, List.length_drop, List.length_drop] at hlen
      refine ⟨f, _, _, rfl, rfl, hf2, (by rw [List.length_map, hql]; exact Nat.lt_of_le_of_lt htl (Nat.lt_of_lt_of_le hlt (Nat.le_trans hl (by decide)))), ?_⟩
      have hx3 : (upd (upd (upd H' x (scO K dx l (j + n) r (c + n))) a (.tup (tkV t))) f (.lst (qs.map V.ref ++ [V.ref a]))) x = some (scO K dx l (j + n) r (c + n)) := by rw [upd_ne nxf, upd_ne nax.symm, upd_same]
      refine ⟨_, rfl, x, dx, _, rfl, hx3, scF_no (by decide +kernel) (by decide +kernel) (by decide +kernel) (by decide +kernel), x, dx, l, j + n, r, c + n, rfl, ⟨hx3, hl, hn⟩, fun j2 r2 c2 hj2 es2 => ?_⟩
      have sk : skip false (l.drop j2) r2 c2 = (l.drop j2, r2, c2) := by
        have := skip_idem false (l.drop (j + n)) r (c + n)
        rw [es2] at this
        exact this
      have hlen2 := skip_len false (l.drop (j + n)) r (c + n)
      rw [es2] at hlen2
      rw [List.length_drop, List.length_drop] at hlen2
      refine ⟨l.length - j2, by omega, j2, r2, c2, ts ++ [t], rfl, rfl, upd_same, ⟨qs ++ [a], ?_, ?_, fun k qa ta e1 e2 => ?_⟩, ?_, hj2, sk, ?_, ?_⟩
      · rw [upd_ne nfx, upd_same, List.map_append]
        rfl
      · rw [List.length_append, List.length_append, hql]
        rfl
      · by_cases hk : k < qs.length
        · rw [List.getElem?_append_left hk] at e1
          rw [List.getElem?_append_left (by omega)] at e2
          have h0 := hqs k qa ta e1 e2
          have n1 : qa ≠ x := ne_of h0 hx (by intro z; cases z)
          have n2 : qa ≠ f := ne_of h0 hf (by intro z; cases z)
          have n3 : qa ≠ a := ne_of_none h0 na
          rw [upd_ne n1, upd_ne n2, upd_ne n3, upd_ne n1]
          exact h0
        · have hkl : k < (qs ++ [a]).length := (List.getElem?_eq_some_iff.mp e1).1
          rw [List.length_append, List.length_singleton] at hkl
          have ek : k = qs.length := by omega
          subst ek
          rw [List.getElem?_append_right (Nat.le_refl _), Nat.sub_self] at e1
          rw [hql, List.getElem?_append_right (Nat.le_refl _), Nat.sub_self] at e2
          cases e1
          cases e2
          rw [upd_ne nax, upd_ne naf, upd_same]
      · rw [List.length_append, List.length_singleton]
        omega
      · have e3 : lex (l.drop (j + n)) r (c + n) = lex (l.drop j2) r2 c2 := lex_skip (by rw [sk, es2])
        rw [hlx, hlex, e3, List.append_assoc]
        rfl
      · exact (((s1.put nx).put (s1.free na)).put nfH).put nx
    · have s2 : Same H H2 := by
        rcases eH2 with rfl | ⟨n, rfl⟩
        · exact s1
        · exact s1.put nx
      refine qe ts e r c H2 ?_ s2
      rw [hlx, lex_err (by rw [hs, ed]) est, List.append_nil]
  · have ej : j = l.length := by omega
    subst ej
    rw [decide_eq_true rfl]
    refine iteF ?_
    have nxf : x ≠ f := nfx.symm
    refine ⟨_, rfl, .inl ⟨rfl, _, SqL.of hf⟩, _, rfl, x, _, dx, _, _, rfl, hx, S.cl, S.nr, scF_row, _, rfl, x, _, dx, _, _, rfl, hx, S.cl, S.nc, scF_col, (by show 4 ≤ sizeLine; decide), fun a na => ?_⟩
    have nax : a ≠ x := fun z => by rw [z, hx] at na; cases na
    have naf : a ≠ f := fun z => by rw [z, hf] at na; cases na
    have hf2 : (upd H' a (.tup [V.str ("end" : Str), V.str ("" : Str), V.int r, V.int c])) f = some (.lst (qs.map V.ref)) := by rw [upd_ne naf.symm]; exact hf
    refine ⟨f, _, _, rfl, rfl, hf2, (by rw [List.length_map, hql]; exact Nat.lt_of_le_of_lt htl (Nat.lt_of_le_of_lt hl (by decide))), _, rfl, ?_⟩
    have hend : lex (l.drop l.length) r c = ([⟨.fin, [], r, c⟩], none) := by
      refine lex_end ?_
      rw [hs, List.drop_eq_nil_of_le (Nat.le_refl _)]
    refine q (ts ++ [⟨.fin, [], r, c⟩]) f _ ?_ nfH ((s1.put (s1.free na)).put nfH) ⟨qs ++ [a], ?_, ?_, fun k qa ta e1 e2 => ?_⟩
    · rw [hlx, hend]
    · rw [upd_same, List.map_append]
      rfl
    · rw [List.length_append, List.length_append, hql]
      rfl
    · by_cases hk : k < qs.length
      · rw [List.getElem?_append_left hk] at e1
        rw [List.getElem?_append_left (by omega)] at e2
        have h0 := hqs k qa ta e1 e2
        have n2 : qa ≠ f := ne_of h0 hf (by intro z; cases z)
        have n3 : qa ≠ a := ne_of_none h0 na
        rw [upd_ne n2, upd_ne n3]
        exact h0
      · have hkl : k < (qs ++ [a]).length := (List.getElem?_eq_some_iff.mp e1).1
        rw [List.length_append, List.length_singleton] at hkl
        have ek : k = qs.length := by omega
        subst ek
        rw [List.getElem?_append_right (Nat.le_refl _), Nat.sub_self] at e1
        rw [hql, List.getElem?_append_right (Nat.le_refl _), Nat.sub_self] at e2
        cases e1
        cases e2
        rw [upd_ne naf, upd_same]
        rw [show ("" : Str) = Tx [] by decide +kernel]
        rfl
end
end
end Rm

/-! T0: menus; what stays; trees in the heap. -/
namespace Rm
open PySem PySem.Spec PyProof.Rows L2
/-! ### menus -/
abbrev mS (s : String) : V := .str (Str.ofString s)
def tMenu (vs : List V) : TA := fun _ H Q => Q vs H
theorem menu_s {ss : List String} {j : Int} (h0 : 0 ≤ j) (h1 : j < (ss.length : Int)) : ∃ s ∈ ss, atI (ss.map mS) j = some (mS s) := by
  obtain ⟨n, rfl⟩ : ∃ n : Nat, j = (n : Int) := ⟨j.toNat, by omega⟩
  have hn : n < ss.length := by omega
  refine ⟨ss[n], List.getElem_mem hn, atI_nat ?_⟩
  rw [List.getElem?_map, List.getElem?_eq_getElem hn]
  rfl
/-- a written tuple of texts -/
def tupM (K : PySem.W.Frag) (x : Str) (ss : List String) : Bool := He.tupB K x (ss.map fun s => .str (Str.ofString s))
theorem tupM_ok {K : PySem.W.Frag} {x : Str} {ss : List String} (h : tupM K x ss = true) (H : Hp) : SqT K H (He.ga K x) (ss.map mS) := by
  have q := He.tupB_ok h H
  rw [List.map_map] at q
  exact q
theorem in_strs (L : List Str) (x : Str) : inV (.str x) (L.map V.str) = decide (x ∈ L) := by
  unfold inV
  rw [Bool.eq_iff_iff, List.any_eq_true, decide_eq_true_iff]
  constructor
  · rintro ⟨v, hv, e⟩
    obtain ⟨k, hk, rfl⟩ := List.mem_map.mp hv
    have e : (k == x) = true := e
    rw [← beq_iff_eq.mp e]
    exact hk
  · intro h
    exact ⟨V.str x, List.mem_map.mpr ⟨x, h, rfl⟩, by show (x == x) = true; simp⟩
/-- all that was tracked but the draws is as it was -/
def Kept (d : Addr) (H H' : Hp) : Prop := ∀ b o, b ≠ d → H b = some o → H' b = some o
theorem Kept.refl (d : Addr) (H : Hp) : Kept d H H := fun _ _ _ h => h
theorem Kept.trans {d : Addr} {H H1 H2 : Hp} (a : Kept d H H1) (b : Kept d H1 H2) : Kept d H H2 := fun c o n h => b c o n (a c o n h)
theorem Kept.of_moved {d : Addr} {H H' : Hp} (a : Moved d H H') : Kept d H H' := fun b o n h => (a b n).trans h
theorem Kept.of_same {d : Addr} {H H' : Hp} (a : Same H H') : Kept d H H' := fun b o _ h => a b o h
theorem Kept.put {d a : Addr} {H H' : Hp} {o : HO} (s : Kept d H H') (n : H a = none) : Kept d H (upd H' a o) := fun b u e h => by
  rw [upd_ne (ne_of_none h n)]
  exact s b u e h
theorem Kept.free {d a : Addr} {H H' : Hp} (s : Kept d H H') (hd : ∃ o, H' d = some o) (n : H' a = none) : H a = none := by
  cases e : H a with
  | none => rfl
  | some o =>
    by_cases h : a = d
    · obtain ⟨u, hu⟩ := hd
      rw [h, hu] at n
      cases n
    · rw [s a o h e] at n
      cases n
/-! ### trees in the heap: tuples, texts, ints, None -/
mutual
inductive Tr (H : Hp) : V → PyData → Prop
  | non : Tr H .non .none
  | int (i : Int) : Tr H (.int i) (.int i)
  | str (x : Str) : Tr H (.str x) (.str x)
  | tup {a : Addr} {xs : List V} {ds : List PyData} (h : H a = some (.tup xs)) (r : Trs H xs ds) : Tr H (.ref a) (.tuple ds)
inductive Trs (H : Hp) : List V → List PyData → Prop
  | nil : Trs H [] []
  | cons {v : V} {vs : List V} {d : PyData} {ds : List PyData} (h : Tr H v d) (r : Trs H vs ds) : Trs H (v :: vs) (d :: ds)
end
/-- tuples stay -/
def TK (H H' : Hp) : Prop := ∀ a xs, H a = some (.tup xs) → H' a = some (.tup xs)
mutual
theorem Tr.keep {H H' : Hp} (k : TK H H') : ∀ {v : V} {d : PyData}, Tr H v d → Tr H' v d
  | _, _, .non => .non
  | _, _, .int i => .int i
  | _, _, .str x => .str x
  | _, _, .tup h r => .tup (k _ _ h) (r.keep k)
theorem Trs.keep {H H' : Hp} (k : TK H H') : ∀ {vs : List V} {ds : List PyData}, Trs H vs ds → Trs H' vs ds
  | _, _, .nil => .nil
  | _, _, .cons h r => .cons (h.keep k) (r.keep k)
end
mutual
theorem Tr.dp {K : PySem.W.Frag} {H : Hp} : ∀ {v : V} {d : PyData}, Tr H v d → Dp K H v d
  | _, _, .non => .non
  | _, _, .int i => .int i
  | _, _, .str x => .str x
  | _, _, .tup h r => .tup (SqT.of h) r.dp
theorem Trs.dp {K : PySem.W.Frag} {H : Hp} : ∀ {vs : List V} {ds : List PyData}, Trs H vs ds → DpAll K H vs ds
  | _, _, .nil => .nil
  | _, _, .cons h r => .cons h.dp r.dp
end
theorem Trs.snoc {H : Hp} {v : V} {d : PyData} (h : Tr H v d) : ∀ {vs : List V} {ds : List PyData}, Trs H vs ds → Trs H (vs ++ [v]) (ds ++ [d])
  | _, _, .nil => .cons h .nil
  | _, _, .cons h1 r => .cons h1 (r.snoc h)
theorem TK.trans {H H1 H2 : Hp} (a : TK H H1) (b : TK H1 H2) : TK H H2 := fun c xs h => b c xs (a c xs h)
theorem TK.new {a : Addr} {H : Hp} {o : HO} (n : H a = none) : TK H (upd H a o) := fun b xs h => by
  rw [upd_ne (ne_of_none h n)]
  exact h
end Rm

/-! L00: the first law's own defs: promises, readings (by gen.py), runs. -/
namespace Rm
open PySem PySem.Spec PyProof.Rows L2 Lx
/-! ### menus -/
theorem mS_eq (s : String) : mS s = .str (Tx (codes s)) := congrArg V.str (Tx_of s)
theorem menu_at {ss : List String} {j : Int} (h0 : 0 ≤ j) (h1 : j < (ss.length : Int)) : ∃ s ∈ ss, atI (ss.map mS) j = some (.str (Tx (codes s))) := by
  obtain ⟨n, rfl⟩ : ∃ n : Nat, j = (n : Int) := ⟨j.toNat, by omega⟩
  have hn : n < ss.length := by omega
  refine ⟨ss[n], List.getElem_mem hn, atI_nat ?_⟩
  rw [List.getElem?_map, List.getElem?_eq_getElem hn, ← mS_eq]
  rfl
/-! ### good words, and what may follow them -/
def aloneL : List (List Nat) := ["{", "}", "(", ")", ",", ";", ".", "+", "-", "*"].map codes
def aloneW (w : List Nat) : Bool := decide (w ∈ aloneL)
/-- what may stand behind a word that joins: nothing, a gap, a sign that joins with nothing -/
def headOk (l : List Nat) : Bool := match l with
  | [] => true
  | y :: _ => y == 10 || (y == 32 || (y == 35 || aloneW [y]))
def Bd (w rest : List Nat) : Prop := aloneW w = true ∨ headOk rest = true
def goodTok (k : Kd) (w : List Nat) : Bool := match w with
  | [] => false
  | x :: xs => match k with
    | .name => isLet x && ((x :: xs).all isWP && decide (kindOf (x :: xs) = .name))
    | .keyword => isLet x && ((x :: xs).all isWP && decide (kindOf (x :: xs) = .keyword))
    | .number => !isLet x && (isDig x && ((x :: xs).all isWP && isNum (x :: xs)))
    | .sign => !isLet x && (!isDig x && (x != 10 && (x != 32 && (x != 35 && ((decide ((x :: xs) ∈ longL)) || (decide ((x :: xs) ∈ shortL) && (aloneW (x :: xs) || (x == 60 || x == 61))))))))
    | .fin => false
theorem all_takeWhile {p : Nat → Bool} : ∀ {w rest : List Nat}, w.all p = true → (rest = [] ∨ ∃ y ys, rest = y :: ys ∧ p y = false) → (w ++ rest).takeWhile p = w
  | [], rest, _, h => by
    rcases h with rfl | ⟨y, ys, rfl, e⟩
    · rfl
    · show (y :: ys).takeWhile p = []
      rw [List.takeWhile_cons, e]
      rfl
  | x :: xs, rest, hw, h => by
    have hw' := Bool.and_eq_true_iff.mp (show (p x && xs.all p) = true from hw)
    show (x :: (xs ++ rest)).takeWhile p = _
    rw [List.takeWhile_cons, if_pos hw'.1, all_takeWhile hw'.2 h]
theorem headOk_noWP {rest : List Nat} (h : headOk rest = true) : rest = [] ∨ ∃ y ys, rest = y :: ys ∧ isWP y = false := by
  cases rest with
  | nil => exact .inl rfl
  | cons y ys =>
    refine .inr ⟨y, ys, rfl, ?_⟩
    have h : (y == 10 || (y == 32 || (y == 35 || aloneW [y]))) = true := h
    rw [Bool.or_eq_true, Bool.or_eq_true, Bool.or_eq_true, beq_iff_eq, beq_iff_eq, beq_iff_eq] at h
    rcases h with rfl | rfl | rfl | h
    · rfl
    · rfl
    · rfl
    · have e : ∀ w ∈ aloneL, ∀ y, w = [y] → isWP y = false := by
        intro w hw
        have q : ∀ w ∈ aloneL, (w.all fun y => !isWP y) = true := by decide +kernel
        intro y hy
        have := q w hw
        rw [hy] at this
        simpa using this
      exact e _ (of_decide_eq_true h) y rfl
theorem alone_sign {w : List Nat} (h : aloneW w = true) : ∃ x, w = [x] ∧ isWP x = false ∧ x ≠ 60 ∧ x ≠ 61 ∧ x ≠ 58 := by
  have q : ∀ w ∈ aloneL, w.length = 1 ∧ (w.all fun x => !isWP x && (x != 60 && (x != 61 && x != 58))) = true := by decide +kernel
  obtain ⟨h1, h2⟩ := q w (of_decide_eq_true h)
  match w, h1 with
  | [x], _ =>
    refine ⟨x, rfl, ?_⟩
    simpa using h2
theorem long_heads {w : List Nat} (h : w ∈ longL) : ∃ x, w = [x, 61] ∧ (x = 58 ∨ x = 61 ∨ x = 60) := by
  have q : longL = [[58, 61], [61, 61], [60, 61]] := by decide +kernel
  rw [q] at h
  simp only [List.mem_cons, List.not_mem_nil, or_false] at h
  rcases h with rfl | rfl | rfl
  · exact ⟨58, rfl, .inl rfl⟩
  · exact ⟨61, rfl, .inr (.inl rfl)⟩
  · exact ⟨60, rfl, .inr (.inr rfl)⟩
theorem headOk_no61 {rest : List Nat} (h : headOk rest = true) : ∀ x, ¬ (x :: rest).take 2 = [x, 61] := by
  intro x e
  cases rest with
  | nil => cases e
  | cons y ys =>
    have ey : y = 61 := by
      have := congrArg (fun l : List Nat => l[1]?) e
      simpa using this
    subst ey
    have h : ((61 : Nat) == 10 || ((61 : Nat) == 32 || ((61 : Nat) == 35 || aloneW [61]))) = true := h
    exact absurd h (by decide +kernel)
/-- THE STEP: a good word with what may follow is one token -/
theorem tok_step {k : Kd} {w rest : List Nat} (r c : Int) (hg : goodTok k w = true) (hb : Bd w rest) : ∃ x xs, w ++ rest = x :: xs ∧ (x ≠ 10 ∧ x ≠ 32 ∧ x ≠ 35) ∧ Lx.step x xs r c = .ok (⟨k, w, r, c⟩, rest, r, c + w.length) := by
  cases w with
  | nil => cases hg
  | cons x xs =>
    refine ⟨x, xs ++ rest, rfl, ?_⟩
    have wordCase : (x :: xs).all isWP = true → isWP x = true ∧ headOk rest = true ∧ word (x :: (xs ++ rest)) = x :: xs ∧ (x :: (xs ++ rest)).drop (x :: xs).length = rest := fun ha => by
      have hx : isWP x = true := (Bool.and_eq_true_iff.mp (show (isWP x && xs.all isWP) = true from ha)).1
      have hr : headOk rest = true := by
        rcases hb with hb | hb
        · obtain ⟨y, e, e2, _⟩ := alone_sign hb
          cases e
          rw [hx] at e2
          cases e2
        · exact hb
      exact ⟨hx, hr, all_takeWhile (w := x :: xs) ha (headOk_noWP hr), List.drop_left (l₁ := x :: xs)⟩
    have ngap : isWP x = true → x ≠ 10 ∧ x ≠ 32 ∧ x ≠ 35 := fun hx => by
      refine ⟨?_, ?_, ?_⟩ <;> (rintro rfl; revert hx; decide)
    cases k with
    | fin => cases hg
    | name =>
      have hg : (isLet x && ((x :: xs).all isWP && decide (kindOf (x :: xs) = .name))) = true := hg
      rw [Bool.and_eq_true, Bool.and_eq_true] at hg
      obtain ⟨h1, h2, h3⟩ := hg
      obtain ⟨hx, hr, hw, hd⟩ := wordCase h2
      refine ⟨ngap hx, ?_⟩
      unfold Lx.step
      rw [if_pos h1, hw, of_decide_eq_true h3, hd]
    | keyword =>
      have hg : (isLet x && ((x :: xs).all isWP && decide (kindOf (x :: xs) = .keyword))) = true := hg
      rw [Bool.and_eq_true, Bool.and_eq_true] at hg
      obtain ⟨h1, h2, h3⟩ := hg
      obtain ⟨hx, hr, hw, hd⟩ := wordCase h2
      refine ⟨ngap hx, ?_⟩
      unfold Lx.step
      rw [if_pos h1, hw, of_decide_eq_true h3, hd]
    | number =>
      have hg : (!isLet x && (isDig x && ((x :: xs).all isWP && isNum (x :: xs)))) = true := hg
      rw [Bool.and_eq_true, Bool.and_eq_true, Bool.and_eq_true] at hg
      obtain ⟨h1, h2, h3, h4⟩ := hg
      have h1 : isLet x = false := by simpa using h1
      obtain ⟨hx, hr, hw, hd⟩ := wordCase h3
      refine ⟨ngap hx, ?_⟩
      unfold Lx.step
      rw [if_neg (by rw [h1]; exact Bool.false_ne_true), if_pos h2, hw, if_pos h4, hd]
    | sign =>
      have hg : (!isLet x && (!isDig x && (x != 10 && (x != 32 && (x != 35 && ((decide ((x :: xs) ∈ longL)) || (decide ((x :: xs) ∈ shortL) && (aloneW (x :: xs) || (x == 60 || x == 61)))))))) ) = true := hg
      rw [Bool.and_eq_true, Bool.and_eq_true, Bool.and_eq_true, Bool.and_eq_true, Bool.and_eq_true, Bool.or_eq_true, Bool.and_eq_true] at hg
      obtain ⟨h1, h2, g1, g2, g3, h3⟩ := hg
      have h1 : isLet x = false := by simpa using h1
      have h2 : isDig x = false := by simpa using h2
      refine ⟨⟨by simpa using g1, by simpa using g2, by simpa using g3⟩, ?_⟩
      unfold Lx.step
      rw [if_neg (by rw [h1]; exact Bool.false_ne_true), if_neg (by rw [h2]; exact Bool.false_ne_true)]
      rcases h3 with h3 | ⟨h3, h4⟩
      · have h3 := of_decide_eq_true h3
        obtain ⟨y, e, _⟩ := long_heads h3
        cases e
        rw [if_pos (by exact h3)]
        rfl
      · have h3 := of_decide_eq_true h3
        have e1 : xs = [] := by
          have q : ∀ w ∈ shortL, w.length = 1 := by decide +kernel
          have := q _ h3
          exact List.eq_nil_of_length_eq_zero (by simpa using this)
        subst e1
        have nl : ¬ (x :: ([] ++ rest)).take 2 ∈ longL := fun hm => by
          rcases Bool.or_eq_true_iff.mp h4 with h4 | h4
          · obtain ⟨y, e, e2, e3, e4, e5⟩ := alone_sign h4
            cases e
            obtain ⟨z, ez, hz⟩ := long_heads hm
            have : x = z := by
              have := congrArg (fun l : List Nat => l[0]?) ez
              simpa using this
            omega
          · rcases hb with hb | hb
            · obtain ⟨y, e, e2, e3, e4, e5⟩ := alone_sign hb
              cases e
              rw [Bool.or_eq_true, beq_iff_eq, beq_iff_eq] at h4
              omega
            · obtain ⟨z, ez, hz⟩ := long_heads hm
              have ex : x = z := by
                have := congrArg (fun l : List Nat => l[0]?) ez
                simpa using this
              subst ex
              exact headOk_no61 hb x ez
        rw [if_neg nl, if_pos h3]
        rfl
theorem adv_tok {k : Kd} {w : List Nat} (hg : goodTok k w = true) (hn : 10 ∉ w) (r c : Int) : adv w r c = (r, c + w.length) := adv_flat w r c hn
/-- the scanner over a good word with what may follow -/
theorem lex_word {k : Kd} {w rest : List Nat} (r c : Int) (hg : goodTok k w = true) (hb : Bd w rest) : lex (w ++ rest) r c = (⟨k, w, r, c⟩ :: (lex rest r (c + w.length)).1, (lex rest r (c + w.length)).2) := by
  obtain ⟨x, xs, e, hne, hs⟩ := tok_step r c hg hb
  refine lex_tok (x := x) (xs := xs) ?_ hs
  rw [e]
  exact skip_here hne
/-- gaps and perhaps a comment, to the end of the text -/
def endB : Bool → List Nat → Bool
  | _, [] => true
  | true, x :: xs => if x = 10 then endB false xs else endB true xs
  | false, x :: xs => if x = 10 then endB false xs else if x = 32 then endB false xs else if x = 35 then endB true xs else false
theorem endB_ok : ∀ (b : Bool) (g : List Nat), endB b g = true → ∀ (r c : Int), skip b g r c = ([], (adv g r c).1, (adv g r c).2)
  | true, [], h, r, c => rfl
  | false, [], h, r, c => rfl
  | true, x :: xs, h, r, c => by
    rw [skip, adv]
    rw [endB] at h
    by_cases e : x = 10
    · rw [if_pos e] at h ⊢; rw [if_pos e]; exact endB_ok false xs h _ _
    · rw [if_neg e] at h ⊢; rw [if_neg e]; exact endB_ok true xs h _ _
  | false, x :: xs, h, r, c => by
    rw [skip, adv]
    rw [endB] at h
    by_cases e : x = 10
    · rw [if_pos e] at h ⊢; rw [if_pos e]; exact endB_ok false xs h _ _
    · rw [if_neg e] at h ⊢; rw [if_neg e]
      by_cases e2 : x = 32
      · rw [if_pos e2] at h ⊢; exact endB_ok false xs h _ _
      · rw [if_neg e2] at h ⊢
        by_cases e3 : x = 35
        · rw [if_pos e3] at h ⊢; exact endB_ok true xs h _ _
        · rw [if_neg e3] at h; cases h
/-! ### the tokens as data -/
def tkD (t : Tk) : PyData := .tuple [.str (kdS t.kind), .str (Tx t.text), .int t.row, .int t.col]
def okTk (t : Tk) : Bool := PyData.strOk (Tx t.text)
theorem kdS_ok (k : Kd) : PyData.strOk (kdS k) = true := by cases k <;> decide +kernel
theorem tkD_lay {ts : List Tk} (h : ∀ t ∈ ts, okTk t = true) : PyData.canLayAll0 (ts.map tkD) = true := by
  induction ts with
  | nil => rfl
  | cons t ts ih =>
    have h1 : PyData.strOk (Tx t.text) = true := h t List.mem_cons_self
    show (PyData.canLay0 (tkD t) && PyData.canLayAll0 (ts.map tkD)) = true
    rw [ih fun t ht => h t (List.mem_cons_of_mem _ ht), Bool.and_true]
    simp [tkD, PyData.canLay0, PyData.canLayAll0, h1, kdS_ok]
theorem tkD_depth (ts : List Tk) : PyData.depthAll (ts.map tkD) ≤ 1 := by
  induction ts with
  | nil => exact Nat.zero_le _
  | cons t ts ih =>
    show max (PyData.depth (tkD t)) (PyData.depthAll (ts.map tkD)) ≤ 1
    have : PyData.depth (tkD t) = 1 := by simp [tkD, PyData.depth, PyData.depthAll]
    omega
theorem shaped_tks {ts : List Tk} (h : ∀ t ∈ ts, okTk t = true) : SeqAt.shaped (.list (ts.map tkD)) = true := by
  unfold SeqAt.shaped
  have d := tkD_depth ts
  rw [show PyData.canLay0 (.list (ts.map tkD)) = PyData.canLayAll0 (ts.map tkD) by simp [PyData.canLay0], tkD_lay h, Bool.true_and]
  exact decide_eq_true (by simp only [PyData.depth]; omega)
theorem dp_tks {K : PySem.W.Frag} {H : Hp} : ∀ {qs : List Addr} {ts : List Tk}, qs.length = ts.length → (∀ (k : Nat) (q : Addr) (t : Tk), qs[k]? = some q → ts[k]? = some t → H q = some (.tup (tkV t))) → DpAll K H (qs.map V.ref) (ts.map tkD)
  | [], [], _, _ => .nil
  | q :: qs, t :: ts, hl, h => by
    refine .cons (.tup (SqT.of (h 0 q t rfl rfl)) (.cons (.str _) (.cons (.str _) (.cons (.int _) (.cons (.int _) .nil))))) (dp_tks (by simpa using hl) fun k q' t' e1 e2 => h (k + 1) q' t' (by simpa using e1) (by simpa using e2))
  | [], _ :: _, hl, _ => by cases hl
  | _ :: _, [], hl, _ => by cases hl
theorem TksAt.dp {K : PySem.W.Frag} {H : Hp} {p : Addr} {ts : List Tk} (h : TksAt H p ts) : Dp K H (.ref p) (.list (ts.map tkD)) := by
  obtain ⟨qs, h1, h2, h3⟩ := h
  exact .lst (SqL.of h1) (dp_tks h2 h3)
theorem TksAt.kept {H H' : Hp} {p : Addr} {ts : List Tk} (h : TksAt H p ts) (k : ∀ b o, H b = some o → (∀ kvs, o ≠ .dK kvs) → H' b = some o) : TksAt H' p ts := by
  obtain ⟨qs, h1, h2, h3⟩ := h
  exact ⟨qs, k _ _ h1 (fun _ z => by cases z), h2, fun i q t e1 e2 => k _ _ (h3 i q t e1 e2) (fun _ z => by cases z)⟩
/-! ### promises -/
def kwS : List String := ["method", "main", "object", "const", "var", "parent", "let", "print", "return", "if", "else", "while", "put", "drop", "resend", "fn", "call", "self", "true", "false", "nothing", "div", "mod"]
def sp_l_keywords (K : PySem.W.Frag) : Sp := fun vs H Q _ => vs = [] ∧ ∀ (p : Addr) (H' : Hp), Same H H' → H p = none → H' p = some (.lst (kwS.map mS)) → Q (.ref p) H'
def sp_l_word (K : PySem.W.Frag) : Sp := fun vs H Q _ => ∃ (d r : Addr), vs = [.ref d] ∧ Draws H d r ∧ ∀ (q : Addr) (H' : Hp) (k : Kd) (w : List Nat), Kept d H H' → Draws H' d r → H q = none → H' q = some (.tup [.str (kdS k), .str (Tx w)]) →
  goodTok k w = true → 10 ∉ w → w.length ≤ 40 → PyData.strOk (Tx w) = true → Q (.ref q) H'
def sp_l_alone (K : PySem.W.Frag) : Sp := fun vs H Q _ => ∃ w : List Nat, vs = [.str (Tx w)] ∧ ∀ H', Same H H' → Q (.bl (aloneW w)) H'
def sp_l_between (K : PySem.W.Frag) : Sp := fun vs H Q _ => ∃ (d r : Addr), vs = [.ref d] ∧ Draws H d r ∧ ∀ (H' : Hp) (g : List Nat), Kept d H H' → Draws H' d r → gapB false g = true → g ≠ [] → g.length ≤ 40 → headOk g = true → Q (.str (Tx g)) H'
def sp_l_place (K : PySem.W.Frag) : Sp := fun vs H Q _ => ∃ l : List Nat, vs = [.str (Tx l)] ∧ l.length ≤ 10000000 ∧ ∀ (q : Addr) (H' : Hp), Same H H' → H q = none → H' q = some (.tup [.int (adv l 1 1).1, .int (adv l 1 1).2]) → Q (.ref q) H'
/-! ### readings -/

def ns_l_keywords : List Str := ["words"]
def t_l_keywords (K : PySem.W.Frag) (E : XK) : TS :=
  (tSeq (tAsg (tLst (tMenu (["method", "main", "object", "const", "var", "parent", "let", "print", "return", "if", "else", "while"].map mS))) (gName 0))
    (tRet (tOp rCat (tVar 0) (tLst (tMenu (["put", "drop", "resend", "fn", "call", "self", "true", "false", "nothing", "div", "mod"].map mS))))))

def ns_l_word : List Str := ["draws", "pick", "names"]
def t_l_word (K : PySem.W.Frag) (E : XK) : TS :=
  (tSeq (tAsg (tCall (sp_l_pick K) [] E (tCons (tVar 0) (tCons (tC (.int 9)) tNil))) (gName 1))
    (tSeq (tIfS (tTest (tOp rLtI (tVar 1) (tC (.int 2))))
      (tSeq (tAsg (tLst (tMenu (["a", "X1", "go_", "a_b", "ifx", "fn2", "letter", "calls", "z9", "Main", "divide", "truer", "Self"].map mS))) (gName 2))
    (tRet (tTup (tCons (tC (.str ("name" : Str))) (tCons (tOp (rIxL K) (tVar 2) (tCall (sp_l_pick K) [] E (tCons (tVar 0) (tCons (tC (.int 13)) tNil)))) tNil)))))
      tNext)
    (tSeq (tIfS (tTest (tOp rEq (tVar 1) (tC (.int 2))))
      (tRet (tTup (tCons (tC (.str ("number" : Str))) (tCons (tOp (rIxL K) (tLst (tMenu (["0", "7", "10", "1000000000000", "999999999999", "12345", "90"].map mS))) (tCall (sp_l_pick K) [] E (tCons (tVar 0) (tCons (tC (.int 7)) tNil)))) tNil))))
      tNext)
    (tSeq (tIfS (tTest (tOp rLtI (tVar 1) (tC (.int 5))))
      (tRet (tTup (tCons (tC (.str ("keyword" : Str))) (tCons (tOp (rIxL K) (tCall (sp_l_keywords K) [] E tNil) (tCall (sp_l_pick K) [] E (tCons (tVar 0) (tCons (tC (.int 23)) tNil)))) tNil))))
      tNext)
    (tSeq (tIfS (tTest (tOp rLtI (tVar 1) (tC (.int 7))))
      (tRet (tTup (tCons (tC (.str ("sign" : Str))) (tCons (tOp (rIxL K) (tLst (tMenu (["=", ":=", "==", "<", "<="].map mS))) (tCall (sp_l_pick K) [] E (tCons (tVar 0) (tCons (tC (.int 5)) tNil)))) tNil))))
      tNext)
    (tRet (tTup (tCons (tC (.str ("sign" : Str))) (tCons (tOp (rIxL K) (tLst (tMenu (["{", "}", "(", ")", ",", ";", ".", "+", "-", "*"].map mS))) (tCall (sp_l_pick K) [] E (tCons (tVar 0) (tCons (tC (.int 10)) tNil)))) tNil)))))))))

def ns_l_alone : List Str := ["text"]
def t_l_alone (K : PySem.W.Frag) (E : XK) : TS :=
  (tRet (tOp (rIn K false) (tVar 0) (tTup (tMenu (["{", "}", "(", ")", ",", ";", ".", "+", "-", "*"].map mS)))))

def ns_l_between : List Str := ["draws", "first", "more"]
def t_l_between (K : PySem.W.Frag) (E : XK) : TS :=
  (tSeq (tAsg (tOp (rIxL K) (tLst (tMenu ([" ", "\n", "  ", "# a _ comment := main!", " "].map mS))) (tCall (sp_l_pick K) [] E (tCons (tVar 0) (tCons (tC (.int 5)) tNil)))) (gName 1))
    (tSeq (tAsg (tOp (rIxL K) (tLst (tMenu (["", "", "", "\n", "#\n ", "\n   ", "#x\n\n"].map mS))) (tCall (sp_l_pick K) [] E (tCons (tVar 0) (tCons (tC (.int 7)) tNil)))) (gName 2))
    (tSeq (tIfS (tTest (tOp rEq (tOp rIxS (tVar 1) (tC (.int 0))) (tC (.str ("#" : Str)))))
      (tAsg (tC (.str ("\n" : Str))) (gName 2))
      tNext)
    (tRet (tOp rCatS (tVar 1) (tVar 2))))))

def ns_l_place : List Str := ["text"]
def t_l_place (K : PySem.W.Frag) (E : XK) : TS :=
  (tRet (tTup (tCons (tOp rAddI (tBM K "str" rCount (tVar 0) (tCons (tC (.str ("\n" : Str))) tNil)) (tC (.int 1))) (tCons (tOp rSubI (tCB rLenS (tCons (tVar 0) tNil)) (tBM K "str" rRfind (tVar 0) (tCons (tC (.str ("\n" : Str))) tNil))) tNil))))

def ns_law : List Str := ["script", "draws", "text", "due", "last", "k", "kind", "word", "between", "row", "column", "actual"]
def t_law (K : PySem.W.Frag) (EW : EWT) (E : XK) : TS :=
  (tSeq (tAsg (tCall (sp_l_stream K) [] E (tCons (tVar 0) (tCons (tC (.int 300)) tNil))) (gName 1))
    (tSeq (tAsg (tOp (rIxL K) (tLst (tMenu (["", "", " ", "\n", "# begin\n  "].map mS))) (tCall (sp_l_pick K) [] E (tCons (tVar 1) (tCons (tC (.int 5)) tNil)))) (gName 2))
    (tSeq (tAsg (tLst tNil) (gName 3))
    (tSeq (tAsg (tC (.str ("(" : Str))) (gName 4))
    (tSeq (tFor (iRng1 (tCons (tCB rMin2 (tCons (tC (.int 120)) (tCons (tOp rAddI (tC (.int 1)) (tOp rFdivI (tCB (rLen K) (tCons (tDGet (tVar 1) (tC (.str ("row" : Str)))) tNil)) (tC (.int 3)))) tNil))) tNil)) (gName 5)
      (tSeq (tAsg (tCall (sp_l_word K) [] E (tCons (tVar 1) tNil)) (gTup K 2 (gCons (gName 6) (gCons (gName 7) gNil))))
    (tSeq (tIfS (tOr (tNot (tOr (tB (tCall (sp_l_alone K) [] E (tCons (tVar 4) tNil))) (tB (tCall (sp_l_alone K) [] E (tCons (tVar 7) tNil))))) (tTest (tOp rEq (tCall (sp_l_pick K) [] E (tCons (tVar 1) (tCons (tC (.int 3)) tNil))) (tC (.int 0)))))
      (tIfS (tTest (tOp rGtI (tVar 5) (tC (.int 0))))
      (tSeq (tAsg (tCall (sp_l_between K) [] E (tCons (tVar 1) tNil)) (gName 8))
    (tSeq (tAsg (tOp rCatS (tVar 2) (tVar 8)) (gName 2))
    (tIfS (tAnd (tTest (tOp rInSign (tC (.str ("#" : Str))) (tVar 8))) (tTest (tOp (rIn K true) (tOp rIxS (tVar 8) (tUn rNegI (tC (.int 1)))) (tTup (tCons (tC (.str (" " : Str))) (tCons (tC (.str ("\n" : Str))) tNil))))))
      (tAsg (tOp rCatS (tVar 2) (tC (.str ("\n" : Str)))) (gName 2))
      tNext)))
      tNext)
      tNext)
    (tSeq (tAsg (tCall (sp_l_place K) [] E (tCons (tVar 2) tNil)) (gTup K 2 (gCons (gName 9) (gCons (gName 10) gNil))))
    (tSeq (tDrop (tBM K "list" rAppend (tVar 3) (tCons (tTup (tCons (tVar 6) (tCons (tVar 7) (tCons (tVar 9) (tCons (tVar 10) tNil))))) tNil)))
    (tSeq (tAsg (tOp rCatS (tVar 2) (tVar 7)) (gName 2))
    (tAsg (tVar 7) (gName 4))))))))
    (tSeq (tAsg (tOp rCatS (tVar 2) (tOp (rIxL K) (tLst (tMenu (["", " ", "\n", "\n  ", " # the end"].map mS))) (tCall (sp_l_pick K) [] E (tCons (tVar 1) (tCons (tC (.int 5)) tNil))))) (gName 2))
    (tSeq (tAsg (tCall (sp_l_place K) [] E (tCons (tVar 2) tNil)) (gTup K 2 (gCons (gName 9) (gCons (gName 10) gNil))))
    (tSeq (tDrop (tBM K "list" rAppend (tVar 3) (tCons (tTup (tCons (tC (.str ("end" : Str))) (tCons (tC (.str ("" : Str))) (tCons (tVar 9) (tCons (tVar 10) tNil))))) tNil)))
    (tSeq (tAsg (tCall (sp_tokens K EW) [] E (tCons (tVar 2) tNil)) (gName 11))
    (tSeq (tIfS (tOr (tNot (tB (tCB (rIsi K) (tCons (tVar 11) (tCons (tC (.ty "list")) tNil))))) (tTest (tOp (rNeD K) (tVar 11) (tVar 3))))
      (tRet (tC (.bl false)))
      tNext)
    (tRet (tAndV (tOp (rEqD K) (tC (.ref (He.ga K ("KEYWORDS" : Str)))) (tCB (rTupleOf K) (tCons (tCall (sp_l_keywords K) [] E tNil) tNil))) (tOp (rEqD K) (tCall (sp_tokens K EW) [] E (tCons (tC (.str ("" : Str))) tNil)) (tLst (tCons (tTup (tCons (tC (.str ("end" : Str))) (tCons (tC (.str ("" : Str))) (tCons (tC (.int 1)) (tCons (tC (.int 1)) tNil))))) tNil)))))))))))))))

/-! ### runs of the law's own defs -/
section
variable {K : PySem.W.Frag} {vs : List V} {H : Hp} {Q : VK} {E : XK}
theorem run_l_keywords (h : sp_l_keywords K vs H Q E) : t_l_keywords K E (DQ Q) (start ns_l_keywords vs) H := by
  obtain ⟨rfl, q⟩ := h
  refine ⟨(by show 12 ≤ sizeLine; decide), fun p np => ?_⟩
  refine ⟨_, rfl, (by show 11 ≤ sizeLine; decide), fun p2 np2 => ?_⟩
  have n21 : p2 ≠ p := fun z => by rw [z, upd_same] at np2; cases np2
  have np2H : H p2 = none := by rw [upd_ne n21] at np2; exact np2
  refine ⟨p, p2, _, _, rfl, rfl, (by rw [upd_ne n21.symm, upd_same]), upd_same, (by show 23 ≤ sizeLine; decide), fun p3 np3 => ?_⟩
  have n31 : p3 ≠ p := fun z => by rw [z, upd_ne n21.symm, upd_same] at np3; cases np3
  have n32 : p3 ≠ p2 := fun z => by rw [z, upd_same] at np3; cases np3
  have np3H : H p3 = none := by rw [upd_ne n32, upd_ne n31] at np3; exact np3
  exact q p3 _ ((((Same.refl H).put np).put np2H).put np3H) np3H upd_same
theorem run_l_alone (h : sp_l_alone K vs H Q E) : t_l_alone K E (DQ Q) (start ns_l_alone vs) H := by
  obtain ⟨w, rfl, q⟩ := h
  refine ⟨_, rfl, (by show 10 ≤ sizeLine; decide), fun p np => ⟨_, _, rfl, .inr (SqT.of upd_same), rfl, rfl, ?_⟩⟩
  rw [if_neg Bool.false_ne_true, show ["{", "}", "(", ")", ",", ";", ".", "+", "-", "*"].map mS = aloneL.map (fun k => V.str (Tx k)) by unfold aloneL; rw [List.map_map]; exact List.map_congr_left fun s _ => mS_eq s, in_list]
  exact q _ ((Same.refl H).put np)
theorem run_l_place (h : sp_l_place K vs H Q E) : t_l_place K E (DQ Q) (start ns_l_place vs) H := by
  obtain ⟨l, rfl, hl, q⟩ := h
  obtain ⟨e1, e2⟩ := place_ok l
  refine ⟨_, rfl, rfl, _, _, rfl, rfl, _, _, rfl, rfl, _, rfl, _, rfl, small_len hl, _, rfl, rfl, _, _, rfl, rfl, _, _, rfl, rfl, (by show 2 ≤ sizeLine; decide), fun p np => ?_⟩
  refine q p _ ((Same.refl H).put np) np ?_
  rw [upd_same, ← e1, ← e2]
  rfl
/-- one item of a menu, by a draw -/
theorem run_l_word (h : sp_l_word K vs H Q E) : t_l_word K E (DQ Q) (start ns_l_word vs) H := by
  obtain ⟨d, r, rfl, hD, q⟩ := h
  refine ⟨_, rfl, d, 9, rfl, by decide, r, hD, fun j1 H1 j10 j19 D1 M1 => ?_⟩
  have K1 := Kept.of_moved M1
  have fin : ∀ (k : Kd) (ss : List String) (j : Int) (H2 : Hp), Kept d H H2 → Draws H2 d r → (∀ s ∈ ss, goodTok k (codes s) = true ∧ 10 ∉ codes s ∧ (codes s).length ≤ 40 ∧ PyData.strOk (Tx (codes s)) = true) → 0 ≤ j → j < (ss.length : Int) →
      ∃ v, atI (ss.map mS) j = some v ∧ ∀ p, H2 p = none → Q (.ref p) (upd H2 p (.tup [V.str (kdS k), v])) := fun k ss j H2 K2 D2 hs j0 j1 => by
    obtain ⟨s, hm, e⟩ := menu_at j0 j1
    obtain ⟨g1, g2, g3, g4⟩ := hs s hm
    exact ⟨_, e, fun p np => q p _ k (codes s) (K2.put (K2.free D2.atD np)) (D2.fresh np) (K2.free D2.atD np) upd_same g1 g2 g3 g4⟩
  refine ⟨_, rfl, _, _, rfl, rfl, _, rfl, ?_⟩
  refine ite2 (fun _ => ?_) (fun _ => ?_)
  · refine ⟨(by show 13 ≤ sizeLine; decide), fun p np => ?_⟩
    have D2 : Draws (upd H1 p (.lst (["a", "X1", "go_", "a_b", "ifx", "fn2", "letter", "calls", "z9", "Main", "divide", "truer", "Self"].map mS))) d r := D1.fresh np
    refine ⟨_, rfl, _, rfl, d, 13, rfl, by decide, r, D2, fun j H3 j0 j1 D3 M3 => ?_⟩
    have K3 : Kept d H H3 := (K1.put (K1.free D1.atD np)).trans (Kept.of_moved M3)
    have hp : H3 p = some (.lst (["a", "X1", "go_", "a_b", "ifx", "fn2", "letter", "calls", "z9", "Main", "divide", "truer", "Self"].map mS)) := (M3 p (Ne.symm (D1.neD np))).trans upd_same
    obtain ⟨v, e, f⟩ := fin .name ["a", "X1", "go_", "a_b", "ifx", "fn2", "letter", "calls", "z9", "Main", "divide", "truer", "Self"] j H3 K3 D3 (by decide +kernel) j0 j1
    exact ⟨p, _, _, v, rfl, rfl, SqL.of hp, e, (by show 2 ≤ sizeLine; decide), f⟩
  · have menu : ∀ (k : Kd) (ss : List String) (m : Int), m = (ss.length : Int) → ss.length ≤ 100 → 0 < m → (∀ s ∈ ss, goodTok k (codes s) = true ∧ 10 ∉ codes s ∧ (codes s).length ≤ 40 ∧ PyData.strOk (Tx (codes s)) = true) →
        (tRet (tTup (tCons (tC (.str (kdS k))) (tCons (tOp (rIxL K) (tLst (tMenu (ss.map mS))) (tCall (sp_l_pick K) [] E (tCons (tVar 0) (tCons (tC (.int m)) tNil)))) tNil)))) (DQ Q) [some (.ref d), some (.int j1), none] H1 := fun k ss m hm hl hpos hs => by
      refine ⟨?_, fun p np => ?_⟩
      · show (ss.map mS).length ≤ sizeLine
        rw [List.length_map]
        exact Nat.le_trans hl (by decide)
      · have D2 : Draws (upd H1 p (.lst (ss.map mS))) d r := D1.fresh np
        refine ⟨_, rfl, d, m, rfl, hpos, r, D2, fun j H3 j0 j1 D3 M3 => ?_⟩
        have K3 : Kept d H H3 := (K1.put (K1.free D1.atD np)).trans (Kept.of_moved M3)
        have hp : H3 p = some (.lst (ss.map mS)) := (M3 p (Ne.symm (D1.neD np))).trans upd_same
        obtain ⟨v, e, f⟩ := fin k ss j H3 K3 D3 hs j0 (by rw [← hm]; exact j1)
        exact ⟨p, _, _, v, rfl, rfl, SqL.of hp, e, (by show 2 ≤ sizeLine; decide), f⟩
    refine ⟨_, rfl, rfl, _, rfl, ?_⟩
    refine ite2 (fun _ => ?_) (fun _ => ?_)
    · exact menu .number _ 7 rfl (by decide) (by decide) (by decide +kernel)
    · refine ⟨_, rfl, _, _, rfl, rfl, _, rfl, ?_⟩
      refine ite2 (fun _ => ?_) (fun _ => ?_)
      · refine ⟨rfl, fun p H2 s2 np hp => ?_⟩
        have D2 := D1.same s2
        refine ⟨_, rfl, d, 23, rfl, by decide, r, D2, fun j H3 j0 j1 D3 M3 => ?_⟩
        have K3 : Kept d H H3 := (K1.trans (Kept.of_same s2)).trans (Kept.of_moved M3)
        have hp3 : H3 p = some (.lst (kwS.map mS)) := (M3 p (Ne.symm (D1.neD np))).trans hp
        obtain ⟨v, e, f⟩ := fin .keyword kwS j H3 K3 D3 (by decide +kernel) j0 j1
        exact ⟨p, _, _, v, rfl, rfl, SqL.of hp3, e, (by show 2 ≤ sizeLine; decide), f⟩
      · refine ⟨_, rfl, _, _, rfl, rfl, _, rfl, ?_⟩
        refine ite2 (fun _ => ?_) (fun _ => ?_)
        · exact menu .sign _ 5 rfl (by decide) (by decide) (by decide +kernel)
        · exact menu .sign _ 10 rfl (by decide) (by decide) (by decide +kernel)
theorem run_l_between (h : sp_l_between K vs H Q E) : t_l_between K E (DQ Q) (start ns_l_between vs) H := by
  obtain ⟨d, r, rfl, hD, q⟩ := h
  refine ⟨(by show 5 ≤ sizeLine; decide), fun p np => ?_⟩
  refine ⟨_, rfl, d, 5, rfl, by decide, r, hD.fresh np, fun j H1 j0 j1 D1 M1 => ?_⟩
  have K1 : Kept d H H1 := ((Kept.refl d H).put np).trans (Kept.of_moved M1)
  have hp : H1 p = some (.lst ([" ", "\n", "  ", "# a _ comment := main!", " "].map mS)) := (M1 p (Ne.symm (hD.neD np))).trans upd_same
  obtain ⟨s, hs, e⟩ := menu_at (ss := [" ", "\n", "  ", "# a _ comment := main!", " "]) j0 j1
  refine ⟨p, _, _, _, rfl, rfl, SqL.of hp, e, ?_⟩
  refine ⟨(by show 7 ≤ sizeLine; decide), fun p2 np2 => ?_⟩
  refine ⟨_, rfl, d, 7, rfl, by decide, r, D1.fresh np2, fun j2 H2 j20 j21 D2 M2 => ?_⟩
  have K2 : Kept d H H2 := (K1.put (K1.free D1.atD np2)).trans (Kept.of_moved M2)
  have hp2 : H2 p2 = some (.lst (["", "", "", "\n", "#\n ", "\n   ", "#x\n\n"].map mS)) := (M2 p2 (Ne.symm (D1.neD np2))).trans upd_same
  obtain ⟨s2, hs2, e2⟩ := menu_at (ss := ["", "", "", "\n", "#\n ", "\n   ", "#x\n\n"]) j20 j21
  refine ⟨p2, _, _, _, rfl, rfl, SqL.of hp2, e2, ?_⟩
  have first : ∃ c cs, codes s = c :: cs := by
    have z : ∀ s ∈ [" ", "\n", "  ", "# a _ comment := main!", " "], (codes s).isEmpty = false := by decide +kernel
    have := z s hs
    cases hc : codes s with
    | nil => rw [hc] at this; cases this
    | cons c cs => exact ⟨c, cs, rfl⟩
  obtain ⟨c, cs, ec⟩ := first
  have hlen : (codes s).length ≤ 22 := by
    have z : ∀ s ∈ [" ", "\n", "  ", "# a _ comment := main!", " "], (codes s).length ≤ 22 := by decide +kernel
    exact z s hs
  refine ⟨_, rfl, _, _, c, rfl, rfl, small_len (by show (codes s).length ≤ _; omega), atI_nat (j := 0) (by show (codes s)[0]? = _; rw [ec]; rfl), rfl, _, rfl, ?_⟩
  rw [show ("#" : Str) = ⟨#[35]⟩ by decide +kernel, dec_one]
  have good : ∀ (a b : List Nat), a = codes s → (c = 35 → b = [10]) → (c ≠ 35 → b ∈ ["", "", "", "\n", "#\n ", "\n   ", "#x\n\n"].map codes) → gapB false (a ++ b) = true ∧ (a ++ b) ≠ [] ∧ (a ++ b).length ≤ 40 ∧ headOk (a ++ b) = true := fun a b ea h1 h2 => by
    subst ea
    have z : ∀ s ∈ [" ", "\n", "  ", "# a _ comment := main!", " "], ((codes s).head? = some 35 → (gapB false (codes s ++ [10]) = true ∧ (codes s ++ [10]) ≠ [] ∧ (codes s ++ [10]).length ≤ 40 ∧ headOk (codes s ++ [10]) = true)) ∧
        ((codes s).head? ≠ some 35 → ∀ b ∈ ["", "", "", "\n", "#\n ", "\n   ", "#x\n\n"].map codes, gapB false (codes s ++ b) = true ∧ (codes s ++ b) ≠ [] ∧ (codes s ++ b).length ≤ 40 ∧ headOk (codes s ++ b) = true) := by decide +kernel
    obtain ⟨z1, z2⟩ := z s hs
    rw [ec] at z1 z2
    rw [ec]
    by_cases hc : c = 35
    · rw [h1 hc]
      exact z1 (by rw [hc]; rfl)
    · exact z2 (fun e => hc (by simpa using e)) b (h2 hc)
  refine ite2 (fun h3 => ?_) (fun h3 => ?_)
  · have h3 := of_decide_eq_true h3
    obtain ⟨g1, g2, g3, g4⟩ := good (codes s) [10] rfl (fun _ => rfl) (fun z => absurd h3 z)
    refine ⟨_, rfl, _, rfl, _, _, rfl, rfl, ?_, ?_⟩
    · rw [nl1]
      show (codes s).length + 1 ≤ sizeLine
      exact small_len (by omega)
    · rw [nl1, show (⟨#[10]⟩ : Str) = Tx [10] from rfl, Tx_app]
      exact q H2 _ K2 D2 g1 g2 g3 g4
  · have h3 : ¬ c = 35 := fun z => h3 (decide_eq_true z)
    have hm : codes s2 ∈ ["", "", "", "\n", "#\n ", "\n   ", "#x\n\n"].map codes := List.mem_map.mpr ⟨s2, hs2, rfl⟩
    obtain ⟨g1, g2, g3, g4⟩ := good (codes s) (codes s2) rfl (fun z => absurd z h3) (fun _ => hm)
    refine ⟨_, rfl, _, rfl, _, _, rfl, rfl, ?_, ?_⟩
    · show (codes s).length + (codes s2).length ≤ sizeLine
      rw [List.length_append] at g3
      exact small_len (by omega)
    · rw [Tx_app]
      exact q H2 _ K2 D2 g1 g2 g3 g4
end

/-! ### the law -/
def sp_law (K : PySem.W.Frag) : Sp := fun vs H Q _ => ∃ (a : Addr) (ns : List Int), vs = [.ref a] ∧ SqL K H a (ns.map V.int) ∧ ns.length ≤ 63 ∧ ∀ H', Q (.bl true) H'
def PreL (t : List Nat) (ts : List Tk) (last : List Nat) : Prop := ∀ rest, Bd last rest → lex (t ++ rest) 1 1 = (ts ++ (lex rest (adv t 1 1).1 (adv t 1 1).2).1, (lex rest (adv t 1 1).1 (adv t 1 1).2).2)
def FreeW (t : List Nat) (ts : List Tk) (w : List Nat) : Prop := ∀ rest, lex (t ++ (w ++ rest)) 1 1 = (ts ++ (lex (w ++ rest) (adv t 1 1).1 (adv t 1 1).2).1, (lex (w ++ rest) (adv t 1 1).1 (adv t 1 1).2).2)
theorem PreL.first {g : List Nat} (h : gapB false g = true) (last : List Nat) : PreL g [] last := fun rest _ => by
  rw [List.nil_append]
  have e := gapB_ok false g h rest 1 1
  rw [lex_skip (l := g ++ rest) (l2 := rest) e]
theorem PreL.gap {t g : List Nat} {ts : List Tk} {last : List Nat} (h : PreL t ts last) (hg : gapB false g = true) (ho : headOk g = true) (hne : g ≠ []) (w : List Nat) : FreeW (t ++ g) ts w := fun rest => by
  rw [List.append_assoc, h (g ++ (w ++ rest)) (.inr ?_), adv_append]
  · have e := gapB_ok false g hg (w ++ rest) (adv t 1 1).1 (adv t 1 1).2
    rw [lex_skip (l := g ++ (w ++ rest)) (l2 := w ++ rest) e]
  · cases g with
    | nil => exact absurd rfl hne
    | cons y ys => exact ho
theorem PreL.direct {t : List Nat} {ts : List Tk} {last w : List Nat} (h : PreL t ts last) (hw : aloneW last = true ∨ aloneW w = true) : FreeW t ts w := fun rest => by
  refine h (w ++ rest) ?_
  rcases hw with hw | hw
  · exact .inl hw
  · obtain ⟨x, rfl, _⟩ := alone_sign hw
    refine .inr ?_
    show (x == 10 || (x == 32 || (x == 35 || aloneW [x]))) = true
    rw [hw, Bool.or_true, Bool.or_true, Bool.or_true]
theorem FreeW.word {t : List Nat} {ts : List Tk} {k : Kd} {w : List Nat} (h : FreeW t ts w) (hg : goodTok k w = true) (hn : 10 ∉ w) : PreL (t ++ w) (ts ++ [⟨k, w, (adv t 1 1).1, (adv t 1 1).2⟩]) w := fun rest hb => by
  rw [List.append_assoc, h rest, lex_word _ _ hg hb, adv_append, adv_flat w _ _ hn, List.append_assoc]
  rfl
theorem TksAt.keptD {H H' : Hp} {p d r : Addr} {ts : List Tk} (h : TksAt H p ts) (hD : Draws H d r) (k : Kept d H H') : TksAt H' p ts := h.kept fun b o e n => k b o (fun z => by
  obtain ⟨i, s, ns, h1, _⟩ := hD
  rw [z, h1] at e
  exact n _ (Option.some.inj e).symm) e
theorem TksAt.same {H H' : Hp} {p : Addr} {ts : List Tk} (h : TksAt H p ts) (s : Same H H') : TksAt H' p ts := h.kept fun b o e _ => s b o e
theorem Draws.kept_ne {H : Hp} {p d r : Addr} {ts : List Tk} (h : TksAt H p ts) (hD : Draws H d r) : p ≠ d := by
  obtain ⟨qs, h1, _⟩ := h
  obtain ⟨i, s, ns, h2, _⟩ := hD
  exact ne_of h1 h2 (by intro z; cases z)
/-- a token is appended -/
theorem TksAt.snoc {H : Hp} {p q : Addr} {ts : List Tk} {t : Tk} (h : TksAt H p ts) (hq : H q = some (.tup (tkV t))) : ∃ xs, H p = some (.lst xs) ∧ xs.length = ts.length ∧ TksAt (upd H p (.lst (xs ++ [.ref q]))) p (ts ++ [t]) := by
  obtain ⟨qs, h1, h2, h3⟩ := h
  refine ⟨_, h1, by rw [List.length_map, h2], qs ++ [q], by rw [upd_same, List.map_append]; rfl, by rw [List.length_append, List.length_append, h2]; rfl, fun k q' t' e1 e2 => ?_⟩
  have nq : q ≠ p := ne_of hq h1 (by intro z; cases z)
  by_cases hk : k < qs.length
  · rw [List.getElem?_append_left hk] at e1
    rw [List.getElem?_append_left (by omega)] at e2
    have h0 := h3 k q' t' e1 e2
    rw [upd_ne (ne_of h0 h1 (by intro z; cases z))]
    exact h0
  · have hkl : k < (qs ++ [q]).length := (List.getElem?_eq_some_iff.mp e1).1
    rw [List.length_append, List.length_singleton] at hkl
    have ek : k = qs.length := by omega
    subst ek
    rw [List.getElem?_append_right (Nat.le_refl _), Nat.sub_self] at e1
    rw [h2, List.getElem?_append_right (Nat.le_refl _), Nat.sub_self] at e2
    cases e1
    cases e2
    rw [upd_ne nq]
    exact hq
theorem kwS_eq : kwS.map mS = kwL.map (fun k => V.str (Tx k)) := by
  unfold kwL kwS
  rw [List.map_map]
  exact List.map_congr_left fun s _ => mS_eq s
theorem dp_strs {K : PySem.W.Frag} {H : Hp} : ∀ L : List (List Nat), DpAll K H (L.map fun k => V.str (Tx k)) (L.map fun k => PyData.str (Tx k))
  | [] => .nil
  | k :: L => .cons (.str _) (dp_strs L)
theorem kw_shaped : SeqAt.shaped (.tuple (kwL.map fun k => PyData.str (Tx k))) = true := by decide +kernel
theorem gapB_app : ∀ (b : Bool) (g h : List Nat), gapB b g = true → gapB b (g ++ h) = gapB false h
  | true, [], h, e => by cases e
  | false, [], h, e => rfl
  | true, x :: xs, h, e => by
    show gapB true (x :: (xs ++ h)) = _
    rw [gapB] at e ⊢
    split at e
    · rename_i hx; rw [if_pos hx]; exact gapB_app false xs h e
    · rename_i hx; rw [if_neg hx]; exact gapB_app true xs h e
  | false, x :: xs, h, e => by
    show gapB false (x :: (xs ++ h)) = _
    rw [gapB] at e ⊢
    split at e
    · rename_i hx; rw [if_pos hx]; exact gapB_app false xs h e
    · rename_i hx
      rw [if_neg hx]
      split at e
      · rename_i hx; rw [if_pos hx]; exact gapB_app false xs h e
      · rename_i hx
        rw [if_neg hx]
        split at e
        · rename_i hx; rw [if_pos hx]; exact gapB_app true xs h e
        · cases e
theorem gapB_nl {g : List Nat} (h : gapB false g = true) : gapB false (g ++ [10]) = true := by
  rw [gapB_app false g [10] h]
  rfl
theorem headOk_app {g h : List Nat} (hne : g ≠ []) (hg : headOk g = true) : headOk (g ++ h) = true := by
  cases g with
  | nil => exact absurd rfl hne
  | cons y ys => exact hg
section
variable {K : PySem.W.Frag} {vs : List V} {H : Hp} {Q : VK} {E : XK}
def LInv (a d r u : Addr) (k : Nat) (σ : L2.St) (H4 : Hp) : Prop := ∃ (t last : List Nat) (ts : List Tk) (v5 v6 v7 v8 v9 v10 v11 : Option V), σ = [some (.ref a), some (.ref d), some (.str (Tx t)), some (.ref u), some (.str (Tx last)), v5, v6, v7, v8, v9, v10, v11] ∧ Draws H4 d r ∧ TksAt H4 u ts ∧
  PreL t ts last ∧ (k = 0 → aloneW last = true) ∧ t.length ≤ 100 + 100 * k ∧ (∀ x ∈ ts, okTk x = true) ∧ ts.length ≤ k
theorem run_law {EW : EWT} (hEW : ∀ x r c E H, ¬ EW x r c E H) (hK : ∀ H, SqT K H (He.ga K ("KEYWORDS" : Str)) (kwL.map fun k => V.str (Tx k))) (h : sp_law K vs H Q E) : t_law K EW E (DQ Q) (start ns_law vs) H := by
  obtain ⟨a, ns, rfl, hS, hl, q⟩ := h
  -- draws = _law_stream(script, 300)
  refine ⟨_, rfl, a, ns, 300, rfl, hS, hl, by decide, by decide, fun d H1 r s rs s1 nd hd hr nrd hrl hrm => ?_⟩
  have D1 : Draws H1 d r := ⟨0, s, rs, hd, hr, Int.le_refl _⟩
  -- text = [..][pick]
  refine ⟨(by show 5 ≤ sizeLine; decide), fun p np => ?_⟩
  refine ⟨_, rfl, d, 5, rfl, by decide, r, D1.fresh np, fun j H2 j0 j1 D2 M2 => ?_⟩
  have hp : H2 p = some (.lst (["", "", " ", "\n", "# begin\n  "].map mS)) := (M2 p (Ne.symm (D1.neD np))).trans upd_same
  obtain ⟨t0, ht0, e0⟩ := menu_at (ss := ["", "", " ", "\n", "# begin\n  "]) j0 j1
  refine ⟨p, _, _, _, rfl, rfl, SqL.of hp, e0, ?_⟩
  have g0 : gapB false (codes t0) = true ∧ (codes t0).length ≤ 100 := by
    have z : ∀ s ∈ ["", "", " ", "\n", "# begin\n  "], gapB false (codes s) = true ∧ (codes s).length ≤ 100 := by decide +kernel
    exact z t0 ht0
  -- due = []
  refine ⟨(by show 0 ≤ sizeLine; decide), fun u nu => ?_⟩
  have nud : u ≠ d := Ne.symm (D2.neD nu)
  have nur : u ≠ r := Ne.symm (D2.neR nu)
  have D3 : Draws (upd H2 u (.lst [])) d r := D2.fresh nu
  -- last = "("
  obtain ⟨i3, s3, ns3, hd3, hr3, hi3⟩ := id D3
  refine ⟨_, rfl, d, _, rfl, dget_row hd3, _, _, rfl, .inl ⟨_, SqL.of hr3, rfl⟩, _, _, rfl, rfl, ⟨by decide, by decide⟩, _, _, rfl, rfl, _, _, rfl, ?_⟩
  -- for k in range(..)
  have hm : ∃ n : Nat, n ≤ 120 ∧ (if (1 + ((ns3.map V.int).length : Int) / 3) < 120 then (1 + ((ns3.map V.int).length : Int) / 3) else 120) = (n : Int) := by
    have z0 : 0 ≤ ((ns3.map V.int).length : Int) / 3 := Int.ediv_nonneg (by omega) (by decide)
    refine ⟨(if (1 + ((ns3.map V.int).length : Int) / 3) < 120 then (1 + ((ns3.map V.int).length : Int) / 3) else 120).toNat, ?_, ?_⟩
    · split <;> omega
    · split <;> omega
  obtain ⟨n, hn, en⟩ := hm
  rw [en]
  refine ⟨(n : Int), rfl, by omega, by omega, ?_⟩
  rw [Int.toNat_natCast]
  refine for_range (lo := 0) (n := n) (LInv a d r u) ⟨codes t0, codes "(", [], none, none, none, none, none, none, none, ?_, D3, ⟨[], upd_same, rfl, fun k q t e => by simp at e⟩, PreL.first g0.1 _, (fun _ => by decide +kernel), (by omega), (fun x hx => by cases hx), Nat.zero_le _⟩ ?_ ?_
  · show [some (V.ref a), some (V.ref d), some (V.str (Tx (codes t0))), some (V.ref u), some (V.str ("(" : Str)), none, none, none, none, none, none, none] = _
    rw [show ("(" : Str) = Tx (codes "(") by decide +kernel]
  · rintro k σ H4 hk ⟨t, last, ts, v5, v6, v7, v8, v9, v10, v11, rfl, D4, T4, hPre, hk0, htl, hok, htsl⟩
    -- kind, word = _law_word(draws)
    refine ⟨_, rfl, d, r, rfl, D4, fun qw H5 kd w K5 D5 nq hq hg hn10 hw40 hwok => ?_⟩
    have T5 := T4.keptD D4 K5
    refine ⟨qw, _, rfl, SqT.of hq, rfl, _, _, rfl, _, _, rfl, rfl, ?_⟩
    -- what is left of the turn, from any text that the word may follow
    have rest : ∀ (D' : Ends), (∀ σ H, LInv a d r u (k + 1) σ H → D'.nx σ H) → ∀ (t' : List Nat) (v8' : Option V) (H6 : Hp), Draws H6 d r → TksAt H6 u ts → FreeW t' ts w → t'.length ≤ 100 + 100 * k + 50 →
        (tSeq (tAsg (tCall (sp_l_place K) [] E (tCons (tVar 2) tNil)) (gTup K 2 (gCons (gName 9) (gCons (gName 10) gNil))))
          (tSeq (tDrop (tBM K "list" rAppend (tVar 3) (tCons (tTup (tCons (tVar 6) (tCons (tVar 7) (tCons (tVar 9) (tCons (tVar 10) tNil))))) tNil)))
          (tSeq (tAsg (tOp rCatS (tVar 2) (tVar 7)) (gName 2))
          (tAsg (tVar 7) (gName 4))))) D'
        [some (.ref a), some (.ref d), some (.str (Tx t')), some (.ref u), some (.str (Tx last)), some (.int (0 + k)), some (.str (kdS kd)), some (.str (Tx w)), v8', v9, v10, v11] H6 := fun D' hD' t' v8' H6 D6 T6 hF hl' => by
      refine ⟨_, rfl, t', rfl, by omega, fun q2 H7 s7 nq2 hq2 => ?_⟩
      refine ⟨q2, _, rfl, SqT.of hq2, rfl, _, _, rfl, _, _, rfl, rfl, ?_⟩
      have D7 := D6.same s7
      have T7 := T6.same s7
      obtain ⟨xs0, hu0, hxl0, _⟩ := id T7
      refine ⟨_, rfl, .inl ⟨rfl, _, SqL.of hu0⟩, _, rfl, _, rfl, _, rfl, _, rfl, (by show 4 ≤ sizeLine; decide), fun q3 nq3 => ?_⟩
      have T8 : TksAt (upd H7 q3 (.tup (tkV ⟨kd, w, (adv t' 1 1).1, (adv t' 1 1).2⟩))) u ts := T7.same (same_upd nq3)
      have D8 : Draws (upd H7 q3 (.tup (tkV ⟨kd, w, (adv t' 1 1).1, (adv t' 1 1).2⟩))) d r := D7.fresh nq3
      obtain ⟨xs, hu, hxl, T9⟩ := T8.snoc (t := ⟨kd, w, (adv t' 1 1).1, (adv t' 1 1).2⟩) upd_same
      refine ⟨u, xs, _, rfl, rfl, hu, (by rw [hxl]; exact Nat.lt_of_le_of_lt (show ts.length ≤ 1000 by omega) (by decide)), ?_⟩
      refine ⟨_, rfl, _, rfl, _, _, rfl, rfl, ?_, ?_⟩
      · show t'.length + w.length ≤ sizeLine
        exact small_len (by omega)
      · rw [Tx_app]
        refine ⟨_, rfl, hD' _ _ ⟨t' ++ w, w, _, _, _, _, _, _, _, _, rfl, D8.other nud nur, T9, hF.word hg hn10, fun z => by omega, by rw [List.length_append]; omega, ?_, by rw [List.length_append, List.length_singleton]; omega⟩⟩
        intro x hx
        rcases List.mem_append.mp hx with hx | hx
        · exact hok x hx
        · rw [List.mem_singleton.mp hx]
          exact hwok
    -- if the last word or this one is alone, and the draw is not 0: nothing between
    refine ⟨_, rfl, last, rfl, fun H6 s6 => ⟨_, rfl, ?_⟩⟩
    have D6 := D5.same s6
    have T6 := T5.same s6
    -- a gap, or at the first word nothing
    have yes : ∀ (D' : Ends), (∀ σ H, LInv a d r u (k + 1) σ H → D'.nx σ H) → ∀ H7, Draws H7 d r → TksAt H7 u ts →
        (tIfS (tTest (tOp rGtI (tVar 5) (tC (.int 0))))
          (tSeq (tAsg (tCall (sp_l_between K) [] E (tCons (tVar 1) tNil)) (gName 8))
          (tSeq (tAsg (tOp rCatS (tVar 2) (tVar 8)) (gName 2))
          (tIfS (tAnd (tTest (tOp rInSign (tC (.str ("#" : Str))) (tVar 8))) (tTest (tOp (rIn K true) (tOp rIxS (tVar 8) (tUn rNegI (tC (.int 1)))) (tTup (tCons (tC (.str (" " : Str))) (tCons (tC (.str ("\n" : Str))) tNil))))))
            (tAsg (tOp rCatS (tVar 2) (tC (.str ("\n" : Str)))) (gName 2))
            tNext)))
          tNext) { D' with nx := (tSeq (tAsg (tCall (sp_l_place K) [] E (tCons (tVar 2) tNil)) (gTup K 2 (gCons (gName 9) (gCons (gName 10) gNil))))
          (tSeq (tDrop (tBM K "list" rAppend (tVar 3) (tCons (tTup (tCons (tVar 6) (tCons (tVar 7) (tCons (tVar 9) (tCons (tVar 10) tNil))))) tNil)))
          (tSeq (tAsg (tOp rCatS (tVar 2) (tVar 7)) (gName 2))
          (tAsg (tVar 7) (gName 4))))) D' }
        [some (.ref a), some (.ref d), some (.str (Tx t)), some (.ref u), some (.str (Tx last)), some (.int (0 + k)), some (.str (kdS kd)), some (.str (Tx w)), v8, v9, v10, v11] H7 := fun D' hD' H7 D7 T7 => by
      refine ⟨_, rfl, _, _, rfl, rfl, _, rfl, ?_⟩
      refine ite2 (fun hk1 => ?_) (fun hk1 => ?_)
      · refine ⟨_, rfl, d, r, rfl, D7, fun H8 g K8 D8 gg gne gl gh => ?_⟩
        have T8 := T7.keptD D7 K8
        refine ⟨_, rfl, _, rfl, _, _, rfl, rfl, ?_, ?_⟩
        · show t.length + g.length ≤ sizeLine
          exact small_len (by omega)
        · rw [Tx_app]
          refine ⟨_, rfl, 35, _, congrArg V.str (by decide +kernel), rfl, _, rfl, ?_⟩
          refine ite2 (fun h35 => ?_) (fun h35 => ?_)
          · -- between[-1] not in (" ", "\n")
            obtain ⟨c, cs, ec⟩ : ∃ c cs, g = cs ++ [c] := ⟨g.getLast gne, g.dropLast, (List.dropLast_concat_getLast gne).symm⟩
            refine ⟨_, rfl, _, rfl, _, -1, c, rfl, rfl, small_len (by show g.length ≤ _; omega), (by show atI g (-1) = _; rw [ec]; exact atI_last cs c), (by show 2 ≤ sizeLine; decide), fun q9 nq9 => ?_⟩
            have T9 := T8.same (same_upd (o := .tup [V.str (" " : Str), V.str ("\n" : Str)]) nq9)
            have D9 := D8.fresh (o := .tup [V.str (" " : Str), V.str ("\n" : Str)]) nq9
            refine ⟨_, _, rfl, .inr (SqT.of upd_same), rfl, rfl, _, rfl, ?_⟩
            refine ite2 (fun _ => ?_) (fun _ => ?_)
            · refine ⟨_, rfl, _, _, rfl, rfl, ?_, ?_⟩
              · rw [nl1]
                show (t ++ g).length + 1 ≤ sizeLine
                rw [List.length_append]
                exact small_len (by omega)
              · rw [nl1, show (⟨#[10]⟩ : Str) = Tx [10] from rfl, Tx_app, List.append_assoc]
                have gg2 : gapB false (g ++ [10]) = true := gapB_nl gg
                refine rest D' hD' (t ++ (g ++ [10])) _ _ D9 T9 (hPre.gap gg2 (headOk_app gne gh) (by simp) w) (by rw [List.length_append, List.length_append, List.length_singleton]; omega)
            · exact rest D' hD' (t ++ g) _ _ D9 T9 (hPre.gap gg gh gne w) (by rw [List.length_append]; omega)
          · exact rest D' hD' (t ++ g) _ _ D8 T8 (hPre.gap gg gh gne w) (by rw [List.length_append]; omega)
      · have ek : k = 0 := by
          have : ¬ (0 : Int) < 0 + (k : Int) := fun z => hk1 (decide_eq_true z)
          omega
        exact rest D' hD' t _ _ D7 T7 (hPre.direct (.inl (hk0 ek))) (by omega)
    have pick : ∀ H7, Draws H7 d r → TksAt H7 u ts → (aloneW last = true ∨ aloneW w = true) → ∀ (Y : Bool → Hp → Prop), (∀ H8, Draws H8 d r → TksAt H8 u ts → Y true H8 ∧ Y false H8) →
        (tTest (tOp rEq (tCall (sp_l_pick K) [] E (tCons (tVar 1) (tCons (tC (.int 3)) tNil))) (tC (.int 0)))) [some (.ref a), some (.ref d), some (.str (Tx t)), some (.ref u), some (.str (Tx last)), some (.int (0 + k)), some (.str (kdS kd)), some (.str (Tx w)), v8, v9, v10, v11] H7 Y := fun H7 D7 T7 _ Y hY => by
      refine ⟨_, rfl, d, 3, rfl, by decide, r, D7, fun j H8 j0 j1 D8 M8 => ?_⟩
      obtain ⟨y1, y2⟩ := hY H8 D8 (T7.keptD D7 (Kept.of_moved M8))
      refine ⟨rfl, _, rfl, ?_⟩
      cases decide (V.int j = V.int 0) with
      | true => exact y1
      | false => exact y2
    have hD0 : ∀ σ H, LInv a d r u (k + 1) σ H → LInv a d r u (k + 1) σ H := fun _ _ z => z
    cases hal : aloneW last with
    | true =>
      refine iteT (iteF ?_)
      refine pick H6 D6 T6 (.inl hal) _ fun H8 D8 T8 => ⟨iteT ?_, iteF ?_⟩
      · exact yes _ hD0 H8 D8 T8
      · exact rest _ hD0 t _ _ D8 T8 (hPre.direct (.inl hal)) (by omega)
    | false =>
      refine iteF ⟨_, rfl, w, rfl, fun H7 s7 => ⟨_, rfl, ?_⟩⟩
      have D7 := D6.same s7
      have T7 := T6.same s7
      cases haw : aloneW w with
      | true =>
        refine iteF ?_
        refine pick H7 D7 T7 (.inr haw) _ fun H8 D8 T8 => ⟨iteT ?_, iteF ?_⟩
        · exact yes _ hD0 H8 D8 T8
        · exact rest _ hD0 t _ _ D8 T8 (hPre.direct (.inr haw)) (by omega)
      | false =>
        exact iteT (yes _ hD0 H7 D7 T7)
  · rintro σ H4 ⟨t, last, ts, v5, v6, v7, v8, v9, v10, v11, rfl, D4, T4, hPre, hk0, htl, hok, htsl⟩
    -- text = text + [..][pick]
    refine ⟨_, rfl, (by show 5 ≤ sizeLine; decide), fun p5 np5 => ?_⟩
    refine ⟨_, rfl, d, 5, rfl, by decide, r, D4.fresh np5, fun j5 H5 j50 j51 D5 M5 => ?_⟩
    have T5 : TksAt H5 u ts := (T4.same (same_upd np5)).keptD (D4.fresh np5) (Kept.of_moved M5)
    have hp5 : H5 p5 = some (.lst (["", " ", "\n", "\n  ", " # the end"].map mS)) := (M5 p5 (Ne.symm (D4.neD np5))).trans upd_same
    obtain ⟨sf, hsf, e5⟩ := menu_at (ss := ["", " ", "\n", "\n  ", " # the end"]) j50 j51
    have gsf : endB false (codes sf) = true ∧ (codes sf).length ≤ 100 ∧ headOk (codes sf) = true := by
      have z : ∀ s ∈ ["", " ", "\n", "\n  ", " # the end"], endB false (codes s) = true ∧ (codes s).length ≤ 100 ∧ headOk (codes s) = true := by decide +kernel
      exact z sf hsf
    refine ⟨p5, _, _, _, rfl, rfl, SqL.of hp5, e5, _, _, rfl, rfl, ?_, ?_⟩
    · show t.length + (codes sf).length ≤ sizeLine
      exact small_len (by omega)
    rw [Tx_app]
    have hend := lex_end (endB_ok false (codes sf) gsf.1 (adv t 1 1).1 (adv t 1 1).2)
    have hlex : lex (t ++ codes sf) 1 1 = (ts ++ [⟨.fin, [], (adv (t ++ codes sf) 1 1).1, (adv (t ++ codes sf) 1 1).2⟩], none) := by
      rw [hPre (codes sf) (.inr gsf.2.2), hend, adv_append]
    -- row, column = _law_place(text); due.append(("end", "", row, column))
    refine ⟨_, rfl, t ++ codes sf, rfl, by rw [List.length_append]; omega, fun q6 H6 s6 nq6 hq6 => ?_⟩
    refine ⟨q6, _, rfl, SqT.of hq6, rfl, _, _, rfl, _, _, rfl, rfl, ?_⟩
    have T6 := T5.same s6
    obtain ⟨xs0, hu0, hxl0, _⟩ := id T6
    refine ⟨_, rfl, .inl ⟨rfl, _, SqL.of hu0⟩, _, rfl, _, rfl, (by show 4 ≤ sizeLine; decide), fun q7 nq7 => ?_⟩
    have e7 : ([V.str ("end" : Str), V.str ("" : Str), V.int (adv (t ++ codes sf) 1 1).1, V.int (adv (t ++ codes sf) 1 1).2] : List V) = tkV ⟨.fin, [], (adv (t ++ codes sf) 1 1).1, (adv (t ++ codes sf) 1 1).2⟩ := by
      show _ = [V.str ("end" : Str), V.str (Tx []), _, _]
      rw [show ("" : Str) = Tx [] by decide +kernel]
    have T7 : TksAt (upd H6 q7 (.tup [V.str ("end" : Str), V.str ("" : Str), V.int (adv (t ++ codes sf) 1 1).1, V.int (adv (t ++ codes sf) 1 1).2])) u ts := T6.same (same_upd nq7)
    obtain ⟨xs, hu, hxl, T8⟩ := T7.snoc (t := ⟨.fin, [], (adv (t ++ codes sf) 1 1).1, (adv (t ++ codes sf) 1 1).2⟩) (by rw [upd_same, e7])
    refine ⟨u, xs, _, rfl, rfl, hu, (by rw [hxl]; exact Nat.lt_of_le_of_lt (show ts.length ≤ 1000 by omega) (by decide)), ?_⟩
    -- actual = tokens(text)
    refine ⟨_, rfl, t ++ codes sf, rfl, by rw [List.length_append]; omega, fun ts9 p9 H9 e9 np9 s9 T9 => ?_, fun ts9 er r9 c9 H9 e9 _ => by rw [hlex] at e9; cases e9⟩
    have ets : ts9 = ts ++ [⟨.fin, [], (adv (t ++ codes sf) 1 1).1, (adv (t ++ codes sf) 1 1).2⟩] := by
      rw [hlex] at e9
      exact (congrArg Prod.fst e9).symm
    have T10 := T8.same s9
    have hok2 : ∀ x ∈ ts9, okTk x = true := fun x hx => by
      rw [ets] at hx
      rcases List.mem_append.mp hx with hx | hx
      · exact hok x hx
      · rw [List.mem_singleton.mp hx]
        exact (by decide +kernel : PyData.strOk (Tx []) = true)
    rw [← ets] at T10
    obtain ⟨qs9, hp9, _, _⟩ := id T9
    have hsh := shaped_tks hok2
    -- isinstance(actual, list), actual != due
    refine ⟨_, rfl, _, _, .type "list", .type "list", true, rfl, .ty "list", .base (.lst hp9), kit_ty (by decide +kernel), _, rfl, ?_⟩
    refine iteF ?_
    refine ⟨_, rfl, _, rfl, _, _, T9.dp, T10.dp, hsh, hsh, _, rfl, ?_⟩
    rw [SeqAt.eqv_refl _ (SeqAt.canLay_of_shaped hsh)]
    refine iteF ?_
    -- KEYWORDS == tuple(_law_keywords()) and tokens("") == [("end", "", 1, 1)]
    refine ⟨rfl, fun p11 H11 s11 np11 hp11 => ?_⟩
    refine ⟨p11, _, rfl, .inl ⟨SqL.of hp11, fun p12 np12 => ?_⟩⟩
    refine ⟨_, _, .tup (hK _) (dp_strs kwL), .tup (SqT.of upd_same) (by rw [kwS_eq]; exact dp_strs kwL), kw_shaped, kw_shaped, _, rfl, ?_⟩
    rw [SeqAt.eqv_refl _ (SeqAt.canLay_of_shaped kw_shaped)]
    refine iteT ?_
    have l0 : lex [] 1 1 = ([⟨.fin, [], 1, 1⟩], none) := lex_end rfl
    refine ⟨[], congrArg (fun s => [V.str s]) (by decide +kernel), by decide, fun ts13 p13 H13 e13 np13 s13 T13 => ?_, fun ts13 er r9 c9 H13 e13 _ => by rw [l0] at e13; cases e13⟩
    have ets13 : ts13 = [⟨.fin, [], 1, 1⟩] := by
      rw [l0] at e13
      exact (congrArg Prod.fst e13).symm
    subst ets13
    refine ⟨(by show 4 ≤ sizeLine; decide), fun p14 np14 => ⟨(by show 1 ≤ sizeLine; decide), fun p15 np15 => ?_⟩⟩
    have n145 : p14 ≠ p15 := fun z => by rw [← z, upd_same] at np15; cases np15
    have e14 : ([V.str ("end" : Str), V.str ("" : Str), V.int 1, V.int 1] : List V) = tkV ⟨.fin, [], 1, 1⟩ := by
      show _ = [V.str ("end" : Str), V.str (Tx []), _, _]
      rw [show ("" : Str) = Tx [] by decide +kernel]
    have T15 := (T13.same (same_upd (o := .tup [V.str ("end" : Str), V.str ("" : Str), V.int 1, V.int 1]) np14)).same (same_upd (o := .lst [V.ref p14]) np15)
    have T16 : TksAt (upd (upd H13 p14 (.tup [V.str ("end" : Str), V.str ("" : Str), V.int 1, V.int 1])) p15 (.lst [V.ref p14])) p15 [⟨.fin, [], 1, 1⟩] := by
      refine ⟨[p14], upd_same, rfl, fun k q t e1 e2 => ?_⟩
      cases k with
      | zero =>
        cases e1
        cases e2
        rw [upd_ne n145, upd_same, e14]
      | succ k => simp at e1
    have sh16 : SeqAt.shaped (.list ([(⟨.fin, [], 1, 1⟩ : Tk)].map tkD)) = true := by decide +kernel
    refine ⟨_, _, T15.dp, T16.dp, sh16, sh16, ?_⟩
    rw [SeqAt.eqv_refl _ (SeqAt.canLay_of_shaped sh16)]
    exact q _
end
end Rm

/-! E1: an own error whose class chain ends in ValueError and whose __init__ tells row and column by super().__init__(f'..'). -/
namespace Rm
open PySem PySem.W PySem.Calls PyProof.Rows PySem.HandSPX
/-! ### the text of __init__ -/
def teA (p1 p2 p3 : Pos) : Arguments := { posonlyargs := [], args := [{ arg := "self", annotation := none, pos := p1 }, { arg := "row", annotation := none, pos := p2 }, { arg := "column", annotation := none, pos := p3 }], vararg := none, kwonlyargs := [], kw_defaults := [], kwarg := none, defaults := [] }
def teB (a1 a2 a3 b1 b2 b3 c1 c2 d1 d2 e1 e2 f1 f2 f3 f4 g1 g2 g3 g4 : Pos) (k1 k2 : Nat) : List Stmt :=
  [.Expr (.Call (.Attribute (.Call (.Name "super" a1) [] [] a2) "__init__" a3) [.JoinedStr [.Constant (.str "row ") k1 b1, .FormattedValue (.Name "row" c1) (-1) none c2, .Constant (.str ", column ") k2 b2, .FormattedValue (.Name "column" d1) (-1) none d2] b3] [] e1) e2,
   .Assign [.Attribute (.Name "self" f1) "row" f2] (.Name "row" f3) f4, .Assign [.Attribute (.Name "self" g1) "column" g2] (.Name "column" g3) g4]
def teS : Scope := { kind := .function, names := [(PySem.Str.ofString "self", .local), (PySem.Str.ofString "row", .local), (PySem.Str.ofString "column", .local), (PySem.Str.ofString "__class__", .free), (PySem.Str.ofString "super", .globalImplicit)], isGenerator := false, isCoroutine := false, more := [] }
/-- what the written part tells of the class at C, whose __init__, at fI, is written in the class at D -/
structure ErrK (P : Program) (K : Frag) (C : Addr) : Prop where
  oex : L2.OexC K C
  nr : findIn K (.ref C) "row" = some none
  nc : findIn K (.ref C) "column" = some none
  vE : subIn K (.ref C) (.type "ValueError") = some true
  sup : nsIn K mainGlobals "super" = some none
  tp : nsIn K cStatics "thirdparty.any" = some none
  top : (P.main.scope.names.lookup ("super" : Str)).isSome = false
  fn : ∃ (D cc cda fI : Addr) (oc ocd oce : Value) (od odd ode : Option Addr) (osl osd ose : Array (Option Value)) (cdD : ClassData) (vs : Array Value) (file : Str) (tf : Tok) (dV kV doc pm ct : Value) (an : Option Addr)
    (p1 p2 p3 a1 a2 a3 b1 b2 b3 c1 c2 d1 d2 e1 e2 f1 f2 f3 f4 g1 g2 g3 g4 : Pos) (k1 k2 : Nat),
    (a3.endLine == e1.line) = true ∧ findIn K (.ref C) "__init__" = some (some (.ref fI)) ∧ typeIn K (.ref fI) = some (.type "function") ∧
    K.lookup fI = some ⟨oc, od, .func (ksFn "__init__" "TextError.__init__" (teA p1 p2 p3) (teB a1 a2 a3 b1 b2 b3 c1 c2 d1 d2 e1 e2 f1 f2 f3 f4 g1 g2 g3 g4 k1 k2) teS .none kV doc pm an (.ref cda) ct cc), osl⟩ ∧ codeIn K (.ref cda) "TextError.__init__" = true ∧
    K.lookup cda = some ⟨ocd, odd, .fields vs, osd⟩ ∧ vs[2]? = some (.str file tf) ∧ ((P.main.file : Str) == file) = true ∧
    K.lookup cc = some ⟨oce, ode, .cell (some (.ref D)), ose⟩ ∧ clsIn K D = some cdD ∧ mroIn K C (.ref D) = some true ∧ ks_superIn K C D "__init__" = some (some (.builtin "ValueError.__init__"))
section
variable {prog : Program} {w : World} {A : Around} {E : Value → Shared → Prop} {R : Result → Shared → Prop} {h : Heap} {g : Array GenState} {d : Drawn} {t : Nat} {os : OsState} {K : Frag} {C : Addr}
/-- ValueError.__init__, bound, called -/
theorem bound_called {nm q : Str} {N u x t0 : Addr} {bs bm : List Value} {hd : Bool} {sn : List Str} {sub : List Value} {ab : Bool} {col : Option Bool} {dd : Option Addr} {k0 k1 k2 k3 k5 : Option Value} {rest : List Value} {Q : Value → Shared → Prop}
    (cls : h.get? C = some (excClassObj nm q C N bs bm hd sn sub ab col dd k0 k1 k2 k3 k5 "ValueError.__new__")) (inst : h.get? x = some (excO C t0)) (mw : h.get? u = some (kxs_mw "ValueError.__init__" x)) (few : rest.length ≤ sizeLine)
    (goal : ∀ h' t1, (∀ b o, b ≠ x → h.get? b = some o → h'.get? b = some o) → h'.get? x = some (excO C t1) → Q .none ⟨h', g, d, t, os⟩) : wpAny (model prog w) A (call (.ref u) rest) Q E ⟨h, g, d, t, os⟩ := by
  apply wpAny_call
  apply codeAny_of_tree
  change wpAny _ A.in1 (callAny (.ref u) ⟨rest, []⟩) _ _ _
  rw [callAny]
  apply wpAny_bind
  apply wpAny_load mw
  have yes : (Value.type "method-wrapper" == Value.type "method" || Value.type "method-wrapper" == Value.type "builtin_function_or_method" || Value.type "method-wrapper" == Value.type "method-wrapper") = true := by decide
  simp only [kxs_mw, yes, if_true]
  apply KFB.if_so (by decide)
  refine wpAny_bind (check_bound_init F.excBase_ValueError.toExcCallFacts cls inst rfl (wpAny_bind (wpAny_pure (wpAny_pure ⟨plainId_quiet F.excBase_ValueError.init.plain _, codeAny_builtin F.excBase_ValueError.initEntry ?_⟩))))
  exact exc_init_tree (cls := .ref C) (t0 := t0) (dv := none) (c2 := .none) (c3 := .none) (b4 := .bool false) inst few fun h' keep at_ _ => goal h' _ keep at_
theorem three {x : Addr} {r c : Value} {y : Str × Value} (hy : y ∈ ([(("self" : Str), Value.ref x), ("row", r), ("column", c)] : List (Str × Value))) : teS.names.lookup y.1 = some .local := by
  rcases List.mem_cons.mp hy with rfl | hy
  · show teS.names.lookup ("self" : Str) = _
    decide +kernel
  rcases List.mem_cons.mp hy with rfl | hy
  · show teS.names.lookup ("row" : Str) = _
    decide +kernel
  rcases List.mem_cons.mp hy with rfl | hy
  · show teS.names.lookup ("column" : Str) = _
    decide +kernel
  · cases hy
theorem meth_line {o : Expr} {name : Str} {apos pos : Pos} {args : List Expr} {env : Env} (ln : (apos.endLine == pos.line) = true) (few : methodCallForm (args.length + 0) (backTo pos (starEach args env)) [] = true) :
    eval (.Call (.Attribute o name apos) args [] pos) env = (do
      let ov ← attributeBase o name env (eval o env)
      standAt apos.atName
      let (f, first) ← holding [ov] (getMethod ov name (L2.plainOf o env))
      callWith pos f first (backTo pos (starEach args env)) []) := by
  have e : ∀ ov, methodCall o name apos pos env ov (args.length + 0) (backTo pos (starEach args env)) [] = (do
      let (f, first) ← holding [ov] (getMethod ov name (L2.plainOf o env))
      callWith pos f first (backTo pos (starEach args env)) []) := fun ov => L2.mcall_line few ln
  rw [arm_eval_Call]
  show (attributeBase o name env (eval o env) >>= fun ov => standAt apos.atName >>= fun _ => methodCall o name apos pos env ov (args.length + 0) (backTo pos (starEach args env)) []) = _
  rw [show (fun ov => standAt apos.atName >>= fun _ => methodCall o name apos pos env ov (args.length + 0) (backTo pos (starEach args env)) []) = fun ov => standAt apos.atName >>= fun _ => (do
      let (f, first) ← holding [ov] (getMethod ov name (L2.plainOf o env))
      callWith pos f first (backTo pos (starEach args env)) []) from funext fun ov => by rw [e ov]]
/-- the parts of the told text are short -/
theorem place_text {r : Int} (hr : r.natAbs.log2 < 1920) : (PySem.Str.ofString (toString r)).length ≤ 1921 := by
  have e := int_text_length_le (k := 1920) (by decide) hr
  rw [PySem.ofString_length]
  omega
/-- what __init__ leaves -/
structure ErrLeft (h h' : Heap) (x C dx t1 : Addr) (r c : Value) : Prop where
  keep : ∀ b o, b ≠ x → h.get? b = some o → h'.get? b = some o
  obj : h'.get? x = some { cls := .ref C, dict := some dx, data := .fields #[.ref t1, .none, .none, .none, .bool false, .none] }
  big : h.objs.size ≤ dx
  ne : dx ≠ x
  ns : h'.Ns1 dx (fun y => if y = "column" then some c else if y = "row" then some r else none)
theorem err_init {mg mb : Str → Option Value} {x t0 : Addr} {r c : Int} {tr tc : Tok} (T : ErrK prog K C) (X : K.In h) (G : h.Ns mainGlobals mg) (B : h.Ns builtinsNs mb) (bb : ∀ x : Str, x ≠ "__name__" → mb x = bootBuiltins x)
    (lim : h.NoLimit) (hx : h.get? x = some (excO C t0)) (nx : K.lookup x = none) (room : A.depth < recursionLimit) (hr : r.natAbs.log2 < 1920) (hc : c.natAbs.log2 < 1920) {fI : Addr} (iI : findIn K (.ref C) "__init__" = some (some (.ref fI)))
    (goal : ∀ h' tk dx t1, ErrLeft h h' x C dx t1 (.int r tr) (.int c tc) → R (.ok (.ret .none)) ⟨h', g, d, tk, os⟩) :
    codeAny (model prog w) A (.call (.ref fI) ⟨[.ref x, .int r tr, .int c tc], []⟩) R ⟨h, g, d, t, os⟩ := by
  obtain ⟨D, cc, cda, fI', oc, ocd, oce, od, odd, ode, osl, osd, ose, cdD, vs, file, tf, dV, kV, doc, pm, ct, an, p1, p2, p3, a1, a2, a3, b1, b2, b3, c1, c2, d1, d2, e1, e2, f1, f2, f3, f4, g1, g2, g3, g4, k1, k2, ln, iI', tI, lF, cF, lcd, hvs, hfile, lcc, lD, mD, sI⟩ := T.fn
  have same : fI' = fI := by
    rw [iI] at iI'
    cases iI'
    rfl
  subst same
  obtain ⟨nm, q, N, bs, bm, sn, sub, ab, col, dd, k0, k1', k2', k3, k5, hC, hbm⟩ := T.oex.cls
  have hcl : clsIn K C = some { name := nm, bases := bs, mro := .ref C :: bm, ns := N, qualname := q, hasDict := true, slotNames := sn, subclasses := sub, abstract := ab, collection := col, hasDel := false } := by
    unfold clsIn
    rw [hC] <;> rfl
  refine ks_codeAny_call_defAt (binds := [("self", .ref x), ("row", .int r tr), ("column", .int c tc)]) room (X _ _ lF) rfl lim (codeRec_of X cF) rfl (BindsTo.of_eq (by first | rfl | with_unfolding_all rfl)) (show ∀ y ∈ teS.names, y.2 ≠ .cell by decide +kernel) (show ∀ y ∈ ([(("self" : Str), Value.ref x), ("row", .int r tr), ("column", .int c tc)] : List (Str × Value)), teS.names.lookup y.1 = some .local from fun y hy => three hy) (fun h0 ns0 keep0 => ?_)
  have X0 : K.In h0 := X.keeps keep0
  have hx0 := keep0 _ _ hx
  -- super()
  refine ks_wpAt_execs_cons (ks_wpAt_Expr_any (ks_wpAt_MethodCall (pl := L2.plainOf (.Call (.Name "super" a1) [] [] a2) (ksEnv "TextError.__init__" teS h.objs.size fI' (.ref cda) cc)) ?_ (meth_line ln rfl)))
  have lookN : ∀ y : Str, (fun y => ([("self", Value.ref x), ("row", .int r tr), ("column", .int c tc)] : List (Str × Value)).reverse.lookup y) y = ([("self", Value.ref x), ("row", .int r tr), ("column", .int c tc)] : List (Str × Value)).reverse.lookup y := fun _ => rfl
  obtain ⟨oD, hD1, hD2⟩ : ∃ oD, h0.get? D = some oD ∧ oD.data = .cls cdD := by
    unfold clsIn at lD
    split at lD
    · rename_i cls0 dct0 cd0 sl0 ho
      cases lD
      exact ⟨_, X0 _ _ ho, rfl⟩
    · cases lD
  refine ks_wpAt_super_base (by rfl) (by rfl) (by decide) rfl (X0 _ _ lF) rfl rfl rfl (X0 _ _ lcd) rfl hvs hfile T.top ?_
  refine ks_loadName_global rfl rfl (loadGlobal_builtin (mg := mg) (mb := mb) (v := .type "super") (G.keeps keep0) (mg_none_of X G T.sup) (B.keeps keep0) ((bb _ (by decide +kernel)).trans (by first | rfl | kernel_rfl)) ⟨rfl, ?_⟩)
  refine wpAny_loadName_free (v := .ref D) rfl rfl rfl ⟨_, X0 _ _ lcc, rfl⟩ ?_
  refine wpAny_loadName_local (v := .ref x) rfl rfl ns0 (by first | rfl | kernel_rfl) ?_
  refine ks_wpAny_isType_cls hD1 hD2 ⟨rfl, ?_⟩
  refine ks_wpAny_call_super hD1 hD2 hx0 rfl (fun _ z => by cases z) (looks_mroIn X0 mD) (fun h1 so1 keep1 => ?_)
  have X1 : K.In h1 := X0.keeps keep1
  have hx1 := keep1 _ _ hx0
  have I1 : InstAt h1 x (excO C t0) C none := ⟨hx1, rfl, rfl, trivial⟩
  have along : alongIn K "__init__" (((Value.ref C :: bm).dropWhile (· != .ref D)).drop 1) = some (some (.builtin "ValueError.__init__")) := by
    unfold ks_superIn at sI
    rw [hcl] at sI
    exact sI
  refine kxs_getMethod kxs_ValueError so1 (looks_opaque X1 T.tp) ((looks_clsIn X1 hcl).andThen .now) rfl X1 along (I1.type.andThen (looks_subIn X1 T.vE)) (ks_ne X1 I1 hcl) (by decide) ?_
  have keep2 : ∀ b o, h1.get? b = some o → (h1.push (kxs_mw "ValueError.__init__" x)).get? b = some o := fun b o e => Heap.get?_push_of_some _ e
  have mw2 : (h1.push (kxs_mw "ValueError.__init__" x)).get? h1.objs.size = some (kxs_mw "ValueError.__init__" x) := Heap.get?_push_at rfl rfl
  have ns2 : (h1.push (kxs_mw "ValueError.__init__" x)).Ns h.objs.size (fun y => ([("self", Value.ref x), ("row", .int r tr), ("column", .int c tc)] : List (Str × Value)).reverse.lookup y) := ns0.at fun o e => keep2 _ _ (keep1 _ _ e)
  generalize hh2 : h1.push (kxs_mw "ValueError.__init__" x) = h2 at keep2 mw2 ns2
  have all2 : ∀ b o, h.get? b = some o → h2.get? b = some o := fun b o e => keep2 _ _ (keep1 _ _ (keep0 _ _ e))
  -- the told text
  refine kxs_callWith (i := "ValueError.__init__") (x := x) rfl ?_
  refine evalArgs_plain (x := eval (.JoinedStr [.Constant (.str "row ") k1 b1, .FormattedValue (.Name "row" c1) (-1) none c2, .Constant (.str ", column ") k2 b2, .FormattedValue (.Name "column" d1) (-1) none d2] b3) (ksEnv "TextError.__init__" teS h.objs.size fI' (.ref cda) cc)) (spliced_cons ?_)
  refine wpAny_JoinedStr ?_
  refine wpAny_Constant_str ⟨_, _, rfl, by decide, ?_⟩
  have z0 : (Str.empty ++ ("row " : Str)).length = 4 := by decide
  have z1 : ((", column " : Str)).length = 9 := by decide
  have tr1 := place_text hr
  have tc1 := place_text hc
  have fit1 : ((Str.empty ++ ("row " : Str)) ++ Str.ofString (toString r)).length ≤ sizeLine := by
    rw [strLen_append, sizeLine_eq]
    omega
  have fit2 : (((Str.empty ++ ("row " : Str)) ++ Str.ofString (toString r)) ++ (", column " : Str)).length ≤ sizeLine := by
    rw [strLen_append, strLen_append, sizeLine_eq]
    omega
  have fit3 : ((((Str.empty ++ ("row " : Str)) ++ Str.ofString (toString r)) ++ (", column " : Str)) ++ Str.ofString (toString c)).length ≤ sizeLine := by
    rw [strLen_append, strLen_append, strLen_append, sizeLine_eq]
    omega
  refine wpAny_FormattedValue_plain (wpAny_Name (wpAny_loadName_local (v := .int r tr) rfl rfl ns2 (by first | rfl | kernel_rfl) ?_))
  refine wpAny_formatField_int hr ⟨_, _, rfl, fit1, ?_⟩
  refine wpAny_Constant_str ⟨_, _, rfl, fit2, ?_⟩
  refine wpAny_FormattedValue_plain (wpAny_Name (wpAny_loadName_local (v := .int c tc) rfl rfl ns2 (by first | rfl | kernel_rfl) ?_))
  refine wpAny_formatField_int hc ⟨_, _, rfl, fit3, fit3, ?_⟩
  refine spliced_nil ⟨mw2, ?_⟩
  refine bound_called (X.keeps all2 _ _ hC) (keep2 _ _ hx1) mw2 (by show 1 ≤ sizeLine; decide) fun h3 t3 keep3 hx3 => ?_
  have Lx : h.objs.size ≠ x := Nat.ne_of_gt (Heap.lt_size hx)
  have ns3 := ns2.at fun o e => keep3 _ _ Lx e
  have X2 : K.In h2 := X.keeps all2
  have X3 : K.In h3 := fun b o e => keep3 b o (fun z => by rw [z, nx] at e; cases e) (X2 b o e)
  -- self.row = row
  refine wpAt_of_wpAny (wpAny_execs_cons (plainObj_wpAny_Assign_Attribute ?_))
  refine wpAny_Name (wpAny_loadName_local (v := .int r tr) rfl rfl ns3 (by first | rfl | kernel_rfl) ?_)
  refine wpAny_Name (wpAny_loadName_local (v := .ref x) rfl rfl ns3 (by first | rfl | kernel_rfl) ?_)
  refine set_plain X3 (ox := excO C t3) (od := none) ⟨hx3, rfl, rfl, trivial⟩ T.oex.sa ?_
  refine exc_osa X3 hx3 hcl (show refsVE (.ref C :: bm) = true from hbm) rfl T.nr fun h4 tk4 dx keep4 big4 ne4 hx4 own4 => ?_
  have ns4 := ns3.at fun o e => keep4 _ _ Lx e
  have X4 : K.In h4 := fun b o e => keep4 b o (fun z => by rw [z, nx] at e; cases e) (X3 b o e)
  -- self.column = column
  refine wpAny_execs_cons (plainObj_wpAny_Assign_Attribute ?_)
  refine wpAny_Name (wpAny_loadName_local (v := .int c tc) rfl rfl ns4 (by first | rfl | kernel_rfl) ?_)
  refine wpAny_Name (wpAny_loadName_local (v := .ref x) rfl rfl ns4 (by first | rfl | kernel_rfl) ?_)
  obtain ⟨oD4, _, _, hoD4, _⟩ := id own4
  refine set_plain X4 (od := some oD4) ⟨hx4, rfl, rfl, hoD4⟩ T.oex.sa ?_
  have within4 : PySem.Within (fun y => if y = ("row" : Str) then some (Value.int r tr) else none) ["row"] := fun y hy => by
    by_cases e : y = "row"
    · rw [e]
      exact List.mem_cons_self
    · exact absurd (if_neg e) hy
  refine PySem.OEX.osa_old X4 hx4 own4 within4 (by decide) hcl (show refsVE (.ref C :: bm) = true from hbm) rfl T.nc fun h5 tk5 keep5 own5 => ?_
  refine wpAny_execs_nil (goal h5 _ dx t3 ?_)
  have dxbig : h.objs.size ≤ dx := Nat.le_trans (Nat.le_of_lt ns3.lt) big4
  exact ⟨fun b o ne e => keep5 b o (fun z => by
      have q : b < h.objs.size := Heap.lt_size e
      rw [z] at q
      exact absurd dxbig (Nat.not_le_of_lt q)) (keep4 b o ne (keep3 b o ne (all2 b o e))), keep5 _ _ (Ne.symm ne4) hx4, dxbig, ne4, own5⟩
end
end Rm

/-! E2: such an error made, raised, its fields read, its class asked. -/
namespace Rm
open PySem PySem.W PySem.Calls PyProof.Rows PySem.HandSPX
section
variable {prog : Program} {w : World} {A : Around} {E : Value → Shared → Prop} {R : Result → Shared → Prop} {h : Heap} {g : Array GenState} {d : Drawn} {t : Nat} {os : OsState} {K : Frag} {C : Addr}
theorem err_made {mg mb : Str → Option Value} {r c : Int} {tr tc : Tok} (T : ErrK prog K C) (X : K.In h) (G : h.Ns mainGlobals mg) (B : h.Ns builtinsNs mb) (bb : ∀ x : Str, x ≠ "__name__" → mb x = bootBuiltins x)
    (lim : h.NoLimit) (room : A.depth + 1 < recursionLimit) (hr : r.natAbs.log2 < 1920) (hc : c.natAbs.log2 < 1920)
    (goal : ∀ h' tk e dx t1, (∀ b o, h.get? b = some o → h'.get? b = some o) → h.objs.size ≤ e → h'.get? e = some { cls := .ref C, dict := some dx, data := .fields #[.ref t1, .none, .none, .none, .bool false, .none] } → h.objs.size ≤ dx → dx ≠ e →
      h'.Ns1 dx (fun y => if y = "column" then some (.int c tc) else if y = "row" then some (.int r tr) else none) → R (.ok (.ret (.ref e))) ⟨h', g, d, tk, os⟩) :
    codeAny (model prog w) A (.call (.ref C) ⟨[.int r tr, .int c tc], []⟩) R ⟨h, g, d, t, os⟩ := by
  obtain ⟨nm, q, N, bs, bm, sn, sub, ab, col, dd, k0, k1, k2, k3, k5, hC, hbm⟩ := T.oex.cls
  obtain ⟨D, cc, cda, fI, oc, ocd, oce, od, odd, ode, osl, osd, ose, cdD, vs, file, tf, dV, kV, doc, pm, ct, an, p1, p2, p3, a1, a2, a3, b1, b2, b3, c1, c2, d1, d2, e1, e2, f1, f2, f3, f4, g1, g2, g3, g4, k1', k2', ln, iI, tI, rest⟩ := T.fn
  clear rest
  have up : ∀ b o, h.get? b = some o → ((h.push (kdv_tup [.int r tr, .int c tc])).push (excO C h.objs.size)).get? b = some o := fun b o e => Heap.get?_push_of_some _ (Heap.get?_push_of_some _ e)
  have there : ((h.push (kdv_tup [.int r tr, .int c tc])).push (excO C h.objs.size)).get? (h.objs.size + 1) = some (excO C h.objs.size) := by heap_get
  have free : K.lookup (h.objs.size + 1) = none := by
    cases e : K.lookup (h.objs.size + 1) with
    | none => rfl
    | some o =>
      exact absurd (Nat.lt_of_succ_lt (show h.objs.size + 1 < h.objs.size from Heap.lt_size (X _ _ e))) (Nat.lt_irrefl _)
  refine call_own F.excBase_ValueError (fun Y => refsVE_contains Y bm hbm) (X _ _ hC) (looks_findIn X iI) (fun self => bind_fn X self tI) (by show 2 ≤ sizeLine; decide) ?_
  refine err_init T (X.keeps up) (G.keeps up) (B.keeps up) bb (lim.keeps up) there free ?_ hr hc iI fun h' tk dx t1 L => ?_
  · show A.depth + 1 < recursionLimit
    exact room
  · have old : ∀ b o, h.get? b = some o → h'.get? b = some o := fun b o e => L.keep b o (Nat.ne_of_lt (Nat.lt_succ_of_lt (Heap.lt_size e))) (up b o e)
    have big := L.big
    rw [Heap.size_push, Heap.size_push] at big
    exact ⟨rfl, goal h' tk (h.objs.size + 1) dx t1 old (Nat.le_succ _) L.obj (by omega) L.ne L.ns⟩
end
end Rm
namespace Rm
open PySem PySem.Spec PyProof.Rows L2
/-- an error's fields -/
def exF (r c : Int) : List (Str × V) := [("column", .int c), ("row", .int r)]
theorem exF_rel {r c : Int} {tr tc : Tok} (f : Str) : RelO ((exF r c).lookup f) (if f = "column" then some (Value.int c tc) else if f = "row" then some (Value.int r tr) else none) := by
  unfold exF
  by_cases e : f = "column"
  · subst e
    rw [if_pos rfl, show List.lookup ("column" : Str) [(("column" : Str), V.int c), ("row", .int r)] = some (.int c) by simp [List.lookup]]
    exact ⟨_, rfl⟩
  · rw [if_neg e, lookup_put, if_neg e]
    by_cases e2 : f = "row"
    · subst e2
      rw [if_pos rfl, show List.lookup ("row" : Str) [(("row" : Str), V.int r)] = some (.int r) by simp [List.lookup]]
      exact ⟨_, rfl⟩
    · rw [if_neg e2, lookup_put, if_neg e2]
      exact True.intro
section
variable {X : Cx} {C : Addr}
/-- C(row, column) -/
def tMkErr (C : Addr) (ta : TA) : L2.St → Hp → XK → Prop := fun σ H Q => ta σ H fun vs H1 => ∃ r c : Int, vs = [.int r, .int c] ∧ r.natAbs.log2 < 1920 ∧ c.natAbs.log2 < 1920 ∧ ∀ d, H1 d = none → Q (.ref C) (some d) (upd H1 d (.xd (exF r c)))
theorem pmk_err {n : Str} {es : List Expr} {e0 : Expr} {ta : TA} {p pos : Pos} {k : Nat} (T : ErrK X.prog X.K C) (hr : Room k X.A) (hm : X.mg n = some (.ref C)) (ha : PA X (e0 :: es) ta) (hg : Gl X n := by rfl) (hdb : (n == ("__debug__" : Str)) = false := by decide)
    (he : starEach (e0 :: es) X.env = (false, eval e0 X.env) :: starEach es X.env := by rfl) (hpl : (backTo pos (starEach es X.env)).any (·.1) = false := by rfl) :
    PMk X (.Call (.Name n p) (e0 :: es) [] pos) (tMkErr C ta) := by
  intro pins s σ H Q I h
  refine wpAny_Call_Name_kw (ld_glob I hg hm ?_ hdb)
  refine PySem.W.callWith_K (h₀ := X.base) I.ok.mod.kin T.oex.kC (thn (ha.run pos pins s σ H _ I h) fun us s1 hh => ?_) he hpl
  obtain ⟨vs, H1, I1, r1, r, c, ev, hlr, hlc, q1⟩ := hh
  subst ev
  refine ⟨I1.kIn, ?_⟩
  cases r1 with
  | cons rr rest =>
    cases rest with
    | cons rc rest =>
      cases rest
      obtain ⟨tr, rfl⟩ := rr
      obtain ⟨tc, rfl⟩ := rc
      show wpAny _ _ (call (.ref C) [.int r tr, .int c tc]) _ _ _
      have lim := I1.nolimit
      have e0' := I1.env0
      obtain ⟨mb, hb, hbb⟩ := e0'.mod.blt
      have kb : ∀ b o, X.base.get? b = some o → s1.heap.get? b = some o := fun b o e => (e0'.bs b o e).1
      have G1 := e0'.mod.glob.keeps kb
      have B1 := hb.keeps kb
      obtain ⟨hp, g, dr, tk, os⟩ := s1
      refine wpAny_call (err_made T I1.kIn G1 B1 hbb lim (by have := hr.dp; omega) hlr hlc fun h' tk' e d t1 old eb hoe db dne hns => ?_)
      show MkP X pins σ Q (.ref e) ⟨h', g, dr, tk', os⟩
      obtain ⟨G', gs, gn⟩ := restrict h' fun b => decide (b ≠ e)
      have gk : ∀ b, b ≠ e → G'.get? b = h'.get? b := fun b hb => gs b (decide_eq_true hb)
      have ge : G'.get? e = none := gn e (by simp)
      have keep : ∀ b o, hp.get? b = some o → G'.get? b = some o := fun b o q => (gk b (Nat.ne_of_lt (Nat.lt_of_lt_of_le (Heap.lt_size q) eb))).trans (old b o q)
      have dict : ObjOk X.prog X.w (upd H1 d (.xd (exF r c))) G' d (.xd (exF r c)) := ⟨_, hns.at (fun o q => (gk d dne).trans q), exF_rel⟩
      have J : Inv X pins σ (upd H1 d (.xd (exF r c))) ⟨G', g, dr, tk', os⟩ := I1.laid (t' := tk') keep db dict
      refine ⟨e, _, _, ⟨G', g, dr, tk', os⟩, _, .ref C, some d, rfl, J, fun b o q => ?_, ge, hoe, ⟨rfl, rfl⟩, rfl, rfl, ?_, rfl, I1.bare, raises_own T.oex.exC T.oex.tyC, q1 d (I1.hok.fresh db)⟩
      · by_cases hb : b = e
        · rw [hb] at q
          exact absurd (ge.symm.trans q) (by simp)
        · exact (gk b hb).symm.trans q
      · rw [upd_ne (Ne.symm dne)]
        exact I1.hok.fresh eb
/-- raise C(row, column) -/
def tRaiseErr (C : Addr) (W : WX) (ta : TA) : TS := fun _ σ H => tMkErr C ta σ H fun cls d H' => W cls d σ H'
theorem ps_err {n : Str} {es : List Expr} {e0 : Expr} {ta : TA} {W : WX} {p pos pos2 : Pos} {k : Nat} (hc : X.calm = true) (T : ErrK X.prog X.K C) (hr : Room k X.A) (tk : Takes X W) (hm : X.mg n = some (.ref C)) (ha : PA X (e0 :: es) ta) (hg : Gl X n := by rfl)
    (hdb : (n == ("__debug__" : Str)) = false := by decide) (he : starEach (e0 :: es) X.env = (false, eval e0 X.env) :: starEach es X.env := by rfl) (hpl : (backTo pos (starEach es X.env)).any (·.1) = false := by rfl) :
    PS X (.Raise (some (.Call (.Name n p) (e0 :: es) [] pos)) none pos2) (tRaiseErr C W ta) := ps_raise hc tk (pmk_err T hr hm ha hg hdb he hpl)
/-! ### its class asked: isinstance(e, ..) in the suite -/
theorem inst_at {C a : Addr} {d : Option Addr} {oe : Obj} {h : Heap} (hz : Zc (.ref C) d oe) (hf : ∃ vs, oe.data = .fields vs) (ha : h.get? a = some oe) (hd : ∀ x, d = some x → ∃ o, h.get? x = some o) : ∃ od, PySem.W.InstAt h a oe C od := by
  obtain ⟨oc, odc, odt, osl⟩ := oe
  obtain ⟨vs, hv⟩ := hf
  obtain ⟨z1, z2⟩ := hz
  dsimp only at z1 z2 hv
  subst z1 z2 hv
  cases odc with
  | none => exact ⟨none, ha, rfl, rfl, trivial⟩
  | some x =>
    obtain ⟨o, ho⟩ := hd x rfl
    exact ⟨some o, ha, rfl, rfl, ho⟩
/-- isinstance(e, c), e the error that the suite holds, c a class -/
def rIsX (K : PySem.W.Frag) (cls : Value) (d : Option Addr) (a : Addr) : List V → Hp → VK → Prop := fun xs H Q => ∃ (C : Addr) (c : V) (cv : Value) (b : Bool), cls = .ref C ∧ xs = [.ref a, c] ∧ ClsV c cv ∧ ExcC K C ∧ (∀ x, d = some x → ∃ fs, H x = some (.xd fs)) ∧ PySem.W.kitOne K (.ref C) cv = some b ∧ Q (.bl b) H
/-- isinstance(e, (c, ..)) -/
def rIsXT (K : PySem.W.Frag) (cls : Value) (d : Option Addr) (a : Addr) : List V → Hp → VK → Prop := fun xs H Q => ∃ (C tp : Addr) (cs : List V) (us : List Value) (b : Bool), cls = .ref C ∧ xs = [.ref a, .ref tp] ∧ H tp = some (.tup cs) ∧ Paired ClsV cs us ∧ ExcC K C ∧ (∀ x, d = some x → ∃ fs, H x = some (.xd fs)) ∧ PySem.W.kitAny K (.ref C) us = some b ∧ Q (.bl b) H
theorem call_isX {a : Addr} {oe : Obj} {cls : Value} {d : Option Addr} {pn : List (Addr × Obj)} (hz : Zc cls d oe) (hf : ∃ vs, oe.data = .fields vs) : CallR (X.suite a ((a, oe) :: pn)) (.builtin "isinstance") (rIsX X.K cls d a) := by
  intro pins s σ H xs us Q I r h
  obtain ⟨C, c, cv, b, rfl, rfl, k, T, hd, e, q⟩ := h
  obtain ⟨u1, u2, rfl, r1, r2⟩ := vals2 r
  have e2 := k.eq r2
  subst e2
  cases (show u1 = Value.ref a from r1)
  obtain ⟨at_, _⟩ := I.pin (a, oe) (List.mem_append.mpr (.inl List.mem_cons_self))
  obtain ⟨od, J⟩ := inst_at hz hf at_ fun x ex => by
    obtain ⟨fs, hx⟩ := hd x ex
    obtain ⟨mA, ⟨o, _, _, ho, _⟩, _⟩ := (show ObjOk X.prog X.w H s.heap x (.xd fs) from I.hok x _ hx)
    exact ⟨o, ho⟩
  have cl : (PySem.W.clsIn X.K C).isSome = true := by
    obtain ⟨cd, hc, _⟩ := PySem.W.any_some T.hd
    rw [hc]
    rfl
  exact PySem.W.kia_one (PySem.W.kitx_exc cl T.hg T.hk T.hs T.ha T.hn T.ht T.hm) I.kIn J e (fun z => nomatch z) fun tk => ⟨.bl b, H, I.kept (t' := tk) fun _ _ z => z, rfl, q⟩
theorem call_isXT {a : Addr} {oe : Obj} {cls : Value} {d : Option Addr} {pn : List (Addr × Obj)} (hz : Zc cls d oe) (hf : ∃ vs, oe.data = .fields vs) : CallR (X.suite a ((a, oe) :: pn)) (.builtin "isinstance") (rIsXT X.K cls d a) := by
  intro pins s σ H xs us Q I r h
  obtain ⟨C, tp, cs, ws, b, rfl, rfl, hT, k, T, hd, e, q⟩ := h
  obtain ⟨u1, u2, rfl, r1, r2⟩ := vals2 r
  cases (show u1 = Value.ref a from r1)
  cases (show u2 = Value.ref tp from r2)
  obtain ⟨at_, _⟩ := I.pin (a, oe) (List.mem_append.mpr (.inl List.mem_cons_self))
  obtain ⟨od, J⟩ := inst_at hz hf at_ fun x ex => by
    obtain ⟨fs, hx⟩ := hd x ex
    obtain ⟨mA, ⟨o, _, _, ho, _⟩, _⟩ := (show ObjOk X.prog X.w H s.heap x (.xd fs) from I.hok x _ hx)
    exact ⟨o, ho⟩
  obtain ⟨_, its, rv, o, t1, t2, n, t3⟩ := (show ObjOk X.prog X.w H s.heap tp (.tup cs) from I.hok tp _ hT)
  have e3 := ClsV.all k rv
  subst e3
  obtain ⟨oc, od', dt, sl⟩ := o
  simp only at t2 t3
  subst t2 t3
  have cl : (PySem.W.clsIn X.K C).isSome = true := by
    obtain ⟨cd, hc, _⟩ := PySem.W.any_some T.hd
    rw [hc]
    rfl
  exact PySem.W.kia_tup (PySem.W.kitx_exc cl T.hg T.hk T.hs T.ha T.hn T.ht T.hm) I.kIn J t1 e (fun z => nomatch z) fun tk => ⟨.bl b, H, I.kept (t' := tk) fun _ _ z => z, rfl, q⟩
end
end Rm

/-! E3: try with several clauses, each with a name. -/
namespace Rm
open PySem PySem.Spec PyProof.Rows L2
abbrev Sfn := Addr → Value → Option Addr → TS
/-- behind a suite the name is gone -/
def goneD (i : Nat) (D : Ends) : Ends := { nx := fun τ G => D.nx (τ.set i none) G, rt := D.rt, bk := fun τ G => D.bk (τ.set i none) G, ct := fun τ G => D.ct (τ.set i none) G }
/-- what the clauses 'except c as n' (n's slot) wish of the body's error -/
def wishes (K : PySem.W.Frag) (out : WX) (D : Ends) : List (Value × Nat × Sfn) → WX
  | [] => out
  | (c, i, f) :: more => fun cls d τ G => ∃ hit, PySem.W.exmOne K cls c = some hit ∧ (hit = true → ∀ a, G a = none → f a cls d (goneD i D) (τ.set i (some (.ref a))) G) ∧ (hit = false → wishes K out D more cls d τ G)
/-- the clauses -/
inductive Clauses (X : Cx) : List ExceptHandler → List (Value × Nat × Sfn) → Prop
  | nil : Clauses X [] []
  | cons {x n : Str} {c : Value} {i : Nat} {f : Sfn} {b0 : Stmt} {bs : List Stmt} {p1 p2 : Pos} {more : List ExceptHandler} {l : List (Value × Nat × Sfn)} (is : Names X x c) (slot : X.N[i]? = some n) (loc : X.env.kindOf n = some .local)
      (suite : ∀ (a : Addr) (oe : Obj) (cls : Value) (d : Option Addr) (pn : List (Addr × Obj)), Zc cls d oe → (∃ vs, oe.data = .fields vs) → PSs (X.suite a ((a, oe) :: pn)) (b0 :: bs) (f a cls d)) (rest : Clauses X more l) :
      Clauses X (.ExceptHandler (some (.Name x p1)) (some n) (b0 :: bs) p2 :: more) ((c, i, f) :: l)
/-- an error that has landed in its frame: at a, its class cls, its dict d; s1 what stands now, s0 what stood where it was raised -/
structure Landed (X : Cx) (pins : List (Addr × Obj)) (τ : L2.St) (G : Hp) (B : Heap) (a : Addr) (cls : Value) (d : Option Addr) (s0 s1 : Shared) : Prop where
  ok : X.Ok
  inv : Inv X pins τ G s0
  stack : X.stack = X.env :: X.outer
  frame : X.env.frame = some X.env.locals
  nb : ∀ b o, s0.heap.get? b = some o → b ∉ frs X.stack → B.get? b = some o
  up : s0.heap.UpToSlots s1.heap
  fly : HandSPX.FlyingZ B (X.env :: X.outer) a (Zc cls d) s1.heap
  na : G a = none
  os : s1.os = s0.os
  ag : AllBare s1.gens
section
variable {X : Cx} {pins : List (Addr × Obj)} {τ : L2.St} {G : Hp} {B : Heap} {a : Addr} {cls : Value} {d : Option Addr} {s0 s1 : Shared}
theorem Landed.now (L : Landed X pins τ G B a cls d s0 s1) : Inv X pins τ G s1 := L.inv.landed L.nb L.fly.1 L.up L.os L.ag
theorem Landed.next (L : Landed X pins τ G B a cls d s0 s1) {h : Heap} (fly : HandSPX.FlyingZ B (X.env :: X.outer) a (Zc cls d) h) (up : s1.heap.UpToSlots h) : Landed X pins τ G B a cls d s0 { s1 with heap := h } :=
  ⟨L.ok, L.inv, L.stack, L.frame, L.nb, L.up.trans up, fly, L.na, L.os, L.ag⟩
/-- it is no frame of those that run -/
theorem Landed.apart (L : Landed X pins τ G B a cls d s0 s1) : ∃ oe vs, s1.heap.get? a = some oe ∧ Zc cls d oe ∧ oe.data = .fields vs ∧ a ≠ X.env.locals ∧ a ∉ X.fs := by
  obtain ⟨oe, vs, e, z, dt⟩ := L.fly.there
  have away : a ∉ frs (X.env :: X.outer) := by
    intro mem
    obtain ⟨_, o2, e2, no⟩ := L.fly.2.2.1.mem mem
    rw [e] at e2
    cases e2
    exact no _ dt
  refine ⟨oe, vs, e, z, dt, ?_, ?_⟩
  · intro same
    refine away (List.mem_filterMap.mpr ⟨X.env, List.mem_cons_self, ?_⟩)
    rw [L.frame, same]
  · intro mem
    obtain ⟨en, m, q⟩ := List.mem_filterMap.mp mem
    exact away (List.mem_filterMap.mpr ⟨en, List.mem_cons_of_mem _ m, q⟩)
/-- no clause is left -/
theorem Landed.out {D : Ends} {W : WX} (L : Landed X pins τ G B a cls d s0 s1) (tk : Takes X W) (w : W cls d τ G) : wpAny (model X.prog X.w) X.A (handleBy (.ref a) X.env []) (SP X pins D) X.xe s1 := by
  have fl := L.fly
  obtain ⟨_, _, _, oe, vs, tb, ob, tt, e, z, dt, first_, _⟩ := id fl
  apply wpAny_handleBy_nil
  unfold PySem.passOn
  apply wpAny_bind
  apply wpAny_field e dt first_
  have no : ¬ ((Value.ref tb == Value.none) = true) := by simp
  rw [if_neg no]
  have last : wpAny (model X.prog X.w) X.A (setFlight (.ref a) X.env.frame) (fun _ s4 => wpAny (model X.prog X.w) X.A (throw (.ref a) : Sem Flow) (SP X pins D) X.xe s4) X.xe s1 := by
    rw [L.frame]
    apply HandSPX.setFlight_upZ fl
    intro h4 held up4
    apply wpAny_throw
    refine tk _ _ ⟨a, B, s0, pins, τ, G, cls, d, rfl, L.inv, L.nb, L.up.trans up4, .inr (.inr ?_), L.na, L.os, L.ag, w⟩
    rw [L.stack]
    exact held
  first
    | exact wpAny_bind (wpAny_pure (wpAny_bind last))
    | exact wpAny_bind last
/-- the class that the clause names -/
theorem Landed.named {x : Str} {c : Value} {p : Pos} (L : Landed X pins τ G B a cls d s0 s1) (is : Names X x c) {Q : Value → Shared → Prop} {E : Value → Shared → Prop} (q : Q c s1) :
    wpAny (model X.prog X.w) (X.A.mark (some (.ref a))) (eval (.Name x p) X.env) Q E s1 := by
  obtain ⟨oe, vs, e, z, dt, n1, n2⟩ := L.apart
  have S := L.now.suite e dt L.na n1 n2
  obtain ⟨g, dbg, own | ⟨none_, blt, nn⟩⟩ := is
  · exact ld_glob (X := X.suite a ((a, oe) :: (X.pn ++ pins))) S g own q dbg
  · exact ld_blt (X := X.suite a ((a, oe) :: (X.pn ++ pins))) S g none_ blt q nn dbg
theorem Landed.clauses {D : Ends} {W : WX} (tk : Takes X W) (nd : X.N.Nodup) : ∀ {hs : List ExceptHandler} {l : List (Value × Nat × Sfn)}, Clauses X hs l → ∀ {s1 : Shared}, Landed X pins τ G B a cls d s0 s1 → wishes X.K W D l cls d τ G →
    wpAny (model X.prog X.w) X.A (handleBy (.ref a) X.env hs) (SP X pins D) X.xe s1 := by
  intro hs l cl
  induction cl with
  | nil => exact fun L w => L.out tk w
  | @cons x n c i f b0 bs p1 p2 more l is slot loc suite rest ih =>
    intro s1 L w
    obtain ⟨hit, asked, yes, no⟩ := w
    obtain ⟨oe, vs, e, z, dt, n1, n2⟩ := L.apart
    apply wpAny_handleBy_cons
    · apply codeAny_handlers_test
      have typ : PySem.W.Looks (model X.prog X.w) s1.heap (typeOf (.ref a)) cls := fun _ _ _ _ keep q => wpAny_typeOf_ref (keep _ _ e) (by rw [z.1]; exact q)
      refine L.named is ((PySem.W.exm_one (M := model X.prog X.w) L.now.kIn typ asked).here ?_)
      cases hit with
      | false => exact ih L (no rfl)
      | true =>
        apply codeAny_handlers_suite_as
        apply HandSPX.lands_againZ L.fly
        intro h4 fly4 up4
        have L4 := L.next fly4 up4
        obtain ⟨oe4, vs4, e4, z4, dt4, m1, m2⟩ := L4.apart
        refine store_ok (X := X.suite a ((a, oe4) :: (X.pn ++ pins))) (v := .ref a) (L4.now.suite e4 dt4 L4.na m1 m2) nd slot (.inl loc) rfl (fun s5 I5 => ?_) (.inr loc)
        refine wpAny_mono ((suite a oe4 cls d (X.pn ++ pins) z4 ⟨_, dt4⟩).run [] s5 _ G _ I5 (yes rfl a L.na)) (fun fl s6 got => ?_) (fun _ _ never => never.elim)
        have close : ∀ {τ6 : L2.St} {G6 : Hp} {Z : Shared → Prop}, Inv (X.suite a ((a, oe4) :: (X.pn ++ pins))) [] τ6 G6 s6 → (∀ s7, Inv X pins (τ6.set i none) G6 s7 → Z s7) →
            wpAny (model X.prog X.w) X.A (do bindName X.env n .none; unbindBehindTheSuite X.env n p2) (fun _ s7 => Z s7) X.xe s6 := fun I6 z7 => gone_ok (I6.unsuite L.ok) nd slot loc z7
        cases fl with
        | ret u =>
          obtain ⟨v6, τ6, G6, I6, rv, q6⟩ := got
          exact close I6 fun s7 I7 => ⟨v6, _, G6, I7, rv, q6⟩
        | next =>
          obtain ⟨τ6, G6, I6, q6⟩ := got
          exact close I6 fun s7 I7 => ⟨_, G6, I7, q6⟩
        | brk =>
          obtain ⟨τ6, G6, I6, q6⟩ := got
          exact close I6 fun s7 I7 => ⟨_, G6, I7, q6⟩
        | cont =>
          obtain ⟨τ6, G6, I6, q6⟩ := got
          exact close I6 fun s7 I7 => ⟨_, G6, I7, q6⟩
    · intro q
      cases q
end
/-- its reading -/
def tTry (K : PySem.W.Frag) (out : WX) (tb : WX → TS) (l : List (Value × Nat × Sfn)) : TS := fun D τ G => tb (wishes K out D l) D τ G
/-- try: body, clauses with names -/
theorem ps_try_named {X : Cx} {body : List Stmt} {c0 : ExceptHandler} {cs : List ExceptHandler} {l : List (Value × Nat × Sfn)} {pos : Pos} {tb : WX → TS} {out : WX} (stk : X.stack = X.env :: X.outer) (fr : X.env.frame = some X.env.locals) (nd : X.N.Nodup) (tk : Takes X out)
    (inner : ∀ (W : WX) (pn : List (Addr × Obj)) (xe : Value → Shared → Prop), Takes (X.tr pn xe) W → PassesOwn (model X.prog X.w) X.A X.env xe → PSs (X.tr pn xe) body (tb W)) (cl : Clauses X (c0 :: cs) l) :
    PS X (.Try body (c0 :: cs) [] [] pos) (tTry X.K out tb l) := by
  constructor
  intro pins s τ G D I h
  have ok := I.ok
  have frames : X.A.frames = some (X.env :: X.outer) := by rw [ok.frames, stk]
  apply wpAny_Try_except
  have caught : Takes (X.tr (X.pn ++ pins) fun e s₁ => wpAny (model X.prog X.w) X.A (noteFrame e X.env) (fun _ s₂ => wpAny (model X.prog X.w) X.A (setFlight e none) (fun _ s₃ => wpAny (model X.prog X.w) X.A (handleBy e X.env (c0 :: cs)) (SP X pins D) X.xe s₃) X.xe s₂) X.xe s₁)
      (wishes X.K out D l) := by
    intro u s1 xx
    obtain ⟨a, B, s0, pins1, τ1, G1, cls, d, rfl, J, nb, up, sky, na, os, ag, w⟩ := xx
    have sky' : Sky B (X.env :: X.outer) a (Zc cls d) X.env.locals s1.heap := by
      rw [← stk]
      exact sky
    apply Sky.land Zc.steady frames fr sky'
    intro h3 fly3 up3
    exact Landed.clauses tk nd cl ⟨ok, J.ofTry ok, stk, fr, nb, up.trans up3, fly3, na, os, ag⟩ w
  refine wpAny_mono ((inner _ _ _ caught PassesOwn.looking).run [] s τ G D (I.toTry _) h) (fun fl s1 got => ?_) (fun _ _ e => e)
  cases fl with
  | ret u =>
    obtain ⟨v, τ1, G1, J, rv, q⟩ := got
    exact ⟨v, τ1, G1, J.ofTry ok, rv, q⟩
  | brk =>
    obtain ⟨τ1, G1, J, q⟩ := got
    exact ⟨τ1, G1, J.ofTry ok, q⟩
  | cont =>
    obtain ⟨τ1, G1, J, q⟩ := got
    exact ⟨τ1, G1, J.ofTry ok, q⟩
  | next =>
    obtain ⟨τ1, G1, J, q⟩ := got
    exact wpAny_execs_nil ⟨τ1, G1, J.ofTry ok, q⟩
end Rm

/-! E4: what is asked of the written part for such errors; the head's facts with a def that has a cell. -/
namespace Rm
open PySem PySem.Spec PyProof.Rows L2
def tailB (C : Addr) : List Value → Bool
  | .ref D :: bm => decide (D = C) && PySem.HandSPX.refsVE bm
  | _ => false
def newB : List (Option Value) → Bool
  | [_, _, _, _, some (.builtin n), _] => decide (n = "ValueError.__new__")
  | _ => false
def clsB (K : PySem.W.Frag) (C : Addr) : Bool := match K.lookup C with
  | some ⟨.type "type", _, .cls cd, sl⟩ => tailB C cd.mro && (newB sl.toList && (!cd.hasDel && cd.hasDict))
  | _ => false
theorem tailB_ok {C : Addr} {l : List Value} (h : tailB C l = true) : ∃ bm, l = .ref C :: bm ∧ PySem.HandSPX.refsVE bm = true := by
  unfold tailB at h
  split at h
  · obtain ⟨e, q⟩ := He.ba h
    have e := of_decide_eq_true e
    subst e
    exact ⟨_, rfl, q⟩
  · cases h
theorem newB_ok {l : List (Option Value)} (h : newB l = true) : ∃ k0 k1 k2 k3 k5, l = [k0, k1, k2, k3, some (.builtin "ValueError.__new__"), k5] := by
  unfold newB at h
  split at h
  · have e := of_decide_eq_true h
    subst e
    exact ⟨_, _, _, _, _, rfl⟩
  · cases h
theorem clsB_ok {K : PySem.W.Frag} {C : Addr} (h : clsB K C = true) : ∃ nm q N bs bm sn sub ab col dd k0 k1 k2 k3 k5, K.lookup C = some (excClassObj nm q C N bs bm true sn sub ab col dd k0 k1 k2 k3 k5 "ValueError.__new__") ∧ PySem.HandSPX.refsVE bm = true := by
  unfold clsB at h
  split at h
  · rename_i dd cd sl look
    obtain ⟨h1, h⟩ := He.ba h
    obtain ⟨h2, h⟩ := He.ba h
    obtain ⟨h3, h4⟩ := He.ba h
    obtain ⟨bm, e1, tail⟩ := tailB_ok h1
    obtain ⟨k0, k1, k2, k3, k5, e2⟩ := newB_ok h2
    obtain ⟨nm, bs, mro, ns, qn, hd, sn, sub, ab, col, del⟩ := cd
    obtain ⟨sll⟩ := sl
    dsimp only at e1 e2 h3 h4
    subst e1 e2 h4
    have e3 : del = false := by simpa using h3
    subst e3
    exact ⟨nm, qn, ns, bs, bm, sn, sub, ab, col, dd, k0, k1, k2, k3, k5, look, tail⟩
  · cases h
/-- the def with a cell -/
abbrev CelW : Type := Option (Str × Str × Arguments × FuncBody × Scope × Addr × List Str × Addr)
def celW (K : PySem.W.Frag) (f : Addr) : CelW := match K.lookup f with
  | some ⟨_, _, .func fd, _⟩ => some (fd.name, fd.qualname, fd.params, fd.body, fd.scope, fd.globals, fd.closure.map (·.1), fd.builtins)
  | _ => none
def celV (name qual : Str) (st : Stmt) : CelW := some (name, qual, defArgs st, .stmts (defBody st), defScope st, mainGlobals, ["__class__"], builtinsNs)
def codB (K : PySem.W.Frag) (file : Str) : Value → Bool
  | .ref c => (match K.lookup c with
    | some ⟨_, _, .fields vs, _⟩ => (match (vs[2]? : Option Value) with
      | some (Value.str z _) => decide (z = file)
      | _ => false)
    | _ => false)
  | _ => false
theorem codB_ok {K : PySem.W.Frag} {file : Str} {v : Value} (h : codB K file v = true) : ∃ c oc od vs sl t, v = .ref c ∧ K.lookup c = some ⟨oc, od, .fields vs, sl⟩ ∧ vs[2]? = some (.str file t) := by
  unfold codB at h
  split at h
  · split at h
    · rename_i look
      split at h
      · rename_i e
        have z := of_decide_eq_true h
        subst z
        exact ⟨_, _, _, _, _, _, rfl, look, e⟩
      · cases h
    · cases h
  · cases h
def ownB (K : PySem.W.Frag) (C : Addr) : List (Str × Addr) → Bool
  | [(_, cc)] => (match K.lookup cc with
    | some ⟨_, _, .cell (some (.ref D)), _⟩ => (PySem.W.clsIn K D).isSome && (decide (PySem.W.mroIn K C (.ref D) = some true) && decide (PySem.W.ks_superIn K C D "__init__" = some (some (.builtin "ValueError.__init__"))))
    | _ => false)
  | _ => false
theorem ownB_ok {K : PySem.W.Frag} {C : Addr} {l : List (Str × Addr)} (h : ownB K C l = true) : ∃ x cc oc od sl D cd, l = [(x, cc)] ∧ K.lookup cc = some ⟨oc, od, .cell (some (.ref D)), sl⟩ ∧ PySem.W.clsIn K D = some cd ∧ PySem.W.mroIn K C (.ref D) = some true ∧
    PySem.W.ks_superIn K C D "__init__" = some (some (.builtin "ValueError.__init__")) := by
  unfold ownB at h
  split at h
  · split at h
    · rename_i look
      obtain ⟨h1, h⟩ := He.ba h
      obtain ⟨h2, h3⟩ := He.ba h
      obtain ⟨cd, e⟩ := Option.isSome_iff_exists.mp h1
      exact ⟨_, _, _, _, _, _, cd, rfl, look, e, of_decide_eq_true h2, of_decide_eq_true h3⟩
    · cases h
  · cases h
def noneB : Value → Bool
  | .none => true
  | _ => false
theorem noneB_ok {v : Value} (h : noneB v = true) : v = .none := by
  unfold noneB at h
  split at h
  · rfl
  · cases h
/-- what is asked of the class at C and of its __init__ -/
def errB (K : PySem.W.Frag) (file : Str) (C : Addr) : Bool :=
  clsB K C && (decide (PySem.W.findIn K (.ref C) "__setattr__" = some (some (.builtin "object.__setattr__"))) && (decide (PySem.W.subIn K (.ref C) (.type "BaseException") = some true) && (decide (PySem.W.typeIn K (.ref C) = some (.type "type")) && (PySem.W.keepIn K (.ref C) &&
  (decide (PySem.W.findIn K (.ref C) "row" = some none) && (decide (PySem.W.findIn K (.ref C) "column" = some none) && (decide (PySem.W.subIn K (.ref C) (.type "ValueError") = some true) && (decide (PySem.W.nsIn K mainGlobals "super" = some none) &&
  (decide (PySem.W.nsIn K cStatics "thirdparty.any" = some none) && (decide (PySem.W.findIn K (.ref C) "__init__" = some (some (.ref (He.ma K C "__init__")))) && (decide (PySem.W.typeIn K (.ref (He.ma K C "__init__")) = some (.type "function")) &&
  (match K.lookup (He.ma K C "__init__") with
    | some ⟨_, _, .func fd, _⟩ => noneB fd.defaults && (PySem.W.codeIn K fd.code fd.qualname && (codB K file fd.code && ownB K C fd.closure))
    | _ => false))))))))))))
/-- its class asked -/
def excB (K : PySem.W.Frag) (C : Addr) : Bool :=
  decide (PySem.W.findIn K (.ref C) "__getattribute__" = some (some (.builtin "BaseException.__getattribute__"))) && (decide (PySem.W.findIn K (.ref C) "__getattr__" = some none) && (decide (PySem.W.subIn K (.ref C) (.type "BaseException") = some true) && (PySem.W.hasDictIn K C &&
  (decide (PySem.W.findIn K (.ref C) "__class__" = some (some (.builtin "object.__class__"))) && (decide (PySem.W.specialIn K (.builtin "object.__class__") "__get__" = some (some (.builtin "getset_descriptor.__get__"))) &&
  (decide (PySem.W.takesIn K (.builtin "object.__class__") = some true) && decide (PySem.W.mroIn K C (.type "object") = some true)))))))
theorem excB_ok {K : PySem.W.Frag} {C : Addr} (h : excB K C = true) : ExcC K C := by
  obtain ⟨h1, h⟩ := He.ba h
  obtain ⟨h2, h⟩ := He.ba h
  obtain ⟨h3, h⟩ := He.ba h
  obtain ⟨h4, h⟩ := He.ba h
  obtain ⟨h5, h⟩ := He.ba h
  obtain ⟨h6, h⟩ := He.ba h
  obtain ⟨h7, h8⟩ := He.ba h
  exact ⟨of_decide_eq_true h1, of_decide_eq_true h2, of_decide_eq_true h3, h4, of_decide_eq_true h5, of_decide_eq_true h6, of_decide_eq_true h7, of_decide_eq_true h8⟩
theorem xf_of {K : PySem.W.Frag} {C : Addr} (T : ExcC K C) : XfC K C := ⟨T.hg, T.hk, T.hs, T.hd⟩
/-- the text of __init__, as it is written -/
def TeIs (st : Stmt) : Prop := ∃ (p1 p2 p3 a1 a2 a3 b1 b2 b3 c1 c2 d1 d2 e1 e2 f1 f2 f3 f4 g1 g2 g3 g4 : Pos) (k1 k2 : Nat), defArgs st = teA p1 p2 p3 ∧ defBody st = teB a1 a2 a3 b1 b2 b3 c1 c2 d1 d2 e1 e2 f1 f2 f3 f4 g1 g2 g3 g4 k1 k2 ∧ defScope st = teS ∧ (a3.endLine == e1.line) = true
theorem errB_ok {P : Program} {K : PySem.W.Frag} {file : Str} {C : Addr} {st : Stmt} (h : errB K file C = true) (e : celW K (He.ma K C "__init__") = celV "__init__" "TextError.__init__" st) (te : TeIs st) (top : (P.main.scope.names.lookup ("super" : Str)).isSome = false) (pf : ((P.main.file : Str) == file) = true) : ErrK P K C := by
  obtain ⟨h1, h⟩ := He.ba h
  obtain ⟨h2, h⟩ := He.ba h
  obtain ⟨h3, h⟩ := He.ba h
  obtain ⟨h4, h⟩ := He.ba h
  obtain ⟨h5, h⟩ := He.ba h
  obtain ⟨h6, h⟩ := He.ba h
  obtain ⟨h7, h⟩ := He.ba h
  obtain ⟨h8, h⟩ := He.ba h
  obtain ⟨h9, h⟩ := He.ba h
  obtain ⟨h10, h⟩ := He.ba h
  obtain ⟨h11, h⟩ := He.ba h
  obtain ⟨h12, h⟩ := He.ba h
  refine ⟨⟨clsB_ok h1, of_decide_eq_true h2, of_decide_eq_true h3, of_decide_eq_true h4, h5⟩, of_decide_eq_true h6, of_decide_eq_true h7, of_decide_eq_true h8, of_decide_eq_true h9, of_decide_eq_true h10, top, ?_⟩
  obtain ⟨p1, p2, p3, a1, a2, a3, b1, b2, b3, c1, c2, d1, d2, e1, e2, f1, f2, f3, f4, g1, g2, g3, g4, k1, k2, t1, t2, t3, t4⟩ := te
  unfold celW celV at e
  split at h
  · rename_i oc od fd osl look
    rw [look] at e
    obtain ⟨q1, h⟩ := He.ba h
    obtain ⟨q2, h⟩ := He.ba h
    obtain ⟨q3, q4⟩ := He.ba h
    obtain ⟨n1, n2, n3, n4, n5, n6, n7, n8, n9, n10, n11, n12, n13, n14, n15⟩ := fd
    have e' : (some (n1, n2, n3, n4, n5, n6, n7.map (·.1), n15) : CelW) = some (("__init__" : Str), ("TextError.__init__" : Str), defArgs st, FuncBody.stmts (defBody st), defScope st, mainGlobals, [("__class__" : Str)], builtinsNs) := e
    simp only [Option.some.injEq, Prod.mk.injEq] at e'
    obtain ⟨m1, m2, m3, m4, m5, m6, m7, m8⟩ := e'
    dsimp only at q1 q2 q3 q4
    obtain ⟨x, cc, oce, ode, ose, D, cd, l1, l2, l3, l4, l5⟩ := ownB_ok q4
    obtain ⟨c, ocd, odd, vs, osd, tt, v1, v2, v3⟩ := codB_ok q3
    have q0 := noneB_ok q1
    subst l1
    have m7' : x = "__class__" := by simpa using m7
    rw [t1] at m3
    rw [t2] at m4
    rw [t3] at m5
    subst m1 m2 m3 m4 m5 m6 m7' m8 v1 q0
    exact ⟨D, cc, c, _, oc, ocd, oce, od, odd, ode, osl, osd, ose, cd, vs, file, tt, .none, n9, n10, n11, n14, n12, p1, p2, p3, a1, a2, a3, b1, b2, b3, c1, c2, d1, d2, e1, e2, f1, f2, f3, f4, g1, g2, g3, g4, k1, k2, t4, of_decide_eq_true h11, of_decide_eq_true h12, look, q2, v2, v3, pf, l2, l3, l4, l5⟩
  · cases h
end Rm

/-! D1: dicts of the module with texts as keys: what is at a key, there or not; a def that a slot holds, called, with what it lets out. -/
namespace Rm
open PySem PySem.Spec PyProof.Rows L2
/-- entries, one by one -/
inductive Ents (w : World) : List DictEntry → List (Str × V) → Prop
  | nil : Ents w [] []
  | cons {e : DictEntry} {x : Str} {t : Tok} {v : V} {es : List DictEntry} {l : List (Str × V)} (k : e.key = .str x t) (h : e.hash = PyData.keyHash w.params x) (r : RelV v e.val) (m : Ents w es l) : Ents w (e :: es) ((x, v) :: l)
/-- the dict at a holds just l -/
def KD (K : PySem.W.Frag) (w : World) (a : Addr) (l : List (Str × V)) : Prop := ∃ es n, K.lookup a = some ⟨.type "dict", none, .dict es n, #[]⟩ ∧ Ents w es.toList l ∧ (a == sysModules) = false
theorem Ents.lit {w : World} : ∀ {es : List DictEntry} {l : List (Str × V)}, Ents w es l → PySem.W.KeysLit w.params es
  | _, _, .nil => True.intro
  | _, _, .cons k h _ m => ⟨⟨_, _, k, h⟩, m.lit⟩
theorem Ents.find {w : World} {z : Str} : ∀ {es : List DictEntry} {l : List (Str × V)}, Ents w es l → RelO (l.lookup z) ((es.find? fun e => Value.isStrOf z e.key).map (·.val))
  | _, _, .nil => True.intro
  | _, _, .cons (e := e) (x := x) (t := t) (v := v) (es := es) (l := l) k h r m => by
    rw [List.find?_cons, k]
    have q : Value.isStrOf z (.str x t) = decide (x = z) := by
      by_cases hz : x = z <;> simp [Value.isStrOf, hz]
    rw [q]
    by_cases hz : x = z
    · subst hz
      rw [decide_eq_true rfl, show ((x, v) :: l).lookup x = some v by simp [List.lookup]]
      exact r
    · rw [decide_eq_false hz]
      have e2 : (z == x) = false := by
        simpa using fun y => hz y.symm
      rw [show ((x, v) :: l).lookup z = l.lookup z by simp [List.lookup, e2]]
      exact m.find
theorem KD.map {X : Cx} {pins : List (Addr × Obj)} {σ : L2.St} {H : Hp} {s : Shared} {a : Addr} {l : List (Str × V)} (I : Inv X pins σ H s) (d : KD X.K X.w a l) :
    ∃ f : Str → Option Value, s.heap.MapOf (strKind X.prog X.w) a f ∧ (a == sysModules) = false ∧ ∀ z, RelO (l.lookup z) (f z) := by
  obtain ⟨es, n, hl, ent, na⟩ := d
  refine ⟨_, PySem.W.mapOf_K (prog := X.prog) (w := X.w) I.kIn hl ent.lit, na, fun z => ?_⟩
  have q := ent.find (z := z)
  obtain ⟨es⟩ := es
  show RelO _ (((⟨es⟩ : Array DictEntry).find? fun e => Value.isStrOf z e.key).map (·.val))
  rw [List.find?_toArray]
  exact q
/-- d.get(e, f) -/
def tKGet2 (K : PySem.W.Frag) (w : World) (td ty tx : TE) : TE := fun σ H Q => td σ H fun x H1 => ∃ a l, x = .ref a ∧ KD K w a l ∧ ty σ H1 fun y H2 => tx σ H2 fun z H3 => ∃ k, y = .str k ∧ Q ((l.lookup k).getD z) H3
/-- e in d -/
def tKIn (K : PySem.W.Frag) (w : World) (ty td : TE) : TE := fun σ H Q => ty σ H fun y H1 => td σ H1 fun x H2 => ∃ a l k, x = .ref a ∧ y = .str k ∧ KD K w a l ∧ Q (.bl (l.lookup k).isSome) H2
/-- d[e], there -/
def rKIx (K : PySem.W.Frag) (w : World) : R2 := fun x y H Q => ∃ a l k v, x = .ref a ∧ y = .str k ∧ KD K w a l ∧ l.lookup k = some v ∧ Q v H
section
variable {X : Cx} {o e f : Expr} {apos cpos : Pos} {td ty tx : TE}
theorem pe_kget2 (ho : PE X o td) (he : PE X e ty) (hf : PE X f tx) (m : M2 X o "get" apos e f cpos) : PE X (.Call (.Attribute o "get" apos) [e, f] [] cpos) (tKGet2 X.K X.w td ty tx) := by
  constructor
  intro pins s σ H Q I h
  apply wpAny_Call_method m.base m.few m.line PySem.F.plainAttrs_dict PySem.F.slot_dict_get PySem.F.type_dict_get
  refine thn (ho.run pins s σ H _ I h) fun u s1 hh => ?_
  obtain ⟨x, H1, I1, rx, a, l, ex, d, q1⟩ := hh
  subst ex
  obtain rfl : u = Value.ref a := rx
  obtain ⟨fn, mp, na, rel⟩ := d.map I1
  refine ⟨mp.typeIs, fun b q => ?_, ?_⟩
  · cases q
    obtain ⟨_, _, _, h1, h2, _⟩ := mp
    exact ⟨_, h1, h2.2.1⟩
  rw [m.trees]
  apply Calls.callWith_builtin rfl
  apply Calls.evalArgs_plain
  refine Calls.spliced_cons (thn (he.run pins s1 σ H1 _ I1 q1) fun iv s2 h2 => ?_)
  obtain ⟨y, H2, I2, ry, q2⟩ := h2
  refine Calls.spliced_cons (thn (hf.run pins s2 σ H2 _ I2 q2) fun fv s3 h3 => Calls.spliced_nil ?_)
  obtain ⟨z, H3, I3, rz, k, ey, q3⟩ := h3
  subst ey
  obtain ⟨t, rfl⟩ := ry
  obtain ⟨fn, mp, na, rel⟩ := d.map I3
  refine call_meetsIn PySem.F.slot_dict_get mp.typeIs PySem.F.entry_dict_get (PySem.F.args_dict_get_3 _ _ _) (meets_dict_get_default (strKind X.prog X.w) a (strKind_is X.prog X.w k t) na fv) ⟨fn, mp, ?_⟩
  exact ⟨_, H3, I3.tok _, (rel k).getD rz, q3⟩
theorem pc_kin (hi : PE X e ty) (ho : PE X o td) : PC X .In e o (tKIn X.K X.w ty td) := by
  constructor
  intro pins s σ H Q I h
  refine thn (hi.run pins s σ H _ I h) fun iv s1 h1 => ?_
  obtain ⟨y, H1, I1, ry, q1⟩ := h1
  refine thn (ho.run pins s1 σ H1 _ I1 q1) fun u s2 h2 => ?_
  obtain ⟨x, H2, I2, rx, a, l, k, ex, ey, d, q2⟩ := h2
  subst ex ey
  obtain rfl : u = Value.ref a := rx
  obtain ⟨t, rfl⟩ := ry
  obtain ⟨fn, mp, na, rel⟩ := d.map I2
  refine wpAny_in_of (strKind_is X.prog X.w k t) na mp ?_
  rw [← (rel k).isSome_eq]
  exact ⟨.bl (l.lookup k).isSome, H2, I2.tok _, rfl, q2⟩
theorem ix_kd : IxR X (rKIx X.K X.w) := by
  intro value slice pins s σ H x y v u Q I rx ry h hs
  obtain ⟨a, l, k, r, rfl, rfl, d, lk, q⟩ := h
  obtain rfl : v = Value.ref a := rx
  obtain ⟨t, rfl⟩ := ry
  obtain ⟨fn, mp, na, rel⟩ := d.map I
  obtain ⟨w', e1, e2⟩ := RelO.some_of (v := r) (o := fn k) (by rw [← lk]; exact rel k)
  exact tail_any mp.typeIs slot_dict_getitem.lookup (wpAny_getItem_of (strKind_is X.prog X.w k t) mp e1 ⟨r, H, I.tok _, e2, q⟩) hs
end
/-! ### the def that a slot holds -/
def tCallP (i : Nat) (S : Addr → Sp → Prop) (E : XK) (t : TA) : TE := fun σ H Q => ∃ f sp, σ[i]? = some (some (.ref f)) ∧ S f sp ∧ t σ H fun vs H1 => sp vs H1 Q E
theorem pe_callP {X : Cx} {k i : Nat} {S : Addr → Sp → Prop} {E : XK} {x : Str} {p pos : Pos} {e : Expr} {es : List Expr} {t : TA} (A : ∀ f sp, S f sp → ∃ fd ps, Def X.prog X.w X.K X.mg X.base k f fd ps sp) (hr : Room k X.A) (hN : X.N[i]? = some x) (hv : Vis X.env.scope x) (hx : Passes (L2.CX X.prog X.w) X E) (ha : PA X (e :: es) t)
    (hdb : (x == ("__debug__" : Str)) = false := by decide) (hcd : (x == ("__classdict__" : Str)) = false := by decide)
    (he : starEach (e :: es) X.env = (false, eval e X.env) :: starEach es X.env := by rfl) (hpl : (backTo pos (starEach es X.env)).any (·.1) = false := by rfl) : PE X (.Call (.Name x p) (e :: es) [] pos) (tCallP i S E t) := by
  constructor
  intro pins s σ H Q I h
  obtain ⟨f, sp, hs, hS, ht⟩ := h
  obtain ⟨fd, ps, D⟩ := A f sp hS
  refine (pe_callL (i := i) (f := f) (sp := sp) (dvs := []) (E := E) D.fn hr hN hv D.kp D.bd .nil hx ha hdb hcd he hpl).run pins s σ H Q I ⟨hs, ?_⟩
  have same : (fun (vs : List V) (H1 : Hp) => sp (vs ++ []) H1 Q E) = fun vs H1 => sp vs H1 Q E := funext fun vs => funext fun H1 => by rw [List.append_nil]
  show t σ H (fun vs H1 => sp (vs ++ []) H1 Q E)
  rw [same]
  exact ht
end Rm
namespace Rm
open PySem PySem.Spec PyProof.Rows L2
theorem Def.mono {P : Program} {w : World} {K : PySem.W.Frag} {mg : Str → Option Value} {base : Heap} {j k : Nat} {f : Addr} {fd : FuncData} {ps : List Str} {sp : Sp} (D : Def P w K mg base j f fd ps sp) (h : j ≤ k) : Def P w K mg base k f fd ps sp := ⟨D.fn.mono h, D.bd, D.kp⟩
/-- a promise that holds of nothing -/
theorem Def.never {P : Program} {w : World} {K : PySem.W.Frag} {mg : Str → Option Value} {base : Heap} {k : Nat} {f : Addr} {fd : FuncData} {ps : List Str} {sp : Sp} (no : ∀ vs H Q E, sp vs H Q E → False) (bd : Binds K fd ps []) (kp : PySem.W.keepIn K (.ref f) = true) : Def P w K mg base k f fd ps sp :=
  ⟨⟨fun vs H Q E h => (no vs H Q E h).elim, fun _ _ _ H _ _ vs Q E _ _ _ _ h => (no vs H Q E h).elim⟩, bd, kp⟩
end Rm

/-! HG: the head's facts: a Hook with one more Bool. -/
namespace Rm
open PySem PySem.Spec PyProof.Rows L2
/-! a dict of the module: keys, values, hashes (these hang on the world) -/
def entB (K : PySem.W.Frag) : List DictEntry → List (Str × He.Dv) → Bool
  | [], [] => true
  | ⟨_, .str z _, u⟩ :: es, (x, v) :: l => decide (z = x) && (He.relB (v.v K) u && entB K es l)
  | _, _ => false
def emB : List (Option Value) → Bool
  | [] => true
  | _ => false
def dicB (K : PySem.W.Frag) (x : Str) (l : List (Str × He.Dv)) : Bool := match K.lookup (He.ga K x) with
  | some ⟨.type "dict", none, .dict es _, sl⟩ => emB sl.toList && (!(He.ga K x == sysModules) && entB K es.toList l)
  | _ => false
def hasW (K : PySem.W.Frag) (x : Str) : List Int := match K.lookup (He.ga K x) with
  | some ⟨_, _, .dict es _, _⟩ => es.toList.map (·.hash)
  | _ => []
abbrev DcL : Type := List (Str × List (Str × He.Dv))
def valH (w : World) (d : Str × List (Str × He.Dv)) : List Int := d.2.map fun e => PyData.keyHash w.params e.1
theorem ents_ok {K : PySem.W.Frag} {w : World} : ∀ {es : List DictEntry} {l : List (Str × He.Dv)}, entB K es l = true → es.map (·.hash) = l.map (fun e => PyData.keyHash w.params e.1) → Ents w es (l.map fun e => (e.1, e.2.v K))
  | [], [], _, _ => .nil
  | ⟨h, .str z t, u⟩ :: es, (x, v) :: l, b, e => by
    have b : (decide (z = x) && (He.relB (v.v K) u && entB K es l)) = true := b
    obtain ⟨b1, b⟩ := He.ba b
    obtain ⟨b2, b3⟩ := He.ba b
    have b1 := of_decide_eq_true b1
    subst b1
    rw [List.map_cons, List.map_cons] at e
    obtain ⟨e1, e2⟩ := List.cons.inj e
    exact .cons rfl e1 (He.relB_ok b2) (ents_ok b3 e2)
theorem dicB_ok {K : PySem.W.Frag} {w : World} {x : Str} {l : List (Str × He.Dv)} (b : dicB K x l = true) (e : hasW K x = valH w (x, l)) : KD K w (He.ga K x) (l.map fun e => (e.1, e.2.v K)) := by
  unfold dicB at b
  unfold hasW at e
  split at b
  · rename_i es n sl look
    rw [look] at e
    obtain ⟨b1, b⟩ := He.ba b
    obtain ⟨b2, b3⟩ := He.ba b
    obtain ⟨sll⟩ := sl
    cases sll with
    | nil => exact ⟨es, _, look, ents_ok b3 e, by simpa using b2⟩
    | cons _ _ => cases b1
  · cases b
abbrev AlG : Type := Bool × List He.FnW × List CelW × List (List Int)
def obsG (fa : List He.Fa) (fn : List He.DefD) (ce : List (Str × CelW)) (dc : DcL) (ex : PySem.W.Frag → Bool) (K : PySem.W.Frag) : AlG := ((fa.all fun f => f.ok K) && ((fn.all fun d => d.ok K) && ex K), fn.map (fun d => He.fnW K d.at_), ce.map (fun c => celW K (He.ma K (He.ga K c.1) "__init__")), dc.map fun d => hasW K d.1)
def valG (fn : List He.DefD) (ce : List (Str × CelW)) (dc : DcL) (w : World) : AlG := (true, fn.map He.DefD.val, ce.map (·.2), dc.map (valH w))
def SaysG (fa : List He.Fa) (fn : List He.DefD) (ce : List (Str × CelW)) (dc : DcL) (ex : PySem.W.Frag → Bool) (w : World) (K : PySem.W.Frag) : Prop := obsG fa fn ce dc ex K = valG fn ce dc w
def obsGG (n : Nat) (fa : List He.Fa) (fn : List He.DefD) (ce : List (Str × CelW)) (dc : DcL) (ex : PySem.W.Frag → Bool) (g : Addr → Option Obj) : AlG := obsG fa fn ce dc ex (He.frG g (cStatics :: He.asD g n))
def hookG (n : Nat) (fa : List He.Fa) (fn : List He.DefD) (ce : List (Str × CelW)) (dc : DcL) (ex : PySem.W.Frag → Bool) : PySem.W.Hook where
  α := AlG
  obs := fun s => obsGG n fa fn ce dc ex s.heap.get?
  val := fun w => valG fn ce dc w
  says := fun w h => ∃ K : PySem.W.Frag, K.In h ∧ SaysG fa fn ce dc ex w K
  of := fun _ _ e => ⟨_, He.frG_in, e⟩
  keeps := fun _ _ _ ⟨K, hK, c⟩ k => ⟨K, PySem.W.Frag.In.keeps hK k, c⟩
theorem obsGG_eq {n : Nat} {fa : List He.Fa} {fn : List He.DefD} {ce : List (Str × CelW)} {dc : DcL} {ex : PySem.W.Frag → Bool} {g : Addr → Option Obj} {s : Shared} (h : ∀ a, g a = s.heap.get? a) : obsGG n fa fn ce dc ex g = (hookG n fa fn ce dc ex).obs s := by
  have e : g = s.heap.get? := funext h
  rw [e] <;> rfl
section
variable {fa : List He.Fa} {fn : List He.DefD} {ce : List (Str × CelW)} {dc : DcL} {w : World} {ex : PySem.W.Frag → Bool} {K : PySem.W.Frag}
theorem SaysG.fact (c : SaysG fa fn ce dc ex w K) (i : Nat) {f : He.Fa} (h : fa[i]? = some f := by rfl) : f.ok K = true := by
  have c1 := (He.ba (show ((fa.all fun f => f.ok K) && ((fn.all fun d => d.ok K) && ex K)) = true from congrArg (fun z : AlG => z.1) c)).1
  exact List.all_eq_true.mp c1 f (List.mem_of_getElem? h)
theorem SaysG.more (c : SaysG fa fn ce dc ex w K) : ex K = true :=
  (He.ba (He.ba (show ((fa.all fun f => f.ok K) && ((fn.all fun d => d.ok K) && ex K)) = true from congrArg (fun z : AlG => z.1) c)).2).2
theorem SaysG.def_ (c : SaysG fa fn ce dc ex w K) (i : Nat) {d : He.DefD} (h : fn[i]? = some d := by rfl) : ∃ fd, FunD K d.name d.qual d.params d.body d.scope (d.dvs K) (d.kws K) (He.fAd K d.at_) fd := by
  have c2 := (He.ba (He.ba (show ((fa.all fun f => f.ok K) && ((fn.all fun d => d.ok K) && ex K)) = true from congrArg (fun z : AlG => z.1) c)).2).1
  have e : fn.map (fun d => He.fnW K d.at_) = fn.map He.DefD.val := congrArg (fun z : AlG => z.2.1) c
  have e2 : (fn.map fun d => He.fnW K d.at_)[i]? = (fn.map He.DefD.val)[i]? := by rw [e]
  rw [List.getElem?_map, List.getElem?_map, h] at e2
  exact He.DefD.funD (Option.some.inj e2) (List.all_eq_true.mp c2 d (List.mem_of_getElem? h))
theorem SaysG.dic (c : SaysG fa fn ce dc ex w K) (i : Nat) {d : Str × List (Str × He.Dv)} (h : dc[i]? = some d := by rfl) : hasW K d.1 = valH w d := by
  have e : dc.map (fun d => hasW K d.1) = dc.map (valH w) := congrArg (fun z : AlG => z.2.2.2) c
  have e2 : (dc.map fun d => hasW K d.1)[i]? = (dc.map (valH w))[i]? := by rw [e]
  rw [List.getElem?_map, List.getElem?_map, h] at e2
  exact Option.some.inj e2
theorem SaysG.cel (c : SaysG fa fn ce dc ex w K) (i : Nat) {d : Str × CelW} (h : ce[i]? = some d := by rfl) : celW K (He.ma K (He.ga K d.1) "__init__") = d.2 := by
  have e : ce.map (fun c => celW K (He.ma K (He.ga K c.1) "__init__")) = ce.map (·.2) := congrArg (fun z : AlG => z.2.2.1) c
  have e2 : (ce.map fun c => celW K (He.ma K (He.ga K c.1) "__init__"))[i]? = (ce.map (·.2))[i]? := by rw [e]
  rw [List.getElem?_map, List.getElem?_map, h] at e2
  exact Option.some.inj e2
end
/-- a law's end where callees may let out: what is let out at the law itself is nothing -/
theorem no_out {P : Program} {w : World} (H : Hp) (s : Shared) (v : Value) (t : Shared) (h : L2.CX P w [] H s (fun _ _ _ => False) v t) : False := by
  obtain ⟨_, _, _, _, _, _, _, _, _, _, _, _, z⟩ := h
  exact z
theorem walk_law {l : PySem.W.OpenLaw} {x : Str} {n k : Nat} {q : Program} {d : DefRec} {loose : List Str} {Xp : (Str → Option Value) → Heap → Prop} {Yp : World → Heap → Prop}
    (most : l.most = some n) (small : n ≤ sizeLine) (nodf : d.params.defaults = []) (room : Room k callerA)
    (got : ∀ (w : World) (mg : Str → Option Value) (fa : Addr) (h : Heap), Yp w h → h.Ns mainGlobals mg → mg d.name = some (.ref fa) →
      ∃ (K : PySem.W.Frag) (fd : FuncData) (sp : Sp), K.In h ∧ (∀ (s : Shared) (u : Value), BindsTo s fd ⟨[u], []⟩ [(x, u)]) ∧
        (∀ (H : Hp) (a : Addr) (ns : List Int), ns.length ≤ n → Only H → SqL K H a (ns.map V.int) → sp [.ref a] H (fun v _ => v = .bl true) fun _ _ _ => False) ∧
        ∀ base : Heap, K.In base → base.Ns mainGlobals mg → FnOk l.prog w K mg base (L2.CX l.prog w) k fa fd [x] sp) :
    PySem.W.WalkO q loose Xp Yp l.row.toRowW d [] (fun f vs => PySem.call f vs) := by
  apply Att.attach_call most nodf
  intro w s0 s1 mg mb fa ob pm cd doc a vs ns Gr Yw ho hd hcd hmg hobj hints hlen hgens
  obtain ⟨K, fd, sp, KX, bind, wish, fok⟩ := got w mg fa _ Yw Gr.T.g hmg
  exact law_call KX Gr.T.g Gr.T.b Gr.T.builtins Gr.T.nolimit hgens hobj hints (Nat.le_trans hlen small) room fok bind (fun H only sq => wish H a ns hlen only sq) fun H v t => no_out H s1 v t
/-- further facts, one behind another -/
def allOf (l : List (PySem.W.Frag → Bool)) (K : PySem.W.Frag) : Bool := l.all fun f => f K
theorem allOf_at {l : List (PySem.W.Frag → Bool)} {K : PySem.W.Frag} (c : allOf l K = true) (i : Nat) {f : PySem.W.Frag → Bool} (h : l[i]? = some f) : f K = true := List.all_eq_true.mp c f (List.mem_of_getElem? h)
/-- nothing is let out -/
def EW0 : EWT := fun _ _ _ _ _ => False
/-- a tuple of written texts -/
def tupS (K : PySem.W.Frag) (x : Str) (ss : List String) : Bool := He.tupB K x (ss.map fun s => .str (Str.ofString s))
theorem tupS_ok {K : PySem.W.Frag} {x : Str} {ss : List String} (h : tupS K x ss = true) (H : Hp) : SqT K H (He.ga K x) ((ss.map Lx.codes).map fun k => V.str (Tx k)) := by
  have q := He.tupB_ok h H
  rw [List.map_map] at q
  rw [List.map_map]
  have e : (ss.map (He.Dv.v K ∘ fun s => He.Dv.str (Str.ofString s))) = ss.map ((fun k => V.str (Tx k)) ∘ Lx.codes) := List.map_congr_left fun s _ => mS_eq s
  rw [← e]
  exact q
end Rm

/-! X1: errors really let out: the wish of an error with a row and a column; rows and columns of a text are small. -/
namespace Rm
open PySem PySem.Spec PyProof.Rows L2 Lx
/-! ### errors really let out -/
/-- an error of the program's class x with row r and column c -/
def EW1 (K : PySem.W.Frag) : EWT := fun x r c E H => r.natAbs.log2 < 1920 ∧ c.natAbs.log2 < 1920 ∧ ∀ d, H d = none → E (.ref (He.ga K x)) (some d) (upd H d (.xd (exF r c)))
theorem hz_sign {K : PySem.W.Frag} {E : XK} (S : ScC K) (D : Ends) (σ : L2.St) (H : Hp) (p dx : Addr) (l : List Nat) (i : Nat) (r c : Int) (h0 : σ[0]? = some (some (.ref p))) (hs : Sc K H p dx l i r c) (w : EW1 K "BadCharacter" r c E H) :
    tRaiseErr (He.ga K ("BadCharacter" : Str)) (fun cls d _ H => E cls d H) (tCons (tFld K (tVar 0) ("row" : Str)) (tCons (tFld K (tVar 0) ("column" : Str)) tNil)) D σ H := by
  obtain ⟨hp, _, _⟩ := hs
  obtain ⟨h1, h2, h3⟩ := w
  exact ⟨_, h0, p, _, dx, _, _, rfl, hp, S.cl, S.nr, scF_row, _, h0, p, _, dx, _, _, rfl, hp, S.cl, S.nc, scF_col, r, c, rfl, h1, h2, h3⟩
theorem hz_token {K : PySem.W.Frag} {E : XK} (D : Ends) (σ : L2.St) (H : Hp) (r c : Int) (h1 : σ[1]? = some (some (.int r))) (h2 : σ[2]? = some (some (.int c))) (w : EW1 K "BadNumber" r c E H) :
    tRaiseErr (He.ga K ("BadNumber" : Str)) (fun cls d _ H => E cls d H) (tCons (tVar 1) (tCons (tVar 2) tNil)) D σ H := ⟨_, h1, _, h2, r, c, rfl, w.1, w.2.1, w.2.2⟩
/-- rows and columns of a text are small -/
theorem adv_bound : ∀ (l : List Nat) (r c : Int), r ≤ (adv l r c).1 ∧ (adv l r c).1 ≤ r + l.length ∧ min 1 c ≤ (adv l r c).2 ∧ (adv l r c).2 ≤ max 1 c + l.length
  | [], r, c => by
    show r ≤ r ∧ r ≤ r + 0 ∧ min 1 c ≤ c ∧ c ≤ max 1 c + 0
    omega
  | x :: xs, r, c => by
    rw [adv]
    split
    · have h := adv_bound xs (r + 1) 1
      rw [List.length_cons]
      omega
    · have h := adv_bound xs r (c + 1)
      rw [List.length_cons]
      omega
theorem log_small {i : Int} (h0 : 0 ≤ i) (h : i ≤ 20000000) : i.natAbs.log2 < 1920 := by
  have h2 : i.natAbs < 2 ^ 25 := by
    have : (2 : Nat) ^ 25 = 33554432 := by decide
    omega
  by_cases z : i.natAbs = 0
  · rw [z]
    decide
  · exact Nat.lt_of_lt_of_le ((Nat.log2_lt z).mpr h2) (by decide)
theorem adv_small {l : List Nat} (h : l.length ≤ 10000000) : (adv l 1 1).1.natAbs.log2 < 1920 ∧ (adv l 1 1).2.natAbs.log2 < 1920 := by
  have b := adv_bound l 1 1
  exact ⟨log_small (by omega) (by omega), log_small (by omega) (by omega)⟩
end Rm

/-! L01: texts with a bad place: what is written, promises, readings (by gen.py), runs. -/
namespace Rm.K1
open PySem PySem.Spec PyProof.Rows L2 Lx
/-! ### the words -/
def goodS : List String := ["a", "go_", "Tree", "10", "main", "object", ":=", "<=", ".", "(", "}", ",", "x_1", "1000000000000", "0", "-"]
def charS : List String := ["_", "'", "!", "@", "[", "]", "&", "^", "~", "?", "|", "/", ">", "\"", "_a", ":"]
def numS : List String := ["01", "00", "1a", "2_", "3_4", "1000000000001", "99999999999999999999", "0x", "7A", "10if", "1000000000000a"]
def gapS : List String := [" ", "\n", "  ", "\n # _ 01 !\n", " #\n  "]
theorem good_ok : ∀ s ∈ goodS, (goodTok .name (codes s) || (goodTok .keyword (codes s) || (goodTok .number (codes s) || goodTok .sign (codes s)))) = true ∧ 10 ∉ codes s ∧ (codes s).length ≤ 20 := by decide +kernel
theorem gap_ok : ∀ s ∈ gapS, gapB false (codes s) = true ∧ headOk (codes s) = true ∧ codes s ≠ [] ∧ (codes s).length ≤ 20 := by decide +kernel
def charB (w : List Nat) : Bool := match w with
  | [] => false
  | x :: xs => !isLet x && (!isDig x && (x != 10 && (x != 32 && (x != 35 && (!decide ([x] ∈ shortL) && (x != 60 && (x != 61 && (x != 58 || decide (xs = [])))))))))
def numB (w : List Nat) : Bool := match w with
  | [] => false
  | x :: xs => !isLet x && (isDig x && ((x :: xs).all isWP && !isNum (x :: xs)))
def badB (e : Er) (w : List Nat) : Bool := match e with
  | .char => charB w
  | .num => numB w
theorem char_ok : ∀ s ∈ charS, charB (codes s) = true ∧ (codes s).length ≤ 20 := by decide +kernel
theorem num_ok : ∀ s ∈ numS, numB (codes s) = true ∧ (codes s).length ≤ 20 := by decide +kernel
def erK : Er → Str
  | .char => "character"
  | .num => "number"
/-- what may follow a bad thing -/
def Aft (l : List Nat) : Prop := l = [] ∨ ∃ y ys, l = y :: ys ∧ (y = 10 ∨ y = 32)
theorem Aft.head {l : List Nat} (h : Aft l) : headOk l = true := by
  rcases h with rfl | ⟨y, ys, rfl, rfl | rfl⟩
  · rfl
  · rfl
  · rfl
theorem bad_step {e : Er} {w rest : List Nat} (r c : Int) (hb : badB e w = true) (hr : Aft rest) : ∃ x xs, w ++ rest = x :: xs ∧ (x ≠ 10 ∧ x ≠ 32 ∧ x ≠ 35) ∧ Lx.step x xs r c = .error (e, r, c) := by
  cases e with
  | char =>
    have hb : charB w = true := hb
    cases w with
    | nil => cases hb
    | cons x xs =>
      refine ⟨x, xs ++ rest, rfl, ?_⟩
      have hb : (!isLet x && (!isDig x && (x != 10 && (x != 32 && (x != 35 && (!decide ([x] ∈ shortL) && (x != 60 && (x != 61 && (x != 58 || decide (xs = []))))))))) ) = true := hb
      rw [Bool.and_eq_true, Bool.and_eq_true, Bool.and_eq_true, Bool.and_eq_true, Bool.and_eq_true, Bool.and_eq_true, Bool.and_eq_true, Bool.and_eq_true, Bool.or_eq_true] at hb
      obtain ⟨h1, h2, g1, g2, g3, h3, h4, h5, h6⟩ := hb
      have h1 : isLet x = false := by simpa using h1
      have h2 : isDig x = false := by simpa using h2
      have h3 : ¬ [x] ∈ shortL := by simpa using h3
      have h4 : x ≠ 60 := by simpa using h4
      have h5 : x ≠ 61 := by simpa using h5
      refine ⟨⟨by simpa using g1, by simpa using g2, by simpa using g3⟩, ?_⟩
      unfold Lx.step
      rw [if_neg (by rw [h1]; exact Bool.false_ne_true), if_neg (by rw [h2]; exact Bool.false_ne_true)]
      have nl : ¬ (x :: (xs ++ rest)).take 2 ∈ longL := fun hm => by
        obtain ⟨z, ez, hz⟩ := long_heads hm
        have ex : x = z := by
          have := congrArg (fun l : List Nat => l[0]?) ez
          simpa using this
        subst ex
        rcases h6 with h6 | h6
        · have h6 : x ≠ 58 := by simpa using h6
          omega
        · have h6 := of_decide_eq_true h6
          subst h6
          exact headOk_no61 hr.head x ez
      rw [if_neg nl, if_neg h3]
  | num =>
    have hb : numB w = true := hb
    cases w with
    | nil => cases hb
    | cons x xs =>
      refine ⟨x, xs ++ rest, rfl, ?_⟩
      have hb : (!isLet x && (isDig x && ((x :: xs).all isWP && !isNum (x :: xs)))) = true := hb
      rw [Bool.and_eq_true, Bool.and_eq_true, Bool.and_eq_true] at hb
      obtain ⟨h1, h2, h3, h4⟩ := hb
      have h1 : isLet x = false := by simpa using h1
      have h4 : isNum (x :: xs) = false := by simpa using h4
      have hx : isWP x = true := (Bool.and_eq_true_iff.mp (show (isWP x && xs.all isWP) = true from h3)).1
      have hw : word (x :: (xs ++ rest)) = x :: xs := all_takeWhile (w := x :: xs) h3 (headOk_noWP hr.head)
      refine ⟨?_, ?_⟩
      · refine ⟨?_, ?_, ?_⟩ <;> (rintro rfl; revert hx; decide)
      · unfold Lx.step
        rw [if_neg (by rw [h1]; exact Bool.false_ne_true), if_pos h2, hw, if_neg (by rw [h4]; exact Bool.false_ne_true)]
theorem lex_bad {e : Er} {w rest : List Nat} (r c : Int) (hb : badB e w = true) (hr : Aft rest) : lex (w ++ rest) r c = ([], some (e, r, c)) := by
  obtain ⟨x, xs, q, hne, hs⟩ := bad_step r c hb hr
  refine lex_err (x := x) (xs := xs) ?_ hs
  rw [q]
  exact skip_here hne
/-- t is good, whatever follows -/
def FreeT (t : List Nat) (ts : List Tk) : Prop := ∀ rest, lex (t ++ rest) 1 1 = (ts ++ (lex rest (adv t 1 1).1 (adv t 1 1).2).1, (lex rest (adv t 1 1).1 (adv t 1 1).2).2)
theorem FreeT.nil : FreeT [] [] := fun _ => rfl
theorem FreeT.more {t w g : List Nat} {ts : List Tk} {k : Kd} (h : FreeT t ts) (hk : goodTok k w = true) (hg : gapB false g = true) (ho : headOk g = true) (hne : g ≠ []) (hn : 10 ∉ w) : FreeT ((t ++ w) ++ g) (ts ++ [⟨k, w, (adv t 1 1).1, (adv t 1 1).2⟩]) := fun rest => by
  have hb : Bd w (g ++ rest) := .inr (headOk_app hne ho)
  have e : ∀ r c, lex (g ++ rest) r c = lex rest (adv g r c).1 (adv g r c).2 := fun r c => lex_skip (l := g ++ rest) (l2 := rest) (gapB_ok false g hg rest r c)
  rw [List.append_assoc, List.append_assoc, h, lex_word _ _ hk hb, e, adv_append, adv_append, adv_flat w _ _ hn, List.append_assoc]
  rfl
theorem FreeT.good {t : List Nat} {ts : List Tk} (h : FreeT t ts) : ∃ ts', lex t 1 1 = (ts', none) ∧ ts'.length = ts.length + 1 := by
  have e := h []
  rw [List.append_nil, lex_end (l := []) rfl] at e
  exact ⟨_, e, by rw [List.length_append]; rfl⟩
theorem FreeT.bad {t w rest : List Nat} {ts : List Tk} {e : Er} (h : FreeT t ts) (hb : badB e w = true) (hr : Aft rest) : lex ((t ++ w) ++ rest) 1 1 = (ts, some (e, (adv t 1 1).1, (adv t 1 1).2)) := by
  rw [List.append_assoc, h, lex_bad _ _ hb hr, List.append_nil]
/-! ### promises -/
def sp_l_good (K : PySem.W.Frag) : Sp := fun vs H Q _ => ∃ (d r : Addr), vs = [.ref d] ∧ Draws H d r ∧ ∀ (H' : Hp) (s : String), Kept d H H' → Draws H' d r → s ∈ goodS → Q (.str (Tx (codes s))) H'
def sp_l_bad (K : PySem.W.Frag) : Sp := fun vs H Q _ => ∃ (d r : Addr), vs = [.ref d] ∧ Draws H d r ∧ ∀ (q : Addr) (H' : Hp) (e : Er) (w : List Nat), Kept d H H' → Draws H' d r → H q = none → H' q = some (.tup [.str (erK e), .str (Tx w)]) → badB e w = true → w.length ≤ 20 → Q (.ref q) H'
def sp_l_between (K : PySem.W.Frag) : Sp := fun vs H Q _ => ∃ (d r : Addr), vs = [.ref d] ∧ Draws H d r ∧ ∀ (H' : Hp) (s : String), Kept d H H' → Draws H' d r → s ∈ gapS → Q (.str (Tx (codes s))) H'
def sp_l_told (K : PySem.W.Frag) : Sp := fun vs H Q _ => ∃ (l : List Nat), vs = [.str (Tx l)] ∧ l.length ≤ 10000000 ∧
  ((∃ ts, lex l 1 1 = (ts, none) ∧ ∀ (q : Addr) (H' : Hp), Same H H' → H' q = some (.tup [.str ("tokens" : Str), .int (ts.length : Int)]) → Q (.ref q) H') ∨
    ∃ ts e r c, lex l 1 1 = (ts, some (e, r, c)) ∧ r.natAbs.log2 < 1920 ∧ c.natAbs.log2 < 1920 ∧ ∀ (q : Addr) (H' : Hp), Same H H' → H' q = some (.tup [.str (erK e), .int r, .int c, .bl false, .bl true]) → Q (.ref q) H')
def sp_law (K : PySem.W.Frag) : Sp := fun vs H Q _ => ∃ (a : Addr) (ns : List Int), vs = [.ref a] ∧ SqL K H a (ns.map V.int) ∧ ns.length ≤ 63 ∧ ∀ H', Q (.bl true) H'
/-! ### readings -/

def ns_l_good : List Str := ["draws", "words"]
def t_l_good (K : PySem.W.Frag) (E : XK) : TS :=
  (tSeq (tAsg (tLst (tMenu (["a", "go_", "Tree", "10", "main", "object", ":=", "<=", ".", "(", "}", ",", "x_1", "1000000000000", "0", "-"].map mS))) (gName 1))
    (tRet (tOp (rIxL K) (tVar 1) (tCall (sp_l_pick K) [] E (tCons (tVar 0) (tCons (tC (.int 16)) tNil))))))

def ns_l_bad : List Str := ["draws", "signs", "words"]
def t_l_bad (K : PySem.W.Frag) (E : XK) : TS :=
  (tSeq (tIfS (tTest (tOp rEq (tCall (sp_l_pick K) [] E (tCons (tVar 0) (tCons (tC (.int 2)) tNil))) (tC (.int 0))))
      (tSeq (tAsg (tLst (tMenu (["_", "'", "!", "@", "[", "]", "&", "^", "~", "?", "|", "/", ">", "\"", "_a", ":"].map mS))) (gName 1))
    (tRet (tTup (tCons (tC (.str ("character" : Str))) (tCons (tOp (rIxL K) (tVar 1) (tCall (sp_l_pick K) [] E (tCons (tVar 0) (tCons (tC (.int 16)) tNil)))) tNil)))))
      tNext)
    (tSeq (tAsg (tLst (tMenu (["01", "00", "1a", "2_", "3_4", "1000000000001", "99999999999999999999", "0x", "7A", "10if", "1000000000000a"].map mS))) (gName 2))
    (tRet (tTup (tCons (tC (.str ("number" : Str))) (tCons (tOp (rIxL K) (tVar 2) (tCall (sp_l_pick K) [] E (tCons (tVar 0) (tCons (tC (.int 11)) tNil)))) tNil))))))

def ns_l_between : List Str := ["draws"]
def t_l_between (K : PySem.W.Frag) (E : XK) : TS :=
  (tRet (tOp (rIxL K) (tLst (tMenu ([" ", "\n", "  ", "\n # _ 01 !\n", " #\n  "].map mS))) (tCall (sp_l_pick K) [] E (tCons (tVar 0) (tCons (tC (.int 5)) tNil)))))

def ns_l_told : List Str := ["text", "e"]
def t_l_told (K : PySem.W.Frag) (E : XK) : TS :=
  (tTry K (fun _ _ _ _ => False) (fun W => (tRet (tTup (tCons (tC (.str ("tokens" : Str))) (tCons (tCB (rLen K) (tCons (tCallS (sp_tokens K (EW1 K)) (WE W) (tCons (tVar 0) tNil)) tNil)) tNil))))) [(.ref (He.ga K ("BadCharacter" : Str)), 1, fun xa xc xd => (tRet (tTup (tCons (tC (.str ("character" : Str))) (tCons (tXf xa xc xd (He.ga K ("BadCharacter" : Str)) ("row" : Str) (tVar 1)) (tCons (tXf xa xc xd (He.ga K ("BadCharacter" : Str)) ("column" : Str) (tVar 1)) (tCons (tCB (rIsXT K xc xd xa) (tCons (tVar 1) (tCons (tTup (tCons (tC (.ref (He.ga K ("BadNumber" : Str)))) (tCons (tC (.ref (He.ga K ("Unexpected" : Str)))) tNil))) tNil))) (tCons (tCB (rIsX K xc xd xa) (tCons (tVar 1) (tCons (tC (.ref (He.ga K ("TextError" : Str)))) tNil))) tNil)))))))), (.ref (He.ga K ("BadNumber" : Str)), 1, fun xa xc xd => (tRet (tTup (tCons (tC (.str ("number" : Str))) (tCons (tXf xa xc xd (He.ga K ("BadNumber" : Str)) ("row" : Str) (tVar 1)) (tCons (tXf xa xc xd (He.ga K ("BadNumber" : Str)) ("column" : Str) (tVar 1)) (tCons (tCB (rIsX K xc xd xa) (tCons (tVar 1) (tCons (tC (.ref (He.ga K ("Unexpected" : Str)))) tNil))) (tCons (tAndV (tCB (rIsX K xc xd xa) (tCons (tVar 1) (tCons (tC (.ref (He.ga K ("TextError" : Str)))) tNil))) (tCB (rIsX K xc xd xa) (tCons (tVar 1) (tCons (tC (.ref (He.ga K ("AimError" : Str)))) tNil)))) tNil))))))))])

def ns_law : List Str := ["script", "draws", "text", "many", "k", "turn", "kind", "word", "row", "column", "rest"]
def t_law (K : PySem.W.Frag) (E : XK) : TS :=
  (tSeq (tAsg (tCall (sp_l_stream K) [] E (tCons (tVar 0) (tCons (tC (.int 200)) tNil))) (gName 1))
    (tSeq (tAsg (tC (.str ("" : Str))) (gName 2))
    (tSeq (tAsg (tCall (sp_l_pick K) [] E (tCons (tVar 1) (tCons (tC (.int 31)) tNil))) (gName 3))
    (tSeq (tFor (iRng1 (tCons (tVar 3) tNil)) (gName 4)
      (tAsg (tOp rCatS (tOp rCatS (tVar 2) (tCall (sp_l_good K) [] E (tCons (tVar 1) tNil))) (tCall (sp_l_between K) [] E (tCons (tVar 1) tNil))) (gName 2)))
    (tSeq (tIfS (tTest (tOp (rNeD K) (tCall (sp_l_told K) [] E (tCons (tVar 2) tNil)) (tTup (tCons (tC (.str ("tokens" : Str))) (tCons (tOp rAddI (tVar 3) (tC (.int 1))) tNil)))))
      (tRet (tC (.bl false)))
      tNext)
    (tSeq (tFor (iRng1 (tCons (tC (.int 12)) tNil)) (gName 5)
      (tSeq (tAsg (tCall (sp_l_bad K) [] E (tCons (tVar 1) tNil)) (gTup K 2 (gCons (gName 6) (gCons (gName 7) gNil))))
    (tSeq (tAsg (tOp rAddI (tBM K "str" rCount (tVar 2) (tCons (tC (.str ("\n" : Str))) tNil)) (tC (.int 1))) (gName 8))
    (tSeq (tAsg (tOp rSubI (tCB rLenS (tCons (tVar 2) tNil)) (tBM K "str" rRfind (tVar 2) (tCons (tC (.str ("\n" : Str))) tNil))) (gName 9))
    (tSeq (tAsg (tC (.str ("" : Str))) (gName 10))
    (tSeq (tFor (iRng1 (tCons (tCall (sp_l_pick K) [] E (tCons (tVar 1) (tCons (tC (.int 4)) tNil))) tNil)) (gName 4)
      (tAsg (tOp rCatS (tOp rCatS (tVar 10) (tOp (rIxL K) (tLst (tCons (tC (.str (" " : Str))) (tCons (tC (.str ("\n" : Str))) tNil))) (tCall (sp_l_pick K) [] E (tCons (tVar 1) (tCons (tC (.int 2)) tNil))))) (tOp (rIxL K) (tLst (tCons (tCall (sp_l_good K) [] E (tCons (tVar 1) tNil)) (tCons (tC (.str ("!" : Str))) (tCons (tC (.str ("02" : Str))) (tCons (tC (.str ("_" : Str))) tNil))))) (tCall (sp_l_pick K) [] E (tCons (tVar 1) (tCons (tC (.int 4)) tNil))))) (gName 10)))
    (tIfS (tTest (tOp (rNeD K) (tCall (sp_l_told K) [] E (tCons (tOp rCatS (tOp rCatS (tVar 2) (tVar 7)) (tVar 10)) tNil)) (tTup (tCons (tVar 6) (tCons (tVar 8) (tCons (tVar 9) (tCons (tC (.bl false)) (tCons (tC (.bl true)) tNil))))))))
      (tRet (tC (.bl false)))
      tNext)))))))
    (tRet (tC (.bl true)))))))))

section
variable {K : PySem.W.Frag} {vs : List V} {H : Hp} {Q : VK} {E : XK}
theorem run_l_good (h : sp_l_good K vs H Q E) : t_l_good K E (DQ Q) (start ns_l_good vs) H := by
  obtain ⟨d, r, rfl, hD, q⟩ := h
  refine ⟨(by show 16 ≤ sizeLine; decide), fun p np => ?_⟩
  have nd := Ne.symm (hD.neD np)
  refine ⟨_, rfl, _, rfl, d, 16, rfl, by decide, r, hD.fresh np, fun j H1 j0 j1 D1 M1 => ?_⟩
  have hp : H1 p = some (.lst (goodS.map mS)) := (M1 p nd).trans upd_same
  obtain ⟨s, hs, e⟩ := menu_at (ss := goodS) j0 j1
  exact ⟨p, _, _, _, rfl, rfl, SqL.of hp, e, q _ s (((Kept.refl d H).put np).trans (Kept.of_moved M1)) D1 hs⟩
theorem run_l_between (h : sp_l_between K vs H Q E) : t_l_between K E (DQ Q) (start ns_l_between vs) H := by
  obtain ⟨d, r, rfl, hD, q⟩ := h
  refine ⟨(by show 5 ≤ sizeLine; decide), fun p np => ?_⟩
  have nd := Ne.symm (hD.neD np)
  refine ⟨_, rfl, d, 5, rfl, by decide, r, hD.fresh np, fun j H1 j0 j1 D1 M1 => ?_⟩
  have hp : H1 p = some (.lst (gapS.map mS)) := (M1 p nd).trans upd_same
  obtain ⟨s, hs, e⟩ := menu_at (ss := gapS) j0 j1
  exact ⟨p, _, _, _, rfl, rfl, SqL.of hp, e, q _ s (((Kept.refl d H).put np).trans (Kept.of_moved M1)) D1 hs⟩
theorem run_l_bad (h : sp_l_bad K vs H Q E) : t_l_bad K E (DQ Q) (start ns_l_bad vs) H := by
  obtain ⟨d, r, rfl, hD, q⟩ := h
  refine ⟨_, rfl, d, 2, rfl, by decide, r, hD, fun j H1 j0 j1 D1 M1 => ?_⟩
  refine ⟨rfl, _, rfl, ?_⟩
  refine ite2 (fun _ => ?_) (fun _ => ?_)
  · refine ⟨(by show 16 ≤ sizeLine; decide), fun p np => ?_⟩
    have nd := Ne.symm (D1.neD np)
    refine ⟨_, rfl, _, rfl, d, 16, rfl, by decide, r, D1.fresh np, fun j H2 j0 j1 D2 M2 => ?_⟩
    have hp : H2 p = some (.lst (charS.map mS)) := (M2 p nd).trans upd_same
    have K2 : Kept d H H2 := ((Kept.of_moved M1).put ((Kept.of_moved M1).free D1.atD np)).trans (Kept.of_moved M2)
    obtain ⟨s, hs, e⟩ := menu_at (ss := charS) j0 j1
    obtain ⟨g1, g2⟩ := char_ok s hs
    refine ⟨p, _, _, _, rfl, rfl, SqL.of hp, e, (by show 2 ≤ sizeLine; decide), fun p2 np2 => ?_⟩
    exact q p2 _ .char (codes s) (K2.put (K2.free D2.atD np2)) (D2.fresh np2) (K2.free D2.atD np2) upd_same g1 g2
  · refine ⟨(by show 11 ≤ sizeLine; decide), fun p np => ?_⟩
    have nd := Ne.symm (D1.neD np)
    refine ⟨_, rfl, _, rfl, d, 11, rfl, by decide, r, D1.fresh np, fun j H2 j0 j1 D2 M2 => ?_⟩
    have hp : H2 p = some (.lst (numS.map mS)) := (M2 p nd).trans upd_same
    have K2 : Kept d H H2 := ((Kept.of_moved M1).put ((Kept.of_moved M1).free D1.atD np)).trans (Kept.of_moved M2)
    obtain ⟨s, hs, e⟩ := menu_at (ss := numS) j0 j1
    obtain ⟨g1, g2⟩ := num_ok s hs
    refine ⟨p, _, _, _, rfl, rfl, SqL.of hp, e, (by show 2 ≤ sizeLine; decide), fun p2 np2 => ?_⟩
    exact q p2 _ .num (codes s) (K2.put (K2.free D2.atD np2)) (D2.fresh np2) (K2.free D2.atD np2) upd_same g1 g2
/-- what the classes say of one another -/
structure KitF (K : PySem.W.Frag) : Prop where
  cc : PySem.W.exmOne K (.ref (He.ga K ("BadCharacter" : Str))) (.ref (He.ga K ("BadCharacter" : Str))) = some true
  nc : PySem.W.exmOne K (.ref (He.ga K ("BadNumber" : Str))) (.ref (He.ga K ("BadCharacter" : Str))) = some false
  nn : PySem.W.exmOne K (.ref (He.ga K ("BadNumber" : Str))) (.ref (He.ga K ("BadNumber" : Str))) = some true
  kc : PySem.W.kitAny K (.ref (He.ga K ("BadCharacter" : Str))) [.ref (He.ga K ("BadNumber" : Str)), .ref (He.ga K ("Unexpected" : Str))] = some false
  kct : PySem.W.kitOne K (.ref (He.ga K ("BadCharacter" : Str))) (.ref (He.ga K ("TextError" : Str))) = some true
  knu : PySem.W.kitOne K (.ref (He.ga K ("BadNumber" : Str))) (.ref (He.ga K ("Unexpected" : Str))) = some false
  knt : PySem.W.kitOne K (.ref (He.ga K ("BadNumber" : Str))) (.ref (He.ga K ("TextError" : Str))) = some true
  kna : PySem.W.kitOne K (.ref (He.ga K ("BadNumber" : Str))) (.ref (He.ga K ("AimError" : Str))) = some true
  ec : ExcC K (He.ga K ("BadCharacter" : Str))
  en : ExcC K (He.ga K ("BadNumber" : Str))
theorem run_l_told (T : KitF K) (h : sp_l_told K vs H Q E) : t_l_told K E (DQ Q) (start ns_l_told vs) H := by
  obtain ⟨l, rfl, hl, h⟩ := h
  rcases h with ⟨ts, hlex, q⟩ | ⟨ts, e, r, c, hlex, hr, hc, q⟩
  · refine ⟨_, rfl, l, rfl, hl, fun ts2 p H1 e1 np s1 hT => ?_, fun ts2 e2 r2 c2 H1 e1 s1 => by rw [hlex] at e1; cases e1⟩
    have ets : ts2 = ts := by
      rw [hlex] at e1
      exact (congrArg Prod.fst e1).symm
    subst ets
    obtain ⟨qs, hp, hq, _⟩ := hT
    refine ⟨_, _, rfl, .inl ⟨_, SqL.of hp, rfl⟩, (by show 2 ≤ sizeLine; decide), fun p2 np2 => ?_⟩
    refine q p2 _ (fun b o e => ?_) ?_
    · rw [upd_ne (ne_of_none (s1 b o e) np2)]
      exact s1 b o e
    · rw [upd_same, List.length_map, hq]
  · refine ⟨_, rfl, l, rfl, hl, (fun ts2 p H1 e1 np s1 hT => by rw [hlex] at e1; cases e1), fun ts2 e2 r2 c2 H1 e1 s1 => ?_⟩
    rw [hlex] at e1
    cases e1
    refine ⟨hr, hc, fun dd nd => ?_⟩
    have xd : ∀ G : Hp, Same (upd H1 dd (.xd (exF r c))) G → ∀ x, some dd = some x → ∃ fs, G x = some (.xd fs) := fun G sG x ex => by
      cases ex
      exact ⟨_, sG _ _ upd_same⟩
    have row : (exF r c).lookup ("row" : Str) = some (.int r) := by
      unfold exF
      rw [lookup_put, if_neg (by decide +kernel), lookup_put, if_pos rfl]
    have col : (exF r c).lookup ("column" : Str) = some (.int c) := by
      unfold exF
      rw [lookup_put, if_pos rfl]
    have s2 : Same H (upd H1 dd (.xd (exF r c))) := fun b o e => by
      rw [upd_ne (ne_of_none (s1 b o e) nd)]
      exact s1 b o e
    cases e with
    | char =>
      refine ⟨true, T.cc, fun _ a na => ?_, fun z => nomatch z⟩
      refine ⟨_, rfl, rfl, rfl, dd, _, _, rfl, upd_same, row, _, rfl, rfl, rfl, dd, _, _, rfl, upd_same, col, ?_⟩
      refine ⟨_, rfl, (by show 2 ≤ sizeLine; decide), fun p np => ?_⟩
      refine ⟨_, p, _, _, false, rfl, rfl, upd_same, .cons (.own _) (.cons (.own _) .nil), T.ec, xd _ (same_upd np), T.kc, ?_⟩
      refine ⟨_, rfl, _, _, _, true, rfl, rfl, .own _, T.ec, xd _ (same_upd np), T.kct, (by show 5 ≤ sizeLine; decide), fun p2 np2 => ?_⟩
      refine q p2 _ (fun b o e => ?_) upd_same
      have s3 := same_upd (o := .tup [V.ref (He.ga K ("BadNumber" : Str)), V.ref (He.ga K ("Unexpected" : Str))]) np b o (s2 b o e)
      rw [upd_ne (ne_of_none s3 np2)]
      exact s3
    | num =>
      refine ⟨false, T.nc, (fun z => nomatch z), fun _ => ⟨true, T.nn, fun _ a na => ?_, fun z => nomatch z⟩⟩
      refine ⟨_, rfl, rfl, rfl, dd, _, _, rfl, upd_same, row, _, rfl, rfl, rfl, dd, _, _, rfl, upd_same, col, ?_⟩
      refine ⟨_, rfl, _, _, _, false, rfl, rfl, .own _, T.en, xd _ (fun _ _ z => z), T.knu, ?_⟩
      refine ⟨_, rfl, _, _, _, true, rfl, rfl, .own _, T.en, xd _ (fun _ _ z => z), T.knt, _, rfl, ?_⟩
      refine iteT ⟨_, rfl, _, _, _, true, rfl, rfl, .own _, T.en, xd _ (fun _ _ z => z), T.kna, (by show 5 ≤ sizeLine; decide), fun p2 np2 => ?_⟩
      refine q p2 _ (fun b o e => ?_) upd_same
      rw [upd_ne (ne_of_none (s2 b o e) np2)]
      exact s2 b o e
theorem sh2 (x : Str) (n : Int) (h : PyData.strOk x = true) : SeqAt.shaped (.tuple [.str x, .int n]) = true := by
  unfold SeqAt.shaped
  simp [PyData.canLay0, PyData.canLayAll0, PyData.depth, PyData.depthAll, h]
theorem sh5 (x : Str) (m n : Int) (a b : Bool) (h : PyData.strOk x = true) : SeqAt.shaped (.tuple [.str x, .int m, .int n, .bool a, .bool b]) = true := by
  unfold SeqAt.shaped
  simp [PyData.canLay0, PyData.canLayAll0, PyData.depth, PyData.depthAll, h]
theorem erK_ok (e : Er) : PyData.strOk (erK e) = true := by cases e <;> decide +kernel
theorem empty_tx : ("" : Str) = Tx [] := by decide +kernel
def I1 (a d r : Addr) (n : Int) (k : Nat) (σ : L2.St) (H4 : Hp) : Prop := ∃ (t : List Nat) (ts : List Tk) (v4 : Option V), σ = [some (.ref a), some (.ref d), some (.str (Tx t)), some (.int n), v4, none, none, none, none, none, none] ∧ Draws H4 d r ∧ FreeT t ts ∧ ts.length = k ∧ t.length ≤ 40 * k
def I2 (a d r : Addr) (n : Int) (t : List Nat) (k : Nat) (σ : L2.St) (H4 : Hp) : Prop := ∃ (v4 v5 v6 v7 v8 v9 v10 : Option V), σ = [some (.ref a), some (.ref d), some (.str (Tx t)), some (.int n), v4, v5, v6, v7, v8, v9, v10] ∧ Draws H4 d r
def I3 (a d r : Addr) (n : Int) (t : List Nat) (e : Er) (w : List Nat) (v5 : Option V) (k : Nat) (σ : L2.St) (H4 : Hp) : Prop := ∃ (v4 : Option V) (R : List Nat), σ = [some (.ref a), some (.ref d), some (.str (Tx t)), some (.int n), v4, v5, some (.str (erK e)), some (.str (Tx w)), some (.int (adv t 1 1).1), some (.int (adv t 1 1).2), some (.str (Tx R))] ∧ Draws H4 d r ∧ Aft R ∧ R.length ≤ 60 * k
theorem Aft.app {R u : List Nat} (h : Aft R) (hu : Aft u) : Aft (R ++ u) := by
  rcases h with rfl | ⟨y, ys, rfl, e⟩
  · exact hu
  · exact .inr ⟨y, ys ++ u, rfl, e⟩
theorem Aft.any {l u : List Nat} (h : Aft l) (hne : l ≠ []) : Aft (l ++ u) := by
  rcases h with rfl | ⟨y, ys, rfl, e⟩
  · exact absurd rfl hne
  · exact .inr ⟨y, ys ++ u, rfl, e⟩
theorem run_law (h : sp_law K vs H Q E) : t_law K E (DQ Q) (start ns_law vs) H := by
  obtain ⟨a, ns, rfl, hS, hl, q⟩ := h
  refine ⟨_, rfl, a, ns, 200, rfl, hS, hl, by decide, by decide, fun d H1 r s rs s1 nd hd hr nrd hrl hrm => ?_⟩
  have D1 : Draws H1 d r := ⟨0, s, rs, hd, hr, Int.le_refl _⟩
  refine ⟨_, rfl, d, 31, rfl, by decide, r, D1, fun many H2 m0 m1 D2 M2 => ?_⟩
  obtain ⟨n, rfl⟩ : ∃ n : Nat, many = n := ⟨many.toNat, by omega⟩
  refine ⟨_, rfl, (n : Int), rfl, by omega, by omega, ?_⟩
  rw [Int.toNat_natCast]
  refine for_range (lo := 0) (n := n) (I1 a d r n) ⟨[], [], none, ?_, D2, FreeT.nil, rfl, Nat.zero_le _⟩ ?_ ?_
  · show [some (V.ref a), some (V.ref d), some (V.str ("" : Str)), some (V.int n), none, none, none, none, none, none, none] = _
    rw [empty_tx]
  · rintro k σ H3 hk ⟨t, ts, v4, rfl, D3, hF, hts, htl⟩
    refine ⟨_, rfl, _, rfl, d, r, rfl, D3, fun H4 w K4 D4 hw => ?_⟩
    obtain ⟨g1, g2, g3⟩ := good_ok w hw
    refine ⟨_, _, rfl, rfl, ?_, ?_⟩
    · show t.length + (codes w).length ≤ sizeLine
      exact small_len (by omega)
    · rw [Tx_app]
      refine ⟨_, rfl, d, r, rfl, D4, fun H5 g K5 D5 hg => ?_⟩
      obtain ⟨b1, b2, b3, b4⟩ := gap_ok g hg
      refine ⟨_, _, rfl, rfl, ?_, ?_⟩
      · show (t ++ codes w).length + (codes g).length ≤ sizeLine
        rw [List.length_append]
        exact small_len (by omega)
      · rw [Tx_app]
        have kd : ∃ k, goodTok k (codes w) = true := by
          rw [Bool.or_eq_true, Bool.or_eq_true, Bool.or_eq_true] at g1
          rcases g1 with g | g | g | g
          · exact ⟨_, g⟩
          · exact ⟨_, g⟩
          · exact ⟨_, g⟩
          · exact ⟨_, g⟩
        obtain ⟨kd, hkd⟩ := kd
        exact ⟨_, _, _, rfl, D5, hF.more hkd b1 b2 b3 g2, by rw [List.length_append, hts]; rfl, by rw [List.length_append, List.length_append]; omega⟩
  · rintro σ H3 ⟨t, ts, v4, rfl, D3, hF, hts, htl⟩
    obtain ⟨ts', hlex, hlen⟩ := hF.good
    have eN : (ts'.length : Int) = (n : Int) + 1 := by omega
    refine ⟨_, rfl, t, rfl, by omega, .inl ⟨ts', hlex, fun q1 H4 s4 hq1 => ?_⟩⟩
    rw [eN] at hq1
    refine ⟨_, rfl, _, _, rfl, rfl, (by show 2 ≤ sizeLine; decide), fun q2 nq2 => ?_⟩
    have sh := sh2 "tokens" ((n : Int) + 1) (by decide +kernel)
    refine ⟨_, _, .tup (SqT.of ((same_upd nq2) _ _ hq1)) (.cons (.str _) (.cons (.int _) .nil)), .tup (SqT.of upd_same) (.cons (.str _) (.cons (.int _) .nil)), sh, sh, _, rfl, ?_⟩
    rw [SeqAt.eqv_refl _ (SeqAt.canLay_of_shaped sh)]
    refine iteF ?_
    have D4 := (D3.same s4).fresh (o := .tup [V.str ("tokens" : Str), V.int ((n : Int) + 1)]) nq2
    refine ⟨12, rfl, by decide, by decide, ?_⟩
    refine for_range (lo := 0) (n := 12) (I2 a d r n t) ⟨_, _, _, _, _, _, _, rfl, D4⟩ ?_ ?_
    · rintro k σ H5 hk ⟨v4, v5, v6, v7, v8, v9, v10, rfl, D5⟩
      refine ⟨_, rfl, d, r, rfl, D5, fun q5 H6 e w K6 D6 nq hq hb hw => ?_⟩
      refine ⟨q5, _, rfl, SqT.of hq, rfl, _, _, rfl, _, _, rfl, rfl, ?_⟩
      obtain ⟨e1, e2⟩ := place_ok t
      refine ⟨_, rfl, rfl, _, _, rfl, rfl, _, _, rfl, rfl, ?_⟩
      refine ⟨_, rfl, _, rfl, small_len (show t.length ≤ 10000000 by omega), _, rfl, rfl, _, _, rfl, rfl, _, _, rfl, rfl, ?_⟩
      refine ⟨_, rfl, d, 4, rfl, by decide, r, D6, fun m H7 m0 m1 D7 M7 => ?_⟩
      obtain ⟨m, rfl⟩ : ∃ n : Nat, m = n := ⟨m.toNat, by omega⟩
      refine ⟨(m : Int), rfl, by omega, by omega, ?_⟩
      rw [Int.toNat_natCast]
      refine for_range (lo := 0) (n := m) (I3 a d r n t e w (some (.int (0 + k)))) ⟨v4, [], ?_, D7, .inl rfl, Nat.zero_le _⟩ ?_ ?_
      · show [some (V.ref a), some (V.ref d), some (V.str (Tx t)), some (V.int n), v4, some (V.int (0 + k)), some (V.str (erK e)), some (V.str (Tx w)), some (V.int (Txt.count (Tx t) ("\n" : Str) + 1)), some (V.int ((t.length : Int) - Txt.rfind (Tx t) ("\n" : Str))), some (V.str ("" : Str))] = _
        rw [e1, e2, empty_tx]
      · rintro k2 σ H8 hk2 ⟨v4, R, rfl, D8, hA, hR⟩
        refine ⟨_, rfl, (by show 2 ≤ sizeLine; decide), fun p np => ?_⟩
        refine ⟨_, rfl, d, 2, rfl, by decide, r, D8.fresh np, fun j H9 j0 j1 D9 M9 => ?_⟩
        have hp : H9 p = some (.lst ([" ", "\n"].map mS)) := (M9 p (Ne.symm (D8.neD np))).trans upd_same
        obtain ⟨s1, hs1, i1⟩ := menu_at (ss := [" ", "\n"]) j0 j1
        have g1 : codes s1 = [32] ∨ codes s1 = [10] := by
          have z : ∀ s ∈ [" ", "\n"], codes s = [32] ∨ codes s = [10] := by decide +kernel
          exact z s1 hs1
        have l1 : (codes s1).length = 1 := by
          rcases g1 with g | g
          · rw [g]; rfl
          · rw [g]; rfl
        have a1 : Aft (codes s1) ∧ codes s1 ≠ [] := by
          rcases g1 with g | g
          · rw [g]; exact ⟨.inr ⟨32, [], rfl, .inr rfl⟩, by simp⟩
          · rw [g]; exact ⟨.inr ⟨10, [], rfl, .inl rfl⟩, by simp⟩
        have l0 : R.length ≤ 200 := by omega
        refine ⟨p, _, _, _, rfl, rfl, SqL.of hp, i1, _, _, rfl, rfl, ?_, ?_⟩
        · show R.length + (codes s1).length ≤ sizeLine
          exact small_len (by omega)
        rw [Tx_app]
        refine ⟨_, rfl, d, r, rfl, D9, fun H10 g K10 D10 hg => ⟨(by show 4 ≤ sizeLine; decide), fun p2 np2 => ?_⟩⟩
        refine ⟨_, rfl, d, 4, rfl, by decide, r, D10.fresh np2, fun j2 H11 j20 j21 D11 M11 => ?_⟩
        have hp2 : H11 p2 = some (.lst ([g, "!", "02", "_"].map mS)) := (M11 p2 (Ne.symm (D10.neD np2))).trans (by
          rw [upd_same]
          show some (HO.lst [V.str (Tx (codes g)), mS "!", mS "02", mS "_"]) = some (HO.lst [mS g, mS "!", mS "02", mS "_"])
          rw [mS_eq g])
        obtain ⟨s2, hs2, i2⟩ := menu_at (ss := [g, "!", "02", "_"]) j20 j21
        have l2 : (codes s2).length ≤ 20 := by
          rcases List.mem_cons.mp hs2 with rfl | hs2
          · exact (good_ok s2 hg).2.2
          · have z : ∀ s ∈ ["!", "02", "_"], (codes s).length ≤ 20 := by decide +kernel
            exact z s2 hs2
        refine ⟨p2, _, _, _, rfl, rfl, SqL.of hp2, i2, _, _, rfl, rfl, ?_, ?_⟩
        · show (R ++ codes s1).length + (codes s2).length ≤ sizeLine
          rw [List.length_append]
          exact small_len (by omega)
        rw [Tx_app]
        refine ⟨_, (R ++ codes s1) ++ codes s2, rfl, D11, (hA.app a1.1).any (by simp [a1.2]), by rw [List.length_append, List.length_append]; omega⟩
      · rintro σ H8 ⟨v4, R, rfl, D8, hA, hR⟩
        have l0 : R.length ≤ 400 := by omega
        refine ⟨_, rfl, _, rfl, _, _, rfl, rfl, ?_, ?_⟩
        · show t.length + w.length ≤ sizeLine
          exact small_len (by omega)
        rw [Tx_app]
        refine ⟨_, rfl, _, _, rfl, rfl, ?_, ?_⟩
        · show (t ++ w).length + R.length ≤ sizeLine
          rw [List.length_append]
          exact small_len (by omega)
        rw [Tx_app]
        obtain ⟨b1, b2⟩ := adv_small (l := t) (by omega)
        refine ⟨(t ++ w) ++ R, rfl, by rw [List.length_append, List.length_append]; omega, .inr ⟨ts, e, _, _, hF.bad hb hA, b1, b2, fun q6 H9 s9 hq6 => ?_⟩⟩
        refine ⟨_, rfl, _, rfl, _, rfl, (by show 5 ≤ sizeLine; decide), fun q7 nq7 => ?_⟩
        have shx := sh5 (erK e) (adv t 1 1).1 (adv t 1 1).2 false true (erK_ok e)
        refine ⟨_, _, .tup (SqT.of ((same_upd nq7) _ _ hq6)) (.cons (.str _) (.cons (.int _) (.cons (.int _) (.cons (.bl _) (.cons (.bl _) .nil))))), .tup (SqT.of upd_same) (.cons (.str _) (.cons (.int _) (.cons (.int _) (.cons (.bl _) (.cons (.bl _) .nil))))), shx, shx, _, rfl, ?_⟩
        rw [SeqAt.eqv_refl _ (SeqAt.canLay_of_shaped shx)]
        exact iteF ⟨_, _, _, _, _, _, _, rfl, (D8.same s9).fresh nq7⟩
    · rintro σ H5 ⟨v4, v5, v6, v7, v8, v9, v10, rfl, D5⟩
      exact q H5
end
end Rm.K1

namespace Rm.K1.W01
open PySem PySem.Spec PyProof.Rows L2 Rm
def top (i : Nat) : Stmt := PySem.Challenge.pw_reaimed_k01_texts_with_a_bad_place.main.body.getD i (.Pass ⟨0, 0, 0, 0⟩)
abbrev s_l_mix : Stmt := top 20
theorem sc_l_mix : FnScope ns_l_mix ["cell", "k"] (defScope s_l_mix) := ⟨rfl, rfl, rfl, by decide +kernel, rfl, by decide +kernel, by decide +kernel⟩
abbrev s_l_pick : Stmt := top 22
theorem sc_l_pick : FnScope ns_l_pick ["draws", "many"] (defScope s_l_pick) := ⟨rfl, rfl, rfl, by decide +kernel, rfl, by decide +kernel, by decide +kernel⟩
abbrev s_l_stream : Stmt := top 21
theorem sc_l_stream : FnScope ns_l_stream ["script", "most"] (defScope s_l_stream) := ⟨rfl, rfl, rfl, by decide +kernel, rfl, by decide +kernel, by decide +kernel⟩
abbrev s_is_letter : Stmt := top 14
theorem sc_is_letter : FnScope ns_is_letter ["char"] (defScope s_is_letter) := ⟨rfl, rfl, rfl, by decide +kernel, rfl, by decide +kernel, by decide +kernel⟩
abbrev s_is_word_part : Stmt := top 15
theorem sc_is_word_part : FnScope ns_is_word_part ["char"] (defScope s_is_word_part) := ⟨rfl, rfl, rfl, by decide +kernel, rfl, by decide +kernel, by decide +kernel⟩
abbrev s_is_number : Stmt := top 16
theorem sc_is_number : FnScope ns_is_number ["word"] (defScope s_is_number) := ⟨rfl, rfl, rfl, by decide +kernel, rfl, by decide +kernel, by decide +kernel⟩
abbrev s_word_kind : Stmt := top 17
theorem sc_word_kind : FnScope ns_word_kind ["word"] (defScope s_word_kind) := ⟨rfl, rfl, rfl, by decide +kernel, rfl, by decide +kernel, by decide +kernel⟩
abbrev s_Scanner_init : Stmt := inClass (top 18) 0
theorem sc_Scanner_init : FnScope ns_Scanner_init ["self", "text"] (defScope s_Scanner_init) := ⟨rfl, rfl, rfl, by decide +kernel, rfl, by decide +kernel, by decide +kernel⟩
abbrev s_Scanner_is_done : Stmt := inClass (top 18) 1
theorem sc_Scanner_is_done : FnScope ns_Scanner_is_done ["self"] (defScope s_Scanner_is_done) := ⟨rfl, rfl, rfl, by decide +kernel, rfl, by decide +kernel, by decide +kernel⟩
abbrev s_Scanner_skip_newline : Stmt := inClass (top 18) 3
theorem sc_Scanner_skip_newline : FnScope ns_Scanner_skip_newline ["self"] (defScope s_Scanner_skip_newline) := ⟨rfl, rfl, rfl, by decide +kernel, rfl, by decide +kernel, by decide +kernel⟩
abbrev s_Scanner_row_end : Stmt := inClass (top 18) 4
theorem sc_Scanner_row_end : FnScope ns_Scanner_row_end ["self"] (defScope s_Scanner_row_end) := ⟨rfl, rfl, rfl, by decide +kernel, rfl, by decide +kernel, by decide +kernel⟩
abbrev s_Scanner_word_end : Stmt := inClass (top 18) 5
theorem sc_Scanner_word_end : FnScope ns_Scanner_word_end ["self"] (defScope s_Scanner_word_end) := ⟨rfl, rfl, rfl, by decide +kernel, rfl, by decide +kernel, by decide +kernel⟩
abbrev s_Scanner_take_to : Stmt := inClass (top 18) 6
theorem sc_Scanner_take_to : FnScope ns_Scanner_take_to ["self", "end"] (defScope s_Scanner_take_to) := ⟨rfl, rfl, rfl, by decide +kernel, rfl, by decide +kernel, by decide +kernel⟩
abbrev s_Scanner_skip_gaps : Stmt := inClass (top 18) 2
theorem sc_Scanner_skip_gaps : FnScope ns_Scanner_skip_gaps ["self"] (defScope s_Scanner_skip_gaps) := ⟨rfl, rfl, rfl, by decide +kernel, rfl, by decide +kernel, by decide +kernel⟩
abbrev s_Scanner_take_sign : Stmt := inClass (top 18) 8
theorem sc_Scanner_take_sign : FnScope ns_Scanner_take_sign ["self"] (defScope s_Scanner_take_sign) := ⟨rfl, rfl, rfl, by decide +kernel, rfl, by decide +kernel, by decide +kernel⟩
abbrev s_Scanner_take_token : Stmt := inClass (top 18) 7
theorem sc_Scanner_take_token : FnScope ns_Scanner_take_token ["self"] (defScope s_Scanner_take_token) := ⟨rfl, rfl, rfl, by decide +kernel, rfl, by decide +kernel, by decide +kernel⟩
abbrev s_tokens : Stmt := top 13
theorem sc_tokens : FnScope ns_tokens ["text"] (defScope s_tokens) := ⟨rfl, rfl, rfl, by decide +kernel, rfl, by decide +kernel, by decide +kernel⟩
abbrev s_l_good : Stmt := top 23
theorem sc_l_good : FnScope ns_l_good ["draws"] (defScope s_l_good) := ⟨rfl, rfl, rfl, by decide +kernel, rfl, by decide +kernel, by decide +kernel⟩
abbrev s_l_bad : Stmt := top 24
theorem sc_l_bad : FnScope ns_l_bad ["draws"] (defScope s_l_bad) := ⟨rfl, rfl, rfl, by decide +kernel, rfl, by decide +kernel, by decide +kernel⟩
abbrev s_l_between : Stmt := top 25
theorem sc_l_between : FnScope ns_l_between ["draws"] (defScope s_l_between) := ⟨rfl, rfl, rfl, by decide +kernel, rfl, by decide +kernel, by decide +kernel⟩
abbrev s_l_told : Stmt := top 26
theorem sc_l_told : FnScope ns_l_told ["text"] (defScope s_l_told) := ⟨rfl, rfl, rfl, by decide +kernel, rfl, by decide +kernel, by decide +kernel⟩
abbrev s_law : Stmt := top 27
theorem sc_law : FnScope ns_law ["script"] (defScope s_law) := ⟨rfl, rfl, rfl, by decide +kernel, rfl, by decide +kernel, by decide +kernel⟩
abbrev s_te : Stmt := inClass (top 2) 0
theorem te_is : TeIs s_te := ⟨_, _, _, _, _, _, _, _, _, _, _, _, _, _, _, _, _, _, _, _, _, _, _, _, _, rfl, rfl, rfl, rfl⟩
structure Txt (P : Program) (w : World) (K : PySem.W.Frag) (mg : Str → Option Value) : Prop where
  free_int : mg ("int" : Str) = none
  glo__law_mix : mg ("_law_mix" : Str) = some (.ref (He.ga K ("_law_mix" : Str)))
  free_len : mg ("len" : Str) = none
  free_range : mg ("range" : Str) = none
  free_min : mg ("min" : Str) = none
  glo_is_letter : mg ("is_letter" : Str) = some (.ref (He.ga K ("is_letter" : Str)))
  str_DIGITS : ∃ t, mg ("DIGITS" : Str) = some (.str ("0123456789" : Str) t)
  int_MOST_DIGITS : ∃ t, mg ("MOST_DIGITS" : Str) = some (.int 13 t)
  int_LARGEST : ∃ t, mg ("LARGEST" : Str) = some (.int 1000000000000 t)
  glo_KEYWORDS : mg ("KEYWORDS" : Str) = some (.ref (He.ga K ("KEYWORDS" : Str)))
  glo_is_word_part : mg ("is_word_part" : Str) = some (.ref (He.ga K ("is_word_part" : Str)))
  cls_Scanner : Cls K (He.ga K ("Scanner" : Str))
  meth_Scanner_is_done : Meth K (He.ga K ("Scanner" : Str)) ("is_done" : Str) (He.ma K (He.ga K ("Scanner" : Str)) ("is_done" : Str))
  meth_Scanner_skip_newline : Meth K (He.ga K ("Scanner" : Str)) ("skip_newline" : Str) (He.ma K (He.ga K ("Scanner" : Str)) ("skip_newline" : Str))
  meth_Scanner_take_to : Meth K (He.ga K ("Scanner" : Str)) ("take_to" : Str) (He.ma K (He.ga K ("Scanner" : Str)) ("take_to" : Str))
  meth_Scanner_row_end : Meth K (He.ga K ("Scanner" : Str)) ("row_end" : Str) (He.ma K (He.ga K ("Scanner" : Str)) ("row_end" : Str))
  glo_LONG_SIGNS : mg ("LONG_SIGNS" : Str) = some (.ref (He.ga K ("LONG_SIGNS" : Str)))
  glo_SHORT_SIGNS : mg ("SHORT_SIGNS" : Str) = some (.ref (He.ga K ("SHORT_SIGNS" : Str)))
  glo_BadCharacter : mg ("BadCharacter" : Str) = some (.ref (He.ga K ("BadCharacter" : Str)))
  meth_Scanner_word_end : Meth K (He.ga K ("Scanner" : Str)) ("word_end" : Str) (He.ma K (He.ga K ("Scanner" : Str)) ("word_end" : Str))
  glo_word_kind : mg ("word_kind" : Str) = some (.ref (He.ga K ("word_kind" : Str)))
  glo_is_number : mg ("is_number" : Str) = some (.ref (He.ga K ("is_number" : Str)))
  glo_BadNumber : mg ("BadNumber" : Str) = some (.ref (He.ga K ("BadNumber" : Str)))
  meth_Scanner_take_sign : Meth K (He.ga K ("Scanner" : Str)) ("take_sign" : Str) (He.ma K (He.ga K ("Scanner" : Str)) ("take_sign" : Str))
  glo_Scanner : mg ("Scanner" : Str) = some (.ref (He.ga K ("Scanner" : Str)))
  mkr_Scanner : Mk K (He.ga K ("Scanner" : Str)) (He.ma K (He.ga K ("Scanner" : Str)) "__init__")
  meth_Scanner_skip_gaps : Meth K (He.ga K ("Scanner" : Str)) ("skip_gaps" : Str) (He.ma K (He.ga K ("Scanner" : Str)) ("skip_gaps" : Str))
  meth_Scanner_take_token : Meth K (He.ga K ("Scanner" : Str)) ("take_token" : Str) (He.ma K (He.ga K ("Scanner" : Str)) ("take_token" : Str))
  glo__law_pick : mg ("_law_pick" : Str) = some (.ref (He.ga K ("_law_pick" : Str)))
  glo_tokens : mg ("tokens" : Str) = some (.ref (He.ga K ("tokens" : Str)))
  noat_BadNumber_row : NoAttr K (He.ga K ("BadNumber" : Str)) ("row" : Str)
  noat_BadNumber_column : NoAttr K (He.ga K ("BadNumber" : Str)) ("column" : Str)
  free_isinstance : mg ("isinstance" : Str) = none
  glo_Unexpected : mg ("Unexpected" : Str) = some (.ref (He.ga K ("Unexpected" : Str)))
  glo_TextError : mg ("TextError" : Str) = some (.ref (He.ga K ("TextError" : Str)))
  glo_AimError : mg ("AimError" : Str) = some (.ref (He.ga K ("AimError" : Str)))
  noat_BadCharacter_row : NoAttr K (He.ga K ("BadCharacter" : Str)) ("row" : Str)
  noat_BadCharacter_column : NoAttr K (He.ga K ("BadCharacter" : Str)) ("column" : Str)
  glo__law_stream : mg ("_law_stream" : Str) = some (.ref (He.ga K ("_law_stream" : Str)))
  glo__law_good : mg ("_law_good" : Str) = some (.ref (He.ga K ("_law_good" : Str)))
  glo__law_between : mg ("_law_between" : Str) = some (.ref (He.ga K ("_law_between" : Str)))
  glo__law_told : mg ("_law_told" : Str) = some (.ref (He.ga K ("_law_told" : Str)))
  glo__law_bad : mg ("_law_bad" : Str) = some (.ref (He.ga K ("_law_bad" : Str)))
  glo_law : mg ("law" : Str) = some (.ref (He.ga K ("law" : Str)))
  noat_Scanner_text : NoAttr K (He.ga K ("Scanner" : Str)) ("text" : Str)
  noat_Scanner_at : NoAttr K (He.ga K ("Scanner" : Str)) ("at" : Str)
  noat_Scanner_row : NoAttr K (He.ga K ("Scanner" : Str)) ("row" : Str)
  noat_Scanner_column : NoAttr K (He.ga K ("Scanner" : Str)) ("column" : Str)
  d_l_mix : ∃ fd, FunD K ("_law_mix" : Str) ("_law_mix" : Str) (defArgs s_l_mix) (defBody s_l_mix) (defScope s_l_mix) [] [] (He.ga K ("_law_mix" : Str)) fd
  d_l_pick : ∃ fd, FunD K ("_law_pick" : Str) ("_law_pick" : Str) (defArgs s_l_pick) (defBody s_l_pick) (defScope s_l_pick) [] [] (He.ga K ("_law_pick" : Str)) fd
  d_l_stream : ∃ fd, FunD K ("_law_stream" : Str) ("_law_stream" : Str) (defArgs s_l_stream) (defBody s_l_stream) (defScope s_l_stream) [] [] (He.ga K ("_law_stream" : Str)) fd
  d_is_letter : ∃ fd, FunD K ("is_letter" : Str) ("is_letter" : Str) (defArgs s_is_letter) (defBody s_is_letter) (defScope s_is_letter) [] [] (He.ga K ("is_letter" : Str)) fd
  d_is_word_part : ∃ fd, FunD K ("is_word_part" : Str) ("is_word_part" : Str) (defArgs s_is_word_part) (defBody s_is_word_part) (defScope s_is_word_part) [] [] (He.ga K ("is_word_part" : Str)) fd
  d_is_number : ∃ fd, FunD K ("is_number" : Str) ("is_number" : Str) (defArgs s_is_number) (defBody s_is_number) (defScope s_is_number) [] [] (He.ga K ("is_number" : Str)) fd
  d_word_kind : ∃ fd, FunD K ("word_kind" : Str) ("word_kind" : Str) (defArgs s_word_kind) (defBody s_word_kind) (defScope s_word_kind) [] [] (He.ga K ("word_kind" : Str)) fd
  d_Scanner_init : ∃ fd, FunD K ("__init__" : Str) ("Scanner.__init__" : Str) (defArgs s_Scanner_init) (defBody s_Scanner_init) (defScope s_Scanner_init) [] [] (He.ma K (He.ga K ("Scanner" : Str)) ("__init__" : Str)) fd
  d_Scanner_is_done : ∃ fd, FunD K ("is_done" : Str) ("Scanner.is_done" : Str) (defArgs s_Scanner_is_done) (defBody s_Scanner_is_done) (defScope s_Scanner_is_done) [] [] (He.ma K (He.ga K ("Scanner" : Str)) ("is_done" : Str)) fd
  d_Scanner_skip_newline : ∃ fd, FunD K ("skip_newline" : Str) ("Scanner.skip_newline" : Str) (defArgs s_Scanner_skip_newline) (defBody s_Scanner_skip_newline) (defScope s_Scanner_skip_newline) [] [] (He.ma K (He.ga K ("Scanner" : Str)) ("skip_newline" : Str)) fd
  d_Scanner_row_end : ∃ fd, FunD K ("row_end" : Str) ("Scanner.row_end" : Str) (defArgs s_Scanner_row_end) (defBody s_Scanner_row_end) (defScope s_Scanner_row_end) [] [] (He.ma K (He.ga K ("Scanner" : Str)) ("row_end" : Str)) fd
  d_Scanner_word_end : ∃ fd, FunD K ("word_end" : Str) ("Scanner.word_end" : Str) (defArgs s_Scanner_word_end) (defBody s_Scanner_word_end) (defScope s_Scanner_word_end) [] [] (He.ma K (He.ga K ("Scanner" : Str)) ("word_end" : Str)) fd
  d_Scanner_take_to : ∃ fd, FunD K ("take_to" : Str) ("Scanner.take_to" : Str) (defArgs s_Scanner_take_to) (defBody s_Scanner_take_to) (defScope s_Scanner_take_to) [] [] (He.ma K (He.ga K ("Scanner" : Str)) ("take_to" : Str)) fd
  d_Scanner_skip_gaps : ∃ fd, FunD K ("skip_gaps" : Str) ("Scanner.skip_gaps" : Str) (defArgs s_Scanner_skip_gaps) (defBody s_Scanner_skip_gaps) (defScope s_Scanner_skip_gaps) [] [] (He.ma K (He.ga K ("Scanner" : Str)) ("skip_gaps" : Str)) fd
  d_Scanner_take_sign : ∃ fd, FunD K ("take_sign" : Str) ("Scanner.take_sign" : Str) (defArgs s_Scanner_take_sign) (defBody s_Scanner_take_sign) (defScope s_Scanner_take_sign) [] [] (He.ma K (He.ga K ("Scanner" : Str)) ("take_sign" : Str)) fd
  d_Scanner_take_token : ∃ fd, FunD K ("take_token" : Str) ("Scanner.take_token" : Str) (defArgs s_Scanner_take_token) (defBody s_Scanner_take_token) (defScope s_Scanner_take_token) [] [] (He.ma K (He.ga K ("Scanner" : Str)) ("take_token" : Str)) fd
  d_tokens : ∃ fd, FunD K ("tokens" : Str) ("tokens" : Str) (defArgs s_tokens) (defBody s_tokens) (defScope s_tokens) [] [] (He.ga K ("tokens" : Str)) fd
  d_l_good : ∃ fd, FunD K ("_law_good" : Str) ("_law_good" : Str) (defArgs s_l_good) (defBody s_l_good) (defScope s_l_good) [] [] (He.ga K ("_law_good" : Str)) fd
  d_l_bad : ∃ fd, FunD K ("_law_bad" : Str) ("_law_bad" : Str) (defArgs s_l_bad) (defBody s_l_bad) (defScope s_l_bad) [] [] (He.ga K ("_law_bad" : Str)) fd
  d_l_between : ∃ fd, FunD K ("_law_between" : Str) ("_law_between" : Str) (defArgs s_l_between) (defBody s_l_between) (defScope s_l_between) [] [] (He.ga K ("_law_between" : Str)) fd
  d_l_told : ∃ fd, FunD K ("_law_told" : Str) ("_law_told" : Str) (defArgs s_l_told) (defBody s_l_told) (defScope s_l_told) [] [] (He.ga K ("_law_told" : Str)) fd
  d_law : ∃ fd, FunD K ("law" : Str) ("law" : Str) (defArgs s_law) (defBody s_law) (defScope s_law) [] [] (He.ga K ("law" : Str)) fd
  kw : ∀ H, SqT K H (He.ga K ("KEYWORDS" : Str)) (Lx.kwL.map fun k => V.str (Tx k))
  lg : ∀ H, SqT K H (He.ga K ("LONG_SIGNS" : Str)) (Lx.longL.map fun k => V.str (Tx k))
  sh : ∀ H, SqT K H (He.ga K ("SHORT_SIGNS" : Str)) (Lx.shortL.map fun k => V.str (Tx k))
  err_BadCharacter : ErrK P K (He.ga K ("BadCharacter" : Str))
  err_BadNumber : ErrK P K (He.ga K ("BadNumber" : Str))
  exc_BadNumber : ExcC K (He.ga K ("BadNumber" : Str))
  exc_BadCharacter : ExcC K (He.ga K ("BadCharacter" : Str))
  exm_BadCharacter_BadCharacter : PySem.W.exmOne K (.ref (He.ga K ("BadCharacter" : Str))) (.ref (He.ga K ("BadCharacter" : Str))) = some true
  exm_BadNumber_BadCharacter : PySem.W.exmOne K (.ref (He.ga K ("BadNumber" : Str))) (.ref (He.ga K ("BadCharacter" : Str))) = some false
  exm_BadNumber_BadNumber : PySem.W.exmOne K (.ref (He.ga K ("BadNumber" : Str))) (.ref (He.ga K ("BadNumber" : Str))) = some true
  kia_BadCharacter_BadNumber_Unexpected : PySem.W.kitAny K (.ref (He.ga K ("BadCharacter" : Str))) [.ref (He.ga K ("BadNumber" : Str)), .ref (He.ga K ("Unexpected" : Str))] = some false
  kit_BadCharacter_TextError : PySem.W.kitOne K (.ref (He.ga K ("BadCharacter" : Str))) (.ref (He.ga K ("TextError" : Str))) = some true
  kit_BadNumber_Unexpected : PySem.W.kitOne K (.ref (He.ga K ("BadNumber" : Str))) (.ref (He.ga K ("Unexpected" : Str))) = some false
  kit_BadNumber_TextError : PySem.W.kitOne K (.ref (He.ga K ("BadNumber" : Str))) (.ref (He.ga K ("TextError" : Str))) = some true
  kit_BadNumber_AimError : PySem.W.kitOne K (.ref (He.ga K ("BadNumber" : Str))) (.ref (He.ga K ("AimError" : Str))) = some true
theorem Txt.sc {P : Program} {w : World} {K : PySem.W.Frag} {mg : Str → Option Value} (T : Txt P w K mg) : ScC K := ⟨T.cls_Scanner, T.noat_Scanner_text, T.noat_Scanner_at, T.noat_Scanner_row, T.noat_Scanner_column⟩
theorem Txt.kitF {P : Program} {w : World} {K : PySem.W.Frag} {mg : Str → Option Value} (T : Txt P w K mg) : KitF K := ⟨T.exm_BadCharacter_BadCharacter, T.exm_BadNumber_BadCharacter, T.exm_BadNumber_BadNumber, T.kia_BadCharacter_BadNumber_Unexpected, T.kit_BadCharacter_TextError, T.kit_BadNumber_Unexpected, T.kit_BadNumber_TextError, T.kit_BadNumber_AimError, T.exc_BadCharacter, T.exc_BadNumber⟩
section
variable {P : Program} {w : World} {K : PySem.W.Frag} {mg : Str → Option Value} {base : Heap}
theorem ok_l_mix (T : Txt P w K mg) {fd : FuncData} (F : FunD K ("_law_mix" : Str) ("_law_mix" : Str) (defArgs s_l_mix) (defBody s_l_mix) (defScope s_l_mix) [] [] (He.ga K ("_law_mix" : Str)) fd) : Def P w K mg base 1 (He.ga K ("_law_mix" : Str)) fd ["cell", "k"] (sp_l_mix K) := by
  refine ⟨F.ok (CX := L2.CX P w) sc_l_mix (fun vs H Q E h => ?_) (fun cdv A outer s H vs Q E hr h => ⟨t_l_mix K E, ?_, run_l_mix h⟩), F.bindsN fun _ _ _ _ _ _ us hl => match us, hl with | [_, _], _ => rfl, F.kp⟩
  · obtain ⟨_, _, rfl, _⟩ := h
    rfl
  · exact (pss_cons (ps_set (i := 2) sc_l_mix.nd rfl (Or.inl rfl) (pe_op op_mod (pe_callTy call_int1 (by rfl) T.free_int (by decide +kernel) (pa_cons (pe_op op_add (pe_op op_add (pe_op op_mul (pv 0) pe_int) (pe_op op_mul (pv 1) pe_int)) pe_int) pa_nil)) pe_int))
      (pss_one (ps_ret (pe_op op_mod (pe_op op_mod (pe_callTy call_int1 (by rfl) T.free_int (by decide +kernel) (pa_cons (pe_op op_add (pe_op op_add (pe_op op_add (pe_op op_mul (pv 2) (pv 2)) (pe_op op_mul (pv 0) pe_int)) (pe_op op_mul (pv 1) pe_int)) pe_int) pa_nil)) pe_int) pe_int))))
theorem ok_l_pick (T : Txt P w K mg) {fd : FuncData} (F : FunD K ("_law_pick" : Str) ("_law_pick" : Str) (defArgs s_l_pick) (defBody s_l_pick) (defScope s_l_pick) [] [] (He.ga K ("_law_pick" : Str)) fd) : Def P w K mg base 2 (He.ga K ("_law_pick" : Str)) fd ["draws", "many"] (sp_l_pick K) := by
  obtain ⟨fd_l_mix, F_l_mix⟩ := T.d_l_mix
  have G_l_mix := ok_l_mix (P := P) (w := w) (base := base) T F_l_mix
  refine ⟨F.ok (CX := L2.CX P w) sc_l_pick (fun vs H Q E h => ?_) (fun cdv A outer s H vs Q E hr h => ⟨t_l_pick K E, ?_, run_l_pick h⟩), F.bindsN fun _ _ _ _ _ _ us hl => match us, hl with | [_, _], _ => rfl, F.kp⟩
  · obtain ⟨_, _, rfl, _⟩ := h
    rfl
  · have hu := hu_of hr
    exact (pss_cons (ps_set (i := 2) sc_l_pick.nd rfl (Or.inl rfl) (pe_dget hu (pv 0) pe_str (fun _ _ => rfl)))
      (pss_cons (ps_dput hu (pv 0) pe_str (pe_op op_add (pv 2) pe_int) rfl)
      (pss_cons (ps_set (i := 3) sc_l_pick.nd rfl (Or.inl rfl) (pe_call G_l_mix.fn (hr.mono (by decide)) rfl T.glo__law_mix G_l_mix.kp G_l_mix.bd .nil (passE (takes_of rfl rfl rfl rfl)) (pa_cons (pe_dget hu (pv 0) pe_str (fun _ _ => rfl)) (pa_cons (pv 2) pa_nil))))
      (pss_cons (ps_if (pt_cmpR op_lt (pv 2) (pe_callB call_len (by rfl) T.free_len (by decide +kernel) (pa_cons (pe_dget hu (pv 0) pe_str (fun _ _ => rfl)) pa_nil)) (nomark _)) (pss_one (ps_set (i := 3) sc_l_pick.nd rfl (Or.inl rfl) (pe_ix ix_list (pe_dget hu (pv 0) pe_str (fun _ _ => rfl)) (pv 2) (fun _ _ => rfl)))) pss_nil)
      (pss_one (ps_ret (pe_op op_mod (pe_callTy call_int1 (by rfl) T.free_int (by decide +kernel) (pa_cons (pv 3) pa_nil)) (pv 1))))))))
theorem ok_l_stream (T : Txt P w K mg) {fd : FuncData} (F : FunD K ("_law_stream" : Str) ("_law_stream" : Str) (defArgs s_l_stream) (defBody s_l_stream) (defScope s_l_stream) [] [] (He.ga K ("_law_stream" : Str)) fd) : Def P w K mg base 2 (He.ga K ("_law_stream" : Str)) fd ["script", "most"] (sp_l_stream K) := by
  obtain ⟨fd_l_mix, F_l_mix⟩ := T.d_l_mix
  have G_l_mix := ok_l_mix (P := P) (w := w) (base := base) T F_l_mix
  refine ⟨F.ok (CX := L2.CX P w) sc_l_stream (fun vs H Q E h => ?_) (fun cdv A outer s H vs Q E hr h => ⟨t_l_stream K E, ?_, run_l_stream h⟩), F.bindsN fun _ _ _ _ _ _ us hl => match us, hl with | [_, _], _ => rfl, F.kp⟩
  · obtain ⟨_, _, _, rfl, _⟩ := h
    rfl
  · exact (pss_cons (ps_set (i := 2) sc_l_stream.nd rfl (Or.inl rfl) (pe_lst pa_nil))
      (pss_cons (ps_for (passes_of rfl) rfl (pi_range1 (by rfl) T.free_range (pa_cons (pe_callB (call_min2 rfl) (by rfl) T.free_min (by decide +kernel) (pa_cons (pe_callB call_len (by rfl) T.free_len (by decide +kernel) (pa_cons (pv 0) pa_nil)) (pa_cons pe_int pa_nil))) pa_nil)) (pg_name (i := 3) sc_l_stream.nd rfl (Or.inl rfl)) (pss_cons (ps_set (i := 4) sc_l_stream.nd rfl (Or.inl rfl) (pe_ix ix_list (pv 0) (pv 3) (fun _ _ => rfl)))
      (pss_one (ps_if (pt_cmpR op_ge (pv 4) (pe_op op_pow pe_int pe_int) (nomark _)) (pss_one (ps_for (passes_of rfl) rfl (pi_range1 (by rfl) T.free_range (pa_cons pe_int pa_nil)) (pg_name (i := 5) sc_l_stream.nd rfl (Or.inl rfl)) (pss_one (ps_if (PW.pt (pw_and (pt_cmpR op_gt (pv 4) pe_int (nomark _)) (pw_and1 (pt_cmpR op_lt (pe_callB call_len (by rfl) T.free_len (by decide +kernel) (pa_cons (pv 2) pa_nil)) (pv 1) (nomark _))))) (pss_cons (ps_expr (pe_bm PySem.F.plainAttrs_list PySem.F.slot_list_append PySem.F.type_list_append mt_append (pv 2) (pa_cons (pe_op op_mod (pe_callTy call_int1 (by rfl) T.free_int (by decide +kernel) (pa_cons (pv 4) pa_nil)) pe_int) pa_nil)))
      (pss_one (ps_set (i := 4) sc_l_stream.nd rfl (Or.inl rfl) (pe_op op_fdiv (pv 4) pe_int)))) pss_nil)))) (pss_one (ps_for (passes_of rfl) rfl (pi_range1 (by rfl) T.free_range (pa_cons pe_int pa_nil)) (pg_name (i := 5) sc_l_stream.nd rfl (Or.inl rfl)) (pss_one (ps_if (pt_cmpR op_lt (pe_callB call_len (by rfl) T.free_len (by decide +kernel) (pa_cons (pv 2) pa_nil)) (pv 1) (nomark _)) (pss_one (ps_expr (pe_bm PySem.F.plainAttrs_list PySem.F.slot_list_append PySem.F.type_list_append mt_append (pv 2) (pa_cons (pe_call G_l_mix.fn (hr.mono (by decide)) rfl T.glo__law_mix G_l_mix.kp G_l_mix.bd .nil (passE (takes_of rfl rfl rfl rfl)) (pa_cons (pv 4) (pa_cons (pe_op op_add (pe_op op_mul pe_int (pv 5)) (pv 3)) pa_nil))) pa_nil)))) pss_nil))))))))
      (pss_one (ps_ret (pe_disp (pps_cons pe_str (pv 2) (pps_cons pe_str pe_int (pps_cons pe_str (pe_callB call_len (by rfl) T.free_len (by decide +kernel) (pa_cons (pv 2) pa_nil)) pps_nil))) (by rfl) (by rfl) (fun z => by cases z) (by decide))))))
theorem ok_is_letter (T : Txt P w K mg) {fd : FuncData} (F : FunD K ("is_letter" : Str) ("is_letter" : Str) (defArgs s_is_letter) (defBody s_is_letter) (defScope s_is_letter) [] [] (He.ga K ("is_letter" : Str)) fd) : Def P w K mg base 1 (He.ga K ("is_letter" : Str)) fd ["char"] (sp_is_letter K) := by
  refine ⟨F.ok (CX := L2.CX P w) sc_is_letter (fun vs H Q E h => ?_) (fun cdv A outer s H vs Q E hr h => ⟨t_is_letter K E, ?_, run_is_letter h⟩), F.bindsN fun _ _ _ _ _ _ us hl => match us, hl with | [_], _ => rfl, F.kp⟩
  · obtain ⟨_, rfl, _⟩ := h
    rfl
  · exact (pss_one (ps_ret (pe_and (pe_bm0 PySem.F.plainAttrs_str PySem.F.slot_str_isascii PySem.F.type_str_isascii mt_isascii (pv 0)) (pe_one (pe_bm0 PySem.F.plainAttrs_str PySem.F.slot_str_isalpha PySem.F.type_str_isalpha mt_isalpha (pv 0))))))
theorem ok_is_word_part (T : Txt P w K mg) {fd : FuncData} (F : FunD K ("is_word_part" : Str) ("is_word_part" : Str) (defArgs s_is_word_part) (defBody s_is_word_part) (defScope s_is_word_part) [] [] (He.ga K ("is_word_part" : Str)) fd) : Def P w K mg base 2 (He.ga K ("is_word_part" : Str)) fd ["char"] (sp_is_word_part K) := by
  obtain ⟨fd_is_letter, F_is_letter⟩ := T.d_is_letter
  have G_is_letter := ok_is_letter (P := P) (w := w) (base := base) T F_is_letter
  obtain ⟨tk_DIGITS, i_DIGITS⟩ := T.str_DIGITS
  refine ⟨F.ok (CX := L2.CX P w) sc_is_word_part (fun vs H Q E h => ?_) (fun cdv A outer s H vs Q E hr h => ⟨t_is_word_part K E, ?_, run_is_word_part h⟩), F.bindsN fun _ _ _ _ _ _ us hl => match us, hl with | [_], _ => rfl, F.kp⟩
  · obtain ⟨_, rfl, _⟩ := h
    rfl
  · exact (pss_one (ps_ret (pe_or (pe_call G_is_letter.fn (hr.mono (by decide)) rfl T.glo_is_letter G_is_letter.kp G_is_letter.bd .nil (passE (takes_of rfl rfl rfl rfl)) (pa_cons (pv 0) pa_nil)) (pe_or (pe_cmpR op_in_sign (pv 0) (pe_glob rfl i_DIGITS ⟨_, rfl⟩) (by with_unfolding_all rfl)) (pe_one (pe_cmpR op_eq (pv 0) pe_str (nomark _)))))))
theorem ok_is_number (T : Txt P w K mg) {fd : FuncData} (F : FunD K ("is_number" : Str) ("is_number" : Str) (defArgs s_is_number) (defBody s_is_number) (defScope s_is_number) [] [] (He.ga K ("is_number" : Str)) fd) : Def P w K mg base 1 (He.ga K ("is_number" : Str)) fd ["word"] (sp_is_number K) := by
  obtain ⟨tk_MOST_DIGITS, i_MOST_DIGITS⟩ := T.int_MOST_DIGITS
  obtain ⟨tk_LARGEST, i_LARGEST⟩ := T.int_LARGEST
  refine ⟨F.ok (CX := L2.CX P w) sc_is_number (fun vs H Q E h => ?_) (fun cdv A outer s H vs Q E hr h => ⟨t_is_number K E, ?_, run_is_number h⟩), F.bindsN fun _ _ _ _ _ _ us hl => match us, hl with | [_], _ => rfl, F.kp⟩
  · obtain ⟨_, rfl, _⟩ := h
    rfl
  · exact (pss_cons (ps_if (PW.pt (pw_or (pt_not (pt_val (pe_bm0 PySem.F.plainAttrs_str PySem.F.slot_str_isascii PySem.F.type_str_isascii mt_isascii (pv 0)))) (pw_or1 (pt_not (pt_val (pe_bm0 PySem.F.plainAttrs_str PySem.F.slot_str_isdigit PySem.F.type_str_isdigit mt_isdigit (pv 0))))))) (pss_one (ps_ret pe_bl)) pss_nil)
      (pss_cons (ps_if (PW.pt (pw_and (pt_cmpR op_gt (pe_callB call_len_str (by rfl) T.free_len (by decide +kernel) (pa_cons (pv 0) pa_nil)) pe_int (nomark _)) (pw_and1 (pt_cmpR op_eq (pe_ix ix_str (pv 0) pe_int (fun _ _ => rfl)) pe_str (nomark _))))) (pss_one (ps_ret pe_bl)) pss_nil)
      (pss_one (ps_ret (pe_and (pe_cmpR op_le (pe_callB call_len_str (by rfl) T.free_len (by decide +kernel) (pa_cons (pv 0) pa_nil)) (pe_glob rfl i_MOST_DIGITS ⟨_, rfl⟩) (nomark _)) (pe_one (pe_cmpR op_le (pe_callTy call_int_str (by rfl) T.free_int (by decide +kernel) (pa_cons (pv 0) pa_nil)) (pe_glob rfl i_LARGEST ⟨_, rfl⟩) (nomark _))))))))
theorem ok_word_kind (T : Txt P w K mg) {fd : FuncData} (F : FunD K ("word_kind" : Str) ("word_kind" : Str) (defArgs s_word_kind) (defBody s_word_kind) (defScope s_word_kind) [] [] (He.ga K ("word_kind" : Str)) fd) : Def P w K mg base 1 (He.ga K ("word_kind" : Str)) fd ["word"] (sp_word_kind K) := by
  refine ⟨F.ok (CX := L2.CX P w) sc_word_kind (fun vs H Q E h => ?_) (fun cdv A outer s H vs Q E hr h => ⟨t_word_kind K E, ?_, run_word_kind T.kw h⟩), F.bindsN fun _ _ _ _ _ _ us hl => match us, hl with | [_], _ => rfl, F.kp⟩
  · obtain ⟨_, rfl, _⟩ := h
    rfl
  · exact (pss_cons (ps_if (pt_cmpR op_in_seq (pv 0) (pe_glob rfl T.glo_KEYWORDS rfl) (by with_unfolding_all rfl)) (pss_one (ps_ret pe_str)) pss_nil)
      (pss_one (ps_ret pe_str)))
theorem ok_Scanner_init (T : Txt P w K mg) {fd : FuncData} (F : FunD K ("__init__" : Str) ("Scanner.__init__" : Str) (defArgs s_Scanner_init) (defBody s_Scanner_init) (defScope s_Scanner_init) [] [] (He.ma K (He.ga K ("Scanner" : Str)) ("__init__" : Str)) fd) : Def P w K mg base 1 (He.ma K (He.ga K ("Scanner" : Str)) ("__init__" : Str)) fd ["self", "text"] (sp_Scanner_init K) := by
  refine ⟨F.ok (CX := L2.CX P w) sc_Scanner_init (fun vs H Q E h => ?_) (fun cdv A outer s H vs Q E hr h => ⟨t_Scanner_init K E, ?_, run_Scanner_init T.sc h⟩), F.bindsN fun _ _ _ _ _ _ us hl => match us, hl with | [_, _], _ => rfl, F.kp⟩
  · obtain ⟨_, _, _, rfl, _⟩ := h
    rfl
  · exact (pss_cons (ps_fld (pv 0) (pv 1) rfl)
      (pss_cons (ps_fld (pv 0) pe_int rfl)
      (pss_cons (ps_fld (pv 0) pe_int rfl)
      (pss_one (ps_fld (pv 0) pe_int rfl)))))
theorem ok_Scanner_is_done (T : Txt P w K mg) {fd : FuncData} (F : FunD K ("is_done" : Str) ("Scanner.is_done" : Str) (defArgs s_Scanner_is_done) (defBody s_Scanner_is_done) (defScope s_Scanner_is_done) [] [] (He.ma K (He.ga K ("Scanner" : Str)) ("is_done" : Str)) fd) : Def P w K mg base 1 (He.ma K (He.ga K ("Scanner" : Str)) ("is_done" : Str)) fd ["self"] (sp_Scanner_is_done K) := by
  refine ⟨F.ok (CX := L2.CX P w) sc_Scanner_is_done (fun vs H Q E h => ?_) (fun cdv A outer s H vs Q E hr h => ⟨t_Scanner_is_done K E, ?_, run_Scanner_is_done T.sc h⟩), F.bindsN fun _ _ _ _ _ _ us hl => match us, hl with | [_], _ => rfl, F.kp⟩
  · obtain ⟨_, _, _, _, _, _, rfl, _⟩ := h
    rfl
  · exact (pss_one (ps_ret (pe_cmpR op_eq (pe_fld (pv 0) rfl) (pe_callB call_len_str (by rfl) T.free_len (by decide +kernel) (pa_cons (pe_fld (pv 0) rfl) pa_nil)) (nomark _))))
theorem ok_Scanner_skip_newline (T : Txt P w K mg) {fd : FuncData} (F : FunD K ("skip_newline" : Str) ("Scanner.skip_newline" : Str) (defArgs s_Scanner_skip_newline) (defBody s_Scanner_skip_newline) (defScope s_Scanner_skip_newline) [] [] (He.ma K (He.ga K ("Scanner" : Str)) ("skip_newline" : Str)) fd) : Def P w K mg base 1 (He.ma K (He.ga K ("Scanner" : Str)) ("skip_newline" : Str)) fd ["self"] (sp_Scanner_skip_newline K) := by
  refine ⟨F.ok (CX := L2.CX P w) sc_Scanner_skip_newline (fun vs H Q E h => ?_) (fun cdv A outer s H vs Q E hr h => ⟨t_Scanner_skip_newline K E, ?_, run_Scanner_skip_newline T.sc h⟩), F.bindsN fun _ _ _ _ _ _ us hl => match us, hl with | [_], _ => rfl, F.kp⟩
  · obtain ⟨_, _, _, _, _, _, rfl, _⟩ := h
    rfl
  · exact (pss_cons (ps_fldaug (pv 0) pe_int in_add)
      (pss_cons (ps_fldaug (pv 0) pe_int in_add)
      (pss_one (ps_fld (pv 0) pe_int rfl))))
theorem ok_Scanner_row_end (T : Txt P w K mg) {fd : FuncData} (F : FunD K ("row_end" : Str) ("Scanner.row_end" : Str) (defArgs s_Scanner_row_end) (defBody s_Scanner_row_end) (defScope s_Scanner_row_end) [] [] (He.ma K (He.ga K ("Scanner" : Str)) ("row_end" : Str)) fd) : Def P w K mg base 1 (He.ma K (He.ga K ("Scanner" : Str)) ("row_end" : Str)) fd ["self"] (sp_Scanner_row_end K) := by
  refine ⟨F.ok (CX := L2.CX P w) sc_Scanner_row_end (fun vs H Q E h => ?_) (fun cdv A outer s H vs Q E hr h => ⟨t_Scanner_row_end K E, ?_, run_Scanner_row_end T.sc h⟩), F.bindsN fun _ _ _ _ _ _ us hl => match us, hl with | [_], _ => rfl, F.kp⟩
  · obtain ⟨_, _, _, _, _, _, rfl, _⟩ := h
    rfl
  · exact (pss_cons (ps_set (i := 1) sc_Scanner_row_end.nd rfl (Or.inl rfl) (pe_bm PySem.F.plainAttrs_str PySem.F.slot_str_find PySem.F.type_str_find mt_find3 (pe_fld (pv 0) rfl) (pa_cons pe_str (pa_cons (pe_fld (pv 0) rfl) pa_nil))))
      (pss_cons (ps_if (pt_cmpR op_eq (pv 1) (pe_un un_neg pe_int) (nomark _)) (pss_one (ps_ret (pe_callB call_len_str (by rfl) T.free_len (by decide +kernel) (pa_cons (pe_fld (pv 0) rfl) pa_nil)))) pss_nil)
      (pss_one (ps_ret (pv 1)))))
theorem ok_Scanner_word_end (T : Txt P w K mg) {fd : FuncData} (F : FunD K ("word_end" : Str) ("Scanner.word_end" : Str) (defArgs s_Scanner_word_end) (defBody s_Scanner_word_end) (defScope s_Scanner_word_end) [] [] (He.ma K (He.ga K ("Scanner" : Str)) ("word_end" : Str)) fd) : Def P w K mg base 3 (He.ma K (He.ga K ("Scanner" : Str)) ("word_end" : Str)) fd ["self"] (sp_Scanner_word_end K) := by
  obtain ⟨fd_is_word_part, F_is_word_part⟩ := T.d_is_word_part
  have G_is_word_part := ok_is_word_part (P := P) (w := w) (base := base) T F_is_word_part
  refine ⟨F.ok (CX := L2.CX P w) sc_Scanner_word_end (fun vs H Q E h => ?_) (fun cdv A outer s H vs Q E hr h => ⟨t_Scanner_word_end K E, ?_, run_Scanner_word_end T.sc h⟩), F.bindsN fun _ _ _ _ _ _ us hl => match us, hl with | [_], _ => rfl, F.kp⟩
  · obtain ⟨_, _, _, _, _, _, rfl, _⟩ := h
    rfl
  · exact (pss_cons (ps_set (i := 1) sc_Scanner_word_end.nd rfl (Or.inl rfl) (pe_fld (pv 0) rfl))
      (pss_cons (ps_while (passes_of rfl) (PW.pt (pw_and (pt_cmpR op_lt (pv 1) (pe_callB call_len_str (by rfl) T.free_len (by decide +kernel) (pa_cons (pe_fld (pv 0) rfl) pa_nil)) (nomark _)) (pw_and1 (pt_val (pe_call G_is_word_part.fn (hr.mono (by decide)) rfl T.glo_is_word_part G_is_word_part.kp G_is_word_part.bd .nil (passE (takes_of rfl rfl rfl rfl)) (pa_cons (pe_ix ix_str (pe_fld (pv 0) rfl) (pv 1) (fun _ _ => rfl)) pa_nil)))))) (pss_one (ps_aug (i := 1) sc_Scanner_word_end.nd rfl (Or.inl rfl) pe_int ip_add)))
      (pss_one (ps_ret (pv 1)))))
theorem ok_Scanner_take_to (T : Txt P w K mg) {fd : FuncData} (F : FunD K ("take_to" : Str) ("Scanner.take_to" : Str) (defArgs s_Scanner_take_to) (defBody s_Scanner_take_to) (defScope s_Scanner_take_to) [] [] (He.ma K (He.ga K ("Scanner" : Str)) ("take_to" : Str)) fd) : Def P w K mg base 1 (He.ma K (He.ga K ("Scanner" : Str)) ("take_to" : Str)) fd ["self", "end"] (sp_Scanner_take_to K) := by
  refine ⟨F.ok (CX := L2.CX P w) sc_Scanner_take_to (fun vs H Q E h => ?_) (fun cdv A outer s H vs Q E hr h => ⟨t_Scanner_take_to K E, ?_, run_Scanner_take_to T.sc h⟩), F.bindsN fun _ _ _ _ _ _ us hl => match us, hl with | [_, _], _ => rfl, F.kp⟩
  · obtain ⟨_, _, _, _, _, _, _, rfl, _⟩ := h
    rfl
  · exact (pss_cons (ps_set (i := 2) sc_Scanner_take_to.nd rfl (Or.inl rfl) (pe_slice sl_str (pe_fld (pv 0) rfl) (po_some (pe_fld (pv 0) rfl)) (po_some (pv 1))))
      (pss_cons (ps_fldaug (pv 0) (pe_op op_sub (pv 1) (pe_fld (pv 0) rfl)) in_add)
      (pss_cons (ps_fld (pv 0) (pv 1) rfl)
      (pss_one (ps_ret (pv 2))))))
theorem ok_Scanner_skip_gaps (T : Txt P w K mg) {fd : FuncData} (F : FunD K ("skip_gaps" : Str) ("Scanner.skip_gaps" : Str) (defArgs s_Scanner_skip_gaps) (defBody s_Scanner_skip_gaps) (defScope s_Scanner_skip_gaps) [] [] (He.ma K (He.ga K ("Scanner" : Str)) ("skip_gaps" : Str)) fd) : Def P w K mg base 2 (He.ma K (He.ga K ("Scanner" : Str)) ("skip_gaps" : Str)) fd ["self"] (sp_Scanner_skip_gaps K) := by
  obtain ⟨fd_Scanner_is_done, F_Scanner_is_done⟩ := T.d_Scanner_is_done
  have G_Scanner_is_done := ok_Scanner_is_done (P := P) (w := w) (base := base) T F_Scanner_is_done
  obtain ⟨fd_Scanner_skip_newline, F_Scanner_skip_newline⟩ := T.d_Scanner_skip_newline
  have G_Scanner_skip_newline := ok_Scanner_skip_newline (P := P) (w := w) (base := base) T F_Scanner_skip_newline
  obtain ⟨fd_Scanner_take_to, F_Scanner_take_to⟩ := T.d_Scanner_take_to
  have G_Scanner_take_to := ok_Scanner_take_to (P := P) (w := w) (base := base) T F_Scanner_take_to
  obtain ⟨fd_Scanner_row_end, F_Scanner_row_end⟩ := T.d_Scanner_row_end
  have G_Scanner_row_end := ok_Scanner_row_end (P := P) (w := w) (base := base) T F_Scanner_row_end
  refine ⟨F.ok (CX := L2.CX P w) sc_Scanner_skip_gaps (fun vs H Q E h => ?_) (fun cdv A outer s H vs Q E hr h => ⟨t_Scanner_skip_gaps K E, ?_, run_Scanner_skip_gaps T.sc h⟩), F.bindsN fun _ _ _ _ _ _ us hl => match us, hl with | [_], _ => rfl, F.kp⟩
  · obtain ⟨_, _, _, _, _, _, rfl, _⟩ := h
    rfl
  · exact (pss_one (ps_while (passes_of rfl) (pt_not (pt_val (pe_meth0 (pv 0) T.cls_Scanner T.meth_Scanner_is_done G_Scanner_is_done.fn (hr.mono (by decide)) G_Scanner_is_done.bd .nil (passE (takes_of rfl rfl rfl rfl))))) (pss_cons (ps_set (i := 1) sc_Scanner_skip_gaps.nd rfl (Or.inl rfl) (pe_ix ix_str (pe_fld (pv 0) rfl) (pe_fld (pv 0) rfl) (fun _ _ => rfl)))
      (pss_one (ps_if (pt_cmpR op_eq (pv 1) pe_str (nomark _)) (pss_one (ps_expr (pe_meth0 (pv 0) T.cls_Scanner T.meth_Scanner_skip_newline G_Scanner_skip_newline.fn (hr.mono (by decide)) G_Scanner_skip_newline.bd .nil (passE (takes_of rfl rfl rfl rfl))))) (pss_one (ps_if (pt_cmpR op_eq (pv 1) pe_str (nomark _)) (pss_one (ps_expr (pe_meth (pv 0) T.cls_Scanner T.meth_Scanner_take_to G_Scanner_take_to.fn (hr.mono (by decide)) G_Scanner_take_to.bd .nil (passE (takes_of rfl rfl rfl rfl)) (pa_cons (pe_op op_add (pe_fld (pv 0) rfl) pe_int) pa_nil)))) (pss_one (ps_if (pt_cmpR op_eq (pv 1) pe_str (nomark _)) (pss_one (ps_expr (pe_meth (pv 0) T.cls_Scanner T.meth_Scanner_take_to G_Scanner_take_to.fn (hr.mono (by decide)) G_Scanner_take_to.bd .nil (passE (takes_of rfl rfl rfl rfl)) (pa_cons (pe_meth0 (pv 0) T.cls_Scanner T.meth_Scanner_row_end G_Scanner_row_end.fn (hr.mono (by decide)) G_Scanner_row_end.bd .nil (passE (takes_of rfl rfl rfl rfl))) pa_nil)))) (pss_one ps_retN))))))))))
theorem ok_Scanner_take_sign (T : Txt P w K mg) {fd : FuncData} (F : FunD K ("take_sign" : Str) ("Scanner.take_sign" : Str) (defArgs s_Scanner_take_sign) (defBody s_Scanner_take_sign) (defScope s_Scanner_take_sign) [] [] (He.ma K (He.ga K ("Scanner" : Str)) ("take_sign" : Str)) fd) : Def P w K mg base 2 (He.ma K (He.ga K ("Scanner" : Str)) ("take_sign" : Str)) fd ["self"] (sp_Scanner_take_sign K (EW1 K)) := by
  obtain ⟨fd_Scanner_take_to, F_Scanner_take_to⟩ := T.d_Scanner_take_to
  have G_Scanner_take_to := ok_Scanner_take_to (P := P) (w := w) (base := base) T F_Scanner_take_to
  refine ⟨F.ok (CX := L2.CX P w) sc_Scanner_take_sign (fun vs H Q E h => ?_) (fun cdv A outer s H vs Q E hr h => ⟨t_Scanner_take_sign K (EW1 K) E (tRaiseErr (He.ga K ("BadCharacter" : Str)) (fun cls d _ H => E cls d H) (tCons (tFld K (tVar 0) ("row" : Str)) (tCons (tFld K (tVar 0) ("column" : Str)) tNil))), ?_, run_Scanner_take_sign T.sc T.lg T.sh (hz_sign T.sc) h⟩), F.bindsN fun _ _ _ _ _ _ us hl => match us, hl with | [_], _ => rfl, F.kp⟩
  · obtain ⟨_, _, _, _, _, _, _, _, rfl, _⟩ := h
    rfl
  · exact (pss_cons (ps_set (i := 1) sc_Scanner_take_sign.nd rfl (Or.inl rfl) (pe_slice sl_str (pe_fld (pv 0) rfl) (po_some (pe_fld (pv 0) rfl)) (po_some (pe_op op_add (pe_fld (pv 0) rfl) pe_int))))
      (pss_cons (ps_if (pt_cmpR op_in_seq (pv 1) (pe_glob rfl T.glo_LONG_SIGNS rfl) (by with_unfolding_all rfl)) (pss_one (ps_ret (pe_meth (pv 0) T.cls_Scanner T.meth_Scanner_take_to G_Scanner_take_to.fn (hr.mono (by decide)) G_Scanner_take_to.bd .nil (passE (takes_of rfl rfl rfl rfl)) (pa_cons (pe_op op_add (pe_fld (pv 0) rfl) pe_int) pa_nil)))) pss_nil)
      (pss_cons (ps_if (pt_cmpR op_in_seq (pe_ix ix_str (pe_fld (pv 0) rfl) (pe_fld (pv 0) rfl) (fun _ _ => rfl)) (pe_glob rfl T.glo_SHORT_SIGNS rfl) (by with_unfolding_all rfl)) (pss_one (ps_ret (pe_meth (pv 0) T.cls_Scanner T.meth_Scanner_take_to G_Scanner_take_to.fn (hr.mono (by decide)) G_Scanner_take_to.bd .nil (passE (takes_of rfl rfl rfl rfl)) (pa_cons (pe_op op_add (pe_fld (pv 0) rfl) pe_int) pa_nil)))) pss_nil)
      (pss_one (ps_err rfl T.err_BadCharacter hr (takes_of rfl rfl rfl rfl) T.glo_BadCharacter (pa_cons (pe_fld (pv 0) rfl) (pa_cons (pe_fld (pv 0) rfl) pa_nil)))))))
theorem ok_Scanner_take_token (T : Txt P w K mg) {fd : FuncData} (F : FunD K ("take_token" : Str) ("Scanner.take_token" : Str) (defArgs s_Scanner_take_token) (defBody s_Scanner_take_token) (defScope s_Scanner_take_token) [] [] (He.ma K (He.ga K ("Scanner" : Str)) ("take_token" : Str)) fd) : Def P w K mg base 4 (He.ma K (He.ga K ("Scanner" : Str)) ("take_token" : Str)) fd ["self"] (sp_Scanner_take_token K (EW1 K)) := by
  obtain ⟨fd_is_letter, F_is_letter⟩ := T.d_is_letter
  have G_is_letter := ok_is_letter (P := P) (w := w) (base := base) T F_is_letter
  obtain ⟨fd_Scanner_take_to, F_Scanner_take_to⟩ := T.d_Scanner_take_to
  have G_Scanner_take_to := ok_Scanner_take_to (P := P) (w := w) (base := base) T F_Scanner_take_to
  obtain ⟨fd_Scanner_word_end, F_Scanner_word_end⟩ := T.d_Scanner_word_end
  have G_Scanner_word_end := ok_Scanner_word_end (P := P) (w := w) (base := base) T F_Scanner_word_end
  obtain ⟨fd_word_kind, F_word_kind⟩ := T.d_word_kind
  have G_word_kind := ok_word_kind (P := P) (w := w) (base := base) T F_word_kind
  obtain ⟨fd_is_number, F_is_number⟩ := T.d_is_number
  have G_is_number := ok_is_number (P := P) (w := w) (base := base) T F_is_number
  obtain ⟨fd_Scanner_take_sign, F_Scanner_take_sign⟩ := T.d_Scanner_take_sign
  have G_Scanner_take_sign := ok_Scanner_take_sign (P := P) (w := w) (base := base) T F_Scanner_take_sign
  obtain ⟨tk_DIGITS, i_DIGITS⟩ := T.str_DIGITS
  refine ⟨F.ok (CX := L2.CX P w) sc_Scanner_take_token (fun vs H Q E h => ?_) (fun cdv A outer s H vs Q E hr h => ⟨t_Scanner_take_token K (EW1 K) E (tRaiseErr (He.ga K ("BadNumber" : Str)) (fun cls d _ H => E cls d H) (tCons (tVar 1) (tCons (tVar 2) tNil))), ?_, run_Scanner_take_token T.sc hz_token h⟩), F.bindsN fun _ _ _ _ _ _ us hl => match us, hl with | [_], _ => rfl, F.kp⟩
  · obtain ⟨_, _, _, _, _, _, _, _, rfl, _⟩ := h
    rfl
  · exact (pss_cons (ps_set (i := 1) sc_Scanner_take_token.nd rfl (Or.inl rfl) (pe_fld (pv 0) rfl))
      (pss_cons (ps_set (i := 2) sc_Scanner_take_token.nd rfl (Or.inl rfl) (pe_fld (pv 0) rfl))
      (pss_cons (ps_set (i := 3) sc_Scanner_take_token.nd rfl (Or.inl rfl) (pe_ix ix_str (pe_fld (pv 0) rfl) (pe_fld (pv 0) rfl) (fun _ _ => rfl)))
      (pss_cons (ps_if (pt_val (pe_call G_is_letter.fn (hr.mono (by decide)) rfl T.glo_is_letter G_is_letter.kp G_is_letter.bd .nil (passE (takes_of rfl rfl rfl rfl)) (pa_cons (pv 3) pa_nil))) (pss_cons (ps_set (i := 4) sc_Scanner_take_token.nd rfl (Or.inl rfl) (pe_meth (pv 0) T.cls_Scanner T.meth_Scanner_take_to G_Scanner_take_to.fn (hr.mono (by decide)) G_Scanner_take_to.bd .nil (passE (takes_of rfl rfl rfl rfl)) (pa_cons (pe_meth0 (pv 0) T.cls_Scanner T.meth_Scanner_word_end G_Scanner_word_end.fn (hr.mono (by decide)) G_Scanner_word_end.bd .nil (passE (takes_of rfl rfl rfl rfl))) pa_nil)))
      (pss_one (ps_ret (pe_tup (pa_cons (pe_call G_word_kind.fn (hr.mono (by decide)) rfl T.glo_word_kind G_word_kind.kp G_word_kind.bd .nil (passE (takes_of rfl rfl rfl rfl)) (pa_cons (pv 4) pa_nil)) (pa_cons (pv 4) (pa_cons (pv 1) (pa_cons (pv 2) pa_nil)))))))) pss_nil)
      (pss_cons (ps_if (pt_cmpR op_in_sign (pv 3) (pe_glob rfl i_DIGITS ⟨_, rfl⟩) (by with_unfolding_all rfl)) (pss_cons (ps_set (i := 4) sc_Scanner_take_token.nd rfl (Or.inl rfl) (pe_meth (pv 0) T.cls_Scanner T.meth_Scanner_take_to G_Scanner_take_to.fn (hr.mono (by decide)) G_Scanner_take_to.bd .nil (passE (takes_of rfl rfl rfl rfl)) (pa_cons (pe_meth0 (pv 0) T.cls_Scanner T.meth_Scanner_word_end G_Scanner_word_end.fn (hr.mono (by decide)) G_Scanner_word_end.bd .nil (passE (takes_of rfl rfl rfl rfl))) pa_nil)))
      (pss_cons (ps_if (pt_not (pt_val (pe_call G_is_number.fn (hr.mono (by decide)) rfl T.glo_is_number G_is_number.kp G_is_number.bd .nil (passE (takes_of rfl rfl rfl rfl)) (pa_cons (pv 4) pa_nil)))) (pss_one (ps_err rfl T.err_BadNumber hr (takes_of rfl rfl rfl rfl) T.glo_BadNumber (pa_cons (pv 1) (pa_cons (pv 2) pa_nil)))) pss_nil)
      (pss_one (ps_ret (pe_tup (pa_cons pe_str (pa_cons (pv 4) (pa_cons (pv 1) (pa_cons (pv 2) pa_nil))))))))) pss_nil)
      (pss_one (ps_ret (pe_tup (pa_cons pe_str (pa_cons (pe_meth0 (pv 0) T.cls_Scanner T.meth_Scanner_take_sign G_Scanner_take_sign.fn (hr.mono (by decide)) G_Scanner_take_sign.bd .nil (passE (takes_of rfl rfl rfl rfl))) (pa_cons (pv 1) (pa_cons (pv 2) pa_nil))))))))))))
theorem ok_tokens (T : Txt P w K mg) {fd : FuncData} (F : FunD K ("tokens" : Str) ("tokens" : Str) (defArgs s_tokens) (defBody s_tokens) (defScope s_tokens) [] [] (He.ga K ("tokens" : Str)) fd) : Def P w K mg base 5 (He.ga K ("tokens" : Str)) fd ["text"] (sp_tokens K (EW1 K)) := by
  obtain ⟨fd_Scanner_init, F_Scanner_init⟩ := T.d_Scanner_init
  have G_Scanner_init := ok_Scanner_init (P := P) (w := w) (base := base) T F_Scanner_init
  obtain ⟨fd_Scanner_skip_gaps, F_Scanner_skip_gaps⟩ := T.d_Scanner_skip_gaps
  have G_Scanner_skip_gaps := ok_Scanner_skip_gaps (P := P) (w := w) (base := base) T F_Scanner_skip_gaps
  obtain ⟨fd_Scanner_is_done, F_Scanner_is_done⟩ := T.d_Scanner_is_done
  have G_Scanner_is_done := ok_Scanner_is_done (P := P) (w := w) (base := base) T F_Scanner_is_done
  obtain ⟨fd_Scanner_take_token, F_Scanner_take_token⟩ := T.d_Scanner_take_token
  have G_Scanner_take_token := ok_Scanner_take_token (P := P) (w := w) (base := base) T F_Scanner_take_token
  refine ⟨F.ok (CX := L2.CX P w) sc_tokens (fun vs H Q E h => ?_) (fun cdv A outer s H vs Q E hr h => ⟨t_tokens K (EW1 K) E, ?_, run_tokens T.sc h⟩), F.bindsN fun _ _ _ _ _ _ us hl => match us, hl with | [_], _ => rfl, F.kp⟩
  · obtain ⟨_, rfl, _⟩ := h
    rfl
  · exact (pss_cons (ps_set (i := 1) sc_tokens.nd rfl (Or.inl rfl) (pe_make T.mkr_Scanner G_Scanner_init.fn (hr.mono (by decide)) rfl T.glo_Scanner G_Scanner_init.bd .nil (passE (takes_of rfl rfl rfl rfl)) (pa_cons (pv 0) pa_nil)))
      (pss_cons (ps_set (i := 2) sc_tokens.nd rfl (Or.inl rfl) (pe_lst pa_nil))
      (pss_cons (ps_expr (pe_meth0 (pv 1) T.cls_Scanner T.meth_Scanner_skip_gaps G_Scanner_skip_gaps.fn (hr.mono (by decide)) G_Scanner_skip_gaps.bd .nil (passE (takes_of rfl rfl rfl rfl))))
      (pss_cons (ps_while (passes_of rfl) (pt_not (pt_val (pe_meth0 (pv 1) T.cls_Scanner T.meth_Scanner_is_done G_Scanner_is_done.fn (hr.mono (by decide)) G_Scanner_is_done.bd .nil (passE (takes_of rfl rfl rfl rfl))))) (pss_cons (ps_expr (pe_bm PySem.F.plainAttrs_list PySem.F.slot_list_append PySem.F.type_list_append mt_append (pv 2) (pa_cons (pe_meth0 (pv 1) T.cls_Scanner T.meth_Scanner_take_token G_Scanner_take_token.fn (hr.mono (by decide)) G_Scanner_take_token.bd .nil (passE (takes_of rfl rfl rfl rfl))) pa_nil)))
      (pss_one (ps_expr (pe_meth0 (pv 1) T.cls_Scanner T.meth_Scanner_skip_gaps G_Scanner_skip_gaps.fn (hr.mono (by decide)) G_Scanner_skip_gaps.bd .nil (passE (takes_of rfl rfl rfl rfl)))))))
      (pss_cons (ps_expr (pe_bm PySem.F.plainAttrs_list PySem.F.slot_list_append PySem.F.type_list_append mt_append (pv 2) (pa_cons (pe_tup (pa_cons pe_str (pa_cons pe_str (pa_cons (pe_fld (pv 1) rfl) (pa_cons (pe_fld (pv 1) rfl) pa_nil))))) pa_nil)))
      (pss_one (ps_ret (pv 2))))))))
theorem ok_l_good (T : Txt P w K mg) {fd : FuncData} (F : FunD K ("_law_good" : Str) ("_law_good" : Str) (defArgs s_l_good) (defBody s_l_good) (defScope s_l_good) [] [] (He.ga K ("_law_good" : Str)) fd) : Def P w K mg base 3 (He.ga K ("_law_good" : Str)) fd ["draws"] (sp_l_good K) := by
  obtain ⟨fd_l_pick, F_l_pick⟩ := T.d_l_pick
  have G_l_pick := ok_l_pick (P := P) (w := w) (base := base) T F_l_pick
  refine ⟨F.ok (CX := L2.CX P w) sc_l_good (fun vs H Q E h => ?_) (fun cdv A outer s H vs Q E hr h => ⟨t_l_good K E, ?_, run_l_good h⟩), F.bindsN fun _ _ _ _ _ _ us hl => match us, hl with | [_], _ => rfl, F.kp⟩
  · obtain ⟨_, _, rfl, _⟩ := h
    rfl
  · exact (pss_cons (ps_set (i := 1) sc_l_good.nd rfl (Or.inl rfl) (pe_lst (pa_cons pe_str (pa_cons pe_str (pa_cons pe_str (pa_cons pe_str (pa_cons pe_str (pa_cons pe_str (pa_cons pe_str (pa_cons pe_str (pa_cons pe_str (pa_cons pe_str (pa_cons pe_str (pa_cons pe_str (pa_cons pe_str (pa_cons pe_str (pa_cons pe_str (pa_cons pe_str pa_nil))))))))))))))))))
      (pss_one (ps_ret (pe_ix ix_list (pv 1) (pe_call G_l_pick.fn (hr.mono (by decide)) rfl T.glo__law_pick G_l_pick.kp G_l_pick.bd .nil (passE (takes_of rfl rfl rfl rfl)) (pa_cons (pv 0) (pa_cons pe_int pa_nil))) (fun _ _ => rfl)))))
theorem ok_l_bad (T : Txt P w K mg) {fd : FuncData} (F : FunD K ("_law_bad" : Str) ("_law_bad" : Str) (defArgs s_l_bad) (defBody s_l_bad) (defScope s_l_bad) [] [] (He.ga K ("_law_bad" : Str)) fd) : Def P w K mg base 3 (He.ga K ("_law_bad" : Str)) fd ["draws"] (sp_l_bad K) := by
  obtain ⟨fd_l_pick, F_l_pick⟩ := T.d_l_pick
  have G_l_pick := ok_l_pick (P := P) (w := w) (base := base) T F_l_pick
  refine ⟨F.ok (CX := L2.CX P w) sc_l_bad (fun vs H Q E h => ?_) (fun cdv A outer s H vs Q E hr h => ⟨t_l_bad K E, ?_, run_l_bad h⟩), F.bindsN fun _ _ _ _ _ _ us hl => match us, hl with | [_], _ => rfl, F.kp⟩
  · obtain ⟨_, _, rfl, _⟩ := h
    rfl
  · exact (pss_cons (ps_if (pt_cmpR op_eq (pe_call G_l_pick.fn (hr.mono (by decide)) rfl T.glo__law_pick G_l_pick.kp G_l_pick.bd .nil (passE (takes_of rfl rfl rfl rfl)) (pa_cons (pv 0) (pa_cons pe_int pa_nil))) pe_int (nomark _)) (pss_cons (ps_set (i := 1) sc_l_bad.nd rfl (Or.inl rfl) (pe_lst (pa_cons pe_str (pa_cons pe_str (pa_cons pe_str (pa_cons pe_str (pa_cons pe_str (pa_cons pe_str (pa_cons pe_str (pa_cons pe_str (pa_cons pe_str (pa_cons pe_str (pa_cons pe_str (pa_cons pe_str (pa_cons pe_str (pa_cons pe_str (pa_cons pe_str (pa_cons pe_str pa_nil))))))))))))))))))
      (pss_one (ps_ret (pe_tup (pa_cons pe_str (pa_cons (pe_ix ix_list (pv 1) (pe_call G_l_pick.fn (hr.mono (by decide)) rfl T.glo__law_pick G_l_pick.kp G_l_pick.bd .nil (passE (takes_of rfl rfl rfl rfl)) (pa_cons (pv 0) (pa_cons pe_int pa_nil))) (fun _ _ => rfl)) pa_nil)))))) pss_nil)
      (pss_cons (ps_set (i := 2) sc_l_bad.nd rfl (Or.inl rfl) (pe_lst (pa_cons pe_str (pa_cons pe_str (pa_cons pe_str (pa_cons pe_str (pa_cons pe_str (pa_cons pe_str (pa_cons pe_str (pa_cons pe_str (pa_cons pe_str (pa_cons pe_str (pa_cons pe_str pa_nil)))))))))))))
      (pss_one (ps_ret (pe_tup (pa_cons pe_str (pa_cons (pe_ix ix_list (pv 2) (pe_call G_l_pick.fn (hr.mono (by decide)) rfl T.glo__law_pick G_l_pick.kp G_l_pick.bd .nil (passE (takes_of rfl rfl rfl rfl)) (pa_cons (pv 0) (pa_cons pe_int pa_nil))) (fun _ _ => rfl)) pa_nil)))))))
theorem ok_l_between (T : Txt P w K mg) {fd : FuncData} (F : FunD K ("_law_between" : Str) ("_law_between" : Str) (defArgs s_l_between) (defBody s_l_between) (defScope s_l_between) [] [] (He.ga K ("_law_between" : Str)) fd) : Def P w K mg base 3 (He.ga K ("_law_between" : Str)) fd ["draws"] (sp_l_between K) := by
  obtain ⟨fd_l_pick, F_l_pick⟩ := T.d_l_pick
  have G_l_pick := ok_l_pick (P := P) (w := w) (base := base) T F_l_pick
  refine ⟨F.ok (CX := L2.CX P w) sc_l_between (fun vs H Q E h => ?_) (fun cdv A outer s H vs Q E hr h => ⟨t_l_between K E, ?_, run_l_between h⟩), F.bindsN fun _ _ _ _ _ _ us hl => match us, hl with | [_], _ => rfl, F.kp⟩
  · obtain ⟨_, _, rfl, _⟩ := h
    rfl
  · exact (pss_one (ps_ret (pe_ix ix_list (pe_lst (pa_cons pe_str (pa_cons pe_str (pa_cons pe_str (pa_cons pe_str (pa_cons pe_str pa_nil)))))) (pe_call G_l_pick.fn (hr.mono (by decide)) rfl T.glo__law_pick G_l_pick.kp G_l_pick.bd .nil (passE (takes_of rfl rfl rfl rfl)) (pa_cons (pv 0) (pa_cons pe_int pa_nil))) (fun _ _ => rfl))))
theorem ok_l_told (T : Txt P w K mg) {fd : FuncData} (F : FunD K ("_law_told" : Str) ("_law_told" : Str) (defArgs s_l_told) (defBody s_l_told) (defScope s_l_told) [] [] (He.ga K ("_law_told" : Str)) fd) : Def P w K mg base 6 (He.ga K ("_law_told" : Str)) fd ["text"] (sp_l_told K) := by
  obtain ⟨fd_tokens, F_tokens⟩ := T.d_tokens
  have G_tokens := ok_tokens (P := P) (w := w) (base := base) T F_tokens
  refine ⟨F.ok (CX := L2.CX P w) sc_l_told (fun vs H Q E h => ?_) (fun cdv A outer s H vs Q E hr h => ⟨t_l_told K E, ?_, run_l_told T.kitF h⟩), F.bindsN fun _ _ _ _ _ _ us hl => match us, hl with | [_], _ => rfl, F.kp⟩
  · obtain ⟨_, rfl, _⟩ := h
    rfl
  · exact (pss_one (ps_try_named rfl rfl sc_l_told.nd takes0 (fun W pn xe tk _ => (pss_one (ps_ret (pe_tup (pa_cons pe_str (pa_cons (pe_callB call_len (by rfl) T.free_len (by decide +kernel) (pa_cons (pe_callS G_tokens.fn (hr.mono (by decide)) rfl T.glo_tokens G_tokens.kp G_tokens.bd (fun σ => passAt tk σ) (pa_cons (pv 0) pa_nil)) pa_nil)) pa_nil)))))) (.cons ⟨rfl, by decide, Or.inl T.glo_BadCharacter⟩ rfl rfl (fun xa oe xc xd pn hz hf => (pss_one (ps_ret (pe_tup (pa_cons pe_str (pa_cons (pe_xf (xf_of T.exc_BadCharacter) T.noat_BadCharacter_row hz hf (pv 1)) (pa_cons (pe_xf (xf_of T.exc_BadCharacter) T.noat_BadCharacter_column hz hf (pv 1)) (pa_cons (pe_callB (call_isXT hz hf) (by rfl) T.free_isinstance (by decide +kernel) (pa_cons (pv 1) (pa_cons (pe_tup (pa_cons (pe_glob rfl T.glo_BadNumber rfl) (pa_cons (pe_glob rfl T.glo_Unexpected rfl) pa_nil))) pa_nil))) (pa_cons (pe_callB (call_isX hz hf) (by rfl) T.free_isinstance (by decide +kernel) (pa_cons (pv 1) (pa_cons (pe_glob rfl T.glo_TextError rfl) pa_nil))) pa_nil))))))))) (.cons ⟨rfl, by decide, Or.inl T.glo_BadNumber⟩ rfl rfl (fun xa oe xc xd pn hz hf => (pss_one (ps_ret (pe_tup (pa_cons pe_str (pa_cons (pe_xf (xf_of T.exc_BadNumber) T.noat_BadNumber_row hz hf (pv 1)) (pa_cons (pe_xf (xf_of T.exc_BadNumber) T.noat_BadNumber_column hz hf (pv 1)) (pa_cons (pe_callB (call_isX hz hf) (by rfl) T.free_isinstance (by decide +kernel) (pa_cons (pv 1) (pa_cons (pe_glob rfl T.glo_Unexpected rfl) pa_nil))) (pa_cons (pe_and (pe_callB (call_isX hz hf) (by rfl) T.free_isinstance (by decide +kernel) (pa_cons (pv 1) (pa_cons (pe_glob rfl T.glo_TextError rfl) pa_nil))) (pe_one (pe_callB (call_isX hz hf) (by rfl) T.free_isinstance (by decide +kernel) (pa_cons (pv 1) (pa_cons (pe_glob rfl T.glo_AimError rfl) pa_nil))))) pa_nil))))))))) .nil))))
theorem ok_law (T : Txt P w K mg) {fd : FuncData} (F : FunD K ("law" : Str) ("law" : Str) (defArgs s_law) (defBody s_law) (defScope s_law) [] [] (He.ga K ("law" : Str)) fd) : Def P w K mg base 7 (He.ga K ("law" : Str)) fd ["script"] (sp_law K) := by
  obtain ⟨fd_l_stream, F_l_stream⟩ := T.d_l_stream
  have G_l_stream := ok_l_stream (P := P) (w := w) (base := base) T F_l_stream
  obtain ⟨fd_l_pick, F_l_pick⟩ := T.d_l_pick
  have G_l_pick := ok_l_pick (P := P) (w := w) (base := base) T F_l_pick
  obtain ⟨fd_l_good, F_l_good⟩ := T.d_l_good
  have G_l_good := ok_l_good (P := P) (w := w) (base := base) T F_l_good
  obtain ⟨fd_l_between, F_l_between⟩ := T.d_l_between
  have G_l_between := ok_l_between (P := P) (w := w) (base := base) T F_l_between
  obtain ⟨fd_l_told, F_l_told⟩ := T.d_l_told
  have G_l_told := ok_l_told (P := P) (w := w) (base := base) T F_l_told
  obtain ⟨fd_l_bad, F_l_bad⟩ := T.d_l_bad
  have G_l_bad := ok_l_bad (P := P) (w := w) (base := base) T F_l_bad
  refine ⟨F.ok (CX := L2.CX P w) sc_law (fun vs H Q E h => ?_) (fun cdv A outer s H vs Q E hr h => ⟨t_law K E, ?_, run_law h⟩), F.bindsN fun _ _ _ _ _ _ us hl => match us, hl with | [_], _ => rfl, F.kp⟩
  · obtain ⟨_, _, rfl, _⟩ := h
    rfl
  · exact (pss_cons (ps_set (i := 1) sc_law.nd rfl (Or.inl rfl) (pe_call G_l_stream.fn (hr.mono (by decide)) rfl T.glo__law_stream G_l_stream.kp G_l_stream.bd .nil (passE (takes_of rfl rfl rfl rfl)) (pa_cons (pv 0) (pa_cons pe_int pa_nil))))
      (pss_cons (ps_set (i := 2) sc_law.nd rfl (Or.inl rfl) pe_str)
      (pss_cons (ps_set (i := 3) sc_law.nd rfl (Or.inl rfl) (pe_call G_l_pick.fn (hr.mono (by decide)) rfl T.glo__law_pick G_l_pick.kp G_l_pick.bd .nil (passE (takes_of rfl rfl rfl rfl)) (pa_cons (pv 1) (pa_cons pe_int pa_nil))))
      (pss_cons (ps_for (passes_of rfl) rfl (pi_range1 (by rfl) T.free_range (pa_cons (pv 3) pa_nil)) (pg_name (i := 4) sc_law.nd rfl (Or.inl rfl)) (pss_one (ps_set (i := 2) sc_law.nd rfl (Or.inl rfl) (pe_op op_add_str (pe_op op_add_str (pv 2) (pe_call G_l_good.fn (hr.mono (by decide)) rfl T.glo__law_good G_l_good.kp G_l_good.bd .nil (passE (takes_of rfl rfl rfl rfl)) (pa_cons (pv 1) pa_nil))) (pe_call G_l_between.fn (hr.mono (by decide)) rfl T.glo__law_between G_l_between.kp G_l_between.bd .nil (passE (takes_of rfl rfl rfl rfl)) (pa_cons (pv 1) pa_nil))))))
      (pss_cons (ps_if (pt_cmpR (op_neD hr.units) (pe_call G_l_told.fn (hr.mono (by decide)) rfl T.glo__law_told G_l_told.kp G_l_told.bd .nil (passE (takes_of rfl rfl rfl rfl)) (pa_cons (pv 2) pa_nil)) (pe_tup (pa_cons pe_str (pa_cons (pe_op op_add (pv 3) pe_int) pa_nil))) (nomark _)) (pss_one (ps_ret pe_bl)) pss_nil)
      (pss_cons (ps_for (passes_of rfl) rfl (pi_range1 (by rfl) T.free_range (pa_cons pe_int pa_nil)) (pg_name (i := 5) sc_law.nd rfl (Or.inl rfl)) (pss_cons (ps_asg (pe_call G_l_bad.fn (hr.mono (by decide)) rfl T.glo__law_bad G_l_bad.kp G_l_bad.bd .nil (passE (takes_of rfl rfl rfl rfl)) (pa_cons (pv 1) pa_nil)) (pg_tup rfl (pgs_cons (pg_name (i := 6) sc_law.nd rfl (Or.inl rfl)) (pgs_cons (pg_name (i := 7) sc_law.nd rfl (Or.inl rfl)) pgs_nil))))
      (pss_cons (ps_set (i := 8) sc_law.nd rfl (Or.inl rfl) (pe_op op_add (pe_bm PySem.F.plainAttrs_str PySem.F.slot_str_count PySem.F.type_str_count mt_count (pv 2) (pa_cons pe_str pa_nil)) pe_int))
      (pss_cons (ps_set (i := 9) sc_law.nd rfl (Or.inl rfl) (pe_op op_sub (pe_callB call_len_str (by rfl) T.free_len (by decide +kernel) (pa_cons (pv 2) pa_nil)) (pe_bm PySem.F.plainAttrs_str PySem.F.slot_str_rfind PySem.F.type_str_rfind mt_rfind (pv 2) (pa_cons pe_str pa_nil))))
      (pss_cons (ps_set (i := 10) sc_law.nd rfl (Or.inl rfl) pe_str)
      (pss_cons (ps_for (passes_of rfl) rfl (pi_range1 (by rfl) T.free_range (pa_cons (pe_call G_l_pick.fn (hr.mono (by decide)) rfl T.glo__law_pick G_l_pick.kp G_l_pick.bd .nil (passE (takes_of rfl rfl rfl rfl)) (pa_cons (pv 1) (pa_cons pe_int pa_nil))) pa_nil)) (pg_name (i := 4) sc_law.nd rfl (Or.inl rfl)) (pss_one (ps_set (i := 10) sc_law.nd rfl (Or.inl rfl) (pe_op op_add_str (pe_op op_add_str (pv 10) (pe_ix ix_list (pe_lst (pa_cons pe_str (pa_cons pe_str pa_nil))) (pe_call G_l_pick.fn (hr.mono (by decide)) rfl T.glo__law_pick G_l_pick.kp G_l_pick.bd .nil (passE (takes_of rfl rfl rfl rfl)) (pa_cons (pv 1) (pa_cons pe_int pa_nil))) (fun _ _ => rfl))) (pe_ix ix_list (pe_lst (pa_cons (pe_call G_l_good.fn (hr.mono (by decide)) rfl T.glo__law_good G_l_good.kp G_l_good.bd .nil (passE (takes_of rfl rfl rfl rfl)) (pa_cons (pv 1) pa_nil)) (pa_cons pe_str (pa_cons pe_str (pa_cons pe_str pa_nil))))) (pe_call G_l_pick.fn (hr.mono (by decide)) rfl T.glo__law_pick G_l_pick.kp G_l_pick.bd .nil (passE (takes_of rfl rfl rfl rfl)) (pa_cons (pv 1) (pa_cons pe_int pa_nil))) (fun _ _ => rfl))))))
      (pss_one (ps_if (pt_cmpR (op_neD hr.units) (pe_call G_l_told.fn (hr.mono (by decide)) rfl T.glo__law_told G_l_told.kp G_l_told.bd .nil (passE (takes_of rfl rfl rfl rfl)) (pa_cons (pe_op op_add_str (pe_op op_add_str (pv 2) (pv 7)) (pv 10)) pa_nil)) (pe_tup (pa_cons (pv 6) (pa_cons (pv 8) (pa_cons (pv 9) (pa_cons pe_bl (pa_cons pe_bl pa_nil)))))) (nomark _)) (pss_one (ps_ret pe_bl)) pss_nil))))))))
      (pss_one (ps_ret pe_bl))))))))
end
def fn : List He.DefD := [⟨(("_law_mix" : Str), none), ("_law_mix" : Str), ("_law_mix" : Str), defArgs s_l_mix, defBody s_l_mix, defScope s_l_mix, [], []⟩,
  ⟨(("_law_pick" : Str), none), ("_law_pick" : Str), ("_law_pick" : Str), defArgs s_l_pick, defBody s_l_pick, defScope s_l_pick, [], []⟩,
  ⟨(("_law_stream" : Str), none), ("_law_stream" : Str), ("_law_stream" : Str), defArgs s_l_stream, defBody s_l_stream, defScope s_l_stream, [], []⟩,
  ⟨(("is_letter" : Str), none), ("is_letter" : Str), ("is_letter" : Str), defArgs s_is_letter, defBody s_is_letter, defScope s_is_letter, [], []⟩,
  ⟨(("is_word_part" : Str), none), ("is_word_part" : Str), ("is_word_part" : Str), defArgs s_is_word_part, defBody s_is_word_part, defScope s_is_word_part, [], []⟩,
  ⟨(("is_number" : Str), none), ("is_number" : Str), ("is_number" : Str), defArgs s_is_number, defBody s_is_number, defScope s_is_number, [], []⟩,
  ⟨(("word_kind" : Str), none), ("word_kind" : Str), ("word_kind" : Str), defArgs s_word_kind, defBody s_word_kind, defScope s_word_kind, [], []⟩,
  ⟨(("Scanner" : Str), some ("__init__" : Str)), ("__init__" : Str), ("Scanner.__init__" : Str), defArgs s_Scanner_init, defBody s_Scanner_init, defScope s_Scanner_init, [], []⟩,
  ⟨(("Scanner" : Str), some ("is_done" : Str)), ("is_done" : Str), ("Scanner.is_done" : Str), defArgs s_Scanner_is_done, defBody s_Scanner_is_done, defScope s_Scanner_is_done, [], []⟩,
  ⟨(("Scanner" : Str), some ("skip_newline" : Str)), ("skip_newline" : Str), ("Scanner.skip_newline" : Str), defArgs s_Scanner_skip_newline, defBody s_Scanner_skip_newline, defScope s_Scanner_skip_newline, [], []⟩,
  ⟨(("Scanner" : Str), some ("row_end" : Str)), ("row_end" : Str), ("Scanner.row_end" : Str), defArgs s_Scanner_row_end, defBody s_Scanner_row_end, defScope s_Scanner_row_end, [], []⟩,
  ⟨(("Scanner" : Str), some ("word_end" : Str)), ("word_end" : Str), ("Scanner.word_end" : Str), defArgs s_Scanner_word_end, defBody s_Scanner_word_end, defScope s_Scanner_word_end, [], []⟩,
  ⟨(("Scanner" : Str), some ("take_to" : Str)), ("take_to" : Str), ("Scanner.take_to" : Str), defArgs s_Scanner_take_to, defBody s_Scanner_take_to, defScope s_Scanner_take_to, [], []⟩,
  ⟨(("Scanner" : Str), some ("skip_gaps" : Str)), ("skip_gaps" : Str), ("Scanner.skip_gaps" : Str), defArgs s_Scanner_skip_gaps, defBody s_Scanner_skip_gaps, defScope s_Scanner_skip_gaps, [], []⟩,
  ⟨(("Scanner" : Str), some ("take_sign" : Str)), ("take_sign" : Str), ("Scanner.take_sign" : Str), defArgs s_Scanner_take_sign, defBody s_Scanner_take_sign, defScope s_Scanner_take_sign, [], []⟩,
  ⟨(("Scanner" : Str), some ("take_token" : Str)), ("take_token" : Str), ("Scanner.take_token" : Str), defArgs s_Scanner_take_token, defBody s_Scanner_take_token, defScope s_Scanner_take_token, [], []⟩,
  ⟨(("tokens" : Str), none), ("tokens" : Str), ("tokens" : Str), defArgs s_tokens, defBody s_tokens, defScope s_tokens, [], []⟩,
  ⟨(("_law_good" : Str), none), ("_law_good" : Str), ("_law_good" : Str), defArgs s_l_good, defBody s_l_good, defScope s_l_good, [], []⟩,
  ⟨(("_law_bad" : Str), none), ("_law_bad" : Str), ("_law_bad" : Str), defArgs s_l_bad, defBody s_l_bad, defScope s_l_bad, [], []⟩,
  ⟨(("_law_between" : Str), none), ("_law_between" : Str), ("_law_between" : Str), defArgs s_l_between, defBody s_l_between, defScope s_l_between, [], []⟩,
  ⟨(("_law_told" : Str), none), ("_law_told" : Str), ("_law_told" : Str), defArgs s_l_told, defBody s_l_told, defScope s_l_told, [], []⟩,
  ⟨(("law" : Str), none), ("law" : Str), ("law" : Str), defArgs s_law, defBody s_law, defScope s_law, [], []⟩]
def fa : List He.Fa := [.free ("int" : Str),
  .glo ("_law_mix" : Str),
  .free ("len" : Str),
  .free ("range" : Str),
  .free ("min" : Str),
  .glo ("is_letter" : Str),
  .str ("DIGITS" : Str) ("0123456789" : Str),
  .int ("MOST_DIGITS" : Str) 13,
  .int ("LARGEST" : Str) 1000000000000,
  .glo ("KEYWORDS" : Str),
  .glo ("is_word_part" : Str),
  .cls ("Scanner" : Str),
  .meth ("Scanner" : Str) ("is_done" : Str),
  .meth ("Scanner" : Str) ("skip_newline" : Str),
  .meth ("Scanner" : Str) ("take_to" : Str),
  .meth ("Scanner" : Str) ("row_end" : Str),
  .glo ("LONG_SIGNS" : Str),
  .glo ("SHORT_SIGNS" : Str),
  .glo ("BadCharacter" : Str),
  .meth ("Scanner" : Str) ("word_end" : Str),
  .glo ("word_kind" : Str),
  .glo ("is_number" : Str),
  .glo ("BadNumber" : Str),
  .meth ("Scanner" : Str) ("take_sign" : Str),
  .glo ("Scanner" : Str),
  .mkr ("Scanner" : Str),
  .meth ("Scanner" : Str) ("skip_gaps" : Str),
  .meth ("Scanner" : Str) ("take_token" : Str),
  .glo ("_law_pick" : Str),
  .glo ("tokens" : Str),
  .noat ("BadNumber" : Str) ("row" : Str),
  .noat ("BadNumber" : Str) ("column" : Str),
  .free ("isinstance" : Str),
  .glo ("Unexpected" : Str),
  .glo ("TextError" : Str),
  .glo ("AimError" : Str),
  .noat ("BadCharacter" : Str) ("row" : Str),
  .noat ("BadCharacter" : Str) ("column" : Str),
  .glo ("_law_stream" : Str),
  .glo ("_law_good" : Str),
  .glo ("_law_between" : Str),
  .glo ("_law_told" : Str),
  .glo ("_law_bad" : Str),
  .glo ("law" : Str),
  .noat ("Scanner" : Str) ("text" : Str),
  .noat ("Scanner" : Str) ("at" : Str),
  .noat ("Scanner" : Str) ("row" : Str),
  .noat ("Scanner" : Str) ("column" : Str)]
def dc : DcL := []
def exs : List (PySem.W.Frag → Bool) := [fun K => tupS K "KEYWORDS" kwS, fun K => tupS K "LONG_SIGNS" [":=", "==", "<="], fun K => tupS K "SHORT_SIGNS" ["{", "}", "(", ")", ",", ";", ".", "=", "+", "-", "*", "<"], fun K => errB K ("/claim/cut.py" : Str) (He.ga K ("BadCharacter" : Str)), fun K => errB K ("/claim/cut.py" : Str) (He.ga K ("BadNumber" : Str)), fun K => excB K (He.ga K ("BadNumber" : Str)), fun K => excB K (He.ga K ("BadCharacter" : Str)), fun K => decide (PySem.W.exmOne K (.ref (He.ga K ("BadCharacter" : Str))) (.ref (He.ga K ("BadCharacter" : Str))) = some true), fun K => decide (PySem.W.exmOne K (.ref (He.ga K ("BadNumber" : Str))) (.ref (He.ga K ("BadCharacter" : Str))) = some false), fun K => decide (PySem.W.exmOne K (.ref (He.ga K ("BadNumber" : Str))) (.ref (He.ga K ("BadNumber" : Str))) = some true), fun K => decide (PySem.W.kitAny K (.ref (He.ga K ("BadCharacter" : Str))) [.ref (He.ga K ("BadNumber" : Str)), .ref (He.ga K ("Unexpected" : Str))] = some false), fun K => decide (PySem.W.kitOne K (.ref (He.ga K ("BadCharacter" : Str))) (.ref (He.ga K ("TextError" : Str))) = some true), fun K => decide (PySem.W.kitOne K (.ref (He.ga K ("BadNumber" : Str))) (.ref (He.ga K ("Unexpected" : Str))) = some false), fun K => decide (PySem.W.kitOne K (.ref (He.ga K ("BadNumber" : Str))) (.ref (He.ga K ("TextError" : Str))) = some true), fun K => decide (PySem.W.kitOne K (.ref (He.ga K ("BadNumber" : Str))) (.ref (He.ga K ("AimError" : Str))) = some true)]
abbrev ex : PySem.W.Frag → Bool := allOf exs
def ce : List (Str × CelW) := [(("BadCharacter" : Str), celV "__init__" "TextError.__init__" s_te), (("BadNumber" : Str), celV "__init__" "TextError.__init__" s_te)]
theorem txt_mk {P : Program} {w : World} {K : PySem.W.Frag} {h : Heap} {mg : Str → Option Value} (X : K.In h) (G : h.Ns mainGlobals mg) (c : SaysG fa fn ce dc ex w K) (pt : (P.main.scope.names.lookup ("super" : Str)).isSome = false) (pf : ((P.main.file : Str) == "/claim/cut.py") = true) : Txt P w K mg where
  free_int := He.free_ok X G (c.fact 0 (f := .free ("int" : Str)) rfl)
  glo__law_mix := He.glo_ok X G (c.fact 1 (f := .glo ("_law_mix" : Str)) rfl)
  free_len := He.free_ok X G (c.fact 2 (f := .free ("len" : Str)) rfl)
  free_range := He.free_ok X G (c.fact 3 (f := .free ("range" : Str)) rfl)
  free_min := He.free_ok X G (c.fact 4 (f := .free ("min" : Str)) rfl)
  glo_is_letter := He.glo_ok X G (c.fact 5 (f := .glo ("is_letter" : Str)) rfl)
  str_DIGITS := He.str_ok X G (c.fact 6 (f := .str ("DIGITS" : Str) ("0123456789" : Str)) rfl)
  int_MOST_DIGITS := He.int_ok X G (c.fact 7 (f := .int ("MOST_DIGITS" : Str) 13) rfl)
  int_LARGEST := He.int_ok X G (c.fact 8 (f := .int ("LARGEST" : Str) 1000000000000) rfl)
  glo_KEYWORDS := He.glo_ok X G (c.fact 9 (f := .glo ("KEYWORDS" : Str)) rfl)
  glo_is_word_part := He.glo_ok X G (c.fact 10 (f := .glo ("is_word_part" : Str)) rfl)
  cls_Scanner := He.cls_ok (c.fact 11 (f := .cls ("Scanner" : Str)) rfl)
  meth_Scanner_is_done := He.meth_ok (c.fact 12 (f := .meth ("Scanner" : Str) ("is_done" : Str)) rfl)
  meth_Scanner_skip_newline := He.meth_ok (c.fact 13 (f := .meth ("Scanner" : Str) ("skip_newline" : Str)) rfl)
  meth_Scanner_take_to := He.meth_ok (c.fact 14 (f := .meth ("Scanner" : Str) ("take_to" : Str)) rfl)
  meth_Scanner_row_end := He.meth_ok (c.fact 15 (f := .meth ("Scanner" : Str) ("row_end" : Str)) rfl)
  glo_LONG_SIGNS := He.glo_ok X G (c.fact 16 (f := .glo ("LONG_SIGNS" : Str)) rfl)
  glo_SHORT_SIGNS := He.glo_ok X G (c.fact 17 (f := .glo ("SHORT_SIGNS" : Str)) rfl)
  glo_BadCharacter := He.glo_ok X G (c.fact 18 (f := .glo ("BadCharacter" : Str)) rfl)
  meth_Scanner_word_end := He.meth_ok (c.fact 19 (f := .meth ("Scanner" : Str) ("word_end" : Str)) rfl)
  glo_word_kind := He.glo_ok X G (c.fact 20 (f := .glo ("word_kind" : Str)) rfl)
  glo_is_number := He.glo_ok X G (c.fact 21 (f := .glo ("is_number" : Str)) rfl)
  glo_BadNumber := He.glo_ok X G (c.fact 22 (f := .glo ("BadNumber" : Str)) rfl)
  meth_Scanner_take_sign := He.meth_ok (c.fact 23 (f := .meth ("Scanner" : Str) ("take_sign" : Str)) rfl)
  glo_Scanner := He.glo_ok X G (c.fact 24 (f := .glo ("Scanner" : Str)) rfl)
  mkr_Scanner := He.mkr_ok (c.fact 25 (f := .mkr ("Scanner" : Str)) rfl)
  meth_Scanner_skip_gaps := He.meth_ok (c.fact 26 (f := .meth ("Scanner" : Str) ("skip_gaps" : Str)) rfl)
  meth_Scanner_take_token := He.meth_ok (c.fact 27 (f := .meth ("Scanner" : Str) ("take_token" : Str)) rfl)
  glo__law_pick := He.glo_ok X G (c.fact 28 (f := .glo ("_law_pick" : Str)) rfl)
  glo_tokens := He.glo_ok X G (c.fact 29 (f := .glo ("tokens" : Str)) rfl)
  noat_BadNumber_row := He.noat_ok (c.fact 30 (f := .noat ("BadNumber" : Str) ("row" : Str)) rfl)
  noat_BadNumber_column := He.noat_ok (c.fact 31 (f := .noat ("BadNumber" : Str) ("column" : Str)) rfl)
  free_isinstance := He.free_ok X G (c.fact 32 (f := .free ("isinstance" : Str)) rfl)
  glo_Unexpected := He.glo_ok X G (c.fact 33 (f := .glo ("Unexpected" : Str)) rfl)
  glo_TextError := He.glo_ok X G (c.fact 34 (f := .glo ("TextError" : Str)) rfl)
  glo_AimError := He.glo_ok X G (c.fact 35 (f := .glo ("AimError" : Str)) rfl)
  noat_BadCharacter_row := He.noat_ok (c.fact 36 (f := .noat ("BadCharacter" : Str) ("row" : Str)) rfl)
  noat_BadCharacter_column := He.noat_ok (c.fact 37 (f := .noat ("BadCharacter" : Str) ("column" : Str)) rfl)
  glo__law_stream := He.glo_ok X G (c.fact 38 (f := .glo ("_law_stream" : Str)) rfl)
  glo__law_good := He.glo_ok X G (c.fact 39 (f := .glo ("_law_good" : Str)) rfl)
  glo__law_between := He.glo_ok X G (c.fact 40 (f := .glo ("_law_between" : Str)) rfl)
  glo__law_told := He.glo_ok X G (c.fact 41 (f := .glo ("_law_told" : Str)) rfl)
  glo__law_bad := He.glo_ok X G (c.fact 42 (f := .glo ("_law_bad" : Str)) rfl)
  glo_law := He.glo_ok X G (c.fact 43 (f := .glo ("law" : Str)) rfl)
  noat_Scanner_text := He.noat_ok (c.fact 44 (f := .noat ("Scanner" : Str) ("text" : Str)) rfl)
  noat_Scanner_at := He.noat_ok (c.fact 45 (f := .noat ("Scanner" : Str) ("at" : Str)) rfl)
  noat_Scanner_row := He.noat_ok (c.fact 46 (f := .noat ("Scanner" : Str) ("row" : Str)) rfl)
  noat_Scanner_column := He.noat_ok (c.fact 47 (f := .noat ("Scanner" : Str) ("column" : Str)) rfl)
  d_l_mix := c.def_ 0 rfl
  d_l_pick := c.def_ 1 rfl
  d_l_stream := c.def_ 2 rfl
  d_is_letter := c.def_ 3 rfl
  d_is_word_part := c.def_ 4 rfl
  d_is_number := c.def_ 5 rfl
  d_word_kind := c.def_ 6 rfl
  d_Scanner_init := c.def_ 7 rfl
  d_Scanner_is_done := c.def_ 8 rfl
  d_Scanner_skip_newline := c.def_ 9 rfl
  d_Scanner_row_end := c.def_ 10 rfl
  d_Scanner_word_end := c.def_ 11 rfl
  d_Scanner_take_to := c.def_ 12 rfl
  d_Scanner_skip_gaps := c.def_ 13 rfl
  d_Scanner_take_sign := c.def_ 14 rfl
  d_Scanner_take_token := c.def_ 15 rfl
  d_tokens := c.def_ 16 rfl
  d_l_good := c.def_ 17 rfl
  d_l_bad := c.def_ 18 rfl
  d_l_between := c.def_ 19 rfl
  d_l_told := c.def_ 20 rfl
  d_law := c.def_ 21 rfl
  kw := fun H => tupS_ok (allOf_at c.more 0 rfl) H
  lg := fun H => tupS_ok (allOf_at c.more 1 rfl) H
  sh := fun H => tupS_ok (allOf_at c.more 2 rfl) H
  err_BadCharacter := errB_ok (st := s_te) (allOf_at c.more 3 rfl) (c.cel 0 rfl) te_is pt pf
  err_BadNumber := errB_ok (st := s_te) (allOf_at c.more 4 rfl) (c.cel 1 rfl) te_is pt pf
  exc_BadNumber := excB_ok (allOf_at c.more 5 rfl)
  exc_BadCharacter := excB_ok (allOf_at c.more 6 rfl)
  exm_BadCharacter_BadCharacter := of_decide_eq_true (allOf_at c.more 7 rfl)
  exm_BadNumber_BadCharacter := of_decide_eq_true (allOf_at c.more 8 rfl)
  exm_BadNumber_BadNumber := of_decide_eq_true (allOf_at c.more 9 rfl)
  kia_BadCharacter_BadNumber_Unexpected := of_decide_eq_true (allOf_at c.more 10 rfl)
  kit_BadCharacter_TextError := of_decide_eq_true (allOf_at c.more 11 rfl)
  kit_BadNumber_Unexpected := of_decide_eq_true (allOf_at c.more 12 rfl)
  kit_BadNumber_TextError := of_decide_eq_true (allOf_at c.more 13 rfl)
  kit_BadNumber_AimError := of_decide_eq_true (allOf_at c.more 14 rfl)
abbrev R : PySem.W.OpenRow := PySem.W.OpenLaw.row PySem.Challenge.rw_reaimed_k01_texts_with_a_bad_place
abbrev hk : PySem.W.Hook := hookG 4 fa fn ce dc ex
def ob (s : PySem.W.SharedT) : AlG := obsGG 4 fa fn ce dc ex (HandSHeadRun.getT s)
theorem ob_eq (s : PySem.W.SharedT) : ob s = hk.obs s.abs := obsGG_eq (HandSHeadRun.getT_eq s)
def names : List PySem.Str := [("AimError" : Str), ("TextError" : Str), ("BadCharacter" : Str), ("BadNumber" : Str), ("Unexpected" : Str), ("KEYWORDS" : Str), ("LONG_SIGNS" : Str), ("SHORT_SIGNS" : Str), ("DIGITS" : Str), ("LARGEST" : Str), ("MOST_DIGITS" : Str), ("tokens" : Str), ("is_letter" : Str), ("is_word_part" : Str), ("is_number" : Str), ("word_kind" : Str), ("Scanner" : Str), ("_law_mix" : Str), ("_law_stream" : Str), ("_law_pick" : Str), ("_law_good" : Str), ("_law_bad" : Str), ("_law_between" : Str), ("_law_told" : Str)]
theorem run (w : World) : HandSHeadRun.RunEq R (PySem.W.view R.prog [27]) hk ob 4000 names w := fun _ => by kernel_rfl
theorem facts {P : Program} {w : World} {K : PySem.W.Frag} {h : Heap} {mg : Str → Option Value} {f : Addr} (X : K.In h) (G : h.Ns mainGlobals mg) (hfa : mg ("law" : Str) = some (.ref f)) (c : SaysG fa fn ce dc ex w K) (pt : (P.main.scope.names.lookup ("super" : Str)).isSome = false) (pf : ((P.main.file : Str) == "/claim/cut.py") = true) :
    ∃ fd : FuncData, (∀ (s : Shared) (v : Value), BindsTo s fd ⟨[v], []⟩ [("script", v)]) ∧ ∀ base : Heap, K.In base → base.Ns mainGlobals mg → FnOk P w K mg base (L2.CX P w) 7 f fd ["script"] (sp_law K) := by
  have T : Txt P w K mg := txt_mk X G c pt pf
  obtain ⟨fd, F⟩ := T.d_law
  have e := hfa.symm.trans (He.glo_ok X G (c.fact 43 (f := .glo "law") rfl))
  cases e
  have b := FunD.bindsA (ps := ["script"]) F fun _ _ _ _ _ _ us hl => match us, hl with | [_], _ => rfl
  refine ⟨fd, fun s v => b s [v] rfl, fun base _ _ => ?_⟩
  exact (ok_law (P := P) (w := w) (base := base) T F).fn
end Rm.K1.W01
open PySem PySem.W PySem.Calls PyProof.Rows
theorem PySem.Challenge.cw_reaimed_k01_texts_with_a_bad_place_holds : PySem.Challenge.rw_reaimed_k01_texts_with_a_bad_place.Holds := by
  w_on
  o_law
  refine HandSHeadRun.head_any (r := OpenLaw.row PySem.Challenge.rw_reaimed_k01_texts_with_a_bad_place) (q := view (OpenLaw.row PySem.Challenge.rw_reaimed_k01_texts_with_a_bad_place).prog [27]) (H := Rm.K1.W01.hk) (ob := Rm.K1.W01.ob) (M := 4000)
    (loose := Rm.K1.W01.names) (d := HandSHeadRun.topDef (OpenLaw.row PySem.Challenge.rw_reaimed_k01_texts_with_a_bad_place).prog 27) (kwd := []) Rm.K1.W01.ob_eq (by kernel_rfl) (fun _ => by kernel_rfl) Rm.K1.W01.run
    (by kernel_rfl) (by kernel_rfl) (by kernel_rfl) (by rfl) (by first | assumption | decide +kernel) (by decide +kernel) ⟨rfl, rfl, rfl, rfl, rfl, by decide +kernel⟩ ?hw ?hc
  case hw => w_witness2
  case hc =>
    refine Rm.walk_law (l := PySem.Challenge.rw_reaimed_k01_texts_with_a_bad_place) (n := 63) (k := 7) (x := "script") rfl (by decide) (by kernel_rfl) ⟨rfl, by decide, by decide⟩ fun w mg fa h Y G hmg0 => ?_
    obtain ⟨K, KX, c⟩ := Y
    have hmg : mg ("law" : PySem.Str) = some (.ref fa) := by
      have e : (HandSHeadRun.topDef (OpenLaw.row PySem.Challenge.rw_reaimed_k01_texts_with_a_bad_place).prog 27).name = ("law" : PySem.Str) := by kernel_rfl
      rw [← e]
      exact hmg0
    obtain ⟨fd, hb, hF⟩ := Rm.K1.W01.facts (P := (PySem.Challenge.rw_reaimed_k01_texts_with_a_bad_place).prog) (w := w) KX G hmg c (by kernel_rfl) (by kernel_rfl)
    exact ⟨K, fd, _, KX, hb, fun H a ns hl _ hS => ⟨a, ns, rfl, hS, hl, fun _ => rfl⟩, hF⟩
