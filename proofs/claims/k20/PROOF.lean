import PyProof.Rows.All
import Wide.All
import OpenK.AllK
import Wide.FinOn
import HandS.ForMost
import HandS.More
import HandS.StrMore
import HandS.IsInst
import HandS.Exc
import HandS.ExcOwn
import HandS.ExcInit
import HandS.TryOnly
import HandS.Defaults
import HandS.LawCells
import HandS.TupAny
import HandS.WordsExc
import HandS.Head0
import HandS.Head1
import HandS.Head2
import HandS.HeadEnd
import HandS.HeadHook1
import HandS.HeadHook2
import KE.KExcSuper
import HandS.FStr
import HandS.HeadWalk
import HandS.ExcField
import HandS.ExcIs
import HandS.TryMany
import KE.KExcIs
import HandS.CallLocal
import HandS.Iter
import HandS.Conv
import HandS.Style
import KE.KDictList
import HandS.Walk
import HandS.SetKeys
import HandS.Zip
import HandS.DictComp
import PySem.Challenge.RW_reaimed_k20_objects_by_model
set_option Elab.async false
set_option linter.all false
set_option maxRecDepth 100000
set_option maxHeartbeats 4000000
/-! B0: readings by short names; a def that keeps a promise; the law's draws. -/
namespace Rm
open PySem PySem.Spec PyProof.Rows L2
/-! ### readings of operations, by short names -/
abbrev rAddI : R2 := rI0 fun i j => .int (i + j)
abbrev rSubI : R2 := rI0 fun i j => .int (i - j)
abbrev rMulI : R2 := rI CMul fun i j => .int (i * j)
abbrev rFdivI : R2 := rI CDiv fun i j => .int (i / j)
abbrev rModI : R2 := rI (fun _ j => 0 < j) fun i j => .int (i % j)
abbrev rPowI : R2 := rI CPow fun i j => .int (i ^ j.toNat)
abbrev rLtI : R2 := rI0 fun i j => .bl (decide (i < j))
abbrev rLeI : R2 := rI0 fun i j => .bl (decide (i ≤ j))
abbrev rGtI : R2 := rI0 fun i j => .bl (decide (j < i))
abbrev rGeI : R2 := rI0 fun i j => .bl (decide (j ≤ i))
abbrev rNegI : V → Hp → VK → Prop := rU fun i => .int (-i)
def rInS : R2 := fun x y H Q => ∃ i j, x = .str i ∧ y = .str j ∧ Q (.bl (!(Builtin.Str.occurrences j i 0 j.length 1).isEmpty)) H
def rNotInS : R2 := fun x y H Q => ∃ i j, x = .str i ∧ y = .str j ∧ Q (.bl (!(!(Builtin.Str.occurrences j i 0 j.length 1).isEmpty))) H
def rInSign : R2 := fun x y H Q => ∃ (c : Nat) (z : Str), x = .str ⟨#[c]⟩ ∧ y = .str z ∧ Q (.bl (decide (c ∈ z.cps.toList))) H
def rNotInSign : R2 := fun x y H Q => ∃ (c : Nat) (z : Str), x = .str ⟨#[c]⟩ ∧ y = .str z ∧ Q (.bl (!decide (c ∈ z.cps.toList))) H
def rIsN : R2 := fun x y H Q => y = .non ∧ Q (.bl (decide (x = .non))) H
def rNotN : R2 := fun x y H Q => y = .non ∧ Q (.bl (!decide (x = .non))) H
abbrev RM := V → List V → Hp → VK → Prop
abbrev RC := List V → Hp → VK → Prop
def rIsascii : RM := fun x xs H Q => ∃ a, x = .str a ∧ xs = [] ∧ True ∧ Q (.bl (Txt.isascii a)) H
def rIsalpha : RM := fun x xs H Q => ∃ a, x = .str a ∧ xs = [] ∧ True ∧ Q (.bl (Txt.isalpha a)) H
def rIsdigit : RM := fun x xs H Q => ∃ a, x = .str a ∧ xs = [] ∧ True ∧ Q (.bl (Txt.isdigit a)) H
def rCount : RM := fun x xs H Q => ∃ a b, x = .str a ∧ xs = [.str b] ∧ Q (.int (Txt.count a b)) H
def rRfind : RM := fun x xs H Q => ∃ a b, x = .str a ∧ xs = [.str b] ∧ Q (.int (Txt.rfind a b)) H
def rFind : RM := fun x xs H Q => ∃ a b, x = .str a ∧ xs = [.str b] ∧ Q (.int (Txt.find a b)) H
def rFind3 : RM := fun x xs H Q => ∃ (a b : Str) (i : Int), x = .str a ∧ xs = [.str b, .int i] ∧ Q (.int (Txt.find3 a b i)) H
def rStartswith : RM := fun x xs H Q => ∃ a b, x = .str a ∧ xs = [.str b] ∧ Q (.bl (Txt.startswith a b)) H
def rEndswith : RM := fun x xs H Q => ∃ a b, x = .str a ∧ xs = [.str b] ∧ Q (.bl (Txt.endswith a b)) H
def rIntS : RC := fun xs H Q => ∃ a n, xs = [.str a] ∧ PySem.intText? a = some n ∧ a.length ≤ 640 ∧ Q (.int n) H
def rInt1 : RC := fun xs H Q => (∃ i, xs = [.int i] ∧ Q (.int i) H) ∨ ∃ k, xs = [.bl k] ∧ Q (.int (if k then 1 else 0)) H
def rMin2 : RC := fun xs H Q => ∃ i j, xs = [.int i, .int j] ∧ Q (.int (if j < i then j else i)) H
def rMax2 : RC := fun xs H Q => ∃ i j, xs = [.int i, .int j] ∧ Q (.int (if j > i then j else i)) H
def rTupleOf (K : PySem.W.Frag) : RC := fun xs H Q => ∃ p ys, xs = [.ref p] ∧ ((SqL K H p ys ∧ ∀ l, H l = none → Q (.ref l) (upd H l (.tup ys))) ∨ (SqT K H p ys ∧ Q (.ref p) H))
def rLenD : RC := fun xs H Q => ∃ a kvs, xs = [V.ref a] ∧ H a = some (.dK kvs) ∧ Q (.int kvs.length) H
abbrev oNone : TO := tNoPart
abbrev oSome (t : TE) : TO := tPart t
/-! ### a def that keeps its promise -/
structure Def (P : Program) (w : World) (K : PySem.W.Frag) (mg : Str → Option Value) (base : Heap) (k : Nat) (f : Addr) (fd : FuncData) (ps : List Str) (sp : Sp) : Prop where
  fn : FnOk P w K mg base (L2.CX P w) k f fd ps sp
  bd : Binds K fd ps []
  kp : PySem.W.keepIn K (.ref f) = true
/-- what a callee may let out, at a caller that wishes the same -/
theorem passE {X : Cx} {E : XK} (tk : Takes X (fun cls d _ H => E cls d H)) : Passes (L2.CX X.prog X.w) X E := passes_call tk fun _ _ _ _ h => h
/-! ### the law's draws: {"row": a list of ints, "at": i, "seed": s} -/
abbrev kRow : Key := Sum.inr ("row" : Str)
abbrev kAt : Key := Sum.inr ("at" : Str)
abbrev kSeed : Key := Sum.inr ("seed" : Str)
def drK (r : Addr) (i s : Int) : List (Key × V) := [(kRow, .ref r), (kAt, .int i), (kSeed, .int s)]
theorem kRA : ¬ kRow = kAt := by decide +kernel
theorem kRS : ¬ kRow = kSeed := by decide +kernel
theorem kAS : ¬ kAt = kSeed := by decide +kernel
theorem kSA : ¬ kSeed = kAt := by decide +kernel
theorem drK_at (r : Addr) (i s : Int) : valV (drK r i s) kAt = some (.int i) := by
  unfold drK
  rw [valV_neg (p := (kRow, V.ref r)) kRA, valV_pos (p := (kAt, V.int i)) rfl]
theorem drK_row (r : Addr) (i s : Int) : valV (drK r i s) kRow = some (.ref r) := by
  unfold drK
  rw [valV_pos (p := (kRow, V.ref r)) rfl]
theorem drK_seed (r : Addr) (i s : Int) : valV (drK r i s) kSeed = some (.int s) := by
  unfold drK
  rw [valV_neg (p := (kRow, V.ref r)) kRS, valV_neg (p := (kAt, V.int i)) kAS, valV_pos (p := (kSeed, V.int s)) rfl]
theorem drK_put (r : Addr) (i j s : Int) : putK (drK r i s) kAt (.int j) = drK r j s := by
  unfold putK
  rw [valV_any, drK_at, if_pos (show (some (V.int i)).isSome = true from rfl)]
  unfold drK
  rw [List.map_cons, List.map_cons, List.map_cons, List.map_nil, if_neg kRA, if_pos rfl, if_neg kSA]
theorem drK_len (r : Addr) (i s : Int) : (drK r i s).length < sizeLine := by
  show 3 < sizeLine
  decide
theorem drK_merge (p : Addr) (i s : Int) : mergeK [] (drK p i s) = drK p i s := by
  have e1 : putK [] kRow (V.ref p) = [(kRow, V.ref p)] := putK_new _ rfl
  have e2 : putK [(kRow, V.ref p)] kAt (V.int i) = [(kRow, V.ref p), (kAt, V.int i)] := putK_new _ (by rw [valV_neg kRA] <;> rfl)
  have e3 : putK [(kRow, V.ref p), (kAt, V.int i)] kSeed (V.int s) = drK p i s := putK_new _ (by rw [valV_neg kRS, valV_neg kAS] <;> rfl)
  show putK (putK (putK [] kRow (V.ref p)) kAt (V.int i)) kSeed (V.int s) = _
  rw [e1, e2, e3]
section
variable {H : Hp} {d r : Addr} {i s : Int}
theorem dget_at (h : H d = some (.dK (drK r i s))) : DGet H d (.str ("at" : Str)) (some (.int i)) := .inl ⟨_, kAt, .inl h, rfl, (drK_at r i s).symm⟩
theorem dget_row (h : H d = some (.dK (drK r i s))) : DGet H d (.str ("row" : Str)) (some (.ref r)) := .inl ⟨_, kRow, .inl h, rfl, (drK_row r i s).symm⟩
theorem dget_seed (h : H d = some (.dK (drK r i s))) : DGet H d (.str ("seed" : Str)) (some (.int s)) := .inl ⟨_, kSeed, .inl h, rfl, (drK_seed r i s).symm⟩
theorem dput_at (h : H d = some (.dK (drK r i s))) (j : Int) : DPut H d (.str ("at" : Str)) (.int j) (upd H d (.dK (drK r j s))) := .inl ⟨_, kAt, h, rfl, drK_len r i s, by rw [drK_put]⟩
end
/-- at d: draws, their row at r -/
def Draws (H : Hp) (d r : Addr) : Prop := ∃ (i s : Int) (ns : List Int), H d = some (.dK (drK r i s)) ∧ H r = some (.lst (ns.map V.int)) ∧ 0 ≤ i
theorem Draws.atD {H : Hp} {d r : Addr} (h : Draws H d r) : ∃ o, H d = some o := let ⟨_, _, _, h, _⟩ := h; ⟨_, h⟩
theorem Draws.atR {H : Hp} {d r : Addr} (h : Draws H d r) : ∃ o, H r = some o := let ⟨_, _, _, _, h, _⟩ := h; ⟨_, h⟩
theorem Draws.ne {H : Hp} {d r : Addr} (h : Draws H d r) : r ≠ d := by
  obtain ⟨i, s, ns, h1, h2, _⟩ := h
  exact ne_of h2 h1 (by intro z; cases z)
theorem Draws.neD {H : Hp} {d r a : Addr} (h : Draws H d r) (n : H a = none) : d ≠ a := let ⟨_, e⟩ := h.atD; ne_of_none e n
theorem Draws.neR {H : Hp} {d r a : Addr} (h : Draws H d r) (n : H a = none) : r ≠ a := let ⟨_, e⟩ := h.atR; ne_of_none e n
theorem same_upd {H : Hp} {a : Addr} {o : HO} (n : H a = none) : Same H (upd H a o) := fun b u e => by
  rw [upd_ne (ne_of_none e n)]
  exact e
theorem Draws.same {H H' : Hp} {d r : Addr} (h : Draws H d r) (s : Same H H') : Draws H' d r := by
  obtain ⟨i, z, ns, h1, h2, h3⟩ := h
  exact ⟨i, z, ns, s _ _ h1, s _ _ h2, h3⟩
theorem Draws.keep {H H' : Hp} {d r : Addr} (h : Draws H d r) (s : ∀ b, (b = d ∨ b = r) → H' b = H b) : Draws H' d r := by
  obtain ⟨i, z, ns, h1, h2, h3⟩ := h
  exact ⟨i, z, ns, (s _ (.inl rfl)).trans h1, (s _ (.inr rfl)).trans h2, h3⟩
theorem Draws.fresh {H : Hp} {d r a : Addr} {o : HO} (h : Draws H d r) (n : H a = none) : Draws (upd H a o) d r := h.same (same_upd n)
theorem Draws.other {H : Hp} {d r a : Addr} {o : HO} (h : Draws H d r) (hd : a ≠ d) (hr : a ≠ r) : Draws (upd H a o) d r := h.keep fun b e => by
  rcases e with rfl | rfl
  · exact upd_ne (Ne.symm hd)
  · exact upd_ne (Ne.symm hr)
/-- the draws may have moved, nothing else has changed -/
def Moved (d : Addr) (H H' : Hp) : Prop := ∀ b, b ≠ d → H' b = H b
theorem Moved.refl (d : Addr) (H : Hp) : Moved d H H := fun _ _ => rfl
theorem Moved.trans {d : Addr} {H H1 H2 : Hp} (a : Moved d H H1) (b : Moved d H1 H2) : Moved d H H2 := fun c n => (b c n).trans (a c n)
/-! ### promises -/
def sp_l_mix (K : PySem.W.Frag) : Sp := fun vs H Q _ => ∃ (c k : Int), vs = [.int c, .int k] ∧ ∀ z : Int, Q (.int z) H
def sp_l_pick (K : PySem.W.Frag) : Sp := fun vs H Q _ => ∃ (d : Addr) (m : Int), vs = [.ref d, .int m] ∧ 0 < m ∧ ∃ r, Draws H d r ∧ ∀ (j : Int) (H' : Hp), 0 ≤ j → j < m → Draws H' d r → Moved d H H' → Q (.int j) H'
def sp_l_stream (K : PySem.W.Frag) : Sp := fun vs H Q _ => ∃ (a : Addr) (ns : List Int) (m : Int), vs = [.ref a, .int m] ∧ SqL K H a (ns.map V.int) ∧ ns.length ≤ 63 ∧ 0 ≤ m ∧ m ≤ 10000 ∧
  ∀ (d : Addr) (H' : Hp) (r : Addr) (s : Int) (rs : List Int), Same H H' → H d = none → H' d = some (.dK (drK r 0 s)) → H' r = some (.lst (rs.map V.int)) → r ≠ d → rs.length ≤ 3780 → (rs.length : Int) ≤ m → Q (.ref d) H'
abbrev DQ (Q : VK) : Ends := { nx := fun _ H' => Q .non H', rt := Q }
theorem lk_ne {a b : Str} {v : V} {r : List (Str × V)} (h : ¬ a = b) : List.lookup a ((b, v) :: r) = List.lookup a r := by
  have e : (a == b) = false := by simpa using h
  simp only [List.lookup, e]
theorem lk_eq {a : Str} {v : V} {r : List (Str × V)} : List.lookup a ((a, v) :: r) = some v := by simp [List.lookup]
theorem pf_ne {a b : Str} {v w : V} {r : List (Str × V)} (h : ¬ b = a) : putF a v ((b, w) :: r) = (b, w) :: putF a v r := by
  show (if b = a then (b, v) :: r else (b, w) :: putF a v r) = _
  rw [if_neg h]
theorem pf_eq {a : Str} {v w : V} {r : List (Str × V)} : putF a v ((a, w) :: r) = (a, v) :: r := by
  show (if a = a then (a, v) :: r else (a, w) :: putF a v r) = _
  rw [if_pos rfl]
theorem pf_nil {a : Str} {v : V} : putF a v [] = [(a, v)] := rfl
end Rm

/-! B1: the law's draws: readings (by gen.py) and that they keep their promises. -/
namespace Rm
open PySem PySem.Spec PyProof.Rows L2

def t_l_mix (K : PySem.W.Frag) (E : XK) : TS :=
  (tSeq (tAsg (tOp rModI (tCB rInt1 (tCons (tOp rAddI (tOp rAddI (tOp rMulI (tVar 0) (tC (.int 48271))) (tOp rMulI (tVar 1) (tC (.int 69621)))) (tC (.int 11))) tNil)) (tC (.int 2147483647))) (gName 2))
    (tRet (tOp rModI (tOp rModI (tCB rInt1 (tCons (tOp rAddI (tOp rAddI (tOp rAddI (tOp rMulI (tVar 2) (tVar 2)) (tOp rMulI (tVar 0) (tC (.int 40692)))) (tOp rMulI (tVar 1) (tC (.int 7)))) (tC (.int 3))) tNil)) (tC (.int 1000003))) (tC (.int 1000)))))
def ns_l_mix : List Str := ["cell", "k", "low"]

def t_l_pick (K : PySem.W.Frag) (E : XK) : TS :=
  (tSeq (tAsg (tDGet (tVar 0) (tC (.str ("at" : Str)))) (gName 2))
    (tSeq (sDPut (tVar 0) (tC (.str ("at" : Str))) (tOp rAddI (tVar 2) (tC (.int 1))))
    (tSeq (tAsg (tCall (sp_l_mix K) [] E (tCons (tDGet (tVar 0) (tC (.str ("seed" : Str)))) (tCons (tVar 2) tNil))) (gName 3))
    (tSeq (tIfS (tTest (tOp rLtI (tVar 2) (tCB (rLen K) (tCons (tDGet (tVar 0) (tC (.str ("row" : Str)))) tNil))))
      (tAsg (tOp (rIxL K) (tDGet (tVar 0) (tC (.str ("row" : Str)))) (tVar 2)) (gName 3))
      tNext)
    (tRet (tOp rModI (tCB rInt1 (tCons (tVar 3) tNil)) (tVar 1)))))))
def ns_l_pick : List Str := ["draws", "many", "at", "number"]

def t_l_stream (K : PySem.W.Frag) (E : XK) : TS :=
  (tSeq (tAsg (tLst tNil) (gName 2))
    (tSeq (tFor (iRng1 (tCons (tCB rMin2 (tCons (tCB (rLen K) (tCons (tVar 0) tNil)) (tCons (tC (.int 63)) tNil))) tNil)) (gName 3)
      (tSeq (tAsg (tOp (rIxL K) (tVar 0) (tVar 3)) (gName 4))
    (tIfS (tTest (tOp rGeI (tVar 4) (tOp rPowI (tC (.int 10)) (tC (.int 18)))))
      (tFor (iRng1 (tCons (tC (.int 60)) tNil)) (gName 5)
      (tIfS (tAnd (tTest (tOp rGtI (tVar 4) (tC (.int 0)))) (tTest (tOp rLtI (tCB (rLen K) (tCons (tVar 2) tNil)) (tVar 1))))
      (tSeq (tDrop (tBM K "list" rAppend (tVar 2) (tCons (tOp rModI (tCB rInt1 (tCons (tVar 4) tNil)) (tC (.int 1000))) tNil)))
    (tAsg (tOp rFdivI (tVar 4) (tC (.int 1000))) (gName 4)))
      tNext))
      (tFor (iRng1 (tCons (tC (.int 3)) tNil)) (gName 5)
      (tIfS (tTest (tOp rLtI (tCB (rLen K) (tCons (tVar 2) tNil)) (tVar 1)))
      (tDrop (tBM K "list" rAppend (tVar 2) (tCons (tCall (sp_l_mix K) [] E (tCons (tVar 4) (tCons (tOp rAddI (tOp rMulI (tC (.int 64)) (tVar 5)) (tVar 3)) tNil))) tNil)))
      tNext)))))
    (tRet (tDisp [((tC (.str ("row" : Str))), (tVar 2)), ((tC (.str ("at" : Str))), (tC (.int 0))), ((tC (.str ("seed" : Str))), (tCB (rLen K) (tCons (tVar 2) tNil)))]))))
def ns_l_stream : List Str := ["script", "most", "row", "k", "rest", "j"]


theorem run_l_mix {K : PySem.W.Frag} {vs : List V} {H : Hp} {Q : VK} {E : XK} (h : sp_l_mix K vs H Q E) : t_l_mix K E { nx := fun _ H' => Q .non H', rt := Q } (start ns_l_mix vs) H := by
  obtain ⟨c, k, rfl, q⟩ := h
  refine ⟨_, rfl, _, _, rfl, rfl, .inr (by decide), _, rfl, _, _, rfl, rfl, .inr (by decide), _, _, rfl, rfl, _, _, rfl, rfl, .inl ⟨_, rfl, ?_⟩⟩
  refine ⟨_, _, rfl, rfl, (by show (0 : Int) < 2147483647; decide), ?_⟩
  have b1 : 0 ≤ (c * 48271 + k * 69621 + 11) % 2147483647 := Int.emod_nonneg _ (by decide)
  have b2 : (c * 48271 + k * 69621 + 11) % 2147483647 < 2147483647 := Int.emod_lt_of_pos _ (by decide)
  refine ⟨_, rfl, _, rfl, _, _, rfl, rfl, .inl ⟨by omega, by omega⟩, _, rfl, _, _, rfl, rfl, .inr (by decide), _, _, rfl, rfl, _, rfl, _, _, rfl, rfl, .inr (by decide), _, _, rfl, rfl, _, _, rfl, rfl, .inl ⟨_, rfl, ?_⟩⟩
  exact ⟨_, _, rfl, rfl, (by show (0 : Int) < 1000003; decide), _, _, rfl, rfl, (by show (0 : Int) < 1000; decide), q _⟩
theorem run_l_pick {K : PySem.W.Frag} {vs : List V} {H : Hp} {Q : VK} {E : XK} (h : sp_l_pick K vs H Q E) : t_l_pick K E { nx := fun _ H' => Q .non H', rt := Q } (start ns_l_pick vs) H := by
  obtain ⟨d, m, rfl, hm, r, hD, q⟩ := h
  obtain ⟨i, s, ns, h1, h2, h3⟩ := id hD
  have nrd : r ≠ d := hD.ne
  -- at = draws["at"]
  refine ⟨_, rfl, d, _, rfl, dget_at h1, ?_⟩
  -- draws["at"] = at + 1
  refine ⟨_, rfl, _, _, rfl, rfl, _, rfl, d, _, rfl, dput_at h1 _, ?_⟩
  have h1' : (upd H d (.dK (drK r (i + 1) s))) d = some (.dK (drK r (i + 1) s)) := upd_same
  have h2' : (upd H d (.dK (drK r (i + 1) s))) r = some (.lst (ns.map V.int)) := by rw [upd_ne nrd]; exact h2
  have D' : Draws (upd H d (.dK (drK r (i + 1) s))) d r := ⟨i + 1, s, ns, h1', h2', by omega⟩
  have M' : Moved d H (upd H d (.dK (drK r (i + 1) s))) := fun b n => upd_ne n
  have fin : ∀ z : Int, Q (.int (z % m)) (upd H d (.dK (drK r (i + 1) s))) := fun z => q _ _ (Int.emod_nonneg _ (by omega)) (Int.emod_lt_of_pos _ hm) D' M'
  -- number = mix(draws["seed"], at)
  refine ⟨_, rfl, d, _, rfl, dget_seed h1', _, rfl, _, _, rfl, fun z => ?_⟩
  -- if at < len(draws["row"])
  refine ⟨_, rfl, _, rfl, d, _, rfl, dget_row h1', _, _, rfl, .inl ⟨_, SqL.of h2', rfl⟩, _, _, rfl, rfl, _, rfl, ?_⟩
  by_cases c : i < ((ns.map V.int).length : Int)
  · rw [decide_eq_true c]
    refine iteT ?_
    rw [List.length_map] at c
    obtain ⟨n, rfl⟩ : ∃ n : Nat, i = (n : Int) := ⟨i.toNat, by omega⟩
    have hn : n < ns.length := by omega
    refine ⟨_, rfl, d, _, rfl, dget_row h1', _, rfl, r, ns.map V.int, (n : Int), .int ns[n], rfl, rfl, SqL.of h2', atI_nat (by rw [List.getElem?_map, List.getElem?_eq_getElem hn]; rfl), ?_⟩
    exact ⟨_, rfl, .inl ⟨_, rfl, _, rfl, _, _, rfl, rfl, hm, fin _⟩⟩
  · rw [decide_eq_false c]
    refine iteF ?_
    exact ⟨_, rfl, .inl ⟨_, rfl, _, rfl, _, _, rfl, rfl, hm, fin _⟩⟩
theorem map_snoc (rs : List Int) (z : Int) : rs.map V.int ++ [V.int z] = (rs ++ [z]).map V.int := by
  rw [List.map_append]
  rfl
theorem run_l_stream {K : PySem.W.Frag} {vs : List V} {H : Hp} {Q : VK} {E : XK} (h : sp_l_stream K vs H Q E) : t_l_stream K E { nx := fun _ H' => Q .non H', rt := Q } (start ns_l_stream vs) H := by
  obtain ⟨a, ns, m, rfl, hS, hl, hm0, hm, q⟩ := h
  refine ⟨(by show 0 ≤ sizeLine; decide), fun p np => ?_⟩
  refine ⟨_, rfl, _, _, rfl, .inl ⟨_, (same_upd np).seq hS, rfl⟩, _, _, rfl, ?_⟩
  have e0 : (if (63 : Int) < ((ns.map V.int).length : Int) then (63 : Int) else ((ns.map V.int).length : Int)) = (ns.length : Int) := by
    rw [List.length_map, if_neg (by omega)]
  rw [e0]
  refine ⟨(ns.length : Int), rfl, by omega, by omega, ?_⟩
  rw [Int.toNat_natCast]
  refine for_range (lo := 0) (n := ns.length) (fun i σ H2 => ∃ (rs : List Int) (kv rv jv : Option V), σ = [some (.ref a), some (.int m), some (.ref p), kv, rv, jv] ∧ Same H H2 ∧ H2 p = some (.lst (rs.map V.int)) ∧ rs.length ≤ 60 * i ∧ (rs.length : Int) ≤ m)
    ⟨[], none, none, none, rfl, same_upd np, upd_same, Nat.zero_le _, hm0⟩ ?_ ?_
  · rintro i σ H2 hi ⟨rs, kv, rv, jv, rfl, s2, hp, h60, hm2⟩
    -- rest = script[k]
    have hz : (ns.map V.int)[i]? = some (.int ns[i]) := by rw [List.getElem?_map, List.getElem?_eq_getElem hi]; rfl
    refine ⟨_, rfl, _, rfl, a, ns.map V.int, _, .int ns[i], rfl, rfl, s2.seq hS, at_of (j := i) (by simp) hz, ?_⟩
    -- if rest >= 10 ** 18
    refine ⟨_, rfl, _, _, rfl, rfl, ⟨by decide, by decide, by decide⟩, _, _, rfl, rfl, _, rfl, ?_⟩
    refine ite2 (fun _ => ?_) (fun _ => ?_)
    · -- for j in range(60)
      refine ⟨60, rfl, by decide, by decide, ?_⟩
      refine for_range (lo := 0) (n := 60) (fun j σ H3 => ∃ (rs : List Int) (kv jv : Option V) (z : Int), σ = [some (.ref a), some (.int m), some (.ref p), kv, some (.int z), jv] ∧ Same H H3 ∧ H3 p = some (.lst (rs.map V.int)) ∧ rs.length ≤ 60 * i + j ∧ (rs.length : Int) ≤ m)
        ⟨rs, _, _, _, rfl, s2, hp, by omega, hm2⟩ ?_ ?_
      · rintro j σ H3 hj ⟨rs, kv, jv, z, rfl, s3, hp, h60, hm2⟩
        refine ⟨_, rfl, _, _, rfl, rfl, _, rfl, ?_⟩
        refine ite2 (fun _ => ?_) (fun _ => ?_)
        · refine ⟨_, rfl, _, _, rfl, .inl ⟨_, SqL.of hp, rfl⟩, _, rfl, _, _, rfl, rfl, _, rfl, ?_⟩
          rw [List.length_map]
          refine ite2 (fun c => ?_) (fun _ => ?_)
          · have c := of_decide_eq_true c
            refine ⟨_, rfl, Or.inl ⟨rfl, _, SqL.of hp⟩, _, rfl, .inl ⟨_, rfl, _, _, rfl, rfl, (by show (0 : Int) < 1000; decide), p, _, _, rfl, rfl, hp, (by rw [List.length_map]; exact Nat.lt_of_lt_of_le (show rs.length < 20000 by omega) (by decide)), ?_⟩⟩
            refine ⟨_, rfl, _, _, rfl, rfl, ⟨by decide, by decide⟩, ?_⟩
            refine ⟨rs ++ [z % 1000], _, _, _, rfl, fun b o e => ?_, ?_, by rw [List.length_append, List.length_singleton]; omega, by rw [List.length_append, List.length_singleton]; omega⟩
            · rw [upd_ne (ne_of_none e np)]
              exact s3 b o e
            · rw [upd_same, map_snoc]
          · exact ⟨rs, _, _, z, rfl, s3, hp, by omega, hm2⟩
        · exact ⟨rs, _, _, z, rfl, s3, hp, by omega, hm2⟩
      · rintro σ H3 ⟨rs, kv, jv, z, rfl, s3, hp, h60, hm2⟩
        exact ⟨rs, _, _, _, rfl, s3, hp, by omega, hm2⟩
    · refine ⟨3, rfl, by decide, by decide, ?_⟩
      refine for_range (lo := 0) (n := 3) (fun j σ H3 => ∃ (rs : List Int) (jv : Option V), σ = [some (.ref a), some (.int m), some (.ref p), some (.int (0 + i)), some (.int ns[i]), jv] ∧ Same H H3 ∧ H3 p = some (.lst (rs.map V.int)) ∧ rs.length ≤ 60 * i + j ∧ (rs.length : Int) ≤ m)
        ⟨rs, _, rfl, s2, hp, by omega, hm2⟩ ?_ ?_
      · rintro j σ H3 hj ⟨rs, jv, rfl, s3, hp, h60, hm2⟩
        refine ⟨_, rfl, _, _, rfl, .inl ⟨_, SqL.of hp, rfl⟩, _, rfl, _, _, rfl, rfl, _, rfl, ?_⟩
        rw [List.length_map]
        refine ite2 (fun c => ?_) (fun _ => ?_)
        · have c := of_decide_eq_true c
          refine ⟨_, rfl, Or.inl ⟨rfl, _, SqL.of hp⟩, _, rfl, _, rfl, _, _, rfl, rfl, .inl ⟨by decide, by decide⟩, _, rfl, _, _, rfl, rfl, _, _, rfl, fun z => ?_⟩
          refine ⟨p, _, _, rfl, rfl, hp, (by rw [List.length_map]; exact Nat.lt_of_lt_of_le (show rs.length < 20000 by omega) (by decide)), ?_⟩
          refine ⟨rs ++ [z], _, rfl, fun b o e => ?_, ?_, by rw [List.length_append, List.length_singleton]; omega, by rw [List.length_append, List.length_singleton]; omega⟩
          · rw [upd_ne (ne_of_none e np)]
            exact s3 b o e
          · rw [upd_same, map_snoc]
        · exact ⟨rs, _, rfl, s3, hp, by omega, hm2⟩
      · rintro σ H3 ⟨rs, jv, rfl, s3, hp, h60, hm2⟩
        exact ⟨rs, _, _, _, rfl, s3, hp, by omega, hm2⟩
  · rintro σ H2 ⟨rs, kv, rv, jv, rfl, s2, hp, h60, hm2⟩
    -- return {..}
    intro d nd
    have npd : p ≠ d := ne_of_none hp nd
    have hp' : (upd H2 d (.dK [])) p = some (.lst (rs.map V.int)) := by rw [upd_ne npd]; exact hp
    refine ⟨_, rfl, _, rfl, _, _, rfl, .inl ⟨_, SqL.of hp', rfl⟩, ?_⟩
    refine ⟨upd_same, drK p 0 (rs.length : Int), ?_, (by show 3 ≤ 15; decide), ?_⟩
    · rw [List.length_map]
      rfl
    · rw [drK_merge, upd_upd]
      refine q d _ p (rs.length : Int) rs (fun b o e => ?_) (s2.free nd) upd_same ?_ npd (by omega) hm2
      · rw [upd_ne (ne_of_none (s2 b o e) nd)]
        exact s2 b o e
      · rw [upd_ne npd]
        exact hp
end Rm

/-! Lx: the tokens of a text as plain functions over codes; no Python here. -/
namespace Lx
def isLet (c : Nat) : Bool := (decide (65 ≤ c) && decide (c ≤ 90)) || (decide (97 ≤ c) && decide (c ≤ 122))
def isDig (c : Nat) : Bool := decide (48 ≤ c) && decide (c ≤ 57)
def isWP (c : Nat) : Bool := isLet c || (isDig c || c == 95)
/-- behind spaces, newlines and comments (true: within a comment) -/
def skip : Bool → List Nat → Int → Int → List Nat × Int × Int
  | _, [], r, c => ([], r, c)
  | true, x :: xs, r, c => if x = 10 then skip false xs (r + 1) 1 else skip true xs r (c + 1)
  | false, x :: xs, r, c => if x = 10 then skip false xs (r + 1) 1 else if x = 32 then skip false xs r (c + 1) else if x = 35 then skip true xs r (c + 1) else (x :: xs, r, c)
inductive Kd where
  | name | number | keyword | sign | fin
  deriving DecidableEq
structure Tk where
  kind : Kd
  text : List Nat
  row : Int
  col : Int
  deriving DecidableEq
inductive Er where
  | char | num
  deriving DecidableEq
abbrev codes (s : String) : List Nat := s.toList.map Char.toNat
def kwL : List (List Nat) := ["method", "main", "object", "const", "var", "parent", "let", "print", "return", "if", "else", "while", "put", "drop", "resend", "fn", "call", "self", "true", "false", "nothing", "div", "mod"].map codes
def longL : List (List Nat) := [":=", "==", "<="].map codes
def shortL : List (List Nat) := ["{", "}", "(", ")", ",", ";", ".", "=", "+", "-", "*", "<"].map codes
def val (l : List Nat) : Nat := l.foldl (fun a c => a * 10 + (c - 48)) 0
def isNum (w : List Nat) : Bool := w.all isDig && (!(decide (1 < w.length) && (w.head? == some 48)) && (decide (w.length ≤ 13) && decide (val w ≤ 1000000000000)))
def word (l : List Nat) : List Nat := l.takeWhile isWP
def kindOf (w : List Nat) : Kd := if w ∈ kwL then .keyword else .name
/-- the token at the beginning of x :: xs, what is behind it, and its place -/
def step (x : Nat) (xs : List Nat) (r c : Int) : Except (Er × Int × Int) (Tk × List Nat × Int × Int) :=
  if isLet x then .ok (⟨kindOf (word (x :: xs)), word (x :: xs), r, c⟩, (x :: xs).drop (word (x :: xs)).length, r, c + (word (x :: xs)).length)
  else if isDig x then
    if isNum (word (x :: xs)) then .ok (⟨.number, word (x :: xs), r, c⟩, (x :: xs).drop (word (x :: xs)).length, r, c + (word (x :: xs)).length) else .error (.num, r, c)
  else if (x :: xs).take 2 ∈ longL then .ok (⟨.sign, (x :: xs).take 2, r, c⟩, (x :: xs).drop 2, r, c + 2)
  else if [x] ∈ shortL then .ok (⟨.sign, [x], r, c⟩, xs, r, c + 1)
  else .error (.char, r, c)
abbrev Out := List Tk × Option (Er × Int × Int)
def lexF : Nat → List Nat → Int → Int → Out
  | 0, _, _, _ => ([], none)
  | n + 1, l, r, c => match skip false l r c with
    | ([], r', c') => ([⟨.fin, [], r', c'⟩], none)
    | (x :: xs, r', c') => match step x xs r' c' with
      | .error e => ([], some e)
      | .ok (t, l', r2, c2) => (t :: (lexF n l' r2 c2).1, (lexF n l' r2 c2).2)
def lex (l : List Nat) (r c : Int) : Out := lexF (l.length + 1) l r c

theorem skip_len : ∀ (b : Bool) (l : List Nat) (r c : Int), (skip b l r c).1.length ≤ l.length
  | _, [], r, c => by simp [skip]
  | true, x :: xs, r, c => by
    unfold skip
    split
    · exact Nat.le_succ_of_le (skip_len false xs _ _)
    · exact Nat.le_succ_of_le (skip_len true xs _ _)
  | false, x :: xs, r, c => by
    unfold skip
    split
    · exact Nat.le_succ_of_le (skip_len false xs _ _)
    · split
      · exact Nat.le_succ_of_le (skip_len false xs _ _)
      · split
        · exact Nat.le_succ_of_le (skip_len true xs _ _)
        · exact Nat.le_refl _
theorem skip_idem : ∀ (b : Bool) (l : List Nat) (r c : Int), skip false (skip b l r c).1 (skip b l r c).2.1 (skip b l r c).2.2 = skip b l r c
  | true, [], r, c => rfl
  | false, [], r, c => rfl
  | true, x :: xs, r, c => by
    by_cases h : x = 10
    · have e : skip true (x :: xs) r c = skip false xs (r + 1) 1 := by rw [skip, if_pos h]
      rw [e]; exact skip_idem false xs _ _
    · have e : skip true (x :: xs) r c = skip true xs r (c + 1) := by rw [skip, if_neg h]
      rw [e]; exact skip_idem true xs _ _
  | false, x :: xs, r, c => by
    by_cases h : x = 10
    · have e : skip false (x :: xs) r c = skip false xs (r + 1) 1 := by rw [skip, if_pos h]
      rw [e]; exact skip_idem false xs _ _
    · by_cases h2 : x = 32
      · have e : skip false (x :: xs) r c = skip false xs r (c + 1) := by rw [skip, if_neg h, if_pos h2]
        rw [e]; exact skip_idem false xs _ _
      · by_cases h3 : x = 35
        · have e : skip false (x :: xs) r c = skip true xs r (c + 1) := by rw [skip, if_neg h, if_neg h2, if_pos h3]
          rw [e]; exact skip_idem true xs _ _
        · have e : skip false (x :: xs) r c = (x :: xs, r, c) := by rw [skip, if_neg h, if_neg h2, if_neg h3]
          rw [e]; exact e
theorem takeWhile_len (p : Nat → Bool) : ∀ l : List Nat, (l.takeWhile p).length ≤ l.length
  | [] => Nat.le_refl _
  | x :: xs => by
    rw [List.takeWhile_cons]
    split
    · exact Nat.succ_le_succ (takeWhile_len p xs)
    · exact Nat.zero_le _
theorem word_pos {x : Nat} {xs : List Nat} (h : isWP x = true) : 0 < (word (x :: xs)).length := by
  unfold word
  rw [List.takeWhile_cons, if_pos h]
  exact Nat.succ_pos _
theorem word_len (l : List Nat) : (word l).length ≤ l.length := takeWhile_len _ l
theorem step_len {x : Nat} {xs : List Nat} {r c : Int} {t : Tk} {l' : List Nat} {r2 c2 : Int} (h : step x xs r c = .ok (t, l', r2, c2)) : l'.length < (x :: xs).length := by
  unfold step at h
  have wl := word_len (x :: xs)
  have drop_lt : ∀ n, 0 < n → n ≤ (x :: xs).length → ((x :: xs).drop n).length < (x :: xs).length := fun n h1 h2 => by rw [List.length_drop]; omega
  split at h
  · rename_i h1
    cases h
    exact drop_lt _ (word_pos (by unfold isWP; rw [h1]; rfl)) wl
  · split at h
    · rename_i h1 h2
      split at h
      · cases h
        exact drop_lt _ (word_pos (by unfold isWP; rw [h2]; simp)) wl
      · cases h
    · split at h
      · rename_i h3
        cases h
        have : 2 ≤ (x :: xs).length := by
          have e : ∀ w ∈ longL, w.length = 2 := by decide +kernel
          have q := e _ h3
          rw [List.length_take] at q
          omega
        exact drop_lt 2 (by decide) this
      · split at h
        · cases h
          exact Nat.lt_succ_self _
        · cases h
theorem lexF_fuel : ∀ (n m : Nat) (l : List Nat) (r c : Int), l.length < n → l.length < m → lexF n l r c = lexF m l r c
  | 0, _, l, _, _, h, _ => absurd h (Nat.not_lt_zero _)
  | _, 0, l, _, _, _, h => absurd h (Nat.not_lt_zero _)
  | n + 1, m + 1, l, r, c, h1, h2 => by
    unfold lexF
    have sl := skip_len false l r c
    rcases e : skip false l r c with ⟨_ | ⟨x, xs⟩, r', c'⟩
    · rfl
    · rw [e] at sl
      simp only
      cases es : step x xs r' c' with
      | error e => rfl
      | ok q =>
        obtain ⟨t, l', r2, c2⟩ := q
        have := step_len es
        have sl' : (x :: xs).length ≤ l.length := sl
        simp only
        rw [lexF_fuel n m l' r2 c2 (by omega) (by omega)]
theorem lex_eq (l : List Nat) (r c : Int) : lex l r c = match skip false l r c with
    | ([], r', c') => ([⟨.fin, [], r', c'⟩], none)
    | (x :: xs, r', c') => match step x xs r' c' with
      | .error e => ([], some e)
      | .ok (t, l', r2, c2) => (t :: (lex l' r2 c2).1, (lex l' r2 c2).2) := by
  unfold lex
  rw [lexF]
  have sl := skip_len false l r c
  rcases e : skip false l r c with ⟨_ | ⟨x, xs⟩, r', c'⟩
  · rfl
  · rw [e] at sl
    simp only
    cases es : step x xs r' c' with
    | error e => rfl
    | ok q =>
      obtain ⟨t, l', r2, c2⟩ := q
      have := step_len es
      have sl' : (x :: xs).length ≤ l.length := sl
      simp only
      rw [lexF_fuel l.length (l'.length + 1) l' r2 c2 (by omega) (by omega)]
/-- what is skipped changes nothing -/
theorem lex_skip {l l2 : List Nat} {r c r2 c2 : Int} (h : skip false l r c = skip false l2 r2 c2) : lex l r c = lex l2 r2 c2 := by
  rw [lex_eq, lex_eq, h]
theorem lex_end {l : List Nat} {r c r' c' : Int} (h : skip false l r c = ([], r', c')) : lex l r c = ([⟨.fin, [], r', c'⟩], none) := by
  rw [lex_eq, h]
theorem lex_tok {l : List Nat} {x : Nat} {xs : List Nat} {r c r' c' : Int} {t : Tk} {l' : List Nat} {r2 c2 : Int} (h : skip false l r c = (x :: xs, r', c')) (hs : step x xs r' c' = .ok (t, l', r2, c2)) :
    lex l r c = (t :: (lex l' r2 c2).1, (lex l' r2 c2).2) := by
  rw [lex_eq, h]
  simp only [hs]
theorem lex_err {l : List Nat} {x : Nat} {xs : List Nat} {r c r' c' : Int} {e : Er × Int × Int} (h : skip false l r c = (x :: xs, r', c')) (hs : step x xs r' c' = .error e) : lex l r c = ([], some e) := by
  rw [lex_eq, h]
  simp only [hs]
theorem skip_here {x : Nat} {xs : List Nat} {r c : Int} (h : x ≠ 10 ∧ x ≠ 32 ∧ x ≠ 35) : skip false (x :: xs) r c = (x :: xs, r, c) := by
  rw [skip, if_neg h.1, if_neg h.2.1, if_neg h.2.2]
/-! ### places -/
def adv : List Nat → Int → Int → Int × Int
  | [], r, c => (r, c)
  | x :: xs, r, c => if x = 10 then adv xs (r + 1) 1 else adv xs r (c + 1)
theorem adv_append : ∀ (a b : List Nat) (r c : Int), adv (a ++ b) r c = adv b (adv a r c).1 (adv a r c).2
  | [], b, r, c => rfl
  | x :: xs, b, r, c => by
    show (if x = 10 then adv (xs ++ b) (r + 1) 1 else adv (xs ++ b) r (c + 1)) = _
    by_cases h : x = 10
    · rw [if_pos h, adv, if_pos h]; exact adv_append xs b _ _
    · rw [if_neg h, adv, if_neg h]; exact adv_append xs b _ _
theorem adv_flat : ∀ (a : List Nat) (r c : Int), 10 ∉ a → adv a r c = (r, c + a.length)
  | [], r, c, _ => by simp [adv]
  | x :: xs, r, c, h => by
    have h1 : x ≠ 10 := fun e => h (by simp [e])
    rw [adv, if_neg h1, adv_flat xs r (c + 1) fun m => h (List.mem_cons_of_mem _ m), List.length_cons]
    congr 1
    omega
/-- gaps: whatever follows, they are skipped whole -/
def Gap (g : List Nat) : Prop := ∀ (rest : List Nat) (r c : Int), skip false (g ++ rest) r c = skip false rest (adv g r c).1 (adv g r c).2
theorem Gap.nil : Gap [] := fun _ _ _ => rfl
theorem Gap.append {a b : List Nat} (h1 : Gap a) (h2 : Gap b) : Gap (a ++ b) := fun rest r c => by
  rw [List.append_assoc, h1, h2, adv_append]
/-- a run of the scanner's skipping over a gap, by computation: the end is not within a comment -/
def gapB : Bool → List Nat → Bool
  | b, [] => !b
  | true, x :: xs => if x = 10 then gapB false xs else gapB true xs
  | false, x :: xs => if x = 10 then gapB false xs else if x = 32 then gapB false xs else if x = 35 then gapB true xs else false
theorem gapB_ok : ∀ (b : Bool) (g : List Nat), gapB b g = true → ∀ (rest : List Nat) (r c : Int), skip b (g ++ rest) r c = skip false rest (adv g r c).1 (adv g r c).2
  | true, [], h, rest, r, c => by cases h
  | false, [], h, rest, r, c => rfl
  | true, x :: xs, h, rest, r, c => by
    show skip true (x :: (xs ++ rest)) r c = _
    rw [skip, adv]
    rw [gapB] at h
    by_cases e : x = 10
    · rw [if_pos e] at h ⊢; rw [if_pos e]; exact gapB_ok false xs h rest _ _
    · rw [if_neg e] at h ⊢; rw [if_neg e]; exact gapB_ok true xs h rest _ _
  | false, x :: xs, h, rest, r, c => by
    show skip false (x :: (xs ++ rest)) r c = _
    rw [skip, adv]
    rw [gapB] at h
    by_cases e : x = 10
    · rw [if_pos e] at h ⊢; rw [if_pos e]; exact gapB_ok false xs h rest _ _
    · rw [if_neg e] at h ⊢; rw [if_neg e]
      by_cases e2 : x = 32
      · rw [if_pos e2] at h ⊢; exact gapB_ok false xs h rest _ _
      · rw [if_neg e2] at h ⊢
        by_cases e3 : x = 35
        · rw [if_pos e3] at h ⊢; exact gapB_ok true xs h rest _ _
        · rw [if_neg e3] at h; cases h
theorem Gap.of {g : List Nat} (h : gapB false g = true) : Gap g := gapB_ok false g h
/-- a comment at the end of the text -/
theorem skip_comment : ∀ (l : List Nat) (r c : Int), 10 ∉ l → skip true l r c = ([], r, c + l.length)
  | [], r, c, _ => by simp [skip]
  | x :: xs, r, c, h => by
    have h1 : x ≠ 10 := fun e => h (by simp [e])
    rw [skip, if_neg h1, skip_comment xs r (c + 1) fun m => h (List.mem_cons_of_mem _ m), List.length_cons]
    congr 2
    omega
end Lx

/-! S0: texts of one newline; the scanner's fields; what the defs of the tokens promise. -/
namespace Rm
open PySem PySem.Spec PyProof.Rows L2 Lx
/-- the text of these codes -/
abbrev Tx (l : List Nat) : Str := ⟨l.toArray⟩
theorem Tx_len (l : List Nat) : (Tx l).length = l.length := rfl
theorem Tx_inj {a b : List Nat} (h : Tx a = Tx b) : a = b := by
  have := congrArg (fun s : Str => s.cps.toList) h
  exact this
theorem Tx_of (s : String) : Str.ofString s = Tx (codes s) := by
  have h := TL.tl_ofString s
  exact TL.ext_tl h
theorem Tx_app (a b : List Nat) : Tx a ++ Tx b = Tx (a ++ b) := TL.ext_tl (by rw [TL.tl_append])
theorem nl1 : ("\n" : Str) = ⟨#[10]⟩ := by decide +kernel
theorem small_len {n : Nat} (h : n ≤ 10000000) : n ≤ sizeLine := Nat.le_trans h (by decide)
/-! ### one letter -/
theorem let_ok : ∀ c < 128, Txt.isalpha ⟨#[c]⟩ = isLet c := by decide +kernel
theorem dig_ok : ∀ c < 128, PySem.Unicode.isDigit c = isDig c := by decide +kernel
theorem ascii1 (c : Nat) : Txt.isascii ⟨#[c]⟩ = decide (c < 128) := by
  show (#[c] : Array Nat).all (fun x => decide (x < 128)) = _
  simp
theorem isLet_lt {c : Nat} (h : isLet c = true) : c < 128 := by
  unfold isLet at h
  simp at h
  omega
theorem isDig_lt {c : Nat} (h : isDig c = true) : c < 128 := by
  unfold isDig at h
  simp at h
  omega
theorem isWP_lt {c : Nat} (h : isWP c = true) : c < 128 := by
  unfold isWP at h
  simp only [Bool.or_eq_true] at h
  rcases h with h | h | h
  · exact isLet_lt h
  · exact isDig_lt h
  · have := beq_iff_eq.mp h
    omega
theorem digits_mem (c : Nat) : decide (c ∈ ("0123456789" : Str).cps.toList) = isDig c := by
  rw [show ("0123456789" : Str).cps.toList = [48, 49, 50, 51, 52, 53, 54, 55, 56, 57] by decide +kernel]
  unfold isDig
  rw [Bool.eq_iff_iff]
  simp
  omega
theorem under1 : ("_" : Str) = ⟨#[95]⟩ := by decide +kernel
theorem dec_one (a b : Nat) : decide (V.str ⟨#[a]⟩ = V.str ⟨#[b]⟩) = decide (a = b) := by
  rw [Bool.eq_iff_iff]
  simp
/-! ### finding newlines -/
theorem find_nl (l : List Nat) (i : Nat) (h : i ≤ l.length) : Txt.find3 (Tx l) ("\n" : Str) (i : Int) = (if i + ((l.drop i).takeWhile (fun c => c != 10)).length = l.length then -1 else ((i + ((l.drop i).takeWhile (fun c => c != 10)).length : Nat) : Int)) := by
  rw [nl1]
  have hf : PySem.fromIndex (Tx l).length (i : Int) = i := by
    unfold PySem.fromIndex
    rw [if_neg (by omega)]
    omega
  have hget : ∀ v, v < l.length → (Tx l).cps.getD v 0 = l.getD v 0 := fun v hv => by simp [Array.getD, hv]
  -- the takeWhile
  have key : ∀ (m : List Nat) (k : Nat), (∀ v, v < k → v < m.length → m.getD v 0 ≠ 10) → k ≤ m.length → (k = m.length ∨ m.getD k 0 = 10) → (m.takeWhile (fun c => c != 10)).length = k := by
    intro m
    induction m with
    | nil =>
      intro k _ hk _
      simp at hk
      simp [hk]
    | cons x xs ih =>
      intro k hv hk he
      cases k with
      | zero =>
        rcases he with he | he
        · simp at he
        · have e : x = 10 := by simpa using he
          simp [e]
      | succ k =>
        have e : x ≠ 10 := by simpa using hv 0 (by omega) (by simp)
        rw [List.takeWhile_cons, if_pos (by simpa using e), List.length_cons]
        refine congrArg Nat.succ (ih k (fun v h1 h2 => ?_) (by simpa using hk) ?_)
        · have q := hv (v + 1) (by omega) (by simpa using h2)
          simpa using q
        · rcases he with he | he
          · exact .inl (by simpa using he)
          · exact .inr (by simpa using he)
  have dropget : ∀ v, (l.drop i).getD v 0 = l.getD (i + v) 0 := fun v => by simp [List.getD_eq_getElem?_getD, List.getElem?_drop]
  rcases StrLaws.find3_spec (Tx l) 10 (i : Int) with ⟨h0, hn⟩ | ⟨k, h0, h1, h2, h3, h4⟩
  · rw [hf] at hn
    have e := key (l.drop i) (l.drop i).length (fun v _ hv => by
      rw [dropget]
      rw [List.length_drop] at hv
      have q := hn (i + v) (by omega) (by show i + v < l.length; omega)
      rw [hget _ (by omega)] at q
      exact q) (Nat.le_refl _) (.inl rfl)
    rw [h0, e, List.length_drop, if_pos (by omega)]
  · rw [hf] at h1 h4
    have h2' : k < l.length := h2
    have e := key (l.drop i) (k - i) (fun v hk hv => by
      rw [dropget]
      have q := h4 (i + v) (by omega) (by omega)
      rw [hget _ (by omega)] at q
      exact q) (by rw [List.length_drop]; omega) (.inr (by rw [dropget, show i + (k - i) = k by omega, ← hget k h2']; exact h3))
    rw [h0, e, show i + (k - i) = k by omega, if_neg (by omega)]
/-! ### the place of a text's end: rows by count, columns by rfind -/
theorem cnt_adv : ∀ (l : List Nat) (r c : Int), (adv l r c).1 = r + PyProof.Rows.cnt 10 l
  | [], r, c => by simp [adv, PyProof.Rows.cnt_nil]
  | x :: xs, r, c => by
    rw [PyProof.Rows.cnt_cons, adv]
    by_cases h : x = 10
    · rw [if_pos h, if_pos h, cnt_adv xs]
      omega
    · rw [if_neg h, if_neg h, cnt_adv xs]
      omega
/-- the column behind a text: counted from its last newline -/
theorem adv_col : ∀ (a b : List Nat) (r c : Int), 10 ∉ b → (adv (a ++ 10 :: b) r c).2 = b.length + 1
  | [], b, r, c, h => by
    show (if (10 : Nat) = 10 then adv b (r + 1) 1 else adv b r (c + 1)).2 = _
    rw [if_pos rfl, adv_flat b _ _ h]
    show (1 : Int) + b.length = _
    omega
  | x :: xs, b, r, c, h => by
    show (if x = 10 then adv (xs ++ 10 :: b) (r + 1) 1 else adv (xs ++ 10 :: b) r (c + 1)).2 = _
    split
    · exact adv_col xs b _ _ h
    · exact adv_col xs b _ _ h
theorem place_ok (l : List Nat) : Txt.count (Tx l) ("\n" : Str) + 1 = (adv l 1 1).1 ∧ ((l.length : Int) - Txt.rfind (Tx l) ("\n" : Str)) = (adv l 1 1).2 := by
  refine ⟨?_, ?_⟩
  · rw [nl1, PyProof.Rows.count_cnt, cnt_adv]
    show cnt 10 l + 1 = 1 + cnt 10 l
    omega
  · rw [nl1]
    unfold Txt.rfind
    rcases StrLaws.last_spec (Tx l) ⟨#[10]⟩ with ⟨h0, hn⟩ | ⟨i, h0, hi, hn⟩
    · rw [h0]
      have hno : 10 ∉ l := fun hm => by
        obtain ⟨v, hv, e⟩ := List.mem_iff_getElem.mp hm
        exact hn v ((StrLaws.subAt_one (Tx l) 10 v).mpr (by show l[v]? = some 10; rw [List.getElem?_eq_getElem hv, e]))
      rw [adv_flat l 1 1 hno]
      show (l.length : Int) - (-1) = 1 + (l.length : Int)
      omega
    · rw [h0]
      have e1 : l[i]? = some 10 := (StrLaws.subAt_one (Tx l) 10 i).mp hi
      obtain ⟨hlt, e2⟩ := List.getElem?_eq_some_iff.mp e1
      have hno : 10 ∉ l.drop (i + 1) := fun hm => by
        obtain ⟨v, hv, e⟩ := List.mem_iff_getElem.mp hm
        rw [List.length_drop] at hv
        refine hn (i + 1 + v) (by omega) ((StrLaws.subAt_one (Tx l) 10 (i + 1 + v)).mpr ?_)
        show l[i + 1 + v]? = some 10
        rw [List.getElem_drop] at e
        rw [List.getElem?_eq_getElem (by omega), e]
      have el : l = l.take i ++ 10 :: l.drop (i + 1) := by
        rw [← e2, ← List.drop_eq_getElem_cons hlt, List.take_append_drop]
      have q := adv_col (l.take i) (l.drop (i + 1)) 1 1 hno
      rw [← el] at q
      rw [q, List.length_drop]
      show (l.length : Int) - (i : Int) = ((l.length - (i + 1) : Nat) : Int) + 1
      omega
end Rm

/-! S1: the tokens' defs: promises, readings (by gen.py), and that the readings keep the promises. -/
namespace Rm
open PySem PySem.Spec PyProof.Rows L2 Lx
/-- what is wanted where an error of the class of this name is raised with a row and a column -/
abbrev EWT := Str → Int → Int → XK → Hp → Prop
def kdS : Kd → Str
  | .name => "name"
  | .number => "number"
  | .keyword => "keyword"
  | .sign => "sign"
  | .fin => "end"
def erS : Er → Str
  | .char => "BadCharacter"
  | .num => "BadNumber"
def tkV (t : Tk) : List V := [.str (kdS t.kind), .str (Tx t.text), .int t.row, .int t.col]
abbrev CS (K : PySem.W.Frag) : Addr := He.ga K ("Scanner" : Str)
def scF (l : List Nat) (i r c : Int) : List (Str × V) := [("text", .str (Tx l)), ("at", .int i), ("row", .int r), ("column", .int c)]
theorem neTA : ¬ (("text" : Str) = "at") := by decide +kernel
theorem neTR : ¬ (("text" : Str) = "row") := by decide +kernel
theorem neTC : ¬ (("text" : Str) = "column") := by decide +kernel
theorem neAR : ¬ (("at" : Str) = "row") := by decide +kernel
theorem neAC : ¬ (("at" : Str) = "column") := by decide +kernel
theorem neRC : ¬ (("row" : Str) = "column") := by decide +kernel
section
variable {l : List Nat} {i r c j : Int}
theorem scF_text : (scF l i r c).lookup ("text" : Str) = some (.str (Tx l)) := lk_eq
theorem scF_at : (scF l i r c).lookup ("at" : Str) = some (.int i) := by
  unfold scF
  rw [lk_ne (Ne.symm neTA), lk_eq]
theorem scF_row : (scF l i r c).lookup ("row" : Str) = some (.int r) := by
  unfold scF
  rw [lk_ne (Ne.symm neTR), lk_ne (Ne.symm neAR), lk_eq]
theorem scF_col : (scF l i r c).lookup ("column" : Str) = some (.int c) := by
  unfold scF
  rw [lk_ne (Ne.symm neTC), lk_ne (Ne.symm neAC), lk_ne (Ne.symm neRC), lk_eq]
theorem scF_no {m : Str} (h1 : ¬ m = "text") (h2 : ¬ m = "at") (h3 : ¬ m = "row") (h4 : ¬ m = "column") : (scF l i r c).lookup m = none := by
  unfold scF
  rw [lk_ne h1, lk_ne h2, lk_ne h3, lk_ne h4]
  rfl
theorem scF_pat : putF ("at" : Str) (.int j) (scF l i r c) = scF l j r c := by
  unfold scF
  rw [pf_ne neTA, pf_eq]
theorem scF_prow : putF ("row" : Str) (.int j) (scF l i r c) = scF l i j c := by
  unfold scF
  rw [pf_ne neTR, pf_ne neAR, pf_eq]
theorem scF_pcol : putF ("column" : Str) (.int j) (scF l i r c) = scF l i r j := by
  unfold scF
  rw [pf_ne neTC, pf_ne neAC, pf_ne neRC, pf_eq]
theorem scF_len : (scF l i r c).length < 1000 := by
  show 4 < 1000
  decide
theorem scF_init : putF ("column" : Str) (.int c) (putF ("row" : Str) (.int r) (putF ("at" : Str) (.int i) (putF ("text" : Str) (.str (Tx l)) []))) = scF l i r c := by
  rw [pf_nil, pf_ne neTA, pf_nil, pf_ne neTR, pf_ne neAR, pf_nil, pf_ne neTC, pf_ne neAC, pf_ne neRC, pf_nil]
  rfl
end
structure ScC (K : PySem.W.Frag) : Prop where
  cl : Cls K (CS K)
  nt : NoAttr K (CS K) "text"
  na : NoAttr K (CS K) "at"
  nr : NoAttr K (CS K) "row"
  nc : NoAttr K (CS K) "column"
theorem upd_self {H : Hp} {a : Addr} {o : HO} (h : H a = some o) : upd H a o = H := by
  funext b
  by_cases e : b = a
  · rw [e, upd_same, h]
  · rw [upd_ne e]
/-! ### promises -/
def sp_is_letter (K : PySem.W.Frag) : Sp := fun vs H Q _ => ∃ c : Nat, vs = [.str ⟨#[c]⟩] ∧ Q (.bl (isLet c)) H
def sp_is_word_part (K : PySem.W.Frag) : Sp := fun vs H Q _ => ∃ c : Nat, vs = [.str ⟨#[c]⟩] ∧ Q (.bl (isWP c)) H
def sp_is_number (K : PySem.W.Frag) : Sp := fun vs H Q _ => ∃ w : List Nat, vs = [.str (Tx w)] ∧ w ≠ [] ∧ w.length ≤ 10000000 ∧ (∀ x ∈ w, isWP x = true) ∧ Q (.bl (isNum w)) H
def sp_word_kind (K : PySem.W.Frag) : Sp := fun vs H Q _ => ∃ w : List Nat, vs = [.str (Tx w)] ∧ Q (.str (kdS (kindOf w))) H
/-- a scanner at p: its text, how far it has read, row and column -/
def Sc (K : PySem.W.Frag) (H : Hp) (p dx : Addr) (l : List Nat) (i : Nat) (r c : Int) : Prop := H p = some (.ins (CS K) dx (scF l (i : Int) r c)) ∧ l.length ≤ 10000000 ∧ i ≤ l.length
abbrev scO (K : PySem.W.Frag) (dx : Addr) (l : List Nat) (i : Nat) (r c : Int) : HO := .ins (CS K) dx (scF l (i : Int) r c)
def sp_Scanner_init (K : PySem.W.Frag) : Sp := fun vs H Q _ => ∃ (p dx : Addr) (l : List Nat), vs = [.ref p, .str (Tx l)] ∧ H p = some (.ins (CS K) dx []) ∧ Q .non (upd H p (scO K dx l 0 1 1))
def sp_Scanner_is_done (K : PySem.W.Frag) : Sp := fun vs H Q _ => ∃ (p dx : Addr) (l : List Nat) (i : Nat) (r c : Int), vs = [.ref p] ∧ Sc K H p dx l i r c ∧ Q (.bl (decide (i = l.length))) H
def sp_Scanner_skip_newline (K : PySem.W.Frag) : Sp := fun vs H Q _ => ∃ (p dx : Addr) (l : List Nat) (i : Nat) (r c : Int), vs = [.ref p] ∧ Sc K H p dx l i r c ∧ Q .non (upd H p (scO K dx l (i + 1) (r + 1) 1))
abbrev rowLen (l : List Nat) : Nat := (l.takeWhile (fun c => c != 10)).length
def sp_Scanner_row_end (K : PySem.W.Frag) : Sp := fun vs H Q _ => ∃ (p dx : Addr) (l : List Nat) (i : Nat) (r c : Int), vs = [.ref p] ∧ Sc K H p dx l i r c ∧ Q (.int ((i + rowLen (l.drop i) : Nat) : Int)) H
def sp_Scanner_word_end (K : PySem.W.Frag) : Sp := fun vs H Q _ => ∃ (p dx : Addr) (l : List Nat) (i : Nat) (r c : Int), vs = [.ref p] ∧ Sc K H p dx l i r c ∧ Q (.int ((i + (word (l.drop i)).length : Nat) : Int)) H
def sp_Scanner_take_to (K : PySem.W.Frag) : Sp := fun vs H Q _ => ∃ (p dx : Addr) (l : List Nat) (i n : Nat) (r c : Int), vs = [.ref p, .int ((i + n : Nat) : Int)] ∧ Sc K H p dx l i r c ∧ i + n ≤ l.length ∧
  Q (.str (Tx ((l.drop i).take n))) (upd H p (scO K dx l (i + n) r (c + n)))
def sp_Scanner_skip_gaps (K : PySem.W.Frag) : Sp := fun vs H Q _ => ∃ (p dx : Addr) (l : List Nat) (i : Nat) (r c : Int), vs = [.ref p] ∧ Sc K H p dx l i r c ∧
  ∀ (j : Nat) (r2 c2 : Int), j ≤ l.length → skip false (l.drop i) r c = (l.drop j, r2, c2) → Q .non (upd H p (scO K dx l j r2 c2))
/-- at a place that is no gap and not the end: a sign -/
def sp_Scanner_take_sign (K : PySem.W.Frag) (EW : EWT) : Sp := fun vs H Q E => ∃ (p dx : Addr) (l : List Nat) (i : Nat) (r c : Int) (x : Nat) (xs : List Nat), vs = [.ref p] ∧ Sc K H p dx l i r c ∧ l.drop i = x :: xs ∧ isLet x = false ∧ isDig x = false ∧
  (∀ t (n : Nat), i + n ≤ l.length → Lx.step x xs r c = .ok (⟨.sign, t, r, c⟩, l.drop (i + n), r, c + n) → Q (.str (Tx t)) (upd H p (scO K dx l (i + n) r (c + n)))) ∧ (Lx.step x xs r c = .error (.char, r, c) → EW "BadCharacter" r c E H)
def sp_Scanner_take_token (K : PySem.W.Frag) (EW : EWT) : Sp := fun vs H Q E => ∃ (p dx : Addr) (l : List Nat) (i : Nat) (r c : Int) (x : Nat) (xs : List Nat), vs = [.ref p] ∧ Sc K H p dx l i r c ∧ l.drop i = x :: xs ∧
  (∀ (t : Tk) (n : Nat) (q : Addr) (H' : Hp), i + n ≤ l.length → Lx.step x xs r c = .ok (t, l.drop (i + n), r, c + n) → H q = none → H' = upd (upd H p (scO K dx l (i + n) r (c + n))) q (.tup (tkV t)) → Q (.ref q) H') ∧
  (∀ (e : Er) (H' : Hp), Lx.step x xs r c = .error (e, r, c) → (H' = H ∨ ∃ n : Nat, H' = upd H p (scO K dx l (i + n) r (c + n))) → EW (erS e) r c E H')
/-- a list of tokens at p: tuples -/
def TksAt (H : Hp) (p : Addr) (ts : List Tk) : Prop := ∃ qs : List Addr, H p = some (.lst (qs.map V.ref)) ∧ qs.length = ts.length ∧ ∀ (k : Nat) (q : Addr) (t : Tk), qs[k]? = some q → ts[k]? = some t → H q = some (.tup (tkV t))
def sp_tokens (K : PySem.W.Frag) (EW : EWT) : Sp := fun vs H Q E => ∃ l : List Nat, vs = [.str (Tx l)] ∧ l.length ≤ 10000000 ∧
  (∀ (ts : List Tk) (p : Addr) (H' : Hp), lex l 1 1 = (ts, none) → H p = none → Same H H' → TksAt H' p ts → Q (.ref p) H') ∧
  (∀ (ts : List Tk) (e : Er) (r c : Int) (H' : Hp), lex l 1 1 = (ts, some (e, r, c)) → Same H H' → EW (erS e) r c E H')
/-! ### readings -/

def ns_is_letter : List Str := ["char"]
def t_is_letter (K : PySem.W.Frag) (E : XK) : TS :=
  (tRet (tAndV (tBM0 K "str" rIsascii (tVar 0)) (tBM0 K "str" rIsalpha (tVar 0))))

def ns_is_word_part : List Str := ["char"]
def t_is_word_part (K : PySem.W.Frag) (E : XK) : TS :=
  (tRet (tOrV (tCall (sp_is_letter K) [] E (tCons (tVar 0) tNil)) (tOrV (tOp rInSign (tVar 0) (tC (.str ("0123456789" : Str)))) (tOp rEq (tVar 0) (tC (.str ("_" : Str)))))))

def ns_is_number : List Str := ["word"]
def t_is_number (K : PySem.W.Frag) (E : XK) : TS :=
  (tSeq (tIfS (tOr (tNot (tB (tBM0 K "str" rIsascii (tVar 0)))) (tNot (tB (tBM0 K "str" rIsdigit (tVar 0)))))
      (tRet (tC (.bl false)))
      tNext)
    (tSeq (tIfS (tAnd (tTest (tOp rGtI (tCB rLenS (tCons (tVar 0) tNil)) (tC (.int 1)))) (tTest (tOp rEq (tOp rIxS (tVar 0) (tC (.int 0))) (tC (.str ("0" : Str))))))
      (tRet (tC (.bl false)))
      tNext)
    (tRet (tAndV (tOp rLeI (tCB rLenS (tCons (tVar 0) tNil)) (tC (.int 13))) (tOp rLeI (tCB rIntS (tCons (tVar 0) tNil)) (tC (.int 1000000000000)))))))

def ns_word_kind : List Str := ["word"]
def t_word_kind (K : PySem.W.Frag) (E : XK) : TS :=
  (tSeq (tIfS (tTest (tOp (rIn K false) (tVar 0) (tC (.ref (He.ga K ("KEYWORDS" : Str))))))
      (tRet (tC (.str ("keyword" : Str))))
      tNext)
    (tRet (tC (.str ("name" : Str)))))

def ns_Scanner_init : List Str := ["self", "text"]
def t_Scanner_init (K : PySem.W.Frag) (E : XK) : TS :=
  (tSeq (sFld K (tVar 0) (tVar 1) ("text" : Str))
    (tSeq (sFld K (tVar 0) (tC (.int 0)) ("at" : Str))
    (tSeq (sFld K (tVar 0) (tC (.int 1)) ("row" : Str))
    (sFld K (tVar 0) (tC (.int 1)) ("column" : Str)))))

def ns_Scanner_is_done : List Str := ["self"]
def t_Scanner_is_done (K : PySem.W.Frag) (E : XK) : TS :=
  (tRet (tOp rEq (tFld K (tVar 0) ("at" : Str)) (tCB rLenS (tCons (tFld K (tVar 0) ("text" : Str)) tNil))))

def ns_Scanner_skip_newline : List Str := ["self"]
def t_Scanner_skip_newline (K : PySem.W.Frag) (E : XK) : TS :=
  (tSeq (sFldAug K (tVar 0) (tC (.int 1)) rAdd ("at" : Str))
    (tSeq (sFldAug K (tVar 0) (tC (.int 1)) rAdd ("row" : Str))
    (sFld K (tVar 0) (tC (.int 1)) ("column" : Str))))

def ns_Scanner_row_end : List Str := ["self", "end"]
def t_Scanner_row_end (K : PySem.W.Frag) (E : XK) : TS :=
  (tSeq (tAsg (tBM K "str" rFind3 (tFld K (tVar 0) ("text" : Str)) (tCons (tC (.str ("\n" : Str))) (tCons (tFld K (tVar 0) ("at" : Str)) tNil))) (gName 1))
    (tSeq (tIfS (tTest (tOp rEq (tVar 1) (tUn rNegI (tC (.int 1)))))
      (tRet (tCB rLenS (tCons (tFld K (tVar 0) ("text" : Str)) tNil)))
      tNext)
    (tRet (tVar 1))))

def ns_Scanner_word_end : List Str := ["self", "end"]
def t_Scanner_word_end (K : PySem.W.Frag) (E : XK) : TS :=
  (tSeq (tAsg (tFld K (tVar 0) ("at" : Str)) (gName 1))
    (tSeq (tWhile (tAnd (tTest (tOp rLtI (tVar 1) (tCB rLenS (tCons (tFld K (tVar 0) ("text" : Str)) tNil)))) (tB (tCall (sp_is_word_part K) [] E (tCons (tOp rIxS (tFld K (tVar 0) ("text" : Str)) (tVar 1)) tNil))))
      (tAug 1 (tC (.int 1)) (ipI fun i j => i + j)))
    (tRet (tVar 1))))

def ns_Scanner_take_to : List Str := ["self", "end", "taken"]
def t_Scanner_take_to (K : PySem.W.Frag) (E : XK) : TS :=
  (tSeq (tAsg (tSl rSlS (tFld K (tVar 0) ("text" : Str)) (oSome (tFld K (tVar 0) ("at" : Str))) (oSome (tVar 1))) (gName 2))
    (tSeq (sFldAug K (tVar 0) (tOp rSubI (tVar 1) (tFld K (tVar 0) ("at" : Str))) rAdd ("column" : Str))
    (tSeq (sFld K (tVar 0) (tVar 1) ("at" : Str))
    (tRet (tVar 2)))))

def ns_Scanner_skip_gaps : List Str := ["self", "char"]
def t_Scanner_skip_gaps (K : PySem.W.Frag) (E : XK) : TS :=
  (tWhile (tNot (tB (tMeth (He.ga K ("Scanner" : Str)) ("is_done" : Str) (sp_Scanner_is_done K) [] E (tVar 0) tNil)))
      (tSeq (tAsg (tOp rIxS (tFld K (tVar 0) ("text" : Str)) (tFld K (tVar 0) ("at" : Str))) (gName 1))
    (tIfS (tTest (tOp rEq (tVar 1) (tC (.str ("\n" : Str)))))
      (tDrop (tMeth (He.ga K ("Scanner" : Str)) ("skip_newline" : Str) (sp_Scanner_skip_newline K) [] E (tVar 0) tNil))
      (tIfS (tTest (tOp rEq (tVar 1) (tC (.str (" " : Str)))))
      (tDrop (tMeth (He.ga K ("Scanner" : Str)) ("take_to" : Str) (sp_Scanner_take_to K) [] E (tVar 0) (tCons (tOp rAddI (tFld K (tVar 0) ("at" : Str)) (tC (.int 1))) tNil)))
      (tIfS (tTest (tOp rEq (tVar 1) (tC (.str ("#" : Str)))))
      (tDrop (tMeth (He.ga K ("Scanner" : Str)) ("take_to" : Str) (sp_Scanner_take_to K) [] E (tVar 0) (tCons (tMeth (He.ga K ("Scanner" : Str)) ("row_end" : Str) (sp_Scanner_row_end K) [] E (tVar 0) tNil) tNil)))
      tRetN)))))

def ns_Scanner_take_sign : List Str := ["self", "pair"]
def t_Scanner_take_sign (K : PySem.W.Frag) (EW : EWT) (E : XK) (rz0 : TS) : TS :=
  (tSeq (tAsg (tSl rSlS (tFld K (tVar 0) ("text" : Str)) (oSome (tFld K (tVar 0) ("at" : Str))) (oSome (tOp rAddI (tFld K (tVar 0) ("at" : Str)) (tC (.int 2))))) (gName 1))
    (tSeq (tIfS (tTest (tOp (rIn K false) (tVar 1) (tC (.ref (He.ga K ("LONG_SIGNS" : Str))))))
      (tRet (tMeth (He.ga K ("Scanner" : Str)) ("take_to" : Str) (sp_Scanner_take_to K) [] E (tVar 0) (tCons (tOp rAddI (tFld K (tVar 0) ("at" : Str)) (tC (.int 2))) tNil)))
      tNext)
    (tSeq (tIfS (tTest (tOp (rIn K false) (tOp rIxS (tFld K (tVar 0) ("text" : Str)) (tFld K (tVar 0) ("at" : Str))) (tC (.ref (He.ga K ("SHORT_SIGNS" : Str))))))
      (tRet (tMeth (He.ga K ("Scanner" : Str)) ("take_to" : Str) (sp_Scanner_take_to K) [] E (tVar 0) (tCons (tOp rAddI (tFld K (tVar 0) ("at" : Str)) (tC (.int 1))) tNil)))
      tNext)
    rz0)))

def ns_Scanner_take_token : List Str := ["self", "row", "column", "char", "word"]
def t_Scanner_take_token (K : PySem.W.Frag) (EW : EWT) (E : XK) (rz0 : TS) : TS :=
  (tSeq (tAsg (tFld K (tVar 0) ("row" : Str)) (gName 1))
    (tSeq (tAsg (tFld K (tVar 0) ("column" : Str)) (gName 2))
    (tSeq (tAsg (tOp rIxS (tFld K (tVar 0) ("text" : Str)) (tFld K (tVar 0) ("at" : Str))) (gName 3))
    (tSeq (tIfS (tB (tCall (sp_is_letter K) [] E (tCons (tVar 3) tNil)))
      (tSeq (tAsg (tMeth (He.ga K ("Scanner" : Str)) ("take_to" : Str) (sp_Scanner_take_to K) [] E (tVar 0) (tCons (tMeth (He.ga K ("Scanner" : Str)) ("word_end" : Str) (sp_Scanner_word_end K) [] E (tVar 0) tNil) tNil)) (gName 4))
    (tRet (tTup (tCons (tCall (sp_word_kind K) [] E (tCons (tVar 4) tNil)) (tCons (tVar 4) (tCons (tVar 1) (tCons (tVar 2) tNil)))))))
      tNext)
    (tSeq (tIfS (tTest (tOp rInSign (tVar 3) (tC (.str ("0123456789" : Str)))))
      (tSeq (tAsg (tMeth (He.ga K ("Scanner" : Str)) ("take_to" : Str) (sp_Scanner_take_to K) [] E (tVar 0) (tCons (tMeth (He.ga K ("Scanner" : Str)) ("word_end" : Str) (sp_Scanner_word_end K) [] E (tVar 0) tNil) tNil)) (gName 4))
    (tSeq (tIfS (tNot (tB (tCall (sp_is_number K) [] E (tCons (tVar 4) tNil))))
      rz0
      tNext)
    (tRet (tTup (tCons (tC (.str ("number" : Str))) (tCons (tVar 4) (tCons (tVar 1) (tCons (tVar 2) tNil))))))))
      tNext)
    (tRet (tTup (tCons (tC (.str ("sign" : Str))) (tCons (tMeth (He.ga K ("Scanner" : Str)) ("take_sign" : Str) (sp_Scanner_take_sign K EW) [] E (tVar 0) tNil) (tCons (tVar 1) (tCons (tVar 2) tNil)))))))))))

def ns_tokens : List Str := ["text", "scanner", "found"]
def t_tokens (K : PySem.W.Frag) (EW : EWT) (E : XK) : TS :=
  (tSeq (tAsg (tMake (He.ga K ("Scanner" : Str)) (sp_Scanner_init K) [] E (tCons (tVar 0) tNil)) (gName 1))
    (tSeq (tAsg (tLst tNil) (gName 2))
    (tSeq (tDrop (tMeth (He.ga K ("Scanner" : Str)) ("skip_gaps" : Str) (sp_Scanner_skip_gaps K) [] E (tVar 1) tNil))
    (tSeq (tWhile (tNot (tB (tMeth (He.ga K ("Scanner" : Str)) ("is_done" : Str) (sp_Scanner_is_done K) [] E (tVar 1) tNil)))
      (tSeq (tDrop (tBM K "list" rAppend (tVar 2) (tCons (tMeth (He.ga K ("Scanner" : Str)) ("take_token" : Str) (sp_Scanner_take_token K EW) [] E (tVar 1) tNil) tNil)))
    (tDrop (tMeth (He.ga K ("Scanner" : Str)) ("skip_gaps" : Str) (sp_Scanner_skip_gaps K) [] E (tVar 1) tNil))))
    (tSeq (tDrop (tBM K "list" rAppend (tVar 2) (tCons (tTup (tCons (tC (.str ("end" : Str))) (tCons (tC (.str ("" : Str))) (tCons (tFld K (tVar 1) ("row" : Str)) (tCons (tFld K (tVar 1) ("column" : Str)) tNil))))) tNil)))
    (tRet (tVar 2)))))))

/-! ### runs -/
theorem _root_.L2.Same.put {H H' : Hp} {a : Addr} {o : HO} (s : Same H H') (n : H a = none) : Same H (upd H' a o) := fun b u e => by
  rw [upd_ne (ne_of_none e n)]
  exact s b u e
theorem bf {b : Bool} (h : ¬ b = true) : b = false := Bool.eq_false_iff.mpr h
section
variable {K : PySem.W.Frag} {vs : List V} {H : Hp} {Q : VK} {E : XK}
theorem run_is_letter (h : sp_is_letter K vs H Q E) : t_is_letter K E (DQ Q) (start ns_is_letter vs) H := by
  obtain ⟨c, rfl, q⟩ := h
  refine ⟨_, rfl, rfl, _, rfl, rfl, trivial, _, rfl, ?_⟩
  rw [ascii1]
  refine ite2 (fun h => ?_) (fun h => ?_)
  · have h := of_decide_eq_true h
    refine ⟨_, rfl, rfl, _, rfl, rfl, trivial, ?_⟩
    rw [let_ok c h]
    exact q
  · have e : isLet c = false := by
      cases e : isLet c with
      | false => rfl
      | true => exact absurd (decide_eq_true (isLet_lt e)) h
    show Q (.bl false) H
    rw [← e]
    exact q
theorem run_is_word_part (h : sp_is_word_part K vs H Q E) : t_is_word_part K E (DQ Q) (start ns_is_word_part vs) H := by
  obtain ⟨c, rfl, q⟩ := h
  refine ⟨_, rfl, c, rfl, _, rfl, ?_⟩
  have e : isWP c = (isLet c || (isDig c || c == 95)) := rfl
  refine ite2 (fun h => ?_) (fun h => ?_)
  · rw [e, h] at q
    exact q
  · have h := bf h
    refine ⟨_, rfl, c, _, rfl, rfl, _, rfl, ?_⟩
    rw [digits_mem]
    refine ite2 (fun h2 => ?_) (fun h2 => ?_)
    · rw [e, h, h2] at q
      exact q
    · have h2 := bf h2
      refine ⟨_, rfl, rfl, ?_⟩
      rw [under1, dec_one]
      rw [e, h, h2] at q
      rw [Bool.false_or, Bool.false_or] at q
      rw [show decide (c = 95) = (c == 95) by rw [Bool.beq_eq_decide_eq]]
      exact q
theorem isdigit_ok {w : List Nat} (hne : w ≠ []) (hw : ∀ x ∈ w, isWP x = true) : Txt.isdigit (Tx w) = w.all isDig := by
  have h1 : (Tx w).length > 0 := List.length_pos_iff.mpr hne
  show (decide ((Tx w).length > 0) && w.toArray.all PySem.Unicode.isDigit) = _
  rw [decide_eq_true h1, Bool.true_and, List.all_toArray]
  rw [Bool.eq_iff_iff, List.all_eq_true, List.all_eq_true]
  exact ⟨fun h x hx => by rw [← dig_ok x (isWP_lt (hw x hx))]; exact h x hx, fun h x hx => by rw [dig_ok x (isWP_lt (hw x hx))]; exact h x hx⟩
theorem isascii_ok {w : List Nat} (hw : ∀ x ∈ w, isWP x = true) : Txt.isascii (Tx w) = true := by
  show w.toArray.all (fun x => decide (x < 128)) = true
  rw [List.all_toArray, List.all_eq_true]
  exact fun x hx => decide_eq_true (isWP_lt (hw x hx))
theorem run_is_number (h : sp_is_number K vs H Q E) : t_is_number K E (DQ Q) (start ns_is_number vs) H := by
  obtain ⟨w, rfl, hne, hl, hw, q⟩ := h
  refine ⟨_, rfl, rfl, _, rfl, rfl, trivial, _, rfl, ?_⟩
  rw [isascii_ok hw]
  refine iteF ?_
  refine ⟨_, rfl, rfl, _, rfl, rfl, trivial, _, rfl, ?_⟩
  rw [isdigit_ok hne hw]
  have e : isNum w = (w.all isDig && (!(decide (1 < w.length) && (w.head? == some 48)) && (decide (w.length ≤ 13) && decide (val w ≤ 1000000000000)))) := rfl
  refine ite2 (fun h => ?_) (fun h => ?_)
  · have h : w.all isDig = false := by simpa using h
    rw [e, h] at q
    exact q
  · have h : w.all isDig = true := by simpa using h
    have hz : (Tx w).length ≤ sizeLine := small_len hl
    have hpos : 0 < w.length := List.length_pos_iff.mpr hne
    refine ⟨_, rfl, _, rfl, hz, _, _, rfl, rfl, _, rfl, ?_⟩
    have e1 : decide ((1 : Int) < ((Tx w).length : Int)) = decide (1 < w.length) := by
      rw [Tx_len]
      exact decide_eq_decide.mpr (by omega)
    rw [e1]
    have tail : (decide (1 < w.length) && (w.head? == some 48)) = false →
        (tRet (tAndV (tOp rLeI (tCB rLenS (tCons (tVar 0) tNil)) (tC (.int 13))) (tOp rLeI (tCB rIntS (tCons (tVar 0) tNil)) (tC (.int 1000000000000))))) (DQ Q) (start ns_is_number [V.str (Tx w)]) H := fun hh => by
      rw [e, h, hh] at q
      rw [Bool.true_and, Bool.not_false, Bool.true_and] at q
      refine ⟨_, rfl, _, rfl, hz, _, _, rfl, rfl, _, rfl, ?_⟩
      have e2 : decide (((Tx w).length : Int) ≤ 13) = decide (w.length ≤ 13) := by
        rw [Tx_len]
        exact decide_eq_decide.mpr (by omega)
      rw [e2]
      refine ite2 (fun h3 => ?_) (fun h3 => ?_)
      · have h3' := of_decide_eq_true h3
        have hd : NumText.AllDigits (Tx w).cps.toList := fun x hx => by
          have q := List.all_eq_true.mp h x hx
          unfold isDig at q
          simp at q
          exact q
        have hi := intText_digits hd (by exact hne) (by show w.length ≤ 4300; omega)
        refine ⟨_, rfl, _, _, rfl, hi, (by show w.length ≤ 640; omega), _, _, rfl, rfl, ?_⟩
        have e3 : decide (((NumText.digitsVal (Tx w).cps.toList : Nat) : Int) ≤ 1000000000000) = decide (val w ≤ 1000000000000) := by
          show decide (((val w : Nat) : Int) ≤ 1000000000000) = _
          exact decide_eq_decide.mpr (by omega)
        show Q (.bl (decide (((NumText.digitsVal (Tx w).cps.toList : Nat) : Int) ≤ 1000000000000))) H
        rw [e3]
        rw [h3, Bool.true_and] at q
        exact q
      · have h3 := bf h3
        rw [h3, Bool.false_and] at q
        exact q
    refine ite2 (fun h2 => ?_) (fun h2 => ?_)
    · obtain ⟨c, cs, rfl⟩ : ∃ c cs, w = c :: cs := by
        cases w with
        | nil => exact absurd rfl hne
        | cons c cs => exact ⟨c, cs, rfl⟩
      refine ⟨_, rfl, _, _, c, rfl, rfl, hz, atI_nat (j := 0) rfl, rfl, _, rfl, ?_⟩
      rw [show ("0" : Str) = ⟨#[48]⟩ by decide +kernel, dec_one]
      refine ite2 (fun h3 => ?_) (fun h3 => ?_)
      · have h3 := of_decide_eq_true h3
        have e4 : (decide (1 < (c :: cs).length) && ((c :: cs).head? == some 48)) = true := by rw [h2, h3]; simp
        rw [e, h, e4] at q
        exact q
      · refine tail ?_
        rw [h2]
        have : ¬ c = 48 := fun z => h3 (decide_eq_true z)
        simp [this]
    · refine iteF (tail ?_)
      rw [bf h2]
      rfl
theorem in_list (L : List (List Nat)) (w : List Nat) : inV (.str (Tx w)) (L.map fun k => V.str (Tx k)) = decide (w ∈ L) := by
  unfold inV
  rw [Bool.eq_iff_iff, List.any_eq_true, decide_eq_true_iff]
  constructor
  · rintro ⟨v, hv, e⟩
    obtain ⟨k, hk, rfl⟩ := List.mem_map.mp hv
    have e : (Tx k == Tx w) = true := e
    have := Tx_inj (beq_iff_eq.mp e)
    rw [← this]
    exact hk
  · intro h
    exact ⟨V.str (Tx w), List.mem_map.mpr ⟨w, h, rfl⟩, by show (Tx w == Tx w) = true; simp⟩
theorem take_word : ∀ l : List Nat, l.take (word l).length = word l
  | [] => rfl
  | x :: xs => by
    unfold word
    rw [List.takeWhile_cons]
    split
    · rw [List.length_cons, List.take_succ_cons]
      exact congrArg (x :: ·) (take_word xs)
    · rfl
theorem word_all : ∀ (l : List Nat), ∀ y ∈ word l, isWP y = true
  | [], y, h => by cases h
  | x :: xs, y, h => by
    unfold word at h
    rw [List.takeWhile_cons] at h
    split at h
    · rename_i hx
      rcases List.mem_cons.mp h with rfl | h
      · exact hx
      · exact word_all xs y h
    · cases h
theorem flat_map (l : List (List Nat)) : (l.map fun k => V.str (Tx k)).all flatV = true := by
  rw [List.all_eq_true]
  intro v hv
  obtain ⟨k, _, rfl⟩ := List.mem_map.mp hv
  rfl
theorem run_word_kind (hK : ∀ H, SqT K H (He.ga K ("KEYWORDS" : Str)) (kwL.map fun k => V.str (Tx k))) (h : sp_word_kind K vs H Q E) : t_word_kind K E (DQ Q) (start ns_word_kind vs) H := by
  obtain ⟨w, rfl, q⟩ := h
  refine ⟨_, rfl, _, _, rfl, .inr (hK H), rfl, flat_map _, _, rfl, ?_⟩
  rw [if_neg Bool.false_ne_true, in_list]
  have e : kindOf w = if w ∈ kwL then .keyword else .name := rfl
  refine ite2 (fun h => ?_) (fun h => ?_)
  · rw [e, if_pos (of_decide_eq_true h)] at q
    exact q
  · rw [e, if_neg (fun z => h (decide_eq_true z))] at q
    exact q
theorem skip_true : ∀ (l : List Nat) (r c : Int), skip true l r c = skip false (l.drop (rowLen l)) r (c + (rowLen l : Nat))
  | [], r, c => by
    show ([], r, c) = ([], r, c + ((0 : Nat) : Int))
    rw [Int.natCast_zero, Int.add_zero]
  | x :: xs, r, c => by
    unfold rowLen
    rw [List.takeWhile_cons]
    by_cases h : x = 10
    · rw [skip, if_pos h, if_neg (by simp [h])]
      show _ = skip false (x :: xs) r _
      rw [skip, if_pos h]
    · rw [skip, if_neg h, if_pos (by simpa using h), skip_true xs r (c + 1), List.length_cons, List.drop_succ_cons]
      congr 1
      unfold rowLen
      omega
theorem cut_any (l : List Nat) (i n : Nat) : cutS (Tx l) (some (i : Int)) (some ((i + n : Nat) : Int)) = Tx ((l.drop i).take n) := by
  unfold cutS
  rw [HT.sIx_nat, HT.sIx_nat, Tx_len]
  refine TL.ext_tl ?_
  show (l.drop (min i l.length)).take (min (i + n) l.length - min i l.length) = (l.drop i).take n
  by_cases h : i ≤ l.length
  · rw [Nat.min_eq_left h]
    by_cases h2 : i + n ≤ l.length
    · rw [Nat.min_eq_left h2, Nat.add_sub_cancel_left]
    · rw [Nat.min_eq_right (by omega), List.take_of_length_le (by rw [List.length_drop]; omega), List.take_of_length_le (by rw [List.length_drop]; omega)]
  · rw [Nat.min_eq_right (show l.length ≤ i by omega), List.drop_eq_nil_of_le (Nat.le_refl _), List.drop_eq_nil_of_le (show l.length ≤ i by omega), List.take_nil, List.take_nil]
theorem cut_ok (l : List Nat) (i n : Nat) (h : i + n ≤ l.length) : cutS (Tx l) (some (i : Int)) (some ((i + n : Nat) : Int)) = Tx ((l.drop i).take n) := by
  unfold cutS
  rw [HT.sIx_nat, HT.sIx_nat, Tx_len, Nat.min_eq_left (show i ≤ l.length by omega), Nat.min_eq_left h, Nat.add_sub_cancel_left]
theorem drop_cons {l : List Nat} {i : Nat} (h : i < l.length) : l.drop i = l[i] :: l.drop (i + 1) := List.drop_eq_getElem_cons h
section
variable (S : ScC K)
include S
theorem run_Scanner_init (h : sp_Scanner_init K vs H Q E) : t_Scanner_init K E (DQ Q) (start ns_Scanner_init vs) H := by
  obtain ⟨p, dx, l, rfl, hp, q⟩ := h
  refine ⟨_, rfl, _, rfl, p, _, dx, _, rfl, hp, S.cl, S.nt, (by show 0 < 1000; decide), ?_⟩
  refine ⟨_, rfl, p, _, dx, _, rfl, upd_same, S.cl, S.na, (by show 1 < 1000; decide), ?_⟩
  rw [upd_upd]
  refine ⟨_, rfl, p, _, dx, _, rfl, upd_same, S.cl, S.nr, (by rw [pf_nil, pf_ne neTA, pf_nil]; show 2 < 1000; decide), ?_⟩
  rw [upd_upd]
  refine ⟨_, rfl, p, _, dx, _, rfl, upd_same, S.cl, S.nc, (by rw [pf_nil, pf_ne neTA, pf_nil, pf_ne neTR, pf_ne neAR, pf_nil]; show 3 < 1000; decide), ?_⟩
  rw [upd_upd, scF_init]
  exact q
theorem run_Scanner_is_done (h : sp_Scanner_is_done K vs H Q E) : t_Scanner_is_done K E (DQ Q) (start ns_Scanner_is_done vs) H := by
  obtain ⟨p, dx, l, i, r, c, rfl, ⟨hp, hl, hi⟩, q⟩ := h
  refine ⟨_, rfl, p, _, dx, _, _, rfl, hp, S.cl, S.na, scF_at, _, rfl, p, _, dx, _, _, rfl, hp, S.cl, S.nt, scF_text, _, rfl, small_len hl, rfl, ?_⟩
  rw [dec_int]
  have e : ((i : Int) == ((Tx l).length : Int)) = decide (i = l.length) := by
    rw [Tx_len, Bool.beq_eq_decide_eq]
    exact decide_eq_decide.mpr (by omega)
  rw [e]
  exact q
theorem run_Scanner_skip_newline (h : sp_Scanner_skip_newline K vs H Q E) : t_Scanner_skip_newline K E (DQ Q) (start ns_Scanner_skip_newline vs) H := by
  obtain ⟨p, dx, l, i, r, c, rfl, ⟨hp, hl, hi⟩, q⟩ := h
  refine ⟨_, rfl, p, _, dx, _, _, rfl, hp, S.cl, S.na, scF_at, _, _, rfl, rfl, dx, _, hp, scF_len, ?_⟩
  rw [scF_pat]
  refine ⟨_, rfl, p, _, dx, _, _, rfl, upd_same, S.cl, S.nr, scF_row, _, _, rfl, rfl, dx, _, upd_same, scF_len, ?_⟩
  rw [upd_upd, scF_prow]
  refine ⟨_, rfl, p, _, dx, _, rfl, upd_same, S.cl, S.nc, scF_len, ?_⟩
  rw [upd_upd, scF_pcol]
  exact q
theorem run_Scanner_row_end (h : sp_Scanner_row_end K vs H Q E) : t_Scanner_row_end K E (DQ Q) (start ns_Scanner_row_end vs) H := by
  obtain ⟨p, dx, l, i, r, c, rfl, ⟨hp, hl, hi⟩, q⟩ := h
  refine ⟨_, rfl, p, _, dx, _, _, rfl, hp, S.cl, S.nt, scF_text, rfl, _, rfl, p, _, dx, _, _, rfl, hp, S.cl, S.na, scF_at, _, _, _, rfl, rfl, ?_⟩
  rw [find_nl l i hi]
  by_cases e : i + ((l.drop i).takeWhile (fun c => c != 10)).length = l.length
  · rw [if_pos e]
    refine ⟨_, rfl, _, rfl, rfl, _, rfl, iteT ?_⟩
    refine ⟨_, rfl, p, _, dx, _, _, rfl, hp, S.cl, S.nt, scF_text, _, rfl, small_len hl, ?_⟩
    rw [Tx_len, ← e]
    exact q
  · rw [if_neg e]
    refine ⟨_, rfl, _, rfl, rfl, _, rfl, ?_⟩
    rw [dec_int, show ((((i + ((l.drop i).takeWhile (fun c => c != 10)).length : Nat) : Int)) == -1) = false by rw [Bool.beq_eq_decide_eq]; exact decide_eq_false (by omega)]
    refine iteF ⟨_, rfl, q⟩
theorem run_Scanner_word_end (h : sp_Scanner_word_end K vs H Q E) : t_Scanner_word_end K E (DQ Q) (start ns_Scanner_word_end vs) H := by
  obtain ⟨p, dx, l, i, r, c, rfl, ⟨hp, hl, hi⟩, q⟩ := h
  refine ⟨_, rfl, p, _, dx, _, _, rfl, hp, S.cl, S.na, scF_at, ?_⟩
  refine ⟨fun m σ H' => H' = H ∧ ∃ j : Nat, m = l.length - j ∧ σ = [some (.ref p), some (.int (j : Int))] ∧ j ≤ l.length ∧ i + (word (l.drop i)).length = j + (word (l.drop j)).length, ⟨_, rfl, i, rfl, rfl, hi, rfl⟩, ?_⟩
  rintro m σ H' ⟨rfl, j, rfl, rfl, hj, e⟩
  refine ⟨_, rfl, _, rfl, p, _, dx, _, _, rfl, hp, S.cl, S.nt, scF_text, _, rfl, small_len hl, _, _, rfl, rfl, _, rfl, ?_⟩
  have fin : (word (l.drop j)).length = 0 → (tRet (tVar 1)) (DQ Q) [some (.ref p), some (.int (j : Int))] H' := fun hz => by
    refine ⟨_, rfl, ?_⟩
    rw [hz, Nat.add_zero] at e
    rw [← e]
    exact q
  by_cases hlt : j < l.length
  · rw [decide_eq_true (show (j : Int) < ((Tx l).length : Int) by rw [Tx_len]; omega)]
    refine iteT ?_
    refine ⟨_, rfl, p, _, dx, _, _, rfl, hp, S.cl, S.nt, scF_text, _, rfl, _, _, l[j], rfl, rfl, small_len hl, atI_nat (j := j) (by rw [List.getElem?_eq_getElem hlt]), l[j], rfl, _, rfl, ?_⟩
    refine ite2 (fun h => ?_) (fun h => ?_)
    · refine ⟨fun σ' H'' => H'' = H' ∧ ∃ j2 : Nat, σ' = [some (.ref p), some (.int (j2 : Int))] ∧ j2 = j + 1, ?_, ?_⟩
      · rintro σ' H'' ⟨rfl, j2, rfl, rfl⟩
        refine ⟨l.length - (j + 1), by omega, rfl, j + 1, rfl, rfl, hlt, ?_⟩
        rw [e, drop_cons hlt]
        unfold word
        rw [List.takeWhile_cons, if_pos h, List.length_cons]
        omega
      · exact ⟨_, rfl, _, _, rfl, rfl, rfl, j + 1, rfl, rfl⟩
    · refine fin ?_
      rw [drop_cons hlt]
      unfold word
      rw [List.takeWhile_cons, if_neg h]
      rfl
  · rw [decide_eq_false (show ¬ (j : Int) < ((Tx l).length : Int) by rw [Tx_len]; omega)]
    refine iteF (fin ?_)
    rw [List.drop_eq_nil_of_le (by omega)]
    rfl
theorem run_Scanner_take_to (h : sp_Scanner_take_to K vs H Q E) : t_Scanner_take_to K E (DQ Q) (start ns_Scanner_take_to vs) H := by
  obtain ⟨p, dx, l, i, n, r, c, rfl, ⟨hp, hl, hi⟩, hn, q⟩ := h
  refine ⟨_, rfl, p, _, dx, _, _, rfl, hp, S.cl, S.nt, scF_text, ?_⟩
  refine ⟨_, rfl, p, _, dx, _, _, rfl, hp, S.cl, S.na, scF_at, _, rfl, _, rfl, _, rfl, _, rfl, small_len hl, ?_⟩
  rw [cut_ok l i n hn]
  refine ⟨_, rfl, p, _, dx, _, _, rfl, hp, S.cl, S.nc, scF_col, _, rfl, _, rfl, p, _, dx, _, _, rfl, hp, S.cl, S.na, scF_at, _, _, rfl, rfl, _, _, rfl, rfl, dx, _, hp, scF_len, ?_⟩
  rw [scF_pcol]
  refine ⟨_, rfl, _, rfl, p, _, dx, _, rfl, upd_same, S.cl, S.na, scF_len, ?_⟩
  rw [upd_upd, scF_pat, show c + (((i + n : Nat) : Int) - (i : Int)) = c + n by omega]
  exact ⟨_, rfl, q⟩
theorem run_Scanner_skip_gaps (h : sp_Scanner_skip_gaps K vs H Q E) : t_Scanner_skip_gaps K E (DQ Q) (start ns_Scanner_skip_gaps vs) H := by
  obtain ⟨p, dx, l, i, r, c, rfl, ⟨hp, hl, hi⟩, q⟩ := h
  refine ⟨fun m σ H' => ∃ (j : Nat) (r2 c2 : Int) (cv : Option V), m = l.length - j ∧ σ = [some (.ref p), cv] ∧ H' = upd H p (scO K dx l j r2 c2) ∧ j ≤ l.length ∧ skip false (l.drop i) r c = skip false (l.drop j) r2 c2,
    ⟨_, i, r, c, none, rfl, rfl, (upd_self hp).symm, hi, rfl⟩, ?_⟩
  rintro m σ H' ⟨j, r2, c2, cv, rfl, rfl, rfl, hj, e⟩
  refine ⟨_, rfl, p, dx, _, rfl, upd_same, scF_no (by decide +kernel) (by decide +kernel) (by decide +kernel) (by decide +kernel), p, dx, l, j, r2, c2, rfl, ⟨upd_same, hl, hj⟩, _, rfl, ?_⟩
  by_cases hlt : j < l.length
  · rw [decide_eq_false (show ¬ j = l.length by omega)]
    refine iteT ⟨fun σ' H'' => ∃ m', m' < l.length - j ∧ ∃ (j2 : Nat) (r3 c3 : Int) (cv : Option V), m' = l.length - j2 ∧ σ' = [some (.ref p), cv] ∧ H'' = upd H p (scO K dx l j2 r3 c3) ∧ j2 ≤ l.length ∧ skip false (l.drop i) r c = skip false (l.drop j2) r3 c3, fun _ _ z => z, ?_⟩
    have ed := drop_cons hlt
    refine ⟨_, rfl, p, _, dx, _, _, rfl, upd_same, S.cl, S.nt, scF_text, _, rfl, p, _, dx, _, _, rfl, upd_same, S.cl, S.na, scF_at, _, _, l[j], rfl, rfl, small_len hl, atI_nat (j := j) (by rw [List.getElem?_eq_getElem hlt]), ?_⟩
    refine ⟨_, rfl, rfl, _, rfl, ?_⟩
    rw [nl1, dec_one]
    refine ite2 (fun h => ?_) (fun h => ?_)
    · have h := of_decide_eq_true h
      refine ⟨_, rfl, p, dx, _, rfl, upd_same, scF_no (by decide +kernel) (by decide +kernel) (by decide +kernel) (by decide +kernel), p, dx, l, j, r2, c2, rfl, ⟨upd_same, hl, hj⟩, ?_⟩
      rw [upd_upd]
      refine ⟨l.length - (j + 1), by omega, j + 1, r2 + 1, 1, _, rfl, rfl, rfl, hlt, ?_⟩
      rw [e, ed, skip, if_pos h]
    · have h : ¬ l[j] = 10 := fun z => h (decide_eq_true z)
      refine ⟨_, rfl, rfl, _, rfl, ?_⟩
      rw [show (" " : Str) = ⟨#[32]⟩ by decide +kernel, dec_one]
      refine ite2 (fun h2 => ?_) (fun h2 => ?_)
      · have h2 := of_decide_eq_true h2
        refine ⟨_, rfl, p, dx, _, rfl, upd_same, scF_no (by decide +kernel) (by decide +kernel) (by decide +kernel) (by decide +kernel), _, rfl, p, _, dx, _, _, rfl, upd_same, S.cl, S.na, scF_at, _, _, rfl, rfl,
          p, dx, l, j, 1, r2, c2, rfl, ⟨upd_same, hl, hj⟩, hlt, ?_⟩
        rw [upd_upd]
        refine ⟨l.length - (j + 1), by omega, j + 1, r2, c2 + 1, _, rfl, rfl, rfl, hlt, ?_⟩
        rw [e, ed, skip, if_neg h, if_pos h2]
      · have h2 : ¬ l[j] = 32 := fun z => h2 (decide_eq_true z)
        refine ⟨_, rfl, rfl, _, rfl, ?_⟩
        rw [show ("#" : Str) = ⟨#[35]⟩ by decide +kernel, dec_one]
        refine ite2 (fun h3 => ?_) (fun h3 => ?_)
        · have h3 := of_decide_eq_true h3
          have hr : rowLen (l.drop j) = rowLen (l.drop (j + 1)) + 1 := by
            rw [ed]
            show (List.takeWhile (fun c => c != 10) (l[j] :: l.drop (j + 1))).length = _
            rw [List.takeWhile_cons, if_pos (by simpa using h)]
            rfl
          have hrl : rowLen (l.drop j) ≤ (l.drop j).length := takeWhile_len _ _
          rw [List.length_drop] at hrl
          refine ⟨_, rfl, p, dx, _, rfl, upd_same, scF_no (by decide +kernel) (by decide +kernel) (by decide +kernel) (by decide +kernel), _, rfl, p, dx, _, rfl, upd_same, scF_no (by decide +kernel) (by decide +kernel) (by decide +kernel) (by decide +kernel),
            p, dx, l, j, r2, c2, rfl, ⟨upd_same, hl, hj⟩, p, dx, l, j, rowLen (l.drop j), r2, c2, rfl, ⟨upd_same, hl, hj⟩, by omega, ?_⟩
          rw [upd_upd]
          refine ⟨l.length - (j + rowLen (l.drop j)), by omega, j + rowLen (l.drop j), r2, c2 + (rowLen (l.drop j) : Nat), _, rfl, rfl, rfl, by omega, ?_⟩
          rw [e, ed, skip, if_neg h, if_neg h2, if_pos h3, skip_true, List.drop_drop, ← ed, hr]
          congr 1
          · congr 1
            omega
          · omega
        · have h3 : ¬ l[j] = 35 := fun z => h3 (decide_eq_true z)
          refine q j r2 c2 hj ?_
          rw [e, ed, skip_here ⟨h, h2, h3⟩]
  · rw [decide_eq_true (show j = l.length by omega)]
    refine iteF (q j r2 c2 hj ?_)
    rw [e, List.drop_eq_nil_of_le (by omega)]
    rfl
theorem run_Scanner_take_sign {EW : EWT} {rz0 : TS} (hLg : ∀ H, SqT K H (He.ga K ("LONG_SIGNS" : Str)) (longL.map fun k => V.str (Tx k))) (hSh : ∀ H, SqT K H (He.ga K ("SHORT_SIGNS" : Str)) (shortL.map fun k => V.str (Tx k)))
    (hz : ∀ (D : Ends) (σ : L2.St) (H : Hp) (p dx : Addr) (l : List Nat) (i : Nat) (r c : Int), σ[0]? = some (some (.ref p)) → Sc K H p dx l i r c → EW "BadCharacter" r c E H → rz0 D σ H)
    (h : sp_Scanner_take_sign K EW vs H Q E) : t_Scanner_take_sign K EW E rz0 (DQ Q) (start ns_Scanner_take_sign vs) H := by
  obtain ⟨p, dx, l, i, r, c, x, xs, rfl, ⟨hp, hl, hi⟩, ed, h1, h2, q, qe⟩ := h
  have hlt : i < l.length := by
    have := congrArg List.length ed
    rw [List.length_drop, List.length_cons] at this
    omega
  have hx : l[i]? = some x := by
    have := congrArg List.head? ed
    rw [List.head?_drop] at this
    exact this
  have est : Lx.step x xs r c = if (x :: xs).take 2 ∈ longL then .ok (⟨.sign, (x :: xs).take 2, r, c⟩, (x :: xs).drop 2, r, c + 2) else if [x] ∈ shortL then .ok (⟨.sign, [x], r, c⟩, xs, r, c + 1) else .error (.char, r, c) := by
    unfold Lx.step
    rw [if_neg (by rw [h1]; exact Bool.false_ne_true), if_neg (by rw [h2]; exact Bool.false_ne_true)]
  refine ⟨_, rfl, p, _, dx, _, _, rfl, hp, S.cl, S.nt, scF_text, _, rfl, p, _, dx, _, _, rfl, hp, S.cl, S.na, scF_at, _, rfl, _, rfl, p, _, dx, _, _, rfl, hp, S.cl, S.na, scF_at, _, _, rfl, rfl, _, rfl, _, rfl, small_len hl, ?_⟩
  rw [show (i : Int) + 2 = ((i + 2 : Nat) : Int) by omega, cut_any, ed]
  refine ⟨_, rfl, _, _, rfl, .inr (hLg H), rfl, flat_map _, _, rfl, ?_⟩
  rw [if_neg Bool.false_ne_true, in_list]
  refine ite2 (fun h3 => ?_) (fun h3 => ?_)
  · have h3 := of_decide_eq_true h3
    have h2l : i + 2 ≤ l.length := by
      have e : ∀ w ∈ longL, w.length = 2 := by decide +kernel
      have q := e _ h3
      rw [← ed, List.length_take, List.length_drop] at q
      omega
    refine ⟨_, rfl, p, dx, _, rfl, hp, scF_no (by decide +kernel) (by decide +kernel) (by decide +kernel) (by decide +kernel), _, rfl, p, _, dx, _, _, rfl, hp, S.cl, S.na, scF_at, _, _, rfl, rfl,
      p, dx, l, i, 2, r, c, rfl, ⟨hp, hl, hi⟩, h2l, ?_⟩
    rw [ed]
    refine q _ 2 h2l ?_
    rw [est, if_pos h3, ← ed, List.drop_drop]
    rfl
  · have h3 : ¬ (x :: xs).take 2 ∈ longL := fun z => h3 (decide_eq_true z)
    rw [if_neg h3] at est
    refine ⟨_, rfl, p, _, dx, _, _, rfl, hp, S.cl, S.nt, scF_text, _, rfl, p, _, dx, _, _, rfl, hp, S.cl, S.na, scF_at, _, _, x, rfl, rfl, small_len hl, atI_nat (j := i) hx, _, _, rfl, .inr (hSh H), rfl, flat_map _, _, rfl, ?_⟩
    rw [if_neg Bool.false_ne_true, show (⟨#[x]⟩ : Str) = Tx [x] from rfl, in_list]
    refine ite2 (fun h4 => ?_) (fun h4 => ?_)
    · have h4 := of_decide_eq_true h4
      refine ⟨_, rfl, p, dx, _, rfl, hp, scF_no (by decide +kernel) (by decide +kernel) (by decide +kernel) (by decide +kernel), _, rfl, p, _, dx, _, _, rfl, hp, S.cl, S.na, scF_at, _, _, rfl, rfl,
        p, dx, l, i, 1, r, c, rfl, ⟨hp, hl, hi⟩, hlt, ?_⟩
      rw [ed]
      refine q _ 1 hlt ?_
      rw [est, if_pos h4, ← List.drop_drop, ed]
      rfl
    · have h4 : ¬ [x] ∈ shortL := fun z => h4 (decide_eq_true z)
      rw [if_neg h4] at est
      exact hz _ _ _ p dx l i r c rfl ⟨hp, hl, hi⟩ (qe est)
theorem run_Scanner_take_token {EW : EWT} {rz0 : TS} (hz : ∀ (D : Ends) (σ : L2.St) (H : Hp) (r c : Int), σ[1]? = some (some (.int r)) → σ[2]? = some (some (.int c)) → EW "BadNumber" r c E H → rz0 D σ H)
    (h : sp_Scanner_take_token K EW vs H Q E) : t_Scanner_take_token K EW E rz0 (DQ Q) (start ns_Scanner_take_token vs) H := by
  obtain ⟨p, dx, l, i, r, c, x, xs, rfl, ⟨hp, hl, hi⟩, ed, q, qe⟩ := h
  have hlt : i < l.length := by
    have := congrArg List.length ed
    rw [List.length_drop, List.length_cons] at this
    omega
  have hx : l[i]? = some x := by
    have := congrArg List.head? ed
    rw [List.head?_drop] at this
    exact this
  have wl := word_len (l.drop i)
  rw [List.length_drop] at wl
  have wd : (l.drop i).take (word (l.drop i)).length = word (l.drop i) := take_word _
  have dw : (x :: xs).drop (word (l.drop i)).length = l.drop (i + (word (l.drop i)).length) := by rw [← ed, List.drop_drop]
  have hn : i + (word (l.drop i)).length ≤ l.length := by omega
  refine ⟨_, rfl, p, _, dx, _, _, rfl, hp, S.cl, S.nr, scF_row, _, rfl, p, _, dx, _, _, rfl, hp, S.cl, S.nc, scF_col, _, rfl, p, _, dx, _, _, rfl, hp, S.cl, S.nt, scF_text, _, rfl, p, _, dx, _, _, rfl, hp, S.cl, S.na, scF_at, _, _, x, rfl, rfl, small_len hl, atI_nat (j := i) hx, ?_⟩
  refine ⟨_, rfl, x, rfl, _, rfl, ?_⟩
  refine ite2 (fun h1 => ?_) (fun h1 => ?_)
  · -- a name or a keyword
    refine ⟨_, rfl, p, dx, _, rfl, hp, scF_no (by decide +kernel) (by decide +kernel) (by decide +kernel) (by decide +kernel), _, rfl, p, dx, _, rfl, hp, scF_no (by decide +kernel) (by decide +kernel) (by decide +kernel) (by decide +kernel),
      p, dx, l, i, r, c, rfl, ⟨hp, hl, hi⟩, p, dx, l, i, (word (l.drop i)).length, r, c, rfl, ⟨hp, hl, hi⟩, hn, ?_⟩
    rw [wd]
    refine ⟨_, rfl, word (l.drop i), rfl, _, rfl, _, rfl, _, rfl, (by show 4 ≤ sizeLine; decide), fun a na => ?_⟩
    have nap : a ≠ p := fun z => by rw [z, upd_same] at na; cases na
    rw [upd_ne nap] at na
    refine q ⟨kindOf (word (l.drop i)), word (l.drop i), r, c⟩ _ a _ hn ?_ na rfl
    unfold Lx.step
    rw [if_pos h1, ← ed, List.drop_drop]
  · have h1 := bf h1
    refine ⟨_, rfl, x, _, rfl, rfl, _, rfl, ?_⟩
    rw [digits_mem]
    refine ite2 (fun h2 => ?_) (fun h2 => ?_)
    · -- what begins with a digit
      have hall : ∀ y ∈ word (l.drop i), isWP y = true := word_all _
      have hne : word (l.drop i) ≠ [] := by
        rw [ed]
        have := word_pos (x := x) (xs := xs) (by unfold isWP; rw [h2]; simp)
        exact List.ne_nil_of_length_pos this
      refine ⟨_, rfl, p, dx, _, rfl, hp, scF_no (by decide +kernel) (by decide +kernel) (by decide +kernel) (by decide +kernel), _, rfl, p, dx, _, rfl, hp, scF_no (by decide +kernel) (by decide +kernel) (by decide +kernel) (by decide +kernel),
        p, dx, l, i, r, c, rfl, ⟨hp, hl, hi⟩, p, dx, l, i, (word (l.drop i)).length, r, c, rfl, ⟨hp, hl, hi⟩, hn, ?_⟩
      rw [wd]
      refine ⟨_, rfl, word (l.drop i), rfl, hne, by omega, hall, _, rfl, ?_⟩
      have est : Lx.step x xs r c = if isNum (word (x :: xs)) then .ok (⟨.number, word (x :: xs), r, c⟩, (x :: xs).drop (word (x :: xs)).length, r, c + (word (x :: xs)).length) else .error (.num, r, c) := by
        unfold Lx.step
        rw [if_neg (by rw [h1]; exact Bool.false_ne_true), if_pos h2]
      rw [← ed] at est
      cases hnum : isNum (word (l.drop i)) with
      | false =>
        refine iteT ?_
        rw [hnum, if_neg Bool.false_ne_true] at est
        exact hz _ _ _ r c rfl rfl (qe .num _ est (.inr ⟨_, rfl⟩))
      | true =>
        refine iteF ?_
        rw [hnum, if_pos rfl, List.drop_drop] at est
        refine ⟨_, rfl, _, rfl, _, rfl, (by show 4 ≤ sizeLine; decide), fun a na => ?_⟩
        have nap : a ≠ p := fun z => by rw [z, upd_same] at na; cases na
        rw [upd_ne nap] at na
        exact q ⟨.number, word (l.drop i), r, c⟩ _ a _ hn est na rfl
    · have h2 := bf h2
      refine ⟨_, rfl, p, dx, _, rfl, hp, scF_no (by decide +kernel) (by decide +kernel) (by decide +kernel) (by decide +kernel), p, dx, l, i, r, c, x, xs, rfl, ⟨hp, hl, hi⟩, ed, h1, h2, fun t n hn est => ?_, fun est => qe .char _ est (.inl rfl)⟩
      refine ⟨_, rfl, _, rfl, (by show 4 ≤ sizeLine; decide), fun a na => ?_⟩
      have nap : a ≠ p := fun z => by rw [z, upd_same] at na; cases na
      rw [upd_ne nap] at na
      exact q ⟨.sign, t, r, c⟩ n a _ hn est na rfl
theorem run_tokens {EW : EWT} (h : sp_tokens K EW vs H Q E) : t_tokens K EW E (DQ Q) (start ns_tokens vs) H := by
  obtain ⟨l, rfl, hl, q, qe⟩ := h
  refine ⟨_, rfl, fun x dx nx ndx nex => ?_⟩
  refine ⟨x, dx, l, rfl, upd_same, rfl, ?_⟩
  rw [upd_upd]
  refine ⟨(by show 0 ≤ sizeLine; decide), fun f nf => ?_⟩
  have nfx : f ≠ x := fun z => by rw [z, upd_same] at nf; cases nf
  have nfd : f ≠ dx := fun z => by rw [z, upd_ne nex, upd_same] at nf; cases nf
  have nfH : H f = none := by rw [upd_ne nfx, upd_ne nfd] at nf; exact nf
  have s0 : Same H (upd (upd (upd H dx (.own x)) x (scO K dx l 0 1 1)) f (.lst [])) := fun b o e => by
    rw [upd_ne (ne_of_none e nfH), upd_ne (ne_of_none e nx), upd_ne (ne_of_none e ndx)]
    exact e
  -- scanner.skip_gaps()
  refine ⟨_, rfl, x, dx, _, rfl, (by rw [upd_ne nfx.symm, upd_same]), scF_no (by decide +kernel) (by decide +kernel) (by decide +kernel) (by decide +kernel), x, dx, l, 0, 1, 1, rfl, ⟨by rw [upd_ne nfx.symm, upd_same], hl, Nat.zero_le _⟩, fun j r c hj es => ?_⟩
  have start1 : lex l 1 1 = lex (l.drop j) r c := lex_skip (by
    have := skip_idem false (l.drop 0) 1 1
    rw [es] at this
    rw [this, ← es]
    rfl)
  refine ⟨fun m σ H' => ∃ (j : Nat) (r c : Int) (ts : List Tk), m = l.length - j ∧ σ = [some (.str (Tx l)), some (.ref x), some (.ref f)] ∧ H' x = some (scO K dx l j r c) ∧ TksAt H' f ts ∧ ts.length ≤ j ∧ j ≤ l.length ∧ skip false (l.drop j) r c = (l.drop j, r, c) ∧
      lex l 1 1 = (ts ++ (lex (l.drop j) r c).1, (lex (l.drop j) r c).2) ∧ Same H H', ⟨_, j, r, c, [], rfl, rfl, upd_same, ⟨[], ?_, rfl, fun k q t e => by simp at e⟩, Nat.zero_le _, hj, ?_, start1, ?_⟩, ?_⟩
  · rw [upd_ne nfx, upd_same]
    rfl
  · have := skip_idem false (l.drop 0) 1 1
    rw [es] at this
    exact this
  · exact s0.put nx
  rintro m σ H' ⟨j, r, c, ts, rfl, rfl, hx, hT, htl, hj, hs, hlx, s1⟩
  have hsc : Sc K H' x dx l j r c := ⟨hx, hl, hj⟩
  refine ⟨_, rfl, x, dx, _, rfl, hx, scF_no (by decide +kernel) (by decide +kernel) (by decide +kernel) (by decide +kernel), x, dx, l, j, r, c, rfl, hsc, _, rfl, ?_⟩
  obtain ⟨qs, hf, hql, hqs⟩ := id hT
  by_cases hlt : j < l.length
  · rw [decide_eq_false (show ¬ j = l.length by omega)]
    refine iteT ⟨fun σ' H'' => ∃ m', m' < l.length - j ∧ ∃ (j : Nat) (r c : Int) (ts : List Tk), m' = l.length - j ∧ σ' = [some (.str (Tx l)), some (.ref x), some (.ref f)] ∧ H'' x = some (scO K dx l j r c) ∧ TksAt H'' f ts ∧ ts.length ≤ j ∧ j ≤ l.length ∧ skip false (l.drop j) r c = (l.drop j, r, c) ∧
      lex l 1 1 = (ts ++ (lex (l.drop j) r c).1, (lex (l.drop j) r c).2) ∧ Same H H'', fun _ _ z => z, ?_⟩
    have ed := drop_cons hlt
    refine ⟨_, rfl, .inl ⟨rfl, _, SqL.of hf⟩, _, rfl, x, dx, _, rfl, hx, scF_no (by decide +kernel) (by decide +kernel) (by decide +kernel) (by decide +kernel), x, dx, l, j, r, c, l[j], l.drop (j + 1), rfl, hsc, ed, fun t n a H2 hn est na eH2 => ?_, fun e H2 est eH2 => ?_⟩
    · subst eH2
      have nax : a ≠ x := fun z => by rw [z, hx] at na; cases na
      have naf : a ≠ f := fun z => by rw [z, hf] at na; cases na
      have nxf : x ≠ f := nfx.symm
      have hf2 : (upd (upd H' x (scO K dx l (j + n) r (c + n))) a (.tup (tkV t))) f = some (.lst (qs.map V.ref)) := by rw [upd_ne naf.symm, upd_ne nfx]; exact hf
      have hlex : lex (l.drop j) r c = (t :: (lex (l.drop (j + n)) r (c + n)).1, (lex (l.drop (j + n)) r (c + n)).2) := lex_tok (by rw [hs, ed]) est
      have hlen := step_len est
      rw [← ed, List.length_drop, List.length_drop] at hlen
      refine ⟨f, _, _, rfl, rfl, hf2, (by rw [List.length_map, hql]; exact Nat.lt_of_le_of_lt htl (Nat.lt_of_lt_of_le hlt (Nat.le_trans hl (by decide)))), ?_⟩
      have hx3 : (upd (upd (upd H' x (scO K dx l (j + n) r (c + n))) a (.tup (tkV t))) f (.lst (qs.map V.ref ++ [V.ref a]))) x = some (scO K dx l (j + n) r (c + n)) := by rw [upd_ne nxf, upd_ne nax.symm, upd_same]
      refine ⟨_, rfl, x, dx, _, rfl, hx3, scF_no (by decide +kernel) (by decide +kernel) (by decide +kernel) (by decide +kernel), x, dx, l, j + n, r, c + n, rfl, ⟨hx3, hl, hn⟩, fun j2 r2 c2 hj2 es2 => ?_⟩
      have sk : skip false (l.drop j2) r2 c2 = (l.drop j2, r2, c2) := by
        have := skip_idem false (l.drop (j + n)) r (c + n)
        rw [es2] at this
        exact this
      have hlen2 := skip_len false (l.drop (j + n)) r (c + n)
      rw [es2] at hlen2
      rw [List.length_drop, List.length_drop] at hlen2
      refine ⟨l.length - j2, by omega, j2, r2, c2, ts ++ [t], rfl, rfl, upd_same, ⟨qs ++ [a], ?_, ?_, fun k qa ta e1 e2 => ?_⟩, ?_, hj2, sk, ?_, ?_⟩
      · rw [upd_ne nfx, upd_same, List.map_append]
        rfl
      · rw [List.length_append, List.length_append, hql]
        rfl
      · by_cases hk : k < qs.length
        · rw [List.getElem?_append_left hk] at e1
          rw [List.getElem?_append_left (by omega)] at e2
          have h0 := hqs k qa ta e1 e2
          have n1 : qa ≠ x := ne_of h0 hx (by intro z; cases z)
          have n2 : qa ≠ f := ne_of h0 hf (by intro z; cases z)
          have n3 : qa ≠ a := ne_of_none h0 na
          rw [upd_ne n1, upd_ne n2, upd_ne n3, upd_ne n1]
          exact h0
        · have hkl : k < (qs ++ [a]).length := (List.getElem?_eq_some_iff.mp e1).1
          rw [List.length_append, List.length_singleton] at hkl
          have ek : k = qs.length := by omega
          subst ek
          rw [List.getElem?_append_right (Nat.le_refl _), Nat.sub_self] at e1
          rw [hql, List.getElem?_append_right (Nat.le_refl _), Nat.sub_self] at e2
          cases e1
          cases e2
          rw [upd_ne nax, upd_ne naf, upd_same]
      · rw [List.length_append, List.length_singleton]
        omega
      · have e3 : lex (l.drop (j + n)) r (c + n) = lex (l.drop j2) r2 c2 := lex_skip (by rw [sk, es2])
        rw [hlx, hlex, e3, List.append_assoc]
        rfl
      · exact (((s1.put nx).put (s1.free na)).put nfH).put nx
    · have s2 : Same H H2 := by
        rcases eH2 with rfl | ⟨n, rfl⟩
        · exact s1
        · exact s1.put nx
      refine qe ts e r c H2 ?_ s2
      rw [hlx, lex_err (by rw [hs, ed]) est, List.append_nil]
  · have ej : j = l.length := by omega
    subst ej
    rw [decide_eq_true rfl]
    refine iteF ?_
    have nxf : x ≠ f := nfx.symm
    refine ⟨_, rfl, .inl ⟨rfl, _, SqL.of hf⟩, _, rfl, x, _, dx, _, _, rfl, hx, S.cl, S.nr, scF_row, _, rfl, x, _, dx, _, _, rfl, hx, S.cl, S.nc, scF_col, (by show 4 ≤ sizeLine; decide), fun a na => ?_⟩
    have nax : a ≠ x := fun z => by rw [z, hx] at na; cases na
    have naf : a ≠ f := fun z => by rw [z, hf] at na; cases na
    have hf2 : (upd H' a (.tup [V.str ("end" : Str), V.str ("" : Str), V.int r, V.int c])) f = some (.lst (qs.map V.ref)) := by rw [upd_ne naf.symm]; exact hf
    refine ⟨f, _, _, rfl, rfl, hf2, (by rw [List.length_map, hql]; exact Nat.lt_of_le_of_lt htl (Nat.lt_of_le_of_lt hl (by decide))), _, rfl, ?_⟩
    have hend : lex (l.drop l.length) r c = ([⟨.fin, [], r, c⟩], none) := by
      refine lex_end ?_
      rw [hs, List.drop_eq_nil_of_le (Nat.le_refl _)]
    refine q (ts ++ [⟨.fin, [], r, c⟩]) f _ ?_ nfH ((s1.put (s1.free na)).put nfH) ⟨qs ++ [a], ?_, ?_, fun k qa ta e1 e2 => ?_⟩
    · rw [hlx, hend]
    · rw [upd_same, List.map_append]
      rfl
    · rw [List.length_append, List.length_append, hql]
      rfl
    · by_cases hk : k < qs.length
      · rw [List.getElem?_append_left hk] at e1
        rw [List.getElem?_append_left (by omega)] at e2
        have h0 := hqs k qa ta e1 e2
        have n2 : qa ≠ f := ne_of h0 hf (by intro z; cases z)
        have n3 : qa ≠ a := ne_of_none h0 na
        rw [upd_ne n2, upd_ne n3]
        exact h0
      · have hkl : k < (qs ++ [a]).length := (List.getElem?_eq_some_iff.mp e1).1
        rw [List.length_append, List.length_singleton] at hkl
        have ek : k = qs.length := by omega
        subst ek
        rw [List.getElem?_append_right (Nat.le_refl _), Nat.sub_self] at e1
        rw [hql, List.getElem?_append_right (Nat.le_refl _), Nat.sub_self] at e2
        cases e1
        cases e2
        rw [upd_ne naf, upd_same]
        rw [show ("" : Str) = Tx [] by decide +kernel]
        rfl
end
end
end Rm

/-! T0: menus; what stays; trees in the heap. -/
namespace Rm
open PySem PySem.Spec PyProof.Rows L2
/-! ### menus -/
abbrev mS (s : String) : V := .str (Str.ofString s)
def tMenu (vs : List V) : TA := fun _ H Q => Q vs H
theorem menu_s {ss : List String} {j : Int} (h0 : 0 ≤ j) (h1 : j < (ss.length : Int)) : ∃ s ∈ ss, atI (ss.map mS) j = some (mS s) := by
  obtain ⟨n, rfl⟩ : ∃ n : Nat, j = (n : Int) := ⟨j.toNat, by omega⟩
  have hn : n < ss.length := by omega
  refine ⟨ss[n], List.getElem_mem hn, atI_nat ?_⟩
  rw [List.getElem?_map, List.getElem?_eq_getElem hn]
  rfl
/-- a written tuple of texts -/
def tupM (K : PySem.W.Frag) (x : Str) (ss : List String) : Bool := He.tupB K x (ss.map fun s => .str (Str.ofString s))
theorem tupM_ok {K : PySem.W.Frag} {x : Str} {ss : List String} (h : tupM K x ss = true) (H : Hp) : SqT K H (He.ga K x) (ss.map mS) := by
  have q := He.tupB_ok h H
  rw [List.map_map] at q
  exact q
theorem in_strs (L : List Str) (x : Str) : inV (.str x) (L.map V.str) = decide (x ∈ L) := by
  unfold inV
  rw [Bool.eq_iff_iff, List.any_eq_true, decide_eq_true_iff]
  constructor
  · rintro ⟨v, hv, e⟩
    obtain ⟨k, hk, rfl⟩ := List.mem_map.mp hv
    have e : (k == x) = true := e
    rw [← beq_iff_eq.mp e]
    exact hk
  · intro h
    exact ⟨V.str x, List.mem_map.mpr ⟨x, h, rfl⟩, by show (x == x) = true; simp⟩
/-- all that was tracked but the draws is as it was -/
def Kept (d : Addr) (H H' : Hp) : Prop := ∀ b o, b ≠ d → H b = some o → H' b = some o
theorem Kept.refl (d : Addr) (H : Hp) : Kept d H H := fun _ _ _ h => h
theorem Kept.trans {d : Addr} {H H1 H2 : Hp} (a : Kept d H H1) (b : Kept d H1 H2) : Kept d H H2 := fun c o n h => b c o n (a c o n h)
theorem Kept.of_moved {d : Addr} {H H' : Hp} (a : Moved d H H') : Kept d H H' := fun b o n h => (a b n).trans h
theorem Kept.of_same {d : Addr} {H H' : Hp} (a : Same H H') : Kept d H H' := fun b o _ h => a b o h
theorem Kept.put {d a : Addr} {H H' : Hp} {o : HO} (s : Kept d H H') (n : H a = none) : Kept d H (upd H' a o) := fun b u e h => by
  rw [upd_ne (ne_of_none h n)]
  exact s b u e h
theorem Kept.free {d a : Addr} {H H' : Hp} (s : Kept d H H') (hd : ∃ o, H' d = some o) (n : H' a = none) : H a = none := by
  cases e : H a with
  | none => rfl
  | some o =>
    by_cases h : a = d
    · obtain ⟨u, hu⟩ := hd
      rw [h, hu] at n
      cases n
    · rw [s a o h e] at n
      cases n
/-! ### trees in the heap: tuples, texts, ints, None -/
mutual
inductive Tr (H : Hp) : V → PyData → Prop
  | non : Tr H .non .none
  | int (i : Int) : Tr H (.int i) (.int i)
  | str (x : Str) : Tr H (.str x) (.str x)
  | tup {a : Addr} {xs : List V} {ds : List PyData} (h : H a = some (.tup xs)) (r : Trs H xs ds) : Tr H (.ref a) (.tuple ds)
inductive Trs (H : Hp) : List V → List PyData → Prop
  | nil : Trs H [] []
  | cons {v : V} {vs : List V} {d : PyData} {ds : List PyData} (h : Tr H v d) (r : Trs H vs ds) : Trs H (v :: vs) (d :: ds)
end
/-- tuples stay -/
def TK (H H' : Hp) : Prop := ∀ a xs, H a = some (.tup xs) → H' a = some (.tup xs)
mutual
theorem Tr.keep {H H' : Hp} (k : TK H H') : ∀ {v : V} {d : PyData}, Tr H v d → Tr H' v d
  | _, _, .non => .non
  | _, _, .int i => .int i
  | _, _, .str x => .str x
  | _, _, .tup h r => .tup (k _ _ h) (r.keep k)
theorem Trs.keep {H H' : Hp} (k : TK H H') : ∀ {vs : List V} {ds : List PyData}, Trs H vs ds → Trs H' vs ds
  | _, _, .nil => .nil
  | _, _, .cons h r => .cons (h.keep k) (r.keep k)
end
mutual
theorem Tr.dp {K : PySem.W.Frag} {H : Hp} : ∀ {v : V} {d : PyData}, Tr H v d → Dp K H v d
  | _, _, .non => .non
  | _, _, .int i => .int i
  | _, _, .str x => .str x
  | _, _, .tup h r => .tup (SqT.of h) r.dp
theorem Trs.dp {K : PySem.W.Frag} {H : Hp} : ∀ {vs : List V} {ds : List PyData}, Trs H vs ds → DpAll K H vs ds
  | _, _, .nil => .nil
  | _, _, .cons h r => .cons h.dp r.dp
end
theorem Trs.snoc {H : Hp} {v : V} {d : PyData} (h : Tr H v d) : ∀ {vs : List V} {ds : List PyData}, Trs H vs ds → Trs H (vs ++ [v]) (ds ++ [d])
  | _, _, .nil => .cons h .nil
  | _, _, .cons h1 r => .cons h1 (r.snoc h)
theorem TK.trans {H H1 H2 : Hp} (a : TK H H1) (b : TK H1 H2) : TK H H2 := fun c xs h => b c xs (a c xs h)
theorem TK.new {a : Addr} {H : Hp} {o : HO} (n : H a = none) : TK H (upd H a o) := fun b xs h => by
  rw [upd_ne (ne_of_none h n)]
  exact h
end Rm

/-! L00: the first law's own defs: promises, readings (by gen.py), runs. -/
namespace Rm
open PySem PySem.Spec PyProof.Rows L2 Lx
/-! ### menus -/
theorem mS_eq (s : String) : mS s = .str (Tx (codes s)) := congrArg V.str (Tx_of s)
theorem menu_at {ss : List String} {j : Int} (h0 : 0 ≤ j) (h1 : j < (ss.length : Int)) : ∃ s ∈ ss, atI (ss.map mS) j = some (.str (Tx (codes s))) := by
  obtain ⟨n, rfl⟩ : ∃ n : Nat, j = (n : Int) := ⟨j.toNat, by omega⟩
  have hn : n < ss.length := by omega
  refine ⟨ss[n], List.getElem_mem hn, atI_nat ?_⟩
  rw [List.getElem?_map, List.getElem?_eq_getElem hn, ← mS_eq]
  rfl
/-! ### good words, and what may follow them -/
def aloneL : List (List Nat) := ["{", "}", "(", ")", ",", ";", ".", "+", "-", "*"].map codes
def aloneW (w : List Nat) : Bool := decide (w ∈ aloneL)
/-- what may stand behind a word that joins: nothing, a gap, a sign that joins with nothing -/
def headOk (l : List Nat) : Bool := match l with
  | [] => true
  | y :: _ => y == 10 || (y == 32 || (y == 35 || aloneW [y]))
def Bd (w rest : List Nat) : Prop := aloneW w = true ∨ headOk rest = true
def goodTok (k : Kd) (w : List Nat) : Bool := match w with
  | [] => false
  | x :: xs => match k with
    | .name => isLet x && ((x :: xs).all isWP && decide (kindOf (x :: xs) = .name))
    | .keyword => isLet x && ((x :: xs).all isWP && decide (kindOf (x :: xs) = .keyword))
    | .number => !isLet x && (isDig x && ((x :: xs).all isWP && isNum (x :: xs)))
    | .sign => !isLet x && (!isDig x && (x != 10 && (x != 32 && (x != 35 && ((decide ((x :: xs) ∈ longL)) || (decide ((x :: xs) ∈ shortL) && (aloneW (x :: xs) || (x == 60 || x == 61))))))))
    | .fin => false
theorem all_takeWhile {p : Nat → Bool} : ∀ {w rest : List Nat}, w.all p = true → (rest = [] ∨ ∃ y ys, rest = y :: ys ∧ p y = false) → (w ++ rest).takeWhile p = w
  | [], rest, _, h => by
    rcases h with rfl | ⟨y, ys, rfl, e⟩
    · rfl
    · show (y :: ys).takeWhile p = []
      rw [List.takeWhile_cons, e]
      rfl
  | x :: xs, rest, hw, h => by
    have hw' := Bool.and_eq_true_iff.mp (show (p x && xs.all p) = true from hw)
    show (x :: (xs ++ rest)).takeWhile p = _
    rw [List.takeWhile_cons, if_pos hw'.1, all_takeWhile hw'.2 h]
theorem headOk_noWP {rest : List Nat} (h : headOk rest = true) : rest = [] ∨ ∃ y ys, rest = y :: ys ∧ isWP y = false := by
  cases rest with
  | nil => exact .inl rfl
  | cons y ys =>
    refine .inr ⟨y, ys, rfl, ?_⟩
    have h : (y == 10 || (y == 32 || (y == 35 || aloneW [y]))) = true := h
    rw [Bool.or_eq_true, Bool.or_eq_true, Bool.or_eq_true, beq_iff_eq, beq_iff_eq, beq_iff_eq] at h
    rcases h with rfl | rfl | rfl | h
    · rfl
    · rfl
    · rfl
    · have e : ∀ w ∈ aloneL, ∀ y, w = [y] → isWP y = false := by
        intro w hw
        have q : ∀ w ∈ aloneL, (w.all fun y => !isWP y) = true := by decide +kernel
        intro y hy
        have := q w hw
        rw [hy] at this
        simpa using this
      exact e _ (of_decide_eq_true h) y rfl
theorem alone_sign {w : List Nat} (h : aloneW w = true) : ∃ x, w = [x] ∧ isWP x = false ∧ x ≠ 60 ∧ x ≠ 61 ∧ x ≠ 58 := by
  have q : ∀ w ∈ aloneL, w.length = 1 ∧ (w.all fun x => !isWP x && (x != 60 && (x != 61 && x != 58))) = true := by decide +kernel
  obtain ⟨h1, h2⟩ := q w (of_decide_eq_true h)
  match w, h1 with
  | [x], _ =>
    refine ⟨x, rfl, ?_⟩
    simpa using h2
theorem long_heads {w : List Nat} (h : w ∈ longL) : ∃ x, w = [x, 61] ∧ (x = 58 ∨ x = 61 ∨ x = 60) := by
  have q : longL = [[58, 61], [61, 61], [60, 61]] := by decide +kernel
  rw [q] at h
  simp only [List.mem_cons, List.not_mem_nil, or_false] at h
  rcases h with rfl | rfl | rfl
  · exact ⟨58, rfl, .inl rfl⟩
  · exact ⟨61, rfl, .inr (.inl rfl)⟩
  · exact ⟨60, rfl, .inr (.inr rfl)⟩
theorem headOk_no61 {rest : List Nat} (h : headOk rest = true) : ∀ x, ¬ (x :: rest).take 2 = [x, 61] := by
  intro x e
  cases rest with
  | nil => cases e
  | cons y ys =>
    have ey : y = 61 := by
      have := congrArg (fun l : List Nat => l[1]?) e
      simpa using this
    subst ey
    have h : ((61 : Nat) == 10 || ((61 : Nat) == 32 || ((61 : Nat) == 35 || aloneW [61]))) = true := h
    exact absurd h (by decide +kernel)
/-- THE STEP: a good word with what may follow is one token -/
theorem tok_step {k : Kd} {w rest : List Nat} (r c : Int) (hg : goodTok k w = true) (hb : Bd w rest) : ∃ x xs, w ++ rest = x :: xs ∧ (x ≠ 10 ∧ x ≠ 32 ∧ x ≠ 35) ∧ Lx.step x xs r c = .ok (⟨k, w, r, c⟩, rest, r, c + w.length) := by
  cases w with
  | nil => cases hg
  | cons x xs =>
    refine ⟨x, xs ++ rest, rfl, ?_⟩
    have wordCase : (x :: xs).all isWP = true → isWP x = true ∧ headOk rest = true ∧ word (x :: (xs ++ rest)) = x :: xs ∧ (x :: (xs ++ rest)).drop (x :: xs).length = rest := fun ha => by
      have hx : isWP x = true := (Bool.and_eq_true_iff.mp (show (isWP x && xs.all isWP) = true from ha)).1
      have hr : headOk rest = true := by
        rcases hb with hb | hb
        · obtain ⟨y, e, e2, _⟩ := alone_sign hb
          cases e
          rw [hx] at e2
          cases e2
        · exact hb
      exact ⟨hx, hr, all_takeWhile (w := x :: xs) ha (headOk_noWP hr), List.drop_left (l₁ := x :: xs)⟩
    have ngap : isWP x = true → x ≠ 10 ∧ x ≠ 32 ∧ x ≠ 35 := fun hx => by
      refine ⟨?_, ?_, ?_⟩ <;> (rintro rfl; revert hx; decide)
    cases k with
    | fin => cases hg
    | name =>
      have hg : (isLet x && ((x :: xs).all isWP && decide (kindOf (x :: xs) = .name))) = true := hg
      rw [Bool.and_eq_true, Bool.and_eq_true] at hg
      obtain ⟨h1, h2, h3⟩ := hg
      obtain ⟨hx, hr, hw, hd⟩ := wordCase h2
      refine ⟨ngap hx, ?_⟩
      unfold Lx.step
      rw [if_pos h1, hw, of_decide_eq_true h3, hd]
    | keyword =>
      have hg : (isLet x && ((x :: xs).all isWP && decide (kindOf (x :: xs) = .keyword))) = true := hg
      rw [Bool.and_eq_true, Bool.and_eq_true] at hg
      obtain ⟨h1, h2, h3⟩ := hg
      obtain ⟨hx, hr, hw, hd⟩ := wordCase h2
      refine ⟨ngap hx, ?_⟩
      unfold Lx.step
      rw [if_pos h1, hw, of_decide_eq_true h3, hd]
    | number =>
      have hg : (!isLet x && (isDig x && ((x :: xs).all isWP && isNum (x :: xs)))) = true := hg
      rw [Bool.and_eq_true, Bool.and_eq_true, Bool.and_eq_true] at hg
      obtain ⟨h1, h2, h3, h4⟩ := hg
      have h1 : isLet x = false := by simpa using h1
      obtain ⟨hx, hr, hw, hd⟩ := wordCase h3
      refine ⟨ngap hx, ?_⟩
      unfold Lx.step
      rw [if_neg (by rw [h1]; exact Bool.false_ne_true), if_pos h2, hw, if_pos h4, hd]
    | sign =>
      have hg : (!isLet x && (!isDig x && (x != 10 && (x != 32 && (x != 35 && ((decide ((x :: xs) ∈ longL)) || (decide ((x :: xs) ∈ shortL) && (aloneW (x :: xs) || (x == 60 || x == 61)))))))) ) = true := hg
      rw [Bool.and_eq_true, Bool.and_eq_true, Bool.and_eq_true, Bool.and_eq_true, Bool.and_eq_true, Bool.or_eq_true, Bool.and_eq_true] at hg
      obtain ⟨h1, h2, g1, g2, g3, h3⟩ := hg
      have h1 : isLet x = false := by simpa using h1
      have h2 : isDig x = false := by simpa using h2
      refine ⟨⟨by simpa using g1, by simpa using g2, by simpa using g3⟩, ?_⟩
      unfold Lx.step
      rw [if_neg (by rw [h1]; exact Bool.false_ne_true), if_neg (by rw [h2]; exact Bool.false_ne_true)]
      rcases h3 with h3 | ⟨h3, h4⟩
      · have h3 := of_decide_eq_true h3
        obtain ⟨y, e, _⟩ := long_heads h3
        cases e
        rw [if_pos (by exact h3)]
        rfl
      · have h3 := of_decide_eq_true h3
        have e1 : xs = [] := by
          have q : ∀ w ∈ shortL, w.length = 1 := by decide +kernel
          have := q _ h3
          exact List.eq_nil_of_length_eq_zero (by simpa using this)
        subst e1
        have nl : ¬ (x :: ([] ++ rest)).take 2 ∈ longL := fun hm => by
          rcases Bool.or_eq_true_iff.mp h4 with h4 | h4
          · obtain ⟨y, e, e2, e3, e4, e5⟩ := alone_sign h4
            cases e
            obtain ⟨z, ez, hz⟩ := long_heads hm
            have : x = z := by
              have := congrArg (fun l : List Nat => l[0]?) ez
              simpa using this
            omega
          · rcases hb with hb | hb
            · obtain ⟨y, e, e2, e3, e4, e5⟩ := alone_sign hb
              cases e
              rw [Bool.or_eq_true, beq_iff_eq, beq_iff_eq] at h4
              omega
            · obtain ⟨z, ez, hz⟩ := long_heads hm
              have ex : x = z := by
                have := congrArg (fun l : List Nat => l[0]?) ez
                simpa using this
              subst ex
              exact headOk_no61 hb x ez
        rw [if_neg nl, if_pos h3]
        rfl
theorem adv_tok {k : Kd} {w : List Nat} (hg : goodTok k w = true) (hn : 10 ∉ w) (r c : Int) : adv w r c = (r, c + w.length) := adv_flat w r c hn
/-- the scanner over a good word with what may follow -/
theorem lex_word {k : Kd} {w rest : List Nat} (r c : Int) (hg : goodTok k w = true) (hb : Bd w rest) : lex (w ++ rest) r c = (⟨k, w, r, c⟩ :: (lex rest r (c + w.length)).1, (lex rest r (c + w.length)).2) := by
  obtain ⟨x, xs, e, hne, hs⟩ := tok_step r c hg hb
  refine lex_tok (x := x) (xs := xs) ?_ hs
  rw [e]
  exact skip_here hne
/-- gaps and perhaps a comment, to the end of the text -/
def endB : Bool → List Nat → Bool
  | _, [] => true
  | true, x :: xs => if x = 10 then endB false xs else endB true xs
  | false, x :: xs => if x = 10 then endB false xs else if x = 32 then endB false xs else if x = 35 then endB true xs else false
theorem endB_ok : ∀ (b : Bool) (g : List Nat), endB b g = true → ∀ (r c : Int), skip b g r c = ([], (adv g r c).1, (adv g r c).2)
  | true, [], h, r, c => rfl
  | false, [], h, r, c => rfl
  | true, x :: xs, h, r, c => by
    rw [skip, adv]
    rw [endB] at h
    by_cases e : x = 10
    · rw [if_pos e] at h ⊢; rw [if_pos e]; exact endB_ok false xs h _ _
    · rw [if_neg e] at h ⊢; rw [if_neg e]; exact endB_ok true xs h _ _
  | false, x :: xs, h, r, c => by
    rw [skip, adv]
    rw [endB] at h
    by_cases e : x = 10
    · rw [if_pos e] at h ⊢; rw [if_pos e]; exact endB_ok false xs h _ _
    · rw [if_neg e] at h ⊢; rw [if_neg e]
      by_cases e2 : x = 32
      · rw [if_pos e2] at h ⊢; exact endB_ok false xs h _ _
      · rw [if_neg e2] at h ⊢
        by_cases e3 : x = 35
        · rw [if_pos e3] at h ⊢; exact endB_ok true xs h _ _
        · rw [if_neg e3] at h; cases h
/-! ### the tokens as data -/
def tkD (t : Tk) : PyData := .tuple [.str (kdS t.kind), .str (Tx t.text), .int t.row, .int t.col]
def okTk (t : Tk) : Bool := PyData.strOk (Tx t.text)
theorem kdS_ok (k : Kd) : PyData.strOk (kdS k) = true := by cases k <;> decide +kernel
theorem tkD_lay {ts : List Tk} (h : ∀ t ∈ ts, okTk t = true) : PyData.canLayAll0 (ts.map tkD) = true := by
  induction ts with
  | nil => rfl
  | cons t ts ih =>
    have h1 : PyData.strOk (Tx t.text) = true := h t List.mem_cons_self
    show (PyData.canLay0 (tkD t) && PyData.canLayAll0 (ts.map tkD)) = true
    rw [ih fun t ht => h t (List.mem_cons_of_mem _ ht), Bool.and_true]
    simp [tkD, PyData.canLay0, PyData.canLayAll0, h1, kdS_ok]
theorem tkD_depth (ts : List Tk) : PyData.depthAll (ts.map tkD) ≤ 1 := by
  induction ts with
  | nil => exact Nat.zero_le _
  | cons t ts ih =>
    show max (PyData.depth (tkD t)) (PyData.depthAll (ts.map tkD)) ≤ 1
    have : PyData.depth (tkD t) = 1 := by simp [tkD, PyData.depth, PyData.depthAll]
    omega
theorem shaped_tks {ts : List Tk} (h : ∀ t ∈ ts, okTk t = true) : SeqAt.shaped (.list (ts.map tkD)) = true := by
  unfold SeqAt.shaped
  have d := tkD_depth ts
  rw [show PyData.canLay0 (.list (ts.map tkD)) = PyData.canLayAll0 (ts.map tkD) by simp [PyData.canLay0], tkD_lay h, Bool.true_and]
  exact decide_eq_true (by simp only [PyData.depth]; omega)
theorem dp_tks {K : PySem.W.Frag} {H : Hp} : ∀ {qs : List Addr} {ts : List Tk}, qs.length = ts.length → (∀ (k : Nat) (q : Addr) (t : Tk), qs[k]? = some q → ts[k]? = some t → H q = some (.tup (tkV t))) → DpAll K H (qs.map V.ref) (ts.map tkD)
  | [], [], _, _ => .nil
  | q :: qs, t :: ts, hl, h => by
    refine .cons (.tup (SqT.of (h 0 q t rfl rfl)) (.cons (.str _) (.cons (.str _) (.cons (.int _) (.cons (.int _) .nil))))) (dp_tks (by simpa using hl) fun k q' t' e1 e2 => h (k + 1) q' t' (by simpa using e1) (by simpa using e2))
  | [], _ :: _, hl, _ => by cases hl
  | _ :: _, [], hl, _ => by cases hl
theorem TksAt.dp {K : PySem.W.Frag} {H : Hp} {p : Addr} {ts : List Tk} (h : TksAt H p ts) : Dp K H (.ref p) (.list (ts.map tkD)) := by
  obtain ⟨qs, h1, h2, h3⟩ := h
  exact .lst (SqL.of h1) (dp_tks h2 h3)
theorem TksAt.kept {H H' : Hp} {p : Addr} {ts : List Tk} (h : TksAt H p ts) (k : ∀ b o, H b = some o → (∀ kvs, o ≠ .dK kvs) → H' b = some o) : TksAt H' p ts := by
  obtain ⟨qs, h1, h2, h3⟩ := h
  exact ⟨qs, k _ _ h1 (fun _ z => by cases z), h2, fun i q t e1 e2 => k _ _ (h3 i q t e1 e2) (fun _ z => by cases z)⟩
/-! ### promises -/
def kwS : List String := ["method", "main", "object", "const", "var", "parent", "let", "print", "return", "if", "else", "while", "put", "drop", "resend", "fn", "call", "self", "true", "false", "nothing", "div", "mod"]
def sp_l_keywords (K : PySem.W.Frag) : Sp := fun vs H Q _ => vs = [] ∧ ∀ (p : Addr) (H' : Hp), Same H H' → H p = none → H' p = some (.lst (kwS.map mS)) → Q (.ref p) H'
def sp_l_word (K : PySem.W.Frag) : Sp := fun vs H Q _ => ∃ (d r : Addr), vs = [.ref d] ∧ Draws H d r ∧ ∀ (q : Addr) (H' : Hp) (k : Kd) (w : List Nat), Kept d H H' → Draws H' d r → H q = none → H' q = some (.tup [.str (kdS k), .str (Tx w)]) →
  goodTok k w = true → 10 ∉ w → w.length ≤ 40 → PyData.strOk (Tx w) = true → Q (.ref q) H'
def sp_l_alone (K : PySem.W.Frag) : Sp := fun vs H Q _ => ∃ w : List Nat, vs = [.str (Tx w)] ∧ ∀ H', Same H H' → Q (.bl (aloneW w)) H'
def sp_l_between (K : PySem.W.Frag) : Sp := fun vs H Q _ => ∃ (d r : Addr), vs = [.ref d] ∧ Draws H d r ∧ ∀ (H' : Hp) (g : List Nat), Kept d H H' → Draws H' d r → gapB false g = true → g ≠ [] → g.length ≤ 40 → headOk g = true → Q (.str (Tx g)) H'
def sp_l_place (K : PySem.W.Frag) : Sp := fun vs H Q _ => ∃ l : List Nat, vs = [.str (Tx l)] ∧ l.length ≤ 10000000 ∧ ∀ (q : Addr) (H' : Hp), Same H H' → H q = none → H' q = some (.tup [.int (adv l 1 1).1, .int (adv l 1 1).2]) → Q (.ref q) H'
/-! ### readings -/

def ns_l_keywords : List Str := ["words"]
def t_l_keywords (K : PySem.W.Frag) (E : XK) : TS :=
  (tSeq (tAsg (tLst (tMenu (["method", "main", "object", "const", "var", "parent", "let", "print", "return", "if", "else", "while"].map mS))) (gName 0))
    (tRet (tOp rCat (tVar 0) (tLst (tMenu (["put", "drop", "resend", "fn", "call", "self", "true", "false", "nothing", "div", "mod"].map mS))))))

def ns_l_word : List Str := ["draws", "pick", "names"]
def t_l_word (K : PySem.W.Frag) (E : XK) : TS :=
  (tSeq (tAsg (tCall (sp_l_pick K) [] E (tCons (tVar 0) (tCons (tC (.int 9)) tNil))) (gName 1))
    (tSeq (tIfS (tTest (tOp rLtI (tVar 1) (tC (.int 2))))
      (tSeq (tAsg (tLst (tMenu (["a", "X1", "go_", "a_b", "ifx", "fn2", "letter", "calls", "z9", "Main", "divide", "truer", "Self"].map mS))) (gName 2))
    (tRet (tTup (tCons (tC (.str ("name" : Str))) (tCons (tOp (rIxL K) (tVar 2) (tCall (sp_l_pick K) [] E (tCons (tVar 0) (tCons (tC (.int 13)) tNil)))) tNil)))))
      tNext)
    (tSeq (tIfS (tTest (tOp rEq (tVar 1) (tC (.int 2))))
      (tRet (tTup (tCons (tC (.str ("number" : Str))) (tCons (tOp (rIxL K) (tLst (tMenu (["0", "7", "10", "1000000000000", "999999999999", "12345", "90"].map mS))) (tCall (sp_l_pick K) [] E (tCons (tVar 0) (tCons (tC (.int 7)) tNil)))) tNil))))
      tNext)
    (tSeq (tIfS (tTest (tOp rLtI (tVar 1) (tC (.int 5))))
      (tRet (tTup (tCons (tC (.str ("keyword" : Str))) (tCons (tOp (rIxL K) (tCall (sp_l_keywords K) [] E tNil) (tCall (sp_l_pick K) [] E (tCons (tVar 0) (tCons (tC (.int 23)) tNil)))) tNil))))
      tNext)
    (tSeq (tIfS (tTest (tOp rLtI (tVar 1) (tC (.int 7))))
      (tRet (tTup (tCons (tC (.str ("sign" : Str))) (tCons (tOp (rIxL K) (tLst (tMenu (["=", ":=", "==", "<", "<="].map mS))) (tCall (sp_l_pick K) [] E (tCons (tVar 0) (tCons (tC (.int 5)) tNil)))) tNil))))
      tNext)
    (tRet (tTup (tCons (tC (.str ("sign" : Str))) (tCons (tOp (rIxL K) (tLst (tMenu (["{", "}", "(", ")", ",", ";", ".", "+", "-", "*"].map mS))) (tCall (sp_l_pick K) [] E (tCons (tVar 0) (tCons (tC (.int 10)) tNil)))) tNil)))))))))

def ns_l_alone : List Str := ["text"]
def t_l_alone (K : PySem.W.Frag) (E : XK) : TS :=
  (tRet (tOp (rIn K false) (tVar 0) (tTup (tMenu (["{", "}", "(", ")", ",", ";", ".", "+", "-", "*"].map mS)))))

def ns_l_between : List Str := ["draws", "first", "more"]
def t_l_between (K : PySem.W.Frag) (E : XK) : TS :=
  (tSeq (tAsg (tOp (rIxL K) (tLst (tMenu ([" ", "\n", "  ", "# a _ comment := main!", " "].map mS))) (tCall (sp_l_pick K) [] E (tCons (tVar 0) (tCons (tC (.int 5)) tNil)))) (gName 1))
    (tSeq (tAsg (tOp (rIxL K) (tLst (tMenu (["", "", "", "\n", "#\n ", "\n   ", "#x\n\n"].map mS))) (tCall (sp_l_pick K) [] E (tCons (tVar 0) (tCons (tC (.int 7)) tNil)))) (gName 2))
    (tSeq (tIfS (tTest (tOp rEq (tOp rIxS (tVar 1) (tC (.int 0))) (tC (.str ("#" : Str)))))
      (tAsg (tC (.str ("\n" : Str))) (gName 2))
      tNext)
    (tRet (tOp rCatS (tVar 1) (tVar 2))))))

def ns_l_place : List Str := ["text"]
def t_l_place (K : PySem.W.Frag) (E : XK) : TS :=
  (tRet (tTup (tCons (tOp rAddI (tBM K "str" rCount (tVar 0) (tCons (tC (.str ("\n" : Str))) tNil)) (tC (.int 1))) (tCons (tOp rSubI (tCB rLenS (tCons (tVar 0) tNil)) (tBM K "str" rRfind (tVar 0) (tCons (tC (.str ("\n" : Str))) tNil))) tNil))))

def ns_law : List Str := ["script", "draws", "text", "due", "last", "k", "kind", "word", "between", "row", "column", "actual"]
def t_law (K : PySem.W.Frag) (EW : EWT) (E : XK) : TS :=
  (tSeq (tAsg (tCall (sp_l_stream K) [] E (tCons (tVar 0) (tCons (tC (.int 300)) tNil))) (gName 1))
    (tSeq (tAsg (tOp (rIxL K) (tLst (tMenu (["", "", " ", "\n", "# begin\n  "].map mS))) (tCall (sp_l_pick K) [] E (tCons (tVar 1) (tCons (tC (.int 5)) tNil)))) (gName 2))
    (tSeq (tAsg (tLst tNil) (gName 3))
    (tSeq (tAsg (tC (.str ("(" : Str))) (gName 4))
    (tSeq (tFor (iRng1 (tCons (tCB rMin2 (tCons (tC (.int 120)) (tCons (tOp rAddI (tC (.int 1)) (tOp rFdivI (tCB (rLen K) (tCons (tDGet (tVar 1) (tC (.str ("row" : Str)))) tNil)) (tC (.int 3)))) tNil))) tNil)) (gName 5)
      (tSeq (tAsg (tCall (sp_l_word K) [] E (tCons (tVar 1) tNil)) (gTup K 2 (gCons (gName 6) (gCons (gName 7) gNil))))
    (tSeq (tIfS (tOr (tNot (tOr (tB (tCall (sp_l_alone K) [] E (tCons (tVar 4) tNil))) (tB (tCall (sp_l_alone K) [] E (tCons (tVar 7) tNil))))) (tTest (tOp rEq (tCall (sp_l_pick K) [] E (tCons (tVar 1) (tCons (tC (.int 3)) tNil))) (tC (.int 0)))))
      (tIfS (tTest (tOp rGtI (tVar 5) (tC (.int 0))))
      (tSeq (tAsg (tCall (sp_l_between K) [] E (tCons (tVar 1) tNil)) (gName 8))
    (tSeq (tAsg (tOp rCatS (tVar 2) (tVar 8)) (gName 2))
    (tIfS (tAnd (tTest (tOp rInSign (tC (.str ("#" : Str))) (tVar 8))) (tTest (tOp (rIn K true) (tOp rIxS (tVar 8) (tUn rNegI (tC (.int 1)))) (tTup (tCons (tC (.str (" " : Str))) (tCons (tC (.str ("\n" : Str))) tNil))))))
      (tAsg (tOp rCatS (tVar 2) (tC (.str ("\n" : Str)))) (gName 2))
      tNext)))
      tNext)
      tNext)
    (tSeq (tAsg (tCall (sp_l_place K) [] E (tCons (tVar 2) tNil)) (gTup K 2 (gCons (gName 9) (gCons (gName 10) gNil))))
    (tSeq (tDrop (tBM K "list" rAppend (tVar 3) (tCons (tTup (tCons (tVar 6) (tCons (tVar 7) (tCons (tVar 9) (tCons (tVar 10) tNil))))) tNil)))
    (tSeq (tAsg (tOp rCatS (tVar 2) (tVar 7)) (gName 2))
    (tAsg (tVar 7) (gName 4))))))))
    (tSeq (tAsg (tOp rCatS (tVar 2) (tOp (rIxL K) (tLst (tMenu (["", " ", "\n", "\n  ", " # the end"].map mS))) (tCall (sp_l_pick K) [] E (tCons (tVar 1) (tCons (tC (.int 5)) tNil))))) (gName 2))
    (tSeq (tAsg (tCall (sp_l_place K) [] E (tCons (tVar 2) tNil)) (gTup K 2 (gCons (gName 9) (gCons (gName 10) gNil))))
    (tSeq (tDrop (tBM K "list" rAppend (tVar 3) (tCons (tTup (tCons (tC (.str ("end" : Str))) (tCons (tC (.str ("" : Str))) (tCons (tVar 9) (tCons (tVar 10) tNil))))) tNil)))
    (tSeq (tAsg (tCall (sp_tokens K EW) [] E (tCons (tVar 2) tNil)) (gName 11))
    (tSeq (tIfS (tOr (tNot (tB (tCB (rIsi K) (tCons (tVar 11) (tCons (tC (.ty "list")) tNil))))) (tTest (tOp (rNeD K) (tVar 11) (tVar 3))))
      (tRet (tC (.bl false)))
      tNext)
    (tRet (tAndV (tOp (rEqD K) (tC (.ref (He.ga K ("KEYWORDS" : Str)))) (tCB (rTupleOf K) (tCons (tCall (sp_l_keywords K) [] E tNil) tNil))) (tOp (rEqD K) (tCall (sp_tokens K EW) [] E (tCons (tC (.str ("" : Str))) tNil)) (tLst (tCons (tTup (tCons (tC (.str ("end" : Str))) (tCons (tC (.str ("" : Str))) (tCons (tC (.int 1)) (tCons (tC (.int 1)) tNil))))) tNil)))))))))))))))

/-! ### runs of the law's own defs -/
section
variable {K : PySem.W.Frag} {vs : List V} {H : Hp} {Q : VK} {E : XK}
theorem run_l_keywords (h : sp_l_keywords K vs H Q E) : t_l_keywords K E (DQ Q) (start ns_l_keywords vs) H := by
  obtain ⟨rfl, q⟩ := h
  refine ⟨(by show 12 ≤ sizeLine; decide), fun p np => ?_⟩
  refine ⟨_, rfl, (by show 11 ≤ sizeLine; decide), fun p2 np2 => ?_⟩
  have n21 : p2 ≠ p := fun z => by rw [z, upd_same] at np2; cases np2
  have np2H : H p2 = none := by rw [upd_ne n21] at np2; exact np2
  refine ⟨p, p2, _, _, rfl, rfl, (by rw [upd_ne n21.symm, upd_same]), upd_same, (by show 23 ≤ sizeLine; decide), fun p3 np3 => ?_⟩
  have n31 : p3 ≠ p := fun z => by rw [z, upd_ne n21.symm, upd_same] at np3; cases np3
  have n32 : p3 ≠ p2 := fun z => by rw [z, upd_same] at np3; cases np3
  have np3H : H p3 = none := by rw [upd_ne n32, upd_ne n31] at np3; exact np3
  exact q p3 _ ((((Same.refl H).put np).put np2H).put np3H) np3H upd_same
theorem run_l_alone (h : sp_l_alone K vs H Q E) : t_l_alone K E (DQ Q) (start ns_l_alone vs) H := by
  obtain ⟨w, rfl, q⟩ := h
  refine ⟨_, rfl, (by show 10 ≤ sizeLine; decide), fun p np => ⟨_, _, rfl, .inr (SqT.of upd_same), rfl, rfl, ?_⟩⟩
  rw [if_neg Bool.false_ne_true, show ["{", "}", "(", ")", ",", ";", ".", "+", "-", "*"].map mS = aloneL.map (fun k => V.str (Tx k)) by unfold aloneL; rw [List.map_map]; exact List.map_congr_left fun s _ => mS_eq s, in_list]
  exact q _ ((Same.refl H).put np)
theorem run_l_place (h : sp_l_place K vs H Q E) : t_l_place K E (DQ Q) (start ns_l_place vs) H := by
  obtain ⟨l, rfl, hl, q⟩ := h
  obtain ⟨e1, e2⟩ := place_ok l
  refine ⟨_, rfl, rfl, _, _, rfl, rfl, _, _, rfl, rfl, _, rfl, _, rfl, small_len hl, _, rfl, rfl, _, _, rfl, rfl, _, _, rfl, rfl, (by show 2 ≤ sizeLine; decide), fun p np => ?_⟩
  refine q p _ ((Same.refl H).put np) np ?_
  rw [upd_same, ← e1, ← e2]
  rfl
/-- one item of a menu, by a draw -/
theorem run_l_word (h : sp_l_word K vs H Q E) : t_l_word K E (DQ Q) (start ns_l_word vs) H := by
  obtain ⟨d, r, rfl, hD, q⟩ := h
  refine ⟨_, rfl, d, 9, rfl, by decide, r, hD, fun j1 H1 j10 j19 D1 M1 => ?_⟩
  have K1 := Kept.of_moved M1
  have fin : ∀ (k : Kd) (ss : List String) (j : Int) (H2 : Hp), Kept d H H2 → Draws H2 d r → (∀ s ∈ ss, goodTok k (codes s) = true ∧ 10 ∉ codes s ∧ (codes s).length ≤ 40 ∧ PyData.strOk (Tx (codes s)) = true) → 0 ≤ j → j < (ss.length : Int) →
      ∃ v, atI (ss.map mS) j = some v ∧ ∀ p, H2 p = none → Q (.ref p) (upd H2 p (.tup [V.str (kdS k), v])) := fun k ss j H2 K2 D2 hs j0 j1 => by
    obtain ⟨s, hm, e⟩ := menu_at j0 j1
    obtain ⟨g1, g2, g3, g4⟩ := hs s hm
    exact ⟨_, e, fun p np => q p _ k (codes s) (K2.put (K2.free D2.atD np)) (D2.fresh np) (K2.free D2.atD np) upd_same g1 g2 g3 g4⟩
  refine ⟨_, rfl, _, _, rfl, rfl, _, rfl, ?_⟩
  refine ite2 (fun _ => ?_) (fun _ => ?_)
  · refine ⟨(by show 13 ≤ sizeLine; decide), fun p np => ?_⟩
    have D2 : Draws (upd H1 p (.lst (["a", "X1", "go_", "a_b", "ifx", "fn2", "letter", "calls", "z9", "Main", "divide", "truer", "Self"].map mS))) d r := D1.fresh np
    refine ⟨_, rfl, _, rfl, d, 13, rfl, by decide, r, D2, fun j H3 j0 j1 D3 M3 => ?_⟩
    have K3 : Kept d H H3 := (K1.put (K1.free D1.atD np)).trans (Kept.of_moved M3)
    have hp : H3 p = some (.lst (["a", "X1", "go_", "a_b", "ifx", "fn2", "letter", "calls", "z9", "Main", "divide", "truer", "Self"].map mS)) := (M3 p (Ne.symm (D1.neD np))).trans upd_same
    obtain ⟨v, e, f⟩ := fin .name ["a", "X1", "go_", "a_b", "ifx", "fn2", "letter", "calls", "z9", "Main", "divide", "truer", "Self"] j H3 K3 D3 (by decide +kernel) j0 j1
    exact ⟨p, _, _, v, rfl, rfl, SqL.of hp, e, (by show 2 ≤ sizeLine; decide), f⟩
  · have menu : ∀ (k : Kd) (ss : List String) (m : Int), m = (ss.length : Int) → ss.length ≤ 100 → 0 < m → (∀ s ∈ ss, goodTok k (codes s) = true ∧ 10 ∉ codes s ∧ (codes s).length ≤ 40 ∧ PyData.strOk (Tx (codes s)) = true) →
        (tRet (tTup (tCons (tC (.str (kdS k))) (tCons (tOp (rIxL K) (tLst (tMenu (ss.map mS))) (tCall (sp_l_pick K) [] E (tCons (tVar 0) (tCons (tC (.int m)) tNil)))) tNil)))) (DQ Q) [some (.ref d), some (.int j1), none] H1 := fun k ss m hm hl hpos hs => by
      refine ⟨?_, fun p np => ?_⟩
      · show (ss.map mS).length ≤ sizeLine
        rw [List.length_map]
        exact Nat.le_trans hl (by decide)
      · have D2 : Draws (upd H1 p (.lst (ss.map mS))) d r := D1.fresh np
        refine ⟨_, rfl, d, m, rfl, hpos, r, D2, fun j H3 j0 j1 D3 M3 => ?_⟩
        have K3 : Kept d H H3 := (K1.put (K1.free D1.atD np)).trans (Kept.of_moved M3)
        have hp : H3 p = some (.lst (ss.map mS)) := (M3 p (Ne.symm (D1.neD np))).trans upd_same
        obtain ⟨v, e, f⟩ := fin k ss j H3 K3 D3 hs j0 (by rw [← hm]; exact j1)
        exact ⟨p, _, _, v, rfl, rfl, SqL.of hp, e, (by show 2 ≤ sizeLine; decide), f⟩
    refine ⟨_, rfl, rfl, _, rfl, ?_⟩
    refine ite2 (fun _ => ?_) (fun _ => ?_)
    · exact menu .number _ 7 rfl (by decide) (by decide) (by decide +kernel)
    · refine ⟨_, rfl, _, _, rfl, rfl, _, rfl, ?_⟩
      refine ite2 (fun _ => ?_) (fun _ => ?_)
      · refine ⟨rfl, fun p H2 s2 np hp => ?_⟩
        have D2 := D1.same s2
        refine ⟨_, rfl, d, 23, rfl, by decide, r, D2, fun j H3 j0 j1 D3 M3 => ?_⟩
        have K3 : Kept d H H3 := (K1.trans (Kept.of_same s2)).trans (Kept.of_moved M3)
        have hp3 : H3 p = some (.lst (kwS.map mS)) := (M3 p (Ne.symm (D1.neD np))).trans hp
        obtain ⟨v, e, f⟩ := fin .keyword kwS j H3 K3 D3 (by decide +kernel) j0 j1
        exact ⟨p, _, _, v, rfl, rfl, SqL.of hp3, e, (by show 2 ≤ sizeLine; decide), f⟩
      · refine ⟨_, rfl, _, _, rfl, rfl, _, rfl, ?_⟩
        refine ite2 (fun _ => ?_) (fun _ => ?_)
        · exact menu .sign _ 5 rfl (by decide) (by decide) (by decide +kernel)
        · exact menu .sign _ 10 rfl (by decide) (by decide) (by decide +kernel)
theorem run_l_between (h : sp_l_between K vs H Q E) : t_l_between K E (DQ Q) (start ns_l_between vs) H := by
  obtain ⟨d, r, rfl, hD, q⟩ := h
  refine ⟨(by show 5 ≤ sizeLine; decide), fun p np => ?_⟩
  refine ⟨_, rfl, d, 5, rfl, by decide, r, hD.fresh np, fun j H1 j0 j1 D1 M1 => ?_⟩
  have K1 : Kept d H H1 := ((Kept.refl d H).put np).trans (Kept.of_moved M1)
  have hp : H1 p = some (.lst ([" ", "\n", "  ", "# a _ comment := main!", " "].map mS)) := (M1 p (Ne.symm (hD.neD np))).trans upd_same
  obtain ⟨s, hs, e⟩ := menu_at (ss := [" ", "\n", "  ", "# a _ comment := main!", " "]) j0 j1
  refine ⟨p, _, _, _, rfl, rfl, SqL.of hp, e, ?_⟩
  refine ⟨(by show 7 ≤ sizeLine; decide), fun p2 np2 => ?_⟩
  refine ⟨_, rfl, d, 7, rfl, by decide, r, D1.fresh np2, fun j2 H2 j20 j21 D2 M2 => ?_⟩
  have K2 : Kept d H H2 := (K1.put (K1.free D1.atD np2)).trans (Kept.of_moved M2)
  have hp2 : H2 p2 = some (.lst (["", "", "", "\n", "#\n ", "\n   ", "#x\n\n"].map mS)) := (M2 p2 (Ne.symm (D1.neD np2))).trans upd_same
  obtain ⟨s2, hs2, e2⟩ := menu_at (ss := ["", "", "", "\n", "#\n ", "\n   ", "#x\n\n"]) j20 j21
  refine ⟨p2, _, _, _, rfl, rfl, SqL.of hp2, e2, ?_⟩
  have first : ∃ c cs, codes s = c :: cs := by
    have z : ∀ s ∈ [" ", "\n", "  ", "# a _ comment := main!", " "], (codes s).isEmpty = false := by decide +kernel
    have := z s hs
    cases hc : codes s with
    | nil => rw [hc] at this; cases this
    | cons c cs => exact ⟨c, cs, rfl⟩
  obtain ⟨c, cs, ec⟩ := first
  have hlen : (codes s).length ≤ 22 := by
    have z : ∀ s ∈ [" ", "\n", "  ", "# a _ comment := main!", " "], (codes s).length ≤ 22 := by decide +kernel
    exact z s hs
  refine ⟨_, rfl, _, _, c, rfl, rfl, small_len (by show (codes s).length ≤ _; omega), atI_nat (j := 0) (by show (codes s)[0]? = _; rw [ec]; rfl), rfl, _, rfl, ?_⟩
  rw [show ("#" : Str) = ⟨#[35]⟩ by decide +kernel, dec_one]
  have good : ∀ (a b : List Nat), a = codes s → (c = 35 → b = [10]) → (c ≠ 35 → b ∈ ["", "", "", "\n", "#\n ", "\n   ", "#x\n\n"].map codes) → gapB false (a ++ b) = true ∧ (a ++ b) ≠ [] ∧ (a ++ b).length ≤ 40 ∧ headOk (a ++ b) = true := fun a b ea h1 h2 => by
    subst ea
    have z : ∀ s ∈ [" ", "\n", "  ", "# a _ comment := main!", " "], ((codes s).head? = some 35 → (gapB false (codes s ++ [10]) = true ∧ (codes s ++ [10]) ≠ [] ∧ (codes s ++ [10]).length ≤ 40 ∧ headOk (codes s ++ [10]) = true)) ∧
        ((codes s).head? ≠ some 35 → ∀ b ∈ ["", "", "", "\n", "#\n ", "\n   ", "#x\n\n"].map codes, gapB false (codes s ++ b) = true ∧ (codes s ++ b) ≠ [] ∧ (codes s ++ b).length ≤ 40 ∧ headOk (codes s ++ b) = true) := by decide +kernel
    obtain ⟨z1, z2⟩ := z s hs
    rw [ec] at z1 z2
    rw [ec]
    by_cases hc : c = 35
    · rw [h1 hc]
      exact z1 (by rw [hc]; rfl)
    · exact z2 (fun e => hc (by simpa using e)) b (h2 hc)
  refine ite2 (fun h3 => ?_) (fun h3 => ?_)
  · have h3 := of_decide_eq_true h3
    obtain ⟨g1, g2, g3, g4⟩ := good (codes s) [10] rfl (fun _ => rfl) (fun z => absurd h3 z)
    refine ⟨_, rfl, _, rfl, _, _, rfl, rfl, ?_, ?_⟩
    · rw [nl1]
      show (codes s).length + 1 ≤ sizeLine
      exact small_len (by omega)
    · rw [nl1, show (⟨#[10]⟩ : Str) = Tx [10] from rfl, Tx_app]
      exact q H2 _ K2 D2 g1 g2 g3 g4
  · have h3 : ¬ c = 35 := fun z => h3 (decide_eq_true z)
    have hm : codes s2 ∈ ["", "", "", "\n", "#\n ", "\n   ", "#x\n\n"].map codes := List.mem_map.mpr ⟨s2, hs2, rfl⟩
    obtain ⟨g1, g2, g3, g4⟩ := good (codes s) (codes s2) rfl (fun z => absurd z h3) (fun _ => hm)
    refine ⟨_, rfl, _, rfl, _, _, rfl, rfl, ?_, ?_⟩
    · show (codes s).length + (codes s2).length ≤ sizeLine
      rw [List.length_append] at g3
      exact small_len (by omega)
    · rw [Tx_app]
      exact q H2 _ K2 D2 g1 g2 g3 g4
end

/-! ### the law -/
def sp_law (K : PySem.W.Frag) : Sp := fun vs H Q _ => ∃ (a : Addr) (ns : List Int), vs = [.ref a] ∧ SqL K H a (ns.map V.int) ∧ ns.length ≤ 63 ∧ ∀ H', Q (.bl true) H'
def PreL (t : List Nat) (ts : List Tk) (last : List Nat) : Prop := ∀ rest, Bd last rest → lex (t ++ rest) 1 1 = (ts ++ (lex rest (adv t 1 1).1 (adv t 1 1).2).1, (lex rest (adv t 1 1).1 (adv t 1 1).2).2)
def FreeW (t : List Nat) (ts : List Tk) (w : List Nat) : Prop := ∀ rest, lex (t ++ (w ++ rest)) 1 1 = (ts ++ (lex (w ++ rest) (adv t 1 1).1 (adv t 1 1).2).1, (lex (w ++ rest) (adv t 1 1).1 (adv t 1 1).2).2)
theorem PreL.first {g : List Nat} (h : gapB false g = true) (last : List Nat) : PreL g [] last := fun rest _ => by
  rw [List.nil_append]
  have e := gapB_ok false g h rest 1 1
  rw [lex_skip (l := g ++ rest) (l2 := rest) e]
theorem PreL.gap {t g : List Nat} {ts : List Tk} {last : List Nat} (h : PreL t ts last) (hg : gapB false g = true) (ho : headOk g = true) (hne : g ≠ []) (w : List Nat) : FreeW (t ++ g) ts w := fun rest => by
  rw [List.append_assoc, h (g ++ (w ++ rest)) (.inr ?_), adv_append]
  · have e := gapB_ok false g hg (w ++ rest) (adv t 1 1).1 (adv t 1 1).2
    rw [lex_skip (l := g ++ (w ++ rest)) (l2 := w ++ rest) e]
  · cases g with
    | nil => exact absurd rfl hne
    | cons y ys => exact ho
theorem PreL.direct {t : List Nat} {ts : List Tk} {last w : List Nat} (h : PreL t ts last) (hw : aloneW last = true ∨ aloneW w = true) : FreeW t ts w := fun rest => by
  refine h (w ++ rest) ?_
  rcases hw with hw | hw
  · exact .inl hw
  · obtain ⟨x, rfl, _⟩ := alone_sign hw
    refine .inr ?_
    show (x == 10 || (x == 32 || (x == 35 || aloneW [x]))) = true
    rw [hw, Bool.or_true, Bool.or_true, Bool.or_true]
theorem FreeW.word {t : List Nat} {ts : List Tk} {k : Kd} {w : List Nat} (h : FreeW t ts w) (hg : goodTok k w = true) (hn : 10 ∉ w) : PreL (t ++ w) (ts ++ [⟨k, w, (adv t 1 1).1, (adv t 1 1).2⟩]) w := fun rest hb => by
  rw [List.append_assoc, h rest, lex_word _ _ hg hb, adv_append, adv_flat w _ _ hn, List.append_assoc]
  rfl
theorem TksAt.keptD {H H' : Hp} {p d r : Addr} {ts : List Tk} (h : TksAt H p ts) (hD : Draws H d r) (k : Kept d H H') : TksAt H' p ts := h.kept fun b o e n => k b o (fun z => by
  obtain ⟨i, s, ns, h1, _⟩ := hD
  rw [z, h1] at e
  exact n _ (Option.some.inj e).symm) e
theorem TksAt.same {H H' : Hp} {p : Addr} {ts : List Tk} (h : TksAt H p ts) (s : Same H H') : TksAt H' p ts := h.kept fun b o e _ => s b o e
theorem Draws.kept_ne {H : Hp} {p d r : Addr} {ts : List Tk} (h : TksAt H p ts) (hD : Draws H d r) : p ≠ d := by
  obtain ⟨qs, h1, _⟩ := h
  obtain ⟨i, s, ns, h2, _⟩ := hD
  exact ne_of h1 h2 (by intro z; cases z)
/-- a token is appended -/
theorem TksAt.snoc {H : Hp} {p q : Addr} {ts : List Tk} {t : Tk} (h : TksAt H p ts) (hq : H q = some (.tup (tkV t))) : ∃ xs, H p = some (.lst xs) ∧ xs.length = ts.length ∧ TksAt (upd H p (.lst (xs ++ [.ref q]))) p (ts ++ [t]) := by
  obtain ⟨qs, h1, h2, h3⟩ := h
  refine ⟨_, h1, by rw [List.length_map, h2], qs ++ [q], by rw [upd_same, List.map_append]; rfl, by rw [List.length_append, List.length_append, h2]; rfl, fun k q' t' e1 e2 => ?_⟩
  have nq : q ≠ p := ne_of hq h1 (by intro z; cases z)
  by_cases hk : k < qs.length
  · rw [List.getElem?_append_left hk] at e1
    rw [List.getElem?_append_left (by omega)] at e2
    have h0 := h3 k q' t' e1 e2
    rw [upd_ne (ne_of h0 h1 (by intro z; cases z))]
    exact h0
  · have hkl : k < (qs ++ [q]).length := (List.getElem?_eq_some_iff.mp e1).1
    rw [List.length_append, List.length_singleton] at hkl
    have ek : k = qs.length := by omega
    subst ek
    rw [List.getElem?_append_right (Nat.le_refl _), Nat.sub_self] at e1
    rw [h2, List.getElem?_append_right (Nat.le_refl _), Nat.sub_self] at e2
    cases e1
    cases e2
    rw [upd_ne nq]
    exact hq
theorem kwS_eq : kwS.map mS = kwL.map (fun k => V.str (Tx k)) := by
  unfold kwL kwS
  rw [List.map_map]
  exact List.map_congr_left fun s _ => mS_eq s
theorem dp_strs {K : PySem.W.Frag} {H : Hp} : ∀ L : List (List Nat), DpAll K H (L.map fun k => V.str (Tx k)) (L.map fun k => PyData.str (Tx k))
  | [] => .nil
  | k :: L => .cons (.str _) (dp_strs L)
theorem kw_shaped : SeqAt.shaped (.tuple (kwL.map fun k => PyData.str (Tx k))) = true := by decide +kernel
theorem gapB_app : ∀ (b : Bool) (g h : List Nat), gapB b g = true → gapB b (g ++ h) = gapB false h
  | true, [], h, e => by cases e
  | false, [], h, e => rfl
  | true, x :: xs, h, e => by
    show gapB true (x :: (xs ++ h)) = _
    rw [gapB] at e ⊢
    split at e
    · rename_i hx; rw [if_pos hx]; exact gapB_app false xs h e
    · rename_i hx; rw [if_neg hx]; exact gapB_app true xs h e
  | false, x :: xs, h, e => by
    show gapB false (x :: (xs ++ h)) = _
    rw [gapB] at e ⊢
    split at e
    · rename_i hx; rw [if_pos hx]; exact gapB_app false xs h e
    · rename_i hx
      rw [if_neg hx]
      split at e
      · rename_i hx; rw [if_pos hx]; exact gapB_app false xs h e
      · rename_i hx
        rw [if_neg hx]
        split at e
        · rename_i hx; rw [if_pos hx]; exact gapB_app true xs h e
        · cases e
theorem gapB_nl {g : List Nat} (h : gapB false g = true) : gapB false (g ++ [10]) = true := by
  rw [gapB_app false g [10] h]
  rfl
theorem headOk_app {g h : List Nat} (hne : g ≠ []) (hg : headOk g = true) : headOk (g ++ h) = true := by
  cases g with
  | nil => exact absurd rfl hne
  | cons y ys => exact hg
section
variable {K : PySem.W.Frag} {vs : List V} {H : Hp} {Q : VK} {E : XK}
def LInv (a d r u : Addr) (k : Nat) (σ : L2.St) (H4 : Hp) : Prop := ∃ (t last : List Nat) (ts : List Tk) (v5 v6 v7 v8 v9 v10 v11 : Option V), σ = [some (.ref a), some (.ref d), some (.str (Tx t)), some (.ref u), some (.str (Tx last)), v5, v6, v7, v8, v9, v10, v11] ∧ Draws H4 d r ∧ TksAt H4 u ts ∧
  PreL t ts last ∧ (k = 0 → aloneW last = true) ∧ t.length ≤ 100 + 100 * k ∧ (∀ x ∈ ts, okTk x = true) ∧ ts.length ≤ k
theorem run_law {EW : EWT} (hEW : ∀ x r c E H, ¬ EW x r c E H) (hK : ∀ H, SqT K H (He.ga K ("KEYWORDS" : Str)) (kwL.map fun k => V.str (Tx k))) (h : sp_law K vs H Q E) : t_law K EW E (DQ Q) (start ns_law vs) H := by
  obtain ⟨a, ns, rfl, hS, hl, q⟩ := h
  -- draws = _law_stream(script, 300)
  refine ⟨_, rfl, a, ns, 300, rfl, hS, hl, by decide, by decide, fun d H1 r s rs s1 nd hd hr nrd hrl hrm => ?_⟩
  have D1 : Draws H1 d r := ⟨0, s, rs, hd, hr, Int.le_refl _⟩
  -- text = [..][pick]
  refine ⟨(by show 5 ≤ sizeLine; decide), fun p np => ?_⟩
  refine ⟨_, rfl, d, 5, rfl, by decide, r, D1.fresh np, fun j H2 j0 j1 D2 M2 => ?_⟩
  have hp : H2 p = some (.lst (["", "", " ", "\n", "# begin\n  "].map mS)) := (M2 p (Ne.symm (D1.neD np))).trans upd_same
  obtain ⟨t0, ht0, e0⟩ := menu_at (ss := ["", "", " ", "\n", "# begin\n  "]) j0 j1
  refine ⟨p, _, _, _, rfl, rfl, SqL.of hp, e0, ?_⟩
  have g0 : gapB false (codes t0) = true ∧ (codes t0).length ≤ 100 := by
    have z : ∀ s ∈ ["", "", " ", "\n", "# begin\n  "], gapB false (codes s) = true ∧ (codes s).length ≤ 100 := by decide +kernel
    exact z t0 ht0
  -- due = []
  refine ⟨(by show 0 ≤ sizeLine; decide), fun u nu => ?_⟩
  have nud : u ≠ d := Ne.symm (D2.neD nu)
  have nur : u ≠ r := Ne.symm (D2.neR nu)
  have D3 : Draws (upd H2 u (.lst [])) d r := D2.fresh nu
  -- last = "("
  obtain ⟨i3, s3, ns3, hd3, hr3, hi3⟩ := id D3
  refine ⟨_, rfl, d, _, rfl, dget_row hd3, _, _, rfl, .inl ⟨_, SqL.of hr3, rfl⟩, _, _, rfl, rfl, ⟨by decide, by decide⟩, _, _, rfl, rfl, _, _, rfl, ?_⟩
  -- for k in range(..)
  have hm : ∃ n : Nat, n ≤ 120 ∧ (if (1 + ((ns3.map V.int).length : Int) / 3) < 120 then (1 + ((ns3.map V.int).length : Int) / 3) else 120) = (n : Int) := by
    have z0 : 0 ≤ ((ns3.map V.int).length : Int) / 3 := Int.ediv_nonneg (by omega) (by decide)
    refine ⟨(if (1 + ((ns3.map V.int).length : Int) / 3) < 120 then (1 + ((ns3.map V.int).length : Int) / 3) else 120).toNat, ?_, ?_⟩
    · split <;> omega
    · split <;> omega
  obtain ⟨n, hn, en⟩ := hm
  rw [en]
  refine ⟨(n : Int), rfl, by omega, by omega, ?_⟩
  rw [Int.toNat_natCast]
  refine for_range (lo := 0) (n := n) (LInv a d r u) ⟨codes t0, codes "(", [], none, none, none, none, none, none, none, ?_, D3, ⟨[], upd_same, rfl, fun k q t e => by simp at e⟩, PreL.first g0.1 _, (fun _ => by decide +kernel), (by omega), (fun x hx => by cases hx), Nat.zero_le _⟩ ?_ ?_
  · show [some (V.ref a), some (V.ref d), some (V.str (Tx (codes t0))), some (V.ref u), some (V.str ("(" : Str)), none, none, none, none, none, none, none] = _
    rw [show ("(" : Str) = Tx (codes "(") by decide +kernel]
  · rintro k σ H4 hk ⟨t, last, ts, v5, v6, v7, v8, v9, v10, v11, rfl, D4, T4, hPre, hk0, htl, hok, htsl⟩
    -- kind, word = _law_word(draws)
    refine ⟨_, rfl, d, r, rfl, D4, fun qw H5 kd w K5 D5 nq hq hg hn10 hw40 hwok => ?_⟩
    have T5 := T4.keptD D4 K5
    refine ⟨qw, _, rfl, SqT.of hq, rfl, _, _, rfl, _, _, rfl, rfl, ?_⟩
    -- what is left of the turn, from any text that the word may follow
    have rest : ∀ (D' : Ends), (∀ σ H, LInv a d r u (k + 1) σ H → D'.nx σ H) → ∀ (t' : List Nat) (v8' : Option V) (H6 : Hp), Draws H6 d r → TksAt H6 u ts → FreeW t' ts w → t'.length ≤ 100 + 100 * k + 50 →
        (tSeq (tAsg (tCall (sp_l_place K) [] E (tCons (tVar 2) tNil)) (gTup K 2 (gCons (gName 9) (gCons (gName 10) gNil))))
          (tSeq (tDrop (tBM K "list" rAppend (tVar 3) (tCons (tTup (tCons (tVar 6) (tCons (tVar 7) (tCons (tVar 9) (tCons (tVar 10) tNil))))) tNil)))
          (tSeq (tAsg (tOp rCatS (tVar 2) (tVar 7)) (gName 2))
          (tAsg (tVar 7) (gName 4))))) D'
        [some (.ref a), some (.ref d), some (.str (Tx t')), some (.ref u), some (.str (Tx last)), some (.int (0 + k)), some (.str (kdS kd)), some (.str (Tx w)), v8', v9, v10, v11] H6 := fun D' hD' t' v8' H6 D6 T6 hF hl' => by
      refine ⟨_, rfl, t', rfl, by omega, fun q2 H7 s7 nq2 hq2 => ?_⟩
      refine ⟨q2, _, rfl, SqT.of hq2, rfl, _, _, rfl, _, _, rfl, rfl, ?_⟩
      have D7 := D6.same s7
      have T7 := T6.same s7
      obtain ⟨xs0, hu0, hxl0, _⟩ := id T7
      refine ⟨_, rfl, .inl ⟨rfl, _, SqL.of hu0⟩, _, rfl, _, rfl, _, rfl, _, rfl, (by show 4 ≤ sizeLine; decide), fun q3 nq3 => ?_⟩
      have T8 : TksAt (upd H7 q3 (.tup (tkV ⟨kd, w, (adv t' 1 1).1, (adv t' 1 1).2⟩))) u ts := T7.same (same_upd nq3)
      have D8 : Draws (upd H7 q3 (.tup (tkV ⟨kd, w, (adv t' 1 1).1, (adv t' 1 1).2⟩))) d r := D7.fresh nq3
      obtain ⟨xs, hu, hxl, T9⟩ := T8.snoc (t := ⟨kd, w, (adv t' 1 1).1, (adv t' 1 1).2⟩) upd_same
      refine ⟨u, xs, _, rfl, rfl, hu, (by rw [hxl]; exact Nat.lt_of_le_of_lt (show ts.length ≤ 1000 by omega) (by decide)), ?_⟩
      refine ⟨_, rfl, _, rfl, _, _, rfl, rfl, ?_, ?_⟩
      · show t'.length + w.length ≤ sizeLine
        exact small_len (by omega)
      · rw [Tx_app]
        refine ⟨_, rfl, hD' _ _ ⟨t' ++ w, w, _, _, _, _, _, _, _, _, rfl, D8.other nud nur, T9, hF.word hg hn10, fun z => by omega, by rw [List.length_append]; omega, ?_, by rw [List.length_append, List.length_singleton]; omega⟩⟩
        intro x hx
        rcases List.mem_append.mp hx with hx | hx
        · exact hok x hx
        · rw [List.mem_singleton.mp hx]
          exact hwok
    -- if the last word or this one is alone, and the draw is not 0: nothing between
    refine ⟨_, rfl, last, rfl, fun H6 s6 => ⟨_, rfl, ?_⟩⟩
    have D6 := D5.same s6
    have T6 := T5.same s6
    -- a gap, or at the first word nothing
    have yes : ∀ (D' : Ends), (∀ σ H, LInv a d r u (k + 1) σ H → D'.nx σ H) → ∀ H7, Draws H7 d r → TksAt H7 u ts →
        (tIfS (tTest (tOp rGtI (tVar 5) (tC (.int 0))))
          (tSeq (tAsg (tCall (sp_l_between K) [] E (tCons (tVar 1) tNil)) (gName 8))
          (tSeq (tAsg (tOp rCatS (tVar 2) (tVar 8)) (gName 2))
          (tIfS (tAnd (tTest (tOp rInSign (tC (.str ("#" : Str))) (tVar 8))) (tTest (tOp (rIn K true) (tOp rIxS (tVar 8) (tUn rNegI (tC (.int 1)))) (tTup (tCons (tC (.str (" " : Str))) (tCons (tC (.str ("\n" : Str))) tNil))))))
            (tAsg (tOp rCatS (tVar 2) (tC (.str ("\n" : Str)))) (gName 2))
            tNext)))
          tNext) { D' with nx := (tSeq (tAsg (tCall (sp_l_place K) [] E (tCons (tVar 2) tNil)) (gTup K 2 (gCons (gName 9) (gCons (gName 10) gNil))))
          (tSeq (tDrop (tBM K "list" rAppend (tVar 3) (tCons (tTup (tCons (tVar 6) (tCons (tVar 7) (tCons (tVar 9) (tCons (tVar 10) tNil))))) tNil)))
          (tSeq (tAsg (tOp rCatS (tVar 2) (tVar 7)) (gName 2))
          (tAsg (tVar 7) (gName 4))))) D' }
        [some (.ref a), some (.ref d), some (.str (Tx t)), some (.ref u), some (.str (Tx last)), some (.int (0 + k)), some (.str (kdS kd)), some (.str (Tx w)), v8, v9, v10, v11] H7 := fun D' hD' H7 D7 T7 => by
      refine ⟨_, rfl, _, _, rfl, rfl, _, rfl, ?_⟩
      refine ite2 (fun hk1 => ?_) (fun hk1 => ?_)
      · refine ⟨_, rfl, d, r, rfl, D7, fun H8 g K8 D8 gg gne gl gh => ?_⟩
        have T8 := T7.keptD D7 K8
        refine ⟨_, rfl, _, rfl, _, _, rfl, rfl, ?_, ?_⟩
        · show t.length + g.length ≤ sizeLine
          exact small_len (by omega)
        · rw [Tx_app]
          refine ⟨_, rfl, 35, _, congrArg V.str (by decide +kernel), rfl, _, rfl, ?_⟩
          refine ite2 (fun h35 => ?_) (fun h35 => ?_)
          · -- between[-1] not in (" ", "\n")
            obtain ⟨c, cs, ec⟩ : ∃ c cs, g = cs ++ [c] := ⟨g.getLast gne, g.dropLast, (List.dropLast_concat_getLast gne).symm⟩
            refine ⟨_, rfl, _, rfl, _, -1, c, rfl, rfl, small_len (by show g.length ≤ _; omega), (by show atI g (-1) = _; rw [ec]; exact atI_last cs c), (by show 2 ≤ sizeLine; decide), fun q9 nq9 => ?_⟩
            have T9 := T8.same (same_upd (o := .tup [V.str (" " : Str), V.str ("\n" : Str)]) nq9)
            have D9 := D8.fresh (o := .tup [V.str (" " : Str), V.str ("\n" : Str)]) nq9
            refine ⟨_, _, rfl, .inr (SqT.of upd_same), rfl, rfl, _, rfl, ?_⟩
            refine ite2 (fun _ => ?_) (fun _ => ?_)
            · refine ⟨_, rfl, _, _, rfl, rfl, ?_, ?_⟩
              · rw [nl1]
                show (t ++ g).length + 1 ≤ sizeLine
                rw [List.length_append]
                exact small_len (by omega)
              · rw [nl1, show (⟨#[10]⟩ : Str) = Tx [10] from rfl, Tx_app, List.append_assoc]
                have gg2 : gapB false (g ++ [10]) = true := gapB_nl gg
                refine rest D' hD' (t ++ (g ++ [10])) _ _ D9 T9 (hPre.gap gg2 (headOk_app gne gh) (by simp) w) (by rw [List.length_append, List.length_append, List.length_singleton]; omega)
            · exact rest D' hD' (t ++ g) _ _ D9 T9 (hPre.gap gg gh gne w) (by rw [List.length_append]; omega)
          · exact rest D' hD' (t ++ g) _ _ D8 T8 (hPre.gap gg gh gne w) (by rw [List.length_append]; omega)
      · have ek : k = 0 := by
          have : ¬ (0 : Int) < 0 + (k : Int) := fun z => hk1 (decide_eq_true z)
          omega
        exact rest D' hD' t _ _ D7 T7 (hPre.direct (.inl (hk0 ek))) (by omega)
    have pick : ∀ H7, Draws H7 d r → TksAt H7 u ts → (aloneW last = true ∨ aloneW w = true) → ∀ (Y : Bool → Hp → Prop), (∀ H8, Draws H8 d r → TksAt H8 u ts → Y true H8 ∧ Y false H8) →
        (tTest (tOp rEq (tCall (sp_l_pick K) [] E (tCons (tVar 1) (tCons (tC (.int 3)) tNil))) (tC (.int 0)))) [some (.ref a), some (.ref d), some (.str (Tx t)), some (.ref u), some (.str (Tx last)), some (.int (0 + k)), some (.str (kdS kd)), some (.str (Tx w)), v8, v9, v10, v11] H7 Y := fun H7 D7 T7 _ Y hY => by
      refine ⟨_, rfl, d, 3, rfl, by decide, r, D7, fun j H8 j0 j1 D8 M8 => ?_⟩
      obtain ⟨y1, y2⟩ := hY H8 D8 (T7.keptD D7 (Kept.of_moved M8))
      refine ⟨rfl, _, rfl, ?_⟩
      cases decide (V.int j = V.int 0) with
      | true => exact y1
      | false => exact y2
    have hD0 : ∀ σ H, LInv a d r u (k + 1) σ H → LInv a d r u (k + 1) σ H := fun _ _ z => z
    cases hal : aloneW last with
    | true =>
      refine iteT (iteF ?_)
      refine pick H6 D6 T6 (.inl hal) _ fun H8 D8 T8 => ⟨iteT ?_, iteF ?_⟩
      · exact yes _ hD0 H8 D8 T8
      · exact rest _ hD0 t _ _ D8 T8 (hPre.direct (.inl hal)) (by omega)
    | false =>
      refine iteF ⟨_, rfl, w, rfl, fun H7 s7 => ⟨_, rfl, ?_⟩⟩
      have D7 := D6.same s7
      have T7 := T6.same s7
      cases haw : aloneW w with
      | true =>
        refine iteF ?_
        refine pick H7 D7 T7 (.inr haw) _ fun H8 D8 T8 => ⟨iteT ?_, iteF ?_⟩
        · exact yes _ hD0 H8 D8 T8
        · exact rest _ hD0 t _ _ D8 T8 (hPre.direct (.inr haw)) (by omega)
      | false =>
        exact iteT (yes _ hD0 H7 D7 T7)
  · rintro σ H4 ⟨t, last, ts, v5, v6, v7, v8, v9, v10, v11, rfl, D4, T4, hPre, hk0, htl, hok, htsl⟩
    -- text = text + [..][pick]
    refine ⟨_, rfl, (by show 5 ≤ sizeLine; decide), fun p5 np5 => ?_⟩
    refine ⟨_, rfl, d, 5, rfl, by decide, r, D4.fresh np5, fun j5 H5 j50 j51 D5 M5 => ?_⟩
    have T5 : TksAt H5 u ts := (T4.same (same_upd np5)).keptD (D4.fresh np5) (Kept.of_moved M5)
    have hp5 : H5 p5 = some (.lst (["", " ", "\n", "\n  ", " # the end"].map mS)) := (M5 p5 (Ne.symm (D4.neD np5))).trans upd_same
    obtain ⟨sf, hsf, e5⟩ := menu_at (ss := ["", " ", "\n", "\n  ", " # the end"]) j50 j51
    have gsf : endB false (codes sf) = true ∧ (codes sf).length ≤ 100 ∧ headOk (codes sf) = true := by
      have z : ∀ s ∈ ["", " ", "\n", "\n  ", " # the end"], endB false (codes s) = true ∧ (codes s).length ≤ 100 ∧ headOk (codes s) = true := by decide +kernel
      exact z sf hsf
    refine ⟨p5, _, _, _, rfl, rfl, SqL.of hp5, e5, _, _, rfl, rfl, ?_, ?_⟩
    · show t.length + (codes sf).length ≤ sizeLine
      exact small_len (by omega)
    rw [Tx_app]
    have hend := lex_end (endB_ok false (codes sf) gsf.1 (adv t 1 1).1 (adv t 1 1).2)
    have hlex : lex (t ++ codes sf) 1 1 = (ts ++ [⟨.fin, [], (adv (t ++ codes sf) 1 1).1, (adv (t ++ codes sf) 1 1).2⟩], none) := by
      rw [hPre (codes sf) (.inr gsf.2.2), hend, adv_append]
    -- row, column = _law_place(text); due.append(("end", "", row, column))
    refine ⟨_, rfl, t ++ codes sf, rfl, by rw [List.length_append]; omega, fun q6 H6 s6 nq6 hq6 => ?_⟩
    refine ⟨q6, _, rfl, SqT.of hq6, rfl, _, _, rfl, _, _, rfl, rfl, ?_⟩
    have T6 := T5.same s6
    obtain ⟨xs0, hu0, hxl0, _⟩ := id T6
    refine ⟨_, rfl, .inl ⟨rfl, _, SqL.of hu0⟩, _, rfl, _, rfl, (by show 4 ≤ sizeLine; decide), fun q7 nq7 => ?_⟩
    have e7 : ([V.str ("end" : Str), V.str ("" : Str), V.int (adv (t ++ codes sf) 1 1).1, V.int (adv (t ++ codes sf) 1 1).2] : List V) = tkV ⟨.fin, [], (adv (t ++ codes sf) 1 1).1, (adv (t ++ codes sf) 1 1).2⟩ := by
      show _ = [V.str ("end" : Str), V.str (Tx []), _, _]
      rw [show ("" : Str) = Tx [] by decide +kernel]
    have T7 : TksAt (upd H6 q7 (.tup [V.str ("end" : Str), V.str ("" : Str), V.int (adv (t ++ codes sf) 1 1).1, V.int (adv (t ++ codes sf) 1 1).2])) u ts := T6.same (same_upd nq7)
    obtain ⟨xs, hu, hxl, T8⟩ := T7.snoc (t := ⟨.fin, [], (adv (t ++ codes sf) 1 1).1, (adv (t ++ codes sf) 1 1).2⟩) (by rw [upd_same, e7])
    refine ⟨u, xs, _, rfl, rfl, hu, (by rw [hxl]; exact Nat.lt_of_le_of_lt (show ts.length ≤ 1000 by omega) (by decide)), ?_⟩
    -- actual = tokens(text)
    refine ⟨_, rfl, t ++ codes sf, rfl, by rw [List.length_append]; omega, fun ts9 p9 H9 e9 np9 s9 T9 => ?_, fun ts9 er r9 c9 H9 e9 _ => by rw [hlex] at e9; cases e9⟩
    have ets : ts9 = ts ++ [⟨.fin, [], (adv (t ++ codes sf) 1 1).1, (adv (t ++ codes sf) 1 1).2⟩] := by
      rw [hlex] at e9
      exact (congrArg Prod.fst e9).symm
    have T10 := T8.same s9
    have hok2 : ∀ x ∈ ts9, okTk x = true := fun x hx => by
      rw [ets] at hx
      rcases List.mem_append.mp hx with hx | hx
      · exact hok x hx
      · rw [List.mem_singleton.mp hx]
        exact (by decide +kernel : PyData.strOk (Tx []) = true)
    rw [← ets] at T10
    obtain ⟨qs9, hp9, _, _⟩ := id T9
    have hsh := shaped_tks hok2
    -- isinstance(actual, list), actual != due
    refine ⟨_, rfl, _, _, .type "list", .type "list", true, rfl, .ty "list", .base (.lst hp9), kit_ty (by decide +kernel), _, rfl, ?_⟩
    refine iteF ?_
    refine ⟨_, rfl, _, rfl, _, _, T9.dp, T10.dp, hsh, hsh, _, rfl, ?_⟩
    rw [SeqAt.eqv_refl _ (SeqAt.canLay_of_shaped hsh)]
    refine iteF ?_
    -- KEYWORDS == tuple(_law_keywords()) and tokens("") == [("end", "", 1, 1)]
    refine ⟨rfl, fun p11 H11 s11 np11 hp11 => ?_⟩
    refine ⟨p11, _, rfl, .inl ⟨SqL.of hp11, fun p12 np12 => ?_⟩⟩
    refine ⟨_, _, .tup (hK _) (dp_strs kwL), .tup (SqT.of upd_same) (by rw [kwS_eq]; exact dp_strs kwL), kw_shaped, kw_shaped, _, rfl, ?_⟩
    rw [SeqAt.eqv_refl _ (SeqAt.canLay_of_shaped kw_shaped)]
    refine iteT ?_
    have l0 : lex [] 1 1 = ([⟨.fin, [], 1, 1⟩], none) := lex_end rfl
    refine ⟨[], congrArg (fun s => [V.str s]) (by decide +kernel), by decide, fun ts13 p13 H13 e13 np13 s13 T13 => ?_, fun ts13 er r9 c9 H13 e13 _ => by rw [l0] at e13; cases e13⟩
    have ets13 : ts13 = [⟨.fin, [], 1, 1⟩] := by
      rw [l0] at e13
      exact (congrArg Prod.fst e13).symm
    subst ets13
    refine ⟨(by show 4 ≤ sizeLine; decide), fun p14 np14 => ⟨(by show 1 ≤ sizeLine; decide), fun p15 np15 => ?_⟩⟩
    have n145 : p14 ≠ p15 := fun z => by rw [← z, upd_same] at np15; cases np15
    have e14 : ([V.str ("end" : Str), V.str ("" : Str), V.int 1, V.int 1] : List V) = tkV ⟨.fin, [], 1, 1⟩ := by
      show _ = [V.str ("end" : Str), V.str (Tx []), _, _]
      rw [show ("" : Str) = Tx [] by decide +kernel]
    have T15 := (T13.same (same_upd (o := .tup [V.str ("end" : Str), V.str ("" : Str), V.int 1, V.int 1]) np14)).same (same_upd (o := .lst [V.ref p14]) np15)
    have T16 : TksAt (upd (upd H13 p14 (.tup [V.str ("end" : Str), V.str ("" : Str), V.int 1, V.int 1])) p15 (.lst [V.ref p14])) p15 [⟨.fin, [], 1, 1⟩] := by
      refine ⟨[p14], upd_same, rfl, fun k q t e1 e2 => ?_⟩
      cases k with
      | zero =>
        cases e1
        cases e2
        rw [upd_ne n145, upd_same, e14]
      | succ k => simp at e1
    have sh16 : SeqAt.shaped (.list ([(⟨.fin, [], 1, 1⟩ : Tk)].map tkD)) = true := by decide +kernel
    refine ⟨_, _, T15.dp, T16.dp, sh16, sh16, ?_⟩
    rw [SeqAt.eqv_refl _ (SeqAt.canLay_of_shaped sh16)]
    exact q _
end
end Rm

/-! E1: an own error whose class chain ends in ValueError and whose __init__ tells row and column by super().__init__(f'..'). -/
namespace Rm
open PySem PySem.W PySem.Calls PyProof.Rows PySem.HandSPX
/-! ### the text of __init__ -/
def teA (p1 p2 p3 : Pos) : Arguments := { posonlyargs := [], args := [{ arg := "self", annotation := none, pos := p1 }, { arg := "row", annotation := none, pos := p2 }, { arg := "column", annotation := none, pos := p3 }], vararg := none, kwonlyargs := [], kw_defaults := [], kwarg := none, defaults := [] }
def teB (a1 a2 a3 b1 b2 b3 c1 c2 d1 d2 e1 e2 f1 f2 f3 f4 g1 g2 g3 g4 : Pos) (k1 k2 : Nat) : List Stmt :=
  [.Expr (.Call (.Attribute (.Call (.Name "super" a1) [] [] a2) "__init__" a3) [.JoinedStr [.Constant (.str "row ") k1 b1, .FormattedValue (.Name "row" c1) (-1) none c2, .Constant (.str ", column ") k2 b2, .FormattedValue (.Name "column" d1) (-1) none d2] b3] [] e1) e2,
   .Assign [.Attribute (.Name "self" f1) "row" f2] (.Name "row" f3) f4, .Assign [.Attribute (.Name "self" g1) "column" g2] (.Name "column" g3) g4]
def teS : Scope := { kind := .function, names := [(PySem.Str.ofString "self", .local), (PySem.Str.ofString "row", .local), (PySem.Str.ofString "column", .local), (PySem.Str.ofString "__class__", .free), (PySem.Str.ofString "super", .globalImplicit)], isGenerator := false, isCoroutine := false, more := [] }
/-- what the written part tells of the class at C, whose __init__, at fI, is written in the class at D -/
structure ErrK (P : Program) (K : Frag) (C : Addr) : Prop where
  oex : L2.OexC K C
  nr : findIn K (.ref C) "row" = some none
  nc : findIn K (.ref C) "column" = some none
  vE : subIn K (.ref C) (.type "ValueError") = some true
  sup : nsIn K mainGlobals "super" = some none
  tp : nsIn K cStatics "thirdparty.any" = some none
  top : (P.main.scope.names.lookup ("super" : Str)).isSome = false
  fn : ∃ (D cc cda fI : Addr) (oc ocd oce : Value) (od odd ode : Option Addr) (osl osd ose : Array (Option Value)) (cdD : ClassData) (vs : Array Value) (file : Str) (tf : Tok) (dV kV doc pm ct : Value) (an : Option Addr)
    (p1 p2 p3 a1 a2 a3 b1 b2 b3 c1 c2 d1 d2 e1 e2 f1 f2 f3 f4 g1 g2 g3 g4 : Pos) (k1 k2 : Nat),
    (a3.endLine == e1.line) = true ∧ findIn K (.ref C) "__init__" = some (some (.ref fI)) ∧ typeIn K (.ref fI) = some (.type "function") ∧
    K.lookup fI = some ⟨oc, od, .func (ksFn "__init__" "TextError.__init__" (teA p1 p2 p3) (teB a1 a2 a3 b1 b2 b3 c1 c2 d1 d2 e1 e2 f1 f2 f3 f4 g1 g2 g3 g4 k1 k2) teS .none kV doc pm an (.ref cda) ct cc), osl⟩ ∧ codeIn K (.ref cda) "TextError.__init__" = true ∧
    K.lookup cda = some ⟨ocd, odd, .fields vs, osd⟩ ∧ vs[2]? = some (.str file tf) ∧ ((P.main.file : Str) == file) = true ∧
    K.lookup cc = some ⟨oce, ode, .cell (some (.ref D)), ose⟩ ∧ clsIn K D = some cdD ∧ mroIn K C (.ref D) = some true ∧ ks_superIn K C D "__init__" = some (some (.builtin "ValueError.__init__"))
section
variable {prog : Program} {w : World} {A : Around} {E : Value → Shared → Prop} {R : Result → Shared → Prop} {h : Heap} {g : Array GenState} {d : Drawn} {t : Nat} {os : OsState} {K : Frag} {C : Addr}
/-- ValueError.__init__, bound, called -/
theorem bound_called {nm q : Str} {N u x t0 : Addr} {bs bm : List Value} {hd : Bool} {sn : List Str} {sub : List Value} {ab : Bool} {col : Option Bool} {dd : Option Addr} {k0 k1 k2 k3 k5 : Option Value} {rest : List Value} {Q : Value → Shared → Prop}
    (cls : h.get? C = some (excClassObj nm q C N bs bm hd sn sub ab col dd k0 k1 k2 k3 k5 "ValueError.__new__")) (inst : h.get? x = some (excO C t0)) (mw : h.get? u = some (kxs_mw "ValueError.__init__" x)) (few : rest.length ≤ sizeLine)
    (goal : ∀ h' t1, (∀ b o, b ≠ x → h.get? b = some o → h'.get? b = some o) → h'.get? x = some (excO C t1) → Q .none ⟨h', g, d, t, os⟩) : wpAny (model prog w) A (call (.ref u) rest) Q E ⟨h, g, d, t, os⟩ := by
  apply wpAny_call
  apply codeAny_of_tree
  change wpAny _ A.in1 (callAny (.ref u) ⟨rest, []⟩) _ _ _
  rw [callAny]
  apply wpAny_bind
  apply wpAny_load mw
  have yes : (Value.type "method-wrapper" == Value.type "method" || Value.type "method-wrapper" == Value.type "builtin_function_or_method" || Value.type "method-wrapper" == Value.type "method-wrapper") = true := by decide
  simp only [kxs_mw, yes, if_true]
  apply KFB.if_so (by decide)
  refine wpAny_bind (check_bound_init F.excBase_ValueError.toExcCallFacts cls inst rfl (wpAny_bind (wpAny_pure (wpAny_pure ⟨plainId_quiet F.excBase_ValueError.init.plain _, codeAny_builtin F.excBase_ValueError.initEntry ?_⟩))))
  exact exc_init_tree (cls := .ref C) (t0 := t0) (dv := none) (c2 := .none) (c3 := .none) (b4 := .bool false) inst few fun h' keep at_ _ => goal h' _ keep at_
theorem three {x : Addr} {r c : Value} {y : Str × Value} (hy : y ∈ ([(("self" : Str), Value.ref x), ("row", r), ("column", c)] : List (Str × Value))) : teS.names.lookup y.1 = some .local := by
  rcases List.mem_cons.mp hy with rfl | hy
  · show teS.names.lookup ("self" : Str) = _
    decide +kernel
  rcases List.mem_cons.mp hy with rfl | hy
  · show teS.names.lookup ("row" : Str) = _
    decide +kernel
  rcases List.mem_cons.mp hy with rfl | hy
  · show teS.names.lookup ("column" : Str) = _
    decide +kernel
  · cases hy
theorem meth_line {o : Expr} {name : Str} {apos pos : Pos} {args : List Expr} {env : Env} (ln : (apos.endLine == pos.line) = true) (few : methodCallForm (args.length + 0) (backTo pos (starEach args env)) [] = true) :
    eval (.Call (.Attribute o name apos) args [] pos) env = (do
      let ov ← attributeBase o name env (eval o env)
      standAt apos.atName
      let (f, first) ← holding [ov] (getMethod ov name (L2.plainOf o env))
      callWith pos f first (backTo pos (starEach args env)) []) := by
  have e : ∀ ov, methodCall o name apos pos env ov (args.length + 0) (backTo pos (starEach args env)) [] = (do
      let (f, first) ← holding [ov] (getMethod ov name (L2.plainOf o env))
      callWith pos f first (backTo pos (starEach args env)) []) := fun ov => L2.mcall_line few ln
  rw [arm_eval_Call]
  show (attributeBase o name env (eval o env) >>= fun ov => standAt apos.atName >>= fun _ => methodCall o name apos pos env ov (args.length + 0) (backTo pos (starEach args env)) []) = _
  rw [show (fun ov => standAt apos.atName >>= fun _ => methodCall o name apos pos env ov (args.length + 0) (backTo pos (starEach args env)) []) = fun ov => standAt apos.atName >>= fun _ => (do
      let (f, first) ← holding [ov] (getMethod ov name (L2.plainOf o env))
      callWith pos f first (backTo pos (starEach args env)) []) from funext fun ov => by rw [e ov]]
/-- the parts of the told text are short -/
theorem place_text {r : Int} (hr : r.natAbs.log2 < 1920) : (PySem.Str.ofString (toString r)).length ≤ 1921 := by
  have e := int_text_length_le (k := 1920) (by decide) hr
  rw [PySem.ofString_length]
  omega
/-- what __init__ leaves -/
structure ErrLeft (h h' : Heap) (x C dx t1 : Addr) (r c : Value) : Prop where
  keep : ∀ b o, b ≠ x → h.get? b = some o → h'.get? b = some o
  obj : h'.get? x = some { cls := .ref C, dict := some dx, data := .fields #[.ref t1, .none, .none, .none, .bool false, .none] }
  big : h.objs.size ≤ dx
  ne : dx ≠ x
  ns : h'.Ns1 dx (fun y => if y = "column" then some c else if y = "row" then some r else none)
theorem err_init {mg mb : Str → Option Value} {x t0 : Addr} {r c : Int} {tr tc : Tok} (T : ErrK prog K C) (X : K.In h) (G : h.Ns mainGlobals mg) (B : h.Ns builtinsNs mb) (bb : ∀ x : Str, x ≠ "__name__" → mb x = bootBuiltins x)
    (lim : h.NoLimit) (hx : h.get? x = some (excO C t0)) (nx : K.lookup x = none) (room : A.depth < recursionLimit) (hr : r.natAbs.log2 < 1920) (hc : c.natAbs.log2 < 1920) {fI : Addr} (iI : findIn K (.ref C) "__init__" = some (some (.ref fI)))
    (goal : ∀ h' tk dx t1, ErrLeft h h' x C dx t1 (.int r tr) (.int c tc) → R (.ok (.ret .none)) ⟨h', g, d, tk, os⟩) :
    codeAny (model prog w) A (.call (.ref fI) ⟨[.ref x, .int r tr, .int c tc], []⟩) R ⟨h, g, d, t, os⟩ := by
  obtain ⟨D, cc, cda, fI', oc, ocd, oce, od, odd, ode, osl, osd, ose, cdD, vs, file, tf, dV, kV, doc, pm, ct, an, p1, p2, p3, a1, a2, a3, b1, b2, b3, c1, c2, d1, d2, e1, e2, f1, f2, f3, f4, g1, g2, g3, g4, k1, k2, ln, iI', tI, lF, cF, lcd, hvs, hfile, lcc, lD, mD, sI⟩ := T.fn
  have same : fI' = fI := by
    rw [iI] at iI'
    cases iI'
    rfl
  subst same
  obtain ⟨nm, q, N, bs, bm, sn, sub, ab, col, dd, k0, k1', k2', k3, k5, hC, hbm⟩ := T.oex.cls
  have hcl : clsIn K C = some { name := nm, bases := bs, mro := .ref C :: bm, ns := N, qualname := q, hasDict := true, slotNames := sn, subclasses := sub, abstract := ab, collection := col, hasDel := false } := by
    unfold clsIn
    rw [hC] <;> rfl
  refine ks_codeAny_call_defAt (binds := [("self", .ref x), ("row", .int r tr), ("column", .int c tc)]) room (X _ _ lF) rfl lim (codeRec_of X cF) rfl (BindsTo.of_eq (by first | rfl | with_unfolding_all rfl)) (show ∀ y ∈ teS.names, y.2 ≠ .cell by decide +kernel) (show ∀ y ∈ ([(("self" : Str), Value.ref x), ("row", .int r tr), ("column", .int c tc)] : List (Str × Value)), teS.names.lookup y.1 = some .local from fun y hy => three hy) (fun h0 ns0 keep0 => ?_)
  have X0 : K.In h0 := X.keeps keep0
  have hx0 := keep0 _ _ hx
  -- super()
  refine ks_wpAt_execs_cons (ks_wpAt_Expr_any (ks_wpAt_MethodCall (pl := L2.plainOf (.Call (.Name "super" a1) [] [] a2) (ksEnv "TextError.__init__" teS h.objs.size fI' (.ref cda) cc)) ?_ (meth_line ln rfl)))
  have lookN : ∀ y : Str, (fun y => ([("self", Value.ref x), ("row", .int r tr), ("column", .int c tc)] : List (Str × Value)).reverse.lookup y) y = ([("self", Value.ref x), ("row", .int r tr), ("column", .int c tc)] : List (Str × Value)).reverse.lookup y := fun _ => rfl
  obtain ⟨oD, hD1, hD2⟩ : ∃ oD, h0.get? D = some oD ∧ oD.data = .cls cdD := by
    unfold clsIn at lD
    split at lD
    · rename_i cls0 dct0 cd0 sl0 ho
      cases lD
      exact ⟨_, X0 _ _ ho, rfl⟩
    · cases lD
  refine ks_wpAt_super_base (by rfl) (by rfl) (by decide) rfl (X0 _ _ lF) rfl rfl rfl (X0 _ _ lcd) rfl hvs hfile T.top ?_
  refine ks_loadName_global rfl rfl (loadGlobal_builtin (mg := mg) (mb := mb) (v := .type "super") (G.keeps keep0) (mg_none_of X G T.sup) (B.keeps keep0) ((bb _ (by decide +kernel)).trans (by first | rfl | kernel_rfl)) ⟨rfl, ?_⟩)
  refine wpAny_loadName_free (v := .ref D) rfl rfl rfl ⟨_, X0 _ _ lcc, rfl⟩ ?_
  refine wpAny_loadName_local (v := .ref x) rfl rfl ns0 (by first | rfl | kernel_rfl) ?_
  refine ks_wpAny_isType_cls hD1 hD2 ⟨rfl, ?_⟩
  refine ks_wpAny_call_super hD1 hD2 hx0 rfl (fun _ z => by cases z) (looks_mroIn X0 mD) (fun h1 so1 keep1 => ?_)
  have X1 : K.In h1 := X0.keeps keep1
  have hx1 := keep1 _ _ hx0
  have I1 : InstAt h1 x (excO C t0) C none := ⟨hx1, rfl, rfl, trivial⟩
  have along : alongIn K "__init__" (((Value.ref C :: bm).dropWhile (· != .ref D)).drop 1) = some (some (.builtin "ValueError.__init__")) := by
    unfold ks_superIn at sI
    rw [hcl] at sI
    exact sI
  refine kxs_getMethod kxs_ValueError so1 (looks_opaque X1 T.tp) ((looks_clsIn X1 hcl).andThen .now) rfl X1 along (I1.type.andThen (looks_subIn X1 T.vE)) (ks_ne X1 I1 hcl) (by decide) ?_
  have keep2 : ∀ b o, h1.get? b = some o → (h1.push (kxs_mw "ValueError.__init__" x)).get? b = some o := fun b o e => Heap.get?_push_of_some _ e
  have mw2 : (h1.push (kxs_mw "ValueError.__init__" x)).get? h1.objs.size = some (kxs_mw "ValueError.__init__" x) := Heap.get?_push_at rfl rfl
  have ns2 : (h1.push (kxs_mw "ValueError.__init__" x)).Ns h.objs.size (fun y => ([("self", Value.ref x), ("row", .int r tr), ("column", .int c tc)] : List (Str × Value)).reverse.lookup y) := ns0.at fun o e => keep2 _ _ (keep1 _ _ e)
  generalize hh2 : h1.push (kxs_mw "ValueError.__init__" x) = h2 at keep2 mw2 ns2
  have all2 : ∀ b o, h.get? b = some o → h2.get? b = some o := fun b o e => keep2 _ _ (keep1 _ _ (keep0 _ _ e))
  -- the told text
  refine kxs_callWith (i := "ValueError.__init__") (x := x) rfl ?_
  refine evalArgs_plain (x := eval (.JoinedStr [.Constant (.str "row ") k1 b1, .FormattedValue (.Name "row" c1) (-1) none c2, .Constant (.str ", column ") k2 b2, .FormattedValue (.Name "column" d1) (-1) none d2] b3) (ksEnv "TextError.__init__" teS h.objs.size fI' (.ref cda) cc)) (spliced_cons ?_)
  refine wpAny_JoinedStr ?_
  refine wpAny_Constant_str ⟨_, _, rfl, by decide, ?_⟩
  have z0 : (Str.empty ++ ("row " : Str)).length = 4 := by decide
  have z1 : ((", column " : Str)).length = 9 := by decide
  have tr1 := place_text hr
  have tc1 := place_text hc
  have fit1 : ((Str.empty ++ ("row " : Str)) ++ Str.ofString (toString r)).length ≤ sizeLine := by
    rw [strLen_append, sizeLine_eq]
    omega
  have fit2 : (((Str.empty ++ ("row " : Str)) ++ Str.ofString (toString r)) ++ (", column " : Str)).length ≤ sizeLine := by
    rw [strLen_append, strLen_append, sizeLine_eq]
    omega
  have fit3 : ((((Str.empty ++ ("row " : Str)) ++ Str.ofString (toString r)) ++ (", column " : Str)) ++ Str.ofString (toString c)).length ≤ sizeLine := by
    rw [strLen_append, strLen_append, strLen_append, sizeLine_eq]
    omega
  refine wpAny_FormattedValue_plain (wpAny_Name (wpAny_loadName_local (v := .int r tr) rfl rfl ns2 (by first | rfl | kernel_rfl) ?_))
  refine wpAny_formatField_int hr ⟨_, _, rfl, fit1, ?_⟩
  refine wpAny_Constant_str ⟨_, _, rfl, fit2, ?_⟩
  refine wpAny_FormattedValue_plain (wpAny_Name (wpAny_loadName_local (v := .int c tc) rfl rfl ns2 (by first | rfl | kernel_rfl) ?_))
  refine wpAny_formatField_int hc ⟨_, _, rfl, fit3, fit3, ?_⟩
  refine spliced_nil ⟨mw2, ?_⟩
  refine bound_called (X.keeps all2 _ _ hC) (keep2 _ _ hx1) mw2 (by show 1 ≤ sizeLine; decide) fun h3 t3 keep3 hx3 => ?_
  have Lx : h.objs.size ≠ x := Nat.ne_of_gt (Heap.lt_size hx)
  have ns3 := ns2.at fun o e => keep3 _ _ Lx e
  have X2 : K.In h2 := X.keeps all2
  have X3 : K.In h3 := fun b o e => keep3 b o (fun z => by rw [z, nx] at e; cases e) (X2 b o e)
  -- self.row = row
  refine wpAt_of_wpAny (wpAny_execs_cons (plainObj_wpAny_Assign_Attribute ?_))
  refine wpAny_Name (wpAny_loadName_local (v := .int r tr) rfl rfl ns3 (by first | rfl | kernel_rfl) ?_)
  refine wpAny_Name (wpAny_loadName_local (v := .ref x) rfl rfl ns3 (by first | rfl | kernel_rfl) ?_)
  refine set_plain X3 (ox := excO C t3) (od := none) ⟨hx3, rfl, rfl, trivial⟩ T.oex.sa ?_
  refine exc_osa X3 hx3 hcl (show refsVE (.ref C :: bm) = true from hbm) rfl T.nr fun h4 tk4 dx keep4 big4 ne4 hx4 own4 => ?_
  have ns4 := ns3.at fun o e => keep4 _ _ Lx e
  have X4 : K.In h4 := fun b o e => keep4 b o (fun z => by rw [z, nx] at e; cases e) (X3 b o e)
  -- self.column = column
  refine wpAny_execs_cons (plainObj_wpAny_Assign_Attribute ?_)
  refine wpAny_Name (wpAny_loadName_local (v := .int c tc) rfl rfl ns4 (by first | rfl | kernel_rfl) ?_)
  refine wpAny_Name (wpAny_loadName_local (v := .ref x) rfl rfl ns4 (by first | rfl | kernel_rfl) ?_)
  obtain ⟨oD4, _, _, hoD4, _⟩ := id own4
  refine set_plain X4 (od := some oD4) ⟨hx4, rfl, rfl, hoD4⟩ T.oex.sa ?_
  have within4 : PySem.Within (fun y => if y = ("row" : Str) then some (Value.int r tr) else none) ["row"] := fun y hy => by
    by_cases e : y = "row"
    · rw [e]
      exact List.mem_cons_self
    · exact absurd (if_neg e) hy
  refine PySem.OEX.osa_old X4 hx4 own4 within4 (by decide) hcl (show refsVE (.ref C :: bm) = true from hbm) rfl T.nc fun h5 tk5 keep5 own5 => ?_
  refine wpAny_execs_nil (goal h5 _ dx t3 ?_)
  have dxbig : h.objs.size ≤ dx := Nat.le_trans (Nat.le_of_lt ns3.lt) big4
  exact ⟨fun b o ne e => keep5 b o (fun z => by
      have q : b < h.objs.size := Heap.lt_size e
      rw [z] at q
      exact absurd dxbig (Nat.not_le_of_lt q)) (keep4 b o ne (keep3 b o ne (all2 b o e))), keep5 _ _ (Ne.symm ne4) hx4, dxbig, ne4, own5⟩
end
end Rm

/-! E2: such an error made, raised, its fields read, its class asked. -/
namespace Rm
open PySem PySem.W PySem.Calls PyProof.Rows PySem.HandSPX
section
variable {prog : Program} {w : World} {A : Around} {E : Value → Shared → Prop} {R : Result → Shared → Prop} {h : Heap} {g : Array GenState} {d : Drawn} {t : Nat} {os : OsState} {K : Frag} {C : Addr}
theorem err_made {mg mb : Str → Option Value} {r c : Int} {tr tc : Tok} (T : ErrK prog K C) (X : K.In h) (G : h.Ns mainGlobals mg) (B : h.Ns builtinsNs mb) (bb : ∀ x : Str, x ≠ "__name__" → mb x = bootBuiltins x)
    (lim : h.NoLimit) (room : A.depth + 1 < recursionLimit) (hr : r.natAbs.log2 < 1920) (hc : c.natAbs.log2 < 1920)
    (goal : ∀ h' tk e dx t1, (∀ b o, h.get? b = some o → h'.get? b = some o) → h.objs.size ≤ e → h'.get? e = some { cls := .ref C, dict := some dx, data := .fields #[.ref t1, .none, .none, .none, .bool false, .none] } → h.objs.size ≤ dx → dx ≠ e →
      h'.Ns1 dx (fun y => if y = "column" then some (.int c tc) else if y = "row" then some (.int r tr) else none) → R (.ok (.ret (.ref e))) ⟨h', g, d, tk, os⟩) :
    codeAny (model prog w) A (.call (.ref C) ⟨[.int r tr, .int c tc], []⟩) R ⟨h, g, d, t, os⟩ := by
  obtain ⟨nm, q, N, bs, bm, sn, sub, ab, col, dd, k0, k1, k2, k3, k5, hC, hbm⟩ := T.oex.cls
  obtain ⟨D, cc, cda, fI, oc, ocd, oce, od, odd, ode, osl, osd, ose, cdD, vs, file, tf, dV, kV, doc, pm, ct, an, p1, p2, p3, a1, a2, a3, b1, b2, b3, c1, c2, d1, d2, e1, e2, f1, f2, f3, f4, g1, g2, g3, g4, k1', k2', ln, iI, tI, rest⟩ := T.fn
  clear rest
  have up : ∀ b o, h.get? b = some o → ((h.push (kdv_tup [.int r tr, .int c tc])).push (excO C h.objs.size)).get? b = some o := fun b o e => Heap.get?_push_of_some _ (Heap.get?_push_of_some _ e)
  have there : ((h.push (kdv_tup [.int r tr, .int c tc])).push (excO C h.objs.size)).get? (h.objs.size + 1) = some (excO C h.objs.size) := by heap_get
  have free : K.lookup (h.objs.size + 1) = none := by
    cases e : K.lookup (h.objs.size + 1) with
    | none => rfl
    | some o =>
      exact absurd (Nat.lt_of_succ_lt (show h.objs.size + 1 < h.objs.size from Heap.lt_size (X _ _ e))) (Nat.lt_irrefl _)
  refine call_own F.excBase_ValueError (fun Y => refsVE_contains Y bm hbm) (X _ _ hC) (looks_findIn X iI) (fun self => bind_fn X self tI) (by show 2 ≤ sizeLine; decide) ?_
  refine err_init T (X.keeps up) (G.keeps up) (B.keeps up) bb (lim.keeps up) there free ?_ hr hc iI fun h' tk dx t1 L => ?_
  · show A.depth + 1 < recursionLimit
    exact room
  · have old : ∀ b o, h.get? b = some o → h'.get? b = some o := fun b o e => L.keep b o (Nat.ne_of_lt (Nat.lt_succ_of_lt (Heap.lt_size e))) (up b o e)
    have big := L.big
    rw [Heap.size_push, Heap.size_push] at big
    exact ⟨rfl, goal h' tk (h.objs.size + 1) dx t1 old (Nat.le_succ _) L.obj (by omega) L.ne L.ns⟩
end
end Rm
namespace Rm
open PySem PySem.Spec PyProof.Rows L2
/-- an error's fields -/
def exF (r c : Int) : List (Str × V) := [("column", .int c), ("row", .int r)]
theorem exF_rel {r c : Int} {tr tc : Tok} (f : Str) : RelO ((exF r c).lookup f) (if f = "column" then some (Value.int c tc) else if f = "row" then some (Value.int r tr) else none) := by
  unfold exF
  by_cases e : f = "column"
  · subst e
    rw [if_pos rfl, show List.lookup ("column" : Str) [(("column" : Str), V.int c), ("row", .int r)] = some (.int c) by simp [List.lookup]]
    exact ⟨_, rfl⟩
  · rw [if_neg e, lookup_put, if_neg e]
    by_cases e2 : f = "row"
    · subst e2
      rw [if_pos rfl, show List.lookup ("row" : Str) [(("row" : Str), V.int r)] = some (.int r) by simp [List.lookup]]
      exact ⟨_, rfl⟩
    · rw [if_neg e2, lookup_put, if_neg e2]
      exact True.intro
section
variable {X : Cx} {C : Addr}
/-- C(row, column) -/
def tMkErr (C : Addr) (ta : TA) : L2.St → Hp → XK → Prop := fun σ H Q => ta σ H fun vs H1 => ∃ r c : Int, vs = [.int r, .int c] ∧ r.natAbs.log2 < 1920 ∧ c.natAbs.log2 < 1920 ∧ ∀ d, H1 d = none → Q (.ref C) (some d) (upd H1 d (.xd (exF r c)))
theorem pmk_err {n : Str} {es : List Expr} {e0 : Expr} {ta : TA} {p pos : Pos} {k : Nat} (T : ErrK X.prog X.K C) (hr : Room k X.A) (hm : X.mg n = some (.ref C)) (ha : PA X (e0 :: es) ta) (hg : Gl X n := by rfl) (hdb : (n == ("__debug__" : Str)) = false := by decide)
    (he : starEach (e0 :: es) X.env = (false, eval e0 X.env) :: starEach es X.env := by rfl) (hpl : (backTo pos (starEach es X.env)).any (·.1) = false := by rfl) :
    PMk X (.Call (.Name n p) (e0 :: es) [] pos) (tMkErr C ta) := by
  intro pins s σ H Q I h
  refine wpAny_Call_Name_kw (ld_glob I hg hm ?_ hdb)
  refine PySem.W.callWith_K (h₀ := X.base) I.ok.mod.kin T.oex.kC (thn (ha.run pos pins s σ H _ I h) fun us s1 hh => ?_) he hpl
  obtain ⟨vs, H1, I1, r1, r, c, ev, hlr, hlc, q1⟩ := hh
  subst ev
  refine ⟨I1.kIn, ?_⟩
  cases r1 with
  | cons rr rest =>
    cases rest with
    | cons rc rest =>
      cases rest
      obtain ⟨tr, rfl⟩ := rr
      obtain ⟨tc, rfl⟩ := rc
      show wpAny _ _ (call (.ref C) [.int r tr, .int c tc]) _ _ _
      have lim := I1.nolimit
      have e0' := I1.env0
      obtain ⟨mb, hb, hbb⟩ := e0'.mod.blt
      have kb : ∀ b o, X.base.get? b = some o → s1.heap.get? b = some o := fun b o e => (e0'.bs b o e).1
      have G1 := e0'.mod.glob.keeps kb
      have B1 := hb.keeps kb
      obtain ⟨hp, g, dr, tk, os⟩ := s1
      refine wpAny_call (err_made T I1.kIn G1 B1 hbb lim (by have := hr.dp; omega) hlr hlc fun h' tk' e d t1 old eb hoe db dne hns => ?_)
      show MkP X pins σ Q (.ref e) ⟨h', g, dr, tk', os⟩
      obtain ⟨G', gs, gn⟩ := restrict h' fun b => decide (b ≠ e)
      have gk : ∀ b, b ≠ e → G'.get? b = h'.get? b := fun b hb => gs b (decide_eq_true hb)
      have ge : G'.get? e = none := gn e (by simp)
      have keep : ∀ b o, hp.get? b = some o → G'.get? b = some o := fun b o q => (gk b (Nat.ne_of_lt (Nat.lt_of_lt_of_le (Heap.lt_size q) eb))).trans (old b o q)
      have dict : ObjOk X.prog X.w (upd H1 d (.xd (exF r c))) G' d (.xd (exF r c)) := ⟨_, hns.at (fun o q => (gk d dne).trans q), exF_rel⟩
      have J : Inv X pins σ (upd H1 d (.xd (exF r c))) ⟨G', g, dr, tk', os⟩ := I1.laid (t' := tk') keep db dict
      refine ⟨e, _, _, ⟨G', g, dr, tk', os⟩, _, .ref C, some d, rfl, J, fun b o q => ?_, ge, hoe, ⟨rfl, rfl⟩, rfl, rfl, ?_, rfl, I1.bare, raises_own T.oex.exC T.oex.tyC, q1 d (I1.hok.fresh db)⟩
      · by_cases hb : b = e
        · rw [hb] at q
          exact absurd (ge.symm.trans q) (by simp)
        · exact (gk b hb).symm.trans q
      · rw [upd_ne (Ne.symm dne)]
        exact I1.hok.fresh eb
/-- raise C(row, column) -/
def tRaiseErr (C : Addr) (W : WX) (ta : TA) : TS := fun _ σ H => tMkErr C ta σ H fun cls d H' => W cls d σ H'
theorem ps_err {n : Str} {es : List Expr} {e0 : Expr} {ta : TA} {W : WX} {p pos pos2 : Pos} {k : Nat} (hc : X.calm = true) (T : ErrK X.prog X.K C) (hr : Room k X.A) (tk : Takes X W) (hm : X.mg n = some (.ref C)) (ha : PA X (e0 :: es) ta) (hg : Gl X n := by rfl)
    (hdb : (n == ("__debug__" : Str)) = false := by decide) (he : starEach (e0 :: es) X.env = (false, eval e0 X.env) :: starEach es X.env := by rfl) (hpl : (backTo pos (starEach es X.env)).any (·.1) = false := by rfl) :
    PS X (.Raise (some (.Call (.Name n p) (e0 :: es) [] pos)) none pos2) (tRaiseErr C W ta) := ps_raise hc tk (pmk_err T hr hm ha hg hdb he hpl)
/-! ### its class asked: isinstance(e, ..) in the suite -/
theorem inst_at {C a : Addr} {d : Option Addr} {oe : Obj} {h : Heap} (hz : Zc (.ref C) d oe) (hf : ∃ vs, oe.data = .fields vs) (ha : h.get? a = some oe) (hd : ∀ x, d = some x → ∃ o, h.get? x = some o) : ∃ od, PySem.W.InstAt h a oe C od := by
  obtain ⟨oc, odc, odt, osl⟩ := oe
  obtain ⟨vs, hv⟩ := hf
  obtain ⟨z1, z2⟩ := hz
  dsimp only at z1 z2 hv
  subst z1 z2 hv
  cases odc with
  | none => exact ⟨none, ha, rfl, rfl, trivial⟩
  | some x =>
    obtain ⟨o, ho⟩ := hd x rfl
    exact ⟨some o, ha, rfl, rfl, ho⟩
/-- isinstance(e, c), e the error that the suite holds, c a class -/
def rIsX (K : PySem.W.Frag) (cls : Value) (d : Option Addr) (a : Addr) : List V → Hp → VK → Prop := fun xs H Q => ∃ (C : Addr) (c : V) (cv : Value) (b : Bool), cls = .ref C ∧ xs = [.ref a, c] ∧ ClsV c cv ∧ ExcC K C ∧ (∀ x, d = some x → ∃ fs, H x = some (.xd fs)) ∧ PySem.W.kitOne K (.ref C) cv = some b ∧ Q (.bl b) H
/-- isinstance(e, (c, ..)) -/
def rIsXT (K : PySem.W.Frag) (cls : Value) (d : Option Addr) (a : Addr) : List V → Hp → VK → Prop := fun xs H Q => ∃ (C tp : Addr) (cs : List V) (us : List Value) (b : Bool), cls = .ref C ∧ xs = [.ref a, .ref tp] ∧ H tp = some (.tup cs) ∧ Paired ClsV cs us ∧ ExcC K C ∧ (∀ x, d = some x → ∃ fs, H x = some (.xd fs)) ∧ PySem.W.kitAny K (.ref C) us = some b ∧ Q (.bl b) H
theorem call_isX {a : Addr} {oe : Obj} {cls : Value} {d : Option Addr} {pn : List (Addr × Obj)} (hz : Zc cls d oe) (hf : ∃ vs, oe.data = .fields vs) : CallR (X.suite a ((a, oe) :: pn)) (.builtin "isinstance") (rIsX X.K cls d a) := by
  intro pins s σ H xs us Q I r h
  obtain ⟨C, c, cv, b, rfl, rfl, k, T, hd, e, q⟩ := h
  obtain ⟨u1, u2, rfl, r1, r2⟩ := vals2 r
  have e2 := k.eq r2
  subst e2
  cases (show u1 = Value.ref a from r1)
  obtain ⟨at_, _⟩ := I.pin (a, oe) (List.mem_append.mpr (.inl List.mem_cons_self))
  obtain ⟨od, J⟩ := inst_at hz hf at_ fun x ex => by
    obtain ⟨fs, hx⟩ := hd x ex
    obtain ⟨mA, ⟨o, _, _, ho, _⟩, _⟩ := (show ObjOk X.prog X.w H s.heap x (.xd fs) from I.hok x _ hx)
    exact ⟨o, ho⟩
  have cl : (PySem.W.clsIn X.K C).isSome = true := by
    obtain ⟨cd, hc, _⟩ := PySem.W.any_some T.hd
    rw [hc]
    rfl
  exact PySem.W.kia_one (PySem.W.kitx_exc cl T.hg T.hk T.hs T.ha T.hn T.ht T.hm) I.kIn J e (fun z => nomatch z) fun tk => ⟨.bl b, H, I.kept (t' := tk) fun _ _ z => z, rfl, q⟩
theorem call_isXT {a : Addr} {oe : Obj} {cls : Value} {d : Option Addr} {pn : List (Addr × Obj)} (hz : Zc cls d oe) (hf : ∃ vs, oe.data = .fields vs) : CallR (X.suite a ((a, oe) :: pn)) (.builtin "isinstance") (rIsXT X.K cls d a) := by
  intro pins s σ H xs us Q I r h
  obtain ⟨C, tp, cs, ws, b, rfl, rfl, hT, k, T, hd, e, q⟩ := h
  obtain ⟨u1, u2, rfl, r1, r2⟩ := vals2 r
  cases (show u1 = Value.ref a from r1)
  cases (show u2 = Value.ref tp from r2)
  obtain ⟨at_, _⟩ := I.pin (a, oe) (List.mem_append.mpr (.inl List.mem_cons_self))
  obtain ⟨od, J⟩ := inst_at hz hf at_ fun x ex => by
    obtain ⟨fs, hx⟩ := hd x ex
    obtain ⟨mA, ⟨o, _, _, ho, _⟩, _⟩ := (show ObjOk X.prog X.w H s.heap x (.xd fs) from I.hok x _ hx)
    exact ⟨o, ho⟩
  obtain ⟨_, its, rv, o, t1, t2, n, t3⟩ := (show ObjOk X.prog X.w H s.heap tp (.tup cs) from I.hok tp _ hT)
  have e3 := ClsV.all k rv
  subst e3
  obtain ⟨oc, od', dt, sl⟩ := o
  simp only at t2 t3
  subst t2 t3
  have cl : (PySem.W.clsIn X.K C).isSome = true := by
    obtain ⟨cd, hc, _⟩ := PySem.W.any_some T.hd
    rw [hc]
    rfl
  exact PySem.W.kia_tup (PySem.W.kitx_exc cl T.hg T.hk T.hs T.ha T.hn T.ht T.hm) I.kIn J t1 e (fun z => nomatch z) fun tk => ⟨.bl b, H, I.kept (t' := tk) fun _ _ z => z, rfl, q⟩
end
end Rm

/-! E3: try with several clauses, each with a name. -/
namespace Rm
open PySem PySem.Spec PyProof.Rows L2
abbrev Sfn := Addr → Value → Option Addr → TS
/-- behind a suite the name is gone -/
def goneD (i : Nat) (D : Ends) : Ends := { nx := fun τ G => D.nx (τ.set i none) G, rt := D.rt, bk := fun τ G => D.bk (τ.set i none) G, ct := fun τ G => D.ct (τ.set i none) G }
/-- what the clauses 'except c as n' (n's slot) wish of the body's error -/
def wishes (K : PySem.W.Frag) (out : WX) (D : Ends) : List (Value × Nat × Sfn) → WX
  | [] => out
  | (c, i, f) :: more => fun cls d τ G => ∃ hit, PySem.W.exmOne K cls c = some hit ∧ (hit = true → ∀ a, G a = none → f a cls d (goneD i D) (τ.set i (some (.ref a))) G) ∧ (hit = false → wishes K out D more cls d τ G)
/-- the clauses -/
inductive Clauses (X : Cx) : List ExceptHandler → List (Value × Nat × Sfn) → Prop
  | nil : Clauses X [] []
  | cons {x n : Str} {c : Value} {i : Nat} {f : Sfn} {b0 : Stmt} {bs : List Stmt} {p1 p2 : Pos} {more : List ExceptHandler} {l : List (Value × Nat × Sfn)} (is : Names X x c) (slot : X.N[i]? = some n) (loc : X.env.kindOf n = some .local)
      (suite : ∀ (a : Addr) (oe : Obj) (cls : Value) (d : Option Addr) (pn : List (Addr × Obj)), Zc cls d oe → (∃ vs, oe.data = .fields vs) → PSs (X.suite a ((a, oe) :: pn)) (b0 :: bs) (f a cls d)) (rest : Clauses X more l) :
      Clauses X (.ExceptHandler (some (.Name x p1)) (some n) (b0 :: bs) p2 :: more) ((c, i, f) :: l)
/-- an error that has landed in its frame: at a, its class cls, its dict d; s1 what stands now, s0 what stood where it was raised -/
structure Landed (X : Cx) (pins : List (Addr × Obj)) (τ : L2.St) (G : Hp) (B : Heap) (a : Addr) (cls : Value) (d : Option Addr) (s0 s1 : Shared) : Prop where
  ok : X.Ok
  inv : Inv X pins τ G s0
  stack : X.stack = X.env :: X.outer
  frame : X.env.frame = some X.env.locals
  nb : ∀ b o, s0.heap.get? b = some o → b ∉ frs X.stack → B.get? b = some o
  up : s0.heap.UpToSlots s1.heap
  fly : HandSPX.FlyingZ B (X.env :: X.outer) a (Zc cls d) s1.heap
  na : G a = none
  os : s1.os = s0.os
  ag : AllBare s1.gens
section
variable {X : Cx} {pins : List (Addr × Obj)} {τ : L2.St} {G : Hp} {B : Heap} {a : Addr} {cls : Value} {d : Option Addr} {s0 s1 : Shared}
theorem Landed.now (L : Landed X pins τ G B a cls d s0 s1) : Inv X pins τ G s1 := L.inv.landed L.nb L.fly.1 L.up L.os L.ag
theorem Landed.next (L : Landed X pins τ G B a cls d s0 s1) {h : Heap} (fly : HandSPX.FlyingZ B (X.env :: X.outer) a (Zc cls d) h) (up : s1.heap.UpToSlots h) : Landed X pins τ G B a cls d s0 { s1 with heap := h } :=
  ⟨L.ok, L.inv, L.stack, L.frame, L.nb, L.up.trans up, fly, L.na, L.os, L.ag⟩
/-- it is no frame of those that run -/
theorem Landed.apart (L : Landed X pins τ G B a cls d s0 s1) : ∃ oe vs, s1.heap.get? a = some oe ∧ Zc cls d oe ∧ oe.data = .fields vs ∧ a ≠ X.env.locals ∧ a ∉ X.fs := by
  obtain ⟨oe, vs, e, z, dt⟩ := L.fly.there
  have away : a ∉ frs (X.env :: X.outer) := by
    intro mem
    obtain ⟨_, o2, e2, no⟩ := L.fly.2.2.1.mem mem
    rw [e] at e2
    cases e2
    exact no _ dt
  refine ⟨oe, vs, e, z, dt, ?_, ?_⟩
  · intro same
    refine away (List.mem_filterMap.mpr ⟨X.env, List.mem_cons_self, ?_⟩)
    rw [L.frame, same]
  · intro mem
    obtain ⟨en, m, q⟩ := List.mem_filterMap.mp mem
    exact away (List.mem_filterMap.mpr ⟨en, List.mem_cons_of_mem _ m, q⟩)
/-- no clause is left -/
theorem Landed.out {D : Ends} {W : WX} (L : Landed X pins τ G B a cls d s0 s1) (tk : Takes X W) (w : W cls d τ G) : wpAny (model X.prog X.w) X.A (handleBy (.ref a) X.env []) (SP X pins D) X.xe s1 := by
  have fl := L.fly
  obtain ⟨_, _, _, oe, vs, tb, ob, tt, e, z, dt, first_, _⟩ := id fl
  apply wpAny_handleBy_nil
  unfold PySem.passOn
  apply wpAny_bind
  apply wpAny_field e dt first_
  have no : ¬ ((Value.ref tb == Value.none) = true) := by simp
  rw [if_neg no]
  have last : wpAny (model X.prog X.w) X.A (setFlight (.ref a) X.env.frame) (fun _ s4 => wpAny (model X.prog X.w) X.A (throw (.ref a) : Sem Flow) (SP X pins D) X.xe s4) X.xe s1 := by
    rw [L.frame]
    apply HandSPX.setFlight_upZ fl
    intro h4 held up4
    apply wpAny_throw
    refine tk _ _ ⟨a, B, s0, pins, τ, G, cls, d, rfl, L.inv, L.nb, L.up.trans up4, .inr (.inr ?_), L.na, L.os, L.ag, w⟩
    rw [L.stack]
    exact held
  first
    | exact wpAny_bind (wpAny_pure (wpAny_bind last))
    | exact wpAny_bind last
/-- the class that the clause names -/
theorem Landed.named {x : Str} {c : Value} {p : Pos} (L : Landed X pins τ G B a cls d s0 s1) (is : Names X x c) {Q : Value → Shared → Prop} {E : Value → Shared → Prop} (q : Q c s1) :
    wpAny (model X.prog X.w) (X.A.mark (some (.ref a))) (eval (.Name x p) X.env) Q E s1 := by
  obtain ⟨oe, vs, e, z, dt, n1, n2⟩ := L.apart
  have S := L.now.suite e dt L.na n1 n2
  obtain ⟨g, dbg, own | ⟨none_, blt, nn⟩⟩ := is
  · exact ld_glob (X := X.suite a ((a, oe) :: (X.pn ++ pins))) S g own q dbg
  · exact ld_blt (X := X.suite a ((a, oe) :: (X.pn ++ pins))) S g none_ blt q nn dbg
theorem Landed.clauses {D : Ends} {W : WX} (tk : Takes X W) (nd : X.N.Nodup) : ∀ {hs : List ExceptHandler} {l : List (Value × Nat × Sfn)}, Clauses X hs l → ∀ {s1 : Shared}, Landed X pins τ G B a cls d s0 s1 → wishes X.K W D l cls d τ G →
    wpAny (model X.prog X.w) X.A (handleBy (.ref a) X.env hs) (SP X pins D) X.xe s1 := by
  intro hs l cl
  induction cl with
  | nil => exact fun L w => L.out tk w
  | @cons x n c i f b0 bs p1 p2 more l is slot loc suite rest ih =>
    intro s1 L w
    obtain ⟨hit, asked, yes, no⟩ := w
    obtain ⟨oe, vs, e, z, dt, n1, n2⟩ := L.apart
    apply wpAny_handleBy_cons
    · apply codeAny_handlers_test
      have typ : PySem.W.Looks (model X.prog X.w) s1.heap (typeOf (.ref a)) cls := fun _ _ _ _ keep q => wpAny_typeOf_ref (keep _ _ e) (by rw [z.1]; exact q)
      refine L.named is ((PySem.W.exm_one (M := model X.prog X.w) L.now.kIn typ asked).here ?_)
      cases hit with
      | false => exact ih L (no rfl)
      | true =>
        apply codeAny_handlers_suite_as
        apply HandSPX.lands_againZ L.fly
        intro h4 fly4 up4
        have L4 := L.next fly4 up4
        obtain ⟨oe4, vs4, e4, z4, dt4, m1, m2⟩ := L4.apart
        refine store_ok (X := X.suite a ((a, oe4) :: (X.pn ++ pins))) (v := .ref a) (L4.now.suite e4 dt4 L4.na m1 m2) nd slot (.inl loc) rfl (fun s5 I5 => ?_) (.inr loc)
        refine wpAny_mono ((suite a oe4 cls d (X.pn ++ pins) z4 ⟨_, dt4⟩).run [] s5 _ G _ I5 (yes rfl a L.na)) (fun fl s6 got => ?_) (fun _ _ never => never.elim)
        have close : ∀ {τ6 : L2.St} {G6 : Hp} {Z : Shared → Prop}, Inv (X.suite a ((a, oe4) :: (X.pn ++ pins))) [] τ6 G6 s6 → (∀ s7, Inv X pins (τ6.set i none) G6 s7 → Z s7) →
            wpAny (model X.prog X.w) X.A (do bindName X.env n .none; unbindBehindTheSuite X.env n p2) (fun _ s7 => Z s7) X.xe s6 := fun I6 z7 => gone_ok (I6.unsuite L.ok) nd slot loc z7
        cases fl with
        | ret u =>
          obtain ⟨v6, τ6, G6, I6, rv, q6⟩ := got
          exact close I6 fun s7 I7 => ⟨v6, _, G6, I7, rv, q6⟩
        | next =>
          obtain ⟨τ6, G6, I6, q6⟩ := got
          exact close I6 fun s7 I7 => ⟨_, G6, I7, q6⟩
        | brk =>
          obtain ⟨τ6, G6, I6, q6⟩ := got
          exact close I6 fun s7 I7 => ⟨_, G6, I7, q6⟩
        | cont =>
          obtain ⟨τ6, G6, I6, q6⟩ := got
          exact close I6 fun s7 I7 => ⟨_, G6, I7, q6⟩
    · intro q
      cases q
end
/-- its reading -/
def tTry (K : PySem.W.Frag) (out : WX) (tb : WX → TS) (l : List (Value × Nat × Sfn)) : TS := fun D τ G => tb (wishes K out D l) D τ G
/-- try: body, clauses with names -/
theorem ps_try_named {X : Cx} {body : List Stmt} {c0 : ExceptHandler} {cs : List ExceptHandler} {l : List (Value × Nat × Sfn)} {pos : Pos} {tb : WX → TS} {out : WX} (stk : X.stack = X.env :: X.outer) (fr : X.env.frame = some X.env.locals) (nd : X.N.Nodup) (tk : Takes X out)
    (inner : ∀ (W : WX) (pn : List (Addr × Obj)) (xe : Value → Shared → Prop), Takes (X.tr pn xe) W → PassesOwn (model X.prog X.w) X.A X.env xe → PSs (X.tr pn xe) body (tb W)) (cl : Clauses X (c0 :: cs) l) :
    PS X (.Try body (c0 :: cs) [] [] pos) (tTry X.K out tb l) := by
  constructor
  intro pins s τ G D I h
  have ok := I.ok
  have frames : X.A.frames = some (X.env :: X.outer) := by rw [ok.frames, stk]
  apply wpAny_Try_except
  have caught : Takes (X.tr (X.pn ++ pins) fun e s₁ => wpAny (model X.prog X.w) X.A (noteFrame e X.env) (fun _ s₂ => wpAny (model X.prog X.w) X.A (setFlight e none) (fun _ s₃ => wpAny (model X.prog X.w) X.A (handleBy e X.env (c0 :: cs)) (SP X pins D) X.xe s₃) X.xe s₂) X.xe s₁)
      (wishes X.K out D l) := by
    intro u s1 xx
    obtain ⟨a, B, s0, pins1, τ1, G1, cls, d, rfl, J, nb, up, sky, na, os, ag, w⟩ := xx
    have sky' : Sky B (X.env :: X.outer) a (Zc cls d) X.env.locals s1.heap := by
      rw [← stk]
      exact sky
    apply Sky.land Zc.steady frames fr sky'
    intro h3 fly3 up3
    exact Landed.clauses tk nd cl ⟨ok, J.ofTry ok, stk, fr, nb, up.trans up3, fly3, na, os, ag⟩ w
  refine wpAny_mono ((inner _ _ _ caught PassesOwn.looking).run [] s τ G D (I.toTry _) h) (fun fl s1 got => ?_) (fun _ _ e => e)
  cases fl with
  | ret u =>
    obtain ⟨v, τ1, G1, J, rv, q⟩ := got
    exact ⟨v, τ1, G1, J.ofTry ok, rv, q⟩
  | brk =>
    obtain ⟨τ1, G1, J, q⟩ := got
    exact ⟨τ1, G1, J.ofTry ok, q⟩
  | cont =>
    obtain ⟨τ1, G1, J, q⟩ := got
    exact ⟨τ1, G1, J.ofTry ok, q⟩
  | next =>
    obtain ⟨τ1, G1, J, q⟩ := got
    exact wpAny_execs_nil ⟨τ1, G1, J.ofTry ok, q⟩
end Rm

/-! E4: what is asked of the written part for such errors; the head's facts with a def that has a cell. -/
namespace Rm
open PySem PySem.Spec PyProof.Rows L2
def tailB (C : Addr) : List Value → Bool
  | .ref D :: bm => decide (D = C) && PySem.HandSPX.refsVE bm
  | _ => false
def newB : List (Option Value) → Bool
  | [_, _, _, _, some (.builtin n), _] => decide (n = "ValueError.__new__")
  | _ => false
def clsB (K : PySem.W.Frag) (C : Addr) : Bool := match K.lookup C with
  | some ⟨.type "type", _, .cls cd, sl⟩ => tailB C cd.mro && (newB sl.toList && (!cd.hasDel && cd.hasDict))
  | _ => false
theorem tailB_ok {C : Addr} {l : List Value} (h : tailB C l = true) : ∃ bm, l = .ref C :: bm ∧ PySem.HandSPX.refsVE bm = true := by
  unfold tailB at h
  split at h
  · obtain ⟨e, q⟩ := He.ba h
    have e := of_decide_eq_true e
    subst e
    exact ⟨_, rfl, q⟩
  · cases h
theorem newB_ok {l : List (Option Value)} (h : newB l = true) : ∃ k0 k1 k2 k3 k5, l = [k0, k1, k2, k3, some (.builtin "ValueError.__new__"), k5] := by
  unfold newB at h
  split at h
  · have e := of_decide_eq_true h
    subst e
    exact ⟨_, _, _, _, _, rfl⟩
  · cases h
theorem clsB_ok {K : PySem.W.Frag} {C : Addr} (h : clsB K C = true) : ∃ nm q N bs bm sn sub ab col dd k0 k1 k2 k3 k5, K.lookup C = some (excClassObj nm q C N bs bm true sn sub ab col dd k0 k1 k2 k3 k5 "ValueError.__new__") ∧ PySem.HandSPX.refsVE bm = true := by
  unfold clsB at h
  split at h
  · rename_i dd cd sl look
    obtain ⟨h1, h⟩ := He.ba h
    obtain ⟨h2, h⟩ := He.ba h
    obtain ⟨h3, h4⟩ := He.ba h
    obtain ⟨bm, e1, tail⟩ := tailB_ok h1
    obtain ⟨k0, k1, k2, k3, k5, e2⟩ := newB_ok h2
    obtain ⟨nm, bs, mro, ns, qn, hd, sn, sub, ab, col, del⟩ := cd
    obtain ⟨sll⟩ := sl
    dsimp only at e1 e2 h3 h4
    subst e1 e2 h4
    have e3 : del = false := by simpa using h3
    subst e3
    exact ⟨nm, qn, ns, bs, bm, sn, sub, ab, col, dd, k0, k1, k2, k3, k5, look, tail⟩
  · cases h
/-- the def with a cell -/
abbrev CelW : Type := Option (Str × Str × Arguments × FuncBody × Scope × Addr × List Str × Addr)
def celW (K : PySem.W.Frag) (f : Addr) : CelW := match K.lookup f with
  | some ⟨_, _, .func fd, _⟩ => some (fd.name, fd.qualname, fd.params, fd.body, fd.scope, fd.globals, fd.closure.map (·.1), fd.builtins)
  | _ => none
def celV (name qual : Str) (st : Stmt) : CelW := some (name, qual, defArgs st, .stmts (defBody st), defScope st, mainGlobals, ["__class__"], builtinsNs)
def codB (K : PySem.W.Frag) (file : Str) : Value → Bool
  | .ref c => (match K.lookup c with
    | some ⟨_, _, .fields vs, _⟩ => (match (vs[2]? : Option Value) with
      | some (Value.str z _) => decide (z = file)
      | _ => false)
    | _ => false)
  | _ => false
theorem codB_ok {K : PySem.W.Frag} {file : Str} {v : Value} (h : codB K file v = true) : ∃ c oc od vs sl t, v = .ref c ∧ K.lookup c = some ⟨oc, od, .fields vs, sl⟩ ∧ vs[2]? = some (.str file t) := by
  unfold codB at h
  split at h
  · split at h
    · rename_i look
      split at h
      · rename_i e
        have z := of_decide_eq_true h
        subst z
        exact ⟨_, _, _, _, _, _, rfl, look, e⟩
      · cases h
    · cases h
  · cases h
def ownB (K : PySem.W.Frag) (C : Addr) : List (Str × Addr) → Bool
  | [(_, cc)] => (match K.lookup cc with
    | some ⟨_, _, .cell (some (.ref D)), _⟩ => (PySem.W.clsIn K D).isSome && (decide (PySem.W.mroIn K C (.ref D) = some true) && decide (PySem.W.ks_superIn K C D "__init__" = some (some (.builtin "ValueError.__init__"))))
    | _ => false)
  | _ => false
theorem ownB_ok {K : PySem.W.Frag} {C : Addr} {l : List (Str × Addr)} (h : ownB K C l = true) : ∃ x cc oc od sl D cd, l = [(x, cc)] ∧ K.lookup cc = some ⟨oc, od, .cell (some (.ref D)), sl⟩ ∧ PySem.W.clsIn K D = some cd ∧ PySem.W.mroIn K C (.ref D) = some true ∧
    PySem.W.ks_superIn K C D "__init__" = some (some (.builtin "ValueError.__init__")) := by
  unfold ownB at h
  split at h
  · split at h
    · rename_i look
      obtain ⟨h1, h⟩ := He.ba h
      obtain ⟨h2, h3⟩ := He.ba h
      obtain ⟨cd, e⟩ := Option.isSome_iff_exists.mp h1
      exact ⟨_, _, _, _, _, _, cd, rfl, look, e, of_decide_eq_true h2, of_decide_eq_true h3⟩
    · cases h
  · cases h
def noneB : Value → Bool
  | .none => true
  | _ => false
theorem noneB_ok {v : Value} (h : noneB v = true) : v = .none := by
  unfold noneB at h
  split at h
  · rfl
  · cases h
/-- what is asked of the class at C and of its __init__ -/
def errB (K : PySem.W.Frag) (file : Str) (C : Addr) : Bool :=
  clsB K C && (decide (PySem.W.findIn K (.ref C) "__setattr__" = some (some (.builtin "object.__setattr__"))) && (decide (PySem.W.subIn K (.ref C) (.type "BaseException") = some true) && (decide (PySem.W.typeIn K (.ref C) = some (.type "type")) && (PySem.W.keepIn K (.ref C) &&
  (decide (PySem.W.findIn K (.ref C) "row" = some none) && (decide (PySem.W.findIn K (.ref C) "column" = some none) && (decide (PySem.W.subIn K (.ref C) (.type "ValueError") = some true) && (decide (PySem.W.nsIn K mainGlobals "super" = some none) &&
  (decide (PySem.W.nsIn K cStatics "thirdparty.any" = some none) && (decide (PySem.W.findIn K (.ref C) "__init__" = some (some (.ref (He.ma K C "__init__")))) && (decide (PySem.W.typeIn K (.ref (He.ma K C "__init__")) = some (.type "function")) &&
  (match K.lookup (He.ma K C "__init__") with
    | some ⟨_, _, .func fd, _⟩ => noneB fd.defaults && (PySem.W.codeIn K fd.code fd.qualname && (codB K file fd.code && ownB K C fd.closure))
    | _ => false))))))))))))
/-- its class asked -/
def excB (K : PySem.W.Frag) (C : Addr) : Bool :=
  decide (PySem.W.findIn K (.ref C) "__getattribute__" = some (some (.builtin "BaseException.__getattribute__"))) && (decide (PySem.W.findIn K (.ref C) "__getattr__" = some none) && (decide (PySem.W.subIn K (.ref C) (.type "BaseException") = some true) && (PySem.W.hasDictIn K C &&
  (decide (PySem.W.findIn K (.ref C) "__class__" = some (some (.builtin "object.__class__"))) && (decide (PySem.W.specialIn K (.builtin "object.__class__") "__get__" = some (some (.builtin "getset_descriptor.__get__"))) &&
  (decide (PySem.W.takesIn K (.builtin "object.__class__") = some true) && decide (PySem.W.mroIn K C (.type "object") = some true)))))))
theorem excB_ok {K : PySem.W.Frag} {C : Addr} (h : excB K C = true) : ExcC K C := by
  obtain ⟨h1, h⟩ := He.ba h
  obtain ⟨h2, h⟩ := He.ba h
  obtain ⟨h3, h⟩ := He.ba h
  obtain ⟨h4, h⟩ := He.ba h
  obtain ⟨h5, h⟩ := He.ba h
  obtain ⟨h6, h⟩ := He.ba h
  obtain ⟨h7, h8⟩ := He.ba h
  exact ⟨of_decide_eq_true h1, of_decide_eq_true h2, of_decide_eq_true h3, h4, of_decide_eq_true h5, of_decide_eq_true h6, of_decide_eq_true h7, of_decide_eq_true h8⟩
theorem xf_of {K : PySem.W.Frag} {C : Addr} (T : ExcC K C) : XfC K C := ⟨T.hg, T.hk, T.hs, T.hd⟩
/-- the text of __init__, as it is written -/
def TeIs (st : Stmt) : Prop := ∃ (p1 p2 p3 a1 a2 a3 b1 b2 b3 c1 c2 d1 d2 e1 e2 f1 f2 f3 f4 g1 g2 g3 g4 : Pos) (k1 k2 : Nat), defArgs st = teA p1 p2 p3 ∧ defBody st = teB a1 a2 a3 b1 b2 b3 c1 c2 d1 d2 e1 e2 f1 f2 f3 f4 g1 g2 g3 g4 k1 k2 ∧ defScope st = teS ∧ (a3.endLine == e1.line) = true
theorem errB_ok {P : Program} {K : PySem.W.Frag} {file : Str} {C : Addr} {st : Stmt} (h : errB K file C = true) (e : celW K (He.ma K C "__init__") = celV "__init__" "TextError.__init__" st) (te : TeIs st) (top : (P.main.scope.names.lookup ("super" : Str)).isSome = false) (pf : ((P.main.file : Str) == file) = true) : ErrK P K C := by
  obtain ⟨h1, h⟩ := He.ba h
  obtain ⟨h2, h⟩ := He.ba h
  obtain ⟨h3, h⟩ := He.ba h
  obtain ⟨h4, h⟩ := He.ba h
  obtain ⟨h5, h⟩ := He.ba h
  obtain ⟨h6, h⟩ := He.ba h
  obtain ⟨h7, h⟩ := He.ba h
  obtain ⟨h8, h⟩ := He.ba h
  obtain ⟨h9, h⟩ := He.ba h
  obtain ⟨h10, h⟩ := He.ba h
  obtain ⟨h11, h⟩ := He.ba h
  obtain ⟨h12, h⟩ := He.ba h
  refine ⟨⟨clsB_ok h1, of_decide_eq_true h2, of_decide_eq_true h3, of_decide_eq_true h4, h5⟩, of_decide_eq_true h6, of_decide_eq_true h7, of_decide_eq_true h8, of_decide_eq_true h9, of_decide_eq_true h10, top, ?_⟩
  obtain ⟨p1, p2, p3, a1, a2, a3, b1, b2, b3, c1, c2, d1, d2, e1, e2, f1, f2, f3, f4, g1, g2, g3, g4, k1, k2, t1, t2, t3, t4⟩ := te
  unfold celW celV at e
  split at h
  · rename_i oc od fd osl look
    rw [look] at e
    obtain ⟨q1, h⟩ := He.ba h
    obtain ⟨q2, h⟩ := He.ba h
    obtain ⟨q3, q4⟩ := He.ba h
    obtain ⟨n1, n2, n3, n4, n5, n6, n7, n8, n9, n10, n11, n12, n13, n14, n15⟩ := fd
    have e' : (some (n1, n2, n3, n4, n5, n6, n7.map (·.1), n15) : CelW) = some (("__init__" : Str), ("TextError.__init__" : Str), defArgs st, FuncBody.stmts (defBody st), defScope st, mainGlobals, [("__class__" : Str)], builtinsNs) := e
    simp only [Option.some.injEq, Prod.mk.injEq] at e'
    obtain ⟨m1, m2, m3, m4, m5, m6, m7, m8⟩ := e'
    dsimp only at q1 q2 q3 q4
    obtain ⟨x, cc, oce, ode, ose, D, cd, l1, l2, l3, l4, l5⟩ := ownB_ok q4
    obtain ⟨c, ocd, odd, vs, osd, tt, v1, v2, v3⟩ := codB_ok q3
    have q0 := noneB_ok q1
    subst l1
    have m7' : x = "__class__" := by simpa using m7
    rw [t1] at m3
    rw [t2] at m4
    rw [t3] at m5
    subst m1 m2 m3 m4 m5 m6 m7' m8 v1 q0
    exact ⟨D, cc, c, _, oc, ocd, oce, od, odd, ode, osl, osd, ose, cd, vs, file, tt, .none, n9, n10, n11, n14, n12, p1, p2, p3, a1, a2, a3, b1, b2, b3, c1, c2, d1, d2, e1, e2, f1, f2, f3, f4, g1, g2, g3, g4, k1, k2, t4, of_decide_eq_true h11, of_decide_eq_true h12, look, q2, v2, v3, pf, l2, l3, l4, l5⟩
  · cases h
end Rm

/-! D1: dicts of the module with texts as keys: what is at a key, there or not; a def that a slot holds, called, with what it lets out. -/
namespace Rm
open PySem PySem.Spec PyProof.Rows L2
/-- entries, one by one -/
inductive Ents (w : World) : List DictEntry → List (Str × V) → Prop
  | nil : Ents w [] []
  | cons {e : DictEntry} {x : Str} {t : Tok} {v : V} {es : List DictEntry} {l : List (Str × V)} (k : e.key = .str x t) (h : e.hash = PyData.keyHash w.params x) (r : RelV v e.val) (m : Ents w es l) : Ents w (e :: es) ((x, v) :: l)
/-- the dict at a holds just l -/
def KD (K : PySem.W.Frag) (w : World) (a : Addr) (l : List (Str × V)) : Prop := ∃ es n, K.lookup a = some ⟨.type "dict", none, .dict es n, #[]⟩ ∧ Ents w es.toList l ∧ (a == sysModules) = false
theorem Ents.lit {w : World} : ∀ {es : List DictEntry} {l : List (Str × V)}, Ents w es l → PySem.W.KeysLit w.params es
  | _, _, .nil => True.intro
  | _, _, .cons k h _ m => ⟨⟨_, _, k, h⟩, m.lit⟩
theorem Ents.find {w : World} {z : Str} : ∀ {es : List DictEntry} {l : List (Str × V)}, Ents w es l → RelO (l.lookup z) ((es.find? fun e => Value.isStrOf z e.key).map (·.val))
  | _, _, .nil => True.intro
  | _, _, .cons (e := e) (x := x) (t := t) (v := v) (es := es) (l := l) k h r m => by
    rw [List.find?_cons, k]
    have q : Value.isStrOf z (.str x t) = decide (x = z) := by
      by_cases hz : x = z <;> simp [Value.isStrOf, hz]
    rw [q]
    by_cases hz : x = z
    · subst hz
      rw [decide_eq_true rfl, show ((x, v) :: l).lookup x = some v by simp [List.lookup]]
      exact r
    · rw [decide_eq_false hz]
      have e2 : (z == x) = false := by
        simpa using fun y => hz y.symm
      rw [show ((x, v) :: l).lookup z = l.lookup z by simp [List.lookup, e2]]
      exact m.find
theorem KD.map {X : Cx} {pins : List (Addr × Obj)} {σ : L2.St} {H : Hp} {s : Shared} {a : Addr} {l : List (Str × V)} (I : Inv X pins σ H s) (d : KD X.K X.w a l) :
    ∃ f : Str → Option Value, s.heap.MapOf (strKind X.prog X.w) a f ∧ (a == sysModules) = false ∧ ∀ z, RelO (l.lookup z) (f z) := by
  obtain ⟨es, n, hl, ent, na⟩ := d
  refine ⟨_, PySem.W.mapOf_K (prog := X.prog) (w := X.w) I.kIn hl ent.lit, na, fun z => ?_⟩
  have q := ent.find (z := z)
  obtain ⟨es⟩ := es
  show RelO _ (((⟨es⟩ : Array DictEntry).find? fun e => Value.isStrOf z e.key).map (·.val))
  rw [List.find?_toArray]
  exact q
/-- d.get(e, f) -/
def tKGet2 (K : PySem.W.Frag) (w : World) (td ty tx : TE) : TE := fun σ H Q => td σ H fun x H1 => ∃ a l, x = .ref a ∧ KD K w a l ∧ ty σ H1 fun y H2 => tx σ H2 fun z H3 => ∃ k, y = .str k ∧ Q ((l.lookup k).getD z) H3
/-- e in d -/
def tKIn (K : PySem.W.Frag) (w : World) (ty td : TE) : TE := fun σ H Q => ty σ H fun y H1 => td σ H1 fun x H2 => ∃ a l k, x = .ref a ∧ y = .str k ∧ KD K w a l ∧ Q (.bl (l.lookup k).isSome) H2
/-- d[e], there -/
def rKIx (K : PySem.W.Frag) (w : World) : R2 := fun x y H Q => ∃ a l k v, x = .ref a ∧ y = .str k ∧ KD K w a l ∧ l.lookup k = some v ∧ Q v H
section
variable {X : Cx} {o e f : Expr} {apos cpos : Pos} {td ty tx : TE}
theorem pe_kget2 (ho : PE X o td) (he : PE X e ty) (hf : PE X f tx) (m : M2 X o "get" apos e f cpos) : PE X (.Call (.Attribute o "get" apos) [e, f] [] cpos) (tKGet2 X.K X.w td ty tx) := by
  constructor
  intro pins s σ H Q I h
  apply wpAny_Call_method m.base m.few m.line PySem.F.plainAttrs_dict PySem.F.slot_dict_get PySem.F.type_dict_get
  refine thn (ho.run pins s σ H _ I h) fun u s1 hh => ?_
  obtain ⟨x, H1, I1, rx, a, l, ex, d, q1⟩ := hh
  subst ex
  obtain rfl : u = Value.ref a := rx
  obtain ⟨fn, mp, na, rel⟩ := d.map I1
  refine ⟨mp.typeIs, fun b q => ?_, ?_⟩
  · cases q
    obtain ⟨_, _, _, h1, h2, _⟩ := mp
    exact ⟨_, h1, h2.2.1⟩
  rw [m.trees]
  apply Calls.callWith_builtin rfl
  apply Calls.evalArgs_plain
  refine Calls.spliced_cons (thn (he.run pins s1 σ H1 _ I1 q1) fun iv s2 h2 => ?_)
  obtain ⟨y, H2, I2, ry, q2⟩ := h2
  refine Calls.spliced_cons (thn (hf.run pins s2 σ H2 _ I2 q2) fun fv s3 h3 => Calls.spliced_nil ?_)
  obtain ⟨z, H3, I3, rz, k, ey, q3⟩ := h3
  subst ey
  obtain ⟨t, rfl⟩ := ry
  obtain ⟨fn, mp, na, rel⟩ := d.map I3
  refine call_meetsIn PySem.F.slot_dict_get mp.typeIs PySem.F.entry_dict_get (PySem.F.args_dict_get_3 _ _ _) (meets_dict_get_default (strKind X.prog X.w) a (strKind_is X.prog X.w k t) na fv) ⟨fn, mp, ?_⟩
  exact ⟨_, H3, I3.tok _, (rel k).getD rz, q3⟩
theorem pc_kin (hi : PE X e ty) (ho : PE X o td) : PC X .In e o (tKIn X.K X.w ty td) := by
  constructor
  intro pins s σ H Q I h
  refine thn (hi.run pins s σ H _ I h) fun iv s1 h1 => ?_
  obtain ⟨y, H1, I1, ry, q1⟩ := h1
  refine thn (ho.run pins s1 σ H1 _ I1 q1) fun u s2 h2 => ?_
  obtain ⟨x, H2, I2, rx, a, l, k, ex, ey, d, q2⟩ := h2
  subst ex ey
  obtain rfl : u = Value.ref a := rx
  obtain ⟨t, rfl⟩ := ry
  obtain ⟨fn, mp, na, rel⟩ := d.map I2
  refine wpAny_in_of (strKind_is X.prog X.w k t) na mp ?_
  rw [← (rel k).isSome_eq]
  exact ⟨.bl (l.lookup k).isSome, H2, I2.tok _, rfl, q2⟩
theorem ix_kd : IxR X (rKIx X.K X.w) := by
  intro value slice pins s σ H x y v u Q I rx ry h hs
  obtain ⟨a, l, k, r, rfl, rfl, d, lk, q⟩ := h
  obtain rfl : v = Value.ref a := rx
  obtain ⟨t, rfl⟩ := ry
  obtain ⟨fn, mp, na, rel⟩ := d.map I
  obtain ⟨w', e1, e2⟩ := RelO.some_of (v := r) (o := fn k) (by rw [← lk]; exact rel k)
  exact tail_any mp.typeIs slot_dict_getitem.lookup (wpAny_getItem_of (strKind_is X.prog X.w k t) mp e1 ⟨r, H, I.tok _, e2, q⟩) hs
end
/-! ### the def that a slot holds -/
def tCallP (i : Nat) (S : Addr → Sp → Prop) (E : XK) (t : TA) : TE := fun σ H Q => ∃ f sp, σ[i]? = some (some (.ref f)) ∧ S f sp ∧ t σ H fun vs H1 => sp vs H1 Q E
theorem pe_callP {X : Cx} {k i : Nat} {S : Addr → Sp → Prop} {E : XK} {x : Str} {p pos : Pos} {e : Expr} {es : List Expr} {t : TA} (A : ∀ f sp, S f sp → ∃ fd ps, Def X.prog X.w X.K X.mg X.base k f fd ps sp) (hr : Room k X.A) (hN : X.N[i]? = some x) (hv : Vis X.env.scope x) (hx : Passes (L2.CX X.prog X.w) X E) (ha : PA X (e :: es) t)
    (hdb : (x == ("__debug__" : Str)) = false := by decide) (hcd : (x == ("__classdict__" : Str)) = false := by decide)
    (he : starEach (e :: es) X.env = (false, eval e X.env) :: starEach es X.env := by rfl) (hpl : (backTo pos (starEach es X.env)).any (·.1) = false := by rfl) : PE X (.Call (.Name x p) (e :: es) [] pos) (tCallP i S E t) := by
  constructor
  intro pins s σ H Q I h
  obtain ⟨f, sp, hs, hS, ht⟩ := h
  obtain ⟨fd, ps, D⟩ := A f sp hS
  refine (pe_callL (i := i) (f := f) (sp := sp) (dvs := []) (E := E) D.fn hr hN hv D.kp D.bd .nil hx ha hdb hcd he hpl).run pins s σ H Q I ⟨hs, ?_⟩
  have same : (fun (vs : List V) (H1 : Hp) => sp (vs ++ []) H1 Q E) = fun vs H1 => sp vs H1 Q E := funext fun vs => funext fun H1 => by rw [List.append_nil]
  show t σ H (fun vs H1 => sp (vs ++ []) H1 Q E)
  rw [same]
  exact ht
end Rm
namespace Rm
open PySem PySem.Spec PyProof.Rows L2
theorem Def.mono {P : Program} {w : World} {K : PySem.W.Frag} {mg : Str → Option Value} {base : Heap} {j k : Nat} {f : Addr} {fd : FuncData} {ps : List Str} {sp : Sp} (D : Def P w K mg base j f fd ps sp) (h : j ≤ k) : Def P w K mg base k f fd ps sp := ⟨D.fn.mono h, D.bd, D.kp⟩
/-- a promise that holds of nothing -/
theorem Def.never {P : Program} {w : World} {K : PySem.W.Frag} {mg : Str → Option Value} {base : Heap} {k : Nat} {f : Addr} {fd : FuncData} {ps : List Str} {sp : Sp} (no : ∀ vs H Q E, sp vs H Q E → False) (bd : Binds K fd ps []) (kp : PySem.W.keepIn K (.ref f) = true) : Def P w K mg base k f fd ps sp :=
  ⟨⟨fun vs H Q E h => (no vs H Q E h).elim, fun _ _ _ H _ _ vs Q E _ _ _ _ h => (no vs H Q E h).elim⟩, bd, kp⟩
end Rm

/-! HG: the head's facts: a Hook with one more Bool. -/
namespace Rm
open PySem PySem.Spec PyProof.Rows L2
/-! a dict of the module: keys, values, hashes (these hang on the world) -/
def entB (K : PySem.W.Frag) : List DictEntry → List (Str × He.Dv) → Bool
  | [], [] => true
  | ⟨_, .str z _, u⟩ :: es, (x, v) :: l => decide (z = x) && (He.relB (v.v K) u && entB K es l)
  | _, _ => false
def emB : List (Option Value) → Bool
  | [] => true
  | _ => false
def dicB (K : PySem.W.Frag) (x : Str) (l : List (Str × He.Dv)) : Bool := match K.lookup (He.ga K x) with
  | some ⟨.type "dict", none, .dict es _, sl⟩ => emB sl.toList && (!(He.ga K x == sysModules) && entB K es.toList l)
  | _ => false
def hasW (K : PySem.W.Frag) (x : Str) : List Int := match K.lookup (He.ga K x) with
  | some ⟨_, _, .dict es _, _⟩ => es.toList.map (·.hash)
  | _ => []
abbrev DcL : Type := List (Str × List (Str × He.Dv))
def valH (w : World) (d : Str × List (Str × He.Dv)) : List Int := d.2.map fun e => PyData.keyHash w.params e.1
theorem ents_ok {K : PySem.W.Frag} {w : World} : ∀ {es : List DictEntry} {l : List (Str × He.Dv)}, entB K es l = true → es.map (·.hash) = l.map (fun e => PyData.keyHash w.params e.1) → Ents w es (l.map fun e => (e.1, e.2.v K))
  | [], [], _, _ => .nil
  | ⟨h, .str z t, u⟩ :: es, (x, v) :: l, b, e => by
    have b : (decide (z = x) && (He.relB (v.v K) u && entB K es l)) = true := b
    obtain ⟨b1, b⟩ := He.ba b
    obtain ⟨b2, b3⟩ := He.ba b
    have b1 := of_decide_eq_true b1
    subst b1
    rw [List.map_cons, List.map_cons] at e
    obtain ⟨e1, e2⟩ := List.cons.inj e
    exact .cons rfl e1 (He.relB_ok b2) (ents_ok b3 e2)
theorem dicB_ok {K : PySem.W.Frag} {w : World} {x : Str} {l : List (Str × He.Dv)} (b : dicB K x l = true) (e : hasW K x = valH w (x, l)) : KD K w (He.ga K x) (l.map fun e => (e.1, e.2.v K)) := by
  unfold dicB at b
  unfold hasW at e
  split at b
  · rename_i es n sl look
    rw [look] at e
    obtain ⟨b1, b⟩ := He.ba b
    obtain ⟨b2, b3⟩ := He.ba b
    obtain ⟨sll⟩ := sl
    cases sll with
    | nil => exact ⟨es, _, look, ents_ok b3 e, by simpa using b2⟩
    | cons _ _ => cases b1
  · cases b
abbrev AlG : Type := Bool × List He.FnW × List CelW × List (List Int)
def obsG (fa : List He.Fa) (fn : List He.DefD) (ce : List (Str × CelW)) (dc : DcL) (ex : PySem.W.Frag → Bool) (K : PySem.W.Frag) : AlG := ((fa.all fun f => f.ok K) && ((fn.all fun d => d.ok K) && ex K), fn.map (fun d => He.fnW K d.at_), ce.map (fun c => celW K (He.ma K (He.ga K c.1) "__init__")), dc.map fun d => hasW K d.1)
def valG (fn : List He.DefD) (ce : List (Str × CelW)) (dc : DcL) (w : World) : AlG := (true, fn.map He.DefD.val, ce.map (·.2), dc.map (valH w))
def SaysG (fa : List He.Fa) (fn : List He.DefD) (ce : List (Str × CelW)) (dc : DcL) (ex : PySem.W.Frag → Bool) (w : World) (K : PySem.W.Frag) : Prop := obsG fa fn ce dc ex K = valG fn ce dc w
def obsGG (n : Nat) (fa : List He.Fa) (fn : List He.DefD) (ce : List (Str × CelW)) (dc : DcL) (ex : PySem.W.Frag → Bool) (g : Addr → Option Obj) : AlG := obsG fa fn ce dc ex (He.frG g (cStatics :: He.asD g n))
def hookG (n : Nat) (fa : List He.Fa) (fn : List He.DefD) (ce : List (Str × CelW)) (dc : DcL) (ex : PySem.W.Frag → Bool) : PySem.W.Hook where
  α := AlG
  obs := fun s => obsGG n fa fn ce dc ex s.heap.get?
  val := fun w => valG fn ce dc w
  says := fun w h => ∃ K : PySem.W.Frag, K.In h ∧ SaysG fa fn ce dc ex w K
  of := fun _ _ e => ⟨_, He.frG_in, e⟩
  keeps := fun _ _ _ ⟨K, hK, c⟩ k => ⟨K, PySem.W.Frag.In.keeps hK k, c⟩
theorem obsGG_eq {n : Nat} {fa : List He.Fa} {fn : List He.DefD} {ce : List (Str × CelW)} {dc : DcL} {ex : PySem.W.Frag → Bool} {g : Addr → Option Obj} {s : Shared} (h : ∀ a, g a = s.heap.get? a) : obsGG n fa fn ce dc ex g = (hookG n fa fn ce dc ex).obs s := by
  have e : g = s.heap.get? := funext h
  rw [e] <;> rfl
section
variable {fa : List He.Fa} {fn : List He.DefD} {ce : List (Str × CelW)} {dc : DcL} {w : World} {ex : PySem.W.Frag → Bool} {K : PySem.W.Frag}
theorem SaysG.fact (c : SaysG fa fn ce dc ex w K) (i : Nat) {f : He.Fa} (h : fa[i]? = some f := by rfl) : f.ok K = true := by
  have c1 := (He.ba (show ((fa.all fun f => f.ok K) && ((fn.all fun d => d.ok K) && ex K)) = true from congrArg (fun z : AlG => z.1) c)).1
  exact List.all_eq_true.mp c1 f (List.mem_of_getElem? h)
theorem SaysG.more (c : SaysG fa fn ce dc ex w K) : ex K = true :=
  (He.ba (He.ba (show ((fa.all fun f => f.ok K) && ((fn.all fun d => d.ok K) && ex K)) = true from congrArg (fun z : AlG => z.1) c)).2).2
theorem SaysG.def_ (c : SaysG fa fn ce dc ex w K) (i : Nat) {d : He.DefD} (h : fn[i]? = some d := by rfl) : ∃ fd, FunD K d.name d.qual d.params d.body d.scope (d.dvs K) (d.kws K) (He.fAd K d.at_) fd := by
  have c2 := (He.ba (He.ba (show ((fa.all fun f => f.ok K) && ((fn.all fun d => d.ok K) && ex K)) = true from congrArg (fun z : AlG => z.1) c)).2).1
  have e : fn.map (fun d => He.fnW K d.at_) = fn.map He.DefD.val := congrArg (fun z : AlG => z.2.1) c
  have e2 : (fn.map fun d => He.fnW K d.at_)[i]? = (fn.map He.DefD.val)[i]? := by rw [e]
  rw [List.getElem?_map, List.getElem?_map, h] at e2
  exact He.DefD.funD (Option.some.inj e2) (List.all_eq_true.mp c2 d (List.mem_of_getElem? h))
theorem SaysG.dic (c : SaysG fa fn ce dc ex w K) (i : Nat) {d : Str × List (Str × He.Dv)} (h : dc[i]? = some d := by rfl) : hasW K d.1 = valH w d := by
  have e : dc.map (fun d => hasW K d.1) = dc.map (valH w) := congrArg (fun z : AlG => z.2.2.2) c
  have e2 : (dc.map fun d => hasW K d.1)[i]? = (dc.map (valH w))[i]? := by rw [e]
  rw [List.getElem?_map, List.getElem?_map, h] at e2
  exact Option.some.inj e2
theorem SaysG.cel (c : SaysG fa fn ce dc ex w K) (i : Nat) {d : Str × CelW} (h : ce[i]? = some d := by rfl) : celW K (He.ma K (He.ga K d.1) "__init__") = d.2 := by
  have e : ce.map (fun c => celW K (He.ma K (He.ga K c.1) "__init__")) = ce.map (·.2) := congrArg (fun z : AlG => z.2.2.1) c
  have e2 : (ce.map fun c => celW K (He.ma K (He.ga K c.1) "__init__"))[i]? = (ce.map (·.2))[i]? := by rw [e]
  rw [List.getElem?_map, List.getElem?_map, h] at e2
  exact Option.some.inj e2
end
/-- a law's end where callees may let out: what is let out at the law itself is nothing -/
theorem no_out {P : Program} {w : World} (H : Hp) (s : Shared) (v : Value) (t : Shared) (h : L2.CX P w [] H s (fun _ _ _ => False) v t) : False := by
  obtain ⟨_, _, _, _, _, _, _, _, _, _, _, _, z⟩ := h
  exact z
theorem walk_law {l : PySem.W.OpenLaw} {x : Str} {n k : Nat} {q : Program} {d : DefRec} {loose : List Str} {Xp : (Str → Option Value) → Heap → Prop} {Yp : World → Heap → Prop}
    (most : l.most = some n) (small : n ≤ sizeLine) (nodf : d.params.defaults = []) (room : Room k callerA)
    (got : ∀ (w : World) (mg : Str → Option Value) (fa : Addr) (h : Heap), Yp w h → h.Ns mainGlobals mg → mg d.name = some (.ref fa) →
      ∃ (K : PySem.W.Frag) (fd : FuncData) (sp : Sp), K.In h ∧ (∀ (s : Shared) (u : Value), BindsTo s fd ⟨[u], []⟩ [(x, u)]) ∧
        (∀ (H : Hp) (a : Addr) (ns : List Int), ns.length ≤ n → Only H → SqL K H a (ns.map V.int) → sp [.ref a] H (fun v _ => v = .bl true) fun _ _ _ => False) ∧
        ∀ base : Heap, K.In base → base.Ns mainGlobals mg → FnOk l.prog w K mg base (L2.CX l.prog w) k fa fd [x] sp) :
    PySem.W.WalkO q loose Xp Yp l.row.toRowW d [] (fun f vs => PySem.call f vs) := by
  apply Att.attach_call most nodf
  intro w s0 s1 mg mb fa ob pm cd doc a vs ns Gr Yw ho hd hcd hmg hobj hints hlen hgens
  obtain ⟨K, fd, sp, KX, bind, wish, fok⟩ := got w mg fa _ Yw Gr.T.g hmg
  exact law_call KX Gr.T.g Gr.T.b Gr.T.builtins Gr.T.nolimit hgens hobj hints (Nat.le_trans hlen small) room fok bind (fun H only sq => wish H a ns hlen only sq) fun H v t => no_out H s1 v t
/-- further facts, one behind another -/
def allOf (l : List (PySem.W.Frag → Bool)) (K : PySem.W.Frag) : Bool := l.all fun f => f K
theorem allOf_at {l : List (PySem.W.Frag → Bool)} {K : PySem.W.Frag} (c : allOf l K = true) (i : Nat) {f : PySem.W.Frag → Bool} (h : l[i]? = some f) : f K = true := List.all_eq_true.mp c f (List.mem_of_getElem? h)
/-- nothing is let out -/
def EW0 : EWT := fun _ _ _ _ _ => False
/-- a tuple of written texts -/
def tupS (K : PySem.W.Frag) (x : Str) (ss : List String) : Bool := He.tupB K x (ss.map fun s => .str (Str.ofString s))
theorem tupS_ok {K : PySem.W.Frag} {x : Str} {ss : List String} (h : tupS K x ss = true) (H : Hp) : SqT K H (He.ga K x) ((ss.map Lx.codes).map fun k => V.str (Tx k)) := by
  have q := He.tupB_ok h H
  rw [List.map_map] at q
  rw [List.map_map]
  have e : (ss.map (He.Dv.v K ∘ fun s => He.Dv.str (Str.ofString s))) = ss.map ((fun k => V.str (Tx k)) ∘ Lx.codes) := List.map_congr_left fun s _ => mS_eq s
  rw [← e]
  exact q
end Rm

/-! O1: rules that the layer lacks: xs.extend(tuple), tuple[::-1], tuple(dict). -/
namespace Rm
open PySem PySem.Spec PyProof.Rows L2
theorem extend_tup (l : Addr) (items : Array Value) (n : Nat) (b : Addr) (items2 : Array Value) (hs0 : ¬(!items.isEmpty && Builtin.List.listTooLong (items.size + items2.size)) = true) (hs1 : items.size ≤ sizeLine) (hs2 : items.size + items2.size ≤ sizeLine + 1) :
    Meets (Builtin.«list.extend» ⟨[.ref l, .ref b], []⟩) (fun _ R s => s.heap.get? l = some { cls := .type "list", dict := none, data := .seq items n, slots := #[] } ∧ PyProof.Rows.IsTup s.heap b items2 ∧ R (.ok (.ret Value.none)) { s with heap := s.heap.update l (Obj.mapSeq fun x => x ++ items2), toks := s.toks }) :=
  .of_wp fun prog w A R s h => by
    obtain ⟨hp, g, d, tk, os⟩ := s
    obtain ⟨hl, hb, h⟩ := h
    obtain ⟨o, hb, hc, n2, hd⟩ := hb
    obtain ⟨cls, dict, data, slots⟩ := o
    dsimp only at hc hd
    subst hc hd
    have f1 := AutoSeq1.idx_int
    have f2 := AutoSeq1.sub_tuple_tuple
    have f3 := AutoSeq1.sub_list_list
    have f4 := AutoSeq1.sub_tuple_list
    have f5 := AutoSeq1.sub_list_tuple
    have hz' : (items ++ items2).size ≤ sizeLine + 1 := by rw [Array.size_append]; exact hs2
    wp_walk using (wpAny_updateSeq hl rfl (hz := hs1) (_hz' := hz')), wpAny_loadPart' hl, wpAny_loadPart' hb
    exact ⟨_, rfl, h⟩
/-! ### xs.extend(t), t a tuple -/
def rExtendT (K : PySem.W.Frag) : V → List V → Hp → VK → Prop := fun x vs H Q => ∃ l b xs zs, x = .ref l ∧ vs = [.ref b] ∧ H l = some (.lst xs) ∧ SqT K H b zs ∧ xs.length + zs.length ≤ sizeLine ∧ Q .non (upd H l (.lst (xs ++ zs)))
section
variable {X : Cx}
theorem mt_extendT : MtM X "list.extend" (rExtendT X.K) := by
  intro pins s σ H x vs v us Q I rx rv h
  obtain ⟨l, b, xs, zs, rfl, rfl, hH, hB, hz, q⟩ := h
  cases rx
  obtain ⟨u, rfl, ru⟩ := rv.one
  cases ru
  obtain ⟨z, its, n, r, hl, e⟩ := I.lstM hH
  obtain ⟨its2, r2, p2, z2⟩ := I.tuple hB
  have l1 := r.length
  have l2 := r2.length
  have hsz : its.toArray.size + its2.toArray.size ≤ sizeLine := by rw [List.size_toArray, List.size_toArray]; omega
  have hlong : ¬ (!its.toArray.isEmpty && Builtin.List.listTooLong (its.toArray.size + its2.toArray.size)) = true := by
    rw [notLongL hsz, Bool.and_false]
    exact Bool.false_ne_true
  refine call_meets F.slot_list_extend ⟨_, e, rfl⟩ F.entry_list_extend (F.args_list_extend_2 _ _)
    (extend_tup l its.toArray n b its2.toArray hlong (by rw [List.size_toArray]; omega) (by omega)) ⟨e, p2, ?_⟩
  refine ⟨.non, _, I.lset (its' := its ++ its2) hH e (by simp) (r.append r2) ?_, rfl, q⟩
  rw [List.length_append]
  omega
end
/-! ### t[::-1], t a tuple -/
section
variable {prog : Program} {w : World} {A : Around} {E : Value → Shared → Prop} {s : Shared}
theorem rev_places (n : Nat) : Builtin.Slice.slicePlaces ((n : Int) - 1) (-1) (-1) = n := by
  unfold Builtin.Slice.slicePlaces
  rw [if_neg (by decide)]
  by_cases h : (n : Int) - 1 > -1
  · rw [if_pos h]
    have e : ((n : Int) - 1 - -1 - 1) / (- -1) + 1 = (n : Int) := by
      rw [show (- -1 : Int) = 1 by decide, Int.ediv_one]
      omega
    rw [e]
    exact Int.toNat_natCast n
  · rw [if_neg h]
    have : n = 0 := by omega
    rw [this]
    rfl
theorem pick_rev (xs : Array Value) : ((List.range xs.size).filterMap fun (m : Nat) => xs[(((xs.size : Nat) : Int) - 1 + (m : Int) * (-1)).toNat]?).toArray = xs.toList.reverse.toArray := by
  congr 1
  apply List.ext_getElem?
  intro i
  have e : ((List.range xs.size).filterMap fun (m : Nat) => xs[(((xs.size : Nat) : Int) - 1 + (m : Int) * (-1)).toNat]?) = (List.range xs.size).reverse.filterMap (xs[·]?) := by
    rw [← PySem.W.krv_range, List.filterMap_map]
    have z : ∀ (l : List Nat), (∀ m ∈ l, m < xs.size) → l.filterMap (fun (m : Nat) => xs[(((xs.size : Nat) : Int) - 1 + (m : Int) * (-1)).toNat]?) = l.filterMap ((xs[·]?) ∘ fun k => xs.size - 1 - k) := by
      intro l
      induction l with
      | nil => exact fun _ => rfl
      | cons m l ih =>
        intro hl
        have hm := hl m List.mem_cons_self
        have e : (((xs.size : Nat) : Int) - 1 + (m : Int) * (-1)).toNat = xs.size - 1 - m := by omega
        rw [List.filterMap_cons, List.filterMap_cons, ih fun k hk => hl k (List.mem_cons_of_mem _ hk), e]
        rfl
    exact z _ fun m hm => List.mem_range.mp hm
  rw [e, List.filterMap_reverse, PySem.W.krv_all]
theorem sliceApplied_rev {sl : Addr} {vl vu vs : Value} {n : Nat} {Q : Int × Int × Nat → Shared → Prop} (hs : s.heap.IsSliceOf sl vl vu vs) (pl : IsPart vl none) (pu : IsPart vu none) (ps : IsPart vs (some (-1)))
    (h : Q ((n : Int) - 1, -1, n) s) : wpAny (model prog w) A (Builtin.Slice.sliceApplied (.ref sl) (pure (n : Int))) Q E s := by
  obtain ⟨os, hos, hcs, hds⟩ := id hs
  unfold Builtin.Slice.sliceApplied Builtin.Slice.sliceFields
  refine wpAny_bind (wpAny_bind (wpAny_field hos hds (x := vl) rfl (wpAny_bind (wpAny_field hos hds (x := vu) rfl (wpAny_bind (wpAny_field hos hds (x := vs) rfl (wpAny_pure ?_)))))))
  refine wpAny_bind (HT.slicePart_ ps ?_)
  show wpAny _ _ (if ((-1 : Int) == 0) = true then _ else _) _ _ s
  rw [if_neg (by decide)]
  refine wpAny_bind (HT.slicePart_ pl (wpAny_bind (HT.slicePart_ pu (wpAny_bind (wpAny_pure ?_)))))
  show wpAny _ _ (pure ((n : Int) - 1, (-1 : Int), Builtin.Slice.slicePlaces ((n : Int) - 1) (-1) (-1))) _ _ s
  rw [rev_places]
  exact wpAny_pure h
theorem getItem_tuple_rev {t sl : Addr} {items : Array Value} {vl vu vs : Value} {Q : Value → Shared → Prop} (ht : PyProof.Rows.IsTup s.heap t items) (hs : s.heap.IsSliceOf sl vl vu vs) (pl : IsPart vl none) (pu : IsPart vu none) (ps : IsPart vs (some (-1)))
    (h : Q (.ref s.heap.objs.size) { s with heap := s.heap.push { cls := .type "tuple", data := .seq items.toList.reverse.toArray } })
    (hsz : items.size ≤ sizeLine) : wpAny (model prog w) A (getItem (.ref t) (.ref sl)) Q E s := by
  have htake : sizeOk (.seq items.toList.reverse.toArray) := by
    show items.toList.reverse.toArray.size ≤ sizeLine
    rw [List.size_toArray, List.length_reverse, Array.length_toList]
    exact hsz
  obtain ⟨os, hos, hcs, hds⟩ := id hs
  have hTs : s.TypeIs (.ref sl) "slice" := ⟨os, hos, hcs⟩
  unfold getItem
  try with_reducible refine wpAny_holding ?_
  first | refine wpAny_bind (wpAny_pure ?_) | skip
  refine wpAny_bind (wpAny_sequenceKey ht.typeIs (by decide) ?_)
  refine wpAny_bind (wpAny_callSpecial?_slot (name := Str.ofString "__getitem__") ht.typeIs PyProof.Rows.slot_tuple_getitem
    (wpAny_call_entry PyProof.Rows.slot_tuple_getitem ht.typeIs entry_tuple_getitem ?_ (args_tuple_getitem _ _)))
  show wpAny _ _ (Builtin.Tuple.tupleItemsOf (.ref t) >>= _) _ _ s
  refine wpAny_bind (tupleItemsOf_ ht ?_)
  refine wpAny_bind (wpAny_typeOf hTs ?_)
  rw [if_pos (by decide)]
  refine wpAny_bind (sliceApplied_rev hs pl pu ps ?_)
  have hno : ¬ (((((items.size : Nat) : Int) - 1 == 0) && ((-1 : Int) == 1) && (items.size == items.size)) = true) := by
    intro q
    rw [Bool.and_eq_true, Bool.and_eq_true] at q
    exact absurd q.1.2 (by decide)
  show wpAny _ _ (if ((((items.size : Nat) : Int) - 1 == 0) && ((-1 : Int) == 1) && (items.size == items.size)) = true then _ else _) _ _ s
  rw [if_neg hno, pick_rev]
  first
    | exact wpAny_bind (m := Builtin.Tuple.tupleExact _) (wpAny_newObj_type (wpAny_pure ⟨_, rfl, wpAny_pure h⟩) htake)
    | exact wpAny_bind (m := Builtin.Tuple.tupleExact _) (wpAny_newObj_type (wpAny_bind (wpAny_pure (wpAny_pure ⟨_, rfl, wpAny_pure h⟩))) htake)
    | exact wpAny_bind (wpAny_bind (m := Builtin.Tuple.tupleExact _) (wpAny_newObj_type (wpAny_pure (wpAny_pure ⟨_, rfl, wpAny_pure h⟩)) htake))
    | exact wpAny_bind (wpAny_bind (m := Builtin.Tuple.tupleExact _) (wpAny_newObj_type (wpAny_pure ⟨_, rfl, wpAny_pure h⟩) htake))
end
def tRevT (K : PySem.W.Frag) (te : TE) : TE := fun σ H Q => te σ H fun x H1 => ∃ a xs, x = .ref a ∧ SqT K H1 a xs ∧ ∀ p, H1 p = none → Q (.ref p) (upd H1 p (.tup xs.reverse))
section
variable {X : Cx}
theorem pe_revT {e : Expr} {te : TE} {k : Nat} {p1 p2 p3 pos : Pos} (he : PE X e te) : PE X (.Subscript e (.Slice none none (some (.UnaryOp .USub (.Constant (.int 1) k p1) p2)) p3) pos) (tRevT X.K te) := by
  refine ⟨fun pins s σ H Q I h => ?_⟩
  refine Subscript_ (thn (he.run pins s σ H _ I h) fun v s1 ⟨x, H1, I1, r1, q1⟩ => ?_)
  obtain ⟨a, xs, ex, hx, q⟩ := q1
  subst ex
  cases r1
  have hst : PO X (some (.UnaryOp .USub (.Constant (.int 1) k p1) p2)) (tPart (tUn (rU fun i => .int (-i)) (tC (.int 1)))) := po_some (pe_un un_neg pe_int)
  refine wpAny_Slice (thn (po_none.run pins s1 σ H1 (fun o H2 => o = none ∧ H2 = H1) I1 ⟨rfl, rfl⟩) fun vl s2 ⟨l, H2, I2, pl, el, e2⟩ => ?_)
  subst el e2
  refine thn (po_none.run pins s2 σ H2 (fun o H3 => o = none ∧ H3 = H2) I2 ⟨rfl, rfl⟩) fun vu s3 ⟨u, H3, I3, pu, eu, e3⟩ => ?_
  subst eu e3
  refine thn (hst.run pins s3 σ H3 (fun o H4 => o = some (-1) ∧ H4 = H3) I3 ⟨1, rfl, -1, rfl, rfl, rfl⟩) fun vs s4 ⟨o, H4, I4, ps, eo, e4⟩ => ?_
  subst eo e4
  have I5 : Inv X pins σ H4 { s4 with heap := s4.heap.push { cls := .type "slice", data := .fields #[vl, vu, vs] } } := I4.kept (t' := s4.toks) fun b ob q => Heap.get?_push_of_some _ q
  obtain ⟨its, r, ht, hz⟩ := I5.tuple hx
  have hlen := r.length
  show wpAny (model X.prog X.w) X.A (subscriptTail e (.Slice none none (some (.UnaryOp .USub (.Constant (.int 1) k p1) p2)) p3) (.ref a) (.ref s4.heap.objs.size)) (EP X pins σ Q) X.xe { s4 with heap := s4.heap.push { cls := .type "slice", data := .fields #[vl, vu, vs] } }
  refine tail_any (ops := [.ref a, .ref s4.heap.objs.size]) ht.typeIs (PyProof.Rows.slot_tuple_getitem.lookup) ?_ (by with_unfolding_all rfl)
  refine getItem_tuple_rev ht (Heap.IsSliceOf.new _ vl vu vs) pl pu ps ?_ (by rw [List.size_toArray]; omega)
  refine ⟨.ref _, _, I5.laid (t' := s4.toks) (o := .tup xs.reverse) (fun b ob q => Heap.get?_push_of_some _ q) (Nat.le_refl _) ?_, rfl, q _ (I5.hok.fresh (Nat.le_refl _))⟩
  exact ⟨by rw [List.length_reverse]; exact hz, _, r.reverse, IsTup.new _ _⟩
end
/-! ### tuple(d), d a dict -/
section
variable {prog : Program} {w : World} {A : Around} {E : Value → Shared → Prop} {s : Shared} {T : String} {r d : Addr} {n : Nat} {P : Nat → Value → Prop} {OK : Heap → Prop}
theorem collect_kdl {Q : List Value → Shared → Prop} (K : PySem.W.KdlSrc prog w T r d n P OK) (hh : A.handled = none) (hok : OK s.heap) (hn : n ≤ sizeLine)
    (hQ : ∀ (h' : Heap) (tk : Nat) (acc : Array Value), (∀ b o, s.heap.get? b = some o → h'.get? b = some o) → ItemsOf P acc n → Q acc.toList { s with heap := h', toks := tk }) :
    wpAny (model prog w) A (collect (.ref r)) Q E s := by
  unfold collect
  refine wpAny_bind (wpAny_runValue (codeAny_builtin PySem.F.entry_proto_collect ?_))
  rw [Around.under_plainId PySem.F.plain_proto_collect _]
  show wpAny _ A.in1 (newList [] >>= fun l => again (.builtin "list.__iadd__" ⟨[l, .ref r], []⟩)) _ _ s
  refine wpAny_bind (wpAny_newObj_type ?_)
  refine wpAny_pure ⟨plainId_quiet PySem.F.plain_list_iadd _, codeAny_builtin PySem.F.entry_list_iadd ?_⟩
  rw [Around.under_plainId PySem.F.plain_list_iadd _]
  show wpAny _ A.in1 (Builtin.List.listExtendWith (.ref s.heap.objs.size) (.ref r) (.ref s.heap.objs.size)) _ _ _
  have hS : (s.heap.push { cls := .type "list", data := .seq ([] : List Value).toArray }).get? s.heap.objs.size = some { cls := .type "list", data := .seq #[] 0 } := Heap.get?_push_size _ rfl
  have hlt := K.there _ hok
  refine wpAny_mono (PySem.W.kdl_extend (A := A) (R := fun rr s' => rr = .ok (.ret (.ref s.heap.objs.size)) ∧ ∃ (h' : Heap) (tk : Nat) (acc : Array Value) (c' : Nat), s' = { s with heap := h', toks := tk } ∧
      (∀ b o, s.heap.get? b = some o → h'.get? b = some o) ∧ h'.get? s.heap.objs.size = some { cls := .type "list", dict := none, data := .seq acc c', slots := #[] } ∧ ItemsOf P acc n)
    (s := { s with heap := s.heap.push { cls := .type "list", data := .seq ([] : List Value).toArray } }) K hh (K.keep _ _ hok fun b _ o e => Heap.get?_push_of_some _ e) s.heap.objs.size (Nat.ne_of_gt hlt.1) (Nat.ne_of_gt hlt.2) _ 0 hS
    (fun h' tk acc c' hk e hi => ⟨rfl, h', tk, acc, c', rfl, fun b o q => hk b o (Nat.ne_of_lt (Heap.lt_size q)) (Heap.get?_push_of_some _ q), e, hi⟩) hn) (fun fin s' h => ?_) (fun e s' h => ?_)
  · cases fin with
    | done f =>
      obtain ⟨e, h', tk, acc, c', rfl, hk, hS', hi⟩ := h
      cases e
      show wpAny _ A (load s.heap.objs.size >>= _) _ _ _
      exact wpAny_bind (wpAny_load hS' (wpAny_pure (hQ h' tk acc hk hi)))
    | again c' =>
      refine ⟨h.1, codeAny_mono h.2 fun rr s'' hr' => ?_⟩
      obtain ⟨rfl, h', tk, acc, c', rfl, hk, hS', hi⟩ := hr'
      show wpAny _ A (load s.heap.objs.size >>= _) _ _ _
      exact wpAny_bind (wpAny_load hS' (wpAny_pure (hQ h' tk acc hk hi)))
  · exact absurd h.1 (by simp)
theorem notT (K : PySem.W.KdlSrc prog w T r d n P OK) : ¬ (Value.type T == Value.type "tuple") = true := by
  rw [K.notTuple]
  exact Bool.false_ne_true
theorem code_tuple_new_dict {kvs : List (Key × Value)} {ep : Nat} {Q₁ : Value → Shared → Prop} (lo : (d == sysModules) = false) (hh : A.handled = none) (hok : s.heap.DictAt (mixKind prog w) d kvs ep) (hn : kvs.length ≤ sizeLine)
    (h : ∀ (h' : Heap) (tk : Nat) (acc : Array Value), (∀ b o, s.heap.get? b = some o → h'.get? b = some o) → ItemsOf (fun i v => ∃ k x, kvs[i]? = some (k, x) ∧ (mixKind prog w).is k v = true) acc kvs.length →
      Q₁ (.ref h'.objs.size) { s with heap := h'.push { cls := .type "tuple", data := .seq acc }, toks := tk }) :
    codeAny (model prog w) A (.call (.builtin "tuple.__new__") ⟨[.type "tuple", .ref d], []⟩) (wants Q₁ E) s := by
  refine codeAny_of_tree ?_
  show wpAny _ A.in1 (do checkBuiltinCall "tuple.__new__" ⟨[.type "tuple", .ref d], []⟩; again (.builtin "tuple.__new__" ⟨[.type "tuple", .ref d], []⟩)) _ _ s
  refine wpAny_bind (wpAny_of_eq (PySem.F.newCall_tuple_1 _) (wpAny_pure ⟨plainId_quiet PySem.F.plain_tuple_new _, codeAny_builtin PySem.F.entry_tuple_new ?_⟩))
  rw [Around.under_plainId PySem.F.plain_tuple_new _]
  have hsub := sub_tuple_self
  have hinit := init_tuple_lookup
  have hmh := madeHere_tuple
  have hTI : s.TypeIs (.ref d) "dict" := hok.dictOf.typeIs
  have hh1 : A.in1.handled = none := hh
  wp_walk using wpAny_typeOf hTI, collect_kdl (A := A.in1) (PySem.W.kdl_dict (knd := mixKind prog w) (kvs := kvs) (ep := ep) lo) hh1 hok hn
  intro h' tk acc hk hacc
  show wpAny _ _ (Builtin.Tuple.tupleExact acc.toList.toArray >>= fun v => ret v) _ _ _
  unfold Builtin.Tuple.tupleExact
  refine wpAny_bind (wpAny_newObj_type ?_ (by show acc.toList.toArray.size ≤ sizeLine; simp only [Array.toArray_toList]; rw [hacc.1]; exact hn))
  refine wpAny_pure ?_
  have e : acc.toList.toArray = acc := by simp
  rw [e]
  exact h h' tk acc hk hacc
theorem call_tuple_dict {kvs : List (Key × Value)} {ep : Nat} {Q : Value → Shared → Prop} (lo : (d == sysModules) = false) (hh : A.handled = none) (hok : s.heap.DictAt (mixKind prog w) d kvs ep) (hn : kvs.length ≤ sizeLine)
    (hQ : ∀ (h' : Heap) (tk : Nat) (acc : Array Value), (∀ b o, s.heap.get? b = some o → h'.get? b = some o) → ItemsOf (fun i v => ∃ k x, kvs[i]? = some (k, x) ∧ (mixKind prog w).is k v = true) acc kvs.length →
      Q (.ref h'.objs.size) { s with heap := h'.push { cls := .type "tuple", data := .seq acc }, toks := tk }) :
    wpAny (model prog w) A (call (.type "tuple") [.ref d]) Q E s := by
  refine callType_codes (Q₁ := fun obj s₁ => s₁.TypeIs obj "tuple" ∧ Q obj s₁) PySem.F.called_tuple (PySem.F.typeCall_tuple_1 _) PySem.F.entry_object_init
    (code_tuple_new_dict (A := A.in1) lo hh hok hn fun h' tk acc hk hacc => ⟨⟨_, Heap.get?_push_size _ rfl, rfl⟩, hQ h' tk acc hk hacc⟩) fun obj s₁ h₁ => ?_
  exact ⟨h₁.1, PySem.F.args_object_init_2 obj _, object_init_meets PySem.F.called_tuple.init.lookup PySem.F.called_tuple.made (by decide) prog w A.in1 _ s₁ ⟨h₁.1, rfl, h₁.2⟩⟩
end
def rTupleD : RC := fun xs H Q => ∃ (a : Addr) (kvs : List (Key × V)), xs = [.ref a] ∧ H a = some (.dK kvs) ∧ ∀ p, H p = none → Q (.ref p) (upd H p (.tup (kvs.map fun kv => kV kv.1)))
section
variable {X : Cx}
theorem call_tupleD (hcalm : X.calm = true) : CallR X (.type "tuple") rTupleD := by
  intro pins s σ H xs us Q I r q
  obtain ⟨a, kvs, ex, hd, q⟩ := q
  subst ex
  obtain ⟨u, eu, rx⟩ := vals1 r
  subst eu
  cases rx
  obtain ⟨z, lo, vs, rel, dd⟩ := dk_of I.hok hd
  obtain ⟨ep, hat⟩ := dd.dictAt
  have ek : (kvs.map fun kv => kV kv.1) = vs.map fun p => kV p.1 := by
    have e := congrArg (List.map kV) rel.keys
    rw [List.map_map, List.map_map] at e
    exact e
  refine call_tuple_dict lo (I.ok.hd hcalm) hat (by rw [← rel.length]; exact z) fun h' tk acc hk hacc => ?_
  have hv : Vals (vs.map fun p => kV p.1) acc.toList := keys_at (by rw [Array.length_toList]; exact hacc.1) fun j v e => hacc.2 j v (by rw [← Array.getElem?_toList]; exact e)
  have I1 : Inv X pins σ H { s with heap := h', toks := tk } := I.kept (t' := tk) hk
  have I2 : Inv X pins σ (upd H h'.objs.size (.tup (kvs.map fun kv => kV kv.1))) { s with heap := h'.push { cls := .type "tuple", data := .seq acc }, toks := tk } :=
    I1.laid (t' := tk) (fun b o e => Heap.get?_push_of_some _ e) (Nat.le_refl _) (show ObjOk X.prog X.w _ _ _ (.tup (kvs.map fun kv => kV kv.1)) from ⟨by rw [List.length_map]; exact z, acc.toList, by rw [ek]; exact hv, by rw [Array.toArray_toList]; exact IsTup.new _ _⟩)
  exact ⟨.ref h'.objs.size, _, I2, rfl, q _ (I1.hok.fresh (Nat.le_refl _))⟩
end
/-! ### more readings by short names -/
def rListOf (K : PySem.W.Frag) : RC := fun xs H Q => ∃ p ys, xs = [.ref p] ∧ (SqL K H p ys ∨ SqT K H p ys) ∧ ∀ l, H l = none → Q (.ref l) (upd H l (.lst ys))
def rListD (K : PySem.W.Frag) : RC := fun xs H Q => ∃ (a : Addr) (kvs : List (Key × V)), xs = [.ref a] ∧ Rd H a (.dK kvs) ∧ ∀ p, H p = none → Q (.ref p) (upd H p (.lst (kvs.map fun kv => kV kv.1)))
def rDictP (K : PySem.W.Frag) : RC := fun xs H Q => ∃ (a : Addr) (ps : List Addr) (kvs : List (Key × V)), xs = [.ref a] ∧ SqL K H a (ps.map V.ref) ∧ Paired (fun p kv => SqT K H p [kV kv.1, kv.2]) ps kvs ∧ ∀ p, H p = none → Q (.ref p) (upd H p (.dK (mergeK [] kvs)))
def rAbs : RC := fun xs H Q => ∃ i, xs = [.int i] ∧ Q (.int (if i < 0 then -i else i)) H
/-- nothing leaves -/
abbrev E0 : XK := fun _ _ _ => False
/-- a walk over the values of a dict -/
theorem for_vals {d : Addr} {o : Obj} {kvs : List (Key × V)} {g : TG} {tb : TS} {D : Ends} {σ : L2.St} {H : Hp} (Pv : Nat → L2.St → Hp → Prop) (h0 : Pv 0 σ H) (hl : ∀ i σ H, Pv i σ H → H d = some (.frz o (.dK kvs)))
    (hs : ∀ (i : Nat) (k : Key) (x : V) (σ : L2.St) (H : Hp), kvs[i]? = some (k, x) → Pv i σ H → g x σ H fun σ2 H2 => tb { D with nx := Pv (i + 1), ct := Pv (i + 1), bk := D.nx } σ2 H2) (hd : ∀ σ H, Pv kvs.length σ H → D.nx σ H) :
    ∃ W : Nat → Nat → L2.St → Hp → Prop, (∃ m, W 0 m σ H) ∧ ∀ i m σ H, W i m σ H →
      ((Itd d o kvs).stop i H ∧ D.nx σ H) ∨ ((Itd d o kvs).go i H ∧ ∃ N : L2.St → Hp → Prop, (∀ σ' H', N σ' H' → ∃ m', m' < m ∧ W (i + 1) m' σ' H') ∧ ∀ x H', (Itd d o kvs).yld i H x H' → g x σ H' fun σ2 H2 => tb { D with nx := N, ct := N, bk := D.nx } σ2 H2) := by
  refine ⟨fun i m σ H => m = kvs.length - i ∧ i ≤ kvs.length ∧ Pv i σ H, ⟨kvs.length, by simp, Nat.zero_le _, h0⟩, ?_⟩
  rintro i m σ H ⟨rfl, hi, p⟩
  have q := hl i σ H p
  by_cases hlt : i < kvs.length
  · refine .inr ⟨⟨q, hlt⟩, Pv (i + 1), fun σ' H' p' => ⟨kvs.length - (i + 1), by omega, rfl, hlt, p'⟩, fun x H' y => ?_⟩
    obtain ⟨e, k, y⟩ := y
    subst e
    exact hs i k x σ _ y p
  · have e : i = kvs.length := by omega
    subst e
    exact .inl ⟨⟨q, Nat.le_refl _⟩, hd σ H p⟩
end Rm

/-! O2: objects in the heap: slots, entries, what an Objects holds; plain functions over slots. -/
namespace Rm
open PySem PySem.Spec PyProof.Rows L2
/-! ### slots -/
structure Sl where
  name : Str
  kind : Str
  val : PyData
def getS : List Sl → Str → Option Sl
  | [], _ => none
  | s :: r, x => if s.name = x then some s else getS r x
def putS : List Sl → Sl → List Sl
  | [], n => [n]
  | s :: r, n => if s.name = n.name then n :: r else s :: putS r n
def dropS (sl : List Sl) (x : Str) : List Sl := sl.filter fun s => decide (s.name ≠ x)
def NdS (sl : List Sl) : Prop := (sl.map (·.name)).Nodup
/-- what the value of a slot may be: a tuple that begins with a word; a "ref" has a number -/
def ValOk (d : PyData) : Prop := ∃ w r, d = .tuple (.str w :: r) ∧ (w = ("ref" : Str) → ∃ i r', r = .int i :: r')
def refOf : PyData → Option Int
  | .tuple (.str w :: .int i :: _) => if w = ("ref" : Str) then some i else none
  | _ => none
def isPar (k : Str) : Bool := decide (k = ("parent" : Str)) || decide (k = ("varparent" : Str))
def parOf (s : Sl) : Option Int := if isPar s.kind = true then refOf s.val else none
def parS (sl : List Sl) : List Int := sl.filterMap parOf
theorem getS_mem : ∀ {sl : List Sl} {x : Str} {s : Sl}, getS sl x = some s → s ∈ sl ∧ s.name = x
  | [], _, _, h => by cases h
  | t :: r, x, s, h => by
    unfold getS at h
    split at h
    · rename_i e
      cases h
      exact ⟨List.mem_cons_self, e⟩
    · obtain ⟨a, b⟩ := getS_mem h
      exact ⟨List.mem_cons_of_mem _ a, b⟩
theorem getS_none : ∀ {sl : List Sl} {x : Str}, getS sl x = none → ∀ s ∈ sl, s.name ≠ x
  | [], _, _, _, h => by cases h
  | t :: r, x, h, s, hs => by
    unfold getS at h
    split at h
    · cases h
    · rename_i e
      rcases List.mem_cons.mp hs with rfl | hs
      · exact e
      · exact getS_none h s hs
theorem putS_names : ∀ (sl : List Sl) (n : Sl) (x : Str), x ∈ (putS sl n).map (·.name) → x ∈ sl.map (·.name) ∨ x = n.name
  | [], n, x, h => by
    rw [List.mem_singleton.mp h]
    exact .inr rfl
  | s :: r, n, x, h => by
    unfold putS at h
    split at h
    · rename_i e
      rcases List.mem_cons.mp h with rfl | h
      · exact .inr rfl
      · exact .inl (List.mem_cons_of_mem _ h)
    · rcases List.mem_cons.mp h with rfl | h
      · exact .inl List.mem_cons_self
      · rcases putS_names r n x h with h | h
        · exact .inl (List.mem_cons_of_mem _ h)
        · exact .inr h
theorem putS_nd : ∀ {sl : List Sl} (n : Sl), NdS sl → NdS (putS sl n)
  | [], n, _ => by
    show ([n.name] : List Str).Nodup
    simp
  | s :: r, n, h => by
    obtain ⟨h1, h2⟩ := List.nodup_cons.mp h
    unfold putS
    split
    · rename_i e
      have e : s.name = n.name := e
      refine List.nodup_cons.mpr ⟨?_, h2⟩
      show ¬ n.name ∈ _
      rw [← e]
      exact h1
    · rename_i e
      refine List.nodup_cons.mpr ⟨fun z => ?_, putS_nd n h2⟩
      rcases putS_names r n s.name z with z | z
      · exact h1 z
      · exact e z
theorem dropS_nd {sl : List Sl} (x : Str) (h : NdS sl) : NdS (dropS sl x) := List.Nodup.sublist (List.Sublist.map _ List.filter_sublist) h
theorem putS_mem : ∀ {sl : List Sl} {n s : Sl}, s ∈ putS sl n → s ∈ sl ∨ s = n
  | [], n, s, h => .inr (List.mem_singleton.mp h)
  | t :: r, n, s, h => by
    unfold putS at h
    split at h
    · rcases List.mem_cons.mp h with rfl | h
      · exact .inr rfl
      · exact .inl (List.mem_cons_of_mem _ h)
    · rcases List.mem_cons.mp h with rfl | h
      · exact .inl List.mem_cons_self
      · rcases putS_mem h with h | h
        · exact .inl (List.mem_cons_of_mem _ h)
        · exact .inr h
theorem putS_len : ∀ (sl : List Sl) (n : Sl), (putS sl n).length ≤ sl.length + 1
  | [], n => Nat.le_refl _
  | t :: r, n => by
    unfold putS
    split
    · exact Nat.le_succ _
    · exact Nat.succ_le_succ (putS_len r n)
/-! ### slots in the heap -/
inductive SlR (H : Hp) : List (Key × V) → List Sl → Prop
  | nil : SlR H [] []
  | cons {x k : Str} {q : Addr} {v : V} {d : PyData} {kvs : List (Key × V)} {sl : List Sl} (h : H q = some (.tup [.str k, v])) (t : Tr H v d) (r : SlR H kvs sl) : SlR H ((Sum.inr x, .ref q) :: kvs) (⟨x, k, d⟩ :: sl)
theorem SlR.keep {H H' : Hp} (k : TK H H') : ∀ {kvs : List (Key × V)} {sl : List Sl}, SlR H kvs sl → SlR H' kvs sl
  | _, _, .nil => .nil
  | _, _, .cons h t r => .cons (k _ _ h) (t.keep k) (r.keep k)
theorem SlR.len {H : Hp} : ∀ {kvs : List (Key × V)} {sl : List Sl}, SlR H kvs sl → kvs.length = sl.length
  | _, _, .nil => rfl
  | _, _, .cons _ _ r => congrArg Nat.succ r.len
theorem inr_ne {x y : Str} (h : ¬ x = y) : ¬ (Sum.inr x : Key) = Sum.inr y := fun e => h (Sum.inr.inj e)
theorem SlR.none_ {H : Hp} {x : Str} : ∀ {kvs : List (Key × V)} {sl : List Sl}, SlR H kvs sl → getS sl x = none → valV kvs (Sum.inr x : Key) = none
  | _, _, .nil, _ => rfl
  | _, _, .cons (x := y) h t r, e => by
    unfold getS at e
    split at e
    · cases e
    · rename_i n
      rw [valV_neg (inr_ne n)]
      exact r.none_ e
theorem SlR.some_ {H : Hp} {x : Str} {s : Sl} : ∀ {kvs : List (Key × V)} {sl : List Sl}, SlR H kvs sl → getS sl x = some s → ∃ q v, valV kvs (Sum.inr x : Key) = some (.ref q) ∧ H q = some (.tup [.str s.kind, v]) ∧ Tr H v s.val
  | _, _, .nil, e => by cases e
  | _, _, .cons (x := y) (q := q) (v := v) h t r, e => by
    unfold getS at e
    split at e
    · rename_i n
      cases e
      exact ⟨q, v, by rw [valV_pos (congrArg Sum.inr n)], h, t⟩
    · rename_i n
      rw [valV_neg (inr_ne n)]
      exact r.some_ e
theorem putK_cons {k0 k : Key} {v0 v : V} {r : List (Key × V)} (h : ¬ k0 = k) : putK ((k0, v0) :: r) k v = (k0, v0) :: putK r k v := by
  unfold putK
  rw [List.any_cons, decide_eq_false h, Bool.false_or]
  split
  · rw [List.map_cons, if_neg h]
  · rfl
theorem putK_first {k : Key} {v0 v : V} {r : List (Key × V)} (h : valV r k = none) : putK ((k, v0) :: r) k v = (k, v) :: r := by
  unfold putK
  rw [List.any_cons, decide_eq_true rfl, Bool.true_or, if_pos rfl, List.map_cons, if_pos rfl]
  congr 1
  have z : ∀ r : List (Key × V), valV r k = none → r.map (fun kv => if kv.1 = k then (kv.1, v) else kv) = r := by
    intro r
    induction r with
    | nil => exact fun _ => rfl
    | cons p r ih =>
      intro e
      by_cases c : p.1 = k
      · rw [valV_pos c] at e
        cases e
      · rw [valV_neg c] at e
        rw [List.map_cons, if_neg c, ih e]
  exact z r h
theorem SlR.put {H : Hp} {n : Sl} {q : Addr} {v : V} (hq : H q = some (.tup [.str n.kind, v])) (tv : Tr H v n.val) : ∀ {kvs : List (Key × V)} {sl : List Sl}, SlR H kvs sl → NdS sl → SlR H (putK kvs (Sum.inr n.name) (.ref q)) (putS sl n)
  | _, _, .nil, _ => .cons hq tv .nil
  | _, _, .cons (x := y) h t r, nd => by
    obtain ⟨n1, n2⟩ := List.nodup_cons.mp nd
    unfold putS
    split
    · rename_i e
      have e : y = n.name := e
      rename_i sl0 _
      have g : getS sl0 y = none := by
        cases z : getS sl0 y with
        | none => rfl
        | some s =>
          obtain ⟨m, em⟩ := getS_mem z
          exact absurd (List.mem_map.mpr ⟨s, m, em⟩) n1
      subst e
      rw [putK_first (r.none_ g)]
      exact .cons hq tv r
    · rename_i e
      rw [putK_cons (inr_ne e)]
      exact .cons h t (r.put hq tv n2)
theorem SlR.drop {H : Hp} {x : Str} : ∀ {kvs : List (Key × V)} {sl : List Sl}, SlR H kvs sl → SlR H (dropK kvs (Sum.inr x)) (dropS sl x)
  | _, _, .nil => .nil
  | _, _, .cons (x := y) h t r => by
    unfold dropS
    rw [List.filter_cons]
    by_cases c : y = x
    · rw [if_neg (by simp [c]), dropK_pos (congrArg Sum.inr c)]
      exact r.drop
    · rw [if_pos (by simp [c]), dropK_neg (inr_ne c)]
      exact .cons h t r.drop
/-- a tuple of triples (name, kind, value) -/
inductive TrpR (H : Hp) : List V → List Sl → Prop
  | nil : TrpR H [] []
  | cons {x k : Str} {t : Addr} {v : V} {d : PyData} {vs : List V} {sl : List Sl} (h : H t = some (.tup [.str x, .str k, v])) (tr : Tr H v d) (r : TrpR H vs sl) : TrpR H (.ref t :: vs) (⟨x, k, d⟩ :: sl)
theorem TrpR.keep {H H' : Hp} (k : TK H H') : ∀ {vs : List V} {sl : List Sl}, TrpR H vs sl → TrpR H' vs sl
  | _, _, .nil => .nil
  | _, _, .cons h t r => .cons (k _ _ h) (t.keep k) (r.keep k)
theorem TrpR.len {H : Hp} : ∀ {vs : List V} {sl : List Sl}, TrpR H vs sl → vs.length = sl.length
  | _, _, .nil => rfl
  | _, _, .cons _ _ r => congrArg Nat.succ r.len
theorem TrpR.at_ {H : Hp} : ∀ {vs : List V} {sl : List Sl} (i : Nat) {x : V}, TrpR H vs sl → vs[i]? = some x → ∃ s t v, sl[i]? = some s ∧ x = .ref t ∧ H t = some (.tup [.str s.name, .str s.kind, v]) ∧ Tr H v s.val
  | _, _, _, _, .nil, e => by simp at e
  | _, _, 0, _, .cons h t r, e => by
    cases e
    exact ⟨_, _, _, rfl, rfl, h, t⟩
  | _, _, i + 1, _, .cons h t r, e => r.at_ i e
theorem TrpR.snoc {H : Hp} {x k : Str} {t : Addr} {v : V} {d : PyData} (h : H t = some (.tup [.str x, .str k, v])) (tr : Tr H v d) : ∀ {vs : List V} {sl : List Sl}, TrpR H vs sl → TrpR H (vs ++ [.ref t]) (sl ++ [⟨x, k, d⟩])
  | _, _, .nil => .cons h tr .nil
  | _, _, .cons h1 t1 r => .cons h1 t1 (r.snoc h tr)
def mkS (ts : List Sl) : List Sl := ts.foldl putS []
theorem mkS_snoc (ts : List Sl) (n : Sl) : mkS (ts ++ [n]) = putS (mkS ts) n := by
  unfold mkS
  rw [List.foldl_append]
  rfl
/-! ### entries -/
structure En where
  id : Nat
  at_ : Addr
  sl : List Sl
def tabK (tab : List En) : List (Key × V) := tab.map fun e => (Sum.inl (e.id : Int), V.ref e.at_)
abbrev OC (K : PySem.W.Frag) : Addr := He.ga K ("Objects" : Str)
def obF (tb : Addr) (n : Int) : List (Str × V) := [("table", .ref tb), ("next_id", .int n)]
theorem neTN : ¬ (("table" : Str) = "next_id") := by decide +kernel
section
variable {tb : Addr} {i j : Int}
theorem obF_t : (obF tb i).lookup ("table" : Str) = some (.ref tb) := lk_eq
theorem obF_n : (obF tb i).lookup ("next_id" : Str) = some (.int i) := by
  unfold obF
  rw [lk_ne (fun e => neTN e.symm), lk_eq]
theorem obF_no {m : Str} (h1 : ¬ m = "table") (h2 : ¬ m = "next_id") : (obF tb i).lookup m = none := by
  unfold obF
  rw [lk_ne h1, lk_ne h2]
  rfl
theorem obF_put : putF ("next_id" : Str) (.int j) (obF tb i) = obF tb j := by
  unfold obF
  rw [pf_ne neTN, pf_eq]
theorem obF_init : putF ("next_id" : Str) (.int i) (putF ("table" : Str) (.ref tb) []) = obF tb i := by
  rw [pf_nil, pf_ne neTN, pf_nil]
  rfl
end
structure ObC (K : PySem.W.Frag) : Prop where
  cl : Cls K (OC K)
  nt : NoAttr K (OC K) "table"
  nn : NoAttr K (OC K) "next_id"
/-- an Objects at p, its table at tb, its entries tab, the next id nx -/
structure Ob (K : PySem.W.Frag) (H : Hp) (p dx tb : Addr) (tab : List En) (nx : Nat) : Prop where
  ins : H p = some (.ins (OC K) dx (obF tb (nx : Int)))
  tbl : H tb = some (.dK (tabK tab))
  ent : ∀ e ∈ tab, ∃ kvs, H e.at_ = some (.dK kvs) ∧ SlR H kvs e.sl
  nda : (tab.map (·.at_)).Nodup
  tbn : ∀ e ∈ tab, e.at_ ≠ tb
  ord : tab.Pairwise fun a b => a.id < b.id
  lt : ∀ e ∈ tab, e.id < nx
  nds : ∀ e ∈ tab, NdS e.sl
  val : ∀ e ∈ tab, ∀ s ∈ e.sl, ValOk s.val
/-- what stays while an Objects is changed -/
def KO (p tb : Addr) (tab : List En) (H H' : Hp) : Prop := ∀ b o, b ≠ p → b ≠ tb → (∀ e ∈ tab, b ≠ e.at_) → H b = some o → H' b = some o
theorem KO.refl (p tb : Addr) (tab : List En) (H : Hp) : KO p tb tab H H := fun _ _ _ _ _ h => h
theorem KO.of_same {p tb : Addr} {tab : List En} {H H' : Hp} (s : Same H H') : KO p tb tab H H' := fun b o _ _ _ h => s b o h
section
variable {K : PySem.W.Frag} {H H' : Hp} {p dx tb : Addr} {tab : List En} {nx : Nat}
theorem Ob.tk (h : Ob K H p dx tb tab nx) (k : KO p tb tab H H') : TK H H' := fun a xs e => k a _ (ne_of e h.ins (by intro z; cases z)) (ne_of e h.tbl (by intro z; cases z)) (fun n hn => by
  obtain ⟨kvs, e2, _⟩ := h.ent n hn
  exact ne_of e e2 (by intro z; cases z)) e
theorem Ob.same (h : Ob K H p dx tb tab nx) (s : Same H H') : Ob K H' p dx tb tab nx := ⟨s _ _ h.ins, s _ _ h.tbl, fun e he => by
  obtain ⟨kvs, e2, r⟩ := h.ent e he
  exact ⟨kvs, s _ _ e2, r.keep fun a xs z => s a _ z⟩, h.nda, h.tbn, h.ord, h.lt, h.nds, h.val⟩
/-- what else changes: nothing of it -/
theorem Ob.keep (h : Ob K H p dx tb tab nx) (hp : H' p = H p) (ht : H' tb = H tb) (he : ∀ e ∈ tab, H' e.at_ = H e.at_) (k : TK H H') : Ob K H' p dx tb tab nx := ⟨hp.trans h.ins, ht.trans h.tbl, fun e hm => by
  obtain ⟨kvs, e2, r⟩ := h.ent e hm
  exact ⟨kvs, (he e hm).trans e2, r.keep k⟩, h.nda, h.tbn, h.ord, h.lt, h.nds, h.val⟩
theorem tab_get : ∀ {tab : List En} {e : En}, tab.Pairwise (fun a b => a.id < b.id) → e ∈ tab → valV (tabK tab) (Sum.inl (e.id : Int) : Key) = some (.ref e.at_)
  | [], _, _, h => by cases h
  | t :: r, e, hp, h => by
    obtain ⟨h1, h2⟩ := List.pairwise_cons.mp hp
    rcases List.mem_cons.mp h with rfl | h
    · exact valV_pos rfl
    · have := h1 e h
      have n : ¬ ((Sum.inl (t.id : Int) : Key) = Sum.inl (e.id : Int)) := fun z => by
        have := Sum.inl.inj z
        omega
      show valV ((Sum.inl (t.id : Int), V.ref t.at_) :: tabK r) _ = _
      rw [valV_neg n]
      exact tab_get h2 h
theorem tab_none {i : Int} : ∀ {tab : List En}, (∀ e ∈ tab, (e.id : Int) ≠ i) → valV (tabK tab) (Sum.inl i : Key) = none
  | [], _ => rfl
  | t :: r, h => by
    have n : ¬ ((Sum.inl (t.id : Int) : Key) = Sum.inl i) := fun z => h t List.mem_cons_self (Sum.inl.inj z)
    show valV ((Sum.inl (t.id : Int), V.ref t.at_) :: tabK r) _ = _
    rw [valV_neg n]
    exact tab_none fun e he => h e (List.mem_cons_of_mem _ he)
theorem Ob.get (h : Ob K H p dx tb tab nx) {e : En} (he : e ∈ tab) : DGet H tb (.int (e.id : Int)) (some (.ref e.at_)) := .inl ⟨_, Sum.inl (e.id : Int), .inl h.tbl, rfl, (tab_get h.ord he).symm⟩
/-- entries of one place are one -/
theorem at_inj : ∀ {tab : List En} {a b : En}, (tab.map (·.at_)).Nodup → a ∈ tab → b ∈ tab → a.at_ = b.at_ → a = b
  | [], _, _, _, h, _, _ => by cases h
  | t :: r, a, b, nd, ha, hb, e => by
    obtain ⟨n1, n2⟩ := List.nodup_cons.mp nd
    rcases List.mem_cons.mp ha with ea | ha'
    · rcases List.mem_cons.mp hb with eb | hb'
      · rw [ea, eb]
      · subst ea
        exact absurd (List.mem_map.mpr ⟨b, hb', e.symm⟩) n1
    · rcases List.mem_cons.mp hb with eb | hb'
      · subst eb
        exact absurd (List.mem_map.mpr ⟨a, ha', e⟩) n1
      · exact at_inj n2 ha' hb' e
/-- an entry's slots are others now -/
def setE (tab : List En) (i : Nat) (sl : List Sl) : List En := tab.map fun e => if e.id = i then ⟨e.id, e.at_, sl⟩ else e
theorem setE_at (tab : List En) (i : Nat) (sl : List Sl) : (setE tab i sl).map (·.at_) = tab.map (·.at_) := by
  unfold setE
  rw [List.map_map]
  refine List.map_congr_left fun e _ => ?_
  show (if e.id = i then (⟨e.id, e.at_, sl⟩ : En) else e).at_ = e.at_
  split <;> rfl
theorem setE_id (tab : List En) (i : Nat) (sl : List Sl) : (setE tab i sl).map (·.id) = tab.map (·.id) := by
  unfold setE
  rw [List.map_map]
  refine List.map_congr_left fun e _ => ?_
  show (if e.id = i then (⟨e.id, e.at_, sl⟩ : En) else e).id = e.id
  split <;> rfl
theorem setE_K (tab : List En) (i : Nat) (sl : List Sl) : tabK (setE tab i sl) = tabK tab := by
  unfold setE tabK
  rw [List.map_map]
  refine List.map_congr_left fun e _ => ?_
  show ((Sum.inl (((if e.id = i then (⟨e.id, e.at_, sl⟩ : En) else e).id : Nat) : Int) : Key), V.ref (if e.id = i then (⟨e.id, e.at_, sl⟩ : En) else e).at_) = _
  split <;> rfl
theorem setE_mem {tab : List En} {i : Nat} {sl : List Sl} {e : En} (h : e ∈ setE tab i sl) : ∃ e0 ∈ tab, e = (if e0.id = i then ⟨e0.id, e0.at_, sl⟩ else e0) := by
  obtain ⟨e0, h0, h1⟩ := List.mem_map.mp h
  exact ⟨e0, h0, h1.symm⟩
theorem pw_ids {tab tab' : List En} (h : tab'.map (·.id) = tab.map (·.id)) (o : tab.Pairwise fun a b => a.id < b.id) : tab'.Pairwise fun a b => a.id < b.id := by
  have a : (tab.map (·.id)).Pairwise (· < ·) := List.pairwise_map.mpr o
  rw [← h] at a
  exact List.pairwise_map.mp a
theorem id_inj {tab : List En} (o : tab.Pairwise fun a b => a.id < b.id) {a b : En} (ha : a ∈ tab) (hb : b ∈ tab) (e : a.id = b.id) : a = b := by
  induction tab with
  | nil => cases ha
  | cons t r ih =>
    obtain ⟨h1, h2⟩ := List.pairwise_cons.mp o
    rcases List.mem_cons.mp ha with ea | ha'
    · rcases List.mem_cons.mp hb with eb | hb'
      · rw [ea, eb]
      · subst ea
        have := h1 b hb'
        omega
    · rcases List.mem_cons.mp hb with eb | hb'
      · subst eb
        have := h1 a ha'
        omega
      · exact ih h2 ha' hb'
/-- an entry's dict is written anew -/
theorem Ob.set (h : Ob K H p dx tb tab nx) {e : En} (he : e ∈ tab) {kvs : List (Key × V)} {sl : List Sl} (r : SlR H kvs sl) (nd : NdS sl) (vo : ∀ s ∈ sl, ValOk s.val) : Ob K (upd H e.at_ (.dK kvs)) p dx tb (setE tab e.id sl) nx := by
  obtain ⟨kv0, h0, r0⟩ := h.ent e he
  have tk : TK H (upd H e.at_ (.dK kvs)) := fun a xs z => by
    rw [upd_ne (ne_of z h0 (by intro z; cases z))]
    exact z
  refine ⟨?_, ?_, fun e1 h1 => ?_, by rw [setE_at]; exact h.nda, fun e1 h1 => ?_, pw_ids (setE_id tab e.id sl) h.ord, fun e1 h1 => ?_, fun e1 h1 => ?_, fun e1 h1 => ?_⟩
  · rw [upd_ne (ne_of h.ins h0 (by intro z; cases z))]
    exact h.ins
  · rw [upd_ne (Ne.symm (h.tbn e he)), setE_K]
    exact h.tbl
  · obtain ⟨e0, m0, rfl⟩ := setE_mem h1
    by_cases c : e0.id = e.id
    · rw [if_pos c]
      obtain rfl := id_inj h.ord m0 he c
      exact ⟨kvs, upd_same, r.keep tk⟩
    · rw [if_neg c]
      obtain ⟨kv1, g1, g2⟩ := h.ent e0 m0
      refine ⟨kv1, ?_, g2.keep tk⟩
      rw [upd_ne fun z => c (congrArg (·.id) (at_inj h.nda m0 he z))]
      exact g1
  · obtain ⟨e0, m0, rfl⟩ := setE_mem h1
    split
    · exact h.tbn e0 m0
    · exact h.tbn e0 m0
  · obtain ⟨e0, m0, rfl⟩ := setE_mem h1
    split
    · exact h.lt e0 m0
    · exact h.lt e0 m0
  · obtain ⟨e0, m0, rfl⟩ := setE_mem h1
    split
    · exact nd
    · exact h.nds e0 m0
  · obtain ⟨e0, m0, rfl⟩ := setE_mem h1
    split
    · exact vo
    · exact h.val e0 m0
theorem KO.set {e : En} (he : e ∈ tab) {o : HO} (k : KO p tb tab H H') : KO p tb tab H (upd H' e.at_ o) := fun b u n1 n2 n3 z => by
  rw [upd_ne (n3 e he)]
  exact k b u n1 n2 n3 z
theorem KO.new {a : Addr} {o : HO} (n : H a = none) (k : KO p tb tab H H') : KO p tb tab H (upd H' a o) := fun b u n1 n2 n3 z => by
  rw [upd_ne (ne_of_none z n)]
  exact k b u n1 n2 n3 z
theorem KO.trans {H2 : Hp} (a : KO p tb tab H H') (b : KO p tb tab H' H2) : KO p tb tab H H2 := fun c o n1 n2 n3 z => b c o n1 n2 n3 (a c o n1 n2 n3 z)
/-- free now, free before -/
theorem KO.free {a : Addr} (k : KO p tb tab H H') (h : Ob K H' p dx tb tab nx) (n : H' a = none) : H a = none := by
  cases z : H a with
  | none => rfl
  | some o =>
    have n1 : a ≠ p := fun e => by
      rw [e, h.ins] at n
      cases n
    have n2 : a ≠ tb := fun e => by
      rw [e, h.tbl] at n
      cases n
    have n3 : ∀ e ∈ tab, a ≠ e.at_ := fun e he q => by
      obtain ⟨kvs, g, _⟩ := h.ent e he
      rw [q, g] at n
      cases n
    rw [k a o n1 n2 n3 z] at n
    cases n
end
end Rm

/-! O3: the defs of objects and search: promises, readings (by gen.py), runs. -/
namespace Rm
open PySem PySem.Spec PyProof.Rows L2
/-! ### searches as plain functions -/
def entOf (tab : List En) (i : Int) : Option En := tab.find? fun e => decide ((e.id : Int) = i)
def slotOf (tab : List En) (x : Str) (i : Int) : Option Sl := (entOf tab i).bind fun e => getS e.sl x
def hasS (tab : List En) (x : Str) (i : Int) : Bool := (slotOf tab x i).isSome
def parI (tab : List En) (i : Int) : List Int := match entOf tab i with
  | some e => parS e.sl
  | none => []
def srF (tab : List En) (x : Str) : Nat → List Int → List Int → List Int → List Int × List Int
  | 0, L, A, _ => (L, A)
  | _ + 1, L, A, [] => (L, A)
  | m + 1, L, A, i :: w => if i ∈ L then srF tab x m L A w else if hasS tab x i = true then srF tab x m (L ++ [i]) (A ++ [i]) w else srF tab x m (L ++ [i]) A (parI tab i ++ w)
def bdS (tab : List En) : Nat := (tab.map fun e => (parS e.sl).length).sum
def fuel (tab : List En) (st : List Int) : Nat := tab.length * (bdS tab + 1) + st.length + 1
def srch (tab : List En) (x : Str) (st : List Int) : List Int × List Int := srF tab x (fuel tab st) [] [] st
def outD (tab : List En) (x : Str) : List Int → PyData
  | [] => .tuple [.str ("none" : Str)]
  | [h] => match slotOf tab x h with
    | some s => .tuple [.str ("found" : Str), .int h, .str s.kind, s.val]
    | none => .none
  | _ => .tuple [.str ("several" : Str)]
def resD (tab : List En) (x : Str) (r : List Int × List Int) : PyData := .tuple [outD tab x r.2, .tuple (r.1.map PyData.int)]
def isId (tab : List En) (i : Int) : Prop := ∃ e ∈ tab, (e.id : Int) = i
/-- what is referred to is there -/
def Closed (tab : List En) : Prop := ∀ e ∈ tab, ∀ i ∈ parS e.sl, isId tab i
def lobbyS : Sl := ⟨("lobby" : Str), ("const" : Str), .tuple [.str ("ref" : Str), .int 0]⟩
/-! ### promises -/
def sp_Objects_slot (K : PySem.W.Frag) : Sp := fun vs H Q _ => ∃ (p dx tb : Addr) (tab : List En) (nx : Nat) (e : En) (x : Str), vs = [.ref p, .int (e.id : Int), .str x] ∧ Ob K H p dx tb tab nx ∧ e ∈ tab ∧
  (getS e.sl x = none → Q .non H) ∧ ∀ s q v, getS e.sl x = some s → H q = some (.tup [.str s.kind, v]) → Tr H v s.val → Q (.ref q) H
def sp_Objects_put (K : PySem.W.Frag) : Sp := fun vs H Q _ => ∃ (p dx tb : Addr) (tab : List En) (nx : Nat) (e : En) (x k : Str) (v : V) (d : PyData), vs = [.ref p, .int (e.id : Int), .str x, .str k, v] ∧ Ob K H p dx tb tab nx ∧ e ∈ tab ∧ Tr H v d ∧ ValOk d ∧ e.sl.length ≤ 1000000 ∧
  ∀ H', KO p tb tab H H' → Ob K H' p dx tb (setE tab e.id (putS e.sl ⟨x, k, d⟩)) nx → Q .non H'
def sp_Objects_drop (K : PySem.W.Frag) : Sp := fun vs H Q _ => ∃ (p dx tb : Addr) (tab : List En) (nx : Nat) (e : En) (x : Str), vs = [.ref p, .int (e.id : Int), .str x] ∧ Ob K H p dx tb tab nx ∧ e ∈ tab ∧
  (getS e.sl x = none → Q (.bl false) H) ∧ (getS e.sl x ≠ none → ∀ H', KO p tb tab H H' → Ob K H' p dx tb (setE tab e.id (dropS e.sl x)) nx → Q (.bl true) H')
def sp_Objects_assign (K : PySem.W.Frag) : Sp := fun vs H Q _ => ∃ (p dx tb : Addr) (tab : List En) (nx : Nat) (e : En) (x : Str) (v : V) (d : PyData) (s : Sl), vs = [.ref p, .int (e.id : Int), .str x, v] ∧ Ob K H p dx tb tab nx ∧ e ∈ tab ∧ Tr H v d ∧ ValOk d ∧ e.sl.length ≤ 1000000 ∧ getS e.sl x = some s ∧
  ∀ H', KO p tb tab H H' → Ob K H' p dx tb (setE tab e.id (putS e.sl ⟨x, s.kind, d⟩)) nx → Q .non H'
def sp_Objects_parents (K : PySem.W.Frag) : Sp := fun vs H Q _ => ∃ (p dx tb : Addr) (tab : List En) (nx : Nat) (e : En), vs = [.ref p, .int (e.id : Int)] ∧ Ob K H p dx tb tab nx ∧ e ∈ tab ∧ e.sl.length ≤ 1000000 ∧
  ∀ q H', Same H H' → H q = none → H' q = some (.tup ((parS e.sl).map V.int)) → Q (.ref q) H'
def sp_Objects_make (K : PySem.W.Frag) : Sp := fun vs H Q _ => ∃ (p dx tb : Addr) (tab : List En) (nx : Nat) (a : Addr) (us : List V) (ts : List Sl), vs = [.ref p, .ref a] ∧ Ob K H p dx tb tab nx ∧ H a = some (.tup us) ∧ TrpR H us ts ∧ (∀ s ∈ ts, ValOk s.val) ∧ tab.length ≤ 1000000 ∧ ts.length ≤ 1000000 ∧
  ∀ o H', H o = none → KO p tb tab H H' → Ob K H' p dx tb (tab ++ [⟨nx, o, mkS ts⟩]) (nx + 1) → Q (.int (nx : Int)) H'
def sp_Objects_init (K : PySem.W.Frag) : Sp := fun vs H Q _ => ∃ (p dx : Addr), vs = [.ref p] ∧ H p = some (.ins (OC K) dx []) ∧
  ∀ tb o H', (∀ b u, b ≠ p → H b = some u → H' b = some u) → H tb = none → H o = none → Ob K H' p dx tb [⟨0, o, [lobbyS]⟩] 1 → Q .non H'
def sp_outcome_of (K : PySem.W.Frag) : Sp := fun vs H Q _ => ∃ (p dx tb : Addr) (tab : List En) (nx : Nat) (a : Addr) (hs : List Int) (x : Str), vs = [.ref p, .ref a, .str x] ∧ Ob K H p dx tb tab nx ∧ H a = some (.lst (hs.map V.int)) ∧ (∀ h ∈ hs, hasS tab x h = true) ∧
  ∀ q H', Same H H' → Tr H' (.ref q) (outD tab x hs) → Q (.ref q) H'
def sp_search (K : PySem.W.Frag) : Sp := fun vs H Q _ => ∃ (p dx tb : Addr) (tab : List En) (nx : Nat) (a : Addr) (st : List Int) (x : Str), vs = [.ref p, .ref a, .str x] ∧ Ob K H p dx tb tab nx ∧ H a = some (.tup (st.map V.int)) ∧ (∀ i ∈ st, isId tab i) ∧ Closed tab ∧ (∀ e ∈ tab, e.sl.length ≤ 1000000) ∧ fuel tab st ≤ 10000000 ∧
  ∀ q H', Same H H' → Tr H' (.ref q) (resD tab x (srch tab x st)) → Q (.ref q) H'
/-! ### readings -/

def ns_Objects_slot : List Str := ["self", "object_id", "name"]
def t_Objects_slot (K : PySem.W.Frag) (E : XK) : TS :=
  (tRet (tDGet1 (tDGet (tFld K (tVar 0) ("table" : Str)) (tVar 1)) (tVar 2)))

def ns_Objects_put : List Str := ["self", "object_id", "name", "kind", "value"]
def t_Objects_put (K : PySem.W.Frag) (E : XK) : TS :=
  (sDPut (tDGet (tFld K (tVar 0) ("table" : Str)) (tVar 1)) (tVar 2) (tTup (tCons (tVar 3) (tCons (tVar 4) tNil))))

def ns_Objects_drop : List Str := ["self", "object_id", "name"]
def t_Objects_drop (K : PySem.W.Frag) (E : XK) : TS :=
  (tSeq (tIfS (tB (tDNotIn (tVar 2) (tDGet (tFld K (tVar 0) ("table" : Str)) (tVar 1))))
      (tRet (tC (.bl false)))
      tNext)
    (tSeq (sDDel (tDGet (tFld K (tVar 0) ("table" : Str)) (tVar 1)) (tVar 2))
    (tRet (tC (.bl true)))))

def ns_Objects_assign : List Str := ["self", "object_id", "name", "value", "kind", "_"]
def t_Objects_assign (K : PySem.W.Frag) (E : XK) : TS :=
  (tSeq (tAsg (tDGet (tDGet (tFld K (tVar 0) ("table" : Str)) (tVar 1)) (tVar 2)) (gTup K 2 (gCons (gName 4) (gCons (gName 5) gNil))))
    (sDPut (tDGet (tFld K (tVar 0) ("table" : Str)) (tVar 1)) (tVar 2) (tTup (tCons (tVar 4) (tCons (tVar 3) tNil)))))

def ns_Objects_parents : List Str := ["self", "object_id", "found", "kind", "value"]
def t_Objects_parents (K : PySem.W.Frag) (E : XK) : TS :=
  (tSeq (tAsg (tLst tNil) (gName 2))
    (tSeq (tLock (tFor (iVals (tDGet (tFld K (tVar 0) ("table" : Str)) (tVar 1))) (gTup K 2 (gCons (gName 3) (gCons (gName 4) gNil)))
      (tIfS (tAnd (tTest (tOp (rIn K false) (tVar 3) (tC (.ref (He.ga K ("PARENT_KINDS" : Str)))))) (tTest (tOp rEq (tOp (rIxT K) (tVar 4) (tC (.int 0))) (tC (.str ("ref" : Str))))))
      (tDrop (tBM K "list" rAppend (tVar 2) (tCons (tOp (rIxT K) (tVar 4) (tC (.int 1))) tNil)))
      tNext)))
    (tRet (tCB (rTupleOf K) (tCons (tVar 2) tNil)))))

def ns_Objects_make : List Str := ["self", "slots", "object_id", "name", "kind", "value"]
def t_Objects_make (K : PySem.W.Frag) (E : XK) : TS :=
  (tSeq (tAsg (tFld K (tVar 0) ("next_id" : Str)) (gName 2))
    (tSeq (sFldAug K (tVar 0) (tC (.int 1)) rAdd ("next_id" : Str))
    (tSeq (sDPut (tFld K (tVar 0) ("table" : Str)) (tVar 2) tDNewK)
    (tSeq (tFor (iTup K (tVar 1)) (gTup K 3 (gCons (gName 3) (gCons (gName 4) (gCons (gName 5) gNil))))
      (tDrop (tMeth (He.ga K ("Objects" : Str)) ("put" : Str) (sp_Objects_put K) [] E (tVar 0) (tCons (tVar 2) (tCons (tVar 3) (tCons (tVar 4) (tCons (tVar 5) tNil)))))))
    (tRet (tVar 2))))))

def ns_Objects_init : List Str := ["self"]
def t_Objects_init (K : PySem.W.Frag) (E : XK) : TS :=
  (tSeq (sFld K (tVar 0) tDNewK ("table" : Str))
    (tSeq (sFld K (tVar 0) (tC (.int 0)) ("next_id" : Str))
    (tDrop (tMeth (He.ga K ("Objects" : Str)) ("make" : Str) (sp_Objects_make K) [] E (tVar 0) (tCons (tTup (tCons (tTup (tCons (tC (.str ("lobby" : Str))) (tCons (tC (.str ("const" : Str))) (tCons (tTup (tCons (tC (.str ("ref" : Str))) (tCons (tC (.int 0)) tNil))) tNil)))) tNil)) tNil)))))

def ns_outcome_of : List Str := ["objects", "holders", "name", "kind", "value"]
def t_outcome_of (K : PySem.W.Frag) (E : XK) : TS :=
  (tSeq (tIfS (tTest (tOp rEq (tCB (rLen K) (tCons (tVar 1) tNil)) (tC (.int 0))))
      (tRet (tTup (tCons (tC (.str ("none" : Str))) tNil)))
      tNext)
    (tSeq (tIfS (tTest (tOp rGtI (tCB (rLen K) (tCons (tVar 1) tNil)) (tC (.int 1))))
      (tRet (tTup (tCons (tC (.str ("several" : Str))) tNil)))
      tNext)
    (tSeq (tAsg (tMeth (He.ga K ("Objects" : Str)) ("slot" : Str) (sp_Objects_slot K) [] E (tVar 0) (tCons (tOp (rIxL K) (tVar 1) (tC (.int 0))) (tCons (tVar 2) tNil))) (gTup K 2 (gCons (gName 3) (gCons (gName 4) gNil))))
    (tRet (tTup (tCons (tC (.str ("found" : Str))) (tCons (tOp (rIxL K) (tVar 1) (tC (.int 0))) (tCons (tVar 3) (tCons (tVar 4) tNil)))))))))

def ns_search : List Str := ["objects", "starts", "name", "looked", "holders", "waiting", "object_id"]
def t_search (K : PySem.W.Frag) (E : XK) : TS :=
  (tSeq (tAsg tDNewK (gName 3))
    (tSeq (tAsg (tLst tNil) (gName 4))
    (tSeq (tAsg (tCB (rListOf K) (tCons (tRevT K (tVar 1)) tNil)) (gName 5))
    (tSeq (tWhile (tTest (tOp rGtI (tCB (rLen K) (tCons (tVar 5) tNil)) (tC (.int 0))))
      (tSeq (tAsg (tBM0 K "list" rPop (tVar 5)) (gName 6))
    (tSeq (tIfS (tB (tDIn (tVar 6) (tVar 3)))
      tCont
      tNext)
    (tSeq (sDPut (tVar 3) (tVar 6) (tC (.bl true)))
    (tIfS (tTest (tOp rNotN (tMeth (He.ga K ("Objects" : Str)) ("slot" : Str) (sp_Objects_slot K) [] E (tVar 0) (tCons (tVar 6) (tCons (tVar 2) tNil))) (tC .non)))
      (tDrop (tBM K "list" rAppend (tVar 4) (tCons (tVar 6) tNil)))
      (tDrop (tBM K "list" (rExtendT K) (tVar 5) (tCons (tRevT K (tMeth (He.ga K ("Objects" : Str)) ("parents" : Str) (sp_Objects_parents K) [] E (tVar 0) (tCons (tVar 6) tNil))) tNil))))))))
    (tRet (tTup (tCons (tCall (sp_outcome_of K) [] E (tCons (tVar 0) (tCons (tVar 4) (tCons (tVar 2) tNil)))) (tCons (tCB rTupleD (tCons (tVar 3) tNil)) tNil))))))))

section
variable {K : PySem.W.Frag} {vs : List V} {H : Hp} {Q : VK} {E : XK}
theorem run_Objects_slot (S : ObC K) (h : sp_Objects_slot K vs H Q E) : t_Objects_slot K E (DQ Q) (start ns_Objects_slot vs) H := by
  obtain ⟨p, dx, tb, tab, nx, e, x, rfl, O, he, q1, q2⟩ := h
  obtain ⟨kvs, hk, r⟩ := O.ent e he
  refine ⟨_, rfl, p, _, dx, _, _, rfl, O.ins, S.cl, S.nt, obF_t, _, rfl, tb, _, rfl, O.get he, e.at_, rfl, .inl ⟨_, .inl hk⟩, _, rfl, _, DGet.k (k := Sum.inr x) hk, ?_⟩
  cases z : getS e.sl x with
  | none =>
    rw [r.none_ z]
    exact q1 z
  | some s =>
    obtain ⟨qa, v, e1, e2, e3⟩ := r.some_ z
    rw [e1]
    exact q2 s qa v z e2 e3
theorem run_Objects_put (S : ObC K) (h : sp_Objects_put K vs H Q E) : t_Objects_put K E (DQ Q) (start ns_Objects_put vs) H := by
  obtain ⟨p, dx, tb, tab, nx, e, x, k, v, d, rfl, O, he, tv, vo, hl, q⟩ := h
  refine ⟨_, rfl, _, rfl, (by show 2 ≤ sizeLine; decide), fun qa nqa => ?_⟩
  have s1 := same_upd (o := .tup [V.str k, v]) nqa
  have O1 := O.same s1
  obtain ⟨kvs, hk, r⟩ := O1.ent e he
  refine ⟨_, rfl, p, _, dx, _, _, rfl, O1.ins, S.cl, S.nt, obF_t, _, rfl, tb, _, rfl, O1.get he, _, rfl, e.at_, _, rfl, DPut.k (k := Sum.inr x) hk (Nat.lt_of_le_of_lt (by rw [r.len]; exact hl) (by decide)), ?_⟩
  have r2 := r.put (n := ⟨x, k, d⟩) upd_same (tv.keep fun a xs z => s1 a _ z) (O1.nds e he)
  refine q _ (KO.set he (KO.of_same s1)) (O1.set he r2 (putS_nd _ (O1.nds e he)) fun s hs => ?_)
  rcases putS_mem hs with hs | rfl
  · exact O1.val e he s hs
  · exact vo
theorem run_Objects_drop (S : ObC K) (h : sp_Objects_drop K vs H Q E) : t_Objects_drop K E (DQ Q) (start ns_Objects_drop vs) H := by
  obtain ⟨p, dx, tb, tab, nx, e, x, rfl, O, he, q1, q2⟩ := h
  obtain ⟨kvs, hk, r⟩ := O.ent e he
  refine ⟨_, rfl, _, rfl, p, _, dx, _, _, rfl, O.ins, S.cl, S.nt, obF_t, _, rfl, tb, _, rfl, O.get he, e.at_, _, rfl, DGet.k (k := Sum.inr x) hk, _, rfl, ?_⟩
  cases z : getS e.sl x with
  | none =>
    rw [r.none_ z]
    exact iteT (q1 z)
  | some s =>
    obtain ⟨qa, v, e1, e2, e3⟩ := r.some_ z
    rw [e1]
    refine iteF ?_
    refine ⟨_, rfl, p, _, dx, _, _, rfl, O.ins, S.cl, S.nt, obF_t, _, rfl, tb, _, rfl, O.get he, _, rfl, e.at_, kvs, Sum.inr x, rfl, hk, rfl, by rw [e1]; rfl, ?_⟩
    refine q2 (by rw [z]; intro y; cases y) _ (KO.set he (KO.refl p tb tab H)) (O.set he r.drop (dropS_nd x (O.nds e he)) fun s hs => O.val e he s (List.mem_filter.mp hs).1)
theorem run_Objects_assign (S : ObC K) (h : sp_Objects_assign K vs H Q E) : t_Objects_assign K E (DQ Q) (start ns_Objects_assign vs) H := by
  obtain ⟨p, dx, tb, tab, nx, e, x, v, d, s, rfl, O, he, tv, vo, hl, hs, q⟩ := h
  obtain ⟨kvs, hk, r⟩ := O.ent e he
  obtain ⟨qa, v0, e1, e2, e3⟩ := r.some_ hs
  have g : DGet H e.at_ (.str x) (some (.ref qa)) := .inl ⟨_, Sum.inr x, .inl hk, rfl, e1.symm⟩
  refine ⟨_, rfl, p, _, dx, _, _, rfl, O.ins, S.cl, S.nt, obF_t, _, rfl, tb, _, rfl, O.get he, _, rfl, e.at_, _, rfl, g, ?_⟩
  refine ⟨qa, _, rfl, SqT.of e2, rfl, _, _, rfl, _, _, rfl, rfl, ?_⟩
  refine ⟨_, rfl, _, rfl, (by show 2 ≤ sizeLine; decide), fun qb nqb => ?_⟩
  have s1 := same_upd (o := .tup [V.str s.kind, v]) nqb
  have O1 := O.same s1
  refine ⟨_, rfl, p, _, dx, _, _, rfl, O1.ins, S.cl, S.nt, obF_t, _, rfl, tb, _, rfl, O1.get he, _, rfl, e.at_, _, rfl, DPut.k (k := Sum.inr x) (s1 _ _ hk) (Nat.lt_of_le_of_lt (by rw [r.len]; exact hl) (by decide)), ?_⟩
  have r2 := (r.keep (H' := upd H qb (.tup [V.str s.kind, v])) fun a xs z => s1 a _ z).put (n := ⟨x, s.kind, d⟩) upd_same (tv.keep fun a xs z => s1 a _ z) (O1.nds e he)
  refine q _ (KO.set he (KO.of_same s1)) (O1.set he r2 (putS_nd _ (O1.nds e he)) fun t ht => ?_)
  rcases putS_mem ht with ht | rfl
  · exact O1.val e he t ht
  · exact vo
theorem SlR.at_ {H : Hp} : ∀ {kvs : List (Key × V)} {sl : List Sl} (i : Nat) {k : Key} {x : V}, SlR H kvs sl → kvs[i]? = some (k, x) → ∃ s q v, sl[i]? = some s ∧ x = .ref q ∧ H q = some (.tup [.str s.kind, v]) ∧ Tr H v s.val
  | _, _, _, _, _, .nil, e => by simp at e
  | _, _, 0, _, _, .cons h t r, e => by
    cases e
    exact ⟨_, _, _, rfl, rfl, h, t⟩
  | _, _, i + 1, _, _, .cons h t r, e => r.at_ i e
theorem parS_snoc (a : List Sl) (s : Sl) : parS (a ++ [s]) = parS a ++ (parOf s).toList := by
  unfold parS
  rw [List.filterMap_append]
  cases z : parOf s with
  | none => rw [List.filterMap_cons_none z]; rfl
  | some i => rw [List.filterMap_cons_some z]; rfl
theorem parS_len (a : List Sl) : (parS a).length ≤ a.length := List.length_filterMap_le _ _
theorem in_kinds (k : Str) : inV (.str k) (["parent", "varparent"].map mS) = isPar k := by
  have e : ["parent", "varparent"].map mS = [("parent" : Str), ("varparent" : Str)].map V.str := rfl
  rw [e, in_strs]
  unfold isPar
  rw [Bool.eq_iff_iff]
  simp
theorem run_Objects_parents (S : ObC K) (hP : ∀ H, SqT K H (He.ga K ("PARENT_KINDS" : Str)) (["parent", "varparent"].map mS)) (h : sp_Objects_parents K vs H Q E) : t_Objects_parents K E (DQ Q) (start ns_Objects_parents vs) H := by
  obtain ⟨p, dx, tb, tab, nx, e, rfl, O, he, hl, q⟩ := h
  refine ⟨(by show 0 ≤ sizeLine; decide), fun f nf => ?_⟩
  have s1 := same_upd (o := .lst []) nf
  have O1 := O.same s1
  obtain ⟨kvs, hk, r⟩ := O1.ent e he
  refine ⟨e.at_, .dK kvs, hk, trivial, fun od => ?_⟩
  have np : p ≠ e.at_ := ne_of O1.ins hk (by intro z; cases z)
  have nt : tb ≠ e.at_ := Ne.symm (O1.tbn e he)
  have nfe : f ≠ e.at_ := ne_of upd_same hk (by intro z; cases z)
  have hp : (upd (upd H f (.lst [])) e.at_ (.frz od (.dK kvs))) p = _ := (upd_ne np).trans O1.ins
  have ht : (upd (upd H f (.lst [])) e.at_ (.frz od (.dK kvs))) tb = _ := (upd_ne nt).trans O1.tbl
  have hg : DGet (upd (upd H f (.lst [])) e.at_ (.frz od (.dK kvs))) tb (.int (e.id : Int)) (some (.ref e.at_)) := .inl ⟨_, Sum.inl (e.id : Int), .inl ht, rfl, (tab_get O.ord he).symm⟩
  refine ⟨_, rfl, p, _, dx, _, _, rfl, hp, S.cl, S.nt, obF_t, _, rfl, tb, _, rfl, hg, e.at_, od, kvs, rfl, upd_same, ?_⟩
  have lk : kvs.length = e.sl.length := r.len
  refine for_vals (fun i σ G => (∃ v3 v4 : Option V, σ = [some (.ref p), some (.int (e.id : Int)), some (.ref f), v3, v4]) ∧ G f = some (.lst ((parS (e.sl.take i)).map V.int)) ∧ ∀ b, b ≠ f → G b = (upd (upd H f (.lst [])) e.at_ (.frz od (.dK kvs))) b)
    ⟨⟨none, none, rfl⟩, (upd_ne nfe).trans upd_same, fun _ _ => rfl⟩ (fun i σ G z => (z.2.2 _ (Ne.symm nfe)).trans upd_same) ?_ ?_
  · rintro i k x σ G hx ⟨⟨v3, v4, rfl⟩, gf, gb⟩
    obtain ⟨s, qa, v, es, rfl, hq, tv⟩ := r.at_ i hx
    have hi : i < e.sl.length := (List.getElem?_eq_some_iff.mp es).1
    have tup : ∀ a xs, (upd H f (.lst [])) a = some (.tup xs) → G a = some (.tup xs) := fun a xs z => by
      rw [gb a (ne_of z upd_same (by intro z; cases z)), upd_ne (ne_of z hk (by intro z; cases z))]
      exact z
    have et : e.sl.take (i + 1) = e.sl.take i ++ [s] := by rw [List.take_add_one, es]; rfl
    refine ⟨qa, _, rfl, SqT.of (tup _ _ hq), rfl, _, _, rfl, _, _, rfl, rfl, ?_⟩
    refine ⟨_, rfl, _, _, rfl, .inr (hP G), rfl, rfl, _, rfl, ?_⟩
    show (if inV (.str s.kind) (["parent", "varparent"].map mS) = true then _ else _)
    rw [in_kinds]
    have vo := O.val e he s (List.mem_of_getElem? es)
    obtain ⟨w, rs, ev, hw⟩ := vo
    have keep : parOf s = none → G f = some (.lst ((parS (e.sl.take (i + 1))).map V.int)) := fun z => by
      rw [et, parS_snoc, z, gf]
      simp
    refine ite2 (fun c => ?_) (fun c => ?_)
    · rw [ev] at tv
      cases tv with
      | @tup a xs ds ha rt =>
        cases rt with
        | @cons v0 vs0 d0 ds0 t0 rt =>
          cases t0
          refine ⟨_, rfl, a, _, _, _, rfl, rfl, SqT.of (tup _ _ ha), atI_nat (j := 0) rfl, rfl, _, rfl, ?_⟩
          refine ite2 (fun cw => ?_) (fun cw => ?_)
          · have cw : w = ("ref" : Str) := V.str.inj (of_decide_eq_true cw)
            obtain ⟨j, r', er⟩ := hw cw
            subst er
            cases rt with
            | @cons v1 vs1 d1 ds1 t1 rt =>
              cases t1
              have ep : parOf s = some j := by
                unfold parOf
                rw [if_pos c, ev]
                show (if w = ("ref" : Str) then some j else none) = _
                rw [if_pos cw]
              refine ⟨_, rfl, .inl ⟨rfl, _, SqL.of gf⟩, _, rfl, a, _, _, _, rfl, rfl, SqT.of (tup _ _ ha), atI_nat (j := 1) rfl, f, _, _, rfl, rfl, gf, ?_, ?_⟩
              · rw [List.length_map]
                refine Nat.lt_of_le_of_lt (parS_len _) (Nat.lt_of_le_of_lt (List.length_take_le _ _) (Nat.lt_of_lt_of_le hi ?_))
                exact Nat.le_trans hl (by decide)
              · refine ⟨⟨_, _, rfl⟩, ?_, fun b n => (upd_ne n).trans (gb b n)⟩
                rw [upd_same, et, parS_snoc, ep, List.map_append]
                rfl
          · have cw : ¬ w = ("ref" : Str) := fun z => cw (decide_eq_true (by rw [z]))
            have ep : parOf s = none := by
              unfold parOf
              rw [if_pos c, ev]
              unfold refOf
              split
              · rename_i w2 j2 r2 e2
                injection e2 with e2
                injection e2 with e2 e3
                injection e2 with e2
                subst e2
                rw [if_neg cw]
              · rfl
            exact ⟨⟨_, _, rfl⟩, keep ep, gb⟩
    · have ep : parOf s = none := by
        unfold parOf
        rw [if_neg c]
      exact ⟨⟨_, _, rfl⟩, keep ep, gb⟩
  · rintro σ G ⟨⟨v3, v4, rfl⟩, gf, gb⟩
    rw [lk, List.take_length] at gf
    refine ⟨(gb _ (Ne.symm nfe)).trans upd_same, ?_⟩
    have gf2 : (upd G e.at_ (.dK kvs)) f = some (.lst ((parS e.sl).map V.int)) := (upd_ne nfe).trans gf
    have sm : Same H (upd G e.at_ (.dK kvs)) := fun b u z => by
      have z1 := s1 b u z
      by_cases c : b = e.at_
      · rw [c] at z1 ⊢
        rw [upd_same, ← hk, z1]
      · rw [upd_ne c, gb b (ne_of_none z nf), upd_ne c]
        exact z1
    refine ⟨_, rfl, f, _, rfl, .inl ⟨SqL.of gf2, fun l nl => ?_⟩⟩
    exact q l _ (sm.trans (same_upd nl)) (Same.free sm nl) upd_same
theorem run_Objects_make (S : ObC K) (h : sp_Objects_make K vs H Q E) : t_Objects_make K E (DQ Q) (start ns_Objects_make vs) H := by
  obtain ⟨p, dx, tb, tab, nx, a, us, ts, rfl, O, ha, tr, vo, ht, hts, q⟩ := h
  refine ⟨_, rfl, p, _, dx, _, _, rfl, O.ins, S.cl, S.nn, obF_n, ?_⟩
  refine ⟨_, rfl, p, _, dx, _, _, rfl, O.ins, S.cl, S.nn, obF_n, _, _, rfl, rfl, dx, _, O.ins, (by show 2 < 1000; decide), ?_⟩
  rw [obF_put]
  have ntp : tb ≠ p := ne_of O.tbl O.ins (by intro z; cases z)
  intro o no
  have np : p ≠ o := ne_of_none upd_same no
  have no0 : H o = none := by
    rw [upd_ne (Ne.symm np)] at no
    exact no
  have nto : tb ≠ o := ne_of_none O.tbl no0
  refine ⟨_, rfl, p, _, dx, _, _, rfl, (upd_ne np).trans upd_same, S.cl, S.nt, obF_t, _, rfl, tb, _, rfl, DPut.k (k := Sum.inl (nx : Int)) ((upd_ne nto).trans ((upd_ne ntp).trans O.tbl)) (Nat.lt_of_le_of_lt (by unfold tabK; rw [List.length_map]; exact ht) (by decide)), ?_⟩
  have nn : ∀ e ∈ tab, (e.id : Int) ≠ (nx : Int) := fun e he z => by
    have := O.lt e he
    omega
  rw [putK_new _ (tab_none nn)]
  have et : tabK tab ++ [(Sum.inl (nx : Int), V.ref o)] = tabK (tab ++ [⟨nx, o, []⟩]) := by
    unfold tabK
    rw [List.map_append]
    rfl
  rw [et]
  have ko : KO p tb tab H (upd (upd (upd H p (.ins (OC K) dx (obF tb ((nx : Int) + 1)))) o (.dK [])) tb (.dK (tabK (tab ++ [⟨nx, o, []⟩])))) := fun b u n1 n2 n3 z => by
    rw [upd_ne n2, upd_ne (ne_of_none z no0), upd_ne n1]
    exact z
  have neo : ∀ e ∈ tab, e.at_ ≠ o := fun e he => by
    obtain ⟨kvs, g, _⟩ := O.ent e he
    exact ne_of_none g no0
  have tk := O.tk ko
  have O1 : Ob K (upd (upd (upd H p (.ins (OC K) dx (obF tb ((nx : Int) + 1)))) o (.dK [])) tb (.dK (tabK (tab ++ [⟨nx, o, []⟩])))) p dx tb (tab ++ [⟨nx, o, mkS (ts.take 0)⟩]) (nx + 1) := by
    refine ⟨?_, upd_same, fun e he => ?_, ?_, fun e he => ?_, ?_, fun e he => ?_, fun e he => ?_, fun e he => ?_⟩
    · rw [upd_ne (Ne.symm ntp), upd_ne np, upd_same]
      rfl
    · rcases List.mem_append.mp he with he | he
      · obtain ⟨kvs, g, r⟩ := O.ent e he
        refine ⟨kvs, ?_, r.keep tk⟩
        rw [upd_ne (O.tbn e he), upd_ne (neo e he), upd_ne (ne_of g O.ins (by intro z; cases z))]
        exact g
      · rw [List.mem_singleton.mp he]
        exact ⟨[], by rw [upd_ne (Ne.symm nto), upd_same], .nil⟩
    · rw [List.map_append]
      refine List.nodup_append.mpr ⟨O.nda, by simp, fun x hx y hy => ?_⟩
      obtain ⟨e, he, rfl⟩ := List.mem_map.mp hx
      rw [List.mem_singleton.mp hy]
      exact neo e he
    · rcases List.mem_append.mp he with he | he
      · exact O.tbn e he
      · rw [List.mem_singleton.mp he]
        exact Ne.symm nto
    · refine List.pairwise_append.mpr ⟨O.ord, List.pairwise_singleton _ _, fun x hx y hy => ?_⟩
      rw [List.mem_singleton.mp hy]
      exact O.lt x hx
    · rcases List.mem_append.mp he with he | he
      · exact Nat.lt_succ_of_lt (O.lt e he)
      · rw [List.mem_singleton.mp he]
        exact Nat.lt_succ_self _
    · rcases List.mem_append.mp he with he | he
      · exact O.nds e he
      · rw [List.mem_singleton.mp he]
        exact List.nodup_nil
    · rcases List.mem_append.mp he with he | he
      · exact O.val e he
      · rw [List.mem_singleton.mp he]
        exact fun s hs => by cases hs
  generalize (upd (upd (upd H p (.ins (OC K) dx (obF tb ((nx : Int) + 1)))) o (.dK [])) tb (.dK (tabK (tab ++ [⟨nx, o, []⟩])))) = G0 at ko tk O1 ⊢
  have ha0 := tk _ _ ha
  refine ⟨_, rfl, a, rfl, ⟨_, SqT.of ha0⟩, ?_⟩
  have mk_len : ∀ l : List Sl, (mkS l).length ≤ l.length := fun l => by
    have z : ∀ (l acc : List Sl), (l.foldl putS acc).length ≤ acc.length + l.length := by
      intro l
      induction l with
      | nil => exact fun acc => Nat.le_refl _
      | cons s l ih =>
        intro acc
        have a := ih (putS acc s)
        have b := putS_len acc s
        rw [List.foldl_cons, List.length_cons]
        omega
    have := z l []
    simpa [mkS] using this
  refine for_tup (xs := us) (fun i σ G => (∃ v3 v4 v5 : Option V, σ = [some (.ref p), some (.ref a), some (.int (nx : Int)), v3, v4, v5]) ∧ KO p tb tab H G ∧ Ob K G p dx tb (tab ++ [⟨nx, o, mkS (ts.take i)⟩]) (nx + 1)) ⟨⟨none, none, none, rfl⟩, ko, O1⟩
    (fun i σ G _ z => SqT.of (O.tk z.2.1 _ _ ha)) ?_ ?_
  · rintro i x σ G hx ⟨⟨v3, v4, v5, rfl⟩, kg, OG⟩
    obtain ⟨s, t, v, es, rfl, hq, tv⟩ := tr.at_ i hx
    have tkg := O.tk kg
    have hi : i < ts.length := (List.getElem?_eq_some_iff.mp es).1
    have em : (⟨nx, o, mkS (ts.take i)⟩ : En) ∈ tab ++ [⟨nx, o, mkS (ts.take i)⟩] := List.mem_append_right _ (List.mem_singleton.mpr rfl)
    refine ⟨t, _, rfl, SqT.of (tkg _ _ hq), rfl, _, _, rfl, _, _, rfl, _, _, rfl, rfl, ?_⟩
    refine ⟨_, rfl, p, dx, _, rfl, OG.ins, obF_no (by decide +kernel) (by decide +kernel), _, rfl, _, rfl, _, rfl, _, rfl, ?_⟩
    refine ⟨p, dx, tb, _, nx + 1, _, s.name, s.kind, v, s.val, rfl, OG, em, tv.keep tkg, vo s (List.mem_of_getElem? es), Nat.le_trans (mk_len _) (Nat.le_trans (List.length_take_le _ _) (by omega)), fun G2 k2 O2 => ?_⟩
    have e2 : setE (tab ++ [⟨nx, o, mkS (ts.take i)⟩]) nx (putS (mkS (ts.take i)) ⟨s.name, s.kind, s.val⟩) = tab ++ [⟨nx, o, mkS (ts.take (i + 1))⟩] := by
      unfold setE
      rw [List.map_append]
      have a1 : tab.map (fun e => if e.id = nx then (⟨e.id, e.at_, putS (mkS (ts.take i)) ⟨s.name, s.kind, s.val⟩⟩ : En) else e) = tab := by
        have z : ∀ e ∈ tab, (fun e : En => if e.id = nx then (⟨e.id, e.at_, putS (mkS (ts.take i)) ⟨s.name, s.kind, s.val⟩⟩ : En) else e) e = id e := fun e he => by
          have := O.lt e he
          exact if_neg (by omega)
        rw [List.map_congr_left z, List.map_id]
      have a2 : ts.take (i + 1) = ts.take i ++ [s] := by rw [List.take_add_one, es]; rfl
      rw [a1, a2, mkS_snoc, List.map_cons, List.map_nil, if_pos rfl]
    rw [e2] at O2
    refine ⟨⟨_, _, _, rfl⟩, fun b u c1 c2 c3 z => ?_, O2⟩
    refine k2 b u c1 c2 (fun e he => ?_) (kg b u c1 c2 c3 z)
    rcases List.mem_append.mp he with he | he
    · exact c3 e he
    · rw [List.mem_singleton.mp he]
      exact ne_of_none z no0
  · rintro σ G ⟨⟨v3, v4, v5, rfl⟩, kg, OG⟩
    rw [tr.len, List.take_length] at OG
    exact ⟨_, rfl, q o G no0 kg OG⟩
theorem run_Objects_init (S : ObC K) (h : sp_Objects_init K vs H Q E) : t_Objects_init K E (DQ Q) (start ns_Objects_init vs) H := by
  obtain ⟨p, dx, rfl, hp, q⟩ := h
  intro tb nt
  have npt : p ≠ tb := ne_of_none hp nt
  refine ⟨_, rfl, p, _, dx, _, rfl, (upd_ne npt).trans hp, S.cl, S.nt, (by show 0 < 1000; decide), ?_⟩
  refine ⟨_, rfl, p, _, dx, _, rfl, upd_same, S.cl, S.nn, (by show 1 < 1000; decide), ?_⟩
  rw [obF_init, upd_upd]
  have O1 : Ob K (upd (upd H tb (.dK [])) p (.ins (OC K) dx (obF tb 0))) p dx tb [] 0 := ⟨upd_same, (upd_ne (Ne.symm npt)).trans upd_same, (fun e he => by cases he), List.nodup_nil, (fun e he => by cases he), .nil, (fun e he => by cases he), (fun e he => by cases he), fun e he => by cases he⟩
  have k1 : ∀ b u, b ≠ p → H b = some u → (upd (upd H tb (.dK [])) p (.ins (OC K) dx (obF tb 0))) b = some u := fun b u n z => by
    rw [upd_ne n, upd_ne (ne_of_none z nt)]
    exact z
  refine ⟨_, rfl, p, dx, _, rfl, upd_same, obF_no (by decide +kernel) (by decide +kernel), (by show 2 ≤ sizeLine; decide), fun r1 n1 => ⟨(by show 3 ≤ sizeLine; decide), fun r2 n2 => ⟨(by show 1 ≤ sizeLine; decide), fun r3 n3 => ?_⟩⟩⟩
  have s1 := same_upd (o := .tup [V.str ("ref" : Str), V.int 0]) n1
  have s2 := same_upd (o := .tup [V.str ("lobby" : Str), V.str ("const" : Str), V.ref r1]) n2
  have s3 := same_upd (o := .tup [V.ref r2]) n3
  have O2 := ((O1.same s1).same s2).same s3
  have T1 := Tr.tup (ds := [.str ("ref" : Str), .int 0]) (s3 _ _ (s2 _ _ (upd_same (H := (upd (upd H tb (.dK [])) p (.ins (OC K) dx (obF tb 0)))) (a := r1) (o := .tup [V.str ("ref" : Str), V.int 0])))) (.cons (.str _) (.cons (.int _) .nil))
  refine ⟨p, dx, tb, [], 0, r3, [.ref r2], [lobbyS], rfl, O2, upd_same, .cons (s3 _ _ upd_same) T1 .nil, (fun s hs => ?_), by decide, (by show 1 ≤ 1000000; decide), fun o H' no ko O3 => ?_⟩
  · rw [List.mem_singleton.mp hs]
    exact ⟨_, _, rfl, fun _ => ⟨_, _, rfl⟩⟩
  · have no1 : (upd (upd H tb (.dK [])) p (.ins (OC K) dx (obF tb 0))) o = none := Same.free ((s1.trans s2).trans s3) no
    have no2 : H o = none := by
      have a : o ≠ p := fun z => by
        rw [z, upd_same] at no1
        cases no1
      rw [upd_ne a] at no1
      have b : o ≠ tb := fun z => by
        rw [z, upd_same] at no1
        cases no1
      rw [upd_ne b] at no1
      exact no1
    refine q tb o H' (fun b u n z => ?_) nt no2 O3
    exact ko b u n (ne_of_none z nt) (fun e he => by cases he) (s3 _ _ (s2 _ _ (s1 _ _ (k1 b u n z))))
theorem entOf_mem {tab : List En} (o : tab.Pairwise fun a b => a.id < b.id) {e : En} (he : e ∈ tab) : entOf tab (e.id : Int) = some e := by
  unfold entOf
  cases z : tab.find? fun a => decide ((a.id : Int) = (e.id : Int)) with
  | none =>
    have := List.find?_eq_none.mp z e he
    simp at this
  | some a =>
    have h1 := List.find?_some z
    have h2 := List.mem_of_find?_eq_some z
    have h1 : (a.id : Int) = (e.id : Int) := of_decide_eq_true h1
    rw [id_inj o h2 he (by omega)]
theorem slotOf_mem {tab : List En} (o : tab.Pairwise fun a b => a.id < b.id) {e : En} (he : e ∈ tab) (x : Str) : slotOf tab x (e.id : Int) = getS e.sl x := by
  unfold slotOf
  rw [entOf_mem o he]
  rfl
theorem parI_mem {tab : List En} (o : tab.Pairwise fun a b => a.id < b.id) {e : En} (he : e ∈ tab) : parI tab (e.id : Int) = parS e.sl := by
  unfold parI
  rw [entOf_mem o he]
theorem hasS_id {tab : List En} {x : Str} {i : Int} (h : hasS tab x i = true) : ∃ e ∈ tab, (e.id : Int) = i ∧ ∃ s, getS e.sl x = some s := by
  unfold hasS slotOf entOf at h
  cases z : tab.find? fun a => decide ((a.id : Int) = i) with
  | none =>
    rw [z] at h
    cases h
  | some a =>
    rw [z] at h
    have h : (getS a.sl x).isSome = true := h
    have h1 := List.find?_some z
    obtain ⟨s, hs⟩ := Option.isSome_iff_exists.mp h
    exact ⟨a, List.mem_of_find?_eq_some z, of_decide_eq_true h1, s, hs⟩
theorem int_nat {i : Int} (h : 0 ≤ i) : ∃ n : Nat, i = (n : Int) := ⟨i.toNat, by omega⟩
theorem run_outcome_of (S : ObC K) (h : sp_outcome_of K vs H Q E) : t_outcome_of K E (DQ Q) (start ns_outcome_of vs) H := by
  obtain ⟨p, dx, tb, tab, nx, a, hs, x, rfl, O, ha, hh, q⟩ := h
  have len : ∀ n : Nat, hs.length = n → (hs.map V.int).length = n := fun n e => by rw [List.length_map]; exact e
  refine ⟨_, rfl, _, _, rfl, .inl ⟨_, SqL.of ha, rfl⟩, rfl, _, rfl, ?_⟩
  match hs, hh, ha, q, len with
  | [], _, ha, q, _ =>
    refine ite2 (fun _ => ⟨(by show 1 ≤ sizeLine; decide), fun r nr => q r _ (same_upd nr) (.tup upd_same (.cons (.str _) .nil))⟩) (fun c => absurd (decide_eq_true rfl) c)
  | [h1], hh, ha, q, _ =>
    refine ite2 (fun c => absurd (V.int.inj (of_decide_eq_true c)) (by show ¬ ((1 : Nat) : Int) = 0; decide)) (fun _ => ?_)
    refine ⟨_, rfl, _, _, rfl, .inl ⟨_, SqL.of ha, rfl⟩, _, _, rfl, rfl, _, rfl, ?_⟩
    refine ite2 (fun c => absurd (of_decide_eq_true c) (by show ¬ (1 : Int) < ((1 : Nat) : Int); decide)) (fun _ => ?_)
    obtain ⟨e, he, rfl, s, gs⟩ := hasS_id (hh h1 List.mem_cons_self)
    refine ⟨_, rfl, p, dx, _, rfl, O.ins, obF_no (by decide +kernel) (by decide +kernel), _, rfl, a, _, _, _, rfl, rfl, SqL.of ha, atI_nat (j := 0) rfl, _, rfl, ?_⟩
    refine ⟨p, dx, tb, tab, nx, e, x, rfl, O, he, (fun z => by rw [z] at gs; cases gs), fun s2 qa v z hq tv => ?_⟩
    rw [gs] at z
    cases z
    refine ⟨qa, _, rfl, SqT.of hq, rfl, _, _, rfl, _, _, rfl, rfl, _, rfl, a, _, _, _, rfl, rfl, SqL.of ha, atI_nat (j := 0) rfl, _, rfl, _, rfl, (by show 4 ≤ sizeLine; decide), fun r nr => ?_⟩
    refine q r _ (same_upd nr) ?_
    have eo : outD tab x [(e.id : Int)] = .tuple [.str ("found" : Str), .int (e.id : Int), .str s.kind, s.val] := by
      show (match slotOf tab x (e.id : Int) with | some s => PyData.tuple [.str ("found" : Str), .int (e.id : Int), .str s.kind, s.val] | none => .none) = _
      rw [slotOf_mem O.ord he, gs]
    rw [eo]
    exact .tup upd_same (.cons (.str _) (.cons (.int _) (.cons (.str _) (.cons (tv.keep (TK.new nr)) .nil))))
  | h1 :: h2 :: r, _, ha, q, _ =>
    have l2 : ((List.map V.int (h1 :: h2 :: r)).length : Int) = (r.length : Int) + 2 := by
      rw [List.length_map, List.length_cons, List.length_cons]
      omega
    refine ite2 (fun c => absurd (V.int.inj (of_decide_eq_true c)) (by omega)) (fun _ => ?_)
    refine ⟨_, rfl, _, _, rfl, .inl ⟨_, SqL.of ha, rfl⟩, _, _, rfl, rfl, _, rfl, ?_⟩
    refine ite2 (fun c => ?_) (fun c => absurd (decide_eq_true (by omega)) c)
    exact ⟨(by show 1 ≤ sizeLine; decide), fun r nr => q r _ (same_upd nr) (.tup upd_same (.cons (.str _) .nil))⟩
theorem nodup_len : ∀ {L M : List Int}, L.Nodup → (∀ i ∈ L, i ∈ M) → L.length ≤ M.length
  | [], _, _, _ => Nat.zero_le _
  | i :: L, M, nd, h => by
    obtain ⟨n1, n2⟩ := List.nodup_cons.mp nd
    have hi := h i List.mem_cons_self
    have e := List.length_erase_of_mem hi
    have pos : 0 < M.length := List.length_pos_of_mem hi
    have ih := nodup_len (M := M.erase i) n2 fun j hj => (List.mem_erase_of_ne (fun z => n1 (by rw [← z]; exact hj))).mpr (h j (List.mem_cons_of_mem _ hj))
    rw [List.length_cons]
    omega
theorem mem_sum : ∀ {l : List Nat} {x : Nat}, x ∈ l → x ≤ l.sum
  | [], _, h => by cases h
  | y :: l, x, h => by
    rw [List.sum_cons]
    rcases List.mem_cons.mp h with rfl | h
    · omega
    · have := mem_sum h
      omega
theorem par_bd {tab : List En} {e : En} (he : e ∈ tab) : (parS e.sl).length ≤ bdS tab := mem_sum (List.mem_map.mpr ⟨e, he, rfl⟩)
theorem ids_len {tab : List En} {L : List Int} (nd : L.Nodup) (h : ∀ i ∈ L, isId tab i) : L.length ≤ tab.length := by
  have := nodup_len (M := tab.map fun e => (e.id : Int)) nd fun i hi => by
    obtain ⟨e, he, z⟩ := h i hi
    exact List.mem_map.mpr ⟨e, he, z⟩
  rwa [List.length_map] at this
def lkK (L : List Int) : List (Key × V) := L.map fun i => (Sum.inl i, V.bl true)
theorem lk_get (i : Int) : ∀ L : List Int, (valV (lkK L) (Sum.inl i : Key)).isSome = decide (i ∈ L)
  | [] => rfl
  | j :: L => by
    show (valV ((Sum.inl j, V.bl true) :: lkK L) (Sum.inl i : Key)).isSome = _
    by_cases c : j = i
    · rw [valV_pos (congrArg Sum.inl c)]
      exact (decide_eq_true (by simp [c])).symm
    · rw [valV_neg (fun z => c (Sum.inl.inj z)), lk_get i L]
      have c : ¬ i = j := fun z => c z.symm
      simp [c]
theorem trs_ints {H : Hp} : ∀ L : List Int, Trs H (L.map V.int) (L.map PyData.int)
  | [] => .nil
  | _ :: L => .cons (.int _) (trs_ints L)
theorem fuel_step {N l B w m : Nat} (hl : l + 1 ≤ N) (h : (N - l) * (B + 1) + (w + 1) < m + 1) {b : Nat} (hb : b ≤ B) : (N - (l + 1)) * (B + 1) + (b + w) < m := by
  obtain ⟨d, rfl⟩ : ∃ d, N = d + (l + 1) := ⟨N - (l + 1), by omega⟩
  have e1 : d + (l + 1) - l = d + 1 := by omega
  have e2 : d + (l + 1) - (l + 1) = d := by omega
  rw [e1, Nat.succ_mul] at h
  rw [e2]
  omega
def SIv (p a lk hl wl : Addr) (x : Str) (tab : List En) (H : Hp) (res : List Int × List Int) (m : Nat) (σ : L2.St) (G : Hp) : Prop := ∃ (L A w : List Int) (v6 : Option V), σ = [some (.ref p), some (.ref a), some (.str x), some (.ref lk), some (.ref hl), some (.ref wl), v6] ∧ Same H G ∧
  G lk = some (.dK (lkK L)) ∧ G hl = some (.lst (A.map V.int)) ∧ G wl = some (.lst (w.reverse.map V.int)) ∧ L.Nodup ∧ (∀ i ∈ L, isId tab i) ∧ (∀ i ∈ w, isId tab i) ∧ (∀ i ∈ A, hasS tab x i = true) ∧ A.length ≤ L.length ∧
  (tab.length - L.length) * (bdS tab + 1) + w.length < m ∧ m ≤ 10000000 ∧ srF tab x m L A w = res
theorem run_search (S : ObC K) (h : sp_search K vs H Q E) : t_search K E (DQ Q) (start ns_search vs) H := by
  obtain ⟨p, dx, tb, tab, nx, a, st, x, rfl, O, ha, hst, cl, sm, fu, q⟩ := h
  intro lk nlk
  have s1 := same_upd (o := .dK []) nlk
  refine ⟨(by show 0 ≤ sizeLine; decide), fun hl nhl => ?_⟩
  have s2 := same_upd (o := .lst []) nhl
  have h12 := s1.trans s2
  refine ⟨_, rfl, a, _, rfl, SqT.of (h12 _ _ ha), fun rt nrt => ?_⟩
  have s3 := same_upd (o := .tup (st.map V.int).reverse) nrt
  refine ⟨rt, _, rfl, .inr (SqT.of upd_same), fun wl nwl => ?_⟩
  have s4 := same_upd (o := .lst (st.map V.int).reverse) nwl
  have h123 := h12.trans s3
  have h1234 := h123.trans s4
  have nhl0 : H hl = none := Same.free s1 nhl
  have nwl0 : H wl = none := Same.free h123 nwl
  have glk : (upd (upd (upd (upd H lk (.dK [])) hl (.lst [])) rt (.tup (st.map V.int).reverse)) wl (.lst (st.map V.int).reverse)) lk = some (.dK (lkK [])) := s4 _ _ (s3 _ _ (s2 _ _ upd_same))
  have ghl : (upd (upd (upd (upd H lk (.dK [])) hl (.lst [])) rt (.tup (st.map V.int).reverse)) wl (.lst (st.map V.int).reverse)) hl = some (.lst []) := s4 _ _ (s3 _ _ upd_same)
  have nhw : hl ≠ wl := ne_of_none (s3 _ _ upd_same) nwl
  have nlh : lk ≠ hl := ne_of glk ghl (by intro z; cases z)
  have nlw : lk ≠ wl := ne_of glk upd_same (by intro z; cases z)
  refine ⟨SIv p a lk hl wl x tab H (srch tab x st), ⟨fuel tab st, [], [], st, none, rfl, h1234, glk, ghl, by rw [upd_same, List.map_reverse], List.nodup_nil, (fun i hi => by cases hi), hst, (fun i hi => by cases hi), Nat.le_refl _, by unfold fuel; rw [List.length_nil, Nat.sub_zero]; omega, fu, rfl⟩, ?_⟩
  rintro m σ G ⟨L, A, w, v6, rfl, sG, gl, gh, gw, nd, hL, hw, hA, hAL, hm, hm2, er⟩
  have OG := O.same sG
  refine ⟨_, rfl, _, _, rfl, .inl ⟨_, SqL.of gw, rfl⟩, _, _, rfl, rfl, _, rfl, ?_⟩
  cases w with
  | nil =>
    refine ite2 (fun c => absurd (of_decide_eq_true c) (by show ¬ (0 : Int) < ((0 : Nat) : Int); decide)) (fun _ => ?_)
    have er : (L, A) = srch tab x st := by
      rw [← er]
      cases m <;> rfl
    refine ⟨_, rfl, _, rfl, _, rfl, p, dx, tb, tab, nx, hl, A, x, rfl, OG, gh, hA, fun q1 G1 s5 t1 => ?_⟩
    refine ⟨_, rfl, lk, lkK L, rfl, s5 _ _ gl, fun tq ntq => ⟨(by show 2 ≤ sizeLine; decide), fun rq nrq => ?_⟩⟩
    have s6 := same_upd (o := .tup ((lkK L).map fun kv => kV kv.1)) ntq
    have s7 := same_upd (o := .tup [V.ref q1, V.ref tq]) nrq
    have ek : (lkK L).map (fun kv => kV kv.1) = L.map V.int := by
      unfold lkK
      rw [List.map_map]
      rfl
    have T2 := Tr.tup (ds := L.map PyData.int) (s7 _ _ (upd_same (H := G1) (a := tq) (o := .tup ((lkK L).map fun kv => kV kv.1)))) (by rw [ek]; exact trs_ints L)
    refine q rq _ (((sG.trans s5).trans s6).trans s7) ?_
    unfold resD
    rw [← er]
    exact .tup upd_same (.cons (t1.keep fun a xs z => s7 a _ (s6 a _ z)) (.cons T2 .nil))
  | cons i w =>
    have lw : ((((i :: w).reverse.map V.int).length : Nat) : Int) = (w.length : Int) + 1 := by
      rw [List.length_map, List.length_reverse, List.length_cons]
      omega
    refine ite2 (fun _ => ?_) (fun c => absurd (decide_eq_true (by omega)) c)
    cases m with
    | zero => exact absurd hm (Nat.not_lt_zero _)
    | succ m =>
      refine ⟨SIv p a lk hl wl x tab H (srch tab x st) m, fun σ' G' z => ⟨m, Nat.lt_succ_self m, z⟩, ?_⟩
      have erw : (i :: w).reverse.map V.int = w.reverse.map V.int ++ [V.int i] := by
        rw [List.reverse_cons, List.map_append]
        rfl
      rw [erw] at gw
      have e1 : (w.reverse.map V.int ++ [V.int i])[(w.reverse.map V.int ++ [V.int i]).length - 1]? = some (V.int i) := by
        rw [List.length_append, List.length_singleton, Nat.add_sub_cancel, List.getElem?_append_right (Nat.le_refl _), Nat.sub_self]
        rfl
      refine ⟨_, rfl, .inl ⟨rfl, _, SqL.of gw⟩, wl, _, _, rfl, rfl, gw, e1, ?_⟩
      rw [List.dropLast_concat]
      have pl : (upd G wl (.lst (w.reverse.map V.int))) lk = some (.dK (lkK L)) := (upd_ne nlw).trans gl
      have ph : (upd G wl (.lst (w.reverse.map V.int))) hl = some (.lst (A.map V.int)) := (upd_ne nhw).trans gh
      have sP : Same H (upd G wl (.lst (w.reverse.map V.int))) := fun b u z => by
        rw [upd_ne (ne_of_none z nwl0)]
        exact sG b u z
      have pw : (upd G wl (.lst (w.reverse.map V.int))) wl = some (.lst (w.reverse.map V.int)) := upd_same
      generalize upd G wl (.lst (w.reverse.map V.int)) = P at pl ph sP pw ⊢
      have hw2 : ∀ j ∈ w, isId tab j := fun j hj => hw j (List.mem_cons_of_mem _ hj)
      refine ⟨_, rfl, _, rfl, lk, _, rfl, DGet.k (k := Sum.inl i) pl, _, rfl, ?_⟩
      rw [lk_get]
      refine ite2 (fun c => ?_) (fun c => ?_)
      · have c := of_decide_eq_true c
        have es : srF tab x (m + 1) L A (i :: w) = srF tab x m L A w := if_pos c
        rw [es] at er
        rw [List.length_cons] at hm
        exact ⟨L, A, w, _, rfl, sP, pl, ph, pw, nd, hL, hw2, hA, hAL, by omega, by omega, er⟩
      · have c : ¬ i ∈ L := fun z => c (decide_eq_true z)
        have ndL : (L ++ [i]).Nodup := List.nodup_append.mpr ⟨nd, by simp, fun y hy z hz => by
          rw [List.mem_singleton.mp hz]
          intro k
          exact c (by rw [← k]; exact hy)⟩
        have hLi : ∀ j ∈ L ++ [i], isId tab j := fun j hj => by
          rcases List.mem_append.mp hj with hj | hj
          · exact hL j hj
          · rw [List.mem_singleton.mp hj]
            exact hw i List.mem_cons_self
        have ll := ids_len ndL hLi
        rw [List.length_append, List.length_singleton] at ll
        have tl : tab.length ≤ 10000000 := by
          have : tab.length ≤ fuel tab st := by
            unfold fuel
            have : tab.length ≤ tab.length * (bdS tab + 1) := Nat.le_mul_of_pos_right tab.length (Nat.succ_pos (bdS tab))
            omega
          omega
        have pk : putK (lkK L) (Sum.inl i) (V.bl true) = lkK (L ++ [i]) := by
          have z := lk_get i L
          rw [decide_eq_false c] at z
          rw [putK_new _ (Option.isSome_eq_false_iff.mp z |> Option.isNone_iff_eq_none.mp)]
          unfold lkK
          rw [List.map_append]
          rfl
        refine ⟨_, rfl, _, rfl, lk, _, rfl, DPut.k (k := Sum.inl i) pl (Nat.lt_of_le_of_lt (by unfold lkK; rw [List.length_map]; omega : (lkK L).length ≤ 10000000) (by decide)), ?_⟩
        rw [pk]
        have ql : (upd P lk (.dK (lkK (L ++ [i])))) lk = some (.dK (lkK (L ++ [i]))) := upd_same
        have qh : (upd P lk (.dK (lkK (L ++ [i])))) hl = some (.lst (A.map V.int)) := (upd_ne (Ne.symm nlh)).trans ph
        have qw : (upd P lk (.dK (lkK (L ++ [i])))) wl = some (.lst (w.reverse.map V.int)) := (upd_ne (Ne.symm nlw)).trans pw
        have sQ : Same H (upd P lk (.dK (lkK (L ++ [i])))) := fun b u z => by
          rw [upd_ne (ne_of_none z nlk)]
          exact sP b u z
        generalize upd P lk (.dK (lkK (L ++ [i]))) = P2 at ql qh qw sQ ⊢
        have O2 := O.same sQ
        obtain ⟨e, he, ei⟩ := hw i List.mem_cons_self
        subst ei
        have step : srF tab x (m + 1) L A ((e.id : Int) :: w) = if hasS tab x (e.id : Int) = true then srF tab x m (L ++ [(e.id : Int)]) (A ++ [(e.id : Int)]) w else srF tab x m (L ++ [(e.id : Int)]) A (parI tab (e.id : Int) ++ w) := if_neg c
        rw [step] at er
        have eh : hasS tab x (e.id : Int) = (getS e.sl x).isSome := by
          unfold hasS
          rw [slotOf_mem O.ord he]
        have lA : (A ++ [(e.id : Int)]).length ≤ (L ++ [(e.id : Int)]).length := by
          rw [List.length_append, List.length_append]
          exact Nat.succ_le_succ hAL
        rw [List.length_cons] at hm
        refine ⟨_, rfl, p, dx, _, rfl, O2.ins, obF_no (by decide +kernel) (by decide +kernel), _, rfl, _, rfl, ?_⟩
        refine ⟨p, dx, tb, tab, nx, e, x, rfl, O2, he, fun g => ?_, fun s qa v g hq tv => ?_⟩
        · -- no slot: its parents
          refine ⟨rfl, _, rfl, ?_⟩
          rw [decide_eq_true (show V.non = V.non from rfl)]
          refine iteF ?_
          rw [g] at eh
          rw [eh, if_neg (by intro z; cases z), parI_mem O.ord he] at er
          refine ⟨_, rfl, .inl ⟨rfl, _, SqL.of qw⟩, _, rfl, p, dx, _, rfl, O2.ins, obF_no (by decide +kernel) (by decide +kernel), _, rfl, ?_⟩
          refine ⟨p, dx, tb, tab, nx, e, rfl, O2, he, sm e he, fun q5 H5 s5 n5 h5 => ?_⟩
          refine ⟨q5, _, rfl, SqT.of h5, fun q6 n6 => ?_⟩
          have s6 := same_upd (o := .tup ((parS e.sl).map V.int).reverse) n6
          have s56 := s5.trans s6
          have b1 := par_bd he
          have mm := fuel_step (N := tab.length) (l := L.length) (B := bdS tab) (w := w.length) (m := m) (by omega) (by omega) b1
          refine ⟨wl, q6, _, _, rfl, rfl, s56 _ _ qw, SqT.of upd_same, ?_, ?_⟩
          · rw [List.length_map, List.length_reverse, List.length_reverse, List.length_map]
            exact Nat.le_trans (show w.length + (parS e.sl).length ≤ 10000000 by omega) (by decide)
          · refine ⟨L ++ [(e.id : Int)], A, parS e.sl ++ w, _, rfl, fun b u z => ?_, (upd_ne nlw).trans (s56 _ _ ql), (upd_ne nhw).trans (s56 _ _ qh), ?_, ndL, hLi, fun j hj => ?_, hA, by rw [List.length_append]; omega, ?_, by omega, er⟩
            · rw [upd_ne (ne_of_none z nwl0)]
              exact s56 b u (sQ b u z)
            · rw [upd_same, List.reverse_append, List.map_append, List.map_reverse, List.map_reverse]
            · rcases List.mem_append.mp hj with hj | hj
              · exact cl e he j hj
              · exact hw2 j hj
            · rw [List.length_append, List.length_append, List.length_singleton]
              exact mm
        · -- a holder
          refine ⟨rfl, _, rfl, ?_⟩
          rw [decide_eq_false (show ¬ V.ref qa = V.non by intro z; cases z)]
          refine iteT ?_
          rw [g] at eh
          have eh : hasS tab x (e.id : Int) = true := eh
          rw [if_pos eh] at er
          have mm := fuel_step (N := tab.length) (l := L.length) (B := bdS tab) (w := w.length) (m := m) (by omega) (by omega) (Nat.zero_le _)
          refine ⟨_, rfl, .inl ⟨rfl, _, SqL.of qh⟩, _, rfl, hl, _, _, rfl, rfl, qh, Nat.lt_of_le_of_lt (by rw [List.length_map]; omega : (A.map V.int).length ≤ 10000000) (by decide), ?_⟩
          refine ⟨L ++ [(e.id : Int)], A ++ [(e.id : Int)], w, _, rfl, fun b u z => ?_, (upd_ne nlh).trans ql, ?_, (upd_ne (Ne.symm nhw)).trans qw, ndL, hLi, hw2, fun j hj => ?_, lA, ?_, by omega, er⟩
          · rw [upd_ne (ne_of_none z nhl0)]
            exact sQ b u z
          · rw [upd_same, List.map_append]
            rfl
          · rcases List.mem_append.mp hj with hj | hj
            · exact hA j hj
            · rw [List.mem_singleton.mp hj]
              exact eh
          · rw [List.length_append, List.length_singleton]
            omega
end
end Rm

/-! R1: the laws' reader: draws from the digits of cells; values, kinds, names: promises, readings (by gen.py), runs. -/
namespace Rm.Q
open PySem PySem.Spec PyProof.Rows L2
def kindM : List String := ["const", "var", "parent", "varparent", "method", "parent", "varparent"]
def nameM : List String := ["x", "y", "p", "q", "xx", "lobby"]
/-- what a drawn value is -/
structure ValD (m : Int) (D : PyData) : Prop where
  ok : ValOk D
  ref : ∀ i, refOf D = some i → 0 ≤ i ∧ i < m
  lay : PyData.canLay0 D = true
  dep : PyData.depth D ≤ 1
def sp_l_draws (K : PySem.W.Frag) : Sp := fun vs H Q _ => ∃ (a : Addr) (ns : List Int), vs = [.ref a] ∧ SqL K H a (ns.map V.int) ∧ ns.length ≤ 63 ∧ ∀ q H' (rs : List Int), Same H H' → H q = none → H' q = some (.lst (rs.map V.int)) → Q (.ref q) H'
def sp_l_reader (K : PySem.W.Frag) : Sp := fun vs H Q _ => ∃ (a : Addr) (ns : List Int), vs = [.ref a] ∧ SqL K H a (ns.map V.int) ∧ ns.length ≤ 63 ∧ ∀ d r H', Same H H' → H d = none → H r = none → Draws H' d r → Q (.ref d) H'
def sp_l_next (K : PySem.W.Frag) : Sp := fun vs H Q _ => ∃ (d : Addr) (m : Int), vs = [.ref d, .int m] ∧ 0 < m ∧ ∃ r, Draws H d r ∧ ∀ (j : Int) (H' : Hp), 0 ≤ j → j < m → Draws H' d r → Moved d H H' → Q (.int j) H'
def sp_l_value (K : PySem.W.Frag) : Sp := fun vs H Q _ => ∃ (d : Addr) (m : Int), vs = [.ref d, .int m] ∧ 0 < m ∧ ∃ r, Draws H d r ∧ ∀ (v : V) (D : PyData) (H' : Hp), Kept d H H' → Draws H' d r → Tr H' v D → ValD m D → Q v H'
def sp_l_kind (K : PySem.W.Frag) : Sp := fun vs H Q _ => ∃ (d : Addr), vs = [.ref d] ∧ ∃ r, Draws H d r ∧ ∀ (s : String) (H' : Hp), Kept d H H' → Draws H' d r → s ∈ kindM → Q (mS s) H'
def sp_l_name (K : PySem.W.Frag) : Sp := fun vs H Q _ => ∃ (d : Addr), vs = [.ref d] ∧ ∃ r, Draws H d r ∧ ∀ (s : String) (H' : Hp), Kept d H H' → Draws H' d r → s ∈ nameM → Q (mS s) H'
/-! ### readings -/

def ns_l_draws : List Str := ["script", "draws", "k", "cell", "turn", "mixed"]
def t_l_draws (K : PySem.W.Frag) (E : XK) : TS :=
  (tSeq (tAsg (tLst tNil) (gName 1))
    (tSeq (tFor (iRng1 (tCons (tCB rMin2 (tCons (tCB (rLen K) (tCons (tVar 0) tNil)) (tCons (tC (.int 63)) tNil))) tNil)) (gName 2)
      (tSeq (tAsg (tCB rAbs (tCons (tOp (rIxL K) (tVar 0) (tVar 2)) tNil)) (gName 3))
    (tIfS (tTest (tOp rGeI (tVar 3) (tOp rPowI (tC (.int 10)) (tC (.int 18)))))
      (tFor (iRng1 (tCons (tC (.int 20)) tNil)) (gName 4)
      (tIfS (tTest (tOp rGtI (tVar 3) (tC (.int 0))))
      (tSeq (tDrop (tBM K "list" rAppend (tVar 1) (tCons (tOp rModI (tVar 3) (tC (.int 1000))) tNil)))
    (tAsg (tOp rFdivI (tVar 3) (tC (.int 1000))) (gName 3)))
      tNext))
      (tSeq (tAsg (tOp rModI (tCB rInt1 (tCons (tOp rAddI (tOp rAddI (tOp rMulI (tOp (rIxL K) (tVar 0) (tVar 2)) (tC (.int 48271))) (tOp rMulI (tVar 2) (tC (.int 69621)))) (tC (.int 12345))) tNil)) (tC (.int 2147483647))) (gName 5))
    (tFor (iRng1 (tCons (tC (.int 3)) tNil)) (gName 4)
      (tSeq (tAsg (tOp rModI (tCB rInt1 (tCons (tOp rAddI (tOp rAddI (tOp rMulI (tVar 5) (tVar 5)) (tOp rMulI (tVar 4) (tC (.int 7919)))) (tC (.int 17))) tNil)) (tC (.int 2147483629))) (gName 5))
    (tDrop (tBM K "list" rAppend (tVar 1) (tCons (tOp rModI (tVar 5) (tC (.int 1000))) tNil)))))))))
    (tRet (tVar 1))))

def ns_l_reader : List Str := ["script", "row", "seed"]
def t_l_reader (K : PySem.W.Frag) (E : XK) : TS :=
  (tSeq (tAsg (tCall (sp_l_draws K) [] E (tCons (tVar 0) tNil)) (gName 1))
    (tSeq (tAsg (tC (.int 5)) (gName 2))
    (tSeq (tIfS (tTest (tOp rGtI (tCB (rLen K) (tCons (tVar 0) tNil)) (tC (.int 0))))
      (tAsg (tOp rModI (tCB rAbs (tCons (tOp (rIxL K) (tVar 0) (tUn rNegI (tC (.int 1)))) tNil)) (tC (.int 1000003))) (gName 2))
      tNext)
    (tRet (tDisp [((tC (.str ("row" : Str))), (tVar 1)), ((tC (.str ("at" : Str))), (tC (.int 0))), ((tC (.str ("seed" : Str))), (tVar 2))])))))

def ns_l_next : List Str := ["draws", "many", "at", "mixed"]
def t_l_next (K : PySem.W.Frag) (E : XK) : TS :=
  (tSeq (tAsg (tDGet (tVar 0) (tC (.str ("at" : Str)))) (gName 2))
    (tSeq (sDPut (tVar 0) (tC (.str ("at" : Str))) (tOp rAddI (tVar 2) (tC (.int 1))))
    (tSeq (tIfS (tTest (tOp rLtI (tVar 2) (tCB (rLen K) (tCons (tDGet (tVar 0) (tC (.str ("row" : Str)))) tNil))))
      (tRet (tOp rModI (tOp (rIxL K) (tDGet (tVar 0) (tC (.str ("row" : Str)))) (tVar 2)) (tVar 1)))
      tNext)
    (tSeq (tAsg (tOp rModI (tCB rInt1 (tCons (tOp rMulI (tOp rAddI (tOp rAddI (tDGet (tVar 0) (tC (.str ("seed" : Str)))) (tOp rMulI (tC (.int 17)) (tVar 2))) (tC (.int 3))) (tC (.int 48271))) tNil)) (tC (.int 2147483647))) (gName 3))
    (tRet (tOp rModI (tOp rFdivI (tOp rModI (tCB rInt1 (tCons (tOp rAddI (tOp rMulI (tVar 3) (tVar 3)) (tVar 2)) tNil)) (tC (.int 2147483629))) (tC (.int 7))) (tVar 1)))))))

def ns_l_value : List Str := ["draws", "many", "pick"]
def t_l_value (K : PySem.W.Frag) (E : XK) : TS :=
  (tSeq (tAsg (tCall (sp_l_next K) [] E (tCons (tVar 0) (tCons (tC (.int 8)) tNil))) (gName 2))
    (tSeq (tIfS (tTest (tOp rLtI (tVar 2) (tC (.int 4))))
      (tRet (tTup (tCons (tC (.str ("ref" : Str))) (tCons (tCall (sp_l_next K) [] E (tCons (tVar 0) (tCons (tVar 1) tNil))) tNil))))
      tNext)
    (tRet (tOp (rIxL K) (tLst (tCons (tTup (tCons (tC (.str ("num" : Str))) (tCons (tCall (sp_l_next K) [] E (tCons (tVar 0) (tCons (tC (.int 90)) tNil))) tNil))) (tCons (tTup (tCons (tC (.str ("nothing" : Str))) tNil)) (tCons (tTup (tCons (tC (.str ("method" : Str))) (tCons (tCall (sp_l_next K) [] E (tCons (tVar 0) (tCons (tC (.int 4)) tNil))) tNil))) (tCons (tTup (tCons (tC (.str ("block" : Str))) (tCons (tC (.int 1)) tNil))) tNil))))) (tOp rSubI (tVar 2) (tC (.int 4)))))))

def ns_l_kind : List Str := ["draws"]
def t_l_kind (K : PySem.W.Frag) (E : XK) : TS :=
  (tRet (tOp (rIxL K) (tLst (tMenu (["const", "var", "parent", "varparent", "method", "parent", "varparent"].map mS))) (tCall (sp_l_next K) [] E (tCons (tVar 0) (tCons (tC (.int 7)) tNil)))))

def ns_l_name : List Str := ["draws"]
def t_l_name (K : PySem.W.Frag) (E : XK) : TS :=
  (tRet (tOp (rIxL K) (tLst (tMenu (["x", "y", "p", "q", "xx", "lobby"].map mS))) (tCall (sp_l_next K) [] E (tCons (tVar 0) (tCons (tC (.int 6)) tNil)))))

section
variable {K : PySem.W.Frag} {vs : List V} {H : Hp} {Q : VK} {E : XK}
theorem run_l_next (h : sp_l_next K vs H Q E) : t_l_next K E (DQ Q) (start ns_l_next vs) H := by
  obtain ⟨d, m, rfl, hm, r, hD, q⟩ := h
  obtain ⟨i, s, ns, h1, h2, h3⟩ := id hD
  have nrd : r ≠ d := hD.ne
  refine ⟨_, rfl, d, _, rfl, dget_at h1, ?_⟩
  refine ⟨_, rfl, _, _, rfl, rfl, _, rfl, d, _, rfl, dput_at h1 _, ?_⟩
  have h1' : (upd H d (.dK (drK r (i + 1) s))) d = some (.dK (drK r (i + 1) s)) := upd_same
  have h2' : (upd H d (.dK (drK r (i + 1) s))) r = some (.lst (ns.map V.int)) := by rw [upd_ne nrd]; exact h2
  have D' : Draws (upd H d (.dK (drK r (i + 1) s))) d r := ⟨i + 1, s, ns, h1', h2', by omega⟩
  have M' : Moved d H (upd H d (.dK (drK r (i + 1) s))) := fun b n => upd_ne n
  have fin : ∀ z : Int, Q (.int (z % m)) (upd H d (.dK (drK r (i + 1) s))) := fun z => q _ _ (Int.emod_nonneg _ (by omega)) (Int.emod_lt_of_pos _ hm) D' M'
  refine ⟨_, rfl, _, rfl, d, _, rfl, dget_row h1', _, _, rfl, .inl ⟨_, SqL.of h2', rfl⟩, _, _, rfl, rfl, _, rfl, ?_⟩
  refine ite2 (fun c => ?_) (fun _ => ?_)
  · have c := of_decide_eq_true c
    rw [List.length_map] at c
    obtain ⟨n, rfl⟩ : ∃ n : Nat, i = (n : Int) := ⟨i.toNat, by omega⟩
    have hn : n < ns.length := by omega
    have g : (ns.map V.int)[n]? = some (.int ns[n]) := by rw [List.getElem?_map, List.getElem?_eq_getElem hn]; rfl
    exact ⟨_, rfl, d, _, rfl, dget_row h1', _, rfl, r, _, _, _, rfl, rfl, SqL.of h2', atI_nat g, _, rfl, _, _, rfl, rfl, hm, fin _⟩
  · refine ⟨_, rfl, d, _, rfl, dget_seed h1', _, rfl, _, _, rfl, rfl, .inl ⟨by decide, by decide⟩, _, _, rfl, rfl, _, _, rfl, rfl, _, _, rfl, rfl, .inr (by decide), .inl ⟨_, rfl, ?_⟩⟩
    refine ⟨_, _, rfl, rfl, (by show (0 : Int) < 2147483647; decide), ?_⟩
    have b1 : 0 ≤ ((s + 17 * i + 3) * 48271) % 2147483647 := Int.emod_nonneg _ (by decide)
    have b2 : ((s + 17 * i + 3) * 48271) % 2147483647 < 2147483647 := Int.emod_lt_of_pos _ (by decide)
    refine ⟨_, rfl, _, rfl, _, _, rfl, rfl, .inl ⟨by omega, by omega⟩, _, rfl, _, _, rfl, rfl, .inl ⟨_, rfl, _, _, rfl, rfl, (by show (0 : Int) < 2147483629; decide), _, _, rfl, rfl, ⟨by decide, by decide⟩, _, rfl, _, _, rfl, rfl, hm, fin _⟩⟩
theorem run_l_draws (h : sp_l_draws K vs H Q E) : t_l_draws K E (DQ Q) (start ns_l_draws vs) H := by
  obtain ⟨a, ns, rfl, hS, hl, q⟩ := h
  refine ⟨(by show 0 ≤ sizeLine; decide), fun p np => ?_⟩
  refine ⟨_, rfl, _, _, rfl, .inl ⟨_, (same_upd np).seq hS, rfl⟩, _, _, rfl, ?_⟩
  have e0 : (if (63 : Int) < ((ns.map V.int).length : Int) then (63 : Int) else ((ns.map V.int).length : Int)) = (ns.length : Int) := by
    rw [List.length_map, if_neg (by omega)]
  rw [e0]
  refine ⟨(ns.length : Int), rfl, by omega, by omega, ?_⟩
  rw [Int.toNat_natCast]
  refine for_range (lo := 0) (n := ns.length) (fun i σ H2 => ∃ (rs : List Int) (v2 v3 v4 v5 : Option V), σ = [some (.ref a), some (.ref p), v2, v3, v4, v5] ∧ Same H H2 ∧ H2 p = some (.lst (rs.map V.int)) ∧ rs.length ≤ 20 * i)
    ⟨[], none, none, none, none, rfl, same_upd np, upd_same, Nat.zero_le _⟩ ?_ ?_
  · rintro i σ H2 hi ⟨rs, v2, v3, v4, v5, rfl, s2, hp, h20⟩
    have hz : (ns.map V.int)[i]? = some (.int ns[i]) := by rw [List.getElem?_map, List.getElem?_eq_getElem hi]; rfl
    have hz0 : atI (ns.map V.int) (0 + (i : Int)) = some (.int ns[i]) := at_of (j := i) (by simp) hz
    refine ⟨_, rfl, _, rfl, a, ns.map V.int, _, .int ns[i], rfl, rfl, s2.seq hS, hz0, _, rfl, ?_⟩
    refine ⟨_, rfl, _, _, rfl, rfl, ⟨by decide, by decide, by decide⟩, _, _, rfl, rfl, _, rfl, ?_⟩
    refine ite2 (fun _ => ?_) (fun _ => ?_)
    · refine ⟨20, rfl, by decide, by decide, ?_⟩
      refine for_range (lo := 0) (n := 20) (fun j σ H3 => ∃ (rs : List Int) (v2 v4 v5 : Option V) (z : Int), σ = [some (.ref a), some (.ref p), v2, some (.int z), v4, v5] ∧ Same H H3 ∧ H3 p = some (.lst (rs.map V.int)) ∧ rs.length ≤ 20 * i + j)
        ⟨rs, _, _, _, _, rfl, s2, hp, by omega⟩ ?_ ?_
      · rintro j σ H3 hj ⟨rs, v2, v4, v5, z, rfl, s3, hp, h20⟩
        refine ⟨_, rfl, _, _, rfl, rfl, _, rfl, ?_⟩
        refine ite2 (fun _ => ?_) (fun _ => ?_)
        · refine ⟨_, rfl, Or.inl ⟨rfl, _, SqL.of hp⟩, _, rfl, _, _, rfl, rfl, (by show (0 : Int) < 1000; decide), p, _, _, rfl, rfl, hp, (by rw [List.length_map]; exact Nat.lt_of_lt_of_le (show rs.length < 20000 by omega) (by decide)), ?_⟩
          refine ⟨_, rfl, _, _, rfl, rfl, ⟨by decide, by decide⟩, ?_⟩
          refine ⟨rs ++ [z % 1000], _, _, _, _, rfl, fun b o e => ?_, ?_, by rw [List.length_append, List.length_singleton]; omega⟩
          · rw [upd_ne (ne_of_none e np)]
            exact s3 b o e
          · rw [upd_same, map_snoc]
        · exact ⟨rs, _, _, _, z, rfl, s3, hp, by omega⟩
      · rintro σ H3 ⟨rs, v2, v4, v5, z, rfl, s3, hp, h20⟩
        exact ⟨rs, _, _, _, _, rfl, s3, hp, by omega⟩
    · refine ⟨_, rfl, _, rfl, a, ns.map V.int, _, .int ns[i], rfl, rfl, s2.seq hS, hz0, _, _, rfl, rfl, .inr (by decide), _, rfl, _, _, rfl, rfl, .inr (by decide), _, _, rfl, rfl, _, _, rfl, rfl, .inl ⟨_, rfl, ?_⟩⟩
      refine ⟨_, _, rfl, rfl, (by show (0 : Int) < 2147483647; decide), ?_⟩
      have b1 : 0 ≤ (ns[i] * 48271 + (0 + (i : Int)) * 69621 + 12345) % 2147483647 := Int.emod_nonneg _ (by decide)
      have b2 : (ns[i] * 48271 + (0 + (i : Int)) * 69621 + 12345) % 2147483647 < 2147483647 := Int.emod_lt_of_pos _ (by decide)
      refine ⟨3, rfl, by decide, by decide, ?_⟩
      refine for_range (lo := 0) (n := 3) (fun j σ H3 => ∃ (rs : List Int) (v2 v3 v4 : Option V) (z : Int), σ = [some (.ref a), some (.ref p), v2, v3, v4, some (.int z)] ∧ Same H H3 ∧ H3 p = some (.lst (rs.map V.int)) ∧ rs.length ≤ 20 * i + j ∧ 0 ≤ z ∧ z < 2147483647)
        ⟨rs, _, _, _, _, rfl, s2, hp, by omega, b1, b2⟩ ?_ ?_
      · rintro j σ H3 hj ⟨rs, v2, v3, v4, z, rfl, s3, hp, h20, z1, z2⟩
        refine ⟨_, rfl, _, rfl, _, _, rfl, rfl, .inl ⟨by omega, by omega⟩, _, rfl, _, _, rfl, rfl, .inr (by decide), _, _, rfl, rfl, _, _, rfl, rfl, .inl ⟨_, rfl, ?_⟩⟩
        refine ⟨_, _, rfl, rfl, (by show (0 : Int) < 2147483629; decide), ?_⟩
        have c1 : 0 ≤ (z * z + (0 + (j : Int)) * 7919 + 17) % 2147483629 := Int.emod_nonneg _ (by decide)
        have c2 : (z * z + (0 + (j : Int)) * 7919 + 17) % 2147483629 < 2147483629 := Int.emod_lt_of_pos _ (by decide)
        refine ⟨_, rfl, Or.inl ⟨rfl, _, SqL.of hp⟩, _, rfl, _, _, rfl, rfl, (by show (0 : Int) < 1000; decide), p, _, _, rfl, rfl, hp, (by rw [List.length_map]; exact Nat.lt_of_lt_of_le (show rs.length < 20000 by omega) (by decide)), ?_⟩
        refine ⟨rs ++ [((z * z + (0 + (j : Int)) * 7919 + 17) % 2147483629) % 1000], _, _, _, _, rfl, fun b o e => ?_, ?_, by rw [List.length_append, List.length_singleton]; omega, c1, by omega⟩
        · rw [upd_ne (ne_of_none e np)]
          exact s3 b o e
        · rw [upd_same, map_snoc]
      · rintro σ H3 ⟨rs, v2, v3, v4, z, rfl, s3, hp, h20, _, _⟩
        exact ⟨rs, _, _, _, _, rfl, s3, hp, by omega⟩
  · rintro σ H2 ⟨rs, v2, v3, v4, v5, rfl, s2, hp, h20⟩
    exact ⟨_, rfl, q p H2 rs s2 np hp⟩
theorem run_l_reader (h : sp_l_reader K vs H Q E) : t_l_reader K E (DQ Q) (start ns_l_reader vs) H := by
  obtain ⟨a, ns, rfl, hS, hl, q⟩ := h
  refine ⟨_, rfl, a, ns, rfl, hS, hl, fun p H1 rs s1 np hp => ?_⟩
  have fin : ∀ z : Int, (tRet (tDisp [((tC (.str ("row" : Str))), (tVar 1)), ((tC (.str ("at" : Str))), (tC (.int 0))), ((tC (.str ("seed" : Str))), (tVar 2))])) (DQ Q) [some (.ref a), some (.ref p), some (.int z)] H1 := fun z => by
    intro d nd
    have npd : p ≠ d := ne_of_none hp nd
    refine ⟨_, rfl, _, rfl, ?_⟩
    refine ⟨upd_same, drK p 0 z, rfl, (by show 3 ≤ 15; decide), ?_⟩
    rw [drK_merge, upd_upd]
    refine q d p _ (fun b o e => ?_) (s1.free nd) np ⟨0, z, rs, upd_same, ?_, Int.le_refl _⟩
    · rw [upd_ne (ne_of_none (s1 b o e) nd)]
      exact s1 b o e
    · rw [upd_ne npd]
      exact hp
  refine ⟨_, rfl, _, _, rfl, .inl ⟨_, s1.seq hS, rfl⟩, _, _, rfl, rfl, _, rfl, ?_⟩
  refine ite2 (fun c => ?_) (fun _ => fin 5)
  have c := of_decide_eq_true c
  rw [List.length_map] at c
  rcases List.eq_nil_or_concat ns with rfl | ⟨m, z, rfl⟩
  · exact absurd c (by show ¬ (0 : Int) < ((0 : Nat) : Int); decide)
  · have g : atI ((m.concat z).map V.int) (-1) = some (.int z) := by
      rw [List.concat_eq_append, List.map_append]
      exact atI_last _ _
    refine ⟨_, rfl, _, rfl, a, _, _, _, rfl, rfl, s1.seq hS, g, _, rfl, _, _, rfl, rfl, (by show (0 : Int) < 1000003; decide), fin _⟩
theorem run_l_kind (h : sp_l_kind K vs H Q E) : t_l_kind K E (DQ Q) (start ns_l_kind vs) H := by
  obtain ⟨d, rfl, r, hD, q⟩ := h
  refine ⟨(by show 7 ≤ sizeLine; decide), fun p np => ?_⟩
  refine ⟨_, rfl, d, 7, rfl, by decide, r, hD.fresh np, fun j H1 j0 j1 D1 M1 => ?_⟩
  have hp : H1 p = some (.lst (kindM.map mS)) := (M1 p (Ne.symm (hD.neD np))).trans upd_same
  obtain ⟨s, hs, e⟩ := menu_s (ss := kindM) j0 j1
  exact ⟨p, _, _, _, rfl, rfl, SqL.of hp, e, q s _ (((Kept.refl d H).put np).trans (Kept.of_moved M1)) D1 hs⟩
theorem run_l_name (h : sp_l_name K vs H Q E) : t_l_name K E (DQ Q) (start ns_l_name vs) H := by
  obtain ⟨d, rfl, r, hD, q⟩ := h
  refine ⟨(by show 6 ≤ sizeLine; decide), fun p np => ?_⟩
  refine ⟨_, rfl, d, 6, rfl, by decide, r, hD.fresh np, fun j H1 j0 j1 D1 M1 => ?_⟩
  have hp : H1 p = some (.lst (nameM.map mS)) := (M1 p (Ne.symm (hD.neD np))).trans upd_same
  obtain ⟨s, hs, e⟩ := menu_s (ss := nameM) j0 j1
  exact ⟨p, _, _, _, rfl, rfl, SqL.of hp, e, q s _ (((Kept.refl d H).put np).trans (Kept.of_moved M1)) D1 hs⟩
theorem alloc_kept {d r a : Addr} {H H' : Hp} {o : HO} (k : Kept d H H') (D : Draws H' d r) (n : H' a = none) : Kept d H (upd H' a o) := k.put (k.free D.atD n)
theorem kept_tk {d r : Addr} {G G' : Hp} (D : Draws G d r) (k : Kept d G G') : TK G G' := by
  obtain ⟨i, s, ns, h1, _⟩ := D
  exact fun a xs h => k a _ (ne_of h h1 (by intro z; cases z)) h
theorem val_two {m i : Int} {w : Str} (hs : PyData.strOk w = true) (h : w = ("ref" : Str) → 0 ≤ i ∧ i < m) : ValD m (.tuple [.str w, .int i]) := by
  refine ⟨⟨w, _, rfl, fun _ => ⟨i, _, rfl⟩⟩, fun j e => ?_, by simp [PyData.canLay0, PyData.canLayAll0, hs], by simp [PyData.depth, PyData.depthAll]⟩
  have e : (if w = ("ref" : Str) then some i else none) = some j := e
  split at e
  · rename_i c
    cases e
    exact h c
  · cases e
theorem val_one {m : Int} {w : Str} (hs : PyData.strOk w = true) (h : w ≠ ("ref" : Str)) : ValD m (.tuple [.str w]) := by
  refine ⟨⟨w, _, rfl, fun e => absurd e h⟩, (fun j e => by cases e), by simp [PyData.canLay0, PyData.canLayAll0, hs], by simp [PyData.depth, PyData.depthAll]⟩
theorem run_l_value (h : sp_l_value K vs H Q E) : t_l_value K E (DQ Q) (start ns_l_value vs) H := by
  obtain ⟨d, m, rfl, hm, r, hD, q⟩ := h
  refine ⟨_, rfl, d, 8, rfl, by decide, r, hD, fun j H1 j0 j1 D1 M1 => ?_⟩
  have K1 : Kept d H H1 := Kept.of_moved M1
  refine ⟨_, rfl, _, _, rfl, rfl, _, rfl, ?_⟩
  refine ite2 (fun _ => ?_) (fun c => ?_)
  · refine ⟨_, rfl, _, rfl, d, m, rfl, hm, r, D1, fun k H2 k0 k1 D2 M2 => ⟨(by show 2 ≤ sizeLine; decide), fun p np => ?_⟩⟩
    exact q _ (.tuple [.str ("ref" : Str), .int k]) _ ((K1.trans (Kept.of_moved M2)).put ((K1.trans (Kept.of_moved M2)).free D2.atD np)) (D2.fresh np) (.tup upd_same (.cons (.str _) (.cons (.int _) .nil))) (val_two (by decide +kernel) fun _ => ⟨k0, k1⟩)
  · have c : ¬ j < 4 := fun z => c (decide_eq_true z)
    refine ⟨_, rfl, d, 90, rfl, by decide, r, D1, fun k1 H2 a0 a1 D2 M2 => ⟨(by show 2 ≤ sizeLine; decide), fun p1 n1 => ⟨(by show 1 ≤ sizeLine; decide), fun p2 n2 => ?_⟩⟩⟩
    have D3 := D2.fresh (o := .tup [V.str ("num" : Str), V.int k1]) n1
    have D4 := D3.fresh (o := .tup [V.str ("nothing" : Str)]) n2
    refine ⟨_, rfl, d, 4, rfl, by decide, r, D4, fun k2 H5 b0 b1 D5 M5 => ⟨(by show 2 ≤ sizeLine; decide), fun p3 n3 => ⟨(by show 2 ≤ sizeLine; decide), fun p4 n4 => ⟨(by show 4 ≤ sizeLine; decide), fun pl nl => ?_⟩⟩⟩⟩
    have D6 := D5.fresh (o := .tup [V.str ("method" : Str), V.int k2]) n3
    have D7 := D6.fresh (o := .tup [V.str ("block" : Str), V.int 1]) n4
    have D8 := D7.fresh (o := .lst [V.ref p1, V.ref p2, V.ref p3, V.ref p4]) nl
    have K2 : Kept d H H2 := K1.trans (Kept.of_moved M2)
    have K3 := alloc_kept (o := .tup [V.str ("num" : Str), V.int k1]) K2 D2 n1
    have K4 := alloc_kept (o := .tup [V.str ("nothing" : Str)]) K3 D3 n2
    have K5 := K4.trans (Kept.of_moved M5)
    have K6 := alloc_kept (o := .tup [V.str ("method" : Str), V.int k2]) K5 D5 n3
    have K7 := alloc_kept (o := .tup [V.str ("block" : Str), V.int 1]) K6 D6 n4
    have K8 := alloc_kept (o := .lst [V.ref p1, V.ref p2, V.ref p3, V.ref p4]) K7 D7 nl
    have t8 := TK.new (o := .lst [V.ref p1, V.ref p2, V.ref p3, V.ref p4]) nl
    have t7 := (TK.new (o := .tup [V.str ("block" : Str), V.int 1]) n4).trans t8
    have t6 := (TK.new (o := .tup [V.str ("method" : Str), V.int k2]) n3).trans t7
    have t5 := (kept_tk D4 (Kept.of_moved M5)).trans t6
    have t4 := (TK.new (o := .tup [V.str ("nothing" : Str)]) n2).trans t5
    obtain rfl | rfl | rfl | rfl : j = 4 ∨ j = 5 ∨ j = 6 ∨ j = 7 := by omega
    · refine ⟨_, rfl, _, _, rfl, rfl, pl, _, _, _, rfl, rfl, SqL.of upd_same, atI_nat (j := 0) rfl, q _ (.tuple [.str ("num" : Str), .int k1]) _ K8 D8 (.tup (t4 _ _ upd_same) (.cons (.str _) (.cons (.int _) .nil))) (val_two (by decide +kernel) fun z => absurd z (by decide +kernel))⟩
    · refine ⟨_, rfl, _, _, rfl, rfl, pl, _, _, _, rfl, rfl, SqL.of upd_same, atI_nat (j := 1) rfl, q _ (.tuple [.str ("nothing" : Str)]) _ K8 D8 (.tup (t5 _ _ upd_same) (.cons (.str _) .nil)) (val_one (by decide +kernel) (by decide +kernel))⟩
    · refine ⟨_, rfl, _, _, rfl, rfl, pl, _, _, _, rfl, rfl, SqL.of upd_same, atI_nat (j := 2) rfl, q _ (.tuple [.str ("method" : Str), .int k2]) _ K8 D8 (.tup (t7 _ _ upd_same) (.cons (.str _) (.cons (.int _) .nil))) (val_two (by decide +kernel) fun z => absurd z (by decide +kernel))⟩
    · refine ⟨_, rfl, _, _, rfl, rfl, pl, _, _, _, rfl, rfl, SqL.of upd_same, atI_nat (j := 3) rfl, q _ (.tuple [.str ("block" : Str), .int 1]) _ K8 D8 (.tup (t8 _ _ upd_same) (.cons (.str _) (.cons (.int _) .nil))) (val_two (by decide +kernel) fun z => absurd z (by decide +kernel))⟩
end
end Rm.Q

/-! M22: what a search rests on: plain Lean; worlds of objects that a law makes. -/
namespace Rm.Q
open PySem PySem.Spec PyProof.Rows L2
/-! ### data without truths: equal is the same -/
mutual
def plD : PyData → Bool
  | .none | .int _ | .str _ => true
  | .tuple xs => plAll xs
  | _ => false
def plAll : List PyData → Bool
  | [] => true
  | x :: xs => plD x && plAll xs
end
mutual
theorem eqv_eq : ∀ (d e : PyData), plD d = true → plD e = true → PyData.eqv d e = true → d = e
  | .none, e, _, he, h => by cases e <;> simp_all [PyData.eqv, plD]
  | .int i, e, _, he, h => by cases e <;> simp_all [PyData.eqv, plD]
  | .str x, e, _, he, h => by cases e <;> simp_all [PyData.eqv, plD]
  | .tuple xs, e, hd, he, h => by
    cases e with
    | tuple ys =>
      simp only [plD] at hd he
      simp only [PyData.eqv] at h
      rw [eqvAll_eq xs ys hd he h]
    | _ => simp_all [PyData.eqv, plD]
  | .bool _, _, hd, _, _ => by simp [plD] at hd
  | .list _, _, hd, _, _ => by simp [plD] at hd
  | .dict _, _, hd, _, _ => by simp [plD] at hd
theorem eqvAll_eq : ∀ (xs ys : List PyData), plAll xs = true → plAll ys = true → PyData.eqvAll xs ys = true → xs = ys
  | [], ys, _, _, h => by
    cases ys with
    | nil => rfl
    | cons y ys => simp [PyData.eqvAll] at h
  | x :: xs, ys, hd, he, h => by
    cases ys with
    | nil => simp [PyData.eqvAll] at h
    | cons y ys =>
      simp only [plAll, Bool.and_eq_true] at hd he
      simp only [PyData.eqvAll, Bool.and_eq_true] at h
      rw [eqv_eq x y hd.1 he.1 h.1, eqvAll_eq xs ys hd.2 he.2 h.2]
end
mutual
theorem tr_pl {H : Hp} : ∀ {v : V} {d : PyData}, Tr H v d → plD d = true
  | _, _, .non => rfl
  | _, _, .int _ => rfl
  | _, _, .str _ => rfl
  | _, _, .tup _ r => by
    simp only [plD]
    exact trs_pl r
theorem trs_pl {H : Hp} : ∀ {vs : List V} {ds : List PyData}, Trs H vs ds → plAll ds = true
  | _, _, .nil => rfl
  | _, _, .cons h r => by
    simp only [plAll, Bool.and_eq_true]
    exact ⟨tr_pl h, trs_pl r⟩
end
/-! ### searches -/
section
variable {tab tab' : List En} {x : Str}
theorem sr_mono : ∀ (m : Nat) (L A w : List Int), ∀ i ∈ L, i ∈ (srF tab x m L A w).1
  | 0, _, _, _, _, h => h
  | _ + 1, _, _, [], _, h => h
  | m + 1, L, A, j :: w, i, h => by
    unfold srF
    split
    · exact sr_mono m L A w i h
    · split
      · exact sr_mono m _ _ w i (List.mem_append_left _ h)
      · exact sr_mono m _ _ _ i (List.mem_append_left _ h)
theorem sr_sub : ∀ (m : Nat) (L A w : List Int), (∀ i ∈ A, i ∈ L) → ∀ i ∈ (srF tab x m L A w).2, i ∈ (srF tab x m L A w).1
  | 0, _, _, _, h => h
  | _ + 1, _, _, [], h => h
  | m + 1, L, A, j :: w, h => by
    unfold srF
    split
    · exact sr_sub m L A w h
    · split
      · refine sr_sub m _ _ w fun i hi => ?_
        rcases List.mem_append.mp hi with hi | hi
        · exact List.mem_append_left _ (h i hi)
        · exact List.mem_append_right _ hi
      · exact sr_sub m _ _ _ fun i hi => List.mem_append_left _ (h i hi)
/-- what is looked at agrees: the same search -/
theorem sr_congr : ∀ (m : Nat) (L A w : List Int), (∀ i ∈ (srF tab x m L A w).1, hasS tab' x i = hasS tab x i ∧ parI tab' i = parI tab i) → srF tab' x m L A w = srF tab x m L A w
  | 0, _, _, _, _ => rfl
  | _ + 1, _, _, [], _ => rfl
  | m + 1, L, A, j :: w, h => by
    unfold srF at h ⊢
    by_cases c : j ∈ L
    · rw [if_pos c] at h
      rw [if_pos c, if_pos c]
      exact sr_congr m L A w h
    · rw [if_neg c] at h
      rw [if_neg c, if_neg c]
      have hj : hasS tab' x j = hasS tab x j ∧ parI tab' j = parI tab j := by
        refine h j ?_
        split
        · exact sr_mono m _ _ w j (List.mem_append_right _ (List.mem_singleton.mpr rfl))
        · exact sr_mono m _ _ _ j (List.mem_append_right _ (List.mem_singleton.mpr rfl))
      rw [hj.1, hj.2]
      by_cases c2 : hasS tab x j = true
      · rw [if_pos c2] at h
        rw [if_pos c2, if_pos c2]
        exact sr_congr m _ _ w h
      · rw [if_neg c2] at h
        rw [if_neg c2, if_neg c2]
        exact sr_congr m _ _ _ h
theorem sr_fuel (o : tab.Pairwise fun a b => a.id < b.id) (cl : Closed tab) : ∀ (m m2 : Nat) (L A w : List Int), L.Nodup → (∀ i ∈ L, isId tab i) → (∀ i ∈ w, isId tab i) → (tab.length - L.length) * (bdS tab + 1) + w.length < m → (tab.length - L.length) * (bdS tab + 1) + w.length < m2 → srF tab x m L A w = srF tab x m2 L A w
  | 0, _, _, _, _, _, _, _, h, _ => absurd h (Nat.not_lt_zero _)
  | _, 0, _, _, _, _, _, _, _, h => absurd h (Nat.not_lt_zero _)
  | m + 1, m2 + 1, L, A, [], _, _, _, _, _ => rfl
  | m + 1, m2 + 1, L, A, j :: w, nd, hL, hw, h1, h2 => by
    rw [List.length_cons] at h1 h2
    have hw2 : ∀ i ∈ w, isId tab i := fun i hi => hw i (List.mem_cons_of_mem _ hi)
    unfold srF
    by_cases c : j ∈ L
    · rw [if_pos c, if_pos c]
      exact sr_fuel o cl m m2 L A w nd hL hw2 (by omega) (by omega)
    · rw [if_neg c, if_neg c]
      have ndL : (L ++ [j]).Nodup := List.nodup_append.mpr ⟨nd, by simp, fun y hy z hz => by
        rw [List.mem_singleton.mp hz]
        intro k
        exact c (by rw [← k]; exact hy)⟩
      have hLi : ∀ i ∈ L ++ [j], isId tab i := fun i hi => by
        rcases List.mem_append.mp hi with hi | hi
        · exact hL i hi
        · rw [List.mem_singleton.mp hi]
          exact hw j List.mem_cons_self
      have ll := ids_len ndL hLi
      rw [List.length_append, List.length_singleton] at ll
      have el : (L ++ [j]).length = L.length + 1 := by rw [List.length_append]; rfl
      split
      · have a1 := fuel_step (N := tab.length) (l := L.length) (B := bdS tab) (w := w.length) (m := m) ll h1 (Nat.zero_le _)
        have a2 := fuel_step (N := tab.length) (l := L.length) (B := bdS tab) (w := w.length) (m := m2) ll h2 (Nat.zero_le _)
        exact sr_fuel o cl m m2 _ _ w ndL hLi hw2 (by rw [el]; omega) (by rw [el]; omega)
      · obtain ⟨e, he, rfl⟩ := hw j List.mem_cons_self
        rw [parI_mem o he]
        have b := par_bd he
        have a1 := fuel_step (N := tab.length) (l := L.length) (B := bdS tab) (w := w.length) (m := m) ll h1 b
        have a2 := fuel_step (N := tab.length) (l := L.length) (B := bdS tab) (w := w.length) (m := m2) ll h2 b
        refine sr_fuel o cl m m2 _ _ _ ndL hLi (fun i hi => ?_) (by rw [el, List.length_append]; exact a1) (by rw [el, List.length_append]; exact a2)
        rcases List.mem_append.mp hi with hi | hi
        · exact cl e he i hi
        · exact hw2 i hi
theorem sr_ids (o : tab.Pairwise fun a b => a.id < b.id) (cl : Closed tab) : ∀ (m : Nat) (L A w : List Int), (∀ i ∈ L, isId tab i) → (∀ i ∈ w, isId tab i) → ∀ i ∈ (srF tab x m L A w).1, isId tab i
  | 0, _, _, _, h, _ => h
  | _ + 1, _, _, [], h, _ => h
  | m + 1, L, A, j :: w, h, hw => by
    have hw2 : ∀ i ∈ w, isId tab i := fun i hi => hw i (List.mem_cons_of_mem _ hi)
    have hLi : ∀ i ∈ L ++ [j], isId tab i := fun i hi => by
      rcases List.mem_append.mp hi with hi | hi
      · exact h i hi
      · rw [List.mem_singleton.mp hi]
        exact hw j List.mem_cons_self
    unfold srF
    split
    · exact sr_ids o cl m L A w h hw2
    · split
      · exact sr_ids o cl m _ _ w hLi hw2
      · refine sr_ids o cl m _ _ _ hLi fun i hi => ?_
        obtain ⟨e, he, rfl⟩ := hw j List.mem_cons_self
        rw [parI_mem o he] at hi
        rcases List.mem_append.mp hi with hi | hi
        · exact cl e he i hi
        · exact hw2 i hi
theorem start_lt (st : List Int) : (tab.length - ([] : List Int).length) * (bdS tab + 1) + st.length < fuel tab st := by
  unfold fuel
  rw [List.length_nil, Nat.sub_zero]
  omega
theorem srch_ids (o : tab.Pairwise fun a b => a.id < b.id) (cl : Closed tab) {st : List Int} (hst : ∀ i ∈ st, isId tab i) : ∀ i ∈ (srch tab x st).1, isId tab i := sr_ids o cl _ [] [] st (fun i hi => by cases hi) hst
/-- the same search, the same outcome -/
theorem res_congr (o : tab.Pairwise fun a b => a.id < b.id) (o' : tab'.Pairwise fun a b => a.id < b.id) (cl : Closed tab) (cl' : Closed tab') {st : List Int} (h1 : ∀ i ∈ st, isId tab i) (h2 : ∀ i ∈ st, isId tab' i)
    (h : ∀ i ∈ (srch tab x st).1, slotOf tab' x i = slotOf tab x i ∧ parI tab' i = parI tab i) : resD tab' x (srch tab' x st) = resD tab x (srch tab x st) := by
  have e : srch tab' x st = srch tab x st := by
    have f1 := start_lt (tab := tab) st
    have f2 := start_lt (tab := tab') st
    have a1 : srch tab x st = srF tab x (fuel tab st + fuel tab' st) [] [] st := sr_fuel o cl _ _ [] [] st List.nodup_nil (fun i hi => by cases hi) h1 f1 (by omega)
    have a2 : srch tab' x st = srF tab' x (fuel tab st + fuel tab' st) [] [] st := sr_fuel o' cl' _ _ [] [] st List.nodup_nil (fun i hi => by cases hi) h2 f2 (by omega)
    rw [a1] at h ⊢
    rw [a2]
    exact sr_congr _ [] [] st fun i hi => ⟨by unfold hasS; rw [(h i hi).1], (h i hi).2⟩
  have sub : ∀ i ∈ (srch tab x st).2, i ∈ (srch tab x st).1 := sr_sub _ [] [] st fun i hi => by cases hi
  have key : outD tab' x (srch tab x st).2 = outD tab x (srch tab x st).2 := by
    generalize (srch tab x st).2 = hs at sub ⊢
    match hs, sub with
    | [], _ => rfl
    | [j], sub =>
      have one : ∀ t : List En, outD t x [j] = match slotOf t x j with | some s => PyData.tuple [.str ("found" : Str), .int j, .str s.kind, s.val] | none => .none := fun _ => rfl
      rw [one, one, (h j (sub j List.mem_cons_self)).1]
    | _ :: _ :: _, _ => rfl
  rw [e]
  unfold resD
  rw [key]
/-- what a law keeps of an object: its slot of a name and its parents -/
def slD (tab : List En) (x : Str) (i : Int) : PyData := match slotOf tab x i with
  | some s => .tuple [.str s.kind, s.val]
  | none => .none
def vD (tab : List En) (x : Str) (i : Int) : PyData := .tuple [slD tab x i, .tuple ((parI tab i).map PyData.int)]
theorem slotOf_name {i : Int} {s : Sl} (h : slotOf tab x i = some s) : s.name = x := by
  unfold slotOf at h
  obtain ⟨e, _, g⟩ := Option.bind_eq_some_iff.mp h
  exact (getS_mem g).2
theorem ints_inj : ∀ {a b : List Int}, a.map PyData.int = b.map PyData.int → a = b
  | [], [], _ => rfl
  | [], _ :: _, h => by cases h
  | _ :: _, [], h => by cases h
  | x :: a, y :: b, h => by
    obtain ⟨h1, h2⟩ := List.cons.inj h
    rw [PyData.int.inj h1, ints_inj h2]
theorem vD_inj {i : Int} (h : vD tab' x i = vD tab x i) : slotOf tab' x i = slotOf tab x i ∧ parI tab' i = parI tab i := by
  unfold vD at h
  injection h with h
  injection h with h1 h2
  injection h2 with h2
  injection h2 with h2
  refine ⟨?_, ints_inj h2⟩
  unfold slD at h1
  cases a : slotOf tab' x i with
  | none =>
    rw [a] at h1
    cases b : slotOf tab x i with
    | none => rfl
    | some s =>
      rw [b] at h1
      cases h1
  | some s =>
    rw [a] at h1
    cases b : slotOf tab x i with
    | none =>
      rw [b] at h1
      cases h1
    | some t =>
      rw [b] at h1
      injection h1 with h1
      injection h1 with h3 h4
      injection h3 with h3
      injection h4 with h4
      have n1 := slotOf_name a
      have n2 := slotOf_name b
      obtain ⟨x1, x2, x3⟩ := s
      obtain ⟨y1, y2, y3⟩ := t
      dsimp only at n1 n2 h3 h4
      rw [n1, n2, h3, h4]
end
/-! ### worlds that the law makes -/
structure SlD (m : Int) (s : Sl) : Prop where
  nm : ∃ t ∈ nameM, s.name = Str.ofString t
  kd : PyData.strOk s.kind = true
  vl : ValD m s.val
structure GoodT (tab : List En) (n : Nat) (m : Int) : Prop where
  ids : tab.map (·.id) = List.range n
  sl : ∀ e ∈ tab, ∀ s ∈ e.sl, SlD m s
  nd : ∀ e ∈ tab, NdS e.sl
section
variable {tab : List En} {n : Nat} {m : Int}
theorem GoodT.len (g : GoodT tab n m) : tab.length = n := by
  have := congrArg List.length g.ids
  rwa [List.length_map, List.length_range] at this
theorem GoodT.ord (g : GoodT tab n m) : tab.Pairwise fun a b => a.id < b.id := by
  have a : (List.range n).Pairwise (· < ·) := List.pairwise_lt_range
  rw [← g.ids] at a
  exact List.pairwise_map.mp a
theorem GoodT.isId (g : GoodT tab n m) {i : Int} (h0 : 0 ≤ i) (h1 : i < n) : isId tab i := by
  obtain ⟨k, rfl⟩ := int_nat h0
  have : k ∈ tab.map (·.id) := by
    rw [g.ids]
    exact List.mem_range.mpr (by omega)
  obtain ⟨e, he, rfl⟩ := List.mem_map.mp this
  exact ⟨e, he, rfl⟩
theorem GoodT.lt (g : GoodT tab n m) {e : En} (he : e ∈ tab) : e.id < n := by
  have : e.id ∈ tab.map (·.id) := List.mem_map.mpr ⟨e, he, rfl⟩
  rw [g.ids] at this
  exact List.mem_range.mp this
theorem GoodT.closed (g : GoodT tab n m) (le : m ≤ n) : Closed tab := fun e he i hi => by
  obtain ⟨s, hs, h⟩ := List.mem_filterMap.mp hi
  unfold parOf at h
  split at h
  · obtain ⟨a, b⟩ := (g.sl e he s hs).vl.ref i h
    exact g.isId a (by omega)
  · cases h
theorem strs_len : ∀ {L M : List Str}, L.Nodup → (∀ i ∈ L, i ∈ M) → L.length ≤ M.length
  | [], _, _, _ => Nat.zero_le _
  | i :: L, M, nd, h => by
    obtain ⟨n1, n2⟩ := List.nodup_cons.mp nd
    have hi := h i List.mem_cons_self
    have e := List.length_erase_of_mem hi
    have pos : 0 < M.length := List.length_pos_of_mem hi
    have ih := strs_len (M := M.erase i) n2 fun j hj => (List.mem_erase_of_ne (fun z => n1 (by rw [← z]; exact hj))).mpr (h j (List.mem_cons_of_mem _ hj))
    rw [List.length_cons]
    omega
theorem six {m : Int} {sl : List Sl} (nd : NdS sl) (h : ∀ s ∈ sl, SlD m s) : sl.length ≤ 6 := by
  have := strs_len (M := nameM.map Str.ofString) nd fun i hi => by
    obtain ⟨s, hs, rfl⟩ := List.mem_map.mp hi
    obtain ⟨t, ht, e⟩ := (h s hs).nm
    exact List.mem_map.mpr ⟨t, ht, e.symm⟩
  rw [List.length_map, List.length_map] at this
  exact this
theorem GoodT.six (g : GoodT tab n m) {e : En} (he : e ∈ tab) : e.sl.length ≤ 6 := Q.six (g.nd e he) (g.sl e he)
theorem sum_le {B : Nat} : ∀ {l : List Nat}, (∀ x ∈ l, x ≤ B) → l.sum ≤ l.length * B
  | [], _ => by simp
  | y :: l, h => by
    have := sum_le fun x hx => h x (List.mem_cons_of_mem _ hx)
    have := h y List.mem_cons_self
    rw [List.sum_cons, List.length_cons, Nat.succ_mul]
    omega
theorem GoodT.fuel (g : GoodT tab n m) (hn : n ≤ 100) {st : List Int} (hs : st.length ≤ 1000) : fuel tab st ≤ 10000000 := by
  have b : bdS tab ≤ n * 6 := by
    have := sum_le (B := 6) (l := tab.map fun e => (parS e.sl).length) fun x hx => by
      obtain ⟨e, he, rfl⟩ := List.mem_map.mp hx
      exact Nat.le_trans (parS_len _) (g.six he)
    rw [List.length_map, g.len] at this
    exact this
  unfold Rm.fuel
  rw [g.len]
  have : n * (bdS tab + 1) ≤ 100 * 601 := Nat.mul_le_mul hn (by omega)
  omega
theorem GoodT.set (g : GoodT tab n m) (i : Nat) {sl : List Sl} (h : ∀ s ∈ sl, SlD m s) (nd : NdS sl) : GoodT (setE tab i sl) n m := by
  refine ⟨(setE_id tab i sl).trans g.ids, fun e he => ?_, fun e he => ?_⟩
  · obtain ⟨e0, m0, rfl⟩ := setE_mem he
    split
    · exact h
    · exact g.sl e0 m0
  · obtain ⟨e0, m0, rfl⟩ := setE_mem he
    split
    · exact nd
    · exact g.nd e0 m0
theorem GoodT.add (g : GoodT tab n m) (o : Addr) {sl : List Sl} (h : ∀ s ∈ sl, SlD m s) (nd : NdS sl) : GoodT (tab ++ [⟨n, o, sl⟩]) (n + 1) m := by
  refine ⟨by rw [List.map_append, g.ids, List.range_succ]; rfl, fun e he => ?_, fun e he => ?_⟩
  · rcases List.mem_append.mp he with he | he
    · exact g.sl e he
    · rw [List.mem_singleton.mp he]
      exact h
  · rcases List.mem_append.mp he with he | he
    · exact g.nd e he
    · rw [List.mem_singleton.mp he]
      exact nd
theorem mkS_nd (ts : List Sl) : NdS (mkS ts) := by
  have z : ∀ (l acc : List Sl), NdS acc → NdS (l.foldl putS acc) := by
    intro l
    induction l with
    | nil => exact fun _ h => h
    | cons s l ih => exact fun acc h => ih _ (putS_nd s h)
  exact z ts [] List.nodup_nil
theorem mkS_mem {ts : List Sl} {s : Sl} (h : s ∈ mkS ts) : s ∈ ts := by
  have z : ∀ (l acc : List Sl) (s : Sl), s ∈ l.foldl putS acc → s ∈ acc ∨ s ∈ l := by
    intro l
    induction l with
    | nil => exact fun _ s h => .inl h
    | cons t l ih =>
      intro acc s h
      rcases ih _ s h with h | h
      · rcases putS_mem h with h | h
        · exact .inl h
        · exact .inr (by rw [h]; exact List.mem_cons_self)
      · exact .inr (List.mem_cons_of_mem _ h)
  rcases z ts [] s h with h | h
  · cases h
  · exact h
/-- elsewhere nothing has changed -/
theorem slot_set (g : GoodT tab n m) (i : Nat) (sl : List Sl) {x : Str} {j : Int} (hj : isId tab j) (ne : j ≠ (i : Int)) : slotOf (setE tab i sl) x j = slotOf tab x j ∧ parI (setE tab i sl) j = parI tab j := by
  obtain ⟨e, he, rfl⟩ := hj
  have ne : e.id ≠ i := by omega
  have m2 : e ∈ setE tab i sl := List.mem_map.mpr ⟨e, he, if_neg ne⟩
  have o2 := pw_ids (setE_id tab i sl) g.ord
  rw [slotOf_mem o2 m2, slotOf_mem g.ord he, parI_mem o2 m2, parI_mem g.ord he]
  exact ⟨rfl, rfl⟩
theorem slot_add {t : En} (o2 : (tab ++ [t]).Pairwise fun a b => a.id < b.id) (g : GoodT tab n m) {x : Str} {j : Int} (hj : isId tab j) : slotOf (tab ++ [t]) x j = slotOf tab x j ∧ parI (tab ++ [t]) j = parI tab j := by
  obtain ⟨e, he, rfl⟩ := hj
  have m2 : e ∈ tab ++ [t] := List.mem_append_left _ he
  rw [slotOf_mem o2 m2, slotOf_mem g.ord he, parI_mem o2 m2, parI_mem g.ord he]
  exact ⟨rfl, rfl⟩
end
/-! ### a world: draws, objects -/
structure Wo (K : PySem.W.Frag) (H : Hp) (d r p dx tb : Addr) (tab : List En) (n : Nat) (m : Int) : Prop where
  dr : Draws H d r
  ob : Ob K H p dx tb tab n
  gd : GoodT tab n m
  dt : d ≠ tb
  da : ∀ e ∈ tab, d ≠ e.at_
/-- what else stands stays -/
def KW (d p tb : Addr) (tab : List En) (H H' : Hp) : Prop := ∀ b u, b ≠ d → b ≠ p → b ≠ tb → (∀ e ∈ tab, b ≠ e.at_) → H b = some u → H' b = some u
section
variable {K : PySem.W.Frag} {H H' : Hp} {d r p dx tb : Addr} {tab : List En} {n : Nat} {m : Int}
theorem Wo.pd (w : Wo K H d r p dx tb tab n m) : p ≠ d := by
  obtain ⟨i, s, ns, h1, _⟩ := w.dr
  exact ne_of w.ob.ins h1 (by intro z; cases z)
theorem Wo.same (w : Wo K H d r p dx tb tab n m) (s : Same H H') : Wo K H' d r p dx tb tab n m := ⟨w.dr.same s, w.ob.same s, w.gd, w.dt, w.da⟩
theorem Wo.kept (w : Wo K H d r p dx tb tab n m) (k : Kept d H H') (D : Draws H' d r) : Wo K H' d r p dx tb tab n m := by
  refine ⟨D, w.ob.keep ?_ ?_ (fun e he => ?_) (kept_tk w.dr k), w.gd, w.dt, w.da⟩
  · exact (k _ _ w.pd w.ob.ins).trans w.ob.ins.symm
  · exact (k _ _ (Ne.symm w.dt) w.ob.tbl).trans w.ob.tbl.symm
  · obtain ⟨kvs, g, _⟩ := w.ob.ent e he
    exact (k _ _ (Ne.symm (w.da e he)) g).trans g.symm
theorem Wo.ko {tab' : List En} {n' : Nat} (w : Wo K H d r p dx tb tab n m) (k : KO p tb tab H H') (O : Ob K H' p dx tb tab' n') (g : GoodT tab' n' m) (da : ∀ e ∈ tab', d ≠ e.at_) : Wo K H' d r p dx tb tab' n' m := by
  obtain ⟨i, s, ns, h1, h2, h3⟩ := id w.dr
  refine ⟨⟨i, s, ns, k _ _ (Ne.symm w.pd) w.dt w.da h1, k _ _ (ne_of h2 w.ob.ins (by intro z; cases z)) (ne_of h2 w.ob.tbl (by intro z; cases z)) (fun e he => ?_) h2, h3⟩, O, g, w.dt, da⟩
  obtain ⟨kvs, g, _⟩ := w.ob.ent e he
  exact ne_of h2 g (by intro z; cases z)
/-- a list of the def's own is written anew -/
theorem Wo.lst {u : Addr} {xs ys : List V} (w : Wo K H d r p dx tb tab n m) (h : H u = some (.lst xs)) (ur : u ≠ r) : Wo K (upd H u (.lst ys)) d r p dx tb tab n m := by
  obtain ⟨i, s, ns, h1, h2, h3⟩ := id w.dr
  have ud : u ≠ d := ne_of h h1 (by intro z; cases z)
  have tk : TK H (upd H u (.lst ys)) := fun b zs e => by
    rw [upd_ne (ne_of e h (by intro z; cases z))]
    exact e
  refine ⟨w.dr.other ud ur, w.ob.keep (upd_ne (ne_of w.ob.ins h (by intro z; cases z))) (upd_ne (ne_of w.ob.tbl h (by intro z; cases z))) (fun e he => ?_) tk, w.gd, w.dt, w.da⟩
  obtain ⟨kvs, g, _⟩ := w.ob.ent e he
  exact upd_ne (ne_of g h (by intro z; cases z))
theorem Wo.closed (w : Wo K H d r p dx tb tab n m) (le : m ≤ n) : Closed tab := w.gd.closed le
theorem KW.trans {H2 : Hp} (a : KW d p tb tab H H') (b : KW d p tb tab H' H2) : KW d p tb tab H H2 := fun c u n1 n2 n3 n4 z => b c u n1 n2 n3 n4 (a c u n1 n2 n3 n4 z)
theorem KW.kept (k : Kept d H H') : KW d p tb tab H H' := fun b u n1 _ _ _ z => k b u n1 z
theorem KW.ko (k : KO p tb tab H H') : KW d p tb tab H H' := fun b u _ n2 n3 n4 z => k b u n2 n3 n4 z
theorem KW.same (s : Same H H') : KW d p tb tab H H' := fun b u _ _ _ _ z => s b u z
theorem KW.tk (w : Wo K H d r p dx tb tab n m) (k : KW d p tb tab H H') : TK H H' := fun a xs z => by
  obtain ⟨i, s, ns, h1, _⟩ := w.dr
  refine k a _ (ne_of z h1 (by intro z; cases z)) (ne_of z w.ob.ins (by intro z; cases z)) (ne_of z w.ob.tbl (by intro z; cases z)) (fun e he => ?_) z
  obtain ⟨kvs, g, _⟩ := w.ob.ent e he
  exact ne_of z g (by intro z; cases z)
/-! ### shapes -/
theorem ints_lay : ∀ L : List Int, PyData.canLayAll0 (L.map PyData.int) = true ∧ PyData.depthAll (L.map PyData.int) = 0
  | [] => ⟨rfl, rfl⟩
  | i :: L => by
    obtain ⟨a, b⟩ := ints_lay L
    rw [List.map_cons]
    simp [PyData.canLayAll0, PyData.depthAll, PyData.canLay0, PyData.depth, a, b]
theorem slot_sl (w : Wo K H d r p dx tb tab n m) {x : Str} {i : Int} {s : Sl} (h : slotOf tab x i = some s) : SlD m s := by
  unfold slotOf at h
  obtain ⟨e, h1, h2⟩ := Option.bind_eq_some_iff.mp h
  exact w.gd.sl e (List.mem_of_find?_eq_some h1) s (getS_mem h2).1
theorem outD_lay (w : Wo K H d r p dx tb tab n m) (x : Str) (hs : List Int) : PyData.canLay0 (outD tab x hs) = true ∧ PyData.depth (outD tab x hs) ≤ 2 := by
  have o1 : PyData.strOk ("none" : Str) = true := by decide +kernel
  have o2 : PyData.strOk ("found" : Str) = true := by decide +kernel
  have o3 : PyData.strOk ("several" : Str) = true := by decide +kernel
  match hs with
  | [] => exact ⟨by simp [outD, PyData.canLay0, PyData.canLayAll0, o1], by simp [outD, PyData.depth, PyData.depthAll]⟩
  | [j] =>
    have one : outD tab x [j] = match slotOf tab x j with | some s => PyData.tuple [.str ("found" : Str), .int j, .str s.kind, s.val] | none => .none := rfl
    rw [one]
    cases z : slotOf tab x j with
    | none => exact ⟨rfl, by simp [PyData.depth]⟩
    | some s =>
      have sd := slot_sl w z
      have v1 := sd.vl.lay
      have v2 := sd.vl.dep
      have v3 := sd.kd
      refine ⟨by simp [PyData.canLay0, PyData.canLayAll0, o2, v1, v3], ?_⟩
      simp only [PyData.depth, PyData.depthAll]
      omega
  | _ :: _ :: _ => exact ⟨by simp [outD, PyData.canLay0, PyData.canLayAll0, o3], by simp [outD, PyData.depth, PyData.depthAll]⟩
theorem shaped_small {d : PyData} (h : PyData.canLay0 d = true) (k : PyData.depth d ≤ 60) : SeqAt.shaped d = true := by
  unfold SeqAt.shaped
  rw [h, Bool.true_and]
  exact decide_eq_true (by omega)
theorem resD_shaped (w : Wo K H d r p dx tb tab n m) (x : Str) (q : List Int × List Int) : SeqAt.shaped (resD tab x q) = true := by
  obtain ⟨a, b⟩ := outD_lay w x q.2
  obtain ⟨c, e⟩ := ints_lay q.1
  unfold resD
  refine shaped_small (by simp [PyData.canLay0, PyData.canLayAll0, a, c]) ?_
  simp only [PyData.depth, PyData.depthAll, e]
  omega
theorem vD_shaped (w : Wo K H d r p dx tb tab n m) (x : Str) (i : Int) : SeqAt.shaped (vD tab x i) = true := by
  obtain ⟨c, e⟩ := ints_lay (parI tab i)
  unfold vD slD
  cases z : slotOf tab x i with
  | none =>
    refine shaped_small (by simp [PyData.canLay0, PyData.canLayAll0, c]) ?_
    simp only [PyData.depth, PyData.depthAll, e]
    omega
  | some s =>
    have sd := slot_sl w z
    have v1 := sd.vl.lay
    have v2 := sd.vl.dep
    have v3 := sd.kd
    refine shaped_small (by simp [PyData.canLay0, PyData.canLayAll0, c, v1, v3]) ?_
    simp only [PyData.depth, PyData.depthAll, e]
    omega
theorem in_ints (i : Int) (L : List Int) : inV (.int i) (L.map V.int) = decide (i ∈ L) := by
  unfold inV
  rw [Bool.eq_iff_iff, List.any_eq_true, decide_eq_true_iff]
  constructor
  · rintro ⟨v, hv, e⟩
    obtain ⟨k, hk, rfl⟩ := List.mem_map.mp hv
    have e : (k == i) = true := e
    rw [← beq_iff_eq.mp e]
    exact hk
  · intro h
    exact ⟨V.int i, List.mem_map.mpr ⟨i, h, rfl⟩, by show (i == i) = true; simp⟩
theorem merge_app : ∀ (kvs acc : List (Key × V)), (∀ kv ∈ kvs, valV acc kv.1 = none) → (kvs.map (·.1)).Nodup → mergeK acc kvs = acc ++ kvs
  | [], acc, _, _ => (List.append_nil acc).symm
  | kv :: kvs, acc, h, nd => by
    obtain ⟨n1, n2⟩ := List.nodup_cons.mp nd
    show mergeK (putK acc kv.1 kv.2) kvs = _
    rw [putK_new _ (h kv List.mem_cons_self), merge_app kvs (acc ++ [(kv.1, kv.2)]) (fun k hk => ?_) n2, List.append_assoc]
    · rfl
    · rw [valV_snoc _ _ _ _ (h kv List.mem_cons_self), if_neg, h k (List.mem_cons_of_mem _ hk)]
      intro e
      exact n1 (List.mem_map.mpr ⟨k, hk, e⟩)
end
end Rm.Q

/-! L22: what a search rests on: the law's own defs: promises, readings (by gen.py), runs. -/
namespace Rm.Q
open PySem PySem.Spec PyProof.Rows L2
def sp_l_objects (K : PySem.W.Frag) : Sp := fun vs H Q _ => ∃ (d r p dx tb o : Addr), vs = [.ref d, .ref p] ∧ Draws H d r ∧ Ob K H p dx tb [⟨0, o, [lobbyS]⟩] 1 ∧ d ≠ tb ∧ d ≠ o ∧
  ∀ (n : Nat) H' tab, 2 ≤ n → n ≤ 8 → Wo K H' d r p dx tb tab n n → Q (.int (n : Int)) H'
def sp_l_change (K : PySem.W.Frag) : Sp := fun vs H Q _ => ∃ (d r p dx tb : Addr) (tab : List En) (n m : Nat), vs = [.ref d, .ref p, .int (m : Int)] ∧ Wo K H d r p dx tb tab n m ∧ 0 < m ∧ m ≤ n ∧ n ≤ 100 ∧
  (∀ H' e sl, e ∈ tab → e.id < m → KW d p tb tab H H' → Wo K H' d r p dx tb (setE tab e.id sl) n m → Q (.int (e.id : Int)) H') ∧
  ∀ H' o sl, H o = none → KW d p tb tab H H' → Wo K H' d r p dx tb (tab ++ [⟨n, o, sl⟩]) (n + 1) m → Q (.int (-1)) H'
def sp_law (K : PySem.W.Frag) : Sp := fun vs H Q _ => ∃ (a : Addr) (ns : List Int), vs = [.ref a] ∧ SqL K H a (ns.map V.int) ∧ ns.length ≤ 63 ∧ ∀ H', Q (.bl true) H'
/-! ### readings -/

def ns_l_objects : List Str := ["draws", "objects", "many", "k", "slots", "j"]
def t_l_objects (K : PySem.W.Frag) (E : XK) : TS :=
  (tSeq (tAsg (tOp rAddI (tC (.int 2)) (tCall (sp_l_next K) [] E (tCons (tVar 0) (tCons (tC (.int 7)) tNil)))) (gName 2))
    (tSeq (tFor (iRng1 (tCons (tOp rSubI (tVar 2) (tC (.int 1))) tNil)) (gName 3)
      (tSeq (tAsg (tLst tNil) (gName 4))
    (tSeq (tFor (iRng1 (tCons (tCall (sp_l_next K) [] E (tCons (tVar 0) (tCons (tC (.int 5)) tNil))) tNil)) (gName 5)
      (tDrop (tBM K "list" rAppend (tVar 4) (tCons (tTup (tCons (tCall (sp_l_name K) [] E (tCons (tVar 0) tNil)) (tCons (tCall (sp_l_kind K) [] E (tCons (tVar 0) tNil)) (tCons (tCall (sp_l_value K) [] E (tCons (tVar 0) (tCons (tVar 2) tNil))) tNil)))) tNil))))
    (tDrop (tMeth (He.ga K ("Objects" : Str)) ("make" : Str) (sp_Objects_make K) [] E (tVar 1) (tCons (tCB (rTupleOf K) (tCons (tVar 4) tNil)) tNil))))))
    (tSeq (tFor (iRng1 (tCons (tCall (sp_l_next K) [] E (tCons (tVar 0) (tCons (tC (.int 6)) tNil))) tNil)) (gName 3)
      (tDrop (tMeth (He.ga K ("Objects" : Str)) ("put" : Str) (sp_Objects_put K) [] E (tVar 1) (tCons (tCall (sp_l_next K) [] E (tCons (tVar 0) (tCons (tVar 2) tNil))) (tCons (tCall (sp_l_name K) [] E (tCons (tVar 0) tNil)) (tCons (tCall (sp_l_kind K) [] E (tCons (tVar 0) tNil)) (tCons (tCall (sp_l_value K) [] E (tCons (tVar 0) (tCons (tVar 2) tNil))) tNil)))))))
    (tRet (tVar 2)))))

def ns_l_change : List Str := ["draws", "objects", "many", "one", "name", "pick"]
def t_l_change (K : PySem.W.Frag) (E : XK) : TS :=
  (tSeq (tAsg (tCall (sp_l_next K) [] E (tCons (tVar 0) (tCons (tVar 2) tNil))) (gName 3))
    (tSeq (tAsg (tCall (sp_l_name K) [] E (tCons (tVar 0) tNil)) (gName 4))
    (tSeq (tAsg (tCall (sp_l_next K) [] E (tCons (tVar 0) (tCons (tC (.int 4)) tNil))) (gName 5))
    (tSeq (tIfS (tTest (tOp rEq (tVar 5) (tC (.int 0))))
      (tDrop (tMeth (He.ga K ("Objects" : Str)) ("drop" : Str) (sp_Objects_drop K) [] E (tVar 1) (tCons (tVar 3) (tCons (tVar 4) tNil))))
      (tIfS (tAnd (tTest (tOp rEq (tVar 5) (tC (.int 1)))) (tTest (tOp rNotN (tMeth (He.ga K ("Objects" : Str)) ("slot" : Str) (sp_Objects_slot K) [] E (tVar 1) (tCons (tVar 3) (tCons (tVar 4) tNil))) (tC .non))))
      (tDrop (tMeth (He.ga K ("Objects" : Str)) ("assign" : Str) (sp_Objects_assign K) [] E (tVar 1) (tCons (tVar 3) (tCons (tVar 4) (tCons (tCall (sp_l_value K) [] E (tCons (tVar 0) (tCons (tVar 2) tNil))) tNil)))))
      (tIfS (tTest (tOp rEq (tVar 5) (tC (.int 2))))
      (tSeq (tDrop (tMeth (He.ga K ("Objects" : Str)) ("make" : Str) (sp_Objects_make K) [] E (tVar 1) (tCons (tTup (tCons (tTup (tCons (tVar 4) (tCons (tC (.str ("parent" : Str))) (tCons (tTup (tCons (tC (.str ("ref" : Str))) (tCons (tVar 3) tNil))) tNil)))) tNil)) tNil)))
    (tRet (tUn rNegI (tC (.int 1)))))
      (tDrop (tMeth (He.ga K ("Objects" : Str)) ("put" : Str) (sp_Objects_put K) [] E (tVar 1) (tCons (tVar 3) (tCons (tVar 4) (tCons (tCall (sp_l_kind K) [] E (tCons (tVar 0) tNil)) (tCons (tCall (sp_l_value K) [] E (tCons (tVar 0) (tCons (tVar 2) tNil))) tNil)))))))))
    (tRet (tVar 3))))))

def ns_law : List Str := ["script", "draws", "objects", "many", "turn", "name", "k", "starts", "before", "one", "slots", "after", "rests", "two"]
def t_law (K : PySem.W.Frag) (E : XK) : TS :=
  (tSeq (tAsg (tCall (sp_l_reader K) [] E (tCons (tVar 0) tNil)) (gName 1))
    (tSeq (tAsg (tMake (He.ga K ("Objects" : Str)) (sp_Objects_init K) [] E tNil) (gName 2))
    (tSeq (tAsg (tCall (sp_l_objects K) [] E (tCons (tVar 1) (tCons (tVar 2) tNil))) (gName 3))
    (tSeq (tFor (iRng1 (tCons (tC (.int 8)) tNil)) (gName 4)
      (tSeq (tAsg (tCall (sp_l_name K) [] E (tCons (tVar 1) tNil)) (gName 5))
    (tSeq (tAsg (tCB (rTupleOf K) (tCons (tLc (iRng1 (tCons (tOp rAddI (tC (.int 1)) (tCall (sp_l_next K) [] E (tCons (tVar 1) (tCons (tC (.int 2)) tNil)))) tNil)) (gName 6) tYes (tCall (sp_l_next K) [] E0 (tCons (tVar 1) (tCons (tVar 3) tNil))) [6]) tNil)) (gName 7))
    (tSeq (tAsg (tCall (sp_search K) [] E (tCons (tVar 2) (tCons (tVar 7) (tCons (tVar 5) tNil)))) (gName 8))
    (tSeq (tAsg (tCB (rDictP K) (tCons (tLc (iRng1 (tCons (tVar 3) tNil)) (gName 9) tYes (tTup (tCons (tVar 9) (tCons (tTup (tCons (tMeth (He.ga K ("Objects" : Str)) ("slot" : Str) (sp_Objects_slot K) [] E0 (tVar 2) (tCons (tVar 9) (tCons (tVar 5) tNil))) (tCons (tMeth (He.ga K ("Objects" : Str)) ("parents" : Str) (sp_Objects_parents K) [] E0 (tVar 2) (tCons (tVar 9) tNil)) tNil))) tNil))) [9]) tNil)) (gName 10))
    (tFor (iRng1 (tCons (tCall (sp_l_next K) [] E (tCons (tVar 1) (tCons (tC (.int 5)) tNil))) tNil)) (gName 6)
      (tSeq (tAsg (tCall (sp_l_change K) [] E (tCons (tVar 1) (tCons (tVar 2) (tCons (tVar 3) tNil)))) (gName 9))
    (tSeq (tAsg (tCall (sp_search K) [] E (tCons (tVar 2) (tCons (tVar 7) (tCons (tVar 5) tNil)))) (gName 11))
    (tSeq (tAsg (tAndV (tOp (rIn K false) (tVar 9) (tOp (rIxT K) (tVar 8) (tC (.int 1)))) (tOp (rNeD K) (tTup (tCons (tMeth (He.ga K ("Objects" : Str)) ("slot" : Str) (sp_Objects_slot K) [] E (tVar 2) (tCons (tVar 9) (tCons (tVar 5) tNil))) (tCons (tMeth (He.ga K ("Objects" : Str)) ("parents" : Str) (sp_Objects_parents K) [] E (tVar 2) (tCons (tVar 9) tNil)) tNil))) (tDGet (tVar 10) (tVar 9)))) (gName 12))
    (tSeq (tIfS (tAnd (tNot (tB (tVar 12))) (tTest (tOp (rNeD K) (tVar 11) (tVar 8))))
      (tRet (tC (.bl false)))
      tNext)
    (tSeq (tAsg (tVar 11) (gName 8))
    (tAsg (tCB (rDictP K) (tCons (tLc (iRng1 (tCons (tVar 3) tNil)) (gName 13) tYes (tTup (tCons (tVar 13) (tCons (tTup (tCons (tMeth (He.ga K ("Objects" : Str)) ("slot" : Str) (sp_Objects_slot K) [] E0 (tVar 2) (tCons (tVar 13) (tCons (tVar 5) tNil))) (tCons (tMeth (He.ga K ("Objects" : Str)) ("parents" : Str) (sp_Objects_parents K) [] E0 (tVar 2) (tCons (tVar 13) tNil)) tNil))) tNil))) [13]) tNil)) (gName 10)))))))))))))
    (tRet (tC (.bl true)))))))

section
variable {K : PySem.W.Frag} {vs : List V} {H : Hp} {Q : VK} {E : XK}
theorem ifI {A B : Prop} {i j : Int} (h1 : i = j → A) (h2 : i ≠ j → B) : if decide (V.int i = V.int j) = true then A else B := by
  by_cases h : i = j
  · rw [decide_eq_true (congrArg V.int h)]
    exact iteT (h1 h)
  · rw [decide_eq_false fun z => h (V.int.inj z)]
    exact iteF (h2 h)
theorem str_ok : ∀ s ∈ nameM ++ kindM, PyData.strOk (Str.ofString s) = true := by decide +kernel
theorem lobby_d {m : Int} (hm : 0 < m) : SlD m lobbyS := ⟨⟨"lobby", by decide, rfl⟩, by decide +kernel, val_two (by decide +kernel) fun _ => ⟨Int.le_refl _, hm⟩⟩
theorem sl_d {m : Int} {s k : String} {D : PyData} (hs : s ∈ nameM) (hk : k ∈ kindM) (v : ValD m D) : SlD m ⟨Str.ofString s, Str.ofString k, D⟩ := ⟨⟨s, hs, rfl⟩, str_ok k (List.mem_append_right _ hk), v⟩
theorem setE_at_ne {tab : List En} {d : Addr} (h : ∀ e ∈ tab, d ≠ e.at_) (i : Nat) (sl : List Sl) : ∀ e ∈ setE tab i sl, d ≠ e.at_ := fun e he => by
  obtain ⟨e0, m0, rfl⟩ := setE_mem he
  split
  · exact h e0 m0
  · exact h e0 m0
theorem add_at_ne {tab : List En} {d o : Addr} {n : Nat} {sl : List Sl} (h : ∀ e ∈ tab, d ≠ e.at_) (no : d ≠ o) : ∀ e ∈ tab ++ [⟨n, o, sl⟩], d ≠ e.at_ := fun e he => by
  rcases List.mem_append.mp he with he | he
  · exact h e he
  · rw [List.mem_singleton.mp he]
    exact no
theorem Wo.ne_d {d r p dx tb : Addr} {tab : List En} {n : Nat} {m : Int} {a : Addr} (w : Wo K H d r p dx tb tab n m) (n : H a = none) : d ≠ a := w.dr.neD n
/-- an object's slot is put -/
theorem put_w {d r p dx tb : Addr} {tab : List En} {n : Nat} {m : Int} {e : En} {s k : String} {D : PyData} {H' : Hp} (w : Wo K H d r p dx tb tab n m) (he : e ∈ tab) (hs : s ∈ nameM) (hk : k ∈ kindM) (v : ValD m D) (ko : KO p tb tab H H') (O : Ob K H' p dx tb (setE tab e.id (putS e.sl ⟨Str.ofString s, Str.ofString k, D⟩)) n) :
    Wo K H' d r p dx tb (setE tab e.id (putS e.sl ⟨Str.ofString s, Str.ofString k, D⟩)) n m := by
  refine w.ko ko O (w.gd.set e.id (fun t ht => ?_) (putS_nd _ (w.gd.nd e he))) (setE_at_ne w.da _ _)
  rcases putS_mem ht with ht | rfl
  · exact w.gd.sl e he t ht
  · exact sl_d hs hk v
theorem tk_put {u : Addr} {G : Hp} {xs ys : List V} (h : G u = some (.lst xs)) : TK G (upd G u (.lst ys)) := fun b zs e => by
  rw [upd_ne (ne_of e h (by intro z; cases z))]
  exact e
theorem run_l_objects (h : sp_l_objects K vs H Q E) : t_l_objects K E (DQ Q) (start ns_l_objects vs) H := by
  obtain ⟨d, r, p, dx, tb, o, rfl, hD, O0, hdt, hdo, q⟩ := h
  refine ⟨_, rfl, d, 7, rfl, by decide, r, hD, fun c H1 c0 c1 D1 M1 => ⟨_, _, rfl, rfl, ?_⟩⟩
  obtain ⟨c, rfl⟩ := int_nat c0
  have em : (2 : Int) + (c : Int) = ((c + 2 : Nat) : Int) := by omega
  show gName 2 (V.int (2 + (c : Int))) _ _ _
  rw [em]
  have hm : (0 : Int) < ((c + 2 : Nat) : Int) := by omega
  have W0 : Wo K H d r p dx tb [⟨0, o, [lobbyS]⟩] 1 ((c + 2 : Nat) : Int) := by
    refine ⟨hD, O0, ⟨rfl, fun e he s hs => ?_, fun e he => ?_⟩, hdt, fun e he => ?_⟩
    · rw [List.mem_singleton.mp he] at hs
      rw [List.mem_singleton.mp hs]
      exact lobby_d hm
    · rw [List.mem_singleton.mp he]
      exact List.nodup_cons.mpr ⟨List.not_mem_nil, List.nodup_nil⟩
    · rw [List.mem_singleton.mp he]
      exact hdo
  have W1 := W0.kept (Kept.of_moved M1) D1
  refine ⟨_, rfl, _, _, rfl, rfl, ((c + 2 : Nat) : Int) - 1, rfl, by omega, by omega, ?_⟩
  have e1 : (((c + 2 : Nat) : Int) - 1).toNat = c + 1 := by omega
  rw [e1]
  refine for_range (lo := 0) (n := c + 1) (fun k σ G => ∃ (tab : List En) (v3 v4 v5 : Option V), σ = [some (.ref d), some (.ref p), some (.int ((c + 2 : Nat) : Int)), v3, v4, v5] ∧ Wo K G d r p dx tb tab (k + 1) ((c + 2 : Nat) : Int))
    ⟨_, none, none, none, rfl, W1⟩ ?_ ?_
  · rintro k σ G hk ⟨tab, v3, v4, v5, rfl, W⟩
    refine ⟨(by show 0 ≤ sizeLine; decide), fun u nu => ?_⟩
    have ur : u ≠ r := Ne.symm (W.dr.neR nu)
    have W2 := W.same (same_upd (o := .lst []) nu)
    refine ⟨_, rfl, d, 5, rfl, by decide, r, W2.dr, fun b G1 b0 b1 D3 M3 => ?_⟩
    obtain ⟨b, rfl⟩ := int_nat b0
    have W3 := W2.kept (Kept.of_moved M3) D3
    have gu : G1 u = some (.lst []) := (M3 u (Ne.symm (W.dr.neD nu))).trans upd_same
    refine ⟨(b : Int), rfl, by omega, by omega, ?_⟩
    rw [Int.toNat_natCast]
    refine for_range (lo := 0) (n := b) (fun j σ G => ∃ (us : List V) (ts : List Sl) (v5 : Option V), σ = [some (.ref d), some (.ref p), some (.int ((c + 2 : Nat) : Int)), some (.int (0 + (k : Int))), some (.ref u), v5] ∧ Wo K G d r p dx tb tab (k + 1) ((c + 2 : Nat) : Int) ∧ G u = some (.lst us) ∧ TrpR G us ts ∧ (∀ s ∈ ts, SlD ((c + 2 : Nat) : Int) s) ∧ ts.length ≤ j)
      ⟨[], [], v5, rfl, W3, gu, .nil, (fun s hs => by cases hs), Nat.le_refl _⟩ ?_ ?_
    · rintro j σ G2 hj ⟨us, ts, v5, rfl, W4, gu, tr, hts, hl⟩
      have ud : u ≠ d := by
        obtain ⟨i, s, ns, h1, _⟩ := W4.dr
        exact ne_of gu h1 (by intro z; cases z)
      refine ⟨_, rfl, .inl ⟨rfl, _, SqL.of gu⟩, _, rfl, d, rfl, r, W4.dr, fun s1 Ha Ka Da hs1 => ?_⟩
      refine ⟨_, rfl, d, rfl, r, Da, fun s2 Hb Kb Db hs2 => ?_⟩
      refine ⟨_, rfl, _, rfl, d, _, rfl, hm, r, Db, fun v D Hc Kc Dc tv vd => ?_⟩
      refine ⟨(by show 3 ≤ sizeLine; decide), fun t nt => ?_⟩
      have Kabc := (Ka.trans Kb).trans Kc
      have W5 := W4.kept Kabc Dc
      have gu5 : Hc u = some (.lst us) := Kabc _ _ ud gu
      have s6 := same_upd (o := .tup [mS s1, mS s2, v]) nt
      have W6 := W5.same s6
      have gu6 := s6 _ _ gu5
      refine ⟨u, _, _, rfl, rfl, gu6, Nat.lt_of_le_of_lt (show us.length ≤ 10 by rw [tr.len]; omega) (by decide), ?_⟩
      have tkc := kept_tk W4.dr Kabc
      refine ⟨us ++ [.ref t], ts ++ [⟨Str.ofString s1, Str.ofString s2, D⟩], _, rfl, W6.lst gu6 ur, upd_same, ?_, fun s hs => ?_, by rw [List.length_append, List.length_singleton]; omega⟩
      · have tl := tk_put (ys := us ++ [V.ref t]) gu6
        exact TrpR.snoc (tl _ _ upd_same) ((tv.keep fun a xs z => s6 a _ z).keep tl) (((tr.keep tkc).keep fun a xs z => s6 a _ z).keep tl)
      · rcases List.mem_append.mp hs with hs | hs
        · exact hts s hs
        · rw [List.mem_singleton.mp hs]
          exact sl_d hs1 hs2 vd
    · rintro σ G2 ⟨us, ts, v5, rfl, W4, gu, tr, hts, hl⟩
      refine ⟨_, rfl, p, dx, _, rfl, W4.ob.ins, obF_no (by decide +kernel) (by decide +kernel), _, rfl, u, us, rfl, .inl ⟨SqL.of gu, fun l nl => ?_⟩⟩
      have s5 := same_upd (o := .tup us) nl
      have W5 := W4.same s5
      refine ⟨p, dx, tb, tab, k + 1, l, us, ts, rfl, W5.ob, upd_same, tr.keep (fun a xs z => s5 a _ z), (fun s hs => (hts s hs).vl.ok), by rw [W5.gd.len]; omega, by omega, fun o2 H6 no2 ko O6 => ?_⟩
      exact ⟨_, _, _, _, rfl, W5.ko ko O6 (W5.gd.add o2 (fun s hs => hts s (mkS_mem hs)) (mkS_nd ts)) (add_at_ne W5.da (W5.ne_d no2))⟩
  · rintro σ G ⟨tab, v3, v4, v5, rfl, W⟩
    refine ⟨_, rfl, d, 6, rfl, by decide, r, W.dr, fun b G1 b0 b1 D3 M3 => ?_⟩
    obtain ⟨b, rfl⟩ := int_nat b0
    have W3 := W.kept (Kept.of_moved M3) D3
    refine ⟨(b : Int), rfl, by omega, by omega, ?_⟩
    rw [Int.toNat_natCast]
    refine for_range (lo := 0) (n := b) (fun k σ G => ∃ (tab : List En) (v3 v4 v5 : Option V), σ = [some (.ref d), some (.ref p), some (.int ((c + 2 : Nat) : Int)), v3, v4, v5] ∧ Wo K G d r p dx tb tab (c + 2) ((c + 2 : Nat) : Int))
      ⟨_, _, _, _, rfl, W3⟩ ?_ ?_
    · rintro k σ G2 hk ⟨tab, v3, v4, v5, rfl, W4⟩
      refine ⟨_, rfl, p, dx, _, rfl, W4.ob.ins, obF_no (by decide +kernel) (by decide +kernel), _, rfl, _, rfl, d, _, rfl, hm, r, W4.dr, fun i Hi i0 i1 Di Mi => ?_⟩
      refine ⟨_, rfl, d, rfl, r, Di, fun s1 Ha Ka Da hs1 => ?_⟩
      refine ⟨_, rfl, d, rfl, r, Da, fun s2 Hb Kb Db hs2 => ?_⟩
      refine ⟨_, rfl, _, rfl, d, _, rfl, hm, r, Db, fun v D Hc Kc Dc tv vd => ?_⟩
      have W5 := W4.kept ((((Kept.of_moved Mi).trans Ka).trans Kb).trans Kc) Dc
      obtain ⟨e, he, rfl⟩ := W5.gd.isId i0 i1
      refine ⟨p, dx, tb, tab, c + 2, e, Str.ofString s1, Str.ofString s2, v, D, rfl, W5.ob, he, tv, vd.ok, Nat.le_trans (W5.gd.six he) (by decide), fun H6 ko O6 => ?_⟩
      exact ⟨_, _, _, _, rfl, put_w W5 he hs1 hs2 vd ko O6⟩
    · rintro σ G2 ⟨tab, v3, v4, v5, rfl, W4⟩
      exact ⟨_, rfl, q (c + 2) G2 tab (by omega) (by omega) W4⟩
theorem setE_self {tab : List En} (o : tab.Pairwise fun a b => a.id < b.id) {e : En} (he : e ∈ tab) : setE tab e.id e.sl = tab := by
  unfold setE
  have z : ∀ a ∈ tab, (fun a : En => if a.id = e.id then (⟨a.id, a.at_, e.sl⟩ : En) else a) a = id a := fun a ha => by
    by_cases c : a.id = e.id
    · have := id_inj o ha he c
      subst this
      exact if_pos rfl
    · exact if_neg c
  rw [List.map_congr_left z, List.map_id]
/-- the change that puts -/
theorem put_ok {d r p dx tb : Addr} {tab : List En} {n m : Nat} {e : En} {s : String} {v2 v5 : Option V} {D : Ends} (W : Wo K H d r p dx tb tab n m) (hm : 0 < m) (he : e ∈ tab) (hs : s ∈ nameM)
    (q : ∀ H' sl, KW d p tb tab H H' → Wo K H' d r p dx tb (setE tab e.id sl) n m → D.nx [some (.ref d), some (.ref p), v2, some (.int (e.id : Int)), some (mS s), v5] H') (h2 : v2 = some (.int (m : Int))) :
    (tDrop (tMeth (He.ga K ("Objects" : Str)) ("put" : Str) (sp_Objects_put K) [] E (tVar 1) (tCons (tVar 3) (tCons (tVar 4) (tCons (tCall (sp_l_kind K) [] E (tCons (tVar 0) tNil)) (tCons (tCall (sp_l_value K) [] E (tCons (tVar 0) (tCons (tVar 2) tNil))) tNil)))))) D [some (.ref d), some (.ref p), v2, some (.int (e.id : Int)), some (mS s), v5] H := by
  subst h2
  have hm' : (0 : Int) < (m : Int) := by omega
  refine ⟨_, rfl, p, dx, _, rfl, W.ob.ins, obF_no (by decide +kernel) (by decide +kernel), _, rfl, _, rfl, ?_⟩
  refine ⟨_, rfl, d, rfl, r, W.dr, fun s2 Hb Kb Db hs2 => ?_⟩
  refine ⟨_, rfl, _, rfl, d, _, rfl, hm', r, Db, fun v D Hc Kc Dc tv vd => ?_⟩
  have W5 := W.kept (Kb.trans Kc) Dc
  refine ⟨p, dx, tb, tab, n, e, Str.ofString s, Str.ofString s2, v, D, rfl, W5.ob, he, tv, vd.ok, Nat.le_trans (W5.gd.six he) (by decide), fun H6 ko O6 => ?_⟩
  exact q H6 _ ((KW.kept (Kb.trans Kc)).trans (KW.ko ko)) (put_w W5 he hs hs2 vd ko O6)
theorem run_l_change (h : sp_l_change K vs H Q E) : t_l_change K E (DQ Q) (start ns_l_change vs) H := by
  obtain ⟨d, r, p, dx, tb, tab, n, m, rfl, W, hm, hmn, hn, q1, q2⟩ := h
  have hm' : (0 : Int) < (m : Int) := by omega
  refine ⟨_, rfl, _, rfl, d, _, rfl, hm', r, W.dr, fun i Hi i0 i1 Di Mi => ?_⟩
  have Wi := W.kept (Kept.of_moved Mi) Di
  obtain ⟨e, he, rfl⟩ := Wi.gd.isId i0 (by omega)
  have em : e.id < m := by omega
  refine ⟨_, rfl, d, rfl, r, Di, fun s Ha Ka Da hs => ?_⟩
  have Wa := Wi.kept Ka Da
  refine ⟨_, rfl, d, 4, rfl, by decide, r, Da, fun pk Hb b0 b1 Db Mb => ?_⟩
  have Wb := Wa.kept (Kept.of_moved Mb) Db
  have kw : KW d p tb tab H Hb := KW.kept (((Kept.of_moved Mi).trans Ka).trans (Kept.of_moved Mb))
  have stay : Q (.int (e.id : Int)) Hb := q1 Hb e e.sl he em kw (by rw [setE_self Wb.gd.ord he]; exact Wb)
  have hp : ∀ v5 : Option V, (tDrop (tMeth (He.ga K ("Objects" : Str)) ("put" : Str) (sp_Objects_put K) [] E (tVar 1) (tCons (tVar 3) (tCons (tVar 4) (tCons (tCall (sp_l_kind K) [] E (tCons (tVar 0) tNil)) (tCons (tCall (sp_l_value K) [] E (tCons (tVar 0) (tCons (tVar 2) tNil))) tNil)))))) { (DQ Q) with nx := tRet (tVar 3) (DQ Q) } [some (.ref d), some (.ref p), some (.int (m : Int)), some (.int (e.id : Int)), some (mS s), v5] Hb := fun v5 =>
    put_ok Wb hm he hs (fun H' sl k2 W2 => ⟨_, rfl, q1 H' e sl he em (kw.trans k2) W2⟩) rfl
  refine ⟨_, rfl, rfl, _, rfl, ifI (fun c => ?_) (fun c => ?_)⟩
  · -- drop
    refine ⟨_, rfl, p, dx, _, rfl, Wb.ob.ins, obF_no (by decide +kernel) (by decide +kernel), _, rfl, _, rfl, ?_⟩
    refine ⟨p, dx, tb, tab, n, e, Str.ofString s, rfl, Wb.ob, he, fun _ => ⟨_, rfl, stay⟩, fun _ H' ko O => ⟨_, rfl, ?_⟩⟩
    exact q1 H' e _ he em (kw.trans (KW.ko ko)) (Wb.ko ko O (Wb.gd.set e.id (fun t ht => Wb.gd.sl e he t (List.mem_filter.mp ht).1) (dropS_nd _ (Wb.gd.nd e he))) (setE_at_ne Wb.da _ _))
  · refine ⟨_, rfl, rfl, _, rfl, ifI (fun c1 => ?_) (fun c1 => ?_)⟩
    · -- a slot that is there?
      refine ⟨_, rfl, p, dx, _, rfl, Wb.ob.ins, obF_no (by decide +kernel) (by decide +kernel), _, rfl, _, rfl, ?_⟩
      refine ⟨p, dx, tb, tab, n, e, Str.ofString s, rfl, Wb.ob, he, fun g => ⟨rfl, _, rfl, ?_⟩, fun s0 qa v g hq tv => ⟨rfl, _, rfl, ?_⟩⟩
      · rw [decide_eq_true (show V.non = V.non from rfl)]
        refine iteF ⟨_, rfl, rfl, _, rfl, ifI (fun c2 => by omega) (fun c2 => hp _)⟩
      · rw [decide_eq_false (show ¬ V.ref qa = V.non by intro z; cases z)]
        refine iteT ?_
        refine ⟨_, rfl, p, dx, _, rfl, Wb.ob.ins, obF_no (by decide +kernel) (by decide +kernel), _, rfl, _, rfl, _, rfl, _, rfl, d, _, rfl, hm', r, Wb.dr, fun v D Hc Kc Dc tv vd => ?_⟩
        have Wc := Wb.kept Kc Dc
        refine ⟨p, dx, tb, tab, n, e, Str.ofString s, v, D, s0, rfl, Wc.ob, he, tv, vd.ok, Nat.le_trans (Wc.gd.six he) (by decide), g, fun H' ko O => ⟨_, rfl, ?_⟩⟩
        refine q1 H' e _ he em ((kw.trans (KW.kept Kc)).trans (KW.ko ko)) (Wc.ko ko O (Wc.gd.set e.id (fun t ht => ?_) (putS_nd _ (Wc.gd.nd e he))) (setE_at_ne Wc.da _ _))
        rcases putS_mem ht with ht | rfl
        · exact Wc.gd.sl e he t ht
        · have g0 := Wc.gd.sl e he s0 (getS_mem g).1
          exact ⟨⟨s, hs, rfl⟩, g0.kd, vd⟩
    · refine iteF ⟨_, rfl, rfl, _, rfl, ifI (fun c2 => ?_) (fun c2 => hp _)⟩
      -- make
      refine ⟨_, rfl, p, dx, _, rfl, Wb.ob.ins, obF_no (by decide +kernel) (by decide +kernel), _, rfl, _, rfl, (by show 2 ≤ sizeLine; decide), fun r1 n1 => ⟨(by show 3 ≤ sizeLine; decide), fun r2 n2 => ⟨(by show 1 ≤ sizeLine; decide), fun r3 n3 => ?_⟩⟩⟩
      have s1 := same_upd (o := .tup [V.str ("ref" : Str), V.int (e.id : Int)]) n1
      have s2 := same_upd (o := .tup [mS s, V.str ("parent" : Str), V.ref r1]) n2
      have s3 := same_upd (o := .tup [V.ref r2]) n3
      have S := (s1.trans s2).trans s3
      have Wc := Wb.same S
      have T1 := Tr.tup (ds := [.str ("ref" : Str), .int (e.id : Int)]) (s3 _ _ (s2 _ _ (upd_same (H := Hb) (a := r1) (o := .tup [V.str ("ref" : Str), V.int (e.id : Int)])))) (.cons (.str _) (.cons (.int _) .nil))
      have vd : ValD (m : Int) (.tuple [.str ("ref" : Str), .int (e.id : Int)]) := val_two (by decide +kernel) fun _ => ⟨by omega, by omega⟩
      refine ⟨p, dx, tb, tab, n, r3, [.ref r2], [⟨Str.ofString s, ("parent" : Str), _⟩], rfl, Wc.ob, upd_same, .cons (s3 _ _ upd_same) T1 .nil, (fun t ht => ?_), by rw [Wc.gd.len]; omega, (by show 1 ≤ 1000000; decide), fun o H' no ko O => ?_⟩
      · rw [List.mem_singleton.mp ht]
        exact vd.ok
      · refine ⟨_, rfl, q2 H' o _ ?_ ((kw.trans (KW.same S)).trans (KW.ko ko)) (Wc.ko ko O (Wc.gd.add o (fun t ht => ?_) (mkS_nd _)) (add_at_ne Wc.da (Wc.ne_d no)))⟩
        · have a := Same.free S no
          have b : Ha o = none := by
            cases z : Ha o with
            | none => rfl
            | some u =>
              have nd := Wb.ne_d a
              rw [Kept.of_moved Mb o u (Ne.symm nd) z] at a
              cases a
          have nd := Wb.ne_d a
          have b2 : Hi o = none := Ka.free Da.atD b
          exact (Kept.of_moved Mi).free Di.atD b2
        · rw [List.mem_singleton.mp (mkS_mem ht)]
          exact sl_d hs (by decide) vd
/-- the dict of slots and parents -/
def dictE (K : PySem.W.Frag) (i : Nat) : TE := (tCB (rDictP K) (tCons (tLc (iRng1 (tCons (tVar 3) tNil)) (gName i) tYes (tTup (tCons (tVar i) (tCons (tTup (tCons (tMeth (He.ga K ("Objects" : Str)) ("slot" : Str) (sp_Objects_slot K) [] E0 (tVar 2) (tCons (tVar i) (tCons (tVar 5) tNil))) (tCons (tMeth (He.ga K ("Objects" : Str)) ("parents" : Str) (sp_Objects_parents K) [] E0 (tVar 2) (tCons (tVar i) tNil)) tNil))) tNil))) [i]) tNil))
def SD (G : Hp) (tab : List En) (x : Str) (m : Nat) (kvs : List (Key × V)) : Prop := ∀ j : Nat, j < m → ∃ v, valV kvs (Sum.inl (j : Int) : Key) = some v ∧ Tr G v (vD tab x (j : Int))
theorem SD.same {G G' : Hp} {tab : List En} {x : Str} {m : Nat} {kvs : List (Key × V)} (h : SD G tab x m kvs) (k : TK G G') : SD G' tab x m kvs := fun j hj => by
  obtain ⟨v, a, b⟩ := h j hj
  exact ⟨v, a, b.keep k⟩
/-- the pair of a slot and the parents -/
theorem pairE {d r p dx tb : Addr} {tab : List En} {n : Nat} {m : Int} {e : En} {x : Str} {σ : L2.St} {G : Hp} {Y : VK} {j : Nat} {E1 E2 : XK} (W : Wo K G d r p dx tb tab n m) (he : e ∈ tab) (h2 : σ[2]? = some (some (.ref p))) (h5 : σ[5]? = some (some (.str x))) (hj : σ[j]? = some (some (.int (e.id : Int))))
    (y : ∀ t G', Same G G' → Tr G' (.ref t) (vD tab x (e.id : Int)) → Y (.ref t) G') : (tTup (tCons (tMeth (He.ga K ("Objects" : Str)) ("slot" : Str) (sp_Objects_slot K) [] E1 (tVar 2) (tCons (tVar j) (tCons (tVar 5) tNil))) (tCons (tMeth (He.ga K ("Objects" : Str)) ("parents" : Str) (sp_Objects_parents K) [] E2 (tVar 2) (tCons (tVar j) tNil)) tNil))) σ G Y := by
  have par : ∀ (v : V) (D : PyData), Tr G v D → vD tab x (e.id : Int) = .tuple [D, .tuple ((parI tab (e.id : Int)).map PyData.int)] →
      (tMeth (He.ga K ("Objects" : Str)) ("parents" : Str) (sp_Objects_parents K) [] E2 (tVar 2) (tCons (tVar j) tNil)) σ G fun v2 H2 => [v, v2].length ≤ sizeLine ∧ ∀ q, H2 q = none → Y (.ref q) (upd H2 q (.tup [v, v2])) := fun v D tv ev => by
    refine ⟨_, h2, p, dx, _, rfl, W.ob.ins, obF_no (by decide +kernel) (by decide +kernel), _, hj, ?_⟩
    refine ⟨p, dx, tb, tab, n, e, rfl, W.ob, he, Nat.le_trans (W.gd.six he) (by decide), fun q1 H1 s1 n1 hq1 => ⟨(by show 2 ≤ sizeLine; decide), fun q2 nq2 => ?_⟩⟩
    have s2 := same_upd (o := .tup [v, V.ref q1]) nq2
    refine y q2 _ (s1.trans s2) ?_
    rw [ev, parI_mem W.gd.ord he]
    exact .tup upd_same (.cons (tv.keep fun a xs z => s2 a _ (s1 a _ z)) (.cons (.tup (s2 _ _ hq1) (trs_ints _)) .nil))
  refine ⟨_, h2, p, dx, _, rfl, W.ob.ins, obF_no (by decide +kernel) (by decide +kernel), _, hj, _, h5, ?_⟩
  have so := slotOf_mem W.gd.ord he x
  refine ⟨p, dx, tb, tab, n, e, x, rfl, W.ob, he, fun g => ?_, fun s qa v g hq tv => ?_⟩
  · refine par .non .none .non ?_
    unfold vD slD
    rw [so, g]
  · refine par (.ref qa) (.tuple [.str s.kind, s.val]) (.tup hq (.cons (.str _) (.cons tv .nil))) ?_
    unfold vD slD
    rw [so, g]
theorem wipe_other {σ : L2.St} {i j : Nat} {v : Option V} (n : i ≠ j) : ((wipe σ [i]).set i v)[j]? = σ[j]? := by
  show ((σ.set i none).set i v)[j]? = _
  rw [List.getElem?_set_ne n, List.getElem?_set_ne n]
theorem wipe_self {σ : L2.St} {i : Nat} {v : Option V} (n : i < σ.length) : ((wipe σ [i]).set i v)[i]? = some v := by
  show ((σ.set i none).set i v)[i]? = _
  rw [List.getElem?_set_self]
  rw [List.length_set]
  exact n
theorem valV_mem : ∀ {kvs : List (Key × V)} {k : Key} {v : V}, (kvs.map (·.1)).Nodup → (k, v) ∈ kvs → valV kvs k = some v
  | [], _, _, _, h => by cases h
  | kv :: kvs, k, v, nd, h => by
    obtain ⟨n1, n2⟩ := List.nodup_cons.mp nd
    rcases List.mem_cons.mp h with e | h
    · subst e
      exact valV_pos rfl
    · rw [valV_neg fun z => n1 (List.mem_map.mpr ⟨(k, v), h, z.symm⟩)]
      exact valV_mem n2 h
theorem dict_ok {d r p dx tb : Addr} {tab : List En} {n m : Nat} {x : Str} {σ : L2.St} {G : Hp} {Y : VK} {i : Nat} (W : Wo K G d r p dx tb tab n m) (hmn : m ≤ n) (hn : n ≤ 100) (h2 : σ[2]? = some (some (.ref p))) (h3 : σ[3]? = some (some (.int (m : Int)))) (h5 : σ[5]? = some (some (.str x))) (hi : i < σ.length) (i2 : i ≠ 2) (i5 : i ≠ 5)
    (y : ∀ sd G' kvs, Same G G' → G sd = none → G' sd = some (.dK kvs) → SD G' tab x m kvs → Y (.ref sd) G') : dictE K i σ G Y := by
  refine ⟨_, h3, (m : Int), rfl, by omega, by omega, fun D nD => ?_⟩
  rw [Int.toNat_natCast]
  refine lc_range (lo := 0) (n := m) (fun k G1 => ∃ (ps : List Addr) (vs : List V), Same G G1 ∧ G1 D = some (.lst (ps.map V.ref)) ∧ Paired (fun p kv => G1 p = some (.tup [kV kv.1, kv.2])) ps ((List.range k).zip vs |>.map fun z => ((Sum.inl (z.1 : Int) : Key), z.2)) ∧ vs.length = k ∧ ps.length = k ∧ ∀ j : Nat, ∀ v, vs[j]? = some v → Tr G1 v (vD tab x (j : Int)))
    ⟨[], [], same_upd nD, upd_same, .nil, rfl, rfl, fun j v e => by simp at e⟩ ?_ ?_
  · rintro k G1 hk ⟨ps, vs, s1, g1, pr, lv, lp, tv⟩
    have W1 := W.same s1
    obtain ⟨e, he, ek⟩ := W1.gd.isId (i := (k : Int)) (by omega) (by omega)
    have ei : (0 : Int) + (k : Int) = (e.id : Int) := by omega
    refine ⟨?_, ?_⟩
    · show ((σ.set i none).set i _).set i none = σ.set i none
      rw [List.set_set, List.set_set]
    refine ⟨_, wipe_self hi, ?_⟩
    refine pairE W1 he ((wipe_other i2).trans h2) ((wipe_other i5).trans h5) (by rw [wipe_self hi, ei]) fun t G2 s2 t2 => ⟨(by show 2 ≤ sizeLine; decide), fun q nq => ?_⟩
    have s3 := same_upd (o := .tup [V.int (0 + (k : Int)), V.ref t]) nq
    have s23 := s2.trans s3
    have g3 := s23 _ _ g1
    refine ⟨_, g3, Nat.lt_of_le_of_lt (show (ps.map V.ref).length ≤ 100 by rw [List.length_map]; omega) (by decide), ps ++ [q], vs ++ [.ref t], fun b u z => ?_, by rw [upd_same, List.map_append]; rfl, ?_, by rw [List.length_append, lv]; rfl, by rw [List.length_append, lp]; rfl, fun j v ej => ?_⟩
    · rw [upd_ne (ne_of_none z nD)]
      exact s23 b u (s1 b u z)
    · have tk : ∀ a xs, G1 a = some (.tup xs) → (upd (upd G2 q (.tup [V.int (0 + (k : Int)), V.ref t])) D (.lst (ps.map V.ref ++ [V.ref q]))) a = some (.tup xs) := fun a xs z => by
        rw [upd_ne (ne_of (s23 _ _ z) g3 (by intro z; cases z))]
        exact s23 a _ z
      have ez : ((List.range (k + 1)).zip (vs ++ [V.ref t]) |>.map fun z => ((Sum.inl (z.1 : Int) : Key), z.2)) = ((List.range k).zip vs |>.map fun z => ((Sum.inl (z.1 : Int) : Key), z.2)) ++ [((Sum.inl (k : Int) : Key), V.ref t)] := by
        rw [List.range_succ, List.zip_append (by rw [List.length_range, lv]), List.map_append]
        rfl
      rw [ez]
      refine Paired.snoc (Paired.mapP pr fun a kv h => tk a _ h) ?_
      show (upd (upd G2 q (.tup [V.int (0 + (k : Int)), V.ref t])) D (.lst (ps.map V.ref ++ [V.ref q]))) q = some (.tup [V.int (k : Int), V.ref t])
      rw [upd_ne (ne_of upd_same g3 (by intro z; cases z)), upd_same, Int.zero_add]
    · have tk2 : TK (upd G2 q (.tup [V.int (0 + (k : Int)), V.ref t])) (upd (upd G2 q (.tup [V.int (0 + (k : Int)), V.ref t])) D (.lst (ps.map V.ref ++ [V.ref q]))) := tk_put g3
      by_cases c : j < vs.length
      · rw [List.getElem?_append_left c] at ej
        exact ((tv j v ej).keep fun a xs z => s23 a _ z).keep tk2
      · have hj : j < (vs ++ [V.ref t]).length := (List.getElem?_eq_some_iff.mp ej).1
        rw [List.length_append, List.length_singleton] at hj
        have : j = vs.length := by omega
        subst this
        rw [List.getElem?_append_right (Nat.le_refl _), Nat.sub_self] at ej
        cases ej
        rw [ek] at t2
        rw [lv]
        exact (t2.keep fun a xs z => s3 a _ z).keep tk2
  · rintro G1 ⟨ps, vs, s1, g1, pr, lv, lp, tv⟩
    refine ⟨D, ps, _, rfl, SqL.of g1, Paired.mapP pr fun a kv h => SqT.of h, fun sd nsd => ?_⟩
    have nd : (((List.range m).zip vs |>.map fun z => ((Sum.inl (z.1 : Int) : Key), z.2)).map (·.1)).Nodup := by
      have e : (((List.range m).zip vs |>.map fun z => ((Sum.inl (z.1 : Int) : Key), z.2)).map (·.1)) = (List.range m).map fun (j : Nat) => (Sum.inl ((j : Nat) : Int) : Key) := by
        rw [List.map_map]
        have : (List.range m) = ((List.range m).zip vs).map (·.1) := by
          rw [List.map_fst_zip]
          rw [List.length_range, lv]
          exact Nat.le_refl _
        conv => rhs; rw [this, List.map_map]
        rfl
      rw [e]
      refine List.pairwise_map.mpr (List.Pairwise.imp (fun {a b} h z => ?_) List.pairwise_lt_range)
      have := Sum.inl.inj z
      omega
    have em := merge_app ((List.range m).zip vs |>.map fun z => ((Sum.inl (z.1 : Int) : Key), z.2)) [] (fun kv _ => rfl) nd
    rw [List.nil_append] at em
    rw [em]
    have s2 := same_upd (o := .dK ((List.range m).zip vs |>.map fun z => ((Sum.inl (z.1 : Int) : Key), z.2))) nsd
    refine y sd _ _ (s1.trans s2) (Same.free s1 nsd) upd_same fun j hj => ?_
    obtain ⟨v, ev⟩ : ∃ v, vs[j]? = some v := ⟨vs[j]'(by omega), List.getElem?_eq_getElem (by omega)⟩
    refine ⟨v, ?_, (tv j v ev).keep fun a xs z => s2 a _ z⟩
    refine valV_mem nd (List.mem_map.mpr ⟨(j, v), ?_, rfl⟩)
    have : ((List.range m).zip vs)[j]? = some (j, v) := by
      rw [List.getElem?_zip_eq_some]
      exact ⟨List.getElem?_range hj, ev⟩
    exact List.mem_of_getElem? this
/-- the turn's statements behind the change -/
def tRest2 (K : PySem.W.Frag) (E : XK) : TS := (tSeq (tIfS (tAnd (tNot (tB (tVar 12))) (tTest (tOp (rNeD K) (tVar 11) (tVar 8))))
      (tRet (tC (.bl false)))
      tNext)
    (tSeq (tAsg (tVar 11) (gName 8))
    (tAsg (dictE K 13) (gName 10))))
def tRest (K : PySem.W.Frag) (E : XK) : TS := (tSeq (tAsg (tCall (sp_search K) [] E (tCons (tVar 2) (tCons (tVar 7) (tCons (tVar 5) tNil)))) (gName 11))
    (tSeq (tAsg (tAndV (tOp (rIn K false) (tVar 9) (tOp (rIxT K) (tVar 8) (tC (.int 1)))) (tOp (rNeD K) (tTup (tCons (tMeth (He.ga K ("Objects" : Str)) ("slot" : Str) (sp_Objects_slot K) [] E (tVar 2) (tCons (tVar 9) (tCons (tVar 5) tNil))) (tCons (tMeth (He.ga K ("Objects" : Str)) ("parents" : Str) (sp_Objects_parents K) [] E (tVar 2) (tCons (tVar 9) tNil)) tNil))) (tDGet (tVar 10) (tVar 9)))) (gName 12))
    (tRest2 K E)))
/-- the inner loop's state -/
structure InS (K : PySem.W.Frag) (G : Hp) (d r p dx tb : Addr) (m : Nat) (x : Str) (l : Addr) (acc : List Int) (tab : List En) (n : Nat) (q1 sd : Addr) (kvs : List (Key × V)) : Prop where
  w : Wo K G d r p dx tb tab n m
  le : m ≤ n
  st : G l = some (.tup (acc.map V.int))
  res : Tr G (.ref q1) (resD tab x (srch tab x acc))
  dic : G sd = some (.dK kvs)
  sdf : SD G tab x m kvs
  nd : sd ≠ d
  nt : sd ≠ tb
  na : ∀ e ∈ tab, sd ≠ e.at_
def σI (a d p l : Addr) (m : Nat) (v4 : Option V) (s : Str) (v6 v9 v11 v12 v13 : Option V) (q1 sd : Addr) : L2.St := [some (.ref a), some (.ref d), some (.ref p), some (.int (m : Int)), v4, some (.str s), v6, some (.ref l), some (.ref q1), v9, some (.ref sd), v11, v12, v13]
theorem rest2_ok {a d r p dx tb l : Addr} {m : Nat} {x : Str} {acc : List Int} {tab tab' : List En} {n' : Nat} {q1 q2 sd : Addr} {v4 v6 v9 v13 : Option V} {b : Bool} {D : Ends} {G : Hp} (W : Wo K G d r p dx tb tab' n' m) (le : m ≤ n') (hn : n' ≤ 100) (gl : G l = some (.tup (acc.map V.int)))
    (t1 : Tr G (.ref q1) (resD tab x (srch tab x acc))) (sh1 : SeqAt.shaped (resD tab x (srch tab x acc)) = true) (t2 : Tr G (.ref q2) (resD tab' x (srch tab' x acc))) (hb : b = true ∨ resD tab' x (srch tab' x acc) = resD tab x (srch tab x acc))
    (q : ∀ sd2 kvs2 G2, InS K G2 d r p dx tb m x l acc tab' n' q2 sd2 kvs2 → D.nx (σI a d p l m v4 x v6 v9 (some (.ref q2)) (some (.bl b)) v13 q2 sd2) G2) :
    tRest2 K E D (σI a d p l m v4 x v6 v9 (some (.ref q2)) (some (.bl b)) v13 q1 sd) G := by
  have fin : (tSeq (tAsg (tVar 11) (gName 8)) (tAsg (dictE K 13) (gName 10))) D (σI a d p l m v4 x v6 v9 (some (.ref q2)) (some (.bl b)) v13 q1 sd) G := by
    refine ⟨_, rfl, ?_⟩
    refine dict_ok (i := 13) W le hn rfl rfl rfl (by show 13 < 14; decide) (by decide) (by decide) fun sd2 G2 kvs2 s2 n2 g2 k2 => ?_
    have tk : TK G G2 := fun a xs z => s2 a _ z
    exact q sd2 kvs2 G2 ⟨W.same s2, le, s2 _ _ gl, t2.keep tk, g2, k2, Ne.symm (W.ne_d n2), (fun z => by
      rw [z, W.ob.tbl] at n2
      cases n2), fun e he z => by
      obtain ⟨kv0, g0, _⟩ := W.ob.ent e he
      rw [z, g0] at n2
      cases n2⟩
  refine ⟨_, rfl, b, rfl, ?_⟩
  cases b with
  | true => exact iteF (iteF fin)
  | false =>
    refine iteT ⟨_, rfl, _, rfl, _, _, t2.dp, t1.dp, resD_shaped W x _, sh1, _, rfl, ?_⟩
    have e : resD tab' x (srch tab' x acc) = resD tab x (srch tab x acc) := by
      rcases hb with hb | hb
      · cases hb
      · exact hb
    rw [e, SeqAt.eqv_refl _ (SeqAt.canLay_of_shaped sh1)]
    exact iteF fin
theorem rest_ok {a d r p dx tb l : Addr} {m : Nat} {x : Str} {acc : List Int} {tab tab' : List En} {n n' : Nat} {one : Int} {q1 sd : Addr} {kvs : List (Key × V)} {v4 v6 v11 v12 v13 : Option V} {D : Ends} {G H0 : Hp}
    (I : InS K H0 d r p dx tb m x l acc tab n q1 sd kvs) (hacc : ∀ i ∈ acc, 0 ≤ i ∧ i < m) (hal : acc.length ≤ 10) (kw : KW d p tb tab H0 G) (W : Wo K G d r p dx tb tab' n' m) (le : m ≤ n') (hnn : n ≤ n') (hn : n' ≤ 100)
    (one_ : one = -1 ∨ (0 ≤ one ∧ one < m)) (oth : ∀ i, isId tab i → i ≠ one → slotOf tab' x i = slotOf tab x i ∧ parI tab' i = parI tab i) 
    (q : ∀ q2 sd2 kvs2 G2 v11 v12 v13, InS K G2 d r p dx tb m x l acc tab' n' q2 sd2 kvs2 → D.nx (σI a d p l m v4 x v6 (some (.int one)) v11 v12 v13 q2 sd2) G2) :
    tRest K E D (σI a d p l m v4 x v6 (some (.int one)) v11 v12 v13 q1 sd) G := by
  have tk0 : TK H0 G := KW.tk I.w kw
  have hm : (m : Int) ≤ n' := by omega
  have hm0 : (m : Int) ≤ n := by have := I.le; omega
  have cl := I.w.closed hm0
  have cl' := W.closed hm
  have ids : ∀ i ∈ acc, isId tab i := fun i hi => I.w.gd.isId (hacc i hi).1 (by have := (hacc i hi).2; omega)
  have ids' : ∀ i ∈ acc, isId tab' i := fun i hi => W.gd.isId (hacc i hi).1 (by have := (hacc i hi).2; omega)
  have gl := tk0 _ _ I.st
  have sh1 := resD_shaped I.w x (srch tab x acc)
  have gsd : G sd = some (.dK kvs) := kw sd _ I.nd (ne_of I.dic I.w.ob.ins (by intro z; cases z)) I.nt I.na I.dic
  refine ⟨_, rfl, _, rfl, _, rfl, p, dx, tb, tab', n', l, acc, x, rfl, W.ob, gl, ids', cl', (fun e he => Nat.le_trans (W.gd.six he) (by decide)), W.gd.fuel hn (by omega), fun q2 G2 s2 t2 => ?_⟩
  have W2 := W.same s2
  have tk2 : TK H0 G2 := fun a xs z => s2 a _ (tk0 a xs z)
  have t1 := I.res.keep tk2
  have gsd2 := s2 _ _ gsd
  have same_all : (∀ i ∈ (srch tab x acc).1, i ≠ one) ∨ (vD tab' x one = vD tab x one) → resD tab' x (srch tab' x acc) = resD tab x (srch tab x acc) := fun h => by
    refine res_congr I.w.gd.ord W.gd.ord cl cl' ids ids' fun i hi => ?_
    have hid := srch_ids I.w.gd.ord cl ids i hi
    rcases h with h | h
    · exact oth i hid (h i hi)
    · by_cases c : i = one
      · rw [c]
        exact vD_inj h
      · exact oth i hid c
  -- before[1]
  have inv : ∃ v0 lt, G2 q1 = some (.tup [v0, .ref lt]) ∧ G2 lt = some (.tup ((srch tab x acc).1.map V.int)) := by
    cases t1 with
    | tup h1 r1 =>
      cases r1 with
      | cons a1 r1 =>
        cases r1 with
        | cons a2 r2 =>
          cases r2
          cases a2 with
          | tup h2 r2 =>
            have z : ∀ {vs : List V} {L : List Int}, Trs G2 vs (L.map PyData.int) → vs = L.map V.int := by
              intro vs L
              induction L generalizing vs with
              | nil => intro h; cases h; rfl
              | cons i L ih =>
                intro h
                cases h with
                | cons b1 b2 =>
                  cases b1
                  rw [ih b2]
                  rfl
            rw [z r2] at h2
            exact ⟨_, _, h1, h2⟩
  obtain ⟨v0, lt, g1, g2⟩ := inv
  refine ⟨_, rfl, _, rfl, q1, _, _, _, rfl, rfl, SqT.of g1, atI_nat (j := 1) rfl, lt, _, rfl, .inr (SqT.of g2), rfl, List.all_eq_true.mpr (fun y hy => by obtain ⟨z, _, rfl⟩ := List.mem_map.mp hy; rfl), _, rfl, ?_⟩
  show (if inV (.int one) ((srch tab x acc).1.map V.int) = true then _ else _)
  rw [in_ints]
  refine ite2 (fun c => ?_) (fun c => ?_)
  · have c := of_decide_eq_true c
    have hid := srch_ids I.w.gd.ord cl ids one c
    have h01 : 0 ≤ one ∧ one < m := by
      rcases one_ with rfl | h
      · obtain ⟨e, _, ez⟩ := hid
        omega
      · exact h
    obtain ⟨e, he, ee⟩ := W2.gd.isId h01.1 (by omega)
    obtain ⟨j, rfl⟩ := int_nat h01.1
    refine pairE (e := e) W2 he rfl rfl (by rw [ee]; rfl) fun t G3 s3 t3 => ?_
    rw [ee] at t3
    obtain ⟨v, ev, tv⟩ := I.sdf j (by omega)
    have gsd3 := s3 _ _ gsd2
    have tv3 : Tr G3 v (vD tab x (j : Int)) := tv.keep fun a xs z => s3 a _ (tk2 a xs z)
    refine ⟨_, rfl, _, rfl, sd, v, rfl, .inl ⟨_, Sum.inl (j : Int), .inl gsd3, rfl, ev.symm⟩, ?_⟩
    refine ⟨_, _, t3.dp, tv3.dp, vD_shaped W2 x _, vD_shaped I.w x _, ?_⟩
    have tk3 : TK G2 G3 := fun a xs z => s3 a _ z
    refine rest2_ok (E := E) (W2.same s3) le hn (s3 _ _ (s2 _ _ gl)) (t1.keep tk3) sh1 (t2.keep tk3) ?_ fun sd2 kvs2 G4 I4 => q _ _ _ _ _ _ _ I4
    cases z : PyData.eqv (vD tab' x (j : Int)) (vD tab x (j : Int)) with
    | false => exact .inl rfl
    | true => exact .inr (same_all (.inr (eqv_eq _ _ (tr_pl t3) (tr_pl tv3) z)))
  · have c : ¬ one ∈ (srch tab x acc).1 := fun z => c (decide_eq_true z)
    refine rest2_ok (E := E) W2 le hn (s2 _ _ gl) t1 sh1 t2 (.inr (same_all (.inl fun i hi z => c (by rw [← z]; exact hi)))) fun sd2 kvs2 G4 I4 => q _ _ _ _ _ _ _ I4
theorem run_law (h : sp_law K vs H Q E) : t_law K E (DQ Q) (start ns_law vs) H := by
  obtain ⟨a, ns, rfl, hS, hl, q⟩ := h
  refine ⟨_, rfl, a, ns, rfl, hS, hl, fun d r H1 s1 nd nr D1 => ?_⟩
  intro p dx np ndx nxp
  have S1 : Same H1 (upd (upd H1 dx (.own p)) p (.ins (OC K) dx [])) := fun b u z => by
    rw [upd_ne (ne_of_none z np), upd_ne (ne_of_none z ndx)]
    exact z
  have D1' := D1.same S1
  have dp : d ≠ p := D1.neD np
  have rp : r ≠ p := D1.neR np
  refine ⟨p, dx, rfl, upd_same, fun tb o H2 k2 ntb no O2 => ⟨rfl, ?_⟩⟩
  have D2 : Draws H2 d r := by
    obtain ⟨i, s, rs, h1, h2, h3⟩ := D1'
    exact ⟨i, s, rs, k2 _ _ dp h1, k2 _ _ rp h2, h3⟩
  refine ⟨_, rfl, _, rfl, d, r, p, dx, tb, o, rfl, D2, O2, D1'.neD ntb, D1'.neD no, fun m H3 tab3 m2 m8 W3 => ?_⟩
  refine ⟨8, rfl, by decide, by decide, ?_⟩
  refine for_range (lo := 0) (n := 8) (fun t σ G => ∃ (tab : List En) (n : Nat) (v4 v5 v6 v7 v8 v9 v10 v11 v12 v13 : Option V), σ = [some (.ref a), some (.ref d), some (.ref p), some (.int (m : Int)), v4, v5, v6, v7, v8, v9, v10, v11, v12, v13] ∧ Wo K G d r p dx tb tab n m ∧ m ≤ n ∧ n ≤ 8 + 5 * t)
    ⟨tab3, m, none, none, none, none, none, none, none, none, none, none, rfl, W3, Nat.le_refl _, by omega⟩ ?_ ?_
  · rintro t σ G ht ⟨tab, n, v4, v5, v6, v7, v8, v9, v10, v11, v12, v13, rfl, W, le, hn⟩
    have hm' : (0 : Int) < (m : Int) := by omega
    refine ⟨_, rfl, d, rfl, r, W.dr, fun s Ha Ka Da hs => ?_⟩
    have Wa := W.kept Ka Da
    -- starts
    refine ⟨_, rfl, d, 2, rfl, by decide, r, Da, fun j Hb j0 j1 Db Mb => ⟨_, _, rfl, rfl, 1 + j, rfl, by omega, by omega, fun D nD => ?_⟩⟩
    have Wb := Wa.kept (Kept.of_moved Mb) Db
    have Dr : D ≠ r := Ne.symm (Db.neR nD)
    obtain ⟨c, ec⟩ : ∃ c : Nat, (1 + j).toNat = c := ⟨_, rfl⟩
    have hc : c ≤ 2 := by omega
    rw [ec]
    refine lc_range (lo := 0) (n := c) (fun k G1 => ∃ acc : List Int, G1 D = some (.lst (acc.map V.int)) ∧ acc.length = k ∧ (∀ y ∈ acc, 0 ≤ y ∧ y < m) ∧ Wo K G1 d r p dx tb tab n m)
      ⟨[], upd_same, rfl, (fun y hy => by cases hy), Wb.same (same_upd nD)⟩ ?_ ?_
    · rintro k G1 hk ⟨acc, gD, la, hy, W1⟩
      refine ⟨rfl, _, rfl, _, rfl, d, _, rfl, hm', r, W1.dr, fun y G2 y0 y1 D2 M2 => ?_⟩
      have Dd : D ≠ d := by
        obtain ⟨i, s, rs, h1, _⟩ := W1.dr
        exact ne_of gD h1 (by intro z; cases z)
      have gD2 := (M2 D Dd).trans gD
      refine ⟨_, gD2, Nat.lt_of_le_of_lt (show (acc.map V.int).length ≤ 10 by rw [List.length_map]; omega) (by decide), acc ++ [y], by rw [upd_same, List.map_append]; rfl, by rw [List.length_append, la]; rfl, fun z hz => ?_, (W1.kept (Kept.of_moved M2) D2).lst gD2 Dr⟩
      rcases List.mem_append.mp hz with hz | hz
      · exact hy z hz
      · rw [List.mem_singleton.mp hz]
        exact ⟨y0, y1⟩
    · rintro G1 ⟨acc, gD, la, hy, W1⟩
      refine ⟨D, _, rfl, .inl ⟨SqL.of gD, fun l nl => ?_⟩⟩
      have s2 := same_upd (o := .tup (acc.map V.int)) nl
      have W2 := W1.same s2
      have hm0 : (m : Int) ≤ n := by omega
      have ids : ∀ i ∈ acc, isId tab i := fun i hi => W2.gd.isId (hy i hi).1 (by have := (hy i hi).2; omega)
      -- before
      refine ⟨_, rfl, _, rfl, _, rfl, p, dx, tb, tab, n, l, acc, Str.ofString s, rfl, W2.ob, upd_same, ids, W2.closed hm0, (fun e he => Nat.le_trans (W2.gd.six he) (by decide)), W2.gd.fuel (by omega) (by omega), fun q1 G3 s3 t3 => ?_⟩
      have W3 := W2.same s3
      -- slots
      refine dict_ok (i := 9) W3 le (by omega) rfl rfl rfl (by show 9 < 14; decide) (by decide) (by decide) fun sd G4 kvs s4 n4 g4 k4 => ?_
      have W4 := W3.same s4
      have I4 : InS K G4 d r p dx tb m (Str.ofString s) l acc tab n q1 sd kvs := ⟨W4, le, s4 _ _ (s3 _ _ upd_same), t3.keep (fun a xs z => s4 a _ z), g4, k4, Ne.symm (W3.ne_d n4), (fun z => by
        rw [z, W3.ob.tbl] at n4
        cases n4), fun e he z => by
        obtain ⟨kv0, g0, _⟩ := W3.ob.ent e he
        rw [z, g0] at n4
        cases n4⟩
      refine ⟨_, rfl, d, 5, rfl, by decide, r, W4.dr, fun b G5 b0 b1 D5 M5 => ?_⟩
      obtain ⟨b, rfl⟩ := int_nat b0
      refine ⟨(b : Int), rfl, by omega, by omega, ?_⟩
      rw [Int.toNat_natCast]
      have W5 := W4.kept (Kept.of_moved M5) D5
      have tk5 : TK G4 G5 := kept_tk W4.dr (Kept.of_moved M5)
      have I5 : InS K G5 d r p dx tb m (Str.ofString s) l acc tab n q1 sd kvs := ⟨W5, le, tk5 _ _ I4.st, I4.res.keep tk5, (M5 sd I4.nd).trans I4.dic, I4.sdf.same tk5, I4.nd, I4.nt, I4.na⟩
      refine for_range (lo := 0) (n := b) (fun k σ G => ∃ (tab : List En) (n : Nat) (q1 sd : Addr) (kvs : List (Key × V)) (v6 v9 v11 v12 v13 : Option V), σ = σI a d p l m (some (.int (0 + (t : Int)))) (Str.ofString s) v6 v9 v11 v12 v13 q1 sd ∧ InS K G d r p dx tb m (Str.ofString s) l acc tab n q1 sd kvs ∧ n ≤ 8 + 5 * t + k)
        ⟨tab, n, q1, sd, kvs, _, _, _, _, _, rfl, I5, by omega⟩ ?_ ?_
      · rintro k σ G6 hk ⟨tab, n, q1, sd, kvs, v6, v9, v11, v12, v13, rfl, I6, hn6⟩
        refine ⟨_, rfl, _, rfl, _, rfl, d, r, p, dx, tb, tab, n, m, rfl, I6.w, by omega, I6.le, by omega, fun H' e sl he em kw W' => ?_, fun H' o2 sl no2 kw W' => ?_⟩
        · refine rest_ok (E := E) (one := (e.id : Int)) I6 hy (by omega) kw W' I6.le (Nat.le_refl _) (by omega) (.inr ⟨by omega, by omega⟩) (fun i hi ne => slot_set I6.w.gd e.id sl hi ne) fun q2 sd2 kvs2 G7 v11 v12 v13 I7 => ?_
          exact ⟨_, n, q2, sd2, kvs2, _, _, _, _, _, rfl, I7, by omega⟩
        · refine rest_ok (E := E) (one := -1) I6 hy (by omega) kw W' (Nat.le_succ_of_le I6.le) (Nat.le_succ _) (by omega) (.inl rfl) (fun i hi _ => slot_add W'.gd.ord I6.w.gd hi) fun q2 sd2 kvs2 G7 v11 v12 v13 I7 => ?_
          exact ⟨_, n + 1, q2, sd2, kvs2, _, _, _, _, _, rfl, I7, by omega⟩
      · rintro σ G6 ⟨tab, n, q1, sd, kvs, v6, v9, v11, v12, v13, rfl, I6, hn6⟩
        exact ⟨tab, n, _, _, _, _, _, _, _, _, _, _, rfl, I6.w, I6.le, by omega⟩
  · rintro σ G ⟨tab, n, v4, v5, v6, v7, v8, v9, v10, v11, v12, v13, rfl, W, le, hn⟩
    exact q G
end
end Rm.Q

/-! M21: searches by definition, plain Lean: a walk that calls itself, a set that grows, the outcome by the set of holders. -/
namespace Rm.Q
open PySem PySem.Spec PyProof.Rows L2
section
variable {tab : List En} {x : Str}
/-! ### the walk -/
def wk (tab : List En) (x : Str) : Nat → Int → List Int → List Int
  | 0, _, L => L
  | n + 1, i, L => if i ∈ L then L else if hasS tab x i = true then L ++ [i] else (parI tab i).foldl (fun L j => wk tab x n j L) (L ++ [i])
def wks (tab : List En) (x : Str) (n : Nat) (w L : List Int) : List Int := w.foldl (fun L j => wk tab x n j L) L
theorem wks_cons (n : Nat) (i : Int) (w L : List Int) : wks tab x n (i :: w) L = wks tab x n w (wk tab x n i L) := rfl
theorem wk_succ (n : Nat) (i : Int) (L : List Int) : wk tab x (n + 1) i L = if i ∈ L then L else if hasS tab x i = true then L ++ [i] else wks tab x n (parI tab i) (L ++ [i]) := rfl
structure LI (tab : List En) (L : List Int) : Prop where
  nd : L.Nodup
  ids : ∀ i ∈ L, isId tab i
theorem LI.nil : LI tab [] := ⟨List.nodup_nil, fun i h => by cases h⟩
theorem LI.snoc {L : List Int} {i : Int} (h : LI tab L) (hi : isId tab i) (n : ¬ i ∈ L) : LI tab (L ++ [i]) := ⟨List.nodup_append.mpr ⟨h.nd, by simp, fun y hy z hz => by
  rw [List.mem_singleton.mp hz]
  intro k
  exact n (by rw [← k]; exact hy)⟩, fun j hj => by
  rcases List.mem_append.mp hj with hj | hj
  · exact h.ids j hj
  · rw [List.mem_singleton.mp hj]
    exact hi⟩
theorem LI.len {L : List Int} (h : LI tab L) : L.length ≤ tab.length := ids_len h.nd h.ids
theorem par_ids (o : tab.Pairwise fun a b => a.id < b.id) (cl : Closed tab) {i : Int} (hi : isId tab i) : ∀ j ∈ parI tab i, isId tab j := by
  obtain ⟨e, he, rfl⟩ := hi
  intro j hj
  rw [parI_mem o he] at hj
  exact cl e he j hj
def Done (tab : List En) (x : Str) (L : List Int) (j : Int) : Prop := hasS tab x j = true ∨ ∀ k ∈ parI tab j, k ∈ L
theorem Done.mono {L M : List Int} {j : Int} (h : Done tab x L j) (s : ∀ k ∈ L, k ∈ M) : Done tab x M j := h.imp id fun h k hk => s k (h k hk)
structure WkOk (tab : List En) (x : Str) (ms : List Int) (L R R' : List Int) : Prop where
  inv : LI tab R
  ext : ∃ M, R = L ++ M
  mem : ∀ i ∈ ms, i ∈ R
  cls : ∀ j ∈ R, j ∈ L ∨ Done tab x R j
  fue : R' = R
theorem WkOk.sub {ms L R R' : List Int} (h : WkOk tab x ms L R R') : ∀ k ∈ L, k ∈ R := fun k hk => by
  obtain ⟨M, e⟩ := h.ext
  rw [e]
  exact List.mem_append_left _ hk
theorem WkOk.len {ms L R R' : List Int} (h : WkOk tab x ms L R R') : L.length ≤ R.length := by
  obtain ⟨M, e⟩ := h.ext
  rw [e, List.length_append]
  omega
theorem wks_ok {n : Nat} (P : ∀ i L, LI tab L → isId tab i → tab.length < L.length + n → WkOk tab x [i] L (wk tab x n i L) (wk tab x (n + 1) i L)) : ∀ w L, LI tab L → (∀ i ∈ w, isId tab i) → tab.length < L.length + n → WkOk tab x w L (wks tab x n w L) (wks tab x (n + 1) w L)
  | [], L, h, _, _ => ⟨h, ⟨[], (List.append_nil L).symm⟩, (fun i hi => by cases hi), fun j hj => .inl hj, rfl⟩
  | i :: w, L, h, hw, hn => by
    have p := P i L h (hw i List.mem_cons_self) hn
    have q := wks_ok P w (wk tab x n i L) p.inv (fun j hj => hw j (List.mem_cons_of_mem _ hj)) (by have := p.len; omega)
    rw [wks_cons, wks_cons, p.fue]
    refine ⟨q.inv, ?_, fun j hj => ?_, fun j hj => ?_, q.fue⟩
    · obtain ⟨M, e⟩ := p.ext
      obtain ⟨N, f⟩ := q.ext
      exact ⟨M ++ N, by rw [f]; conv => lhs; rw [e]
                        exact List.append_assoc _ _ _⟩
    · rcases List.mem_cons.mp hj with rfl | hj
      · exact q.sub _ (p.mem _ List.mem_cons_self)
      · exact q.mem j hj
    · rcases q.cls j hj with hj | hj
      · rcases p.cls j hj with hj | hj
        · exact .inl hj
        · exact .inr (hj.mono q.sub)
      · exact .inr hj
theorem wk_ok (o : tab.Pairwise fun a b => a.id < b.id) (cl : Closed tab) : ∀ (n : Nat) (i : Int) (L : List Int), LI tab L → isId tab i → tab.length < L.length + n → WkOk tab x [i] L (wk tab x n i L) (wk tab x (n + 1) i L)
  | 0, i, L, h, _, hn => absurd h.len (by omega)
  | n + 1, i, L, h, hi, hn => by
    rw [wk_succ, wk_succ]
    by_cases c : i ∈ L
    · rw [if_pos c, if_pos c]
      exact ⟨h, ⟨[], (List.append_nil L).symm⟩, fun j hj => by rw [List.mem_singleton.mp hj]; exact c, fun j hj => .inl hj, rfl⟩
    · rw [if_neg c, if_neg c]
      have h1 := h.snoc hi c
      by_cases k : hasS tab x i = true
      · rw [if_pos k, if_pos k]
        refine ⟨h1, ⟨[i], rfl⟩, fun j hj => List.mem_append_right _ hj, fun j hj => ?_, rfl⟩
        rcases List.mem_append.mp hj with hj | hj
        · exact .inl hj
        · rw [List.mem_singleton.mp hj]
          exact .inr (.inl k)
      · rw [if_neg k, if_neg k]
        have q := wks_ok (wk_ok o cl n) (parI tab i) (L ++ [i]) h1 (par_ids o cl hi) (by rw [List.length_append, List.length_singleton]; omega)
        refine ⟨q.inv, ?_, fun j hj => q.sub j (List.mem_append_right _ hj), fun j hj => ?_, q.fue⟩
        · obtain ⟨M, e⟩ := q.ext
          exact ⟨[i] ++ M, by rw [e, List.append_assoc]⟩
        · rcases q.cls j hj with hj | hj
          · rcases List.mem_append.mp hj with hj | hj
            · exact .inl hj
            · rw [List.mem_singleton.mp hj]
              exact .inr (.inr q.mem)
          · exact .inr hj
theorem wks_all (o : tab.Pairwise fun a b => a.id < b.id) (cl : Closed tab) {n : Nat} {w L : List Int} (h : LI tab L) (hw : ∀ i ∈ w, isId tab i) (hn : tab.length < L.length + n) : WkOk tab x w L (wks tab x n w L) (wks tab x (n + 1) w L) := wks_ok (wk_ok o cl n) w L h hw hn
/-- what is closed and holds the starts holds the walk -/
def Cl (tab : List En) (x : Str) (C : Int → Prop) : Prop := ∀ i, C i → Done tab x [] i ∨ ∀ k ∈ parI tab i, C k
theorem wk_least {C : Int → Prop} (hc : ∀ i, C i → hasS tab x i = true ∨ ∀ k ∈ parI tab i, C k) : ∀ (n : Nat) (i : Int) (L : List Int), C i → (∀ j ∈ L, C j) → ∀ j ∈ wk tab x n i L, C j
  | 0, _, _, _, h => h
  | n + 1, i, L, hi, h => by
    have h1 : ∀ j ∈ L ++ [i], C j := fun j hj => by
      rcases List.mem_append.mp hj with hj | hj
      · exact h j hj
      · rw [List.mem_singleton.mp hj]
        exact hi
    rw [wk_succ]
    split
    · exact h
    · split
      · exact h1
      · rename_i k
        have hp : ∀ p ∈ parI tab i, C p := (hc i hi).resolve_left k
        have z : ∀ (w M : List Int), (∀ p ∈ w, C p) → (∀ j ∈ M, C j) → ∀ j ∈ wks tab x n w M, C j := by
          intro w
          induction w with
          | nil => exact fun M _ h => h
          | cons p w ih => exact fun M hw hM => ih _ (fun q hq => hw q (List.mem_cons_of_mem _ hq)) (wk_least hc n p M (hw p List.mem_cons_self) hM)
        exact z _ _ hp h1
theorem wks_least {C : Int → Prop} (hc : ∀ i, C i → hasS tab x i = true ∨ ∀ k ∈ parI tab i, C k) (n : Nat) : ∀ (w L : List Int), (∀ i ∈ w, C i) → (∀ j ∈ L, C j) → ∀ j ∈ wks tab x n w L, C j
  | [], _, _, h => h
  | i :: w, L, hw, h => wks_least hc n w _ (fun q hq => hw q (List.mem_cons_of_mem _ hq)) (wk_least hc n i L (hw i List.mem_cons_self) h)
/-! ### the search is the walk -/
theorem sr_wk (o : tab.Pairwise fun a b => a.id < b.id) (cl : Closed tab) : ∀ (m : Nat) (L A w : List Int) (n : Nat), LI tab L → (∀ i ∈ w, isId tab i) → (tab.length - L.length) * (bdS tab + 1) + w.length < m → tab.length < L.length + n → (srF tab x m L A w).1 = wks tab x n w L
  | 0, _, _, _, _, _, _, h, _ => absurd h (Nat.not_lt_zero _)
  | m + 1, L, A, [], n, _, _, _, _ => rfl
  | m + 1, L, A, j :: w, n, hL, hw, hm, hn => by
    rw [List.length_cons] at hm
    have hw2 : ∀ i ∈ w, isId tab i := fun i hi => hw i (List.mem_cons_of_mem _ hi)
    have hj := hw j List.mem_cons_self
    obtain ⟨n', rfl⟩ : ∃ n', n = n' + 1 := ⟨n - 1, by have := hL.len; omega⟩
    rw [wks_cons, wk_succ]
    unfold srF
    by_cases c : j ∈ L
    · rw [if_pos c, if_pos c]
      exact sr_wk o cl m L A w _ hL hw2 (by omega) hn
    · rw [if_neg c, if_neg c]
      have h1 := hL.snoc hj c
      have ll := h1.len
      have el : (L ++ [j]).length = L.length + 1 := by rw [List.length_append]; rfl
      rw [el] at ll
      split
      · have a1 := fuel_step (N := tab.length) (l := L.length) (B := bdS tab) (w := w.length) (m := m) ll hm (Nat.zero_le _)
        exact sr_wk o cl m _ _ w _ h1 hw2 (by rw [el]; omega) (by rw [el]; omega)
      · have pi := par_ids o cl hj
        obtain ⟨e, he, ej⟩ := id hj
        have b : (parI tab j).length ≤ bdS tab := by
          rw [← ej, parI_mem o he]
          exact par_bd he
        have a1 := fuel_step (N := tab.length) (l := L.length) (B := bdS tab) (w := w.length) (m := m) ll hm b
        rw [sr_wk o cl m _ _ (parI tab j ++ w) (n' + 1) h1 (fun i hi => by
          rcases List.mem_append.mp hi with hi | hi
          · exact pi i hi
          · exact hw2 i hi) (by rw [el, List.length_append]; exact a1) (by rw [el]; omega)]
        have f := (wks_all (x := x) o cl (n := n') h1 pi (by rw [el]; omega)).fue
        unfold wks at f ⊢
        rw [List.foldl_append, f]
theorem sr_fil : ∀ (m : Nat) (L A w : List Int), A = L.filter (hasS tab x) → (srF tab x m L A w).2 = (srF tab x m L A w).1.filter (hasS tab x)
  | 0, _, _, _, h => h
  | _ + 1, _, _, [], h => h
  | m + 1, L, A, j :: w, h => by
    unfold srF
    split
    · exact sr_fil m L A w h
    · split
      · rename_i c
        refine sr_fil m _ _ w ?_
        rw [List.filter_append, ← h, List.filter_cons, if_pos c]
        rfl
      · rename_i c
        refine sr_fil m _ _ _ ?_
        rw [List.filter_append, ← h, List.filter_cons, if_neg c]
        exact (List.append_nil A).symm
/-- the fuel of a walk over eight objects -/
abbrev WF : Nat := 9
theorem srch_eq (o : tab.Pairwise fun a b => a.id < b.id) (cl : Closed tab) (h8 : tab.length ≤ 8) {st : List Int} (hst : ∀ i ∈ st, isId tab i) : srch tab x st = (wks tab x WF st [], (wks tab x WF st []).filter (hasS tab x)) := by
  have e : (srch tab x st).1 = wks tab x WF st [] := sr_wk o cl _ [] [] st WF LI.nil hst (start_lt st) (by show tab.length < 0 + 9; omega)
  have f : (srch tab x st).2 = (srch tab x st).1.filter (hasS tab x) := sr_fil _ [] [] st rfl
  rw [e] at f
  exact Prod.ext e f
/-! ### the set that grows -/
def addI (R : List Int) (p : Int) : List Int := if p ∈ R then R else R ++ [p]
def rnd1 (tab : List En) (x : Str) (R : List Int) (i : Int) : List Int := if hasS tab x i = true then R else (parI tab i).foldl addI R
def rnd (tab : List En) (x : Str) (R : List Int) : List Int := R.foldl (rnd1 tab x) R
def itr (tab : List En) (x : Str) : Nat → List Int → List Int
  | 0, R => R
  | k + 1, R => rnd tab x (itr tab x k R)
structure Gr (tab : List En) (R R' : List Int) : Prop where
  ex : ∃ E, R' = R ++ E ∧ E.Nodup ∧ ∀ i ∈ E, i ∉ R ∧ isId tab i
theorem Gr.refl (R : List Int) : Gr tab R R := ⟨[], (List.append_nil R).symm, List.nodup_nil, fun i h => by cases h⟩
theorem Gr.trans {R R1 R2 : List Int} (a : Gr tab R R1) (b : Gr tab R1 R2) : Gr tab R R2 := by
  obtain ⟨E, rfl, n1, h1⟩ := a.ex
  obtain ⟨F, rfl, n2, h2⟩ := b.ex
  refine ⟨E ++ F, List.append_assoc _ _ _, List.nodup_append.mpr ⟨n1, n2, fun y hy z hz k => (h2 z hz).1 (List.mem_append_right _ (by rw [← k]; exact hy))⟩, fun i hi => ?_⟩
  rcases List.mem_append.mp hi with hi | hi
  · exact h1 i hi
  · exact ⟨fun k => (h2 i hi).1 (List.mem_append_left _ k), (h2 i hi).2⟩
theorem Gr.sub {R R' : List Int} (a : Gr tab R R') : ∀ i ∈ R, i ∈ R' := fun i hi => by
  obtain ⟨E, rfl, _⟩ := a.ex
  exact List.mem_append_left _ hi
theorem Gr.ids {R R' : List Int} (a : Gr tab R R') (h : ∀ i ∈ R, isId tab i) : ∀ i ∈ R', isId tab i := fun i hi => by
  obtain ⟨E, rfl, _, h2⟩ := a.ex
  rcases List.mem_append.mp hi with hi | hi
  · exact h i hi
  · exact (h2 i hi).2
theorem Gr.len {R R' : List Int} (a : Gr tab R R') : R'.length ≤ R.length + tab.length := by
  obtain ⟨E, rfl, n, h⟩ := a.ex
  rw [List.length_append]
  have := ids_len n fun i hi => (h i hi).2
  omega
theorem Gr.le {R R' : List Int} (a : Gr tab R R') : R.length ≤ R'.length := by
  obtain ⟨E, rfl, n, h⟩ := a.ex
  rw [List.length_append]
  omega
theorem Gr.eq {R R' : List Int} (a : Gr tab R R') (h : R'.length ≤ R.length) : R' = R := by
  obtain ⟨E, rfl, _, _⟩ := a.ex
  rw [List.length_append] at h
  have : E = [] := List.eq_nil_of_length_eq_zero (by omega)
  rw [this, List.append_nil]
theorem addI_gr (R : List Int) {p : Int} (hp : isId tab p) : Gr tab R (addI R p) := by
  unfold addI
  split
  · exact Gr.refl R
  · rename_i c
    exact ⟨[p], rfl, by simp, fun i hi => by rw [List.mem_singleton.mp hi]; exact ⟨c, hp⟩⟩
theorem addI_mem (R : List Int) (p : Int) : p ∈ addI R p := by
  unfold addI
  split
  · assumption
  · exact List.mem_append_right _ (List.mem_singleton.mpr rfl)
theorem adds_gr : ∀ (ps R : List Int), (∀ p ∈ ps, isId tab p) → Gr tab R (ps.foldl addI R)
  | [], R, _ => Gr.refl R
  | p :: ps, R, h => (addI_gr R (h p List.mem_cons_self)).trans (adds_gr ps _ fun q hq => h q (List.mem_cons_of_mem _ hq))
theorem adds_mem : ∀ (ps R : List Int), (∀ p ∈ ps, isId tab p) → ∀ p ∈ ps, p ∈ ps.foldl addI R
  | [], _, _, _, h => by cases h
  | q :: ps, R, h, p, hp => by
    have h2 : ∀ r ∈ ps, isId tab r := fun r hr => h r (List.mem_cons_of_mem _ hr)
    rcases List.mem_cons.mp hp with rfl | hp
    · exact (adds_gr ps _ h2).sub _ (addI_mem R p)
    · exact adds_mem ps _ h2 p hp
theorem adds_all : ∀ (ps R : List Int), (∀ p ∈ ps, p ∈ R) → ps.foldl addI R = R
  | [], _, _ => rfl
  | p :: ps, R, h => by
    have e : addI R p = R := if_pos (h p List.mem_cons_self)
    rw [List.foldl_cons, e]
    exact adds_all ps R fun q hq => h q (List.mem_cons_of_mem _ hq)
theorem adds_least {C : Int → Prop} : ∀ (ps R : List Int), (∀ p ∈ ps, C p) → (∀ i ∈ R, C i) → ∀ i ∈ ps.foldl addI R, C i
  | [], _, _, h => h
  | p :: ps, R, hp, h => adds_least ps _ (fun q hq => hp q (List.mem_cons_of_mem _ hq)) fun i hi => by
    unfold addI at hi
    split at hi
    · exact h i hi
    · rcases List.mem_append.mp hi with hi | hi
      · exact h i hi
      · rw [List.mem_singleton.mp hi]
        exact hp p List.mem_cons_self
theorem rnd1_gr (o : tab.Pairwise fun a b => a.id < b.id) (cl : Closed tab) (R : List Int) {i : Int} (hi : isId tab i) : Gr tab R (rnd1 tab x R i) := by
  unfold rnd1
  split
  · exact Gr.refl R
  · exact adds_gr _ R (par_ids o cl hi)
theorem rnds_gr (o : tab.Pairwise fun a b => a.id < b.id) (cl : Closed tab) : ∀ (l R : List Int), (∀ i ∈ l, isId tab i) → Gr tab R (l.foldl (rnd1 tab x) R)
  | [], R, _ => Gr.refl R
  | i :: l, R, h => (rnd1_gr o cl R (h i List.mem_cons_self)).trans (rnds_gr o cl l _ fun q hq => h q (List.mem_cons_of_mem _ hq))
theorem rnds_done (o : tab.Pairwise fun a b => a.id < b.id) (cl : Closed tab) : ∀ (l R : List Int), (∀ i ∈ l, isId tab i) → ∀ i ∈ l, Done tab x (l.foldl (rnd1 tab x) R) i
  | [], _, _, _, h => by cases h
  | j :: l, R, h, i, hi => by
    have h2 : ∀ r ∈ l, isId tab r := fun r hr => h r (List.mem_cons_of_mem _ hr)
    rcases List.mem_cons.mp hi with rfl | hi
    · refine Done.mono (L := rnd1 tab x R i) ?_ (rnds_gr o cl l _ h2).sub
      by_cases c : hasS tab x i = true
      · exact .inl c
      · refine .inr fun k hk => ?_
        unfold rnd1
        rw [if_neg c]
        exact adds_mem _ R (par_ids o cl (h i List.mem_cons_self)) k hk
    · exact rnds_done o cl l _ h2 i hi
theorem rnds_all : ∀ (l R : List Int), (∀ i ∈ l, Done tab x R i) → l.foldl (rnd1 tab x) R = R
  | [], _, _ => rfl
  | i :: l, R, h => by
    have e : rnd1 tab x R i = R := by
      unfold rnd1
      split
      · rfl
      · rename_i c
        exact adds_all _ R ((h i List.mem_cons_self).resolve_left c)
    rw [List.foldl_cons, e]
    exact rnds_all l R fun q hq => h q (List.mem_cons_of_mem _ hq)
theorem rnds_least {C : Int → Prop} (hc : ∀ i, C i → hasS tab x i = true ∨ ∀ k ∈ parI tab i, C k) : ∀ (l R : List Int), (∀ i ∈ l, C i) → (∀ i ∈ R, C i) → ∀ i ∈ l.foldl (rnd1 tab x) R, C i
  | [], _, _, h => h
  | i :: l, R, hl, h => rnds_least hc l _ (fun q hq => hl q (List.mem_cons_of_mem _ hq)) (by
    unfold rnd1
    split
    · exact h
    · rename_i c
      exact adds_least _ R ((hc i (hl i List.mem_cons_self)).resolve_left c) h)
theorem itr_gr (o : tab.Pairwise fun a b => a.id < b.id) (cl : Closed tab) {st : List Int} (hst : ∀ i ∈ st, isId tab i) : ∀ k, Gr tab st (itr tab x k st)
  | 0 => Gr.refl st
  | k + 1 => (itr_gr o cl hst k).trans (rnds_gr o cl _ _ ((itr_gr o cl hst k).ids hst))
theorem itr_least {C : Int → Prop} (hc : ∀ i, C i → hasS tab x i = true ∨ ∀ k ∈ parI tab i, C k) {st : List Int} (hs : ∀ i ∈ st, C i) : ∀ k, ∀ i ∈ itr tab x k st, C i
  | 0 => hs
  | k + 1 => rnds_least hc _ _ (itr_least hc hs k) (itr_least hc hs k)
theorem itr_done (o : tab.Pairwise fun a b => a.id < b.id) (cl : Closed tab) {st : List Int} (hst : ∀ i ∈ st, isId tab i) : ∀ k, (∀ i ∈ itr tab x k st, Done tab x (itr tab x k st) i) ∨ st.length + k ≤ (itr tab x k st).length
  | 0 => .inr (Nat.le_refl _)
  | k + 1 => by
    have ids := (itr_gr (x := x) o cl hst k).ids hst
    have g : Gr tab (itr tab x k st) (itr tab x (k + 1) st) := rnds_gr o cl _ _ ids
    rcases itr_done o cl hst k with h | h
    · have e : itr tab x (k + 1) st = itr tab x k st := rnds_all _ _ h
      rw [e]
      exact .inl h
    · by_cases c : (itr tab x (k + 1) st).length ≤ (itr tab x k st).length
      · have e := g.eq c
        refine .inl fun i hi => ?_
        rw [e] at hi
        exact rnds_done o cl _ _ ids i hi
      · refine .inr ?_
        omega
theorem reach_done (o : tab.Pairwise fun a b => a.id < b.id) (cl : Closed tab) (h8 : tab.length ≤ 8) {st : List Int} (hst : ∀ i ∈ st, isId tab i) : ∀ i ∈ itr tab x 12 st, Done tab x (itr tab x 12 st) i := by
  rcases itr_done (x := x) o cl hst 12 with h | h
  · exact h
  · have := (itr_gr (x := x) o cl hst 12).len
    omega
/-- what is reached is what the walk meets -/
theorem reach_walk (o : tab.Pairwise fun a b => a.id < b.id) (cl : Closed tab) (h8 : tab.length ≤ 8) {st : List Int} (hst : ∀ i ∈ st, isId tab i) (i : Int) : i ∈ itr tab x 12 st ↔ i ∈ wks tab x WF st [] := by
  have w := wks_all (x := x) o cl (n := WF) (w := st) LI.nil hst (by show tab.length < 0 + 9; omega)
  constructor
  · refine itr_least (C := fun i => i ∈ wks tab x WF st []) (fun j hj => ?_) w.mem 12 i
    rcases w.cls j hj with h | h
    · cases h
    · exact h
  · exact wks_least (C := fun i => i ∈ itr tab x 12 st) (fun j hj => reach_done o cl h8 hst j hj) WF st [] (itr_gr o cl hst 12).sub (fun j hj => by cases hj) i
/-! ### the outcome by the set of holders -/
theorem outD_congr {F D : List Int} (nF : F.Nodup) (nD : D.Nodup) (h : ∀ i, i ∈ F ↔ i ∈ D) : outD tab x F = outD tab x D := by
  have l1 := nodup_len nF fun i hi => (h i).mp hi
  have l2 := nodup_len nD fun i hi => (h i).mpr hi
  match F, D with
  | [], [] => rfl
  | [a], [b] =>
    have : a = b := List.mem_singleton.mp ((h a).mp (List.mem_singleton.mpr rfl))
    rw [this]
  | _ :: _ :: _, _ :: _ :: _ => rfl
  | [], _ :: _ => simp at l2
  | _ :: _, [] => simp at l1
  | [_], _ :: _ :: _ => simp at l2
  | _ :: _ :: _, [_] => simp at l1
/-- by neighbours that differ, of an ascending row -/
structure Dd (hs : List Int) (k : Nat) (acc : List Int) : Prop where
  lt : acc.Pairwise (· < ·)
  mem : ∀ i, i ∈ acc ↔ i ∈ hs.take k
theorem Dd.zero (hs : List Int) : Dd hs 0 [] := ⟨.nil, fun i => by simp⟩
theorem Dd.keep {hs acc : List Int} {k : Nat} (d : Dd hs (k + 1) acc) (hk : k + 1 < hs.length) (e : hs[k + 1] = hs[k]) : Dd hs (k + 2) acc := by
  refine ⟨d.lt, fun i => ?_⟩
  rw [List.take_succ_eq_append_getElem hk, List.mem_append, ← d.mem i]
  constructor
  · exact .inl
  · rintro (h | h)
    · exact h
    · rw [List.mem_singleton.mp h, e, d.mem]
      rw [List.take_succ_eq_append_getElem (by omega)]
      exact List.mem_append_right _ (List.mem_singleton.mpr rfl)
theorem Dd.add {hs acc : List Int} {k : Nat} (s : hs.Pairwise (· ≤ ·)) (d : Dd hs k acc) (hk : k < hs.length) (ne : ∀ j, k = j + 1 → ∀ h : j < hs.length, hs[k] ≠ hs[j]) : Dd hs (k + 1) (acc ++ [hs[k]]) := by
  refine ⟨List.pairwise_append.mpr ⟨d.lt, List.pairwise_singleton _ _, fun y hy z hz => ?_⟩, fun i => ?_⟩
  · rw [List.mem_singleton.mp hz]
    obtain ⟨q, hq, rfl⟩ := List.getElem_of_mem ((d.mem y).mp hy)
    rw [List.length_take] at hq
    rw [List.getElem_take]
    obtain ⟨j, rfl⟩ : ∃ j, k = j + 1 := ⟨k - 1, by omega⟩
    have n := ne j rfl (by omega)
    have a : hs[q]'(by omega) ≤ hs[j]'(by omega) := by
      rcases Nat.lt_or_ge q j with c | c
      · exact List.pairwise_iff_getElem.mp s q j _ _ c
      · have : q = j := by omega
        subst this
        exact Int.le_refl _
    have b : hs[j]'(by omega) ≤ hs[j + 1] := List.pairwise_iff_getElem.mp s j (j + 1) _ _ (Nat.lt_succ_self j)
    omega
  · rw [List.take_succ_eq_append_getElem hk, List.mem_append, List.mem_append, d.mem i]
theorem Dd.nd {hs acc : List Int} {k : Nat} (d : Dd hs k acc) : acc.Nodup := d.lt.imp fun h e => by omega
end
end Rm.Q

/-! L21: searches by definition: more of the program's defs, the law's own: promises, readings (by gen.py), runs. -/
namespace Rm.Q.K21
open PySem PySem.Spec PyProof.Rows L2
/-! ### data of slots and images -/
def trD (s : Sl) : PyData := .tuple [.str s.name, .str s.kind, s.val]
def slsD (sl : List Sl) : PyData := .tuple (sl.map trD)
def entD (e : En) : PyData := .tuple [.int (e.id : Int), slsD e.sl]
def imgD (tab : List En) : PyData := .tuple (tab.map entD)
def noneD : PyData := .tuple [.tuple [.str ("none" : Str)], .tuple []]
def svD (tab : List En) (x : Str) (D : PyData) : PyData := match refOf D with
  | some i => resD tab x (srch tab x [i])
  | none => noneD
def sp_Objects_ids (K : PySem.W.Frag) : Sp := fun vs H Q _ => ∃ (p dx tb : Addr) (tab : List En) (nx : Nat), vs = [.ref p] ∧ Ob K H p dx tb tab nx ∧
  ∀ q H', Same H H' → H q = none → H' q = some (.lst (tab.map fun e => V.int (e.id : Int))) → Q (.ref q) H'
def sp_Objects_slots (K : PySem.W.Frag) : Sp := fun vs H Q _ => ∃ (p dx tb : Addr) (tab : List En) (nx : Nat) (e : En), vs = [.ref p, .int (e.id : Int)] ∧ Ob K H p dx tb tab nx ∧ e ∈ tab ∧ e.sl.length ≤ 1000000 ∧
  ∀ q H', Same H H' → Tr H' (.ref q) (slsD e.sl) → Q (.ref q) H'
def sp_Objects_image (K : PySem.W.Frag) : Sp := fun vs H Q _ => ∃ (p dx tb : Addr) (tab : List En) (nx : Nat), vs = [.ref p] ∧ Ob K H p dx tb tab nx ∧ (∀ e ∈ tab, e.sl.length ≤ 1000000) ∧ tab.length ≤ 1000000 ∧
  ∀ q H', Same H H' → Tr H' (.ref q) (imgD tab) → Q (.ref q) H'
def sp_search_value (K : PySem.W.Frag) : Sp := fun vs H Q _ => ∃ (p dx tb : Addr) (tab : List En) (nx : Nat) (v : V) (D : PyData) (x : Str), vs = [.ref p, v, .str x] ∧ Ob K H p dx tb tab nx ∧ Tr H v D ∧ ValOk D ∧ (∀ i, refOf D = some i → isId tab i) ∧ Closed tab ∧ (∀ e ∈ tab, e.sl.length ≤ 1000000) ∧ fuel tab [0] ≤ 10000000 ∧
  ∀ q H', Same H H' → Tr H' (.ref q) (svD tab x D) → Q (.ref q) H'
def sp_l_walk (K : PySem.W.Frag) (n : Nat) : Sp := fun vs H Q _ => ∃ (p dx tb : Addr) (tab : List En) (nx : Nat) (i : Int) (x : Str) (a : Addr) (L : List Int), vs = [.ref p, .int i, .str x, .ref a] ∧ Ob K H p dx tb tab nx ∧ isId tab i ∧ Closed tab ∧ (∀ e ∈ tab, e.sl.length ≤ 1000000) ∧
  H a = some (.lst (L.map V.int)) ∧ LI tab L ∧ tab.length < L.length + n ∧ tab.length ≤ 100000 ∧ ∀ q H', Same H H' → H' q = some (.lst ((wk tab x n i L).map V.int)) → Q (.ref q) H'
def sp_l_reached (K : PySem.W.Frag) : Sp := fun vs H Q _ => ∃ (p dx tb : Addr) (tab : List En) (nx : Nat) (a : Addr) (st : List Int) (x : Str), vs = [.ref p, .ref a, .str x] ∧ Ob K H p dx tb tab nx ∧ H a = some (.tup (st.map V.int)) ∧ (∀ i ∈ st, isId tab i) ∧ Closed tab ∧ (∀ e ∈ tab, e.sl.length ≤ 1000000) ∧ tab.length ≤ 8 ∧ st.length ≤ 10 ∧
  ∀ q H', Same H H' → H q = none → H' q = some (.lst ((itr tab x 12 st).map V.int)) → Q (.ref q) H'
def sp_l_due (K : PySem.W.Frag) : Sp := fun vs H Q _ => ∃ (p dx tb : Addr) (tab : List En) (nx : Nat) (a : Addr) (st : List Int) (x : Str), vs = [.ref p, .ref a, .str x] ∧ Ob K H p dx tb tab nx ∧ H a = some (.tup (st.map V.int)) ∧ (∀ i ∈ st, isId tab i) ∧ Closed tab ∧ (∀ e ∈ tab, e.sl.length ≤ 1000000) ∧ tab.length ≤ 8 ∧ st.length ≤ 10 ∧
  ∀ q H', Same H H' → Tr H' (.ref q) (resD tab x (srch tab x st)) → Q (.ref q) H'
def sp_law (K : PySem.W.Frag) : Sp := fun vs H Q _ => ∃ (a : Addr) (ns : List Int), vs = [.ref a] ∧ SqL K H a (ns.map V.int) ∧ ns.length ≤ 63 ∧ ∀ H', Q (.bl true) H'
/-! ### readings -/

def ns_Objects_ids : List Str := ["self"]
def t_Objects_ids (K : PySem.W.Frag) (E : XK) : TS :=
  (tRet (tCB (rListD K) (tCons (tFld K (tVar 0) ("table" : Str)) tNil)))

def ns_Objects_slots : List Str := ["self", "object_id", "pairs", "name", "kind", "value"]
def t_Objects_slots (K : PySem.W.Frag) (E : XK) : TS :=
  (tSeq (tAsg (tDGet (tFld K (tVar 0) ("table" : Str)) (tVar 1)) (gName 2))
    (tRet (tCB (rTupleOf K) (tCons (tLockE (tLc (iItems (tVar 2)) (gTup K 2 (gCons (gName 3) (gCons (gTup K 2 (gCons (gName 4) (gCons (gName 5) gNil))) gNil))) tYes (tTup (tCons (tVar 3) (tCons (tVar 4) (tCons (tVar 5) tNil)))) [3, 4, 5])) tNil))))

def ns_Objects_image : List Str := ["self", "object_id"]
def t_Objects_image (K : PySem.W.Frag) (E : XK) : TS :=
  (tRet (tCB (rTupleOf K) (tCons (tLc (iList K (tMeth (He.ga K ("Objects" : Str)) ("ids" : Str) (sp_Objects_ids K) [] E (tVar 0) tNil)) (gName 1) tYes (tTup (tCons (tVar 1) (tCons (tMeth (He.ga K ("Objects" : Str)) ("slots" : Str) (sp_Objects_slots K) [] E0 (tVar 0) (tCons (tVar 1) tNil)) tNil))) [1]) tNil)))

def ns_search_value : List Str := ["objects", "value", "name"]
def t_search_value (K : PySem.W.Frag) (E : XK) : TS :=
  (tSeq (tIfS (tTest (tOp rNe (tOp (rIxT K) (tVar 1) (tC (.int 0))) (tC (.str ("ref" : Str)))))
      (tRet (tTup (tCons (tTup (tCons (tC (.str ("none" : Str))) tNil)) (tCons (tTup tNil) tNil))))
      tNext)
    (tRet (tCall (sp_search K) [] E (tCons (tVar 0) (tCons (tTup (tCons (tOp (rIxT K) (tVar 1) (tC (.int 1))) tNil)) (tCons (tVar 2) tNil))))))

def ns_l_walk : List Str := ["objects", "one", "name", "looked", "parent"]
def t_l_walk (K : PySem.W.Frag) (n : Nat) (E : XK) : TS :=
  (tSeq (tIfS (tTest (tOp (rIn K false) (tVar 1) (tVar 3)))
      (tRet (tVar 3))
      tNext)
    (tSeq (tAsg (tOp rCat (tVar 3) (tLst (tCons (tVar 1) tNil))) (gName 3))
    (tSeq (tIfS (tTest (tOp rIsN (tMeth (He.ga K ("Objects" : Str)) ("slot" : Str) (sp_Objects_slot K) [] E (tVar 0) (tCons (tVar 1) (tCons (tVar 2) tNil))) (tC .non)))
      (tFor (iTup K (tMeth (He.ga K ("Objects" : Str)) ("parents" : Str) (sp_Objects_parents K) [] E (tVar 0) (tCons (tVar 1) tNil))) (gName 4)
      (tAsg (tCall (sp_l_walk K n) [] E (tCons (tVar 0) (tCons (tVar 4) (tCons (tVar 2) (tCons (tVar 3) tNil))))) (gName 3)))
      tNext)
    (tRet (tVar 3)))))

def ns_l_reached : List Str := ["objects", "starts", "name", "reached", "turn", "one", "parent"]
def t_l_reached (K : PySem.W.Frag) (E : XK) : TS :=
  (tSeq (tAsg (tCB (rListOf K) (tCons (tVar 1) tNil)) (gName 3))
    (tSeq (tFor (iRng1 (tCons (tC (.int 12)) tNil)) (gName 4)
      (tFor (iList K (tCB (rListOf K) (tCons (tVar 3) tNil))) (gName 5)
      (tIfS (tTest (tOp rIsN (tMeth (He.ga K ("Objects" : Str)) ("slot" : Str) (sp_Objects_slot K) [] E (tVar 0) (tCons (tVar 5) (tCons (tVar 2) tNil))) (tC .non)))
      (tFor (iTup K (tMeth (He.ga K ("Objects" : Str)) ("parents" : Str) (sp_Objects_parents K) [] E (tVar 0) (tCons (tVar 5) tNil))) (gName 6)
      (tIfS (tTest (tOp (rIn K true) (tVar 6) (tVar 3)))
      (tDrop (tBM K "list" rAppend (tVar 3) (tCons (tVar 6) tNil)))
      tNext))
      tNext)))
    (tRet (tVar 3))))

def ns_l_due : List Str := ["objects", "starts", "name", "one", "holders", "k", "different", "looked"]
def t_l_due (K : PySem.W.Frag) (E : XK) : TS :=
  (tSeq (tAsg (tLc (iList K (tCB (rSorted K) (tCons (tCall (sp_l_reached K) [] E (tCons (tVar 0) (tCons (tVar 1) (tCons (tVar 2) tNil)))) tNil))) (gName 3) (tTest (tOp rNotN (tMeth (He.ga K ("Objects" : Str)) ("slot" : Str) (sp_Objects_slot K) [] E0 (tVar 0) (tCons (tVar 3) (tCons (tVar 2) tNil))) (tC .non))) (tVar 3) [3]) (gName 4))
    (tSeq (tAsg (tLc (iRng1 (tCons (tCB (rLen K) (tCons (tVar 4) tNil)) tNil)) (gName 5) (tOr (tTest (tOp rEq (tVar 5) (tC (.int 0)))) (tTest (tOp rNe (tOp (rIxL K) (tVar 4) (tVar 5)) (tOp (rIxL K) (tVar 4) (tOp rSubI (tVar 5) (tC (.int 1))))))) (tOp (rIxL K) (tVar 4) (tVar 5)) [5]) (gName 6))
    (tSeq (tAsg (tLst tNil) (gName 7))
    (tSeq (tFor (iTup K (tVar 1)) (gName 3)
      (tAsg (tCall (sp_l_walk K WF) [] E (tCons (tVar 0) (tCons (tVar 3) (tCons (tVar 2) (tCons (tVar 7) tNil))))) (gName 7)))
    (tSeq (tIfS (tTest (tOp rEq (tCB (rLen K) (tCons (tVar 6) tNil)) (tC (.int 0))))
      (tRet (tTup (tCons (tTup (tCons (tC (.str ("none" : Str))) tNil)) (tCons (tCB (rTupleOf K) (tCons (tVar 7) tNil)) tNil))))
      tNext)
    (tSeq (tIfS (tTest (tOp rGtI (tCB (rLen K) (tCons (tVar 6) tNil)) (tC (.int 1))))
      (tRet (tTup (tCons (tTup (tCons (tC (.str ("several" : Str))) tNil)) (tCons (tCB (rTupleOf K) (tCons (tVar 7) tNil)) tNil))))
      tNext)
    (tRet (tTup (tCons (tOp (rCatA K) (tTup (tCons (tC (.str ("found" : Str))) (tCons (tOp (rIxL K) (tVar 6) (tC (.int 0))) tNil))) (tMeth (He.ga K ("Objects" : Str)) ("slot" : Str) (sp_Objects_slot K) [] E (tVar 0) (tCons (tOp (rIxL K) (tVar 6) (tC (.int 0))) (tCons (tVar 2) tNil)))) (tCons (tCB (rTupleOf K) (tCons (tVar 7) tNil)) tNil))))))))))

def ns_law : List Str := ["script", "draws", "objects", "many", "before", "name", "one", "due", "k", "starts", "value"]
def t_law (K : PySem.W.Frag) (E : XK) : TS :=
  (tSeq (tAsg (tCall (sp_l_reader K) [] E (tCons (tVar 0) tNil)) (gName 1))
    (tSeq (tAsg (tMake (He.ga K ("Objects" : Str)) (sp_Objects_init K) [] E tNil) (gName 2))
    (tSeq (tAsg (tCall (sp_l_objects K) [] E (tCons (tVar 1) (tCons (tVar 2) tNil))) (gName 3))
    (tSeq (tAsg (tMeth (He.ga K ("Objects" : Str)) ("image" : Str) (sp_Objects_image K) [] E (tVar 2) tNil) (gName 4))
    (tSeq (tFor (iList K (tLst (tMenu (["x", "y", "p", "q", "xx", "lobby"].map mS)))) (gName 5)
      (tSeq (tFor (iRng1 (tCons (tVar 3) tNil)) (gName 6)
      (tSeq (tAsg (tCall (sp_l_due K) [] E (tCons (tVar 2) (tCons (tTup (tCons (tVar 6) tNil)) (tCons (tVar 5) tNil)))) (gName 7))
    (tIfS (tOr (tTest (tOp (rNeD K) (tCall (sp_search K) [] E (tCons (tVar 2) (tCons (tTup (tCons (tVar 6) tNil)) (tCons (tVar 5) tNil)))) (tVar 7))) (tTest (tOp (rNeD K) (tCall (sp_search_value K) [] E (tCons (tVar 2) (tCons (tTup (tCons (tC (.str ("ref" : Str))) (tCons (tVar 6) tNil))) (tCons (tVar 5) tNil)))) (tVar 7))))
      (tRet (tC (.bl false)))
      tNext)))
    (tSeq (tAsg (tCB (rTupleOf K) (tCons (tLc (iRng1 (tCons (tCall (sp_l_next K) [] E (tCons (tVar 1) (tCons (tC (.int 5)) tNil))) tNil)) (gName 8) tYes (tCall (sp_l_next K) [] E0 (tCons (tVar 1) (tCons (tVar 3) tNil))) [8]) tNil)) (gName 9))
    (tSeq (tIfS (tTest (tOp (rNeD K) (tCall (sp_search K) [] E (tCons (tVar 2) (tCons (tVar 9) (tCons (tVar 5) tNil)))) (tCall (sp_l_due K) [] E (tCons (tVar 2) (tCons (tVar 9) (tCons (tVar 5) tNil))))))
      (tRet (tC (.bl false)))
      tNext)
    (tFor (iList K (tLst (tCons (tTup (tCons (tC (.str ("num" : Str))) (tCons (tC (.int 0)) tNil))) (tCons (tTup (tCons (tC (.str ("true" : Str))) tNil)) (tCons (tTup (tCons (tC (.str ("nothing" : Str))) tNil)) (tCons (tTup (tCons (tC (.str ("method" : Str))) (tCons (tC (.int 0)) tNil))) (tCons (tTup (tCons (tC (.str ("block" : Str))) (tCons (tC (.int 0)) tNil))) tNil))))))) (gName 10)
      (tIfS (tTest (tOp (rNeD K) (tCall (sp_search_value K) [] E (tCons (tVar 2) (tCons (tVar 10) (tCons (tVar 5) tNil)))) (tTup (tCons (tTup (tCons (tC (.str ("none" : Str))) tNil)) (tCons (tTup tNil) tNil)))))
      (tRet (tC (.bl false)))
      tNext))))))
    (tRet (tOp (rEqD K) (tMeth (He.ga K ("Objects" : Str)) ("image" : Str) (sp_Objects_image K) [] E (tVar 2) tNil) (tVar 4))))))))

section
variable {K : PySem.W.Frag} {vs : List V} {H : Hp} {Q : VK} {E : XK}
theorem run_Objects_ids (S : ObC K) (h : sp_Objects_ids K vs H Q E) : t_Objects_ids K E (DQ Q) (start ns_Objects_ids vs) H := by
  obtain ⟨p, dx, tb, tab, nx, rfl, O, q⟩ := h
  refine ⟨_, rfl, p, _, dx, _, _, rfl, O.ins, S.cl, S.nt, obF_t, tb, tabK tab, rfl, .inl O.tbl, fun r nr => ?_⟩
  refine q r _ (same_upd nr) nr ?_
  rw [upd_same]
  unfold tabK
  rw [List.map_map]
  rfl
theorem SlR.kv {H : Hp} : ∀ {kvs : List (Key × V)} {sl : List Sl} (i : Nat) {k : Key} {x : V}, SlR H kvs sl → kvs[i]? = some (k, x) → ∃ s q v, sl[i]? = some s ∧ k = Sum.inr s.name ∧ x = .ref q ∧ H q = some (.tup [.str s.kind, v]) ∧ Tr H v s.val
  | _, _, _, _, _, .nil, e => by simp at e
  | _, _, 0, _, _, .cons h t r, e => by
    cases e
    exact ⟨_, _, _, rfl, rfl, rfl, h, t⟩
  | _, _, i + 1, _, _, .cons h t r, e => SlR.kv i r e
theorem take_snoc {α : Type} {l : List α} {i : Nat} {a : α} (h : l[i]? = some a) : l.take (i + 1) = l.take i ++ [a] := by
  rw [List.take_add_one, h]
  rfl
theorem run_Objects_slots (S : ObC K) (h : sp_Objects_slots K vs H Q E) : t_Objects_slots K E (DQ Q) (start ns_Objects_slots vs) H := by
  obtain ⟨p, dx, tb, tab, nx, e, rfl, O, he, hl, q⟩ := h
  obtain ⟨kvs, hk, r⟩ := O.ent e he
  refine ⟨_, rfl, p, _, dx, _, _, rfl, O.ins, S.cl, S.nt, obF_t, _, rfl, tb, _, rfl, O.get he, ?_⟩
  refine ⟨e.at_, .dK kvs, hk, trivial, fun od => ?_⟩
  have lk : kvs.length = e.sl.length := r.len
  have tkF : TK H (upd H e.at_ (.frz od (.dK kvs))) := fun a xs z => by
    rw [upd_ne (ne_of z hk (by intro z; cases z))]
    exact z
  have rF := r.keep tkF
  have fF : (upd H e.at_ (.frz od (.dK kvs))) e.at_ = some (.frz od (.dK kvs)) := upd_same
  refine ⟨_, rfl, e.at_, od, kvs, rfl, fF, fun D nD => ?_⟩
  have oth : ∀ b u, b ≠ e.at_ → H b = some u → (upd H e.at_ (.frz od (.dK kvs))) b = some u := fun b u n z => (upd_ne n).trans z
  generalize upd H e.at_ (.frz od (.dK kvs)) = F at nD tkF rF fF oth ⊢
  have nDe : D ≠ e.at_ := fun z => by
    rw [z, fF] at nD
    cases nD
  refine lc_it walk_items (fun i G => ∃ vs : List V, Same F G ∧ G D = some (.lst vs) ∧ Trs G vs ((e.sl.take i).map trD) ∧ vs.length = i) ⟨[], same_upd nD, upd_same, .nil, rfl⟩ (fun i G _ z => by
    obtain ⟨vs, sm, _⟩ := z
    exact sm _ _ fF) ?_ ?_
  · rintro i x G G' hi ⟨vs, sm, gD, tr, lv⟩ ⟨T, y1, y2, rfl, nT, rfl, h1, h2⟩
    obtain ⟨kv, hkv⟩ : ∃ kv, kvs[i]? = some kv := ⟨kvs[i], List.getElem?_eq_getElem hi⟩
    obtain ⟨k, y⟩ := kv
    obtain ⟨s, qa, v, es, rfl, rfl, hq, tv⟩ := SlR.kv i rF hkv
    dsimp only at h1 h2
    rw [hkv] at h1 h2
    cases h1
    cases h2
    have sT := same_upd (o := .tup [V.str s.name, V.ref qa]) nT
    refine ⟨T, _, rfl, SqT.of upd_same, rfl, _, _, rfl, _, _, rfl, ⟨qa, _, rfl, SqT.of (sT _ _ (sm _ _ hq)), rfl, _, _, rfl, _, _, rfl, rfl, rfl, rfl, ?_⟩⟩
    refine ⟨_, rfl, _, rfl, _, rfl, (by show 3 ≤ sizeLine; decide), fun q1 n1 => ?_⟩
    have s1 := same_upd (o := .tup [V.str s.name, V.str s.kind, v]) n1
    have s01 := sT.trans s1
    have g1 := s01 _ _ gD
    have tk2 := tk_put (ys := vs ++ [V.ref q1]) g1
    refine ⟨_, g1, Nat.lt_of_le_of_lt (show vs.length ≤ 1000000 by omega) (by decide), vs ++ [.ref q1], fun b u z => ?_, upd_same, ?_, by rw [List.length_append, lv]; rfl⟩
    · rw [upd_ne (ne_of_none z nD)]
      exact s01 b u (sm b u z)
    · rw [take_snoc es, List.map_append]
      refine Trs.snoc (.tup (tk2 _ _ upd_same) (.cons (.str _) (.cons (.str _) (.cons ?_ .nil)))) ((tr.keep fun a xs z => s01 a _ z).keep tk2)
      exact (tv.keep fun a xs z => s01 a _ (sm a _ z)).keep tk2
  · rintro G ⟨vs, sm, gD, tr, lv⟩
    refine ⟨sm _ _ fF, ?_⟩
    rw [lk, List.take_length] at tr
    have gD2 : (upd G e.at_ (.dK kvs)) D = some (.lst vs) := (upd_ne nDe).trans gD
    have sH : Same H (upd G e.at_ (.dK kvs)) := fun b u z => by
      by_cases c : b = e.at_
      · rw [c] at z ⊢
        rw [upd_same, ← hk, z]
      · rw [upd_ne c]
        exact sm b u (oth b u c z)
    have tkU : TK G (upd G e.at_ (.dK kvs)) := fun a xs z => by
      rw [upd_ne (ne_of z (sm _ _ fF) (by intro z; cases z))]
      exact z
    refine ⟨D, vs, rfl, .inl ⟨SqL.of gD2, fun l nl => ?_⟩⟩
    have s5 := same_upd (o := .tup vs) nl
    exact q l _ (sH.trans s5) (.tup upd_same ((tr.keep tkU).keep fun a xs z => s5 a _ z))
theorem run_Objects_image (S : ObC K) (h : sp_Objects_image K vs H Q E) : t_Objects_image K E (DQ Q) (start ns_Objects_image vs) H := by
  obtain ⟨p, dx, tb, tab, nx, rfl, O, sm, ht, q⟩ := h
  refine ⟨_, rfl, p, dx, _, rfl, O.ins, obF_no (by decide +kernel) (by decide +kernel), ?_⟩
  refine ⟨p, dx, tb, tab, nx, rfl, O, fun a H1 s1 n1 g1 => ⟨a, rfl, ⟨_, SqL.of g1⟩, fun D nD => ?_⟩⟩
  refine lc_list (xs := tab.map fun e => V.int (e.id : Int)) (fun i G => ∃ vs : List V, Same H1 G ∧ G D = some (.lst vs) ∧ Trs G vs ((tab.take i).map entD) ∧ vs.length = i) ⟨[], same_upd nD, upd_same, .nil, rfl⟩ (fun i G _ z => by
    obtain ⟨vs, s, _⟩ := z
    exact SqL.of (s _ _ g1)) ?_ ?_
  · rintro i x G hx ⟨vs, s, gD, tr, lv⟩
    rw [List.getElem?_map] at hx
    obtain ⟨e, es, rfl⟩ := Option.map_eq_some_iff.mp hx
    have he := List.mem_of_getElem? es
    have O2 := O.same (s1.trans s)
    refine ⟨rfl, ?_⟩
    refine ⟨_, rfl, _, rfl, p, dx, _, rfl, O2.ins, obF_no (by decide +kernel) (by decide +kernel), _, rfl, p, dx, tb, tab, nx, e, rfl, O2, he, sm e he, fun q1 G1 s2 t1 => ?_⟩
    refine ⟨(by show 2 ≤ sizeLine; decide), fun q2 n2 => ?_⟩
    have s3 := same_upd (o := .tup [V.int (e.id : Int), V.ref q1]) n2
    have s23 := s2.trans s3
    have g3 := s23 _ _ gD
    have tk2 := tk_put (ys := vs ++ [V.ref q2]) g3
    have hi : i < tab.length := (List.getElem?_eq_some_iff.mp es).1
    refine ⟨_, g3, Nat.lt_of_le_of_lt (show vs.length ≤ 1000000 by omega) (by decide), vs ++ [.ref q2], fun b u z => ?_, upd_same, ?_, by rw [List.length_append, lv]; rfl⟩
    · rw [upd_ne (ne_of_none z nD)]
      exact s23 b u (s b u z)
    · rw [take_snoc es, List.map_append]
      refine Trs.snoc (.tup (tk2 _ _ upd_same) (.cons (.int _) (.cons ?_ .nil))) ((tr.keep fun a xs z => s23 a _ z).keep tk2)
      exact (t1.keep fun a xs z => s3 a _ z).keep tk2
  · rintro G ⟨vs, s, gD, tr, lv⟩
    rw [List.length_map, List.take_length] at tr
    refine ⟨D, vs, rfl, .inl ⟨SqL.of gD, fun l nl => ?_⟩⟩
    have s5 := same_upd (o := .tup vs) nl
    exact q l _ ((s1.trans s).trans s5) (.tup upd_same (tr.keep fun a xs z => s5 a _ z))
theorem run_search_value (h : sp_search_value K vs H Q E) : t_search_value K E (DQ Q) (start ns_search_value vs) H := by
  obtain ⟨p, dx, tb, tab, nx, v, D, x, rfl, O, tv, vo, hid, cl, sm, fu, q⟩ := h
  obtain ⟨w, rs, ev, hw⟩ := vo
  subst ev
  cases tv with
  | @tup a xs ds ha rt =>
    cases rt with
    | @cons v0 vs0 d0 ds0 t0 rt =>
      cases t0
      refine ⟨_, rfl, a, _, _, _, rfl, rfl, SqT.of ha, atI_nat (j := 0) rfl, rfl, _, rfl, ?_⟩
      by_cases c : w = ("ref" : Str)
      · obtain ⟨j, r', er⟩ := hw c
        subst er
        cases rt with
        | @cons v1 vs1 d1 ds1 t1 rt =>
          cases t1
          rw [decide_eq_true (congrArg V.str c)]
          refine iteF ?_
          refine ⟨_, rfl, _, rfl, a, _, _, _, rfl, rfl, SqT.of ha, atI_nat (j := 1) rfl, (by show 1 ≤ sizeLine; decide), fun l nl => ?_⟩
          have s1 := same_upd (o := .tup [V.int j]) nl
          have er : refOf (.tuple (.str w :: .int j :: r')) = some j := by
            show (if w = ("ref" : Str) then some j else none) = _
            rw [if_pos c]
          refine ⟨_, rfl, p, dx, tb, tab, nx, l, [j], x, rfl, O.same s1, upd_same, fun i hi => ?_, cl, sm, fu, fun q1 G s2 t2 => ?_⟩
          · rw [List.mem_singleton.mp hi]
            exact hid j er
          · refine q q1 G (s1.trans s2) ?_
            unfold svD
            rw [er]
            exact t2
      · have c2 : ¬ V.str w = V.str ("ref" : Str) := fun z => c (V.str.inj z)
        rw [decide_eq_false c2]
        refine iteT ?_
        refine ⟨(by show 1 ≤ sizeLine; decide), fun q1 n1 => ⟨(by show 0 ≤ sizeLine; decide), fun q2 n2 => ⟨(by show 2 ≤ sizeLine; decide), fun q3 n3 => ?_⟩⟩⟩
        have s1 := same_upd (o := .tup [V.str ("none" : Str)]) n1
        have s2 := same_upd (o := .tup []) n2
        have s3 := same_upd (o := .tup [V.ref q1, V.ref q2]) n3
        refine q q3 _ ((s1.trans s2).trans s3) ?_
        have er : refOf (.tuple (.str w :: rs)) = none := by
          unfold refOf
          split
          · rename_i w2 j2 r2 e2
            injection e2 with e2
            injection e2 with e2 e3
            injection e2 with e2
            subst e2
            rw [if_neg c]
          · rfl
        unfold svD
        rw [er]
        exact .tup upd_same (.cons (.tup (s3 _ _ (s2 _ _ upd_same)) (.cons (.str _) .nil)) (.cons (.tup (s3 _ _ upd_same) .nil) .nil))
theorem ints_cons (i : Int) (L : List Int) : (L ++ [i]).map V.int = L.map V.int ++ [V.int i] := by
  rw [List.map_append]
  rfl
theorem flat_ints (L : List Int) : (L.map V.int).all flatV = true := List.all_eq_true.mpr fun y hy => by
  obtain ⟨z, _, rfl⟩ := List.mem_map.mp hy
  rfl
theorem no_walk (vs : List V) (H : Hp) (Q : VK) (E : XK) (h : sp_l_walk K 0 vs H Q E) : False := by
  obtain ⟨p, dx, tb, tab, nx, i, x, a, L, rfl, O, hi, cl, sm, ha, li, hf, ht, q⟩ := h
  have := li.len
  omega
theorem run_l_walk {n : Nat} (h : sp_l_walk K (n + 1) vs H Q E) : t_l_walk K n E (DQ Q) (start ns_l_walk vs) H := by
  obtain ⟨p, dx, tb, tab, nx, i, x, a, L, rfl, O, hi, cl, sm, ha, li, hf, ht, q⟩ := h
  have lL := li.len
  refine ⟨_, rfl, _, rfl, a, _, rfl, .inl (SqL.of ha), rfl, flat_ints L, _, rfl, ?_⟩
  show (if inV (.int i) (L.map V.int) = true then _ else _)
  rw [in_ints]
  refine ite2 (fun c => ?_) (fun c => ?_)
  · have c := of_decide_eq_true c
    refine ⟨_, rfl, q a H (fun _ _ z => z) ?_⟩
    rw [wk_succ, if_pos c]
    exact ha
  · have c : ¬ i ∈ L := fun z => c (decide_eq_true z)
    rw [wk_succ, if_neg c] at q
    have l1 := li.snoc hi c
    refine ⟨_, rfl, _, rfl, (by show 1 ≤ sizeLine; decide), fun u nu => ?_⟩
    have s1 := same_upd (o := .lst [V.int i]) nu
    refine ⟨a, u, _, _, rfl, rfl, s1 _ _ ha, upd_same, Nat.le_trans (show (L.map V.int).length + 1 ≤ 1000000 by rw [List.length_map]; omega) (by decide), fun b nb => ?_⟩
    have s2 := same_upd (o := .lst (L.map V.int ++ [V.int i])) nb
    have s12 := s1.trans s2
    have gb : (upd (upd H u (.lst [V.int i])) b (.lst (L.map V.int ++ [V.int i]))) b = some (.lst ((L ++ [i]).map V.int)) := by rw [upd_same, ints_cons]
    generalize upd (upd H u (.lst [V.int i])) b (.lst (L.map V.int ++ [V.int i])) = G at s12 gb ⊢
    have O2 := O.same s12
    obtain ⟨e, he, rfl⟩ := hi
    have eh : hasS tab x (e.id : Int) = (getS e.sl x).isSome := by
      unfold hasS
      rw [slotOf_mem O.ord he]
    refine ⟨_, rfl, p, dx, _, rfl, O2.ins, obF_no (by decide +kernel) (by decide +kernel), _, rfl, _, rfl, ?_⟩
    refine ⟨p, dx, tb, tab, nx, e, x, rfl, O2, he, fun g => ⟨rfl, _, rfl, ?_⟩, fun s qa v g hq tv => ⟨rfl, _, rfl, ?_⟩⟩
    · rw [decide_eq_true (show V.non = V.non from rfl)]
      refine iteT ?_
      rw [g] at eh
      rw [eh, if_neg (by intro z; cases z), parI_mem O.ord he] at q
      refine ⟨_, rfl, p, dx, _, rfl, O2.ins, obF_no (by decide +kernel) (by decide +kernel), _, rfl, ?_⟩
      refine ⟨p, dx, tb, tab, nx, e, rfl, O2, he, sm e he, fun q5 H5 s5 n5 h5 => ?_⟩
      refine ⟨q5, rfl, ⟨_, SqT.of h5⟩, ?_⟩
      have hps : ∀ j ∈ parS e.sl, isId tab j := cl e he
      refine for_tup (xs := (parS e.sl).map V.int) (fun k σ G2 => ∃ (b : Addr) (v4 : Option V), σ = [some (.ref p), some (.int (e.id : Int)), some (.str x), some (.ref b), v4] ∧ Same H5 G2 ∧ G2 b = some (.lst ((wks tab x n ((parS e.sl).take k) (L ++ [(e.id : Int)])).map V.int)))
        ⟨b, none, rfl, fun _ _ z => z, s5 _ _ gb⟩ (fun k σ G2 _ z => by
          obtain ⟨b, v4, _, s6, _⟩ := z
          exact SqT.of (s6 _ _ h5)) ?_ ?_
      · rintro k y σ G2 hy ⟨b2, v4, rfl, s6, gb2⟩
        rw [List.getElem?_map] at hy
        obtain ⟨j, hj, rfl⟩ := Option.map_eq_some_iff.mp hy
        have tks : ∀ i ∈ (parS e.sl).take k, isId tab i := fun i hi => hps i (List.mem_of_mem_take hi)
        have w := wks_all (x := x) O.ord cl (n := n) l1 tks (by rw [List.length_append, List.length_singleton]; omega)
        have wl := w.len
        have O3 := O2.same (s5.trans s6)
        refine ⟨_, rfl, _, rfl, _, rfl, _, rfl, ?_⟩
        refine ⟨p, dx, tb, tab, nx, j, x, b2, _, rfl, O3, hps j (List.mem_of_getElem? hj), cl, sm, gb2, w.inv, ?_, ht, fun q7 H7 s7 h7 => ?_⟩
        · rw [List.length_append, List.length_singleton] at wl
          omega
        · refine ⟨q7, _, rfl, s6.trans s7, ?_⟩
          rw [h7, take_snoc hj]
          unfold wks
          rw [List.foldl_append]
          rfl
      · rintro σ G2 ⟨b2, v4, rfl, s6, gb2⟩
        rw [List.length_map, List.take_length] at gb2
        exact ⟨_, rfl, q b2 G2 ((s12.trans s5).trans s6) gb2⟩
    · rw [decide_eq_false (show ¬ V.ref qa = V.non by intro z; cases z)]
      refine iteF ?_
      rw [g] at eh
      have eh : hasS tab x (e.id : Int) = true := eh
      rw [if_pos eh] at q
      exact ⟨_, rfl, q b G s12 gb⟩
theorem run_l_reached (h : sp_l_reached K vs H Q E) : t_l_reached K E (DQ Q) (start ns_l_reached vs) H := by
  obtain ⟨p, dx, tb, tab, nx, a, st, x, rfl, O, ha, hst, cl, sm, h8, h10, q⟩ := h
  refine ⟨_, rfl, a, _, rfl, .inr (SqT.of ha), fun r nr => ?_⟩
  have s0 := same_upd (o := .lst (st.map V.int)) nr
  refine ⟨12, rfl, by decide, by decide, ?_⟩
  refine for_range (lo := 0) (n := 12) (fun k σ G => ∃ v4 v5 v6 : Option V, σ = [some (.ref p), some (.ref a), some (.str x), some (.ref r), v4, v5, v6] ∧ Same H G ∧ G r = some (.lst ((itr tab x k st).map V.int)))
    ⟨none, none, none, rfl, s0, upd_same⟩ ?_ ?_
  · rintro k σ G hk ⟨v4, v5, v6, rfl, sG, gr⟩
    have gk := itr_gr (x := x) O.ord cl hst k
    have idk := gk.ids hst
    refine ⟨_, rfl, r, _, rfl, .inl (SqL.of gr), fun l nl => ?_⟩
    have nrl : r ≠ l := ne_of_none gr nl
    have sl := same_upd (o := .lst ((itr tab x k st).map V.int)) nl
    refine ⟨l, rfl, ⟨_, SqL.of upd_same⟩, ?_⟩
    refine for_list (xs := (itr tab x k st).map V.int) (fun j σ G2 => ∃ v5 v6 : Option V, σ = [some (.ref p), some (.ref a), some (.str x), some (.ref r), some (.int (0 + (k : Int))), v5, v6] ∧ Same H G2 ∧ G2 l = some (.lst ((itr tab x k st).map V.int)) ∧ G2 r = some (.lst ((((itr tab x k st).take j).foldl (rnd1 tab x) (itr tab x k st)).map V.int)))
      ⟨_, _, rfl, sG.trans sl, upd_same, (upd_ne nrl).trans gr⟩ (fun j σ G2 _ z => by
        obtain ⟨v5, v6, _, _, z, _⟩ := z
        exact SqL.of z) ?_ ?_
    · rintro j y σ G2 hy ⟨v5, v6, rfl, s2, gl, gr2⟩
      rw [List.getElem?_map] at hy
      obtain ⟨i, hi, rfl⟩ := Option.map_eq_some_iff.mp hy
      have O2 := O.same s2
      have tks : ∀ i ∈ (itr tab x k st).take j, isId tab i := fun i hi => idk i (List.mem_of_mem_take hi)
      have hii := idk i (List.mem_of_getElem? hi)
      obtain ⟨e, he, ei⟩ := hii
      subst ei
      have eh : hasS tab x (e.id : Int) = (getS e.sl x).isSome := by
        unfold hasS
        rw [slotOf_mem O.ord he]
      have et : ((itr tab x k st).take (j + 1)).foldl (rnd1 tab x) (itr tab x k st) = rnd1 tab x (((itr tab x k st).take j).foldl (rnd1 tab x) (itr tab x k st)) (e.id : Int) := by
        rw [take_snoc hi, List.foldl_append]
        rfl
      have gj : Gr tab st (((itr tab x k st).take j).foldl (rnd1 tab x) (itr tab x k st)) := gk.trans (rnds_gr (x := x) O.ord cl _ (itr tab x k st) tks)
      rw [et]
      generalize ((itr tab x k st).take j).foldl (rnd1 tab x) (itr tab x k st) = R at gr2 gj ⊢
      refine ⟨_, rfl, p, dx, _, rfl, O2.ins, obF_no (by decide +kernel) (by decide +kernel), _, rfl, _, rfl, ?_⟩
      refine ⟨p, dx, tb, tab, nx, e, x, rfl, O2, he, fun g => ⟨rfl, _, rfl, ?_⟩, fun s qa v g hq tv => ⟨rfl, _, rfl, ?_⟩⟩
      · rw [decide_eq_true (show V.non = V.non from rfl)]
        refine iteT ?_
        rw [g] at eh
        have er : rnd1 tab x R (e.id : Int) = (parS e.sl).foldl addI R := by
          unfold rnd1
          rw [eh, if_neg (by intro z; cases z), parI_mem O.ord he]
        rw [er]
        refine ⟨_, rfl, p, dx, _, rfl, O2.ins, obF_no (by decide +kernel) (by decide +kernel), _, rfl, ?_⟩
        refine ⟨p, dx, tb, tab, nx, e, rfl, O2, he, sm e he, fun q5 H5 s5 n5 h5 => ⟨q5, rfl, ⟨_, SqT.of h5⟩, ?_⟩⟩
        have hps : ∀ j ∈ parS e.sl, isId tab j := cl e he
        have n5r : q5 ≠ r := fun z => by
          rw [z, gr2] at n5
          cases n5
        refine for_tup (xs := (parS e.sl).map V.int) (fun m σ G3 => ∃ v6 : Option V, σ = [some (.ref p), some (.ref a), some (.str x), some (.ref r), some (.int (0 + (k : Int))), some (.int (e.id : Int)), v6] ∧ Same H G3 ∧ G3 l = some (.lst ((itr tab x k st).map V.int)) ∧ G3 q5 = some (.tup ((parS e.sl).map V.int)) ∧ G3 r = some (.lst ((((parS e.sl).take m).foldl addI R).map V.int)))
          ⟨_, rfl, s2.trans s5, s5 _ _ gl, h5, s5 _ _ gr2⟩ (fun m σ G3 _ z => by
            obtain ⟨v6, _, _, _, z, _⟩ := z
            exact SqT.of z) ?_ ?_
        · rintro m y σ G3 hy ⟨v6, rfl, s3, gl3, g53, gr3⟩
          rw [List.getElem?_map] at hy
          obtain ⟨j2, hj2, rfl⟩ := Option.map_eq_some_iff.mp hy
          have e2 : ((parS e.sl).take (m + 1)).foldl addI R = addI (((parS e.sl).take m).foldl addI R) j2 := by
            rw [take_snoc hj2, List.foldl_append]
            rfl
          have gm : Gr tab st (((parS e.sl).take m).foldl addI R) := gj.trans (adds_gr _ R fun i hi => hps i (List.mem_of_mem_take hi))
          have lm := gm.len
          rw [e2]
          generalize ((parS e.sl).take m).foldl addI R = M at gr3 lm ⊢
          refine ⟨_, rfl, _, rfl, r, _, rfl, .inl (SqL.of gr3), rfl, flat_ints M, _, rfl, ?_⟩
          show (if (!inV (.int j2) (M.map V.int)) = true then _ else _)
          rw [in_ints]
          by_cases c : j2 ∈ M
          · rw [decide_eq_true c]
            refine iteF ?_
            exact ⟨_, rfl, s3, gl3, g53, by unfold addI; rw [if_pos c]; exact gr3⟩
          · rw [decide_eq_false c]
            refine iteT ?_
            refine ⟨_, rfl, .inl ⟨rfl, _, SqL.of gr3⟩, _, rfl, r, _, _, rfl, rfl, gr3, Nat.lt_of_le_of_lt (show (M.map V.int).length ≤ 100 by rw [List.length_map]; omega) (by decide), ?_⟩
            refine ⟨_, rfl, fun b u z => ?_, (upd_ne (Ne.symm nrl)).trans gl3, (upd_ne n5r).trans g53, ?_⟩
            · rw [upd_ne (ne_of_none z nr)]
              exact s3 b u z
            · unfold addI
              rw [if_neg c, upd_same, ints_cons]
        · rintro σ G3 ⟨v6, rfl, s3, gl3, g53, gr3⟩
          rw [List.length_map, List.take_length] at gr3
          exact ⟨_, _, rfl, s3, gl3, gr3⟩
      · rw [decide_eq_false (show ¬ V.ref qa = V.non by intro z; cases z)]
        refine iteF ?_
        rw [g] at eh
        have eh : hasS tab x (e.id : Int) = true := eh
        exact ⟨_, _, rfl, s2, gl, by unfold rnd1; rw [if_pos eh]; exact gr2⟩
    · rintro σ G2 ⟨v5, v6, rfl, s2, gl, gr2⟩
      rw [List.length_map, List.take_length] at gr2
      exact ⟨_, _, _, rfl, s2, gr2⟩
  · rintro σ G ⟨v4, v5, v6, rfl, sG, gr⟩
    exact ⟨_, rfl, q r G sG nr gr⟩
theorem hasS_none {i : Int} {e : En} {tab : List En} {x : Str} (o : tab.Pairwise fun a b => a.id < b.id) (he : e ∈ tab) : hasS tab x (e.id : Int) = (getS e.sl x).isSome := by
  unfold hasS
  rw [slotOf_mem o he]
theorem rangeI {k : Nat} : (0 : Int) + (k : Int) = (k : Int) := Int.zero_add _
theorem run_l_due (h : sp_l_due K vs H Q E) : t_l_due K E (DQ Q) (start ns_l_due vs) H := by
  obtain ⟨p, dx, tb, tab, nx, a, st, x, rfl, O, ha, hst, cl, sm, h8, h10, q⟩ := h
  refine ⟨_, rfl, _, rfl, _, rfl, p, dx, tb, tab, nx, a, st, x, rfl, O, ha, hst, cl, sm, h8, h10, fun q1 H1 s1 n1 g1 => ?_⟩
  have gk := itr_gr (x := x) O.ord cl hst 12
  have gl := gk.len
  refine ⟨q1, _, rfl, SqL.of g1, by omega, fun so p2 hp hs n2 => ?_⟩
  have idso : ∀ i ∈ so, isId tab i := fun i hi => gk.ids hst i (hp.mem_iff.mp hi)
  have lso : so.length ≤ 100 := by
    rw [hp.length_eq]
    omega
  have s2 := same_upd (o := .lst (so.map V.int)) n2
  have s12 := s1.trans s2
  have g2 : (upd H1 p2 (.lst (so.map V.int))) p2 = some (.lst (so.map V.int)) := upd_same
  refine ⟨p2, rfl, ⟨_, SqL.of g2⟩, ?_⟩
  generalize upd H1 p2 (.lst (so.map V.int)) = H2 at s2 s12 g2 ⊢
  intro D nD
  refine lc_list (xs := so.map V.int) (fun i G => ∃ acc : List Int, Same H2 G ∧ G D = some (.lst (acc.map V.int)) ∧ acc = (so.take i).filter (hasS tab x)) ⟨[], same_upd nD, upd_same, rfl⟩ (fun i G _ z => by
    obtain ⟨acc, s, _⟩ := z
    exact SqL.of (s _ _ g2)) ?_ ?_
  · rintro k y G hy ⟨acc, sG, gD, ea⟩
    rw [List.getElem?_map] at hy
    obtain ⟨i, hi, rfl⟩ := Option.map_eq_some_iff.mp hy
    obtain ⟨e, he, ei⟩ := idso i (List.mem_of_getElem? hi)
    subst ei
    have O2 := O.same (s12.trans sG)
    have eh := hasS_none (i := 0) (x := x) O.ord he
    have lacc : acc.length ≤ 100 := by
      rw [ea]
      exact Nat.le_trans (List.length_filter_le _ _) (Nat.le_trans (List.length_take_le _ _) (by
        have := (List.getElem?_eq_some_iff.mp hi).1
        omega))
    refine ⟨rfl, ?_⟩
    refine ⟨_, rfl, p, dx, _, rfl, O2.ins, obF_no (by decide +kernel) (by decide +kernel), _, rfl, _, rfl, ?_⟩
    refine ⟨p, dx, tb, tab, nx, e, x, rfl, O2, he, fun g => ⟨rfl, _, rfl, ?_⟩, fun s qa v g hq tv => ⟨rfl, _, rfl, ?_⟩⟩
    · rw [decide_eq_true (show V.non = V.non from rfl)]
      refine iteF ?_
      rw [g] at eh
      refine ⟨acc, sG, gD, ?_⟩
      rw [take_snoc hi, List.filter_append, ← ea, List.filter_cons, if_neg (by rw [eh]; intro z; cases z)]
      exact (List.append_nil acc).symm
    · rw [decide_eq_false (show ¬ V.ref qa = V.non by intro z; cases z)]
      refine iteT ?_
      rw [g] at eh
      refine ⟨_, rfl, _, gD, Nat.lt_of_le_of_lt (show (acc.map V.int).length ≤ 100 by rw [List.length_map]; exact lacc) (by decide), acc ++ [(e.id : Int)], fun b u z => ?_, by rw [upd_same, ints_cons], ?_⟩
      · rw [upd_ne (ne_of_none z nD)]
        exact sG b u z
      · rw [take_snoc hi, List.filter_append, ← ea, List.filter_cons, if_pos (by rw [eh]; rfl)]
        rfl
  · rintro G ⟨hs1, sG, gD, ea⟩
    rw [List.length_map, List.take_length] at ea
    have shs : hs1.Pairwise (· ≤ ·) := by
      rw [ea]
      exact hs.sublist List.filter_sublist
    have lhs : hs1.length ≤ 100 := by
      rw [ea]
      exact Nat.le_trans (List.length_filter_le _ _) lso
    have mhs : ∀ i, i ∈ hs1 ↔ i ∈ (wks tab x WF st []).filter (hasS tab x) := fun i => by
      rw [ea, List.mem_filter, List.mem_filter, hp.mem_iff, reach_walk O.ord cl h8 hst]
    have sHG := s12.trans sG
    -- different
    refine ⟨_, rfl, _, _, rfl, .inl ⟨_, SqL.of gD, rfl⟩, _, rfl, by rw [List.length_map]; omega, by rw [List.length_map]; omega, fun D2 nD2 => ?_⟩
    have eL : (((hs1.map V.int).length : Nat) : Int).toNat = hs1.length := by rw [Int.toNat_natCast, List.length_map]
    rw [eL]
    refine lc_range (lo := 0) (n := hs1.length) (fun k G2 => ∃ acc : List Int, Same G G2 ∧ G2 D2 = some (.lst (acc.map V.int)) ∧ Dd hs1 k acc ∧ acc.length ≤ k) ⟨[], same_upd nD2, upd_same, Dd.zero hs1, Nat.le_refl _⟩ ?_ ?_
    · rintro k G2 hk ⟨acc, s3, g3, dd, la⟩
      have gD3 := s3 _ _ gD
      have at_ : ∀ j : Nat, (hj : j < hs1.length) → atI (hs1.map V.int) (j : Int) = some (.int hs1[j]) := fun j hj => atI_nat (by rw [List.getElem?_map, List.getElem?_eq_getElem hj]; rfl)
      have add : ∀ (ne : ∀ j, k = j + 1 → ∀ h : j < hs1.length, hs1[k] ≠ hs1[j]), ∃ acc_1 : List V, G2 D2 = some (.lst acc_1) ∧ acc_1.length < sizeLine ∧ ∃ acc : List Int, Same G (upd G2 D2 (.lst (acc_1 ++ [V.int hs1[k]]))) ∧ (upd G2 D2 (.lst (acc_1 ++ [V.int hs1[k]]))) D2 = some (.lst (acc.map V.int)) ∧ Dd hs1 (k + 1) acc ∧ acc.length ≤ k + 1 := fun ne => by
        refine ⟨_, g3, Nat.lt_of_le_of_lt (show (acc.map V.int).length ≤ 100 by rw [List.length_map]; omega) (by decide), acc ++ [hs1[k]], fun b u z => ?_, by rw [upd_same, ints_cons], dd.add shs hk ne, by rw [List.length_append, List.length_singleton]; omega⟩
        rw [upd_ne (ne_of_none z nD2)]
        exact s3 b u z
      rw [rangeI]
      refine ⟨rfl, ?_⟩
      refine ⟨_, rfl, rfl, _, rfl, ?_⟩
      by_cases c0 : k = 0
      · have e0 : decide (V.int (k : Int) = V.int 0) = true := decide_eq_true (by rw [c0]; rfl)
        rw [e0]
        refine iteT (iteT ?_)
        refine ⟨_, rfl, _, rfl, D, _, _, _, rfl, rfl, SqL.of gD3, at_ k hk, ?_⟩
        exact add fun j hj => by omega
      · have e0 : decide (V.int (k : Int) = V.int 0) = false := decide_eq_false fun z => c0 (by
          have := V.int.inj z
          omega)
        rw [e0]
        refine iteF ?_
        obtain ⟨j, rfl⟩ : ∃ j, k = j + 1 := ⟨k - 1, by omega⟩
        have ej : ((j + 1 : Nat) : Int) - 1 = (j : Int) := by omega
        refine ⟨_, rfl, _, rfl, D, _, _, _, rfl, rfl, SqL.of gD3, at_ (j + 1) hk, _, rfl, _, rfl, _, _, rfl, rfl, D, _, _, _, rfl, rfl, SqL.of gD3, by rw [ej]; exact at_ j (by omega), rfl, _, rfl, ?_⟩
        by_cases c : hs1[j + 1] = hs1[j]
        · have e1 : (!decide (V.int hs1[j + 1] = V.int hs1[j])) = false := by rw [decide_eq_true (congrArg V.int c)]; rfl
          rw [e1]
          refine iteF ?_
          exact ⟨acc, s3, g3, dd.keep hk c, by omega⟩
        · have e1 : (!decide (V.int hs1[j + 1] = V.int hs1[j])) = true := by rw [decide_eq_false fun z => c (V.int.inj z)]; rfl
          rw [e1]
          refine iteT ?_
          refine ⟨_, rfl, _, rfl, D, _, _, _, rfl, rfl, SqL.of gD3, at_ (j + 1) hk, ?_⟩
          exact add fun j2 hj => by
            have : j = j2 := by omega
            subst this
            exact fun _ => c
    · rintro G2 ⟨df, s3, g3, dd, la⟩
      have mdf : ∀ i, i ∈ df ↔ i ∈ (wks tab x WF st []).filter (hasS tab x) := fun i => by
        rw [dd.mem i, List.take_length]
        exact mhs i
      have w := wks_all (x := x) O.ord cl (n := WF) (w := st) LI.nil hst (by show tab.length < 0 + 9; omega)
      have eo := outD_congr (tab := tab) (x := x) (w.inv.nd.filter (hasS tab x)) dd.nd fun i => (mdf i).symm
      have es := srch_eq (x := x) O.ord cl h8 hst
      have er : resD tab x (srch tab x st) = .tuple [outD tab x df, .tuple ((wks tab x WF st []).map PyData.int)] := by
        rw [es]
        unfold resD
        rw [eo]
      rw [er] at q
      have hdf : ∀ i ∈ df, hasS tab x i = true := fun i hi => (List.mem_filter.mp ((mdf i).mp hi)).2
      have sG2 := sHG.trans s3
      -- looked
      refine ⟨(by show 0 ≤ sizeLine; decide), fun u nu => ?_⟩
      have s4 := same_upd (o := .lst []) nu
      have g4 := s4 _ _ g3
      have sG4 := sG2.trans s4
      have gu : (upd G2 u (.lst [])) u = some (.lst ([].map V.int)) := upd_same
      generalize upd G2 u (.lst []) = G4 at s4 g4 sG4 gu ⊢
      refine ⟨_, rfl, a, rfl, ⟨_, SqT.of (sG4 _ _ ha)⟩, ?_⟩
      refine for_tup (xs := st.map V.int) (fun k σ G5 => ∃ (b : Addr) (v3 v5 : Option V), σ = [some (.ref p), some (.ref a), some (.str x), v3, some (.ref D), v5, some (.ref D2), some (.ref b)] ∧ Same G4 G5 ∧ G5 b = some (.lst ((wks tab x WF (st.take k) []).map V.int)))
        ⟨u, _, _, rfl, fun _ _ z => z, gu⟩ (fun k σ G5 _ z => by
          obtain ⟨b, v3, v5, _, s6, _⟩ := z
          exact SqT.of (s6 _ _ (sG4 _ _ ha))) ?_ ?_
      · rintro k y σ G5 hy ⟨b, v3, v5, rfl, s5, gb⟩
        rw [List.getElem?_map] at hy
        obtain ⟨i, hi, rfl⟩ := Option.map_eq_some_iff.mp hy
        have O5 := O.same (sG4.trans s5)
        have wt := wks_all (x := x) O.ord cl (n := WF) (w := st.take k) LI.nil (fun i hi => hst i (List.mem_of_mem_take hi)) (by show tab.length < 0 + 9; omega)
        refine ⟨_, rfl, _, rfl, _, rfl, _, rfl, ?_⟩
        refine ⟨p, dx, tb, tab, nx, i, x, b, _, rfl, O5, hst i (List.mem_of_getElem? hi), cl, sm, gb, wt.inv, (by show tab.length < _ + 9; omega), by omega, fun q7 H7 s7 h7 => ?_⟩
        refine ⟨q7, _, _, rfl, s5.trans s7, ?_⟩
        rw [h7, take_snoc hi]
        unfold wks
        rw [List.foldl_append]
        rfl
      · rintro σ G5 ⟨b, v3, v5, rfl, s5, gb⟩
        rw [List.length_map, List.take_length] at gb
        have g5 := s5 _ _ g4
        have sG5 := sG4.trans s5
        have O5 := O.same sG5
        generalize wks tab x WF st [] = L at gb q
        have fin : ∀ (G6 : Hp) (v : V) (D0 : PyData), Same G5 G6 → Tr G6 v D0 → outD tab x df = D0 → (tCB (rTupleOf K) (tCons (tVar 7) tNil)) [some (.ref p), some (.ref a), some (.str x), v3, some (.ref D), v5, some (.ref D2), some (.ref b)] G6 fun v2 H2 => [v, v2].length ≤ sizeLine ∧ ∀ q, H2 q = none → Q (.ref q) (upd H2 q (.tup [v, v2])) := fun G6 v D0 s6 tv ev => by
          refine ⟨_, rfl, b, _, rfl, .inl ⟨SqL.of (s6 _ _ gb), fun l nl => ⟨(by show 2 ≤ sizeLine; decide), fun r nr => ?_⟩⟩⟩
          have s7 := same_upd (o := .tup (L.map V.int)) nl
          have s8 := same_upd (o := .tup [v, V.ref l]) nr
          refine q r _ (((sG5.trans s6).trans s7).trans s8) ?_
          rw [ev]
          exact .tup upd_same (.cons ((tv.keep fun a xs z => s7 a _ z).keep fun a xs z => s8 a _ z) (.cons (.tup (s8 _ _ upd_same) (trs_ints L)) .nil))
        refine ⟨_, rfl, _, _, rfl, .inl ⟨_, SqL.of g5, rfl⟩, rfl, _, rfl, ?_⟩
        match df, g5, hdf, fin with
        | [], g5, hdf, fin =>
          refine ite2 (fun _ => ?_) (fun c => absurd (decide_eq_true rfl) c)
          refine ⟨(by show 1 ≤ sizeLine; decide), fun r nr => ?_⟩
          exact fin _ _ _ (same_upd nr) (.tup upd_same (.cons (.str _) .nil)) rfl
        | [h1], g5, hdf, fin =>
          refine ite2 (fun c => absurd (V.int.inj (of_decide_eq_true c)) (by show ¬ ((1 : Nat) : Int) = 0; decide)) (fun _ => ?_)
          refine ⟨_, rfl, _, _, rfl, .inl ⟨_, SqL.of g5, rfl⟩, _, _, rfl, rfl, _, rfl, ?_⟩
          refine ite2 (fun c => absurd (of_decide_eq_true c) (by show ¬ (1 : Int) < ((1 : Nat) : Int); decide)) (fun _ => ?_)
          have hh := hdf h1 List.mem_cons_self
          have hs0 : ∃ s, slotOf tab x h1 = some s := Option.isSome_iff_exists.mp hh
          obtain ⟨s0, e0⟩ := hs0
          obtain ⟨e, he, eid⟩ : isId tab h1 := by
            unfold slotOf entOf at e0
            obtain ⟨e, f1, f2⟩ := Option.bind_eq_some_iff.mp e0
            exact ⟨e, List.mem_of_find?_eq_some f1, by simpa using List.find?_some f1⟩
          subst eid
          have gs : getS e.sl x = some s0 := by
            rw [slotOf_mem O.ord he] at e0
            exact e0
          refine ⟨_, rfl, D2, _, _, _, rfl, rfl, SqL.of g5, atI_nat (j := 0) rfl, (by show 2 ≤ sizeLine; decide), fun r nr => ?_⟩
          have s6 := same_upd (o := .tup [V.str ("found" : Str), V.int (e.id : Int)]) nr
          have O6 := O5.same s6
          refine ⟨_, rfl, p, dx, _, rfl, O6.ins, obF_no (by decide +kernel) (by decide +kernel), _, rfl, D2, _, _, _, rfl, rfl, SqL.of (s6 _ _ g5), atI_nat (j := 0) rfl, _, rfl, ?_⟩
          refine ⟨p, dx, tb, tab, nx, e, x, rfl, O6, he, (fun z => by rw [z] at gs; cases gs), fun s2 qa v z hq tv => ?_⟩
          rw [gs] at z
          cases z
          refine ⟨r, qa, _, _, rfl, rfl, SqT.of upd_same, SqT.of hq, (by show 4 ≤ sizeLine; decide), (fun z => by cases z), (fun _ z => by cases z), fun _ _ r2 n2 => ?_⟩
          have s7 := same_upd (o := .tup ([V.str ("found" : Str), V.int (e.id : Int)] ++ [V.str s0.kind, v])) n2
          have eo : outD tab x [(e.id : Int)] = .tuple [.str ("found" : Str), .int (e.id : Int), .str s0.kind, s0.val] := by
            show (match slotOf tab x (e.id : Int) with | some s => PyData.tuple [.str ("found" : Str), .int (e.id : Int), .str s.kind, s.val] | none => .none) = _
            rw [e0]
          exact fin _ _ _ (s6.trans s7) (.tup upd_same (.cons (.str _) (.cons (.int _) (.cons (.str _) (.cons (tv.keep fun a xs z => s7 a _ z) .nil))))) eo
        | h1 :: h2 :: r, g5, hdf, fin =>
          have l2 : ((List.map V.int (h1 :: h2 :: r)).length : Int) = (r.length : Int) + 2 := by
            rw [List.length_map, List.length_cons, List.length_cons]
            omega
          refine ite2 (fun c => absurd (V.int.inj (of_decide_eq_true c)) (by omega)) (fun _ => ?_)
          refine ⟨_, rfl, _, _, rfl, .inl ⟨_, SqL.of g5, rfl⟩, _, _, rfl, rfl, _, rfl, ?_⟩
          refine ite2 (fun c => ?_) (fun c => absurd (decide_eq_true (by omega)) c)
          refine ⟨(by show 1 ≤ sizeLine; decide), fun r3 nr => ?_⟩
          exact fin _ _ _ (same_upd nr) (.tup upd_same (.cons (.str _) .nil)) rfl
theorem map_lay {α : Type} (f : α → PyData) (b : Nat) : ∀ l : List α, (∀ a ∈ l, PyData.canLay0 (f a) = true ∧ PyData.depth (f a) ≤ b) → PyData.canLayAll0 (l.map f) = true ∧ PyData.depthAll (l.map f) ≤ b
  | [], _ => ⟨rfl, Nat.zero_le _⟩
  | a :: l, h => by
    obtain ⟨h1, h2⟩ := h a List.mem_cons_self
    obtain ⟨h3, h4⟩ := map_lay f b l fun c hc => h c (List.mem_cons_of_mem _ hc)
    rw [List.map_cons]
    refine ⟨by simp [PyData.canLayAll0, h1, h3], ?_⟩
    simp only [PyData.depthAll]
    omega
theorem imgD_shaped {d r p dx tb : Addr} {tab : List En} {n : Nat} {m : Int} (w : Wo K H d r p dx tb tab n m) : SeqAt.shaped (imgD tab) = true := by
  have a := map_lay entD 5 tab fun e he => by
    have b := map_lay trD 2 e.sl fun s hs => by
      have sd := w.gd.sl e he s hs
      obtain ⟨t, ht, en⟩ := sd.nm
      have o1 : PyData.strOk s.name = true := by
        rw [en]
        exact str_ok t (List.mem_append_left _ ht)
      have o2 := sd.kd
      have v1 := sd.vl.lay
      have v2 := sd.vl.dep
      unfold trD
      refine ⟨by simp [PyData.canLay0, PyData.canLayAll0, o1, o2, v1], ?_⟩
      simp only [PyData.depth, PyData.depthAll]
      omega
    obtain ⟨b1, b2⟩ := b
    unfold entD slsD
    refine ⟨by simp [PyData.canLay0, PyData.canLayAll0, b1], ?_⟩
    simp only [PyData.depth, PyData.depthAll]
    omega
  obtain ⟨a1, a2⟩ := a
  unfold imgD
  refine shaped_small (by simp [PyData.canLay0, a1]) ?_
  simp only [PyData.depth]
  omega
theorem noneD_shaped : SeqAt.shaped noneD = true := by decide +kernel
theorem same_no {A B : Prop} {D0 : PyData} (sh : SeqAt.shaped D0 = true) (h : B) : if (!PyData.eqv D0 D0) = true then A else B := by
  rw [SeqAt.eqv_refl _ (SeqAt.canLay_of_shaped sh)]
  exact iteF h
def valL : List PyData := [.tuple [.str ("num" : Str), .int 0], .tuple [.str ("true" : Str)], .tuple [.str ("nothing" : Str)], .tuple [.str ("method" : Str), .int 0], .tuple [.str ("block" : Str), .int 0]]
theorem val_no {w : Str} {r : List PyData} (h : ¬ w = ("ref" : Str)) : ValOk (.tuple (.str w :: r)) ∧ refOf (.tuple (.str w :: r)) = none := by
  refine ⟨⟨w, r, rfl, fun z => absurd z h⟩, ?_⟩
  unfold refOf
  split
  · rename_i w2 j2 r2 e2
    injection e2 with e2
    injection e2 with e2 e3
    injection e2 with e2
    subst e2
    rw [if_neg h]
  · rfl
theorem vals_ok : ∀ D0 ∈ valL, ValOk D0 ∧ refOf D0 = none := by
  intro D0 h
  unfold valL at h
  rcases List.mem_cons.mp h with rfl | h
  · exact val_no (by decide +kernel)
  rcases List.mem_cons.mp h with rfl | h
  · exact val_no (by decide +kernel)
  rcases List.mem_cons.mp h with rfl | h
  · exact val_no (by decide +kernel)
  rcases List.mem_cons.mp h with rfl | h
  · exact val_no (by decide +kernel)
  rcases List.mem_cons.mp h with rfl | h
  · exact val_no (by decide +kernel)
  cases h
theorem trs_at {H : Hp} : ∀ {vs : List V} {ds : List PyData} {i : Nat} {v : V}, Trs H vs ds → vs[i]? = some v → ∃ d ∈ ds, Tr H v d
  | _, _, _, _, .nil, h => by simp at h
  | _, _, 0, _, .cons t r, h => by
    cases h
    exact ⟨_, List.mem_cons_self, t⟩
  | _, _, i + 1, _, .cons t r, h => by
    obtain ⟨d, m, t2⟩ := trs_at (i := i) r h
    exact ⟨d, List.mem_cons_of_mem _ m, t2⟩
theorem run_law (h : sp_law K vs H Q E) : t_law K E (DQ Q) (start ns_law vs) H := by
  obtain ⟨a, ns, rfl, hS, hl, q⟩ := h
  refine ⟨_, rfl, a, ns, rfl, hS, hl, fun d r H1 s1 nd nr D1 => ?_⟩
  intro p dx np ndx nxp
  have S1 : Same H1 (upd (upd H1 dx (.own p)) p (.ins (OC K) dx [])) := fun b u z => by
    rw [upd_ne (ne_of_none z np), upd_ne (ne_of_none z ndx)]
    exact z
  have D1' := D1.same S1
  have dp : d ≠ p := D1.neD np
  have rp : r ≠ p := D1.neR np
  refine ⟨p, dx, rfl, upd_same, fun tb o H2 k2 ntb no O2 => ⟨rfl, ?_⟩⟩
  have D2 : Draws H2 d r := by
    obtain ⟨i, s, rs, h1, h2, h3⟩ := D1'
    exact ⟨i, s, rs, k2 _ _ dp h1, k2 _ _ rp h2, h3⟩
  refine ⟨_, rfl, _, rfl, d, r, p, dx, tb, o, rfl, D2, O2, D1'.neD ntb, D1'.neD no, fun m H3 tab m2 m8 W3 => ?_⟩
  have cl := W3.closed (Int.le_refl _)
  have o := W3.gd.ord
  have sm : ∀ e ∈ tab, e.sl.length ≤ 1000000 := fun e he => Nat.le_trans (W3.gd.six he) (by decide)
  have lt : tab.length = m := W3.gd.len
  have h8 : tab.length ≤ 8 := by omega
  have fu : ∀ st : List Int, st.length ≤ 1000 → fuel tab st ≤ 10000000 := fun st h => W3.gd.fuel (by omega) h
  have idm : ∀ i : Int, 0 ≤ i → i < m → isId tab i := fun i h0 h1 => W3.gd.isId h0 h1
  have ish := imgD_shaped W3
  -- before
  refine ⟨_, rfl, p, dx, _, rfl, W3.ob.ins, obF_no (by decide +kernel) (by decide +kernel), ?_⟩
  refine ⟨p, dx, tb, tab, m, rfl, W3.ob, sm, by omega, fun qi H4 s4 t4 => ?_⟩
  refine ⟨(by show 6 ≤ sizeLine; decide), fun l nl => ?_⟩
  have s5 := same_upd (o := .lst (["x", "y", "p", "q", "xx", "lobby"].map mS)) nl
  have W5 := (W3.same s4).same s5
  have t5 := t4.keep fun a xs z => s5 a _ z
  have g5 : (upd H4 l (.lst (["x", "y", "p", "q", "xx", "lobby"].map mS))) l = some (.lst (["x", "y", "p", "q", "xx", "lobby"].map mS)) := upd_same
  refine ⟨l, rfl, ⟨_, SqL.of g5⟩, ?_⟩
  have ld : l ≠ d := Ne.symm ((W3.same s4).ne_d nl)
  generalize upd H4 l (.lst (["x", "y", "p", "q", "xx", "lobby"].map mS)) = H5 at s5 W5 t5 g5 ⊢
  refine for_list (xs := ["x", "y", "p", "q", "xx", "lobby"].map mS) (fun i σ G => ∃ v5 v6 v7 v8 v9 v10 : Option V, σ = [some (.ref a), some (.ref d), some (.ref p), some (.int (m : Int)), some (.ref qi), v5, v6, v7, v8, v9, v10] ∧ Kept d H5 G ∧ Draws G d r)
    ⟨none, none, none, none, none, none, rfl, Kept.refl d H5, W5.dr⟩ (fun i σ G _ z => by
      obtain ⟨_, _, _, _, _, _, _, k, _⟩ := z
      exact SqL.of (k _ _ ld g5)) ?_ ?_
  · rintro i y σ G hy ⟨v5, v6, v7, v8, v9, v10, rfl, kG, dG⟩
    rw [List.getElem?_map] at hy
    obtain ⟨s, _, rfl⟩ := Option.map_eq_some_iff.mp hy
    clear hy
    -- each object
    refine ⟨_, rfl, (m : Int), rfl, by omega, by omega, ?_⟩
    rw [Int.toNat_natCast]
    refine for_range (lo := 0) (n := m) (fun j σ G => ∃ v6 v7 : Option V, σ = [some (.ref a), some (.ref d), some (.ref p), some (.int (m : Int)), some (.ref qi), some (mS s), v6, v7, v8, v9, v10] ∧ Kept d H5 G ∧ Draws G d r)
      ⟨_, _, rfl, kG, dG⟩ ?_ ?_
    · rintro j σ G2 hj ⟨v6, v7, rfl, k2, d2⟩
      have W := W5.kept k2 d2
      have ij : ∀ i ∈ [(0 : Int) + (j : Int)], isId tab i := fun i hi => by
        rw [List.mem_singleton.mp hi]
        exact idm _ (by omega) (by omega)
      refine ⟨_, rfl, _, rfl, (by show 1 ≤ sizeLine; decide), fun t1 nt1 => ?_⟩
      have e1 := same_upd (o := .tup [V.int (0 + (j : Int))]) nt1
      have W1 := W.same e1
      refine ⟨_, rfl, p, dx, tb, tab, m, t1, [0 + (j : Int)], Str.ofString s, rfl, W1.ob, upd_same, ij, cl, sm, h8, (by show 1 ≤ 10; decide), fun q7 G7 e7 r7 => ?_⟩
      have W7 := W1.same e7
      have sh := resD_shaped W7 (Str.ofString s) (srch tab (Str.ofString s) [0 + (j : Int)])
      refine ⟨_, rfl, _, rfl, (by show 1 ≤ sizeLine; decide), fun t2 nt2 => ?_⟩
      have e2 := same_upd (o := .tup [V.int (0 + (j : Int))]) nt2
      have W2 := W7.same e2
      refine ⟨_, rfl, p, dx, tb, tab, m, t2, [0 + (j : Int)], Str.ofString s, rfl, W2.ob, upd_same, ij, cl, sm, fu _ (by show 1 ≤ 1000; decide), fun q8 G8 e8 r8 => ?_⟩
      have W8 := W2.same e8
      have r78 := (r7.keep fun a xs z => e2 a _ z).keep fun a xs z => e8 a _ z
      refine ⟨_, rfl, _, _, r8.dp, r78.dp, sh, sh, _, rfl, ?_⟩
      refine same_no sh ?_
      refine ⟨_, rfl, _, rfl, (by show 2 ≤ sizeLine; decide), fun t3 nt3 => ?_⟩
      have e3 := same_upd (o := .tup [V.str ("ref" : Str), V.int (0 + (j : Int))]) nt3
      have W9 := W8.same e3
      have ev : refOf (.tuple [.str ("ref" : Str), .int (0 + (j : Int))]) = some (0 + (j : Int)) := by
        show (if ("ref" : Str) = ("ref" : Str) then some (0 + (j : Int)) else none) = _
        rw [if_pos rfl]
      refine ⟨_, rfl, p, dx, tb, tab, m, .ref t3, .tuple [.str ("ref" : Str), .int (0 + (j : Int))], Str.ofString s, rfl, W9.ob, .tup upd_same (.cons (.str _) (.cons (.int _) .nil)), ⟨_, _, rfl, fun _ => ⟨_, _, rfl⟩⟩, (fun i hi => by
        rw [ev] at hi
        cases hi
        exact idm _ (by omega) (by omega)), cl, sm, fu _ (by show 1 ≤ 1000; decide), fun q9 G9 e9 r9 => ?_⟩
      have ed : svD tab (Str.ofString s) (.tuple [.str ("ref" : Str), .int (0 + (j : Int))]) = resD tab (Str.ofString s) (srch tab (Str.ofString s) [0 + (j : Int)]) := by
        unfold svD
        rw [ev]
      rw [ed] at r9
      have r79 := (r78.keep fun a xs z => e3 a _ z).keep fun a xs z => e9 a _ z
      refine ⟨_, rfl, _, _, r9.dp, r79.dp, sh, sh, _, rfl, ?_⟩
      refine same_no sh ?_
      have eAll := ((((e1.trans e7).trans e2).trans e8).trans e3).trans e9
      exact ⟨_, _, rfl, k2.trans (Kept.of_same eAll), d2.same eAll⟩
    · rintro σ G2 ⟨v6, v7, rfl, k2, d2⟩
      -- starts
      refine ⟨_, rfl, d, 5, rfl, by decide, r, d2, fun c Hb c0 c1 Db Mb => ⟨c, rfl, by omega, by omega, fun D nD => ?_⟩⟩
      obtain ⟨c, rfl⟩ := int_nat c0
      rw [Int.toNat_natCast]
      have kb := k2.trans (Kept.of_moved Mb)
      have Dd : D ≠ d := Ne.symm (Db.neD nD)
      have Dr : D ≠ r := Ne.symm (Db.neR nD)
      refine lc_range (lo := 0) (n := c) (fun k G1 => ∃ acc : List Int, G1 D = some (.lst (acc.map V.int)) ∧ acc.length = k ∧ (∀ y ∈ acc, 0 ≤ y ∧ y < m) ∧ Kept d Hb G1 ∧ Draws G1 d r)
        ⟨[], upd_same, rfl, (fun y hy => by cases hy), Kept.of_same (same_upd nD), Db.fresh nD⟩ ?_ ?_
      · rintro k G1 hk ⟨acc, gD, la, hy, kk, dd⟩
        refine ⟨rfl, _, rfl, _, rfl, d, _, rfl, (by omega), r, dd, fun y G3 y0 y1 D3 M3 => ?_⟩
        have gD3 := (M3 D Dd).trans gD
        refine ⟨_, gD3, Nat.lt_of_le_of_lt (show (acc.map V.int).length ≤ 10 by rw [List.length_map]; omega) (by decide), acc ++ [y], by rw [upd_same, List.map_append]; rfl, by rw [List.length_append, la]; rfl, fun z hz => ?_, fun b u n z => ?_, D3.other Dd Dr⟩
        · rcases List.mem_append.mp hz with hz | hz
          · exact hy z hz
          · rw [List.mem_singleton.mp hz]
            exact ⟨y0, y1⟩
        · rw [upd_ne (ne_of_none z nD)]
          exact (M3 b n).trans (kk b u n z)
      · rintro G1 ⟨acc, gD, la, hy, kk, dd⟩
        refine ⟨D, _, rfl, .inl ⟨SqL.of gD, fun t1 nt1 => ?_⟩⟩
        have e1 := same_upd (o := .tup (acc.map V.int)) nt1
        have k3 := (kb.trans kk).trans (Kept.of_same e1)
        have d3 := dd.same e1
        have g1 : (upd G1 t1 (.tup (acc.map V.int))) t1 = some (.tup (acc.map V.int)) := upd_same
        generalize upd G1 t1 (.tup (acc.map V.int)) = G3 at e1 k3 d3 g1 ⊢
        have W := W5.kept k3 d3
        have ids : ∀ i ∈ acc, isId tab i := fun i hi => idm i (hy i hi).1 (hy i hi).2
        refine ⟨_, rfl, _, rfl, _, rfl, p, dx, tb, tab, m, t1, acc, Str.ofString s, rfl, W.ob, g1, ids, cl, sm, fu _ (by omega), fun q8 G8 e8 r8 => ?_⟩
        have W8 := W.same e8
        have sh := resD_shaped W8 (Str.ofString s) (srch tab (Str.ofString s) acc)
        refine ⟨_, rfl, _, rfl, _, rfl, p, dx, tb, tab, m, t1, acc, Str.ofString s, rfl, W8.ob, e8 _ _ g1, ids, cl, sm, h8, by omega, fun q9 G9 e9 r9 => ?_⟩
        have W9 := W8.same e9
        have r89 := r8.keep fun a xs z => e9 a _ z
        refine ⟨_, _, r89.dp, r9.dp, sh, sh, _, rfl, ?_⟩
        refine same_no sh ?_
        -- other values
        refine ⟨(by show 2 ≤ sizeLine; decide), fun a1 n1 => ⟨(by show 1 ≤ sizeLine; decide), fun a2 n2 => ⟨(by show 1 ≤ sizeLine; decide), fun a3 n3 => ⟨(by show 2 ≤ sizeLine; decide), fun a4 n4 => ⟨(by show 2 ≤ sizeLine; decide), fun a5 n5 => ⟨(by show 5 ≤ sizeLine; decide), fun l2 nl2 => ?_⟩⟩⟩⟩⟩⟩
        have f1 := same_upd (o := .tup [V.str ("num" : Str), V.int 0]) n1
        have f2 := same_upd (o := .tup [V.str ("true" : Str)]) n2
        have f3 := same_upd (o := .tup [V.str ("nothing" : Str)]) n3
        have f4 := same_upd (o := .tup [V.str ("method" : Str), V.int 0]) n4
        have f5 := same_upd (o := .tup [V.str ("block" : Str), V.int 0]) n5
        have f6 := same_upd (o := .lst [V.ref a1, .ref a2, .ref a3, .ref a4, .ref a5]) nl2
        have fA := ((((f1.trans f2).trans f3).trans f4).trans f5).trans f6
        have tv : Trs _ [V.ref a1, .ref a2, .ref a3, .ref a4, .ref a5] valL := .cons (.tup (f6 _ _ (f5 _ _ (f4 _ _ (f3 _ _ (f2 _ _ upd_same))))) (.cons (.str _) (.cons (.int _) .nil))) (.cons (.tup (f6 _ _ (f5 _ _ (f4 _ _ (f3 _ _ upd_same)))) (.cons (.str _) .nil)) (.cons (.tup (f6 _ _ (f5 _ _ (f4 _ _ upd_same))) (.cons (.str _) .nil)) (.cons (.tup (f6 _ _ (f5 _ _ upd_same)) (.cons (.str _) (.cons (.int _) .nil))) (.cons (.tup (f6 _ _ upd_same) (.cons (.str _) (.cons (.int _) .nil))) .nil))))
        have gl2 : (upd (upd (upd (upd (upd (upd G9 a1 (.tup [V.str ("num" : Str), V.int 0])) a2 (.tup [V.str ("true" : Str)])) a3 (.tup [V.str ("nothing" : Str)])) a4 (.tup [V.str ("method" : Str), V.int 0])) a5 (.tup [V.str ("block" : Str), V.int 0])) l2 (.lst [V.ref a1, .ref a2, .ref a3, .ref a4, .ref a5])) l2 = some (.lst [V.ref a1, .ref a2, .ref a3, .ref a4, .ref a5]) := upd_same
        refine ⟨l2, rfl, ⟨_, SqL.of gl2⟩, ?_⟩
        have WA := W9.same fA
        have kA := k3.trans (Kept.of_same ((e8.trans e9).trans fA))
        have dA := d3.same ((e8.trans e9).trans fA)
        generalize upd (upd (upd (upd (upd (upd G9 a1 (.tup [V.str ("num" : Str), V.int 0])) a2 (.tup [V.str ("true" : Str)])) a3 (.tup [V.str ("nothing" : Str)])) a4 (.tup [V.str ("method" : Str), V.int 0])) a5 (.tup [V.str ("block" : Str), V.int 0])) l2 (.lst [V.ref a1, .ref a2, .ref a3, .ref a4, .ref a5]) = GA at tv gl2 WA kA dA ⊢
        refine for_list (xs := [V.ref a1, .ref a2, .ref a3, .ref a4, .ref a5]) (fun i σ G => ∃ v8 v10 : Option V, σ = [some (.ref a), some (.ref d), some (.ref p), some (.int (m : Int)), some (.ref qi), some (mS s), v6, v7, v8, some (.ref t1), v10] ∧ Same GA G)
          ⟨_, _, rfl, fun _ _ z => z⟩ (fun i σ G _ z => by
            obtain ⟨_, _, _, e⟩ := z
            exact SqL.of (e _ _ gl2)) ?_ ?_
        · rintro k y σ GB hy ⟨v8, v10, rfl, eB⟩
          obtain ⟨D0, m0, t0⟩ := trs_at tv hy
          obtain ⟨vo, rn⟩ := vals_ok D0 m0
          have WB := WA.same eB
          refine ⟨_, rfl, _, rfl, _, rfl, p, dx, tb, tab, m, y, D0, Str.ofString s, rfl, WB.ob, t0.keep (fun a xs z => eB a _ z), vo, (fun i hi => by rw [rn] at hi; cases hi), cl, sm, fu _ (by show 1 ≤ 1000; decide), fun qz GC eC rC => ?_⟩
          have es : svD tab (Str.ofString s) D0 = noneD := by
            unfold svD
            rw [rn]
          rw [es] at rC
          refine ⟨(by show 1 ≤ sizeLine; decide), fun b1 m1 => ⟨(by show 0 ≤ sizeLine; decide), fun b2 m2 => ⟨(by show 2 ≤ sizeLine; decide), fun b3 m3 => ?_⟩⟩⟩
          have u1 := same_upd (o := .tup [V.str ("none" : Str)]) m1
          have u2 := same_upd (o := .tup []) m2
          have u3 := same_upd (o := .tup [V.ref b1, V.ref b2]) m3
          have uA := (u1.trans u2).trans u3
          have tn : Tr _ (V.ref b3) noneD := .tup upd_same (.cons (.tup (u3 _ _ (u2 _ _ upd_same)) (.cons (.str _) .nil)) (.cons (.tup (u3 _ _ upd_same) .nil) .nil))
          have rCA := rC.keep fun a xs z => uA a _ z
          refine ⟨_, _, rCA.dp, tn.dp, noneD_shaped, noneD_shaped, _, rfl, ?_⟩
          refine same_no noneD_shaped ?_
          exact ⟨_, _, rfl, (eB.trans eC).trans uA⟩
        · rintro σ GB ⟨v8, v10, rfl, eB⟩
          exact ⟨_, _, _, _, _, _, rfl, kA.trans (Kept.of_same eB), dA.same eB⟩
  · rintro σ G ⟨v5, v6, v7, v8, v9, v10, rfl, kG, dG⟩
    have W := W5.kept kG dG
    refine ⟨_, rfl, p, dx, _, rfl, W.ob.ins, obF_no (by decide +kernel) (by decide +kernel), ?_⟩
    refine ⟨p, dx, tb, tab, m, rfl, W.ob, sm, by omega, fun q9 G9 e9 r9 => ?_⟩
    have t9 := (t5.keep (kept_tk W5.dr kG)).keep fun a xs z => e9 a _ z
    refine ⟨_, rfl, _, _, r9.dp, t9.dp, ish, ish, ?_⟩
    rw [SeqAt.eqv_refl _ (SeqAt.canLay_of_shaped ish)]
    exact q G9
end
end Rm.Q.K21

/-! O4: sorted(dict of numbers), set(list of numbers), k in set, dict comprehensions over a walk, isinstance of lists and truths. -/
namespace Rm
open PySem PySem.Spec PyProof.Rows L2
def rSortedDI : RC := fun xs H Q => ∃ (a : Addr) (kvs : List (Key × V)) (ks : List Int), xs = [.ref a] ∧ Rd H a (.dK kvs) ∧ kvs.map (·.1) = ks.map Sum.inl ∧ ks.length < 64 ∧ ∀ (ys : List Int) (p : Addr), ys.Perm ks → ys.Pairwise (· ≤ ·) → H p = none → Q (.ref p) (upd H p (.lst (ys.map V.int)))
/-- the set of numbers at a -/
def SetI (P : Program) (w : World) (a : Addr) (S : Int → Bool) (n : Nat) : HO := .ext fun h => h.SetOf (intKind P w) a S n
section
variable {X : Cx}
theorem setOfI_at {P : Program} {w : World} {h h' : Heap} {a : Addr} {S : Int → Bool} {n : Nat} (R : h.SetOf (intKind P w) a S n) (k : ∀ o, h.get? a = some o → h'.get? a = some o) : h'.SetOf (intKind P w) a S n := by
  obtain ⟨o, es, ep, t, ho, r⟩ := R
  exact ⟨o, es, ep, t, k o ho, r⟩
theorem setI_new {w : World} {P : Program} {H : Hp} {h : Heap} {a : Addr} {S : Int → Bool} {n : Nat} (R : h.SetOf (intKind P w) a S n) : ObjOk P w H h a (SetI P w a S n) := by
  have ⟨o, _, _, _, ho, _⟩ := R
  exact ⟨R, ⟨o, ho⟩, fun h1 h2 p k => setOfI_at p k⟩
theorem setI_get {pins : List (Addr × Obj)} {σ : L2.St} {H : Hp} {s : Shared} {a : Addr} {S : Int → Bool} {n : Nat} (I : Inv X pins σ H s) (ha : H a = some (SetI X.prog X.w a S n)) : s.heap.SetOf (intKind X.prog X.w) a S n := (I.hok a _ ha).1
/-- set(xs), xs a list of numbers -/
def rSetOfI (K : PySem.W.Frag) (P : Program) (w : World) : RC := fun xs H Q => ∃ (l : Addr) (ns : List Int), xs = [.ref l] ∧ SqL K H l (ns.map V.int) ∧ ns.length ≤ 1000 ∧ ∀ (a : Addr) (S : Int → Bool) (n : Nat), H a = none → (∀ i, S i = decide (i ∈ ns)) → Q (.ref a) (upd H a (SetI P w a S n))
theorem any_range (ns : List Int) (k : Int) : ((List.range ns.length).map fun i => ns.getD i 0).any (· == k) = decide (k ∈ ns) := by
  have e : (List.range ns.length).map (fun i => ns.getD i 0) = ns := by
    apply List.ext_getElem?
    intro i
    rw [List.getElem?_map]
    by_cases h : i < ns.length
    · rw [List.getElem?_range h, List.getElem?_eq_getElem h]
      simp [h]
    · rw [List.getElem?_eq_none (by rw [List.length_range]; omega), List.getElem?_eq_none (by omega)]
      rfl
  rw [e, Bool.eq_iff_iff, List.any_eq_true, decide_eq_true_iff]
  constructor
  · rintro ⟨j, hj, z⟩
    rw [← beq_iff_eq.mp z]
    exact hj
  · exact fun h => ⟨k, h, by simp⟩
theorem call_setOfI (hc : X.calm = true) : CallR X (.type "set") (rSetOfI X.K X.prog X.w) := by
  intro pins s σ H xs us Q I r h
  obtain ⟨l, ns, rfl, hs, hl, q⟩ := h
  obtain ⟨its, rv, pl, hz⟩ := I.list hs
  rw [Vals.ref1 r]
  have hlen : its.toArray.size = ns.length := by rw [List.size_toArray, ← rv.length, List.length_map]
  refine call_set_list (I.ok.hd hc) pl.isList (ns := ns) (by simpa using rv.ints) (by rw [hlen]; unfold scanBound; omega) fun h' tk hS hk => ?_
  have hS2 : h'.SetOf (intKind X.prog X.w) s.heap.objs.size (fun k => (firstMet (fun i => ns.getD i 0) ns.length).any (· == k)) (firstMet (fun i => ns.getD i 0) ns.length).length := by
    rw [hlen] at hS
    exact hS
  refine ⟨.ref _, _, I.laid (t' := tk) (fun b u e => hk b u (Heap.lt_size e) e) (Nat.le_refl _) (setI_new hS2), rfl, q _ _ _ (I.hok.fresh (Nat.le_refl _)) fun i => ?_⟩
  show (firstMet (fun i => ns.getD i 0) ns.length).any (· == i) = _
  rw [firstMet_any, any_range]
/-- k in found -/
def rSInI (P : Program) (w : World) : R2 := fun x y H Q => ∃ k a S n, x = V.int k ∧ y = V.ref a ∧ H a = some (SetI P w a S n) ∧ Q (.bl (S k)) H
theorem op_inSI : OpR X (compareOp .In) (rSInI X.prog X.w) := by
  intro pins s σ H x y v u Q I rx ry h
  obtain ⟨k, a, S, n, rfl, rfl, ha, q⟩ := h
  obtain ⟨tk, rfl⟩ := rx
  cases ry
  exact wpAny_inSet_of (intKind_is _ _ _ _) rfl (setI_get I ha) ⟨.bl (S k), H, I.tok _, rfl, q⟩
end
/-- a dict comprehension over a walk -/
theorem dc_it {J : It} {n : Nat} {G : Hp → Prop} {Y : Nat → Hp → V → Hp → Prop} (w : Walk J n G Y) {g : TG} {tt : TT} {tk tv : TE} {vs : List Nat} {σ : L2.St} {H1 : Hp} {D : Addr} {Qd : Hp → Prop} (Pv : Nat → Hp → Prop) (h0 : Pv 0 (upd H1 D (.dK []))) (hG : ∀ i H, i ≤ n → Pv i H → G H)
    (hs : ∀ i x H H', i < n → Pv i H → Y i H x H' → g x (wipe σ vs) H' fun σ2 H2 => wipe σ2 vs = wipe σ vs ∧ tt σ2 H2 fun b H3 =>
      if b = true then tk σ2 H3 fun y H4 => tv σ2 H4 fun z H5 => ∃ kvs k, y = kV k ∧ H5 D = some (.dK kvs) ∧ kvs.length < sizeLine ∧ Pv (i + 1) (upd H5 D (.dK (putK kvs k z))) else Pv (i + 1) H3) (hd : ∀ H, Pv n H → Qd H) :
    ∃ W : Nat → Nat → Hp → Prop, (∃ m, W 0 m (upd H1 D (.dK []))) ∧ ∀ i m H, W i m H →
      (J.stop i H ∧ Qd H) ∨ (J.go i H ∧ ∃ Nx : Hp → Prop, (∀ H', Nx H' → ∃ m', m' < m ∧ W (i + 1) m' H') ∧ ∀ x H', J.yld i H x H' → g x (wipe σ vs) H' fun σ2 H2 => wipe σ2 vs = wipe σ vs ∧ tt σ2 H2 fun b H3 =>
        if b = true then tk σ2 H3 fun y H4 => tv σ2 H4 fun z H5 => ∃ kvs k, y = kV k ∧ H5 D = some (.dK kvs) ∧ kvs.length < sizeLine ∧ Nx (upd H5 D (.dK (putK kvs k z))) else Nx H3) := by
  refine ⟨fun i m H => m = n - i ∧ i ≤ n ∧ Pv i H, ⟨n, by simp, Nat.zero_le _, h0⟩, ?_⟩
  rintro i m H ⟨rfl, hi, p⟩
  have q := hG i H hi p
  by_cases hlt : i < n
  · refine .inr ⟨w.goes i H hlt q, Pv (i + 1), fun H' p' => ⟨n - (i + 1), by omega, rfl, hlt, p'⟩, fun x H' y => hs i x H H' hlt p (w.yields i H x H' hlt q y)⟩
  · have e : i = n := by omega
    subst e
    exact .inl ⟨w.stops H q, hd H p⟩
/-! ### isinstance(x, list), isinstance(x, bool) -/
theorem isi_list {K : PySem.W.Frag} {H : Hp} {a : Addr} {xs : List V} {Q : VK} (h : H a = some (.lst xs)) (q : Q (.bl true) H) : rIsi K [.ref a, .ty "list"] H Q := ⟨_, _, .type "list", .type "list", true, rfl, .ty _, .base (.lst h), by rfl, q⟩
theorem isi_bool {K : PySem.W.Frag} {H : Hp} {b : Bool} {Q : VK} (q : Q (.bl true) H) : rIsi K [.bl b, .ty "bool"] H Q := ⟨_, _, .type "bool", .type "bool", true, rfl, .ty _, .base (.bl b), by rfl, q⟩
end Rm

/-! M20: objects by a model: plain Lean over slots and entries; the world of both. -/
namespace Rm.Q.K21.K20
open PySem PySem.Spec PyProof.Rows L2
/-! ### slots -/
theorem cut_take (xs : List V) (k : Nat) : cutV xs none (some (k : Int)) = xs.take k := by
  unfold cutV
  rw [HT.sIx_none, HT.sIx_nat, List.drop_zero, Nat.sub_zero]
  rcases Nat.le_total k xs.length with h | h
  · rw [Nat.min_eq_left h]
  · rw [Nat.min_eq_right h, List.take_length, List.take_of_length_le h]
theorem cut_drop (xs : List V) (k : Nat) : cutV xs (some (k : Int)) none = xs.drop k := by
  unfold cutV
  rw [HT.sIx_none, HT.sIx_nat]
  rcases Nat.le_total k xs.length with h | h
  · rw [Nat.min_eq_left h]
    exact List.take_of_length_le (by rw [List.length_drop]; exact Nat.le_refl _)
  · rw [Nat.min_eq_right h, List.drop_length, List.drop_of_length_le h, List.take_nil]
theorem put_none : ∀ {sl : List Sl} {n : Sl}, (∀ s ∈ sl, s.name ≠ n.name) → putS sl n = sl ++ [n]
  | [], n, _ => rfl
  | t :: r, n, h => by
    unfold putS
    rw [if_neg (h t List.mem_cons_self), put_none fun s hs => h s (List.mem_cons_of_mem _ hs)]
    rfl
theorem put_at : ∀ {sl : List Sl} {n s : Sl} {j : Nat}, NdS sl → sl[j]? = some s → s.name = n.name → putS sl n = sl.take j ++ n :: sl.drop (j + 1)
  | [], _, _, _, _, h, _ => by simp at h
  | t :: r, n, s, 0, _, h, e => by
    cases h
    unfold putS
    rw [if_pos e]
    rfl
  | t :: r, n, s, j + 1, nd, h, e => by
    obtain ⟨n1, n2⟩ := List.nodup_cons.mp nd
    have h : r[j]? = some s := h
    have ne : ¬ t.name = n.name := fun z => n1 (by
      show t.name ∈ _
      rw [z, ← e]
      exact List.mem_map.mpr ⟨s, List.mem_of_getElem? h, rfl⟩)
    unfold putS
    rw [if_neg ne, put_at n2 h e]
    rfl
theorem getS_at {sl : List Sl} (nd : NdS sl) {s : Sl} (h : s ∈ sl) : getS sl s.name = some s := by
  induction sl with
  | nil => cases h
  | cons t r ih =>
    obtain ⟨n1, n2⟩ := List.nodup_cons.mp nd
    unfold getS
    rcases List.mem_cons.mp h with e | h
    · rw [e, if_pos rfl]
    · rw [if_neg fun z => n1 (by
        show t.name ∈ _
        rw [z]
        exact List.mem_map.mpr ⟨s, h, rfl⟩)]
      exact ih n2 h
theorem getS_snoc : ∀ (sl : List Sl) (s : Sl) (x : Str), getS (sl ++ [s]) x = (getS sl x).or (if s.name = x then some s else none)
  | [], s, x => by
    show getS [s] x = _
    unfold getS
    split <;> rfl
  | t :: r, s, x => by
    show getS (t :: (r ++ [s])) x = _
    unfold getS
    split
    · rfl
    · exact getS_snoc r s x
theorem drop_len {sl : List Sl} {x : Str} (nd : NdS sl) : (dropS sl x).length < sl.length ↔ getS sl x ≠ none := by
  unfold dropS
  constructor
  · intro h z
    have e : sl.filter (fun s => decide (s.name ≠ x)) = sl := List.filter_eq_self.mpr fun s hs => decide_eq_true (getS_none z s hs)
    rw [e] at h
    exact Nat.lt_irrefl _ h
  · intro h
    cases z : getS sl x with
    | none => exact absurd z h
    | some s =>
      obtain ⟨m, e⟩ := getS_mem z
      refine List.length_filter_lt_length_iff_exists.mpr ⟨s, m, ?_⟩
      simp [e]
/-! ### triples in the heap -/
section
variable {H : Hp}
theorem TrpR.app : ∀ {us vs : List V} {a b : List Sl}, TrpR H us a → TrpR H vs b → TrpR H (us ++ vs) (a ++ b)
  | _, _, _, _, .nil, r => r
  | _, _, _, _, .cons h t r, q => .cons h t (TrpR.app r q)
theorem TrpR.tk : ∀ (n : Nat) {us : List V} {a : List Sl}, TrpR H us a → TrpR H (us.take n) (a.take n)
  | 0, _, _, _ => .nil
  | _ + 1, _, _, .nil => .nil
  | n + 1, _, _, .cons h t r => .cons h t (TrpR.tk n r)
theorem TrpR.dr : ∀ (n : Nat) {us : List V} {a : List Sl}, TrpR H us a → TrpR H (us.drop n) (a.drop n)
  | 0, _, _, r => r
  | _ + 1, _, _, .nil => .nil
  | n + 1, _, _, .cons h t r => TrpR.dr n r
theorem TrpR.trs : ∀ {us : List V} {a : List Sl}, TrpR H us a → Trs H us (a.map trD)
  | _, _, .nil => .nil
  | _, _, .cons h t r => .cons (.tup h (.cons (.str _) (.cons (.str _) (.cons t .nil)))) (TrpR.trs r)
theorem TrpR.put {us : List V} {a : List Sl} {n : Sl} {t : Addr} {v : V} (nd : NdS a) (r : TrpR H us a) (h : H t = some (.tup [.str n.name, .str n.kind, v])) (tv : Tr H v n.val) {j : Nat} {s : Sl} (hj : a[j]? = some s) (e : s.name = n.name) :
    TrpR H ((us.take j ++ [V.ref t]) ++ us.drop (j + 1)) (putS a n) := by
  rw [put_at nd hj e]
  have q := TrpR.app (TrpR.app (TrpR.tk j r) (TrpR.cons h tv .nil)) (TrpR.dr (j + 1) r)
  have z : a.take j ++ n :: a.drop (j + 1) = (a.take j ++ [⟨n.name, n.kind, n.val⟩]) ++ a.drop (j + 1) := by
    rw [List.append_assoc]
    rfl
  rw [z]
  exact q
end
/-! ### rows of entries -/
def unE (e : En) : Nat × List Sl := (e.id, e.sl)
def setM (mt : List En) (i : Nat) (l : Addr) (sl : List Sl) : List En := mt.map fun e => if e.id = i then ⟨i, l, sl⟩ else e
def Al (tab mt : List En) : Prop := mt.map unE = tab.map unE
theorem Al.ids {tab mt : List En} (a : Al tab mt) : mt.map (·.id) = tab.map (·.id) := by
  have := congrArg (List.map Prod.fst) a
  rw [List.map_map, List.map_map] at this
  exact this
theorem Al.len {tab mt : List En} (a : Al tab mt) : mt.length = tab.length := by
  have := congrArg List.length a
  rwa [List.length_map, List.length_map] at this
theorem Al.find {tab mt : List En} (a : Al tab mt) {e : En} (he : e ∈ tab) : ∃ f ∈ mt, f.id = e.id ∧ f.sl = e.sl := by
  have : unE e ∈ mt.map unE := by
    rw [a]
    exact List.mem_map.mpr ⟨e, he, rfl⟩
  obtain ⟨f, hf, z⟩ := List.mem_map.mp this
  exact ⟨f, hf, congrArg Prod.fst z, congrArg Prod.snd z⟩
theorem Al.at_ {tab mt : List En} (a : Al tab mt) {i : Nat} {e : En} (he : tab[i]? = some e) : ∃ f, mt[i]? = some f ∧ f.id = e.id ∧ f.sl = e.sl := by
  have h : (mt.map unE)[i]? = (tab.map unE)[i]? := congrArg (fun l => l[i]?) a
  rw [List.getElem?_map, List.getElem?_map, he] at h
  obtain ⟨f, hf, z⟩ := Option.map_eq_some_iff.mp h
  exact ⟨f, hf, congrArg Prod.fst z, congrArg Prod.snd z⟩
theorem Al.ord {tab mt : List En} (a : Al tab mt) (o : tab.Pairwise fun a b => a.id < b.id) : mt.Pairwise fun a b => a.id < b.id := pw_ids a.ids o
theorem unE_set (tab : List En) (i : Nat) (sl : List Sl) : (setE tab i sl).map unE = (tab.map unE).map fun q => if q.1 = i then (q.1, sl) else q := by
  unfold setE
  rw [List.map_map, List.map_map]
  refine List.map_congr_left fun e _ => ?_
  show unE (if e.id = i then ⟨e.id, e.at_, sl⟩ else e) = if e.id = i then (e.id, sl) else unE e
  split <;> rfl
theorem unE_setM (mt : List En) (i : Nat) (l : Addr) (sl : List Sl) : (setM mt i l sl).map unE = (mt.map unE).map fun q => if q.1 = i then (q.1, sl) else q := by
  unfold setM
  rw [List.map_map, List.map_map]
  refine List.map_congr_left fun e _ => ?_
  show unE (if e.id = i then ⟨i, l, sl⟩ else e) = if e.id = i then (e.id, sl) else unE e
  split
  · rename_i c
    rw [c]
    rfl
  · rfl
theorem Al.set {tab mt : List En} (a : Al tab mt) (i : Nat) (l : Addr) (sl : List Sl) : Al (setE tab i sl) (setM mt i l sl) := by
  unfold Al
  rw [unE_set, unE_setM, a]
theorem Al.add {tab mt : List En} (a : Al tab mt) (i : Nat) (o l : Addr) (sl : List Sl) : Al (tab ++ [⟨i, o, sl⟩]) (mt ++ [⟨i, l, sl⟩]) := by
  unfold Al
  rw [List.map_append, List.map_append, a]
  rfl
theorem unE_filter (p : Nat → Bool) : ∀ tab : List En, (tab.filter fun e => p e.id).map unE = (tab.map unE).filter fun q => p q.1
  | [] => rfl
  | e :: tab => by
    rw [List.map_cons, List.filter_cons, List.filter_cons]
    show _ = if p e.id = true then unE e :: _ else _
    split
    · rw [List.map_cons, unE_filter p tab]
    · exact unE_filter p tab
theorem Al.filter {tab mt : List En} (a : Al tab mt) (p : Nat → Bool) : Al (tab.filter fun e => p e.id) (mt.filter fun e => p e.id) := by
  unfold Al
  rw [unE_filter, unE_filter, a]
theorem tabK_set {mt : List En} {i : Nat} {l : Addr} {sl : List Sl} (h : ∃ e ∈ mt, e.id = i) : putK (tabK mt) (Sum.inl (i : Int)) (V.ref l) = tabK (setM mt i l sl) := by
  unfold putK
  have z : (tabK mt).any (fun kv => decide (kv.1 = (Sum.inl (i : Int) : Key))) = true := by
    obtain ⟨e, he, ei⟩ := h
    refine List.any_eq_true.mpr ⟨(Sum.inl (e.id : Int), V.ref e.at_), List.mem_map.mpr ⟨e, he, rfl⟩, ?_⟩
    rw [ei]
    exact decide_eq_true rfl
  rw [z, if_pos rfl]
  unfold tabK setM
  rw [List.map_map, List.map_map]
  refine List.map_congr_left fun e _ => ?_
  show (if (Sum.inl (e.id : Int) : Key) = Sum.inl (i : Int) then (Sum.inl (e.id : Int), V.ref l) else (Sum.inl (e.id : Int), V.ref e.at_)) = _
  by_cases c : e.id = i
  · show _ = ((Sum.inl (((if e.id = i then (⟨i, l, sl⟩ : En) else e).id : Nat) : Int) : Key), V.ref (if e.id = i then (⟨i, l, sl⟩ : En) else e).at_)
    rw [if_pos c, if_pos (by rw [c]), c]
  · show _ = ((Sum.inl (((if e.id = i then (⟨i, l, sl⟩ : En) else e).id : Nat) : Int) : Key), V.ref (if e.id = i then (⟨i, l, sl⟩ : En) else e).at_)
    rw [if_neg c, if_neg fun z => c (by
      have := Sum.inl.inj z
      omega)]
theorem setM_mem {mt : List En} {i : Nat} {l : Addr} {sl : List Sl} {e : En} (h : e ∈ setM mt i l sl) : e = ⟨i, l, sl⟩ ∨ e ∈ mt := by
  obtain ⟨e0, h0, h1⟩ := List.mem_map.mp h
  split at h1
  · exact .inl h1.symm
  · rw [← h1]
    exact .inr h0
theorem sub_filter {acc L : List Int} (s : acc.Sublist L) (nd : L.Nodup) : L.filter (fun x => decide (x ∈ acc)) = acc := by
  induction s with
  | slnil => rfl
  | @cons l₁ l₂ a s ih =>
    obtain ⟨n1, n2⟩ := List.nodup_cons.mp nd
    rw [List.filter_cons, if_neg (by
      intro z
      exact n1 (s.subset (of_decide_eq_true z)))]
    exact ih n2
  | @cons_cons l₁ l₂ a s ih =>
    obtain ⟨n1, n2⟩ := List.nodup_cons.mp nd
    rw [List.filter_cons, if_pos (decide_eq_true List.mem_cons_self)]
    congr 1
    rw [← ih n2]
    refine List.filter_congr fun x hx => ?_
    rw [ih n2, Bool.eq_iff_iff, decide_eq_true_iff, decide_eq_true_iff, List.mem_cons]
    constructor
    · rintro (rfl | h)
      · exact absurd hx n1
      · exact h
    · exact .inr
def idsI (tab : List En) : List Int := tab.map fun e => (e.id : Int)
theorem idsI_lt {tab : List En} (o : tab.Pairwise fun a b => a.id < b.id) : (idsI tab).Pairwise (· < ·) := by
  unfold idsI
  rw [List.pairwise_map]
  exact o.imp fun h => by omega
theorem idsI_nd {tab : List En} (o : tab.Pairwise fun a b => a.id < b.id) : (idsI tab).Nodup := (idsI_lt o).imp fun h e => by omega
theorem Al.idsI {tab mt : List En} (a : Al tab mt) : idsI mt = idsI tab := by
  have := congrArg (List.map fun n : Nat => (n : Int)) a.ids
  rw [List.map_map, List.map_map] at this
  exact this
theorem sorted_ids {tab : List En} (o : tab.Pairwise fun a b => a.id < b.id) {ys : List Int} (p : ys.Perm (idsI tab)) (s : ys.Pairwise (· ≤ ·)) : ys = idsI tab :=
  List.Perm.eq_of_pairwise (le := (· ≤ ·)) (fun a b _ _ h1 h2 => by omega) s ((idsI_lt o).imp fun h => by omega) p
theorem filter_ids {tab : List En} {acc : List Int} (o : tab.Pairwise fun a b => a.id < b.id) (s : acc.Sublist (idsI tab)) : idsI (tab.filter fun e => decide ((e.id : Int) ∈ acc)) = acc := by
  have e : ∀ t : List En, idsI (t.filter fun e => decide ((e.id : Int) ∈ acc)) = (idsI t).filter fun i => decide (i ∈ acc) := by
    intro t
    induction t with
    | nil => rfl
    | cons a t ih =>
      unfold idsI at ih ⊢
      rw [List.map_cons, List.filter_cons, List.filter_cons]
      split
      · rw [List.map_cons, ih]
      · exact ih
  rw [e, sub_filter s (idsI_nd o)]
theorem tabK_keys (tab : List En) : (tabK tab).map (·.1) = (idsI tab).map Sum.inl := by
  unfold tabK idsI
  rw [List.map_map, List.map_map]
  rfl
theorem _root_.List.Nodup.map_inl {L : List Int} (h : L.Nodup) : (L.map (Sum.inl : Int → Key)).Nodup := List.pairwise_map.mpr (h.imp fun n z => n (Sum.inl.inj z))
theorem tab_has (tab : List En) (i : Int) : (valV (tabK tab) (Sum.inl i : Key)).isSome = decide (i ∈ idsI tab) := by
  induction tab with
  | nil => rfl
  | cons e tab ih =>
    show (valV ((Sum.inl (e.id : Int), V.ref e.at_) :: tabK tab) (Sum.inl i : Key)).isSome = decide (i ∈ (e.id : Int) :: idsI tab)
    by_cases c : (e.id : Int) = i
    · rw [valV_pos (congrArg Sum.inl c)]
      exact (decide_eq_true (by simp [c])).symm
    · rw [valV_neg (fun z => c (Sum.inl.inj z)), ih]
      have c : ¬ i = (e.id : Int) := fun z => c z.symm
      simp [c]
theorem ids_mem {tab : List En} {i : Int} (h : i ∈ idsI tab) : ∃ e ∈ tab, (e.id : Int) = i := List.mem_map.mp h
/-! ### the model's dict -/
def mdK (sd : Addr) (n : Int) : List (Key × V) := [(Sum.inr ("slots" : Str), .ref sd), (Sum.inr ("next" : Str), .int n)]
abbrev kSl : Key := Sum.inr ("slots" : Str)
abbrev kNx : Key := Sum.inr ("next" : Str)
theorem kSN : ¬ kSl = kNx := by decide +kernel
theorem kNS : ¬ kNx = kSl := by decide +kernel
section
variable {sd s2 : Addr} {n m : Int}
theorem md_slots : valV (mdK sd n) kSl = some (.ref sd) := valV_pos rfl
theorem md_next : valV (mdK sd n) kNx = some (.int n) := by
  unfold mdK
  rw [valV_neg kSN, valV_pos rfl]
theorem md_pnext : putK (mdK sd n) kNx (.int m) = mdK sd m := by
  unfold mdK
  rw [putK_cons kSN, putK_first rfl]
theorem md_pslots : putK (mdK sd n) kSl (.ref s2) = mdK s2 n := by
  unfold mdK
  rw [putK_first (by rw [valV_neg kNS]; rfl)]
end
/-- the model at md: its objects mt, its next id nm -/
structure Md (H : Hp) (md sd : Addr) (mt : List En) (nm : Nat) : Prop where
  dic : H md = some (.dK (mdK sd (nm : Int)))
  tbl : H sd = some (.dK (tabK mt))
  ent : ∀ e ∈ mt, ∃ us, H e.at_ = some (.lst us) ∧ TrpR H us e.sl
section
variable {H H' : Hp} {md sd : Addr} {mt : List En} {nm : Nat}
theorem Md.keep (h : Md H md sd mt nm) (h1 : H' md = H md) (h2 : H' sd = H sd) (h3 : ∀ e ∈ mt, H' e.at_ = H e.at_) (k : TK H H') : Md H' md sd mt nm := ⟨h1.trans h.dic, h2.trans h.tbl, fun e he => by
  obtain ⟨us, a, r⟩ := h.ent e he
  exact ⟨us, (h3 e he).trans a, r.keep k⟩⟩
theorem Md.same (h : Md H md sd mt nm) (s : Same H H') : Md H' md sd mt nm := ⟨s _ _ h.dic, s _ _ h.tbl, fun e he => by
  obtain ⟨us, a, r⟩ := h.ent e he
  exact ⟨us, s _ _ a, r.keep fun a xs z => s a _ z⟩⟩
theorem Md.slots (h : Md H md sd mt nm) : DGet H md (.str ("slots" : Str)) (some (.ref sd)) := .inl ⟨_, kSl, .inl h.dic, rfl, md_slots.symm⟩
theorem Md.next (h : Md H md sd mt nm) : DGet H md (.str ("next" : Str)) (some (.int (nm : Int))) := .inl ⟨_, kNx, .inl h.dic, rfl, md_next.symm⟩
theorem Md.get (h : Md H md sd mt nm) (o : mt.Pairwise fun a b => a.id < b.id) {e : En} (he : e ∈ mt) : DGet H sd (.int (e.id : Int)) (some (.ref e.at_)) := .inl ⟨_, Sum.inl (e.id : Int), .inl h.tbl, rfl, (tab_get o he).symm⟩
end
/-- all of it: the draws, the objects, the model; what else stands is B -/
structure Wk (K : PySem.W.Frag) (B H : Hp) (d r p dx tb md sd : Addr) (tab : List En) (nx : Nat) (mt : List En) (nm : Nat) : Prop where
  dr : Draws H d r
  ob : Ob K H p dx tb tab nx
  mo : Md H md sd mt nm
  sl : ∀ e ∈ tab, ∀ s ∈ e.sl, SlD 6 s
  z0 : ∃ e ∈ tab, e.id = 0
  sm : Same B H
  bd : B d = none
  bp : B p = none
  bt : B tb = none
  bm : B md = none
  bs : B sd = none
  ba : ∀ e ∈ tab, B e.at_ = none
  dt : d ≠ tb
  dm : d ≠ md
  ds : d ≠ sd
  tm : tb ≠ md
  ts : tb ≠ sd
  ms : md ≠ sd
  da : ∀ e ∈ tab, d ≠ e.at_
  ma : ∀ e ∈ tab, md ≠ e.at_
  sa : ∀ e ∈ tab, sd ≠ e.at_
section
variable {K : PySem.W.Frag} {B H H' : Hp} {d r p dx tb md sd : Addr} {tab mt : List En} {nx nm : Nat}
theorem Wk.six (w : Wk K B H d r p dx tb md sd tab nx mt nm) {e : En} (he : e ∈ tab) : e.sl.length ≤ 6 := Q.six (w.ob.nds e he) (w.sl e he)
theorem Wk.pd (w : Wk K B H d r p dx tb md sd tab nx mt nm) : p ≠ d := by
  obtain ⟨i, s, ns, h1, _⟩ := w.dr
  exact ne_of w.ob.ins h1 (by intro z; cases z)
theorem Wk.pm (w : Wk K B H d r p dx tb md sd tab nx mt nm) : p ≠ md := ne_of w.ob.ins w.mo.dic (by intro z; cases z)
theorem Wk.ps (w : Wk K B H d r p dx tb md sd tab nx mt nm) : p ≠ sd := ne_of w.ob.ins w.mo.tbl (by intro z; cases z)
theorem Wk.same (w : Wk K B H d r p dx tb md sd tab nx mt nm) (s : Same H H') : Wk K B H' d r p dx tb md sd tab nx mt nm :=
  ⟨w.dr.same s, w.ob.same s, w.mo.same s, w.sl, w.z0, w.sm.trans s, w.bd, w.bp, w.bt, w.bm, w.bs, w.ba, w.dt, w.dm, w.ds, w.tm, w.ts, w.ms, w.da, w.ma, w.sa⟩
theorem Wk.kept (w : Wk K B H d r p dx tb md sd tab nx mt nm) (k : Kept d H H') (D : Draws H' d r) : Wk K B H' d r p dx tb md sd tab nx mt nm := by
  have tk := kept_tk w.dr k
  refine ⟨D, w.ob.keep ?_ ?_ (fun e he => ?_) tk, w.mo.keep ?_ ?_ (fun e he => ?_) tk, w.sl, w.z0, fun b u z => k b u (fun e => ?_) (w.sm b u z), w.bd, w.bp, w.bt, w.bm, w.bs, w.ba, w.dt, w.dm, w.ds, w.tm, w.ts, w.ms, w.da, w.ma, w.sa⟩
  · exact (k _ _ w.pd w.ob.ins).trans w.ob.ins.symm
  · exact (k _ _ (Ne.symm w.dt) w.ob.tbl).trans w.ob.tbl.symm
  · obtain ⟨kvs, g, _⟩ := w.ob.ent e he
    exact (k _ _ (Ne.symm (w.da e he)) g).trans g.symm
  · exact (k _ _ (Ne.symm w.dm) w.mo.dic).trans w.mo.dic.symm
  · exact (k _ _ (Ne.symm w.ds) w.mo.tbl).trans w.mo.tbl.symm
  · obtain ⟨us, g, _⟩ := w.mo.ent e he
    obtain ⟨i, s, ns, h1, _⟩ := w.dr
    exact (k _ _ (ne_of g h1 (by intro z; cases z)) g).trans g.symm
  · rw [e, w.bd] at z
    cases z
theorem Wk.ko {tb' : Addr} {tab' : List En} {nx' : Nat} (w : Wk K B H d r p dx tb md sd tab nx mt nm) (k : KO p tb tab H H') (O : Ob K H' p dx tb' tab' nx') (sl : ∀ e ∈ tab', ∀ s ∈ e.sl, SlD 6 s) (z0 : ∃ e ∈ tab', e.id = 0)
    (ht : tb' = tb ∨ H tb' = none) (he : ∀ e ∈ tab', H e.at_ = none ∨ ∃ f ∈ tab, f.at_ = e.at_) : Wk K B H' d r p dx tb' md sd tab' nx' mt nm := by
  have tk := w.ob.tk k
  obtain ⟨i, s, ns, h1, h2, h3⟩ := id w.dr
  have nB : ∀ a, H a = none → B a = none := fun a h => Same.free w.sm h
  have nd : ∀ a, H a = none → d ≠ a := fun a h => ne_of_none h1 h
  have nm' : ∀ a, H a = none → md ≠ a := fun a h => ne_of_none w.mo.dic h
  have ns' : ∀ a, H a = none → sd ≠ a := fun a h => ne_of_none w.mo.tbl h
  have kd : ∀ b u, b ≠ p → b ≠ tb → (∀ e ∈ tab, b ≠ e.at_) → H b = some u → H' b = some u := k
  refine ⟨⟨i, s, ns, k _ _ (Ne.symm w.pd) w.dt w.da h1, k _ _ (ne_of h2 w.ob.ins (by intro z; cases z)) (ne_of h2 w.ob.tbl (by intro z; cases z)) (fun e he => ?_) h2, h3⟩, O, ?_, sl, z0, fun b u z => ?_, w.bd, w.bp, ?_, w.bm, w.bs, fun e h => ?_, ?_, w.dm, w.ds, ?_, ?_, w.ms, fun e h => ?_, fun e h => ?_, fun e h => ?_⟩
  · obtain ⟨kvs, g, _⟩ := w.ob.ent e he
    exact ne_of h2 g (by intro z; cases z)
  · refine w.mo.keep ?_ ?_ (fun e he => ?_) tk
    · exact (k _ _ (Ne.symm w.pm) (Ne.symm w.tm) w.ma w.mo.dic).trans w.mo.dic.symm
    · exact (k _ _ (Ne.symm w.ps) (Ne.symm w.ts) w.sa w.mo.tbl).trans w.mo.tbl.symm
    · obtain ⟨us, g, _⟩ := w.mo.ent e he
      refine (k _ _ (ne_of g w.ob.ins (by intro z; cases z)) (ne_of g w.ob.tbl (by intro z; cases z)) (fun e2 he2 => ?_) g).trans g.symm
      obtain ⟨kvs, g2, _⟩ := w.ob.ent e2 he2
      exact ne_of g g2 (by intro z; cases z)
  · refine k b u (fun e => ?_) (fun e => ?_) (fun e2 he2 e => ?_) (w.sm b u z)
    · rw [e, w.bp] at z
      cases z
    · rw [e, w.bt] at z
      cases z
    · rw [e, w.ba e2 he2] at z
      cases z
  · rcases ht with rfl | ht
    · exact w.bt
    · exact nB _ ht
  · rcases he e h with q | ⟨f, hf, q⟩
    · exact nB _ q
    · rw [← q]
      exact w.ba f hf
  · rcases ht with rfl | ht
    · exact w.dt
    · exact nd _ ht
  · rcases ht with rfl | ht
    · exact w.tm
    · exact (nm' _ ht).symm
  · rcases ht with rfl | ht
    · exact w.ts
    · exact (ns' _ ht).symm
  · rcases he e h with q | ⟨f, hf, q⟩
    · exact nd _ q
    · rw [← q]
      exact w.da f hf
  · rcases he e h with q | ⟨f, hf, q⟩
    · exact nm' _ q
    · rw [← q]
      exact w.ma f hf
  · rcases he e h with q | ⟨f, hf, q⟩
    · exact ns' _ q
    · rw [← q]
      exact w.sa f hf
theorem tk_dict {a : Addr} {kvs : List (Key × V)} {o : HO} (h : H a = some (.dK kvs)) : TK H (upd H a o) := fun b xs e => by
  rw [upd_ne (ne_of e h (by intro z; cases z))]
  exact e
/-- the model's objects are others now -/
theorem Wk.mset (w : Wk K B H d r p dx tb md sd tab nx mt nm) {mt' : List En} (h : ∀ e ∈ mt', ∃ us, H e.at_ = some (.lst us) ∧ TrpR H us e.sl) : Wk K B (upd H sd (.dK (tabK mt'))) d r p dx tb md sd tab nx mt' nm := by
  have tk : TK H (upd H sd (.dK (tabK mt'))) := tk_dict w.mo.tbl
  obtain ⟨i, s, ns, h1, h2, h3⟩ := id w.dr
  refine ⟨w.dr.other (Ne.symm w.ds) (Ne.symm (ne_of h2 w.mo.tbl (by intro z; cases z))), w.ob.keep (upd_ne w.ps) (upd_ne w.ts) (fun e he => upd_ne (Ne.symm (w.sa e he))) tk, ⟨(upd_ne w.ms).trans w.mo.dic, upd_same, fun e he => ?_⟩, w.sl, w.z0, fun b u z => ?_, w.bd, w.bp, w.bt, w.bm, w.bs, w.ba, w.dt, w.dm, w.ds, w.tm, w.ts, w.ms, w.da, w.ma, w.sa⟩
  · obtain ⟨us, g, q⟩ := h e he
    exact ⟨us, (upd_ne (ne_of g w.mo.tbl (by intro z; cases z))).trans g, q.keep tk⟩
  · rw [upd_ne fun e => by
      rw [e, w.bs] at z
      cases z]
    exact w.sm b u z
/-- the model's dict is written -/
theorem Wk.mdic {sd' : Addr} {mt' : List En} {nm' : Nat} (w : Wk K B H d r p dx tb md sd tab nx mt nm) (hs : H sd' = some (.dK (tabK mt'))) (bs : B sd' = none) (ds : d ≠ sd') (ts : tb ≠ sd') (ms : md ≠ sd') (sa : ∀ e ∈ tab, sd' ≠ e.at_) (h : ∀ e ∈ mt', ∃ us, H e.at_ = some (.lst us) ∧ TrpR H us e.sl) : Wk K B (upd H md (.dK (mdK sd' (nm' : Int)))) d r p dx tb md sd' tab nx mt' nm' := by
  have tk : TK H (upd H md (.dK (mdK sd' (nm' : Int)))) := tk_dict w.mo.dic
  obtain ⟨i, s, ns, h1, h2, h3⟩ := id w.dr
  refine ⟨w.dr.other (Ne.symm w.dm) (Ne.symm (ne_of h2 w.mo.dic (by intro z; cases z))), w.ob.keep (upd_ne w.pm) (upd_ne w.tm) (fun e he => upd_ne (Ne.symm (w.ma e he))) tk, ⟨upd_same, (upd_ne (Ne.symm ms)).trans hs, fun e he => ?_⟩, w.sl, w.z0, fun b u z => ?_, w.bd, w.bp, w.bt, w.bm, bs, w.ba, w.dt, w.dm, ds, w.tm, ts, ms, w.da, w.ma, sa⟩
  · obtain ⟨us, g, q⟩ := h e he
    exact ⟨us, (upd_ne (ne_of g w.mo.dic (by intro z; cases z))).trans g, q.keep tk⟩
  · rw [upd_ne fun e => by
      rw [e, w.bm] at z
      cases z]
    exact w.sm b u z
/-- its next id is another -/
theorem Wk.mnext (w : Wk K B H d r p dx tb md sd tab nx mt nm) (nm' : Nat) : Wk K B (upd H md (.dK (mdK sd (nm' : Int)))) d r p dx tb md sd tab nx mt nm' := w.mdic w.mo.tbl w.bs w.ds w.ts w.ms w.sa w.mo.ent
/-- a list of the def's own is written -/
theorem Wk.lst {u : Addr} {xs ys : List V} (w : Wk K B H d r p dx tb md sd tab nx mt nm) (h : H u = some (.lst xs)) (ur : u ≠ r) (um : ∀ e ∈ mt, u ≠ e.at_) (ub : B u = none) : Wk K B (upd H u (.lst ys)) d r p dx tb md sd tab nx mt nm := by
  obtain ⟨i, s, ns, h1, h2, h3⟩ := id w.dr
  have ud : u ≠ d := ne_of h h1 (by intro z; cases z)
  have tk := tk_put (ys := ys) h
  refine ⟨w.dr.other ud ur, w.ob.keep (upd_ne (ne_of w.ob.ins h (by intro z; cases z))) (upd_ne (ne_of w.ob.tbl h (by intro z; cases z))) (fun e he => ?_) tk, w.mo.keep (upd_ne (ne_of w.mo.dic h (by intro z; cases z))) (upd_ne (ne_of w.mo.tbl h (by intro z; cases z))) (fun e he => upd_ne (Ne.symm (um e he))) tk, w.sl, w.z0, fun b v z => ?_, w.bd, w.bp, w.bt, w.bm, w.bs, w.ba, w.dt, w.dm, w.ds, w.tm, w.ts, w.ms, w.da, w.ma, w.sa⟩
  · obtain ⟨kvs, g, _⟩ := w.ob.ent e he
    exact upd_ne (ne_of g h (by intro z; cases z))
  · rw [upd_ne fun e => by
      rw [e, ub] at z
      cases z]
    exact w.sm b v z
end
end Rm.Q.K21.K20

/-! L20: objects by a model: has, keep, the law's own defs: promises, readings (by gen.py), runs. -/
namespace Rm.Q.K21.K20
open PySem PySem.Spec PyProof.Rows L2
def sp_Objects_has (K : PySem.W.Frag) : Sp := fun vs H Q _ => ∃ (p dx tb : Addr) (tab : List En) (nx : Nat) (i : Int), vs = [.ref p, .int i] ∧ Ob K H p dx tb tab nx ∧ Q (.bl (decide (i ∈ idsI tab))) H
def sp_Objects_keep (K : PySem.W.Frag) : Sp := fun vs H Q _ => ∃ (p dx tb : Addr) (tab : List En) (nx : Nat) (a : Addr) (ks : List Int), vs = [.ref p, .ref a] ∧ Ob K H p dx tb tab nx ∧ H a = some (.lst (ks.map V.int)) ∧ ks.length ≤ 1000 ∧ tab.length ≤ 1000000 ∧
  ∀ tb' H', H tb' = none → KO p tb tab H H' → Ob K H' p dx tb' (tab.filter fun e => decide ((e.id : Int) ∈ ks)) nx → Q .non H'
def sp_l_put (K : PySem.W.Frag) : Sp := fun vs H Q _ => ∃ (l t : Addr) (us : List V) (sl : List Sl) (n : Sl) (v : V), vs = [.ref l, .ref t] ∧ H l = some (.lst us) ∧ TrpR H us sl ∧ NdS sl ∧ H t = some (.tup [.str n.name, .str n.kind, v]) ∧ Tr H v n.val ∧ sl.length ≤ 1000 ∧
  ∀ q H' us', Same H H' → H q = none → H' q = some (.lst us') → TrpR H' us' (putS sl n) → Q (.ref q) H'
def sp_l_parents (K : PySem.W.Frag) : Sp := fun vs H Q _ => ∃ (l : Addr) (us : List V) (sl : List Sl), vs = [.ref l] ∧ H l = some (.lst us) ∧ TrpR H us sl ∧ (∀ s ∈ sl, ValOk s.val) ∧ sl.length ≤ 1000 ∧
  ∀ q H', Same H H' → H' q = some (.tup ((parS sl).map V.int)) → Q (.ref q) H'
def sp_l_alike (K : PySem.W.Frag) : Sp := fun vs H Q _ => ∃ (p dx tb : Addr) (tab : List En) (nx : Nat) (md sd : Addr) (mt : List En), vs = [.ref p, .ref md] ∧ Ob K H p dx tb tab nx ∧ Md H md sd mt nx ∧ Al tab mt ∧ (∀ e ∈ tab, ∀ s ∈ e.sl, SlD 6 s) ∧ tab.length ≤ 63 ∧ nx ≤ 1000 ∧
  ∀ H', Same H H' → Q (.bl true) H'
def sp_l_make (K : PySem.W.Frag) : Sp := fun vs H Q _ => ∃ (B : Hp) (d r p dx tb md sd : Addr) (tab mt : List En) (nx : Nat), vs = [.ref d, .ref p, .ref md] ∧ Wk K B H d r p dx tb md sd tab nx mt nx ∧ Al tab mt ∧ tab.length ≤ 62 ∧
  ∀ H' tab' mt', Wk K B H' d r p dx tb md sd tab' (nx + 1) mt' (nx + 1) → Al tab' mt' → tab'.length = tab.length + 1 → Q (.bl true) H'
def sp_l_keep (K : PySem.W.Frag) : Sp := fun vs H Q _ => ∃ (B : Hp) (d r p dx tb md sd : Addr) (tab mt : List En) (nx : Nat), vs = [.ref d, .ref p, .ref md] ∧ Wk K B H d r p dx tb md sd tab nx mt nx ∧ Al tab mt ∧ tab.length ≤ 62 ∧
  ∀ H' tb' sd' tab' mt', Wk K B H' d r p dx tb' md sd' tab' nx mt' nx → Al tab' mt' → tab'.length ≤ tab.length → Q (.bl true) H'
def sp_l_deed (K : PySem.W.Frag) : Sp := fun vs H Q _ => ∃ (B : Hp) (d r p dx tb md sd : Addr) (tab mt : List En) (nx : Nat), vs = [.ref d, .ref p, .ref md] ∧ Wk K B H d r p dx tb md sd tab nx mt nx ∧ Al tab mt ∧ tab.length ≤ 62 ∧
  ∀ H' tb' sd' tab' mt' nx', Wk K B H' d r p dx tb' md sd' tab' nx' mt' nx' → Al tab' mt' → tab'.length ≤ tab.length + 1 → nx' ≤ nx + 1 → Q (.bl true) H'
def sp_law (K : PySem.W.Frag) : Sp := fun vs H Q _ => ∃ (a : Addr) (ns : List Int), vs = [.ref a] ∧ SqL K H a (ns.map V.int) ∧ ns.length ≤ 63 ∧ ∀ H', Q (.bl true) H'
/-! ### readings -/

def ns_Objects_has : List Str := ["self", "object_id"]
def t_Objects_has (K : PySem.W.Frag) (E : XK) : TS :=
  (tRet (tDIn (tVar 1) (tFld K (tVar 0) ("table" : Str))))

def ns_Objects_keep : List Str := ["self", "ids", "kept", "object_id", "pairs"]
def t_Objects_keep (K : PySem.W.Frag) (P : Program) (w : World) (E : XK) : TS :=
  (tSeq (tAsg (tCB (rSetOfI K P w) (tCons (tVar 1) tNil)) (gName 2))
    (sFld K (tVar 0) (tLockE (tDc (iItems (tFld K (tVar 0) ("table" : Str))) (gTup K 2 (gCons (gName 3) (gCons (gName 4) gNil))) (tTest (tOp (rSInI P w) (tVar 3) (tVar 2))) (tVar 3) (tVar 4) [3, 4])) ("table" : Str)))

def ns_l_put : List Str := ["slots", "slot", "k", "found"]
def t_l_put (K : PySem.W.Frag) (E : XK) : TS :=
  (tSeq (tAsg (tLc (iRng1 (tCons (tCB (rLen K) (tCons (tVar 0) tNil)) tNil)) (gName 2) (tTest (tOp rEq (tOp (rIxT K) (tOp (rIxL K) (tVar 0) (tVar 2)) (tC (.int 0))) (tOp (rIxT K) (tVar 1) (tC (.int 0))))) (tVar 2) [2]) (gName 3))
    (tSeq (tIfS (tTest (tOp rGtI (tCB (rLen K) (tCons (tVar 3) tNil)) (tC (.int 0))))
      (tRet (tOp rCat (tOp rCat (tSl (rSlL K) (tVar 0) oNone (oSome (tOp (rIxL K) (tVar 3) (tC (.int 0))))) (tLst (tCons (tVar 1) tNil))) (tSl (rSlL K) (tVar 0) (oSome (tOp rAddI (tOp (rIxL K) (tVar 3) (tC (.int 0))) (tC (.int 1)))) oNone)))
      tNext)
    (tRet (tOp rCat (tVar 0) (tLst (tCons (tVar 1) tNil))))))

def ns_l_parents : List Str := ["slots", "slot"]
def t_l_parents (K : PySem.W.Frag) (E : XK) : TS :=
  (tRet (tCB (rTupleOf K) (tCons (tLc (iList K (tVar 0)) (gName 1) (tAnd (tTest (tOp (rIn K false) (tOp (rIxT K) (tVar 1) (tC (.int 1))) (tTup (tCons (tC (.str ("parent" : Str))) (tCons (tC (.str ("varparent" : Str))) tNil))))) (tTest (tOp rEq (tOp (rIxT K) (tOp (rIxT K) (tVar 1) (tC (.int 2))) (tC (.int 0))) (tC (.str ("ref" : Str)))))) (tOp (rIxT K) (tOp (rIxT K) (tVar 1) (tC (.int 2))) (tC (.int 1))) [1]) tNil)))

def ns_l_alike : List Str := ["objects", "model", "known", "told", "one", "slots", "name", "due", "slot"]
def t_l_alike (K : PySem.W.Frag) (E : XK) : TS :=
  (tSeq (tAsg (tCB rSortedDI (tCons (tDGet (tVar 1) (tC (.str ("slots" : Str)))) tNil)) (gName 2))
    (tSeq (tAsg (tMeth (He.ga K ("Objects" : Str)) ("ids" : Str) (sp_Objects_ids K) [] E (tVar 0) tNil) (gName 3))
    (tSeq (tIfS (tOr (tTest (tOp (rNeD K) (tVar 3) (tVar 2))) (tNot (tB (tCB (rIsi K) (tCons (tVar 3) (tCons (tC (.ty "list")) tNil))))))
      (tRet (tC (.bl false)))
      tNext)
    (tSeq (tDrop (tBM K "list" rAppend (tVar 3) (tCons (tC (.int 999)) tNil)))
    (tSeq (tIfS (tTest (tOp (rNeD K) (tMeth (He.ga K ("Objects" : Str)) ("image" : Str) (sp_Objects_image K) [] E (tVar 0) tNil) (tCB (rTupleOf K) (tCons (tLc (iList K (tVar 2)) (gName 4) tYes (tTup (tCons (tVar 4) (tCons (tCB (rTupleOf K) (tCons (tDGet (tDGet (tVar 1) (tC (.str ("slots" : Str)))) (tVar 4)) tNil)) tNil))) [4]) tNil))))
      (tRet (tC (.bl false)))
      tNext)
    (tSeq (tFor (iRng1 (tCons (tOp rAddI (tDGet (tVar 1) (tC (.str ("next" : Str)))) (tC (.int 1))) tNil)) (gName 4)
      (tSeq (tAsg (tMeth (He.ga K ("Objects" : Str)) ("has" : Str) (sp_Objects_has K) [] E (tVar 0) (tCons (tVar 4) tNil)) (gName 3))
    (tIfS (tOr (tNot (tB (tCB (rIsi K) (tCons (tVar 3) (tCons (tC (.ty "bool")) tNil))))) (tTest (tOp (rNeD K) (tVar 3) (tOp (rIn K false) (tVar 4) (tVar 2)))))
      (tRet (tC (.bl false)))
      tNext)))
    (tSeq (tFor (iList K (tVar 2)) (gName 4)
      (tSeq (tAsg (tDGet (tDGet (tVar 1) (tC (.str ("slots" : Str)))) (tVar 4)) (gName 5))
    (tSeq (tIfS (tOr (tTest (tOp (rNeD K) (tMeth (He.ga K ("Objects" : Str)) ("slots" : Str) (sp_Objects_slots K) [] E (tVar 0) (tCons (tVar 4) tNil)) (tCB (rTupleOf K) (tCons (tVar 5) tNil)))) (tTest (tOp (rNeD K) (tMeth (He.ga K ("Objects" : Str)) ("parents" : Str) (sp_Objects_parents K) [] E (tVar 0) (tCons (tVar 4) tNil)) (tCall (sp_l_parents K) [] E (tCons (tVar 5) tNil)))))
      (tRet (tC (.bl false)))
      tNext)
    (tFor (iList K (tLst (tMenu (["x", "y", "p", "q", "xx", "lobby", "z"].map mS)))) (gName 6)
      (tSeq (tAsg (tC .non) (gName 7))
    (tSeq (tFor (iList K (tVar 5)) (gName 8)
      (tIfS (tTest (tOp rEq (tOp (rIxT K) (tVar 8) (tC (.int 0))) (tVar 6)))
      (tAsg (tTup (tCons (tOp (rIxT K) (tVar 8) (tC (.int 1))) (tCons (tOp (rIxT K) (tVar 8) (tC (.int 2))) tNil))) (gName 7))
      tNext))
    (tIfS (tTest (tOp (rNeD K) (tMeth (He.ga K ("Objects" : Str)) ("slot" : Str) (sp_Objects_slot K) [] E (tVar 0) (tCons (tVar 4) (tCons (tVar 6) tNil))) (tVar 7)))
      (tRet (tC (.bl false)))
      tNext)))))))
    (tRet (tC (.bl true))))))))))

def ns_l_make : List Str := ["draws", "objects", "model", "k", "triples", "slots", "triple", "made"]
def t_l_make (K : PySem.W.Frag) (E : XK) : TS :=
  (tSeq (tAsg (tLc (iRng1 (tCons (tCall (sp_l_next K) [] E (tCons (tVar 0) (tCons (tC (.int 5)) tNil))) tNil)) (gName 3) tYes (tTup (tCons (tCall (sp_l_name K) [] E0 (tCons (tVar 0) tNil)) (tCons (tCall (sp_l_kind K) [] E0 (tCons (tVar 0) tNil)) (tCons (tCall (sp_l_value K) [] E0 (tCons (tVar 0) (tCons (tC (.int 6)) tNil))) tNil)))) [3]) (gName 4))
    (tSeq (tAsg (tLst tNil) (gName 5))
    (tSeq (tFor (iList K (tVar 4)) (gName 6)
      (tAsg (tCall (sp_l_put K) [] E (tCons (tVar 5) (tCons (tVar 6) tNil))) (gName 5)))
    (tSeq (tAsg (tDGet (tVar 2) (tC (.str ("next" : Str)))) (gName 7))
    (tSeq (sDPut (tDGet (tVar 2) (tC (.str ("slots" : Str)))) (tVar 7) (tVar 5))
    (tSeq (sDPut (tVar 2) (tC (.str ("next" : Str))) (tOp rAddI (tVar 7) (tC (.int 1))))
    (tRet (tOp rEq (tMeth (He.ga K ("Objects" : Str)) ("make" : Str) (sp_Objects_make K) [] E (tVar 1) (tCons (tCB (rTupleOf K) (tCons (tVar 4) tNil)) tNil)) (tVar 7)))))))))

def ns_l_keep : List Str := ["draws", "objects", "model", "one", "kept", "passed"]
def t_l_keep (K : PySem.W.Frag) (E : XK) : TS :=
  (tSeq (tAsg (tLc (iList K (tCB rSortedDI (tCons (tDGet (tVar 2) (tC (.str ("slots" : Str)))) tNil))) (gName 3) (tOr (tTest (tOp rEq (tVar 3) (tC (.int 0)))) (tTest (tOp rGtI (tCall (sp_l_next K) [] E0 (tCons (tVar 0) (tCons (tC (.int 3)) tNil))) (tC (.int 0))))) (tVar 3) [3]) (gName 4))
    (tSeq (tAsg (tCB (rListOf K) (tCons (tVar 4) tNil)) (gName 5))
    (tSeq (tIfS (tOr (tTest (tOp rNotN (tMeth (He.ga K ("Objects" : Str)) ("keep" : Str) (sp_Objects_keep K) [] E (tVar 1) (tCons (tVar 5) tNil)) (tC .non))) (tTest (tOp (rNeD K) (tVar 5) (tVar 4))))
      (tRet (tC (.bl false)))
      tNext)
    (tSeq (tDrop (tBM K "list" rAppend (tVar 5) (tCons (tC (.int 0)) tNil)))
    (tSeq (sDPut (tVar 2) (tC (.str ("slots" : Str))) (tCB (rDictP K) (tCons (tLc (iList K (tVar 4)) (gName 3) tYes (tTup (tCons (tVar 3) (tCons (tDGet (tDGet (tVar 2) (tC (.str ("slots" : Str)))) (tVar 3)) tNil))) [3]) tNil)))
    (tRet (tC (.bl true))))))))

def ns_l_deed : List Str := ["draws", "objects", "model", "pick", "known", "one", "slots", "slot", "name", "told", "value"]
def t_l_deed (K : PySem.W.Frag) (E : XK) : TS :=
  (tSeq (tAsg (tCall (sp_l_next K) [] E (tCons (tVar 0) (tCons (tC (.int 12)) tNil))) (gName 3))
    (tSeq (tAsg (tCB rSortedDI (tCons (tDGet (tVar 2) (tC (.str ("slots" : Str)))) tNil)) (gName 4))
    (tSeq (tAsg (tOp (rIxL K) (tVar 4) (tCall (sp_l_next K) [] E (tCons (tVar 0) (tCons (tCB (rLen K) (tCons (tVar 4) tNil)) tNil)))) (gName 5))
    (tSeq (tAsg (tDGet (tDGet (tVar 2) (tC (.str ("slots" : Str)))) (tVar 5)) (gName 6))
    (tSeq (tIfS (tTest (tOp rLtI (tVar 3) (tC (.int 3))))
      (tRet (tCall (sp_l_make K) [] E (tCons (tVar 0) (tCons (tVar 1) (tCons (tVar 2) tNil)))))
      tNext)
    (tSeq (tIfS (tTest (tOp rLtI (tVar 3) (tC (.int 7))))
      (tSeq (tAsg (tTup (tCons (tCall (sp_l_name K) [] E (tCons (tVar 0) tNil)) (tCons (tCall (sp_l_kind K) [] E (tCons (tVar 0) tNil)) (tCons (tCall (sp_l_value K) [] E (tCons (tVar 0) (tCons (tC (.int 6)) tNil))) tNil)))) (gName 7))
    (tSeq (sDPut (tDGet (tVar 2) (tC (.str ("slots" : Str)))) (tVar 5) (tCall (sp_l_put K) [] E (tCons (tVar 6) (tCons (tVar 7) tNil))))
    (tRet (tOp rIsN (tMeth (He.ga K ("Objects" : Str)) ("put" : Str) (sp_Objects_put K) [] E (tVar 1) (tCons (tVar 5) (tCons (tOp (rIxT K) (tVar 7) (tC (.int 0))) (tCons (tOp (rIxT K) (tVar 7) (tC (.int 1))) (tCons (tOp (rIxT K) (tVar 7) (tC (.int 2))) tNil))))) (tC .non)))))
      tNext)
    (tSeq (tIfS (tTest (tOp rLtI (tVar 3) (tC (.int 9))))
      (tSeq (tAsg (tCall (sp_l_name K) [] E (tCons (tVar 0) tNil)) (gName 8))
    (tSeq (sDPut (tDGet (tVar 2) (tC (.str ("slots" : Str)))) (tVar 5) (tLc (iList K (tVar 6)) (gName 7) (tTest (tOp rNe (tOp (rIxT K) (tVar 7) (tC (.int 0))) (tVar 8))) (tVar 7) [7]))
    (tSeq (tAsg (tMeth (He.ga K ("Objects" : Str)) ("drop" : Str) (sp_Objects_drop K) [] E (tVar 1) (tCons (tVar 5) (tCons (tVar 8) tNil))) (gName 9))
    (tRet (tAndV (tCB (rIsi K) (tCons (tVar 9) (tCons (tC (.ty "bool")) tNil))) (tOp rEq (tVar 9) (tOp rLtI (tCB (rLen K) (tCons (tDGet (tDGet (tVar 2) (tC (.str ("slots" : Str)))) (tVar 5)) tNil)) (tCB (rLen K) (tCons (tVar 6) tNil)))))))))
      tNext)
    (tSeq (tIfS (tTest (tOp rLtI (tVar 3) (tC (.int 11))))
      (tSeq (tIfS (tTest (tOp rGtI (tCB (rLen K) (tCons (tVar 6) tNil)) (tC (.int 0))))
      (tSeq (tAsg (tOp (rIxL K) (tVar 6) (tCall (sp_l_next K) [] E (tCons (tVar 0) (tCons (tCB (rLen K) (tCons (tVar 6) tNil)) tNil)))) (gName 7))
    (tSeq (tAsg (tCall (sp_l_value K) [] E (tCons (tVar 0) (tCons (tC (.int 6)) tNil))) (gName 10))
    (tSeq (sDPut (tDGet (tVar 2) (tC (.str ("slots" : Str)))) (tVar 5) (tCall (sp_l_put K) [] E (tCons (tVar 6) (tCons (tTup (tCons (tOp (rIxT K) (tVar 7) (tC (.int 0))) (tCons (tOp (rIxT K) (tVar 7) (tC (.int 1))) (tCons (tVar 10) tNil)))) tNil))))
    (tRet (tOp rIsN (tMeth (He.ga K ("Objects" : Str)) ("assign" : Str) (sp_Objects_assign K) [] E (tVar 1) (tCons (tVar 5) (tCons (tOp (rIxT K) (tVar 7) (tC (.int 0))) (tCons (tVar 10) tNil)))) (tC .non))))))
      tNext)
    (tRet (tC (.bl true))))
      tNext)
    (tRet (tCall (sp_l_keep K) [] E (tCons (tVar 0) (tCons (tVar 1) (tCons (tVar 2) tNil)))))))))))))

def ns_law : List Str := ["script", "draws", "objects", "other", "model", "k"]
def t_law (K : PySem.W.Frag) (E : XK) : TS :=
  (tSeq (tAsg (tCall (sp_l_reader K) [] E (tCons (tVar 0) tNil)) (gName 1))
    (tSeq (tAsg (tMake (He.ga K ("Objects" : Str)) (sp_Objects_init K) [] E tNil) (gName 2))
    (tSeq (tAsg (tMake (He.ga K ("Objects" : Str)) (sp_Objects_init K) [] E tNil) (gName 3))
    (tSeq (tAsg (tDisp [((tC (.str ("slots" : Str))), (tDisp [((tC (.int 0)), (tLst (tCons (tTup (tCons (tC (.str ("lobby" : Str))) (tCons (tC (.str ("const" : Str))) (tCons (tTup (tCons (tC (.str ("ref" : Str))) (tCons (tC (.int 0)) tNil))) tNil)))) tNil)))])), ((tC (.str ("next" : Str))), (tC (.int 1)))]) (gName 4))
    (tSeq (tIfS (tOr (tTest (tOp (rNeD K) (tC (.ref (He.ga K ("KINDS" : Str)))) (tTup (tMenu (["const", "var", "parent", "varparent", "method"].map mS))))) (tNot (tB (tCall (sp_l_alike K) [] E (tCons (tVar 2) (tCons (tVar 4) tNil))))))
      (tRet (tC (.bl false)))
      tNext)
    (tSeq (tFor (iRng1 (tCons (tOp rAddI (tC (.int 20)) (tCall (sp_l_next K) [] E (tCons (tVar 1) (tCons (tC (.int 41)) tNil)))) tNil)) (gName 5)
      (tIfS (tOr (tNot (tB (tCall (sp_l_deed K) [] E (tCons (tVar 1) (tCons (tVar 2) (tCons (tVar 4) tNil)))))) (tNot (tB (tCall (sp_l_alike K) [] E (tCons (tVar 2) (tCons (tVar 4) tNil))))))
      (tRet (tC (.bl false)))
      tNext))
    (tRet (tOp (rEqD K) (tMeth (He.ga K ("Objects" : Str)) ("image" : Str) (sp_Objects_image K) [] E (tVar 3) tNil) (tTup (tCons (tTup (tCons (tC (.int 0)) (tCons (tTup (tCons (tTup (tCons (tC (.str ("lobby" : Str))) (tCons (tC (.str ("const" : Str))) (tCons (tTup (tCons (tC (.str ("ref" : Str))) (tCons (tC (.int 0)) tNil))) tNil)))) tNil)) tNil))) tNil))))))))))

section
variable {K : PySem.W.Frag} {vs : List V} {H : Hp} {Q : VK} {E : XK}
theorem run_Objects_has (S : ObC K) (h : sp_Objects_has K vs H Q E) : t_Objects_has K E (DQ Q) (start ns_Objects_has vs) H := by
  obtain ⟨p, dx, tb, tab, nx, i, rfl, O, q⟩ := h
  refine ⟨_, rfl, _, rfl, p, _, dx, _, _, rfl, O.ins, S.cl, S.nt, obF_t, tb, _, rfl, DGet.k (k := Sum.inl i) O.tbl, ?_⟩
  rw [tab_has]
  exact q
theorem obF_tab {tb D : Addr} {i : Int} : putF ("table" : Str) (.ref D) (obF tb i) = obF D i := by
  unfold obF
  rw [pf_eq]
theorem filter_snoc {α : Type} (p : α → Bool) {l : List α} {i : Nat} {a : α} (h : l[i]? = some a) : (l.take (i + 1)).filter p = (l.take i).filter p ++ (if p a = true then [a] else []) := by
  rw [take_snoc h, List.filter_append, List.filter_cons]
  split <;> rfl
theorem run_Objects_keep {P : Program} {w : World} (S : ObC K) (h : sp_Objects_keep K vs H Q E) : t_Objects_keep K P w E (DQ Q) (start ns_Objects_keep vs) H := by
  obtain ⟨p, dx, tb, tab, nx, a, ks, rfl, O, ha, hk, ht, q⟩ := h
  refine ⟨_, rfl, a, ks, rfl, SqL.of ha, hk, fun sa f n nsa hf => ?_⟩
  have s1 := same_upd (o := SetI P w sa f n) nsa
  have O1 := O.same s1
  have gs : (upd H sa (SetI P w sa f n)) sa = some (SetI P w sa f n) := upd_same
  refine ⟨tb, .dK (tabK tab), O1.tbl, trivial, fun od => ?_⟩
  have ntp : tb ≠ p := ne_of O1.tbl O1.ins (by intro z; cases z)
  have nst : sa ≠ tb := ne_of gs O1.tbl (by intro z; cases z)
  have insF : (upd (upd H sa (SetI P w sa f n)) tb (.frz od (.dK (tabK tab)))) p = _ := (upd_ne (Ne.symm ntp)).trans O1.ins
  have fF : (upd (upd H sa (SetI P w sa f n)) tb (.frz od (.dK (tabK tab)))) tb = some (.frz od (.dK (tabK tab))) := upd_same
  have sF : (upd (upd H sa (SetI P w sa f n)) tb (.frz od (.dK (tabK tab)))) sa = _ := (upd_ne nst).trans gs
  have oth : ∀ b u, b ≠ tb → H b = some u → (upd (upd H sa (SetI P w sa f n)) tb (.frz od (.dK (tabK tab)))) b = some u := fun b u n z => (upd_ne n).trans (s1 b u z)
  refine ⟨_, rfl, p, _, dx, _, _, rfl, insF, S.cl, S.nt, obF_t, tb, od, tabK tab, rfl, fF, fun D nD => ?_⟩
  generalize upd (upd H sa (SetI P w sa f n)) tb (.frz od (.dK (tabK tab))) = F at insF fF sF oth nD ⊢
  have nDt : D ≠ tb := fun z => by
    rw [z, fF] at nD
    cases nD
  have nDp : D ≠ p := fun z => by
    rw [z, insF] at nD
    cases nD
  have lk : (tabK tab).length = tab.length := List.length_map _
  have noD : H D = none := by
    cases z : H D with
    | none => rfl
    | some u =>
      rw [oth D u nDt z] at nD
      cases nD
  refine dc_it walk_items (fun i G => Same F G ∧ G D = some (.dK (tabK ((tab.take i).filter fun e => decide ((e.id : Int) ∈ ks))))) ⟨same_upd nD, upd_same⟩ (fun i G _ z => z.1 _ _ fF) ?_ ?_
  · rintro i x G G' hi ⟨sm, gD⟩ ⟨T, y1, y2, rfl, nT, rfl, h1, h2⟩
    rw [lk] at hi
    dsimp only at h1 h2
    have hkv : (tabK tab)[i]? = some (Sum.inl ((tab[i]).id : Int), V.ref (tab[i]).at_) := by
      unfold tabK
      rw [List.getElem?_map, List.getElem?_eq_getElem hi]
      rfl
    rw [hkv] at h1 h2
    cases h1
    cases h2
    have he : tab[i]? = some tab[i] := List.getElem?_eq_getElem hi
    have sT := same_upd (o := .tup [kV (Sum.inl ((tab[i]).id : Int)), V.ref (tab[i]).at_]) nT
    have smT := sm.trans sT
    refine ⟨T, _, rfl, SqT.of upd_same, rfl, _, _, rfl, _, _, rfl, rfl, rfl, ?_⟩
    refine ⟨_, rfl, _, rfl, _, sa, f, n, rfl, rfl, smT _ _ sF, _, rfl, ?_⟩
    rw [hf]
    rw [filter_snoc (fun e : En => decide ((e.id : Int) ∈ ks)) he]
    by_cases c : ((tab[i]).id : Int) ∈ ks
    · rw [decide_eq_true c, if_pos rfl]
      refine iteT ?_
      have gD2 := sT _ _ gD
      have new : putK (tabK ((tab.take i).filter fun e => decide ((e.id : Int) ∈ ks))) (Sum.inl ((tab[i]).id : Int)) (V.ref (tab[i]).at_) = tabK ((tab.take i).filter (fun e => decide ((e.id : Int) ∈ ks)) ++ [tab[i]]) := by
        rw [putK_new _ (tab_none fun e he2 => ?_)]
        · unfold tabK
          rw [List.map_append]
          rfl
        · have m := (List.mem_filter.mp he2).1
          obtain ⟨j, hj, ej⟩ := List.getElem_of_mem m
          rw [List.length_take] at hj
          rw [List.getElem_take] at ej
          have := List.pairwise_iff_getElem.mp O.ord j i (by omega) hi (by omega)
          rw [ej] at this
          omega
      refine ⟨_, rfl, _, rfl, _, Sum.inl ((tab[i]).id : Int), rfl, gD2, Nat.lt_of_le_of_lt (show (tabK ((tab.take i).filter fun e => decide ((e.id : Int) ∈ ks))).length ≤ 1000000 by
        unfold tabK
        rw [List.length_map]
        have := List.length_filter_le (fun e : En => decide ((e.id : Int) ∈ ks)) (tab.take i)
        have := List.length_take_le i tab
        omega) (by decide), fun b u z => ?_, by rw [upd_same, new]⟩
      rw [upd_ne (ne_of_none z nD)]
      exact smT b u z
    · rw [decide_eq_false c]
      refine iteF ⟨smT, ?_⟩
      rw [if_neg (by intro z; cases z), List.append_nil]
      exact sT _ _ gD
  · rintro G ⟨sm, gD⟩
    rw [lk, List.take_length] at gD
    refine ⟨sm _ _ fF, ?_⟩
    have gp : (upd G tb (.dK (tabK tab))) p = some (.ins (OC K) dx (obF tb (nx : Int))) := (upd_ne (Ne.symm ntp)).trans (sm _ _ insF)
    refine ⟨_, rfl, p, _, dx, _, rfl, gp, S.cl, S.nt, (by show 2 < 1000; decide), ?_⟩
    rw [obF_tab]
    have ko : KO p tb tab H (upd (upd G tb (.dK (tabK tab))) p (.ins (OC K) dx (obF D (nx : Int)))) := fun b u n1 n2 n3 z => by
      rw [upd_ne n1, upd_ne n2]
      exact sm b u (oth b u n2 z)
    have tk := O.tk ko
    refine q D _ noD ko ⟨upd_same, ?_, fun e he => ?_, ?_, fun e he => ?_, O.ord.sublist List.filter_sublist, fun e he => O.lt e (List.mem_filter.mp he).1, fun e he => O.nds e (List.mem_filter.mp he).1, fun e he => O.val e (List.mem_filter.mp he).1⟩
    · rw [upd_ne nDp, upd_ne nDt]
      exact gD
    · have he := (List.mem_filter.mp he).1
      obtain ⟨kvs, g, rr⟩ := O.ent e he
      refine ⟨kvs, ?_, rr.keep tk⟩
      rw [upd_ne (ne_of g O.ins (by intro z; cases z)), upd_ne (O.tbn e he)]
      exact sm _ _ (oth _ _ (O.tbn e he) g)
    · exact List.Nodup.sublist (List.Sublist.map _ List.filter_sublist) O.nda
    · have he := (List.mem_filter.mp he).1
      obtain ⟨kvs, g, rr⟩ := O.ent e he
      exact ne_of_none g noD
theorem run_l_put (h : sp_l_put K vs H Q E) : t_l_put K E (DQ Q) (start ns_l_put vs) H := by
  obtain ⟨l, t, us, sl, n, v, rfl, hl, tr, nd, ht, tv, len, q⟩ := h
  have lu := tr.len
  refine ⟨_, rfl, _, _, rfl, .inl ⟨_, SqL.of hl, rfl⟩, _, rfl, by omega, by omega, fun D nD => ?_⟩
  rw [Int.toNat_natCast]
  refine lc_range (lo := 0) (n := us.length) (fun k G => ∃ acc : List Nat, Same H G ∧ G D = some (.lst (acc.map fun j : Nat => V.int (j : Int))) ∧ acc.length ≤ k ∧ (∀ j ∈ acc, ∃ s, sl[j]? = some s ∧ s.name = n.name) ∧ (acc = [] → ∀ s ∈ sl.take k, s.name ≠ n.name)) ⟨[], same_upd nD, upd_same, Nat.le_refl _, (fun j hj => by cases hj), fun _ s hs => by simp at hs⟩ ?_ ?_
  · rintro k G hk ⟨acc, sm, gD, la, hj, he⟩
    obtain ⟨x, hx⟩ : ∃ x, us[k]? = some x := ⟨us[k], List.getElem?_eq_getElem hk⟩
    obtain ⟨s, ta, vv, es, rfl, hta, ttv⟩ := tr.at_ k hx
    rw [rangeI]
    refine ⟨rfl, ?_⟩
    refine ⟨_, rfl, _, rfl, l, _, _, _, rfl, rfl, SqL.of (sm _ _ hl), atI_nat hx, ta, _, _, _, rfl, rfl, SqT.of (sm _ _ hta), atI_nat (j := 0) rfl, _, rfl, t, _, _, _, rfl, rfl, SqT.of (sm _ _ ht), atI_nat (j := 0) rfl, rfl, _, rfl, ?_⟩
    by_cases c : s.name = n.name
    · rw [decide_eq_true (congrArg V.str c)]
      refine iteT ⟨_, rfl, _, gD, Nat.lt_of_le_of_lt (show (acc.map fun j : Nat => V.int (j : Int)).length ≤ 1000 by rw [List.length_map]; omega) (by decide), acc ++ [k], fun b u z => ?_, by rw [upd_same, List.map_append]; rfl, by rw [List.length_append, List.length_singleton]; omega, fun j hj2 => ?_, fun z => by simp at z⟩
      · rw [upd_ne (ne_of_none z nD)]
        exact sm b u z
      · rcases List.mem_append.mp hj2 with hj2 | hj2
        · exact hj j hj2
        · rw [List.mem_singleton.mp hj2]
          exact ⟨s, es, c⟩
    · rw [decide_eq_false fun z => c (V.str.inj z)]
      refine iteF ⟨acc, sm, gD, by omega, hj, fun z s2 hs2 => ?_⟩
      rw [take_snoc es] at hs2
      rcases List.mem_append.mp hs2 with hs2 | hs2
      · exact he z s2 hs2
      · rw [List.mem_singleton.mp hs2]
        exact c
  · rintro G ⟨acc, sm, gD, la, hj, he⟩
    rw [lu, List.take_length] at he
    have hlG := sm _ _ hl
    refine ⟨_, rfl, _, _, rfl, .inl ⟨_, SqL.of gD, rfl⟩, _, _, rfl, rfl, _, rfl, ?_⟩
    cases acc with
    | nil =>
      refine ite2 (fun c => absurd (of_decide_eq_true c) (by show ¬ (0 : Int) < ((0 : Nat) : Int); decide)) (fun _ => ?_)
      refine ⟨_, rfl, _, rfl, (by show 1 ≤ sizeLine; decide), fun u nu => ?_⟩
      have s1 := same_upd (o := .lst [V.ref t]) nu
      refine ⟨l, u, _, _, rfl, rfl, s1 _ _ hlG, upd_same, Nat.le_trans (show us.length + 1 ≤ 2000 by omega) (by decide), fun b nb => ?_⟩
      have s2 := same_upd (o := .lst (us ++ [V.ref t])) nb
      have sA := (sm.trans s1).trans s2
      refine q b _ _ sA (Same.free (sm.trans s1) nb) upd_same ?_
      rw [put_none (he rfl)]
      have tkA : TK H (upd (upd G u (.lst [V.ref t])) b (.lst (us ++ [V.ref t]))) := fun a xs z => sA a _ z
      exact TrpR.snoc (tkA _ _ ht) (tv.keep tkA) (tr.keep tkA)
    | cons j r =>
      refine ite2 (fun _ => ?_) (fun c => absurd (decide_eq_true (by rw [List.length_map, List.length_cons]; omega)) c)
      obtain ⟨s, es, en⟩ := hj j List.mem_cons_self
      have hjl : j < sl.length := (List.getElem?_eq_some_iff.mp es).1
      have ej : (j : Int) + 1 = ((j + 1 : Nat) : Int) := by omega
      refine ⟨_, rfl, _, rfl, D, _, _, _, rfl, rfl, SqL.of gD, atI_nat (j := 0) rfl, _, rfl, l, us, rfl, SqL.of hlG, fun b1 n1 => ?_⟩
      rw [cut_take]
      have s1 := same_upd (o := .lst (us.take j)) n1
      refine ⟨_, rfl, (by show 1 ≤ sizeLine; decide), fun u nu => ?_⟩
      have s2 := same_upd (o := .lst [V.ref t]) nu
      have lt1 := List.length_take_le j us
      refine ⟨b1, u, _, _, rfl, rfl, s2 _ _ upd_same, upd_same, Nat.le_trans (show (us.take j).length + 1 ≤ 2000 by omega) (by decide), fun b2 n2 => ?_⟩
      have s3 := same_upd (o := .lst (us.take j ++ [V.ref t])) n2
      have s123 := (s1.trans s2).trans s3
      refine ⟨_, rfl, _, rfl, D, _, _, _, rfl, rfl, SqL.of (s123 _ _ gD), atI_nat (j := 0) rfl, _, _, rfl, rfl, _, rfl, l, us, rfl, SqL.of (s123 _ _ hlG), fun b3 n3 => ?_⟩
      rw [ej, cut_drop]
      have s4 := same_upd (o := .lst (us.drop (j + 1))) n3
      have ld : (us.drop (j + 1)).length ≤ us.length := by rw [List.length_drop]; omega
      refine ⟨b2, b3, _, _, rfl, rfl, s4 _ _ upd_same, upd_same, Nat.le_trans (show (us.take j ++ [V.ref t]).length + (us.drop (j + 1)).length ≤ 4000 by rw [List.length_append, List.length_singleton]; omega) (by decide), fun b4 n4 => ?_⟩
      have s5 := same_upd (o := .lst ((us.take j ++ [V.ref t]) ++ us.drop (j + 1))) n4
      have sB := (s123.trans s4)
      have sA := sm.trans (sB.trans s5)
      have tkA : TK H _ := fun a xs z => sA a _ z
      exact q b4 _ _ sA (Same.free (sm.trans sB) n4) upd_same (TrpR.put nd (tr.keep tkA) (tkA _ _ ht) (tv.keep tkA) es en)
theorem run_l_parents (h : sp_l_parents K vs H Q E) : t_l_parents K E (DQ Q) (start ns_l_parents vs) H := by
  obtain ⟨l, us, sl, rfl, hl, tr, vok, len, q⟩ := h
  have lu := tr.len
  refine ⟨_, rfl, l, rfl, ⟨_, SqL.of hl⟩, fun D nD => ?_⟩
  refine lc_list (xs := us) (fun i G => Same H G ∧ G D = some (.lst ((parS (sl.take i)).map V.int))) ⟨same_upd nD, upd_same⟩ (fun i G _ z => SqL.of (z.1 _ _ hl)) ?_ ?_
  · rintro i x G hx ⟨sm, gD⟩
    obtain ⟨s, ta, v, es, rfl, hta, tv⟩ := tr.at_ i hx
    have hi : i < sl.length := (List.getElem?_eq_some_iff.mp es).1
    have et : sl.take (i + 1) = sl.take i ++ [s] := take_snoc es
    have keep : ∀ G', Same G G' → parOf s = none → Same H G' ∧ G' D = some (.lst ((parS (sl.take (i + 1))).map V.int)) := fun G' s2 z => ⟨sm.trans s2, by
      rw [et, parS_snoc, z, s2 _ _ gD]
      simp⟩
    refine ⟨rfl, ?_⟩
    refine ⟨_, rfl, ta, _, _, _, rfl, rfl, SqT.of (sm _ _ hta), atI_nat (j := 1) rfl, (by show 2 ≤ sizeLine; decide), fun tq ntq => ?_⟩
    have s1 := same_upd (o := .tup [V.str ("parent" : Str), V.str ("varparent" : Str)]) ntq
    have s01 := sm.trans s1
    refine ⟨tq, _, rfl, .inr (SqT.of upd_same), rfl, rfl, _, rfl, ?_⟩
    show (if inV (.str s.kind) (["parent", "varparent"].map mS) = true then _ else _)
    rw [in_kinds]
    refine ite2 (fun c => ?_) (fun c => ?_)
    · obtain ⟨w, rs, ev, hw⟩ := vok s (List.mem_of_getElem? es)
      rw [ev] at tv
      cases tv with
      | @tup a xs ds hva rt =>
        cases rt with
        | @cons v0 vs0 d0 ds0 t0 rt =>
          cases t0
          refine ⟨_, rfl, ta, _, _, _, rfl, rfl, SqT.of (s01 _ _ hta), atI_nat (j := 2) rfl, a, _, _, _, rfl, rfl, SqT.of (s01 _ _ hva), atI_nat (j := 0) rfl, rfl, _, rfl, ?_⟩
          by_cases cw : w = ("ref" : Str)
          · rw [decide_eq_true (congrArg V.str cw)]
            refine iteT ?_
            obtain ⟨j, r', er⟩ := hw cw
            subst er
            cases rt with
            | @cons v1 vs1 d1 ds1 t1 rt =>
              cases t1
              have ep : parOf s = some j := by
                unfold parOf
                rw [if_pos c, ev]
                show (if w = ("ref" : Str) then some j else none) = _
                rw [if_pos cw]
              refine ⟨_, rfl, ta, _, _, _, rfl, rfl, SqT.of (s01 _ _ hta), atI_nat (j := 2) rfl, a, _, _, _, rfl, rfl, SqT.of (s01 _ _ hva), atI_nat (j := 1) rfl, _, s1 _ _ gD, ?_, fun b u z => ?_, ?_⟩
              · rw [List.length_map]
                exact Nat.lt_of_le_of_lt (Nat.le_trans (parS_len _) (Nat.le_trans (List.length_take_le _ _) (show i ≤ 1000 by omega))) (by decide)
              · rw [upd_ne (ne_of_none z nD)]
                exact s01 b u z
              · rw [upd_same, et, parS_snoc, ep, List.map_append]
                rfl
          · rw [decide_eq_false fun z => cw (V.str.inj z)]
            have ep : parOf s = none := by
              unfold parOf
              rw [if_pos c, ev]
              unfold refOf
              split
              · rename_i w2 j2 r2 e2
                injection e2 with e2
                injection e2 with e2 e3
                injection e2 with e2
                subst e2
                rw [if_neg cw]
              · rfl
            exact iteF (keep _ s1 ep)
    · have ep : parOf s = none := by
        unfold parOf
        rw [if_neg c]
      exact keep _ s1 ep
  · rintro G ⟨sm, gD⟩
    rw [lu, List.take_length] at gD
    refine ⟨D, _, rfl, .inl ⟨SqL.of gD, fun r nr => ?_⟩⟩
    exact q r _ (sm.trans (same_upd nr)) upd_same
/-! ### shapes -/
theorem trD_lay {s : Sl} (sd : SlD 6 s) : PyData.canLay0 (trD s) = true ∧ PyData.depth (trD s) ≤ 2 := by
  obtain ⟨t, ht, en⟩ := sd.nm
  have o1 : PyData.strOk s.name = true := by
    rw [en]
    exact str_ok t (List.mem_append_left _ ht)
  have o2 := sd.kd
  have v1 := sd.vl.lay
  have v2 := sd.vl.dep
  unfold trD
  refine ⟨by simp [PyData.canLay0, PyData.canLayAll0, o1, o2, v1], ?_⟩
  simp only [PyData.depth, PyData.depthAll]
  omega
theorem slsD_lay {sl : List Sl} (h : ∀ s ∈ sl, SlD 6 s) : PyData.canLay0 (slsD sl) = true ∧ PyData.depth (slsD sl) ≤ 3 := by
  obtain ⟨b1, b2⟩ := map_lay trD 2 sl fun s hs => trD_lay (h s hs)
  unfold slsD
  refine ⟨by simp [PyData.canLay0, b1], ?_⟩
  simp only [PyData.depth]
  omega
theorem slsD_sh {sl : List Sl} (h : ∀ s ∈ sl, SlD 6 s) : SeqAt.shaped (slsD sl) = true := shaped_small (slsD_lay h).1 (Nat.le_trans (slsD_lay h).2 (by decide))
theorem imgD_sh {tab : List En} (h : ∀ e ∈ tab, ∀ s ∈ e.sl, SlD 6 s) : SeqAt.shaped (imgD tab) = true := by
  obtain ⟨a1, a2⟩ := map_lay entD 5 tab fun e he => by
    obtain ⟨b1, b2⟩ := slsD_lay (h e he)
    unfold entD
    refine ⟨by simp [PyData.canLay0, PyData.canLayAll0, b1], ?_⟩
    simp only [PyData.depth, PyData.depthAll]
    omega
  unfold imgD
  refine shaped_small (by simp [PyData.canLay0, a1]) ?_
  simp only [PyData.depth]
  omega
theorem ints_sh (L : List Int) : SeqAt.shaped (.list (L.map PyData.int)) = true ∧ SeqAt.shaped (.tuple (L.map PyData.int)) = true := by
  obtain ⟨a, b⟩ := ints_lay L
  exact ⟨shaped_small (by simp [PyData.canLay0, a]) (by simp only [PyData.depth, b]; omega), shaped_small (by simp [PyData.canLay0, a]) (by simp only [PyData.depth, b]; omega)⟩
theorem bool_sh (b : Bool) : SeqAt.shaped (.bool b) = true := by cases b <;> decide +kernel
def slotD : Option Sl → PyData
  | some s => .tuple [.str s.kind, s.val]
  | none => .none
theorem slotD_sh {o : Option Sl} (h : ∀ s, o = some s → SlD 6 s) : SeqAt.shaped (slotD o) = true := by
  cases o with
  | none => decide +kernel
  | some s =>
    have sd := h s rfl
    have v1 := sd.vl.lay
    have v2 := sd.vl.dep
    have v3 := sd.kd
    refine shaped_small (by simp [slotD, PyData.canLay0, PyData.canLayAll0, v1, v3]) ?_
    simp only [slotD, PyData.depth, PyData.depthAll]
    omega
theorem dp_ints (L : List Int) : DpAll K H (L.map V.int) (L.map PyData.int) := by
  induction L with
  | nil => exact .nil
  | cons i L ih => exact .cons (.int i) ih
theorem getS_take {sl : List Sl} (nd : NdS sl) {i : Nat} {s : Sl} (h : sl[i]? = some s) (x : Str) : getS (sl.take (i + 1)) x = if s.name = x then some s else getS (sl.take i) x := by
  rw [take_snoc h, getS_snoc]
  by_cases c : s.name = x
  · rw [if_pos c, if_pos c]
    cases z : getS (sl.take i) x with
    | none => rfl
    | some t =>
      obtain ⟨m, e⟩ := getS_mem z
      have hm := List.mem_of_mem_take m
      have a := getS_at nd hm
      have b := getS_at nd (List.mem_of_getElem? h)
      rw [e] at a
      rw [c] at b
      rw [a] at b
      show some t = _
      exact b
  · rw [if_neg c, if_neg c]
    cases getS (sl.take i) x <;> rfl
theorem run_l_alike (h : sp_l_alike K vs H Q E) : t_l_alike K E (DQ Q) (start ns_l_alike vs) H := by
  obtain ⟨p, dx, tb, tab, nx, md, sd, mt, rfl, O, M, al, hs, h63, hnx, q⟩ := h
  have lm := al.len
  have om := al.ord O.ord
  have six : ∀ e ∈ tab, e.sl.length ≤ 6 := fun e he => Rm.Q.six (O.nds e he) (hs e he)
  have sx : ∀ e ∈ tab, e.sl.length ≤ 1000000 := fun e he => Nat.le_trans (six e he) (by decide)
  have li : (idsI tab).length = tab.length := List.length_map _
  refine ⟨_, rfl, md, _, rfl, M.slots, sd, tabK mt, idsI mt, rfl, .inl M.tbl, tabK_keys mt, by rw [al.idsI, li]; omega, fun ys k pm so nk => ?_⟩
  have ey : ys = idsI tab := by
    rw [← al.idsI]
    exact sorted_ids om pm so
  subst ey
  have s1 := same_upd (o := .lst ((idsI tab).map V.int)) nk
  have gk1 : (upd H k (.lst ((idsI tab).map V.int))) k = some (.lst ((idsI tab).map V.int)) := upd_same
  generalize upd H k (.lst ((idsI tab).map V.int)) = H1 at s1 gk1 ⊢
  have O1 := O.same s1
  refine ⟨_, rfl, p, dx, _, rfl, O1.ins, obF_no (by decide +kernel) (by decide +kernel), ?_⟩
  refine ⟨p, dx, tb, tab, nx, rfl, O1, fun q1 H2 s2 n1 g1 => ?_⟩
  have e1 : (tab.map fun e => V.int (e.id : Int)) = (idsI tab).map V.int := by
    unfold idsI
    rw [List.map_map]
    rfl
  rw [e1] at g1
  obtain ⟨sh1, _⟩ := ints_sh (idsI tab)
  refine ⟨_, rfl, _, rfl, _, _, .lst (SqL.of g1) (dp_ints _), .lst (SqL.of (s2 _ _ gk1)) (dp_ints _), sh1, sh1, _, rfl, ?_⟩
  refine same_no sh1 ?_
  refine ⟨_, rfl, _, _, .type "list", .type "list", true, rfl, .ty _, .base (.lst g1), by rfl, _, rfl, ?_⟩
  refine iteF ?_
  refine ⟨_, rfl, .inl ⟨rfl, _, SqL.of g1⟩, q1, _, _, rfl, rfl, g1, Nat.lt_of_le_of_lt (show ((idsI tab).map V.int).length ≤ 100 by rw [List.length_map]; omega) (by decide), ?_⟩
  have s3 : Same H1 (upd H2 q1 (.lst ((idsI tab).map V.int ++ [V.int 999]))) := fun b u z => by
    rw [upd_ne (ne_of_none z n1)]
    exact s2 b u z
  generalize upd H2 q1 (.lst ((idsI tab).map V.int ++ [V.int 999])) = H3 at s3 ⊢
  have s13 := s1.trans s3
  have gk3 := s3 _ _ gk1
  have O3 := O.same s13
  -- image
  refine ⟨_, rfl, p, dx, _, rfl, O3.ins, obF_no (by decide +kernel) (by decide +kernel), ?_⟩
  refine ⟨p, dx, tb, tab, nx, rfl, O3, sx, by omega, fun qi H4 s4 t4 => ?_⟩
  have s14 := s13.trans s4
  have gk4 := s4 _ _ gk3
  refine ⟨_, rfl, k, rfl, ⟨_, SqL.of gk4⟩, fun D nD => ?_⟩
  refine lc_list (xs := (idsI tab).map V.int) (fun i G => ∃ vs : List V, Same H4 G ∧ G D = some (.lst vs) ∧ Trs G vs ((tab.take i).map entD) ∧ vs.length = i) ⟨[], same_upd nD, upd_same, .nil, rfl⟩ (fun i G _ z => by
    obtain ⟨vs, s, _⟩ := z
    exact SqL.of (s _ _ gk4)) ?_ ?_
  · rintro i x G hx ⟨vs, s, gD, tr, lv⟩
    unfold idsI at hx
    rw [List.map_map, List.getElem?_map] at hx
    obtain ⟨e, es, rfl⟩ := Option.map_eq_some_iff.mp hx
    obtain ⟨f, fs, fid, fsl⟩ := al.at_ es
    have hf := List.mem_of_getElem? fs
    have hi : i < tab.length := (List.getElem?_eq_some_iff.mp es).1
    have M5 := M.same (s14.trans s)
    have gf := M5.get om hf
    rw [fid] at gf
    obtain ⟨us, gu, ru⟩ := M5.ent f hf
    refine ⟨rfl, ?_⟩
    refine ⟨_, rfl, _, rfl, md, _, rfl, M5.slots, _, rfl, sd, _, rfl, gf, f.at_, us, rfl, .inl ⟨SqL.of gu, fun l nl => ⟨(by show 2 ≤ sizeLine; decide), fun q2 n2 => ?_⟩⟩⟩
    have sl := same_upd (o := .tup us) nl
    have s5 := same_upd (o := .tup [V.int (e.id : Int), V.ref l]) n2
    have s25 := sl.trans s5
    have g3 := s25 _ _ gD
    have tk2 := tk_put (ys := vs ++ [V.ref q2]) g3
    refine ⟨_, g3, Nat.lt_of_le_of_lt (show vs.length ≤ 1000 by omega) (by decide), vs ++ [.ref q2], fun b u z => ?_, upd_same, ?_, by rw [List.length_append, lv]; rfl⟩
    · rw [upd_ne (ne_of_none z nD)]
      exact s25 b u (s b u z)
    · rw [take_snoc es, List.map_append]
      refine Trs.snoc (.tup (tk2 _ _ upd_same) (.cons (.int _) (.cons (.tup (tk2 _ _ (s5 _ _ upd_same)) ?_) .nil))) ((tr.keep fun a xs z => s25 a _ z).keep tk2)
      rw [← fsl]
      exact ((TrpR.trs ru).keep fun a xs z => s25 a _ z).keep tk2
  rintro G ⟨vs, s, gD, tr, lv⟩
  rw [List.length_map, li, List.take_length] at tr
  refine ⟨D, vs, rfl, .inl ⟨SqL.of gD, fun l nl => ?_⟩⟩
  have s5 := same_upd (o := .tup vs) nl
  have ish := imgD_sh hs
  have ti : Tr (upd G l (.tup vs)) (.ref l) (imgD tab) := .tup upd_same (tr.keep fun a xs z => s5 a _ z)
  refine ⟨_, _, (t4.keep fun a xs z => s5 a _ (s a _ z)).dp, ti.dp, ish, ish, _, rfl, ?_⟩
  refine same_no ish ?_
  have s15 := (s14.trans s).trans s5
  have gk5 := s5 _ _ (s _ _ gk4)
  have M5 := M.same s15
  generalize upd G l (.tup vs) = H5 at s15 gk5 M5 ⊢
  clear ti t4 tr gD
  -- has
  refine ⟨_, rfl, md, _, rfl, M5.next, _, _, rfl, rfl, (nx : Int) + 1, rfl, by omega, by omega, ?_⟩
  have en : ((nx : Int) + 1).toNat = nx + 1 := by omega
  rw [en]
  refine for_range (lo := 0) (n := nx + 1) (fun i σ G => (∃ v3 v4 v5 v6 v7 v8 : Option V, σ = [some (.ref p), some (.ref md), some (.ref k), v3, v4, v5, v6, v7, v8]) ∧ Same H5 G) ⟨⟨_, _, _, _, _, _, rfl⟩, fun _ _ z => z⟩ ?_ ?_
  · rintro i σ G hi ⟨⟨v3, v4, v5, v6, v7, v8, rfl⟩, sG⟩
    have O6 := O.same (s15.trans sG)
    refine ⟨_, rfl, p, dx, _, rfl, O6.ins, obF_no (by decide +kernel) (by decide +kernel), _, rfl, ?_⟩
    refine ⟨p, dx, tb, tab, nx, _, rfl, O6, ?_⟩
    refine ⟨_, rfl, _, _, .type "bool", .type "bool", true, rfl, .ty _, .base (.bl _), by rfl, _, rfl, ?_⟩
    refine iteF ?_
    refine ⟨_, rfl, _, rfl, _, rfl, k, _, rfl, .inl (SqL.of (sG _ _ gk5)), rfl, flat_ints _, ?_⟩
    show rNeD K (.bl _) (.bl (inV _ ((idsI tab).map V.int))) _ _
    rw [in_ints]
    have bs := bool_sh (decide ((0 : Int) + (i : Int) ∈ idsI tab))
    exact ⟨_, _, .bl _, .bl _, bs, bs, _, rfl, same_no bs ⟨⟨_, _, _, _, _, _, rfl⟩, sG⟩⟩
  rintro σ G ⟨⟨v3, v4, v5, v6, v7, v8, rfl⟩, sG⟩
  have s16 := s15.trans sG
  have gk6 := sG _ _ gk5
  clear M5
  refine ⟨_, rfl, k, rfl, ⟨_, SqL.of gk6⟩, ?_⟩
  refine for_list (xs := (idsI tab).map V.int) (fun i σ G2 => (∃ v3 v4 v5 v6 v7 v8 : Option V, σ = [some (.ref p), some (.ref md), some (.ref k), v3, v4, v5, v6, v7, v8]) ∧ Same G G2) ⟨⟨_, _, _, _, _, _, rfl⟩, fun _ _ z => z⟩ (fun i σ G2 _ z => SqL.of (z.2 _ _ gk6)) ?_ ?_
  · rintro i x σ G2 hx ⟨⟨v3, v4, v5, v6, v7, v8, rfl⟩, s7⟩
    unfold idsI at hx
    rw [List.map_map, List.getElem?_map] at hx
    obtain ⟨e, es, rfl⟩ := Option.map_eq_some_iff.mp hx
    have he := List.mem_of_getElem? es
    obtain ⟨f, fs, fid, fsl⟩ := al.at_ es
    have hf := List.mem_of_getElem? fs
    have s17 := s16.trans s7
    have O7 := O.same s17
    have M7 := M.same s17
    have gf := M7.get om hf
    rw [fid] at gf
    obtain ⟨us, gu, ru⟩ := M7.ent f hf
    rw [fsl] at ru
    have lu := ru.len
    have lsix := six e he
    refine ⟨_, rfl, md, _, rfl, M7.slots, _, rfl, sd, _, rfl, gf, ?_⟩
    -- slots
    refine ⟨_, rfl, p, dx, _, rfl, O7.ins, obF_no (by decide +kernel) (by decide +kernel), _, rfl, ?_⟩
    refine ⟨p, dx, tb, tab, nx, e, rfl, O7, he, sx e he, fun qs G3 s8 t8 => ?_⟩
    refine ⟨_, rfl, f.at_, us, rfl, .inl ⟨SqL.of (s8 _ _ gu), fun l2 nl2 => ?_⟩⟩
    have s9 := same_upd (o := .tup us) nl2
    have ssh := slsD_sh (hs e he)
    have tl : Tr (upd G3 l2 (.tup us)) (.ref l2) (slsD e.sl) := .tup upd_same ((TrpR.trs ru).keep fun a xs z => s9 a _ (s8 a _ z))
    refine ⟨_, _, (t8.keep fun a xs z => s9 a _ z).dp, tl.dp, ssh, ssh, _, rfl, ?_⟩
    refine same_no ssh ?_
    have s89 := s8.trans s9
    generalize upd G3 l2 (.tup us) = G4 at s89 ⊢
    clear tl t8
    -- parents
    have O8 := O7.same s89
    refine ⟨_, rfl, p, dx, _, rfl, O8.ins, obF_no (by decide +kernel) (by decide +kernel), _, rfl, ?_⟩
    refine ⟨p, dx, tb, tab, nx, e, rfl, O8, he, sx e he, fun qp G5 s10 n10 g10 => ?_⟩
    have s8x := s89.trans s10
    refine ⟨_, rfl, f.at_, us, e.sl, rfl, s8x _ _ gu, ru.keep (fun a xs z => s8x a _ z), (fun s hs2 => (hs e he s hs2).vl.ok), by omega, fun qq G6 s11 g11 => ?_⟩
    obtain ⟨_, psh⟩ := ints_sh (parS e.sl)
    refine ⟨_, _, .tup (SqT.of (s11 _ _ g10)) (dp_ints _), .tup (SqT.of g11) (dp_ints _), psh, psh, _, rfl, ?_⟩
    refine same_no psh ?_
    have s8y := s8x.trans s11
    clear g10 g11
    -- each name
    refine ⟨(by show 7 ≤ sizeLine; decide), fun ln nln => ?_⟩
    have s12 := same_upd (o := .lst (["x", "y", "p", "q", "xx", "lobby", "z"].map mS)) nln
    have gn : (upd G6 ln (.lst (["x", "y", "p", "q", "xx", "lobby", "z"].map mS))) ln = some (.lst (["x", "y", "p", "q", "xx", "lobby", "z"].map mS)) := upd_same
    refine ⟨ln, rfl, ⟨_, SqL.of gn⟩, ?_⟩
    have s8z := s8y.trans s12
    generalize upd G6 ln (.lst (["x", "y", "p", "q", "xx", "lobby", "z"].map mS)) = G7 at s8z gn ⊢
    refine for_list (xs := ["x", "y", "p", "q", "xx", "lobby", "z"].map mS) (fun j σ G8 => (∃ v6 v7 v8 : Option V, σ = [some (.ref p), some (.ref md), some (.ref k), v3, some (.int (e.id : Int)), some (.ref f.at_), v6, v7, v8]) ∧ Same G7 G8) ⟨⟨_, _, _, rfl⟩, fun _ _ z => z⟩ (fun j σ G8 _ z => SqL.of (z.2 _ _ gn)) ?_ ?_
    · rintro j y σ G8 hy ⟨⟨v6, v7, v8, rfl⟩, s20⟩
      rw [List.getElem?_map] at hy
      obtain ⟨nm, _, rfl⟩ := Option.map_eq_some_iff.mp hy
      have sA := s8z.trans s20
      have gu8 := sA _ _ gu
      have ru8 := ru.keep fun a xs z => sA a _ z
      refine ⟨_, rfl, f.at_, rfl, ⟨_, SqL.of gu8⟩, ?_⟩
      refine for_list (xs := us) (fun m σ G9 => (∃ (v : V) (v8 : Option V), σ = [some (.ref p), some (.ref md), some (.ref k), v3, some (.int (e.id : Int)), some (.ref f.at_), some (mS nm), some v, v8] ∧ Tr G9 v (slotD (getS (e.sl.take m) (Str.ofString nm)))) ∧ Same G8 G9) ⟨⟨_, _, rfl, .non⟩, fun _ _ z => z⟩ (fun m σ G9 _ z => SqL.of (z.2 _ _ gu8)) ?_ ?_
      · rintro m y σ G9 hy ⟨⟨v, v8, rfl, tv⟩, s21⟩
        obtain ⟨s, ta, vv, es2, rfl, hta, ttv⟩ := ru8.at_ m hy
        have gs := getS_take (O.nds e he) es2 (Str.ofString nm)
        rw [gs]
        refine ⟨_, rfl, ta, _, _, _, rfl, rfl, SqT.of (s21 _ _ hta), atI_nat (j := 0) rfl, _, rfl, rfl, _, rfl, ?_⟩
        by_cases c : s.name = Str.ofString nm
        · rw [decide_eq_true (congrArg V.str c), if_pos c]
          refine iteT ?_
          refine ⟨_, rfl, ta, _, _, _, rfl, rfl, SqT.of (s21 _ _ hta), atI_nat (j := 1) rfl, _, rfl, ta, _, _, _, rfl, rfl, SqT.of (s21 _ _ hta), atI_nat (j := 2) rfl, (by show 2 ≤ sizeLine; decide), fun qt nt => ?_⟩
          have s22 := same_upd (o := .tup [V.str s.kind, vv]) nt
          exact ⟨⟨_, _, rfl, .tup upd_same (.cons (.str _) (.cons (ttv.keep fun a xs z => s22 a _ (s21 a _ z)) .nil))⟩, s21.trans s22⟩
        · rw [decide_eq_false fun z => c (V.str.inj z), if_neg c]
          exact iteF ⟨⟨_, _, rfl, tv⟩, s21⟩
      · rintro σ G9 ⟨⟨v, v8, rfl, tv⟩, s21⟩
        rw [lu, List.take_length] at tv
        have O9 := O7.same (sA.trans s21)
        have dsh : SeqAt.shaped (slotD (getS e.sl (Str.ofString nm))) = true := slotD_sh fun s z => hs e he s (getS_mem z).1
        refine ⟨_, rfl, p, dx, _, rfl, O9.ins, obF_no (by decide +kernel) (by decide +kernel), _, rfl, _, rfl, ?_⟩
        refine ⟨p, dx, tb, tab, nx, e, Str.ofString nm, rfl, O9, he, fun g => ?_, fun s qa v2 g hq tv2 => ?_⟩
        · rw [g] at tv dsh
          exact ⟨_, rfl, _, _, .non, tv.dp, dsh, dsh, _, rfl, same_no dsh ⟨⟨_, _, _, rfl⟩, s20.trans s21⟩⟩
        · rw [g] at tv dsh
          have t2 : Tr G9 (.ref qa) (slotD (some s)) := .tup hq (.cons (.str _) (.cons tv2 .nil))
          exact ⟨_, rfl, _, _, t2.dp, tv.dp, dsh, dsh, _, rfl, same_no dsh ⟨⟨_, _, _, rfl⟩, s20.trans s21⟩⟩
    · rintro σ G8 ⟨⟨v6, v7, v8, rfl⟩, s20⟩
      exact ⟨⟨_, _, _, _, _, _, rfl⟩, (s7.trans s8z).trans s20⟩
  · rintro σ G2 ⟨⟨v3, v4, v5, v6, v7, v8, rfl⟩, s7⟩
    exact q G2 (s16.trans s7)
theorem mk_six {ts : List Sl} (h : ∀ s ∈ ts, SlD 6 s) : (mkS ts).length ≤ 6 := Rm.Q.six (mkS_nd ts) fun s hs => h s (mkS_mem hs)
theorem Wk.mlt {B : Hp} {d r p dx tb md sd : Addr} {tab mt : List En} {nx nm : Nat} (w : Wk K B H d r p dx tb md sd tab nx mt nm) (al : Al tab mt) : ∀ e ∈ mt, e.id < nx := fun e he => by
  have : e.id ∈ tab.map (·.id) := by
    rw [← al.ids]
    exact List.mem_map.mpr ⟨e, he, rfl⟩
  obtain ⟨f, hf, z⟩ := List.mem_map.mp this
  rw [← z]
  exact w.ob.lt f hf
theorem Wk.newm {B : Hp} {d r p dx tb md sd a : Addr} {tab mt : List En} {nx nm : Nat} (w : Wk K B H d r p dx tb md sd tab nx mt nm) (n : H a = none) : a ≠ r ∧ (∀ e ∈ mt, a ≠ e.at_) ∧ B a = none ∧ a ≠ d := ⟨Ne.symm (w.dr.neR n), fun e he => by
  obtain ⟨us, g, _⟩ := w.mo.ent e he
  exact (ne_of_none g n).symm, Same.free w.sm n, Ne.symm (w.dr.neD n)⟩
theorem run_l_make (h : sp_l_make K vs H Q E) : t_l_make K E (DQ Q) (start ns_l_make vs) H := by
  obtain ⟨B, d, r, p, dx, tb, md, sd, tab, mt, nx, rfl, W, al, h62, q⟩ := h
  refine ⟨_, rfl, d, 5, rfl, by decide, r, W.dr, fun c Hb c0 c1 Db Mb => ⟨c, rfl, by omega, by omega, fun D nD => ?_⟩⟩
  obtain ⟨c, rfl⟩ := int_nat c0
  rw [Int.toNat_natCast]
  have W0 := W.kept (Kept.of_moved Mb) Db
  obtain ⟨Dr, Dm, DB, Dd⟩ := W0.newm nD
  refine lc_range (lo := 0) (n := c) (fun k G => ∃ (us : List V) (ts : List Sl), Wk K B G d r p dx tb md sd tab nx mt nx ∧ G D = some (.lst us) ∧ TrpR G us ts ∧ (∀ s ∈ ts, SlD 6 s) ∧ ts.length = k) ⟨[], [], W0.same (same_upd nD), upd_same, .nil, (fun s hs => by cases hs), rfl⟩ ?_ ?_
  · rintro k G hk ⟨us, ts, W4, gu, tr, hts, lk⟩
    refine ⟨rfl, ?_⟩
    refine ⟨_, rfl, d, rfl, r, W4.dr, fun s1 Ha Ka Da hs1 => ?_⟩
    refine ⟨_, rfl, d, rfl, r, Da, fun s2 Hb Kb Db hs2 => ?_⟩
    refine ⟨_, rfl, d, 6, rfl, by decide, r, Db, fun v D0 Hc Kc Dc tv vd => ?_⟩
    refine ⟨(by show 3 ≤ sizeLine; decide), fun t nt => ?_⟩
    have Kabc := (Ka.trans Kb).trans Kc
    have W5 := W4.kept Kabc Dc
    have gu5 := Kabc _ _ Dd gu
    have s6 := same_upd (o := .tup [mS s1, mS s2, v]) nt
    have W6 := W5.same s6
    have gu6 := s6 _ _ gu5
    have tkc := kept_tk W4.dr Kabc
    have tl := tk_put (ys := us ++ [V.ref t]) gu6
    refine ⟨_, gu6, Nat.lt_of_le_of_lt (show us.length ≤ 10 by rw [tr.len]; omega) (by decide), us ++ [.ref t], ts ++ [⟨Str.ofString s1, Str.ofString s2, D0⟩], W6.lst gu6 Dr Dm DB, upd_same, ?_, fun s hs => ?_, by rw [List.length_append, List.length_singleton, lk]⟩
    · exact TrpR.snoc (tl _ _ upd_same) ((tv.keep fun a xs z => s6 a _ z).keep tl) (((tr.keep tkc).keep fun a xs z => s6 a _ z).keep tl)
    · rcases List.mem_append.mp hs with hs | hs
      · exact hts s hs
      · rw [List.mem_singleton.mp hs]
        exact sl_d hs1 hs2 vd
  · rintro G ⟨us, ts, W4, gu, tr, hts, lk⟩
    refine ⟨(by show 0 ≤ sizeLine; decide), fun u nu => ?_⟩
    have s1 := same_upd (o := .lst []) nu
    have gD1 := s1 _ _ gu
    have W5 := W4.same s1
    have tr5 := tr.keep fun a xs z => s1 a _ z
    have gu1 : (upd G u (.lst [])) u = some (.lst []) := upd_same
    generalize upd G u (.lst []) = G1 at s1 gD1 W5 tr5 gu1 ⊢
    refine ⟨_, rfl, D, rfl, ⟨_, SqL.of gD1⟩, ?_⟩
    refine for_list (xs := us) (fun i σ G2 => ∃ (l : Addr) (us' : List V) (v3 v6 v7 : Option V), σ = [some (.ref d), some (.ref p), some (.ref md), v3, some (.ref D), some (.ref l), v6, v7] ∧ Same G1 G2 ∧ G2 l = some (.lst us') ∧ TrpR G2 us' (mkS (ts.take i))) ⟨u, [], _, _, _, rfl, fun _ _ z => z, gu1, .nil⟩ (fun i σ G2 _ z => by
      obtain ⟨_, _, _, _, _, _, s, _⟩ := z
      exact SqL.of (s _ _ gD1)) ?_ ?_
    · rintro i x σ G2 hx ⟨l, us', v3, v6, v7, rfl, s2, gl, tl⟩
      obtain ⟨s, t, v, es, rfl, ht, tv⟩ := tr5.at_ i hx
      have hm := mk_six (ts := ts.take i) fun s hs => hts s (List.mem_of_mem_take hs)
      refine ⟨_, rfl, _, rfl, l, t, us', mkS (ts.take i), s, v, rfl, gl, tl, mkS_nd _, s2 _ _ ht, tv.keep (fun a xs z => s2 a _ z), by omega, fun q3 H3 us3 s3 n3 g3 r3 => ?_⟩
      refine ⟨q3, us3, _, _, _, rfl, s2.trans s3, g3, ?_⟩
      rw [take_snoc es, mkS_snoc]
      exact r3
    · rintro σ G2 ⟨l, us', v3, v6, v7, rfl, s2, gl, tl⟩
      rw [tr5.len, List.take_length] at tl
      have W6 := W5.same s2
      have gD2 := s2 _ _ gD1
      have tr6 := tr5.keep fun a xs z => s2 a _ z
      refine ⟨_, rfl, md, _, rfl, W6.mo.next, ?_⟩
      have lm := al.len
      -- its slots
      refine ⟨_, rfl, _, rfl, md, _, rfl, W6.mo.slots, _, rfl, sd, _, rfl, DPut.k (k := Sum.inl (nx : Int)) W6.mo.tbl (Nat.lt_of_le_of_lt (show (tabK mt).length ≤ 100 by unfold tabK; rw [List.length_map]; omega) (by decide)), ?_⟩
      have ne : ∀ e ∈ mt, (e.id : Int) ≠ (nx : Int) := fun e he z => by
        have := W6.mlt al e he
        omega
      have eK : putK (tabK mt) (Sum.inl (nx : Int)) (V.ref l) = tabK (mt ++ [⟨nx, l, mkS ts⟩]) := by
        rw [putK_new _ (tab_none ne)]
        unfold tabK
        rw [List.map_append]
        rfl
      rw [eK]
      have W7 := W6.mset (mt' := mt ++ [⟨nx, l, mkS ts⟩]) fun e he => by
        rcases List.mem_append.mp he with he | he
        · exact W6.mo.ent e he
        · rw [List.mem_singleton.mp he]
          exact ⟨us', gl, tl⟩
      have tk7 : TK G2 (upd G2 sd (.dK (tabK (mt ++ [⟨nx, l, mkS ts⟩])))) := tk_dict W6.mo.tbl
      have gD3 : (upd G2 sd (.dK (tabK (mt ++ [⟨nx, l, mkS ts⟩])))) D = some (.lst us) := (upd_ne (ne_of gD2 W6.mo.tbl (by intro z; cases z))).trans gD2
      have tr7 := tr6.keep tk7
      generalize upd G2 sd (.dK (tabK (mt ++ [⟨nx, l, mkS ts⟩]))) = G3 at W7 tk7 gD3 tr7 ⊢
      refine ⟨_, rfl, _, _, rfl, rfl, _, rfl, md, _, rfl, DPut.k (k := kNx) W7.mo.dic (by show 2 < sizeLine; decide), ?_⟩
      rw [md_pnext]
      have en : (nx : Int) + 1 = ((nx + 1 : Nat) : Int) := by omega
      rw [en]
      have W8 := W7.mnext (nx + 1)
      have tk8 : TK G3 (upd G3 md (.dK (mdK sd ((nx + 1 : Nat) : Int)))) := tk_dict W7.mo.dic
      have gD4 : (upd G3 md (.dK (mdK sd ((nx + 1 : Nat) : Int)))) D = some (.lst us) := (upd_ne (ne_of gD3 W7.mo.dic (by intro z; cases z))).trans gD3
      have tr8 := tr7.keep tk8
      generalize upd G3 md (.dK (mdK sd ((nx + 1 : Nat) : Int))) = G4 at W8 tk8 gD4 tr8 ⊢
      refine ⟨_, rfl, p, dx, _, rfl, W8.ob.ins, obF_no (by decide +kernel) (by decide +kernel), _, rfl, D, us, rfl, .inl ⟨SqL.of gD4, fun l2 nl2 => ?_⟩⟩
      have s9 := same_upd (o := .tup us) nl2
      have W9 := W8.same s9
      refine ⟨p, dx, tb, tab, nx, l2, us, ts, rfl, W9.ob, upd_same, tr8.keep (fun a xs z => s9 a _ z), (fun s hs => (hts s hs).vl.ok), by omega, by omega, fun o H9 no ko O9 => ?_⟩
      refine ⟨_, rfl, rfl, ?_⟩
      rw [decide_eq_true (show V.int (nx : Int) = V.int (nx : Int) from rfl)]
      refine q H9 _ _ (W9.ko ko O9 (fun e he => ?_) ?_ (.inl rfl) fun e he => ?_) (al.add nx o l (mkS ts)) (by rw [List.length_append]; rfl)
      · rcases List.mem_append.mp he with he | he
        · exact W9.sl e he
        · rw [List.mem_singleton.mp he]
          exact fun s hs => hts s (mkS_mem hs)
      · obtain ⟨e, he, z⟩ := W9.z0
        exact ⟨e, List.mem_append_left _ he, z⟩
      · rcases List.mem_append.mp he with he | he
        · exact .inr ⟨e, he, rfl⟩
        · rw [List.mem_singleton.mp he]
          exact .inl no
theorem ko_lst {p dx tb : Addr} {tab : List En} {nx : Nat} {H' : Hp} {a : Addr} {xs : List V} (O : Ob K H p dx tb tab nx) (k : KO p tb tab H H') (h : H a = some (.lst xs)) : H' a = some (.lst xs) := by
  refine k a _ (ne_of h O.ins (by intro z; cases z)) (ne_of h O.tbl (by intro z; cases z)) (fun e he => ?_) h
  obtain ⟨kvs, g, _⟩ := O.ent e he
  exact ne_of h g (by intro z; cases z)
theorem run_l_keep (h : sp_l_keep K vs H Q E) : t_l_keep K E (DQ Q) (start ns_l_keep vs) H := by
  obtain ⟨B, d, r, p, dx, tb, md, sd, tab, mt, nx, rfl, W, al, h62, q⟩ := h
  have lm := al.len
  have om := al.ord W.ob.ord
  have li : (idsI tab).length = tab.length := List.length_map _
  refine ⟨_, rfl, md, _, rfl, W.mo.slots, sd, tabK mt, idsI mt, rfl, .inl W.mo.tbl, tabK_keys mt, by rw [al.idsI, li]; omega, fun ys k pm so nk => ?_⟩
  have ey : ys = idsI tab := by
    rw [← al.idsI]
    exact sorted_ids om pm so
  subst ey
  have W1 := W.same (same_upd (o := .lst ((idsI tab).map V.int)) nk)
  obtain ⟨kr, km, kB, kd⟩ := W.newm nk
  have gk1 : (upd H k (.lst ((idsI tab).map V.int))) k = some (.lst ((idsI tab).map V.int)) := upd_same
  generalize upd H k (.lst ((idsI tab).map V.int)) = H1 at W1 gk1 ⊢
  refine ⟨k, rfl, ⟨_, SqL.of gk1⟩, fun D nD => ?_⟩
  obtain ⟨Dr, Dm, DB, Dd⟩ := W1.newm nD
  have kD : k ≠ D := ne_of_none gk1 nD
  refine lc_list (xs := (idsI tab).map V.int) (fun i G => ∃ acc : List Int, Wk K B G d r p dx tb md sd tab nx mt nx ∧ G k = some (.lst ((idsI tab).map V.int)) ∧ G D = some (.lst (acc.map V.int)) ∧ acc.Sublist ((idsI tab).take i) ∧ (0 ∈ (idsI tab).take i → 0 ∈ acc)) ⟨[], W1.same (same_upd nD), (upd_ne kD).trans gk1, upd_same, List.nil_sublist _, fun z => by simp at z⟩ (fun i G _ z => by
    obtain ⟨acc, _, g, _⟩ := z
    exact SqL.of g) ?_ ?_
  · rintro i x G hx ⟨acc, WG, gk, gD, su, z0⟩
    rw [List.getElem?_map] at hx
    obtain ⟨j, hj, rfl⟩ := Option.map_eq_some_iff.mp hx
    have et := take_snoc hj
    have la : acc.length ≤ 100 := by
      have := su.length_le
      have := List.length_take_le' i (idsI tab)
      omega
    have add : ∀ G', Wk K B G' d r p dx tb md sd tab nx mt nx → G' k = some (.lst ((idsI tab).map V.int)) → G' D = some (.lst (acc.map V.int)) → ∃ acc_1 : List V, G' D = some (.lst acc_1) ∧ acc_1.length < sizeLine ∧ ∃ acc : List Int, Wk K B (upd G' D (.lst (acc_1 ++ [V.int j]))) d r p dx tb md sd tab nx mt nx ∧ (upd G' D (.lst (acc_1 ++ [V.int j]))) k = some (.lst ((idsI tab).map V.int)) ∧ (upd G' D (.lst (acc_1 ++ [V.int j]))) D = some (.lst (acc.map V.int)) ∧ acc.Sublist ((idsI tab).take (i + 1)) ∧ (0 ∈ (idsI tab).take (i + 1) → 0 ∈ acc) := fun G' W' g1 g2 => by
      refine ⟨_, g2, Nat.lt_of_le_of_lt (show (acc.map V.int).length ≤ 100 by rw [List.length_map]; exact la) (by decide), acc ++ [j], W'.lst g2 Dr Dm DB, (upd_ne kD).trans g1, by rw [upd_same, ints_cons], ?_, fun z => ?_⟩
      · rw [et]
        exact su.append (List.Sublist.refl _)
      · rw [et] at z
        rcases List.mem_append.mp z with z | z
        · exact List.mem_append_left _ (z0 z)
        · exact List.mem_append_right _ z
    refine ⟨rfl, ?_⟩
    refine ⟨_, rfl, rfl, _, rfl, ?_⟩
    by_cases c : j = 0
    · rw [decide_eq_true (congrArg V.int c)]
      refine iteT (iteT ?_)
      exact ⟨_, rfl, add G WG gk gD⟩
    · rw [decide_eq_false fun z => c (V.int.inj z)]
      refine iteF ?_
      refine ⟨_, rfl, d, 3, rfl, by decide, r, WG.dr, fun y G2 y0 y1 D2 M2 => ?_⟩
      have W2 := WG.kept (Kept.of_moved M2) D2
      have gk2 := (M2 k kd).trans gk
      have gD2 := (M2 D Dd).trans gD
      refine ⟨_, _, rfl, rfl, _, rfl, ite2 (fun _ => ?_) (fun _ => ?_)⟩
      · exact ⟨_, rfl, add G2 W2 gk2 gD2⟩
      · refine ⟨acc, W2, gk2, gD2, ?_, fun z => ?_⟩
        · rw [et]
          exact su.trans (List.sublist_append_left _ _)
        · rw [et] at z
          rcases List.mem_append.mp z with z | z
          · exact z0 z
          · exact absurd (List.mem_singleton.mp z).symm c
  · rintro G ⟨acc, WG, gk, gD, su, z0⟩
    rw [List.length_map, List.take_length] at su z0
    have la : acc.length ≤ 100 := by
      have := su.length_le
      omega
    refine ⟨_, rfl, D, _, rfl, .inl (SqL.of gD), fun pa npa => ?_⟩
    have s1 := same_upd (o := .lst (acc.map V.int)) npa
    have W2 := WG.same s1
    obtain ⟨pr, pm2, pB, pd⟩ := WG.newm npa
    have gpa : (upd G pa (.lst (acc.map V.int))) pa = some (.lst (acc.map V.int)) := upd_same
    have gD2 := s1 _ _ gD
    have pD : pa ≠ D := (ne_of_none gD npa).symm
    generalize upd G pa (.lst (acc.map V.int)) = G1 at s1 W2 gpa gD2 ⊢
    refine ⟨_, rfl, p, dx, _, rfl, W2.ob.ins, obF_no (by decide +kernel) (by decide +kernel), _, rfl, ?_⟩
    refine ⟨p, dx, tb, tab, nx, pa, acc, rfl, W2.ob, gpa, by omega, by omega, fun tb' G2 ntb ko O2 => ⟨rfl, _, rfl, ?_⟩⟩
    rw [decide_eq_true (show V.non = V.non from rfl)]
    refine iteF ?_
    have z02 : ∃ e ∈ tab.filter (fun e => decide ((e.id : Int) ∈ acc)), e.id = 0 := by
      obtain ⟨e, he, z⟩ := W2.z0
      refine ⟨e, List.mem_filter.mpr ⟨he, decide_eq_true ?_⟩, z⟩
      have : (0 : Int) ∈ acc := z0 (List.mem_map.mpr ⟨e, he, by rw [z]; rfl⟩)
      rw [z]
      exact this
    have W3 := W2.ko ko O2 (fun e he => W2.sl e (List.mem_filter.mp he).1) z02 (.inr ntb) (fun e he => .inr ⟨e, (List.mem_filter.mp he).1, rfl⟩)
    have gpa3 := ko_lst W2.ob ko gpa
    have gD3 := ko_lst W2.ob ko gD2
    obtain ⟨sh, _⟩ := ints_sh acc
    refine ⟨_, rfl, _, rfl, _, _, .lst (SqL.of gpa3) (dp_ints _), .lst (SqL.of gD3) (dp_ints _), sh, sh, _, rfl, ?_⟩
    refine same_no sh ?_
    refine ⟨_, rfl, .inl ⟨rfl, _, SqL.of gpa3⟩, pa, _, _, rfl, rfl, gpa3, Nat.lt_of_le_of_lt (show (acc.map V.int).length ≤ 100 by rw [List.length_map]; exact la) (by decide), ?_⟩
    have W4 := W3.lst (ys := acc.map V.int ++ [V.int 0]) gpa3 pr pm2 pB
    have gD4 : (upd G2 pa (.lst (acc.map V.int ++ [V.int 0]))) D = some (.lst (acc.map V.int)) := (upd_ne (Ne.symm pD)).trans gD3
    generalize upd G2 pa (.lst (acc.map V.int ++ [V.int 0])) = G3 at W4 gD4 ⊢
    -- the model's objects
    have ei : idsI (mt.filter fun e => decide ((e.id : Int) ∈ acc)) = acc := filter_ids om (by rw [al.idsI]; exact su)
    obtain ⟨m2, em2⟩ : ∃ m2, m2 = mt.filter fun e => decide ((e.id : Int) ∈ acc) := ⟨_, rfl⟩
    rw [← em2] at ei
    have hm2 : ∀ e ∈ m2, e ∈ mt := fun e he => by
      rw [em2] at he
      exact (List.mem_filter.mp he).1
    have l2 : (tabK m2).length = acc.length := by
      unfold tabK
      rw [List.length_map, ← ei]
      exact (List.length_map _).symm
    refine ⟨_, rfl, D, rfl, ⟨_, SqL.of gD4⟩, fun D2 nD2 => ?_⟩
    refine lc_list (xs := acc.map V.int) (fun i G4 => ∃ ps : List Addr, Same G3 G4 ∧ G4 D2 = some (.lst (ps.map V.ref)) ∧ Paired (fun p kv => G4 p = some (.tup [kV kv.1, kv.2])) ps ((tabK m2).take i) ∧ ps.length = i) ⟨[], same_upd nD2, upd_same, .nil, rfl⟩ (fun i G4 _ z => by
      obtain ⟨ps, s, _⟩ := z
      exact SqL.of (s _ _ gD4)) ?_ ?_
    · rintro i x G4 hx ⟨ps, s4, g4, pr4, lp⟩
      rw [← ei] at hx
      unfold idsI at hx
      rw [List.map_map, List.getElem?_map] at hx
      obtain ⟨e, es, rfl⟩ := Option.map_eq_some_iff.mp hx
      have he := hm2 e (List.mem_of_getElem? es)
      have hi : i < m2.length := (List.getElem?_eq_some_iff.mp es).1
      have l3 : m2.length = acc.length := by
        rw [← l2]
        unfold tabK
        rw [List.length_map]
      have M4 := W4.mo.same s4
      refine ⟨rfl, ?_⟩
      refine ⟨_, rfl, _, rfl, md, _, rfl, M4.slots, _, rfl, sd, _, rfl, M4.get om he, (by show 2 ≤ sizeLine; decide), fun q5 n5 => ?_⟩
      have s5 := same_upd (o := .tup [V.int (e.id : Int), V.ref e.at_]) n5
      have g5 := s5 _ _ g4
      refine ⟨_, g5, Nat.lt_of_le_of_lt (show (ps.map V.ref).length ≤ 100 by rw [List.length_map]; omega) (by decide), ps ++ [q5], fun b u z => ?_, by rw [upd_same, List.map_append]; rfl, ?_, by rw [List.length_append, lp]; rfl⟩
      · rw [upd_ne (ne_of_none z nD2)]
        exact s5 b u (s4 b u z)
      · have tk2 := tk_put (ys := ps.map V.ref ++ [V.ref q5]) g5
        have ek : (tabK m2)[i]? = some (Sum.inl (e.id : Int), V.ref e.at_) := by
          unfold tabK
          rw [List.getElem?_map, es]
          rfl
        rw [take_snoc ek]
        exact Paired.snoc (Paired.mapP pr4 fun a kv h => tk2 _ _ (s5 _ _ h)) (tk2 _ _ upd_same)
    · rintro G4 ⟨ps, s4, g4, pr4, lp⟩
      rw [List.length_map, ← l2, List.take_length] at pr4
      refine ⟨D2, ps, tabK m2, rfl, SqL.of g4, Paired.mapP pr4 fun a kv h => SqT.of h, fun sd' nsd => ?_⟩
      have nk : ((tabK m2).map (·.1)).Nodup := by
        rw [tabK_keys, ei]
        have a := idsI_nd W2.ob.ord
        exact List.Nodup.map_inl (a.sublist su)
      have em := merge_app (tabK m2) [] (fun kv _ => rfl) nk
      rw [List.nil_append] at em
      rw [em]
      have s5 := same_upd (o := .dK (tabK m2)) nsd
      have W5 := (W4.same s4).same s5
      have s45 := s4.trans s5
      refine ⟨_, rfl, md, _, rfl, DPut.k (k := kSl) W5.mo.dic (by show 2 < sizeLine; decide), ?_⟩
      rw [md_pslots]
      have W4' := W4.same s4
      obtain ⟨a1, a2, a3, a4⟩ := W4'.newm nsd
      have W6 := W5.mdic (nm' := nx) (sd' := sd') (mt' := m2) upd_same a3 (Ne.symm a4) (ne_of_none W4'.ob.tbl nsd) (ne_of_none W4'.mo.dic nsd) (fun e he => by
        obtain ⟨kvs, g, _⟩ := W4'.ob.ent e he
        exact (ne_of_none g nsd).symm) (fun e he => W5.mo.ent e (hm2 e he))
      refine q _ tb' sd' _ m2 W6 ?_ (List.length_filter_le _ _)
      rw [em2]
      exact al.filter fun i => decide ((i : Int) ∈ acc)
theorem Wk.oset {B : Hp} {d r p dx tb md sd : Addr} {tab mt : List En} {nx nm : Nat} {H' : Hp} (w : Wk K B H d r p dx tb md sd tab nx mt nm) (ko : KO p tb tab H H') {i : Nat} {sl : List Sl} (O : Ob K H' p dx tb (setE tab i sl) nx) (hs : ∀ s ∈ sl, SlD 6 s) : Wk K B H' d r p dx tb md sd (setE tab i sl) nx mt nm := by
  refine w.ko ko O (fun e he => ?_) ?_ (.inl rfl) fun e he => ?_
  · obtain ⟨e0, m0, rfl⟩ := setE_mem he
    split
    · exact hs
    · exact w.sl e0 m0
  · obtain ⟨e, he, z⟩ := w.z0
    refine ⟨_, List.mem_map.mpr ⟨e, he, rfl⟩, ?_⟩
    split <;> exact z
  · obtain ⟨e0, m0, rfl⟩ := setE_mem he
    refine .inr ⟨e0, m0, ?_⟩
    split <;> rfl
theorem setE_len (tab : List En) (i : Nat) (sl : List Sl) : (setE tab i sl).length = tab.length := List.length_map _
/-- one object's slots in the model are others now -/
theorem Wk.mone {B : Hp} {d r p dx tb md sd : Addr} {tab mt : List En} {nx nm i : Nat} {l : Addr} {us : List V} {sl : List Sl} (w : Wk K B H d r p dx tb md sd tab nx mt nm) (h : H l = some (.lst us)) (tr : TrpR H us sl) : Wk K B (upd H sd (.dK (tabK (setM mt i l sl)))) d r p dx tb md sd tab nx (setM mt i l sl) nm := w.mset fun e he => by
  rcases setM_mem he with rfl | he
  · exact ⟨us, h, tr⟩
  · exact w.mo.ent e he
theorem put_sld {sl : List Sl} {n : Sl} (h : ∀ s ∈ sl, SlD 6 s) (hn : SlD 6 n) : ∀ s ∈ putS sl n, SlD 6 s := fun s hs => by
  rcases putS_mem hs with hs | rfl
  · exact h s hs
  · exact hn
theorem run_l_deed (h : sp_l_deed K vs H Q E) : t_l_deed K E (DQ Q) (start ns_l_deed vs) H := by
  obtain ⟨B, d, r, p, dx, tb, md, sd, tab, mt, nx, rfl, W, al, h62, q⟩ := h
  have lm := al.len
  have li : (idsI tab).length = tab.length := List.length_map _
  have pos : 0 < tab.length := by
    obtain ⟨e, he, _⟩ := W.z0
    exact List.length_pos_of_mem he
  refine ⟨_, rfl, d, 12, rfl, by decide, r, W.dr, fun pk H1 b0 b1 D1 M1 => ?_⟩
  have W1 := W.kept (Kept.of_moved M1) D1
  have o := W1.ob.ord
  have om := al.ord o
  refine ⟨_, rfl, md, _, rfl, W1.mo.slots, sd, tabK mt, idsI mt, rfl, .inl W1.mo.tbl, tabK_keys mt, by rw [al.idsI, li]; omega, fun ys k pm so nk => ?_⟩
  have ey : ys = idsI tab := by
    rw [← al.idsI]
    exact sorted_ids om pm so
  subst ey
  have W2 := W1.same (same_upd (o := .lst ((idsI tab).map V.int)) nk)
  have kd := (W1.newm nk).2.2.2
  have gk : (upd H1 k (.lst ((idsI tab).map V.int))) k = some (.lst ((idsI tab).map V.int)) := upd_same
  generalize upd H1 k (.lst ((idsI tab).map V.int)) = H2 at W2 gk ⊢
  refine ⟨_, rfl, _, rfl, _, rfl, _, _, rfl, .inl ⟨_, SqL.of gk, rfl⟩, d, _, rfl, by rw [List.length_map, li]; omega, r, W2.dr, fun j H3 j0 j1 D3 M3 => ?_⟩
  have W3 := W2.kept (Kept.of_moved M3) D3
  have gk3 := (M3 k kd).trans gk
  obtain ⟨j, rfl⟩ := int_nat j0
  rw [List.length_map, li] at j1
  have hj : j < tab.length := by omega
  have es : tab[j]? = some tab[j] := List.getElem?_eq_getElem hj
  obtain ⟨e, ee⟩ : ∃ e, e = tab[j] := ⟨_, rfl⟩
  rw [← ee] at es
  have he := List.mem_of_getElem? es
  obtain ⟨f, fs, fid, fsl⟩ := al.at_ es
  have hf := List.mem_of_getElem? fs
  refine ⟨k, _, _, .int (e.id : Int), rfl, rfl, SqL.of gk3, atI_nat (by unfold idsI; rw [List.map_map, List.getElem?_map, es]; rfl), ?_⟩
  have gf := W3.mo.get om hf
  rw [fid] at gf
  refine ⟨_, rfl, md, _, rfl, W3.mo.slots, _, rfl, sd, _, rfl, gf, ?_⟩
  have six := W3.six he
  have hfm : ∃ a ∈ mt, a.id = e.id := ⟨f, hf, fid⟩
  have lK : (tabK mt).length < sizeLine := Nat.lt_of_le_of_lt (show (tabK mt).length ≤ 100 by unfold tabK; rw [List.length_map]; omega) (by decide)
  clear gk gk3 M3 W2 W1 M1 kd
  refine ⟨_, rfl, _, _, rfl, rfl, _, rfl, ite2 (fun _ => ?_) (fun _ => ?_)⟩
  · -- make
    refine ⟨_, rfl, _, rfl, _, rfl, B, d, r, p, dx, tb, md, sd, tab, mt, nx, rfl, W3, al, h62, fun H' tab' mt' W' al' l' => ?_⟩
    exact q H' tb sd tab' mt' (nx + 1) W' al' (by omega) (Nat.le_refl _)
  refine ⟨_, rfl, _, _, rfl, rfl, _, rfl, ite2 (fun _ => ?_) (fun _ => ?_)⟩
  · -- put
    refine ⟨_, rfl, d, rfl, r, W3.dr, fun s1 Ha Ka Da hs1 => ?_⟩
    refine ⟨_, rfl, d, rfl, r, Da, fun s2 Hb Kb Db hs2 => ?_⟩
    refine ⟨_, rfl, d, 6, rfl, by decide, r, Db, fun v D0 Hc Kc Dc tv vd => ?_⟩
    refine ⟨(by show 3 ≤ sizeLine; decide), fun t nt => ?_⟩
    have W4 := W3.kept ((Ka.trans Kb).trans Kc) Dc
    have s6 := same_upd (o := .tup [mS s1, mS s2, v]) nt
    have W5 := W4.same s6
    have gt : (upd Hc t (.tup [mS s1, mS s2, v])) t = some (.tup [mS s1, mS s2, v]) := upd_same
    have tv5 := tv.keep fun a xs z => s6 a _ z
    generalize upd Hc t (.tup [mS s1, mS s2, v]) = H5 at W5 gt tv5 ⊢
    obtain ⟨us, gu, ru⟩ := W5.mo.ent f hf
    rw [fsl] at ru
    have sn := sl_d (m := 6) hs1 hs2 vd
    refine ⟨_, rfl, _, rfl, f.at_, t, us, e.sl, ⟨Str.ofString s1, Str.ofString s2, D0⟩, v, rfl, gu, ru, W5.ob.nds e he, gt, tv5, by omega, fun l H6 us' s7 nl gl rl => ?_⟩
    have W6 := W5.same s7
    refine ⟨_, rfl, md, _, rfl, W6.mo.slots, _, rfl, sd, _, rfl, DPut.k (k := Sum.inl (e.id : Int)) W6.mo.tbl lK, ?_⟩
    rw [tabK_set (sl := putS e.sl ⟨Str.ofString s1, Str.ofString s2, D0⟩) hfm]
    have W7 := W6.mone (i := e.id) gl rl
    have tk7 : TK H6 (upd H6 sd (.dK (tabK (setM mt e.id l (putS e.sl ⟨Str.ofString s1, Str.ofString s2, D0⟩))))) := tk_dict W6.mo.tbl
    have gt7 := tk7 _ _ (s7 _ _ gt)
    have tv7 := (tv5.keep fun a xs z => s7 a _ z).keep tk7
    generalize upd H6 sd (.dK (tabK (setM mt e.id l (putS e.sl ⟨Str.ofString s1, Str.ofString s2, D0⟩)))) = H7 at W7 gt7 tv7 ⊢
    refine ⟨_, rfl, p, dx, _, rfl, W7.ob.ins, obF_no (by decide +kernel) (by decide +kernel), _, rfl, _, rfl, t, _, _, _, rfl, rfl, SqT.of gt7, atI_nat (j := 0) rfl, _, rfl, t, _, _, _, rfl, rfl, SqT.of gt7, atI_nat (j := 1) rfl, _, rfl, t, _, _, _, rfl, rfl, SqT.of gt7, atI_nat (j := 2) rfl, ?_⟩
    refine ⟨p, dx, tb, tab, nx, e, Str.ofString s1, Str.ofString s2, v, D0, rfl, W7.ob, he, tv7, vd.ok, by omega, fun H8 ko O8 => ⟨rfl, ?_⟩⟩
    rw [decide_eq_true (show V.non = V.non from rfl)]
    exact q H8 tb sd _ _ nx (W7.oset ko O8 (put_sld (W7.sl e he) sn)) (al.set e.id l _) (by rw [setE_len]; omega) (Nat.le_succ _)
  refine ⟨_, rfl, _, _, rfl, rfl, _, rfl, ite2 (fun _ => ?_) (fun _ => ?_)⟩
  · -- drop
    refine ⟨_, rfl, d, rfl, r, W3.dr, fun s1 Ha Ka Da hs1 => ?_⟩
    have W4 := W3.kept Ka Da
    obtain ⟨us, gu, ru⟩ := W4.mo.ent f hf
    rw [fsl] at ru
    have lu := ru.len
    refine ⟨_, rfl, f.at_, rfl, ⟨_, SqL.of gu⟩, fun D nD => ?_⟩
    refine lc_list (xs := us) (fun i G => ∃ us' : List V, Same Ha G ∧ G D = some (.lst us') ∧ TrpR G us' (dropS (e.sl.take i) (Str.ofString s1))) ⟨[], same_upd nD, upd_same, .nil⟩ (fun i G _ z => by
      obtain ⟨_, s, _⟩ := z
      exact SqL.of (s _ _ gu)) ?_ ?_
    · rintro i x G hx ⟨us', sm, gD, tr⟩
      obtain ⟨s, ta, v, es2, rfl, hta, tv⟩ := ru.at_ i hx
      have et : dropS (e.sl.take (i + 1)) (Str.ofString s1) = dropS (e.sl.take i) (Str.ofString s1) ++ (if decide (s.name ≠ Str.ofString s1) = true then [s] else []) := filter_snoc _ es2
      rw [et]
      refine ⟨rfl, ?_⟩
      refine ⟨_, rfl, ta, _, _, _, rfl, rfl, SqT.of (sm _ _ hta), atI_nat (j := 0) rfl, _, rfl, rfl, _, rfl, ?_⟩
      by_cases c : s.name = Str.ofString s1
      · rw [decide_eq_true (congrArg V.str c)]
        refine iteF ⟨us', sm, gD, ?_⟩
        rw [if_neg (by simp [c]), List.append_nil]
        exact tr
      · rw [decide_eq_false fun z => c (V.str.inj z)]
        have l3 : us'.length ≤ 6 := by
          rw [tr.len]
          exact Nat.le_trans (List.length_filter_le _ _) (Nat.le_trans (List.length_take_le' _ _) six)
        refine iteT ⟨_, rfl, _, gD, Nat.lt_of_le_of_lt l3 (by decide), us' ++ [.ref ta], fun b u z => ?_, upd_same, ?_⟩
        · rw [upd_ne (ne_of_none z nD)]
          exact sm b u z
        · rw [if_pos (by simp [c])]
          have tk2 := tk_put (ys := us' ++ [V.ref ta]) gD
          exact TrpR.snoc (tk2 _ _ (sm _ _ hta)) ((tv.keep fun a xs z => sm a _ z).keep tk2) (tr.keep tk2)
    · rintro G ⟨us', sm, gD, tr⟩
      rw [lu, List.take_length] at tr
      have W5 := W4.same sm
      refine ⟨_, rfl, md, _, rfl, W5.mo.slots, _, rfl, sd, _, rfl, DPut.k (k := Sum.inl (e.id : Int)) W5.mo.tbl lK, ?_⟩
      rw [tabK_set (sl := dropS e.sl (Str.ofString s1)) hfm]
      have W6 := W5.mone (i := e.id) gD tr
      have gD6 : (upd G sd (.dK (tabK (setM mt e.id D (dropS e.sl (Str.ofString s1)))))) D = some (.lst us') := (upd_ne (ne_of gD W5.mo.tbl (by intro z; cases z))).trans gD
      have gu6 : (upd G sd (.dK (tabK (setM mt e.id D (dropS e.sl (Str.ofString s1)))))) f.at_ = some (.lst us) := (upd_ne (ne_of (sm _ _ gu) W5.mo.tbl (by intro z; cases z))).trans (sm _ _ gu)
      generalize upd G sd (.dK (tabK (setM mt e.id D (dropS e.sl (Str.ofString s1))))) = H6 at W6 gD6 gu6 ⊢
      have hM : (⟨e.id, D, dropS e.sl (Str.ofString s1)⟩ : En) ∈ setM mt e.id D (dropS e.sl (Str.ofString s1)) := List.mem_map.mpr ⟨f, hf, if_pos fid⟩
      have al2 : Al (setE tab e.id (dropS e.sl (Str.ofString s1))) (setM mt e.id D (dropS e.sl (Str.ofString s1))) := al.set e.id D _
      have oM : (setM mt e.id D (dropS e.sl (Str.ofString s1))).Pairwise fun a b => a.id < b.id := by
        refine pw_ids ?_ o
        rw [al2.ids, setE_id]
      have dl := drop_len (x := Str.ofString s1) (W6.ob.nds e he)
      have fin : ∀ (H7 : Hp) (b : Bool) (tab' : List En), Wk K B H7 d r p dx tb md sd tab' nx (setM mt e.id D (dropS e.sl (Str.ofString s1))) nx → Al tab' (setM mt e.id D (dropS e.sl (Str.ofString s1))) → tab'.length = tab.length → H7 D = some (.lst us') → H7 f.at_ = some (.lst us) → (b = true ↔ getS e.sl (Str.ofString s1) ≠ none) →
          (tAndV (tCB (rIsi K) (tCons (tVar 9) (tCons (tC (.ty "bool")) tNil))) (tOp rEq (tVar 9) (tOp rLtI (tCB (rLen K) (tCons (tDGet (tDGet (tVar 2) (tC (.str ("slots" : Str)))) (tVar 5)) tNil)) (tCB (rLen K) (tCons (tVar 6) tNil))))) [some (.ref d), some (.ref p), some (.ref md), some (.int pk), some (.ref k), some (.int (e.id : Int)), some (.ref f.at_), none, some (mS s1), some (.bl b), none] H7 Q := fun H7 b tab' W7 al7 l7 g7 u7 hb => by
        have gM := W7.mo.get oM hM
        refine ⟨_, rfl, _, _, .type "bool", .type "bool", true, rfl, .ty _, .base (.bl _), by rfl, _, rfl, ?_⟩
        refine iteT ?_
        refine ⟨_, rfl, _, rfl, md, _, rfl, W7.mo.slots, _, rfl, sd, _, rfl, gM, _, _, rfl, .inl ⟨_, SqL.of g7, rfl⟩, _, rfl, _, _, rfl, .inl ⟨_, SqL.of u7, rfl⟩, _, _, rfl, rfl, rfl, ?_⟩
        have l5 : us'.length = (dropS e.sl (Str.ofString s1)).length := tr.len
        have ev : b = decide ((us'.length : Int) < (us.length : Int)) := by
          rw [Bool.eq_iff_iff, decide_eq_true_iff, hb, ← dl]
          omega
        show Q (V.bl (decide (V.bl b = V.bl (decide ((us'.length : Int) < (us.length : Int)))))) H7
        rw [← ev, decide_eq_true (show V.bl b = V.bl b from rfl)]
        exact q H7 tb sd tab' _ nx W7 al7 (by omega) (Nat.le_succ _)
      refine ⟨_, rfl, p, dx, _, rfl, W6.ob.ins, obF_no (by decide +kernel) (by decide +kernel), _, rfl, _, rfl, ?_⟩
      refine ⟨p, dx, tb, tab, nx, e, Str.ofString s1, rfl, W6.ob, he, fun g => ?_, fun g H7 ko O7 => ?_⟩
      · refine fin H6 false tab W6 ?_ rfl gD6 gu6 ⟨fun z => (by cases z), fun z => absurd g z⟩
        have e1 : dropS e.sl (Str.ofString s1) = e.sl := List.filter_eq_self.mpr fun s hs => decide_eq_true (getS_none g s hs)
        have a := al2
        rw [e1] at a
        rw [setE_self o he] at a
        rw [e1]
        exact a
      · refine fin H7 true _ (W6.oset ko O7 fun s hs => W6.sl e he s (List.mem_filter.mp hs).1) al2 (setE_len _ _ _) (ko_lst W6.ob ko gD6) (ko_lst W6.ob ko gu6) ⟨fun _ => g, fun _ => rfl⟩
  refine ⟨_, rfl, _, _, rfl, rfl, _, rfl, ite2 (fun _ => ?_) (fun _ => ?_)⟩
  · -- assign
    obtain ⟨us, gu, ru⟩ := W3.mo.ent f hf
    rw [fsl] at ru
    have lu := ru.len
    refine ⟨_, rfl, _, _, rfl, .inl ⟨_, SqL.of gu, rfl⟩, _, _, rfl, rfl, _, rfl, ite2 (fun c => ?_) (fun _ => q H3 tb sd tab mt nx W3 al (by omega) (Nat.le_succ _))⟩
    have c := of_decide_eq_true c
    refine ⟨_, rfl, _, rfl, _, rfl, _, _, rfl, .inl ⟨_, SqL.of gu, rfl⟩, d, _, rfl, c, r, W3.dr, fun y H4 y0 y1 D4 M4 => ?_⟩
    obtain ⟨y, rfl⟩ := int_nat y0
    have W4 := W3.kept (Kept.of_moved M4) D4
    have tk4 := kept_tk W3.dr (Kept.of_moved M4)
    obtain ⟨us4, gu4, ru4⟩ := W4.mo.ent f hf
    rw [fsl] at ru4
    have eu : us4 = us := by
      have dd : f.at_ ≠ d := by
        obtain ⟨i, s, ns, h1, _⟩ := W3.dr
        exact ne_of gu h1 (by intro z; cases z)
      have a := (M4 f.at_ dd).trans gu
      rw [gu4] at a
      injection a with a
      injection a
    subst eu
    obtain ⟨x, hx⟩ : ∃ x, us4[y]? = some x := ⟨us4[y]'(by omega), List.getElem?_eq_getElem (by omega)⟩
    obtain ⟨s, ta, v0, es2, rfl, hta, tv0⟩ := ru4.at_ y hx
    have hs := List.mem_of_getElem? es2
    refine ⟨f.at_, us4, _, .ref ta, rfl, rfl, SqL.of gu4, atI_nat hx, ?_⟩
    refine ⟨_, rfl, d, 6, rfl, by decide, r, W4.dr, fun v D0 Hc Kc Dc tv vd => ?_⟩
    have W5 := W4.kept Kc Dc
    have tk5 := kept_tk W4.dr Kc
    have hta5 := tk5 _ _ hta
    refine ⟨_, rfl, _, rfl, ta, _, _, _, rfl, rfl, SqT.of hta5, atI_nat (j := 0) rfl, _, rfl, ta, _, _, _, rfl, rfl, SqT.of hta5, atI_nat (j := 1) rfl, _, rfl, (by show 3 ≤ sizeLine; decide), fun t nt => ?_⟩
    have s6 := same_upd (o := .tup [V.str s.name, V.str s.kind, v]) nt
    have W6 := W5.same s6
    have gt : (upd Hc t (.tup [V.str s.name, V.str s.kind, v])) t = some (.tup [V.str s.name, V.str s.kind, v]) := upd_same
    have tv6 := tv.keep fun a xs z => s6 a _ z
    have hta6 := s6 _ _ hta5
    generalize upd Hc t (.tup [V.str s.name, V.str s.kind, v]) = H6 at W6 gt tv6 hta6 ⊢
    obtain ⟨us6, gu6, ru6⟩ := W6.mo.ent f hf
    rw [fsl] at ru6
    refine ⟨f.at_, t, us6, e.sl, ⟨s.name, s.kind, D0⟩, v, rfl, gu6, ru6, W6.ob.nds e he, gt, tv6, by omega, fun l H7 us' s7 nl gl rl => ?_⟩
    have W7 := W6.same s7
    refine ⟨_, rfl, md, _, rfl, W7.mo.slots, _, rfl, sd, _, rfl, DPut.k (k := Sum.inl (e.id : Int)) W7.mo.tbl lK, ?_⟩
    rw [tabK_set (sl := putS e.sl ⟨s.name, s.kind, D0⟩) hfm]
    have W8 := W7.mone (i := e.id) gl rl
    have tk8 : TK H7 (upd H7 sd (.dK (tabK (setM mt e.id l (putS e.sl ⟨s.name, s.kind, D0⟩))))) := tk_dict W7.mo.tbl
    have hta8 := tk8 _ _ (s7 _ _ hta6)
    have tv8 := (tv6.keep fun a xs z => s7 a _ z).keep tk8
    generalize upd H7 sd (.dK (tabK (setM mt e.id l (putS e.sl ⟨s.name, s.kind, D0⟩)))) = H8 at W8 hta8 tv8 ⊢
    refine ⟨_, rfl, p, dx, _, rfl, W8.ob.ins, obF_no (by decide +kernel) (by decide +kernel), _, rfl, _, rfl, ta, _, _, _, rfl, rfl, SqT.of hta8, atI_nat (j := 0) rfl, _, rfl, ?_⟩
    have g := getS_at (W8.ob.nds e he) hs
    refine ⟨p, dx, tb, tab, nx, e, s.name, v, D0, s, rfl, W8.ob, he, tv8, vd.ok, by omega, g, fun H9 ko O9 => ⟨rfl, ?_⟩⟩
    rw [decide_eq_true (show V.non = V.non from rfl)]
    have g0 := W8.sl e he s hs
    exact q H9 tb sd _ _ nx (W8.oset ko O9 (put_sld (W8.sl e he) ⟨g0.nm, g0.kd, vd⟩)) (al.set e.id l _) (by rw [setE_len]; omega) (Nat.le_succ _)
  · -- keep
    refine ⟨_, rfl, _, rfl, _, rfl, B, d, r, p, dx, tb, md, sd, tab, mt, nx, rfl, W3, al, h62, fun H' tb' sd' tab' mt' W' al' l' => ?_⟩
    exact q H' tb' sd' tab' mt' nx W' al' (by omega) (Nat.le_succ _)
def kindL : List String := ["const", "var", "parent", "varparent", "method"]
theorem dp_menu (ss : List String) : DpAll K H (ss.map mS) (ss.map fun s => PyData.str (Str.ofString s)) := by
  induction ss with
  | nil => exact .nil
  | cons s ss ih => exact .cons (.str _) ih
theorem kind_sh : SeqAt.shaped (.tuple (kindL.map fun s => PyData.str (Str.ofString s))) = true := by decide +kernel
theorem run_law (hK : ∀ H, SqT K H (He.ga K ("KINDS" : Str)) (["const", "var", "parent", "varparent", "method"].map mS)) (h : sp_law K vs H Q E) : t_law K E (DQ Q) (start ns_law vs) H := by
  obtain ⟨a, ns, rfl, hS, hl, q⟩ := h
  refine ⟨_, rfl, a, ns, rfl, hS, hl, fun d r H1 s1 nd nr D1 => ?_⟩
  intro p dx np ndx nxp
  have S1 : Same H1 (upd (upd H1 dx (.own p)) p (.ins (OC K) dx [])) := fun b u z => by
    rw [upd_ne (ne_of_none z np), upd_ne (ne_of_none z ndx)]
    exact z
  have D1' := D1.same S1
  have dp : d ≠ p := D1.neD np
  have rp : r ≠ p := D1.neR np
  refine ⟨p, dx, rfl, upd_same, fun tb o H2 k2 ntb no O2 => ⟨rfl, ?_⟩⟩
  have D2 : Draws H2 d r := by
    obtain ⟨i, s, rs, h1, h2, h3⟩ := D1'
    exact ⟨i, s, rs, k2 _ _ dp h1, k2 _ _ rp h2, h3⟩
  have dtb : d ≠ tb := D1'.neD ntb
  have dno : d ≠ o := D1'.neD no
  clear S1 D1' k2 ntb no nxp
  -- the other one
  intro p2 dx2 np2 ndx2 nxp2
  have S2 : Same H2 (upd (upd H2 dx2 (.own p2)) p2 (.ins (OC K) dx2 [])) := fun b u z => by
    rw [upd_ne (ne_of_none z np2), upd_ne (ne_of_none z ndx2)]
    exact z
  have gp2 : (upd (upd H2 dx2 (.own p2)) p2 (.ins (OC K) dx2 [])) p2 = some (.ins (OC K) dx2 []) := upd_same
  have O2' := O2.same S2
  have D2' := D2.same S2
  have op : ∃ kvs, H2 o = some (.dK kvs) := by
    obtain ⟨kvs, g, _⟩ := O2.ent _ (List.mem_singleton.mpr rfl)
    exact ⟨kvs, g⟩
  obtain ⟨okv, go⟩ := op
  have p2d : p2 ≠ d := (D2.neD np2).symm
  have p2r : r ≠ p2 := D2.neR np2
  have p2p : p2 ≠ p := (ne_of_none O2.ins np2).symm
  have p2t : p2 ≠ tb := (ne_of_none O2.tbl np2).symm
  have p2o : p2 ≠ o := (ne_of_none go np2).symm
  generalize upd (upd H2 dx2 (.own p2)) p2 (.ins (OC K) dx2 []) = Hm at S2 gp2 O2' D2' ⊢
  refine ⟨p2, dx2, rfl, gp2, fun tb2 o2 H3 k3 ntb2 no2 O3 => ⟨rfl, ?_⟩⟩
  have tkm : TK Hm H3 := fun a xs z => k3 a _ (ne_of z gp2 (by intro z; cases z)) z
  have O2'' : Ob K H3 p dx tb [⟨0, o, [lobbyS]⟩] 1 := O2'.keep ((k3 _ _ (Ne.symm p2p) O2'.ins).trans O2'.ins.symm) ((k3 _ _ (Ne.symm p2t) O2'.tbl).trans O2'.tbl.symm) (fun e he => by
    obtain ⟨kvs, g, _⟩ := O2'.ent e he
    exact (k3 _ _ (ne_of g gp2 (by intro z; cases z)) g).trans g.symm) tkm
  have D3 : Draws H3 d r := by
    obtain ⟨i, s, rs, h1, h2, h3⟩ := D2'
    exact ⟨i, s, rs, k3 _ _ (Ne.symm p2d) h1, k3 _ _ p2r h2, h3⟩
  have goM := S2 _ _ go
  have t2d : tb2 ≠ d := (D2'.neD ntb2).symm
  have t2p : tb2 ≠ p := (ne_of_none O2'.ins ntb2).symm
  have t2t : tb2 ≠ tb := (ne_of_none O2'.tbl ntb2).symm
  have t2o : tb2 ≠ o := (ne_of_none goM ntb2).symm
  have o2d : o2 ≠ d := (D2'.neD no2).symm
  have o2p : o2 ≠ p := (ne_of_none O2'.ins no2).symm
  have o2t : o2 ≠ tb := (ne_of_none O2'.tbl no2).symm
  have o2o : o2 ≠ o := (ne_of_none goM no2).symm
  have go3 : H3 o = some (.dK okv) := k3 _ _ (Ne.symm p2o) goM
  obtain ⟨B, eB⟩ : ∃ B : Hp, B = fun b => if b = d ∨ b = p ∨ b = tb ∨ b = o then none else H3 b := ⟨_, rfl⟩
  have hB : ∀ b, b ≠ d → b ≠ p → b ≠ tb → b ≠ o → B b = H3 b := fun b h1 h2 h3 h4 => by
    rw [eB]
    exact if_neg (by
      rintro (z | z | z | z)
      · exact h1 z
      · exact h2 z
      · exact h3 z
      · exact h4 z)
  have smB : Same B H3 := fun b u z => by
    rw [eB] at z
    dsimp only at z
    split at z
    · cases z
    · exact z
  have OB : Ob K B p2 dx2 tb2 [⟨0, o2, [lobbyS]⟩] 1 := O3.keep (hB _ p2d p2p p2t p2o) (hB _ t2d t2p t2t t2o) (fun e he => by
    rw [List.mem_singleton.mp he]
    exact hB _ o2d o2p o2t o2o) fun a xs z => by
    obtain ⟨i, s, rs, h1, _, _⟩ := D3
    rw [hB a (ne_of z h1 (by intro z; cases z)) (ne_of z O2''.ins (by intro z; cases z)) (ne_of z O2''.tbl (by intro z; cases z)) (ne_of z go3 (by intro z; cases z))]
    exact z
  have Bd : B d = none := by
    rw [eB]
    exact if_pos (.inl rfl)
  have Bp : B p = none := by
    rw [eB]
    exact if_pos (.inr (.inl rfl))
  have Bt : B tb = none := by
    rw [eB]
    exact if_pos (.inr (.inr (.inl rfl)))
  have Bo : B o = none := by
    rw [eB]
    exact if_pos (.inr (.inr (.inr rfl)))
  have Bn : ∀ b, H3 b = none → B b = none := fun b h => Same.free smB h
  clear eB hB O3 O2' D2' k3
  -- the model
  intro md nmd
  have a1 := same_upd (o := .dK []) nmd
  have gmd : (upd H3 md (.dK [])) md = some (.dK []) := upd_same
  intro sd nsd
  have a2 := same_upd (o := .dK []) nsd
  have gsd : (upd (upd H3 md (.dK [])) sd (.dK [])) sd = some (.dK []) := upd_same
  have ms : md ≠ sd := ne_of_none gmd nsd
  have nsd3 : H3 sd = none := Same.free a1 nsd
  have a12 := a1.trans a2
  have gmd2 := a2 _ _ gmd
  generalize upd (upd H3 md (.dK [])) sd (.dK []) = Ha at a12 gsd gmd2 ⊢
  refine ⟨(by show 2 ≤ sizeLine; decide), fun r1 n1 => ⟨(by show 3 ≤ sizeLine; decide), fun r2 n2 => ⟨(by show 1 ≤ sizeLine; decide), fun r3 n3 => ?_⟩⟩⟩
  have c1 := same_upd (o := .tup [V.str ("ref" : Str), V.int 0]) n1
  have c2 := same_upd (o := .tup [V.str ("lobby" : Str), V.str ("const" : Str), V.ref r1]) n2
  have c3 := same_upd (o := .lst [V.ref r2]) n3
  have cA := (c1.trans c2).trans c3
  have g1 := c3 _ _ (c2 _ _ (upd_same (H := Ha) (a := r1) (o := .tup [V.str ("ref" : Str), V.int 0])))
  have g2 := c3 _ _ (upd_same (H := upd Ha r1 (.tup [V.str ("ref" : Str), V.int 0])) (a := r2) (o := .tup [V.str ("lobby" : Str), V.str ("const" : Str), V.ref r1]))
  have g3 : (upd (upd (upd Ha r1 (.tup [V.str ("ref" : Str), V.int 0])) r2 (.tup [V.str ("lobby" : Str), V.str ("const" : Str), V.ref r1])) r3 (.lst [V.ref r2])) r3 = some (.lst [V.ref r2]) := upd_same
  have gsd2 := cA _ _ gsd
  have gmd3 := cA _ _ gmd2
  have a14 := a12.trans cA
  generalize upd (upd (upd Ha r1 (.tup [V.str ("ref" : Str), V.int 0])) r2 (.tup [V.str ("lobby" : Str), V.str ("const" : Str), V.ref r1])) r3 (.lst [V.ref r2]) = Hb at cA g1 g2 g3 gsd2 gmd3 a14 ⊢
  have e1 : mergeK [] [((Sum.inl 0 : Key), V.ref r3)] = tabK [⟨0, r3, [lobbyS]⟩] := merge_app [((Sum.inl 0 : Key), V.ref r3)] [] (fun kv _ => rfl) (by simp)
  refine ⟨gsd2, [(Sum.inl 0, V.ref r3)], rfl, (by show 1 ≤ 15; decide), ?_⟩
  rw [e1]
  have gmd4 : (upd Hb sd (.dK (tabK [⟨0, r3, [lobbyS]⟩]))) md = some (.dK []) := (upd_ne ms).trans gmd3
  have e2 : mergeK [] (mdK sd 1) = mdK sd 1 := merge_app (mdK sd 1) [] (fun kv _ => rfl) (List.nodup_cons.mpr ⟨fun z => kSN (List.mem_singleton.mp z), by simp⟩)
  refine ⟨gmd4, mdK sd 1, rfl, (by show 2 ≤ 15; decide), ?_⟩
  rw [e2]
  have sW : Same H3 (upd (upd Hb sd (.dK (tabK [⟨0, r3, [lobbyS]⟩]))) md (.dK (mdK sd 1))) := fun b u z => by
    rw [upd_ne (ne_of_none z nmd), upd_ne (ne_of_none z nsd3)]
    exact a14 b u z
  have tkW : TK Hb (upd (upd Hb sd (.dK (tabK [⟨0, r3, [lobbyS]⟩]))) md (.dK (mdK sd 1))) := (tk_dict gsd2).trans (tk_dict gmd4)
  have W0 : Wk K B (upd (upd Hb sd (.dK (tabK [⟨0, r3, [lobbyS]⟩]))) md (.dK (mdK sd 1))) d r p dx tb md sd [⟨0, o, [lobbyS]⟩] 1 [⟨0, r3, [lobbyS]⟩] 1 := by
    refine ⟨D3.same sW, O2''.same sW, ⟨upd_same, (upd_ne (Ne.symm ms)).trans upd_same, fun e he => ?_⟩, fun e he s hs => ?_, ⟨_, List.mem_singleton.mpr rfl, rfl⟩, smB.trans sW, Bd, Bp, Bt, Bn _ nmd, Bn _ nsd3, fun e he => ?_, dtb, D3.neD nmd, D3.neD nsd3, ne_of_none O2''.tbl nmd, ne_of_none O2''.tbl nsd3, ms, fun e he => ?_, fun e he => ?_, fun e he => ?_⟩
    · rw [List.mem_singleton.mp he]
      refine ⟨[V.ref r2], ?_, .cons (tkW _ _ g2) (.tup (tkW _ _ g1) (.cons (.str _) (.cons (.int _) .nil))) .nil⟩
      rw [upd_ne (ne_of g3 gmd3 (by intro z; cases z)), upd_ne (ne_of g3 gsd2 (by intro z; cases z))]
      exact g3
    · rw [List.mem_singleton.mp he] at hs
      rw [List.mem_singleton.mp hs]
      exact lobby_d (by decide)
    · rw [List.mem_singleton.mp he]
      exact Bo
    · rw [List.mem_singleton.mp he]
      exact dno
    · rw [List.mem_singleton.mp he]
      exact (ne_of_none go3 nmd).symm
    · rw [List.mem_singleton.mp he]
      exact (ne_of_none go3 nsd3).symm
  have al0 : Al [⟨0, o, [lobbyS]⟩] [⟨0, r3, [lobbyS]⟩] := rfl
  generalize upd (upd Hb sd (.dK (tabK [⟨0, r3, [lobbyS]⟩]))) md (.dK (mdK sd 1)) = H6 at W0 ⊢
  -- the kinds
  refine ⟨(by show 5 ≤ sizeLine; decide), fun kq nkq => ?_⟩
  have s7 := same_upd (o := .tup (["const", "var", "parent", "varparent", "method"].map mS)) nkq
  refine ⟨_, _, .tup (hK _) (dp_menu kindL), .tup (SqT.of upd_same) (dp_menu kindL), kind_sh, kind_sh, _, rfl, ?_⟩
  refine same_no kind_sh ?_
  have W1 := W0.same s7
  refine ⟨_, rfl, _, rfl, p, dx, tb, _, 1, md, sd, _, rfl, W1.ob, W1.mo, al0, W1.sl, (by show 1 ≤ 63; decide), by decide, fun H8 s8 => ⟨_, rfl, ?_⟩⟩
  refine iteF ?_
  have W2 := W1.same s8
  -- the deeds
  refine ⟨_, rfl, d, 41, rfl, by decide, r, W2.dr, fun c H9 c0 c1 D9 M9 => ⟨_, _, rfl, rfl, 20 + c, rfl, by omega, by omega, ?_⟩⟩
  have W3 := W2.kept (Kept.of_moved M9) D9
  have hc : (20 + c).toNat ≤ 60 := by omega
  refine for_range (lo := 0) (n := (20 + c).toNat) (fun k σ G => ∃ (tb sd : Addr) (tab mt : List En) (nx : Nat) (v5 : Option V), σ = [some (.ref a), some (.ref d), some (.ref p), some (.ref p2), some (.ref md), v5] ∧ Wk K B G d r p dx tb md sd tab nx mt nx ∧ Al tab mt ∧ tab.length ≤ 1 + k ∧ nx ≤ 1 + k)
    ⟨tb, sd, _, _, 1, none, rfl, W3, al0, Nat.le_refl _, Nat.le_refl _⟩ ?_ ?_
  · rintro k σ G hk ⟨tb, sd, tab, mt, nx, v5, rfl, W, al, l1, l2⟩
    refine ⟨_, rfl, _, rfl, _, rfl, B, d, r, p, dx, tb, md, sd, tab, mt, nx, rfl, W, al, by omega, fun G2 tb' sd' tab' mt' nx' W' al' l1' l2' => ⟨_, rfl, ?_⟩⟩
    refine iteF ?_
    refine ⟨_, rfl, _, rfl, p, dx, tb', tab', nx', md, sd', mt', rfl, W'.ob, W'.mo, al', W'.sl, by omega, by omega, fun G3 s3 => ⟨_, rfl, ?_⟩⟩
    refine iteF ?_
    exact ⟨tb', sd', tab', mt', nx', _, rfl, W'.same s3, al', by omega, by omega⟩
  · rintro σ G ⟨tb, sd, tab, mt, nx, v5, rfl, W, al, l1, l2⟩
    have OG := OB.same W.sm
    refine ⟨_, rfl, p2, dx2, _, rfl, OG.ins, obF_no (by decide +kernel) (by decide +kernel), ?_⟩
    refine ⟨p2, dx2, tb2, _, 1, rfl, OG, (fun e he => by rw [List.mem_singleton.mp he]; show 1 ≤ 1000000; decide), (by show 1 ≤ 1000000; decide), fun qi G2 s2 t2 => ?_⟩
    refine ⟨(by show 2 ≤ sizeLine; decide), fun r1 n1 => ⟨(by show 3 ≤ sizeLine; decide), fun r2 n2 => ⟨(by show 1 ≤ sizeLine; decide), fun r3 n3 => ⟨(by show 2 ≤ sizeLine; decide), fun r4 n4 => ⟨(by show 1 ≤ sizeLine; decide), fun r5 n5 => ?_⟩⟩⟩⟩⟩
    have c1 := same_upd (o := .tup [V.str ("ref" : Str), V.int 0]) n1
    have c2 := same_upd (o := .tup [V.str ("lobby" : Str), V.str ("const" : Str), V.ref r1]) n2
    have c3 := same_upd (o := .tup [V.ref r2]) n3
    have c4 := same_upd (o := .tup [V.int 0, V.ref r3]) n4
    have c5 := same_upd (o := .tup [V.ref r4]) n5
    have cA := (((c1.trans c2).trans c3).trans c4).trans c5
    have tl : Tr _ (V.ref r5) (imgD [⟨0, o2, [lobbyS]⟩]) := .tup upd_same (.cons (.tup (c5 _ _ upd_same) (.cons (.int 0) (.cons (.tup (c5 _ _ (c4 _ _ upd_same)) (.cons (.tup (c5 _ _ (c4 _ _ (c3 _ _ upd_same))) (.cons (.str _) (.cons (.str _) (.cons (.tup (c5 _ _ (c4 _ _ (c3 _ _ (c2 _ _ upd_same)))) (.cons (.str _) (.cons (.int _) .nil))) .nil)))) .nil)) .nil))) .nil)
    have ish : SeqAt.shaped (imgD [⟨0, o2, [lobbyS]⟩]) = true := imgD_sh fun e he s hs => by
      rw [List.mem_singleton.mp he] at hs
      rw [List.mem_singleton.mp hs]
      exact lobby_d (by decide)
    refine ⟨_, _, (t2.keep fun a xs z => cA a _ z).dp, tl.dp, ish, ish, ?_⟩
    rw [SeqAt.eqv_refl _ (SeqAt.canLay_of_shaped ish)]
    exact q _
end
end Rm.Q.K21.K20

namespace Rm.Q.K21.K20.W20
open PySem PySem.Spec PyProof.Rows L2 Rm
def top (i : Nat) : Stmt := PySem.Challenge.pw_reaimed_k20_objects_by_model.main.body.getD i (.Pass ⟨0, 0, 0, 0⟩)
abbrev s_l_draws : Stmt := top 6
theorem sc_l_draws : FnScope ns_l_draws ["script"] (defScope s_l_draws) := ⟨rfl, rfl, rfl, by decide +kernel, rfl, by decide +kernel, by decide +kernel⟩
abbrev s_l_reader : Stmt := top 7
theorem sc_l_reader : FnScope ns_l_reader ["script"] (defScope s_l_reader) := ⟨rfl, rfl, rfl, by decide +kernel, rfl, by decide +kernel, by decide +kernel⟩
abbrev s_l_next : Stmt := top 8
theorem sc_l_next : FnScope ns_l_next ["draws", "many"] (defScope s_l_next) := ⟨rfl, rfl, rfl, by decide +kernel, rfl, by decide +kernel, by decide +kernel⟩
abbrev s_l_value : Stmt := top 9
theorem sc_l_value : FnScope ns_l_value ["draws", "many"] (defScope s_l_value) := ⟨rfl, rfl, rfl, by decide +kernel, rfl, by decide +kernel, by decide +kernel⟩
abbrev s_l_kind : Stmt := top 10
theorem sc_l_kind : FnScope ns_l_kind ["draws"] (defScope s_l_kind) := ⟨rfl, rfl, rfl, by decide +kernel, rfl, by decide +kernel, by decide +kernel⟩
abbrev s_l_name : Stmt := top 11
theorem sc_l_name : FnScope ns_l_name ["draws"] (defScope s_l_name) := ⟨rfl, rfl, rfl, by decide +kernel, rfl, by decide +kernel, by decide +kernel⟩
abbrev s_Objects_slot : Stmt := inClass (top 4) 5
theorem sc_Objects_slot : FnScope ns_Objects_slot ["self", "object_id", "name"] (defScope s_Objects_slot) := ⟨rfl, rfl, rfl, by decide +kernel, rfl, by decide +kernel, by decide +kernel⟩
abbrev s_Objects_put : Stmt := inClass (top 4) 6
theorem sc_Objects_put : FnScope ns_Objects_put ["self", "object_id", "name", "kind", "value"] (defScope s_Objects_put) := ⟨rfl, rfl, rfl, by decide +kernel, rfl, by decide +kernel, by decide +kernel⟩
abbrev s_Objects_drop : Stmt := inClass (top 4) 7
theorem sc_Objects_drop : FnScope ns_Objects_drop ["self", "object_id", "name"] (defScope s_Objects_drop) := ⟨rfl, rfl, rfl, by decide +kernel, rfl, by decide +kernel, by decide +kernel⟩
abbrev s_Objects_assign : Stmt := inClass (top 4) 8
theorem sc_Objects_assign : FnScope ns_Objects_assign ["self", "object_id", "name", "value"] (defScope s_Objects_assign) := ⟨rfl, rfl, rfl, by decide +kernel, rfl, by decide +kernel, by decide +kernel⟩
abbrev s_Objects_parents : Stmt := inClass (top 4) 9
theorem sc_Objects_parents : FnScope ns_Objects_parents ["self", "object_id"] (defScope s_Objects_parents) := ⟨rfl, rfl, rfl, by decide +kernel, rfl, by decide +kernel, by decide +kernel⟩
abbrev s_Objects_make : Stmt := inClass (top 4) 1
theorem sc_Objects_make : FnScope ns_Objects_make ["self", "slots"] (defScope s_Objects_make) := ⟨rfl, rfl, rfl, by decide +kernel, rfl, by decide +kernel, by decide +kernel⟩
abbrev s_Objects_init : Stmt := inClass (top 4) 0
theorem sc_Objects_init : FnScope ns_Objects_init ["self"] (defScope s_Objects_init) := ⟨rfl, rfl, rfl, by decide +kernel, rfl, by decide +kernel, by decide +kernel⟩
abbrev s_Objects_ids : Stmt := inClass (top 4) 2
theorem sc_Objects_ids : FnScope ns_Objects_ids ["self"] (defScope s_Objects_ids) := ⟨rfl, rfl, rfl, by decide +kernel, rfl, by decide +kernel, by decide +kernel⟩
abbrev s_Objects_slots : Stmt := inClass (top 4) 4
theorem sc_Objects_slots : FnScope ns_Objects_slots ["self", "object_id"] (defScope s_Objects_slots) := ⟨rfl, rfl, rfl, by decide +kernel, rfl, by decide +kernel, by decide +kernel⟩
abbrev s_Objects_image : Stmt := inClass (top 4) 11
theorem sc_Objects_image : FnScope ns_Objects_image ["self"] (defScope s_Objects_image) := ⟨rfl, rfl, rfl, by decide +kernel, rfl, by decide +kernel, by decide +kernel⟩
abbrev s_Objects_has : Stmt := inClass (top 4) 3
theorem sc_Objects_has : FnScope ns_Objects_has ["self", "object_id"] (defScope s_Objects_has) := ⟨rfl, rfl, rfl, by decide +kernel, rfl, by decide +kernel, by decide +kernel⟩
abbrev s_Objects_keep : Stmt := inClass (top 4) 10
theorem sc_Objects_keep : FnScope ns_Objects_keep ["self", "ids"] (defScope s_Objects_keep) := ⟨rfl, rfl, rfl, by decide +kernel, rfl, by decide +kernel, by decide +kernel⟩
abbrev s_l_put : Stmt := top 12
theorem sc_l_put : FnScope ns_l_put ["slots", "slot"] (defScope s_l_put) := ⟨rfl, rfl, rfl, by decide +kernel, rfl, by decide +kernel, by decide +kernel⟩
abbrev s_l_parents : Stmt := top 13
theorem sc_l_parents : FnScope ns_l_parents ["slots"] (defScope s_l_parents) := ⟨rfl, rfl, rfl, by decide +kernel, rfl, by decide +kernel, by decide +kernel⟩
abbrev s_l_alike : Stmt := top 14
theorem sc_l_alike : FnScope ns_l_alike ["objects", "model"] (defScope s_l_alike) := ⟨rfl, rfl, rfl, by decide +kernel, rfl, by decide +kernel, by decide +kernel⟩
abbrev s_l_make : Stmt := top 15
theorem sc_l_make : FnScope ns_l_make ["draws", "objects", "model"] (defScope s_l_make) := ⟨rfl, rfl, rfl, by decide +kernel, rfl, by decide +kernel, by decide +kernel⟩
abbrev s_l_keep : Stmt := top 16
theorem sc_l_keep : FnScope ns_l_keep ["draws", "objects", "model"] (defScope s_l_keep) := ⟨rfl, rfl, rfl, by decide +kernel, rfl, by decide +kernel, by decide +kernel⟩
abbrev s_l_deed : Stmt := top 17
theorem sc_l_deed : FnScope ns_l_deed ["draws", "objects", "model"] (defScope s_l_deed) := ⟨rfl, rfl, rfl, by decide +kernel, rfl, by decide +kernel, by decide +kernel⟩
abbrev s_law : Stmt := top 18
theorem sc_law : FnScope ns_law ["script"] (defScope s_law) := ⟨rfl, rfl, rfl, by decide +kernel, rfl, by decide +kernel, by decide +kernel⟩
structure Txt (P : Program) (w : World) (K : PySem.W.Frag) (mg : Str → Option Value) : Prop where
  free_range : mg ("range" : Str) = none
  free_min : mg ("min" : Str) = none
  free_len : mg ("len" : Str) = none
  free_abs : mg ("abs" : Str) = none
  free_int : mg ("int" : Str) = none
  glo__law_draws : mg ("_law_draws" : Str) = some (.ref (He.ga K ("_law_draws" : Str)))
  glo__law_next : mg ("_law_next" : Str) = some (.ref (He.ga K ("_law_next" : Str)))
  glo_PARENT_KINDS : mg ("PARENT_KINDS" : Str) = some (.ref (He.ga K ("PARENT_KINDS" : Str)))
  free_tuple : mg ("tuple" : Str) = none
  cls_Objects : Cls K (He.ga K ("Objects" : Str))
  meth_Objects_put : Meth K (He.ga K ("Objects" : Str)) ("put" : Str) (He.ma K (He.ga K ("Objects" : Str)) ("put" : Str))
  int_LOBBY : ∃ t, mg ("LOBBY" : Str) = some (.int 0 t)
  meth_Objects_make : Meth K (He.ga K ("Objects" : Str)) ("make" : Str) (He.ma K (He.ga K ("Objects" : Str)) ("make" : Str))
  free_list : mg ("list" : Str) = none
  meth_Objects_ids : Meth K (He.ga K ("Objects" : Str)) ("ids" : Str) (He.ma K (He.ga K ("Objects" : Str)) ("ids" : Str))
  meth_Objects_slots : Meth K (He.ga K ("Objects" : Str)) ("slots" : Str) (He.ma K (He.ga K ("Objects" : Str)) ("slots" : Str))
  free_set : mg ("set" : Str) = none
  free_sorted : mg ("sorted" : Str) = none
  free_isinstance : mg ("isinstance" : Str) = none
  meth_Objects_image : Meth K (He.ga K ("Objects" : Str)) ("image" : Str) (He.ma K (He.ga K ("Objects" : Str)) ("image" : Str))
  meth_Objects_has : Meth K (He.ga K ("Objects" : Str)) ("has" : Str) (He.ma K (He.ga K ("Objects" : Str)) ("has" : Str))
  free_bool : mg ("bool" : Str) = none
  glo__law_parents : mg ("_law_parents" : Str) = some (.ref (He.ga K ("_law_parents" : Str)))
  meth_Objects_parents : Meth K (He.ga K ("Objects" : Str)) ("parents" : Str) (He.ma K (He.ga K ("Objects" : Str)) ("parents" : Str))
  meth_Objects_slot : Meth K (He.ga K ("Objects" : Str)) ("slot" : Str) (He.ma K (He.ga K ("Objects" : Str)) ("slot" : Str))
  glo__law_name : mg ("_law_name" : Str) = some (.ref (He.ga K ("_law_name" : Str)))
  glo__law_kind : mg ("_law_kind" : Str) = some (.ref (He.ga K ("_law_kind" : Str)))
  glo__law_value : mg ("_law_value" : Str) = some (.ref (He.ga K ("_law_value" : Str)))
  glo__law_put : mg ("_law_put" : Str) = some (.ref (He.ga K ("_law_put" : Str)))
  meth_Objects_keep : Meth K (He.ga K ("Objects" : Str)) ("keep" : Str) (He.ma K (He.ga K ("Objects" : Str)) ("keep" : Str))
  free_dict : mg ("dict" : Str) = none
  glo__law_make : mg ("_law_make" : Str) = some (.ref (He.ga K ("_law_make" : Str)))
  meth_Objects_drop : Meth K (He.ga K ("Objects" : Str)) ("drop" : Str) (He.ma K (He.ga K ("Objects" : Str)) ("drop" : Str))
  meth_Objects_assign : Meth K (He.ga K ("Objects" : Str)) ("assign" : Str) (He.ma K (He.ga K ("Objects" : Str)) ("assign" : Str))
  glo__law_keep : mg ("_law_keep" : Str) = some (.ref (He.ga K ("_law_keep" : Str)))
  glo__law_reader : mg ("_law_reader" : Str) = some (.ref (He.ga K ("_law_reader" : Str)))
  glo_Objects : mg ("Objects" : Str) = some (.ref (He.ga K ("Objects" : Str)))
  mkr_Objects : Mk K (He.ga K ("Objects" : Str)) (He.ma K (He.ga K ("Objects" : Str)) "__init__")
  glo_KINDS : mg ("KINDS" : Str) = some (.ref (He.ga K ("KINDS" : Str)))
  glo__law_alike : mg ("_law_alike" : Str) = some (.ref (He.ga K ("_law_alike" : Str)))
  glo__law_deed : mg ("_law_deed" : Str) = some (.ref (He.ga K ("_law_deed" : Str)))
  glo_law : mg ("law" : Str) = some (.ref (He.ga K ("law" : Str)))
  noat_Objects_table : NoAttr K (He.ga K ("Objects" : Str)) ("table" : Str)
  noat_Objects_next_id : NoAttr K (He.ga K ("Objects" : Str)) ("next_id" : Str)
  d_l_draws : ∃ fd, FunD K ("_law_draws" : Str) ("_law_draws" : Str) (defArgs s_l_draws) (defBody s_l_draws) (defScope s_l_draws) [] [] (He.ga K ("_law_draws" : Str)) fd
  d_l_reader : ∃ fd, FunD K ("_law_reader" : Str) ("_law_reader" : Str) (defArgs s_l_reader) (defBody s_l_reader) (defScope s_l_reader) [] [] (He.ga K ("_law_reader" : Str)) fd
  d_l_next : ∃ fd, FunD K ("_law_next" : Str) ("_law_next" : Str) (defArgs s_l_next) (defBody s_l_next) (defScope s_l_next) [] [] (He.ga K ("_law_next" : Str)) fd
  d_l_value : ∃ fd, FunD K ("_law_value" : Str) ("_law_value" : Str) (defArgs s_l_value) (defBody s_l_value) (defScope s_l_value) [] [] (He.ga K ("_law_value" : Str)) fd
  d_l_kind : ∃ fd, FunD K ("_law_kind" : Str) ("_law_kind" : Str) (defArgs s_l_kind) (defBody s_l_kind) (defScope s_l_kind) [] [] (He.ga K ("_law_kind" : Str)) fd
  d_l_name : ∃ fd, FunD K ("_law_name" : Str) ("_law_name" : Str) (defArgs s_l_name) (defBody s_l_name) (defScope s_l_name) [] [] (He.ga K ("_law_name" : Str)) fd
  d_Objects_slot : ∃ fd, FunD K ("slot" : Str) ("Objects.slot" : Str) (defArgs s_Objects_slot) (defBody s_Objects_slot) (defScope s_Objects_slot) [] [] (He.ma K (He.ga K ("Objects" : Str)) ("slot" : Str)) fd
  d_Objects_put : ∃ fd, FunD K ("put" : Str) ("Objects.put" : Str) (defArgs s_Objects_put) (defBody s_Objects_put) (defScope s_Objects_put) [] [] (He.ma K (He.ga K ("Objects" : Str)) ("put" : Str)) fd
  d_Objects_drop : ∃ fd, FunD K ("drop" : Str) ("Objects.drop" : Str) (defArgs s_Objects_drop) (defBody s_Objects_drop) (defScope s_Objects_drop) [] [] (He.ma K (He.ga K ("Objects" : Str)) ("drop" : Str)) fd
  d_Objects_assign : ∃ fd, FunD K ("assign" : Str) ("Objects.assign" : Str) (defArgs s_Objects_assign) (defBody s_Objects_assign) (defScope s_Objects_assign) [] [] (He.ma K (He.ga K ("Objects" : Str)) ("assign" : Str)) fd
  d_Objects_parents : ∃ fd, FunD K ("parents" : Str) ("Objects.parents" : Str) (defArgs s_Objects_parents) (defBody s_Objects_parents) (defScope s_Objects_parents) [] [] (He.ma K (He.ga K ("Objects" : Str)) ("parents" : Str)) fd
  d_Objects_make : ∃ fd, FunD K ("make" : Str) ("Objects.make" : Str) (defArgs s_Objects_make) (defBody s_Objects_make) (defScope s_Objects_make) [] [] (He.ma K (He.ga K ("Objects" : Str)) ("make" : Str)) fd
  d_Objects_init : ∃ fd, FunD K ("__init__" : Str) ("Objects.__init__" : Str) (defArgs s_Objects_init) (defBody s_Objects_init) (defScope s_Objects_init) [] [] (He.ma K (He.ga K ("Objects" : Str)) ("__init__" : Str)) fd
  d_Objects_ids : ∃ fd, FunD K ("ids" : Str) ("Objects.ids" : Str) (defArgs s_Objects_ids) (defBody s_Objects_ids) (defScope s_Objects_ids) [] [] (He.ma K (He.ga K ("Objects" : Str)) ("ids" : Str)) fd
  d_Objects_slots : ∃ fd, FunD K ("slots" : Str) ("Objects.slots" : Str) (defArgs s_Objects_slots) (defBody s_Objects_slots) (defScope s_Objects_slots) [] [] (He.ma K (He.ga K ("Objects" : Str)) ("slots" : Str)) fd
  d_Objects_image : ∃ fd, FunD K ("image" : Str) ("Objects.image" : Str) (defArgs s_Objects_image) (defBody s_Objects_image) (defScope s_Objects_image) [] [] (He.ma K (He.ga K ("Objects" : Str)) ("image" : Str)) fd
  d_Objects_has : ∃ fd, FunD K ("has" : Str) ("Objects.has" : Str) (defArgs s_Objects_has) (defBody s_Objects_has) (defScope s_Objects_has) [] [] (He.ma K (He.ga K ("Objects" : Str)) ("has" : Str)) fd
  d_Objects_keep : ∃ fd, FunD K ("keep" : Str) ("Objects.keep" : Str) (defArgs s_Objects_keep) (defBody s_Objects_keep) (defScope s_Objects_keep) [] [] (He.ma K (He.ga K ("Objects" : Str)) ("keep" : Str)) fd
  d_l_put : ∃ fd, FunD K ("_law_put" : Str) ("_law_put" : Str) (defArgs s_l_put) (defBody s_l_put) (defScope s_l_put) [] [] (He.ga K ("_law_put" : Str)) fd
  d_l_parents : ∃ fd, FunD K ("_law_parents" : Str) ("_law_parents" : Str) (defArgs s_l_parents) (defBody s_l_parents) (defScope s_l_parents) [] [] (He.ga K ("_law_parents" : Str)) fd
  d_l_alike : ∃ fd, FunD K ("_law_alike" : Str) ("_law_alike" : Str) (defArgs s_l_alike) (defBody s_l_alike) (defScope s_l_alike) [] [] (He.ga K ("_law_alike" : Str)) fd
  d_l_make : ∃ fd, FunD K ("_law_make" : Str) ("_law_make" : Str) (defArgs s_l_make) (defBody s_l_make) (defScope s_l_make) [] [] (He.ga K ("_law_make" : Str)) fd
  d_l_keep : ∃ fd, FunD K ("_law_keep" : Str) ("_law_keep" : Str) (defArgs s_l_keep) (defBody s_l_keep) (defScope s_l_keep) [] [] (He.ga K ("_law_keep" : Str)) fd
  d_l_deed : ∃ fd, FunD K ("_law_deed" : Str) ("_law_deed" : Str) (defArgs s_l_deed) (defBody s_l_deed) (defScope s_l_deed) [] [] (He.ga K ("_law_deed" : Str)) fd
  d_law : ∃ fd, FunD K ("law" : Str) ("law" : Str) (defArgs s_law) (defBody s_law) (defScope s_law) [] [] (He.ga K ("law" : Str)) fd
  pk : ∀ H, SqT K H (He.ga K ("PARENT_KINDS" : Str)) (["parent", "varparent"].map mS)
  kk : ∀ H, SqT K H (He.ga K ("KINDS" : Str)) (["const", "var", "parent", "varparent", "method"].map mS)
theorem Txt.ob {P : Program} {w : World} {K : PySem.W.Frag} {mg : Str → Option Value} (T : Txt P w K mg) : ObC K := ⟨T.cls_Objects, T.noat_Objects_table, T.noat_Objects_next_id⟩
section
variable {P : Program} {w : World} {K : PySem.W.Frag} {mg : Str → Option Value} {base : Heap}
theorem ok_l_draws (T : Txt P w K mg) {fd : FuncData} (F : FunD K ("_law_draws" : Str) ("_law_draws" : Str) (defArgs s_l_draws) (defBody s_l_draws) (defScope s_l_draws) [] [] (He.ga K ("_law_draws" : Str)) fd) : Def P w K mg base 1 (He.ga K ("_law_draws" : Str)) fd ["script"] (sp_l_draws K) := by
  refine ⟨F.ok (CX := L2.CX P w) sc_l_draws (fun vs H Q E h => ?_) (fun cdv A outer s H vs Q E hr h => ⟨t_l_draws K E, ?_, run_l_draws h⟩), F.bindsN fun _ _ _ _ _ _ us hl => match us, hl with | [_], _ => rfl, F.kp⟩
  · obtain ⟨_, _, rfl, _⟩ := h
    rfl
  · exact (pss_cons (ps_set (i := 1) sc_l_draws.nd rfl (Or.inl rfl) (pe_lst pa_nil))
      (pss_cons (ps_for (passes_of rfl) rfl (pi_range1 (by rfl) T.free_range (pa_cons (pe_callB (call_min2 rfl) (by rfl) T.free_min (by decide +kernel) (pa_cons (pe_callB call_len (by rfl) T.free_len (by decide +kernel) (pa_cons (pv 0) pa_nil)) (pa_cons pe_int pa_nil))) pa_nil)) (pg_name (i := 2) sc_l_draws.nd rfl (Or.inl rfl)) (pss_cons (ps_set (i := 3) sc_l_draws.nd rfl (Or.inl rfl) (pe_callB call_abs (by rfl) T.free_abs (by decide +kernel) (pa_cons (pe_ix ix_list (pv 0) (pv 2) (fun _ _ => rfl)) pa_nil)))
      (pss_one (ps_if (pt_cmpR op_ge (pv 3) (pe_op op_pow pe_int pe_int) (nomark _)) (pss_one (ps_for (passes_of rfl) rfl (pi_range1 (by rfl) T.free_range (pa_cons pe_int pa_nil)) (pg_name (i := 4) sc_l_draws.nd rfl (Or.inl rfl)) (pss_one (ps_if (pt_cmpR op_gt (pv 3) pe_int (nomark _)) (pss_cons (ps_expr (pe_bm PySem.F.plainAttrs_list PySem.F.slot_list_append PySem.F.type_list_append mt_append (pv 1) (pa_cons (pe_op op_mod (pv 3) pe_int) pa_nil)))
      (pss_one (ps_set (i := 3) sc_l_draws.nd rfl (Or.inl rfl) (pe_op op_fdiv (pv 3) pe_int)))) pss_nil)))) (pss_cons (ps_set (i := 5) sc_l_draws.nd rfl (Or.inl rfl) (pe_op op_mod (pe_callTy call_int1 (by rfl) T.free_int (by decide +kernel) (pa_cons (pe_op op_add (pe_op op_add (pe_op op_mul (pe_ix ix_list (pv 0) (pv 2) (fun _ _ => rfl)) pe_int) (pe_op op_mul (pv 2) pe_int)) pe_int) pa_nil)) pe_int))
      (pss_one (ps_for (passes_of rfl) rfl (pi_range1 (by rfl) T.free_range (pa_cons pe_int pa_nil)) (pg_name (i := 4) sc_l_draws.nd rfl (Or.inl rfl)) (pss_cons (ps_set (i := 5) sc_l_draws.nd rfl (Or.inl rfl) (pe_op op_mod (pe_callTy call_int1 (by rfl) T.free_int (by decide +kernel) (pa_cons (pe_op op_add (pe_op op_add (pe_op op_mul (pv 5) (pv 5)) (pe_op op_mul (pv 4) pe_int)) pe_int) pa_nil)) pe_int))
      (pss_one (ps_expr (pe_bm PySem.F.plainAttrs_list PySem.F.slot_list_append PySem.F.type_list_append mt_append (pv 1) (pa_cons (pe_op op_mod (pv 5) pe_int) pa_nil))))))))))))
      (pss_one (ps_ret (pv 1)))))
theorem ok_l_reader (T : Txt P w K mg) {fd : FuncData} (F : FunD K ("_law_reader" : Str) ("_law_reader" : Str) (defArgs s_l_reader) (defBody s_l_reader) (defScope s_l_reader) [] [] (He.ga K ("_law_reader" : Str)) fd) : Def P w K mg base 2 (He.ga K ("_law_reader" : Str)) fd ["script"] (sp_l_reader K) := by
  obtain ⟨fd_l_draws, F_l_draws⟩ := T.d_l_draws
  have G_l_draws := ok_l_draws (P := P) (w := w) (base := base) T F_l_draws
  refine ⟨F.ok (CX := L2.CX P w) sc_l_reader (fun vs H Q E h => ?_) (fun cdv A outer s H vs Q E hr h => ⟨t_l_reader K E, ?_, run_l_reader h⟩), F.bindsN fun _ _ _ _ _ _ us hl => match us, hl with | [_], _ => rfl, F.kp⟩
  · obtain ⟨_, _, rfl, _⟩ := h
    rfl
  · exact (pss_cons (ps_set (i := 1) sc_l_reader.nd rfl (Or.inl rfl) (pe_call G_l_draws.fn (hr.mono (by decide)) rfl T.glo__law_draws G_l_draws.kp G_l_draws.bd .nil (passE (takes_of rfl rfl rfl rfl)) (pa_cons (pv 0) pa_nil)))
      (pss_cons (ps_set (i := 2) sc_l_reader.nd rfl (Or.inl rfl) pe_int)
      (pss_cons (ps_if (pt_cmpR op_gt (pe_callB call_len (by rfl) T.free_len (by decide +kernel) (pa_cons (pv 0) pa_nil)) pe_int (nomark _)) (pss_one (ps_set (i := 2) sc_l_reader.nd rfl (Or.inl rfl) (pe_op op_mod (pe_callB call_abs (by rfl) T.free_abs (by decide +kernel) (pa_cons (pe_ix ix_list (pv 0) (pe_un un_neg pe_int) (fun _ _ => rfl)) pa_nil)) pe_int))) pss_nil)
      (pss_one (ps_ret (pe_disp (pps_cons pe_str (pv 1) (pps_cons pe_str pe_int (pps_cons pe_str (pv 2) pps_nil))) (by rfl) (by rfl) (fun z => by cases z) (by decide)))))))
theorem ok_l_next (T : Txt P w K mg) {fd : FuncData} (F : FunD K ("_law_next" : Str) ("_law_next" : Str) (defArgs s_l_next) (defBody s_l_next) (defScope s_l_next) [] [] (He.ga K ("_law_next" : Str)) fd) : Def P w K mg base 1 (He.ga K ("_law_next" : Str)) fd ["draws", "many"] (sp_l_next K) := by
  refine ⟨F.ok (CX := L2.CX P w) sc_l_next (fun vs H Q E h => ?_) (fun cdv A outer s H vs Q E hr h => ⟨t_l_next K E, ?_, run_l_next h⟩), F.bindsN fun _ _ _ _ _ _ us hl => match us, hl with | [_, _], _ => rfl, F.kp⟩
  · obtain ⟨_, _, rfl, _⟩ := h
    rfl
  · have hu := hu_of hr
    exact (pss_cons (ps_set (i := 2) sc_l_next.nd rfl (Or.inl rfl) (pe_dget hu (pv 0) pe_str (fun _ _ => rfl)))
      (pss_cons (ps_dput hu (pv 0) pe_str (pe_op op_add (pv 2) pe_int) rfl)
      (pss_cons (ps_if (pt_cmpR op_lt (pv 2) (pe_callB call_len (by rfl) T.free_len (by decide +kernel) (pa_cons (pe_dget hu (pv 0) pe_str (fun _ _ => rfl)) pa_nil)) (nomark _)) (pss_one (ps_ret (pe_op op_mod (pe_ix ix_list (pe_dget hu (pv 0) pe_str (fun _ _ => rfl)) (pv 2) (fun _ _ => rfl)) (pv 1)))) pss_nil)
      (pss_cons (ps_set (i := 3) sc_l_next.nd rfl (Or.inl rfl) (pe_op op_mod (pe_callTy call_int1 (by rfl) T.free_int (by decide +kernel) (pa_cons (pe_op op_mul (pe_op op_add (pe_op op_add (pe_dget hu (pv 0) pe_str (fun _ _ => rfl)) (pe_op op_mul pe_int (pv 2))) pe_int) pe_int) pa_nil)) pe_int))
      (pss_one (ps_ret (pe_op op_mod (pe_op op_fdiv (pe_op op_mod (pe_callTy call_int1 (by rfl) T.free_int (by decide +kernel) (pa_cons (pe_op op_add (pe_op op_mul (pv 3) (pv 3)) (pv 2)) pa_nil)) pe_int) pe_int) (pv 1))))))))
theorem ok_l_value (T : Txt P w K mg) {fd : FuncData} (F : FunD K ("_law_value" : Str) ("_law_value" : Str) (defArgs s_l_value) (defBody s_l_value) (defScope s_l_value) [] [] (He.ga K ("_law_value" : Str)) fd) : Def P w K mg base 2 (He.ga K ("_law_value" : Str)) fd ["draws", "many"] (sp_l_value K) := by
  obtain ⟨fd_l_next, F_l_next⟩ := T.d_l_next
  have G_l_next := ok_l_next (P := P) (w := w) (base := base) T F_l_next
  refine ⟨F.ok (CX := L2.CX P w) sc_l_value (fun vs H Q E h => ?_) (fun cdv A outer s H vs Q E hr h => ⟨t_l_value K E, ?_, run_l_value h⟩), F.bindsN fun _ _ _ _ _ _ us hl => match us, hl with | [_, _], _ => rfl, F.kp⟩
  · obtain ⟨_, _, rfl, _⟩ := h
    rfl
  · exact (pss_cons (ps_set (i := 2) sc_l_value.nd rfl (Or.inl rfl) (pe_call G_l_next.fn (hr.mono (by decide)) rfl T.glo__law_next G_l_next.kp G_l_next.bd .nil (passE (takes_of rfl rfl rfl rfl)) (pa_cons (pv 0) (pa_cons pe_int pa_nil))))
      (pss_cons (ps_if (pt_cmpR op_lt (pv 2) pe_int (nomark _)) (pss_one (ps_ret (pe_tup (pa_cons pe_str (pa_cons (pe_call G_l_next.fn (hr.mono (by decide)) rfl T.glo__law_next G_l_next.kp G_l_next.bd .nil (passE (takes_of rfl rfl rfl rfl)) (pa_cons (pv 0) (pa_cons (pv 1) pa_nil))) pa_nil))))) pss_nil)
      (pss_one (ps_ret (pe_ix ix_list (pe_lst (pa_cons (pe_tup (pa_cons pe_str (pa_cons (pe_call G_l_next.fn (hr.mono (by decide)) rfl T.glo__law_next G_l_next.kp G_l_next.bd .nil (passE (takes_of rfl rfl rfl rfl)) (pa_cons (pv 0) (pa_cons pe_int pa_nil))) pa_nil))) (pa_cons (pe_tup (pa_cons pe_str pa_nil)) (pa_cons (pe_tup (pa_cons pe_str (pa_cons (pe_call G_l_next.fn (hr.mono (by decide)) rfl T.glo__law_next G_l_next.kp G_l_next.bd .nil (passE (takes_of rfl rfl rfl rfl)) (pa_cons (pv 0) (pa_cons pe_int pa_nil))) pa_nil))) (pa_cons (pe_tup (pa_cons pe_str (pa_cons pe_int pa_nil))) pa_nil))))) (pe_op op_sub (pv 2) pe_int) (fun _ _ => rfl))))))
theorem ok_l_kind (T : Txt P w K mg) {fd : FuncData} (F : FunD K ("_law_kind" : Str) ("_law_kind" : Str) (defArgs s_l_kind) (defBody s_l_kind) (defScope s_l_kind) [] [] (He.ga K ("_law_kind" : Str)) fd) : Def P w K mg base 2 (He.ga K ("_law_kind" : Str)) fd ["draws"] (sp_l_kind K) := by
  obtain ⟨fd_l_next, F_l_next⟩ := T.d_l_next
  have G_l_next := ok_l_next (P := P) (w := w) (base := base) T F_l_next
  refine ⟨F.ok (CX := L2.CX P w) sc_l_kind (fun vs H Q E h => ?_) (fun cdv A outer s H vs Q E hr h => ⟨t_l_kind K E, ?_, run_l_kind h⟩), F.bindsN fun _ _ _ _ _ _ us hl => match us, hl with | [_], _ => rfl, F.kp⟩
  · obtain ⟨_, rfl, _⟩ := h
    rfl
  · exact (pss_one (ps_ret (pe_ix ix_list (pe_lst (pa_cons pe_str (pa_cons pe_str (pa_cons pe_str (pa_cons pe_str (pa_cons pe_str (pa_cons pe_str (pa_cons pe_str pa_nil)))))))) (pe_call G_l_next.fn (hr.mono (by decide)) rfl T.glo__law_next G_l_next.kp G_l_next.bd .nil (passE (takes_of rfl rfl rfl rfl)) (pa_cons (pv 0) (pa_cons pe_int pa_nil))) (fun _ _ => rfl))))
theorem ok_l_name (T : Txt P w K mg) {fd : FuncData} (F : FunD K ("_law_name" : Str) ("_law_name" : Str) (defArgs s_l_name) (defBody s_l_name) (defScope s_l_name) [] [] (He.ga K ("_law_name" : Str)) fd) : Def P w K mg base 2 (He.ga K ("_law_name" : Str)) fd ["draws"] (sp_l_name K) := by
  obtain ⟨fd_l_next, F_l_next⟩ := T.d_l_next
  have G_l_next := ok_l_next (P := P) (w := w) (base := base) T F_l_next
  refine ⟨F.ok (CX := L2.CX P w) sc_l_name (fun vs H Q E h => ?_) (fun cdv A outer s H vs Q E hr h => ⟨t_l_name K E, ?_, run_l_name h⟩), F.bindsN fun _ _ _ _ _ _ us hl => match us, hl with | [_], _ => rfl, F.kp⟩
  · obtain ⟨_, rfl, _⟩ := h
    rfl
  · exact (pss_one (ps_ret (pe_ix ix_list (pe_lst (pa_cons pe_str (pa_cons pe_str (pa_cons pe_str (pa_cons pe_str (pa_cons pe_str (pa_cons pe_str pa_nil))))))) (pe_call G_l_next.fn (hr.mono (by decide)) rfl T.glo__law_next G_l_next.kp G_l_next.bd .nil (passE (takes_of rfl rfl rfl rfl)) (pa_cons (pv 0) (pa_cons pe_int pa_nil))) (fun _ _ => rfl))))
theorem ok_Objects_slot (T : Txt P w K mg) {fd : FuncData} (F : FunD K ("slot" : Str) ("Objects.slot" : Str) (defArgs s_Objects_slot) (defBody s_Objects_slot) (defScope s_Objects_slot) [] [] (He.ma K (He.ga K ("Objects" : Str)) ("slot" : Str)) fd) : Def P w K mg base 1 (He.ma K (He.ga K ("Objects" : Str)) ("slot" : Str)) fd ["self", "object_id", "name"] (sp_Objects_slot K) := by
  refine ⟨F.ok (CX := L2.CX P w) sc_Objects_slot (fun vs H Q E h => ?_) (fun cdv A outer s H vs Q E hr h => ⟨t_Objects_slot K E, ?_, run_Objects_slot T.ob h⟩), F.bindsN fun _ _ _ _ _ _ us hl => match us, hl with | [_, _, _], _ => rfl, F.kp⟩
  · obtain ⟨_, _, _, _, _, _, _, rfl, _⟩ := h
    rfl
  · have hu := hu_of hr
    exact (pss_one (ps_ret (pe_dget1 hu (pe_dget hu (pe_fld (pv 0) rfl) (pv 1) (fun _ _ => rfl)) (pv 2) ⟨rfl, rfl, rfl, rfl⟩)))
theorem ok_Objects_put (T : Txt P w K mg) {fd : FuncData} (F : FunD K ("put" : Str) ("Objects.put" : Str) (defArgs s_Objects_put) (defBody s_Objects_put) (defScope s_Objects_put) [] [] (He.ma K (He.ga K ("Objects" : Str)) ("put" : Str)) fd) : Def P w K mg base 1 (He.ma K (He.ga K ("Objects" : Str)) ("put" : Str)) fd ["self", "object_id", "name", "kind", "value"] (sp_Objects_put K) := by
  refine ⟨F.ok (CX := L2.CX P w) sc_Objects_put (fun vs H Q E h => ?_) (fun cdv A outer s H vs Q E hr h => ⟨t_Objects_put K E, ?_, run_Objects_put T.ob h⟩), F.bindsN fun _ _ _ _ _ _ us hl => match us, hl with | [_, _, _, _, _], _ => rfl, F.kp⟩
  · obtain ⟨_, _, _, _, _, _, _, _, _, _, rfl, _⟩ := h
    rfl
  · have hu := hu_of hr
    exact (pss_one (ps_dput hu (pe_dget hu (pe_fld (pv 0) rfl) (pv 1) (fun _ _ => rfl)) (pv 2) (pe_tup (pa_cons (pv 3) (pa_cons (pv 4) pa_nil))) rfl))
theorem ok_Objects_drop (T : Txt P w K mg) {fd : FuncData} (F : FunD K ("drop" : Str) ("Objects.drop" : Str) (defArgs s_Objects_drop) (defBody s_Objects_drop) (defScope s_Objects_drop) [] [] (He.ma K (He.ga K ("Objects" : Str)) ("drop" : Str)) fd) : Def P w K mg base 1 (He.ma K (He.ga K ("Objects" : Str)) ("drop" : Str)) fd ["self", "object_id", "name"] (sp_Objects_drop K) := by
  refine ⟨F.ok (CX := L2.CX P w) sc_Objects_drop (fun vs H Q E h => ?_) (fun cdv A outer s H vs Q E hr h => ⟨t_Objects_drop K E, ?_, run_Objects_drop T.ob h⟩), F.bindsN fun _ _ _ _ _ _ us hl => match us, hl with | [_, _, _], _ => rfl, F.kp⟩
  · obtain ⟨_, _, _, _, _, _, _, rfl, _⟩ := h
    rfl
  · have hu := hu_of hr
    exact (pss_cons (ps_if (pt_cmp (pc_dnotin hu (pv 2) (pe_dget hu (pe_fld (pv 0) rfl) (pv 1) (fun _ _ => rfl)))) (pss_one (ps_ret pe_bl)) pss_nil)
      (pss_cons (ps_ddel (pe_dget hu (pe_fld (pv 0) rfl) (pv 1) (fun _ _ => rfl)) (pv 2))
      (pss_one (ps_ret pe_bl))))
theorem ok_Objects_assign (T : Txt P w K mg) {fd : FuncData} (F : FunD K ("assign" : Str) ("Objects.assign" : Str) (defArgs s_Objects_assign) (defBody s_Objects_assign) (defScope s_Objects_assign) [] [] (He.ma K (He.ga K ("Objects" : Str)) ("assign" : Str)) fd) : Def P w K mg base 1 (He.ma K (He.ga K ("Objects" : Str)) ("assign" : Str)) fd ["self", "object_id", "name", "value"] (sp_Objects_assign K) := by
  refine ⟨F.ok (CX := L2.CX P w) sc_Objects_assign (fun vs H Q E h => ?_) (fun cdv A outer s H vs Q E hr h => ⟨t_Objects_assign K E, ?_, run_Objects_assign T.ob h⟩), F.bindsN fun _ _ _ _ _ _ us hl => match us, hl with | [_, _, _, _], _ => rfl, F.kp⟩
  · obtain ⟨_, _, _, _, _, _, _, _, _, _, rfl, _⟩ := h
    rfl
  · have hu := hu_of hr
    exact (pss_cons (ps_asg (pe_dget hu (pe_dget hu (pe_fld (pv 0) rfl) (pv 1) (fun _ _ => rfl)) (pv 2) (fun _ _ => rfl)) (pg_tup rfl (pgs_cons (pg_name (i := 4) sc_Objects_assign.nd rfl (Or.inl rfl)) (pgs_cons (pg_name (i := 5) sc_Objects_assign.nd rfl (Or.inl rfl)) pgs_nil))))
      (pss_one (ps_dput hu (pe_dget hu (pe_fld (pv 0) rfl) (pv 1) (fun _ _ => rfl)) (pv 2) (pe_tup (pa_cons (pv 4) (pa_cons (pv 3) pa_nil))) rfl)))
theorem ok_Objects_parents (T : Txt P w K mg) {fd : FuncData} (F : FunD K ("parents" : Str) ("Objects.parents" : Str) (defArgs s_Objects_parents) (defBody s_Objects_parents) (defScope s_Objects_parents) [] [] (He.ma K (He.ga K ("Objects" : Str)) ("parents" : Str)) fd) : Def P w K mg base 1 (He.ma K (He.ga K ("Objects" : Str)) ("parents" : Str)) fd ["self", "object_id"] (sp_Objects_parents K) := by
  refine ⟨F.ok (CX := L2.CX P w) sc_Objects_parents (fun vs H Q E h => ?_) (fun cdv A outer s H vs Q E hr h => ⟨t_Objects_parents K E, ?_, run_Objects_parents T.ob T.pk h⟩), F.bindsN fun _ _ _ _ _ _ us hl => match us, hl with | [_, _], _ => rfl, F.kp⟩
  · obtain ⟨_, _, _, _, _, _, rfl, _⟩ := h
    rfl
  · have hu := hu_of hr
    exact (pss_cons (ps_set (i := 2) sc_Objects_parents.nd rfl (Or.inl rfl) (pe_lst pa_nil))
      (pss_cons (ps_lock (ps_for (passes_of rfl) rfl (pi_values (pe_dget hu (pe_fld (pv 0) rfl) (pv 1) (fun _ _ => rfl))) (pg_tup rfl (pgs_cons (pg_name (i := 3) sc_Objects_parents.nd rfl (Or.inl rfl)) (pgs_cons (pg_name (i := 4) sc_Objects_parents.nd rfl (Or.inl rfl)) pgs_nil))) (pss_one (ps_if (PW.pt (pw_and (pt_cmpR op_in_seq (pv 3) (pe_glob rfl T.glo_PARENT_KINDS rfl) (by with_unfolding_all rfl)) (pw_and1 (pt_cmpR op_eq (pe_ix ix_tup (pv 4) pe_int (fun _ _ => rfl)) pe_str (nomark _))))) (pss_one (ps_expr (pe_bm PySem.F.plainAttrs_list PySem.F.slot_list_append PySem.F.type_list_append mt_append (pv 2) (pa_cons (pe_ix ix_tup (pv 4) pe_int (fun _ _ => rfl)) pa_nil)))) pss_nil))))
      (pss_one (ps_ret (pe_callTy call_tuple_of (by rfl) T.free_tuple (by decide +kernel) (pa_cons (pv 2) pa_nil))))))
theorem ok_Objects_make (T : Txt P w K mg) {fd : FuncData} (F : FunD K ("make" : Str) ("Objects.make" : Str) (defArgs s_Objects_make) (defBody s_Objects_make) (defScope s_Objects_make) [] [] (He.ma K (He.ga K ("Objects" : Str)) ("make" : Str)) fd) : Def P w K mg base 2 (He.ma K (He.ga K ("Objects" : Str)) ("make" : Str)) fd ["self", "slots"] (sp_Objects_make K) := by
  obtain ⟨fd_Objects_put, F_Objects_put⟩ := T.d_Objects_put
  have G_Objects_put := ok_Objects_put (P := P) (w := w) (base := base) T F_Objects_put
  refine ⟨F.ok (CX := L2.CX P w) sc_Objects_make (fun vs H Q E h => ?_) (fun cdv A outer s H vs Q E hr h => ⟨t_Objects_make K E, ?_, run_Objects_make T.ob h⟩), F.bindsN fun _ _ _ _ _ _ us hl => match us, hl with | [_, _], _ => rfl, F.kp⟩
  · obtain ⟨_, _, _, _, _, _, _, _, rfl, _⟩ := h
    rfl
  · have hu := hu_of hr
    exact (pss_cons (ps_set (i := 2) sc_Objects_make.nd rfl (Or.inl rfl) (pe_fld (pv 0) rfl))
      (pss_cons (ps_fldaug (pv 0) pe_int in_add)
      (pss_cons (ps_dput hu (pe_fld (pv 0) rfl) (pv 2) pe_dnewK rfl)
      (pss_cons (ps_for (passes_of rfl) rfl (pi_tup (pv 1)) (pg_tup rfl (pgs_cons (pg_name (i := 3) sc_Objects_make.nd rfl (Or.inl rfl)) (pgs_cons (pg_name (i := 4) sc_Objects_make.nd rfl (Or.inl rfl)) (pgs_cons (pg_name (i := 5) sc_Objects_make.nd rfl (Or.inl rfl)) pgs_nil)))) (pss_one (ps_expr (pe_meth (pv 0) T.cls_Objects T.meth_Objects_put G_Objects_put.fn (hr.mono (by decide)) G_Objects_put.bd .nil (passE (takes_of rfl rfl rfl rfl)) (pa_cons (pv 2) (pa_cons (pv 3) (pa_cons (pv 4) (pa_cons (pv 5) pa_nil))))))))
      (pss_one (ps_ret (pv 2)))))))
theorem ok_Objects_init (T : Txt P w K mg) {fd : FuncData} (F : FunD K ("__init__" : Str) ("Objects.__init__" : Str) (defArgs s_Objects_init) (defBody s_Objects_init) (defScope s_Objects_init) [] [] (He.ma K (He.ga K ("Objects" : Str)) ("__init__" : Str)) fd) : Def P w K mg base 3 (He.ma K (He.ga K ("Objects" : Str)) ("__init__" : Str)) fd ["self"] (sp_Objects_init K) := by
  obtain ⟨fd_Objects_make, F_Objects_make⟩ := T.d_Objects_make
  have G_Objects_make := ok_Objects_make (P := P) (w := w) (base := base) T F_Objects_make
  obtain ⟨tk_LOBBY, i_LOBBY⟩ := T.int_LOBBY
  refine ⟨F.ok (CX := L2.CX P w) sc_Objects_init (fun vs H Q E h => ?_) (fun cdv A outer s H vs Q E hr h => ⟨t_Objects_init K E, ?_, run_Objects_init T.ob h⟩), F.bindsN fun _ _ _ _ _ _ us hl => match us, hl with | [_], _ => rfl, F.kp⟩
  · obtain ⟨_, _, rfl, _⟩ := h
    rfl
  · exact (pss_cons (ps_fld (pv 0) pe_dnewK rfl)
      (pss_cons (ps_fld (pv 0) pe_int rfl)
      (pss_one (ps_expr (pe_meth (pv 0) T.cls_Objects T.meth_Objects_make G_Objects_make.fn (hr.mono (by decide)) G_Objects_make.bd .nil (passE (takes_of rfl rfl rfl rfl)) (pa_cons (pe_tup (pa_cons (pe_tup (pa_cons pe_str (pa_cons pe_str (pa_cons (pe_tup (pa_cons pe_str (pa_cons (pe_glob rfl i_LOBBY ⟨_, rfl⟩) pa_nil))) pa_nil)))) pa_nil)) pa_nil))))))
theorem ok_Objects_ids (T : Txt P w K mg) {fd : FuncData} (F : FunD K ("ids" : Str) ("Objects.ids" : Str) (defArgs s_Objects_ids) (defBody s_Objects_ids) (defScope s_Objects_ids) [] [] (He.ma K (He.ga K ("Objects" : Str)) ("ids" : Str)) fd) : Def P w K mg base 1 (He.ma K (He.ga K ("Objects" : Str)) ("ids" : Str)) fd ["self"] (sp_Objects_ids K) := by
  refine ⟨F.ok (CX := L2.CX P w) sc_Objects_ids (fun vs H Q E h => ?_) (fun cdv A outer s H vs Q E hr h => ⟨t_Objects_ids K E, ?_, run_Objects_ids T.ob h⟩), F.bindsN fun _ _ _ _ _ _ us hl => match us, hl with | [_], _ => rfl, F.kp⟩
  · obtain ⟨_, _, _, _, _, rfl, _⟩ := h
    rfl
  · exact (pss_one (ps_ret (pe_callTy (call_listD rfl) (by rfl) T.free_list (by decide +kernel) (pa_cons (pe_fld (pv 0) rfl) pa_nil))))
theorem ok_Objects_slots (T : Txt P w K mg) {fd : FuncData} (F : FunD K ("slots" : Str) ("Objects.slots" : Str) (defArgs s_Objects_slots) (defBody s_Objects_slots) (defScope s_Objects_slots) [] [] (He.ma K (He.ga K ("Objects" : Str)) ("slots" : Str)) fd) : Def P w K mg base 1 (He.ma K (He.ga K ("Objects" : Str)) ("slots" : Str)) fd ["self", "object_id"] (sp_Objects_slots K) := by
  refine ⟨F.ok (CX := L2.CX P w) sc_Objects_slots (fun vs H Q E h => ?_) (fun cdv A outer s H vs Q E hr h => ⟨t_Objects_slots K E, ?_, run_Objects_slots T.ob h⟩), F.bindsN fun _ _ _ _ _ _ us hl => match us, hl with | [_, _], _ => rfl, F.kp⟩
  · obtain ⟨_, _, _, _, _, _, rfl, _⟩ := h
    rfl
  · have hu := hu_of hr
    exact (pss_cons (ps_set (i := 2) sc_Objects_slots.nd rfl (Or.inl rfl) (pe_dget hu (pe_fld (pv 0) rfl) (pv 1) (fun _ _ => rfl)))
      (pss_one (ps_ret (pe_callTy call_tuple_of (by rfl) T.free_tuple (by decide +kernel) (pa_cons (pe_lock (pe_lc (own := [("name", 3), ("kind", 4), ("value", 5)]) (g := (gTup K 2 (gCons (gName 3) (gCons (gTup K 2 (gCons (gName 4) (gCons (gName 5) gNil))) gNil)))) (tt := tYes) rfl sc_Objects_slots.nd (pi_items (pv 2)) (blkOk_by (N := ns_Objects_slots) (sc := defScope s_Objects_slots) (by decide +kernel)) (fun _ _ _ _ _ => (pg_tup rfl (pgs_cons (pg_name (i := 3) sc_Objects_slots.nd rfl (Or.inl rfl)) (pgs_cons (pg_tup rfl (pgs_cons (pg_name (i := 4) sc_Objects_slots.nd rfl (Or.inl rfl)) (pgs_cons (pg_name (i := 5) sc_Objects_slots.nd rfl (Or.inl rfl)) pgs_nil))) pgs_nil)))) (fun _ _ _ _ _ => pts_nil) (fun _ _ _ _ _ => (pe_tup (pa_cons (pv 3) (pa_cons (pv 4) (pa_cons (pv 5) pa_nil))))))) pa_nil)))))
theorem ok_Objects_image (T : Txt P w K mg) {fd : FuncData} (F : FunD K ("image" : Str) ("Objects.image" : Str) (defArgs s_Objects_image) (defBody s_Objects_image) (defScope s_Objects_image) [] [] (He.ma K (He.ga K ("Objects" : Str)) ("image" : Str)) fd) : Def P w K mg base 2 (He.ma K (He.ga K ("Objects" : Str)) ("image" : Str)) fd ["self"] (sp_Objects_image K) := by
  obtain ⟨fd_Objects_ids, F_Objects_ids⟩ := T.d_Objects_ids
  have G_Objects_ids := ok_Objects_ids (P := P) (w := w) (base := base) T F_Objects_ids
  obtain ⟨fd_Objects_slots, F_Objects_slots⟩ := T.d_Objects_slots
  have G_Objects_slots := ok_Objects_slots (P := P) (w := w) (base := base) T F_Objects_slots
  refine ⟨F.ok (CX := L2.CX P w) sc_Objects_image (fun vs H Q E h => ?_) (fun cdv A outer s H vs Q E hr h => ⟨t_Objects_image K E, ?_, run_Objects_image T.ob h⟩), F.bindsN fun _ _ _ _ _ _ us hl => match us, hl with | [_], _ => rfl, F.kp⟩
  · obtain ⟨_, _, _, _, _, rfl, _⟩ := h
    rfl
  · exact (pss_one (ps_ret (pe_callTy call_tuple_of (by rfl) T.free_tuple (by decide +kernel) (pa_cons (pe_lc (own := [("object_id", 1)]) (g := (gName 1)) (tt := tYes) rfl sc_Objects_image.nd (pi_list (pe_meth0 (pv 0) T.cls_Objects T.meth_Objects_ids G_Objects_ids.fn (hr.mono (by decide)) G_Objects_ids.bd .nil (passE (takes_of rfl rfl rfl rfl)))) (blkOk_by (N := ns_Objects_image) (sc := defScope s_Objects_image) (by decide +kernel)) (fun _ _ _ _ _ => (pg_name (i := 1) sc_Objects_image.nd rfl (Or.inl rfl))) (fun _ _ _ _ _ => pts_nil) (fun _ _ _ _ _ => (pe_tup (pa_cons (pv 1) (pa_cons (pe_meth (pv 0) T.cls_Objects T.meth_Objects_slots G_Objects_slots.fn (hr.mono (by decide)) G_Objects_slots.bd .nil (passes_call takes0 fun _ _ _ _ h => h) (pa_cons (pv 1) pa_nil)) pa_nil))))) pa_nil))))
theorem ok_Objects_has (T : Txt P w K mg) {fd : FuncData} (F : FunD K ("has" : Str) ("Objects.has" : Str) (defArgs s_Objects_has) (defBody s_Objects_has) (defScope s_Objects_has) [] [] (He.ma K (He.ga K ("Objects" : Str)) ("has" : Str)) fd) : Def P w K mg base 1 (He.ma K (He.ga K ("Objects" : Str)) ("has" : Str)) fd ["self", "object_id"] (sp_Objects_has K) := by
  refine ⟨F.ok (CX := L2.CX P w) sc_Objects_has (fun vs H Q E h => ?_) (fun cdv A outer s H vs Q E hr h => ⟨t_Objects_has K E, ?_, run_Objects_has T.ob h⟩), F.bindsN fun _ _ _ _ _ _ us hl => match us, hl with | [_, _], _ => rfl, F.kp⟩
  · obtain ⟨_, _, _, _, _, _, rfl, _⟩ := h
    rfl
  · have hu := hu_of hr
    exact (pss_one (ps_ret (pe_cmp (pc_din hu (pv 1) (pe_fld (pv 0) rfl)))))
theorem ok_Objects_keep (T : Txt P w K mg) {fd : FuncData} (F : FunD K ("keep" : Str) ("Objects.keep" : Str) (defArgs s_Objects_keep) (defBody s_Objects_keep) (defScope s_Objects_keep) [] [] (He.ma K (He.ga K ("Objects" : Str)) ("keep" : Str)) fd) : Def P w K mg base 1 (He.ma K (He.ga K ("Objects" : Str)) ("keep" : Str)) fd ["self", "ids"] (sp_Objects_keep K) := by
  refine ⟨F.ok (CX := L2.CX P w) sc_Objects_keep (fun vs H Q E h => ?_) (fun cdv A outer s H vs Q E hr h => ⟨t_Objects_keep K P w E, ?_, run_Objects_keep T.ob h⟩), F.bindsN fun _ _ _ _ _ _ us hl => match us, hl with | [_, _], _ => rfl, F.kp⟩
  · obtain ⟨_, _, _, _, _, _, _, rfl, _⟩ := h
    rfl
  · exact (pss_cons (ps_set (i := 2) sc_Objects_keep.nd rfl (Or.inr rfl) (pe_callTy (call_setOfI rfl) (by rfl) T.free_set (by decide +kernel) (pa_cons (pv 1) pa_nil)))
      (pss_one (ps_fld (pv 0) (pe_lock (pe_dc (own := [("object_id", 3), ("pairs", 4)]) (g := (gTup K 2 (gCons (gName 3) (gCons (gName 4) gNil)))) (tt := (tTest (tOp (rSInI P w) (tVar 3) (tVar 2)))) rfl sc_Objects_keep.nd (pi_items (pe_fld (pv 0) rfl)) (blkOk_by (N := ns_Objects_keep) (sc := defScope s_Objects_keep) (by decide +kernel)) (fun _ _ _ _ _ => (pg_tup rfl (pgs_cons (pg_name (i := 3) sc_Objects_keep.nd rfl (Or.inl rfl)) (pgs_cons (pg_name (i := 4) sc_Objects_keep.nd rfl (Or.inl rfl)) pgs_nil)))) (fun _ _ _ _ _ => (pts_one (pt_cmpR op_inSI (pv 3) (pv 2) (by with_unfolding_all rfl)))) (fun _ _ _ _ _ => (pv 3)) (fun _ _ _ _ _ => (pv 4)))) rfl)))
theorem ok_l_put (T : Txt P w K mg) {fd : FuncData} (F : FunD K ("_law_put" : Str) ("_law_put" : Str) (defArgs s_l_put) (defBody s_l_put) (defScope s_l_put) [] [] (He.ga K ("_law_put" : Str)) fd) : Def P w K mg base 1 (He.ga K ("_law_put" : Str)) fd ["slots", "slot"] (sp_l_put K) := by
  refine ⟨F.ok (CX := L2.CX P w) sc_l_put (fun vs H Q E h => ?_) (fun cdv A outer s H vs Q E hr h => ⟨t_l_put K E, ?_, run_l_put h⟩), F.bindsN fun _ _ _ _ _ _ us hl => match us, hl with | [_, _], _ => rfl, F.kp⟩
  · obtain ⟨_, _, _, _, _, _, rfl, _⟩ := h
    rfl
  · exact (pss_cons (ps_setLc (i := 3) (own := [("k", 2)]) (g := (gName 2)) (tt := (tTest (tOp rEq (tOp (rIxT K) (tOp (rIxL K) (tVar 0) (tVar 2)) (tC (.int 0))) (tOp (rIxT K) (tVar 1) (tC (.int 0)))))) rfl sc_l_put.nd rfl rfl (sw_true rfl rfl rfl (by decide +kernel)) (pi_range1 (by rfl) T.free_range (pa_cons (pe_callB call_len (by rfl) T.free_len (by decide +kernel) (pa_cons (pv 0) pa_nil)) pa_nil)) (blkOk_by (N := ns_l_put) (sc := defScope s_l_put) (by decide +kernel)) (fun _ _ _ _ _ => (pg_name (i := 2) sc_l_put.nd rfl (Or.inl rfl))) (fun _ _ _ _ _ => (pts_one (pt_cmpR op_eq (pe_ix ix_tup (pe_ix ix_list (pv 0) (pv 2) (fun _ _ => rfl)) pe_int (fun _ _ => rfl)) (pe_ix ix_tup (pv 1) pe_int (fun _ _ => rfl)) (nomark _)))) (fun _ _ _ _ _ => (pv 2)))
      (pss_cons (ps_if (pt_cmpR op_gt (pe_callB call_len (by rfl) T.free_len (by decide +kernel) (pa_cons (pv 3) pa_nil)) pe_int (nomark _)) (pss_one (ps_ret (pe_op op_cat (pe_op op_cat (pe_slice sl_list (pv 0) po_none (po_some (pe_ix ix_list (pv 3) pe_int (fun _ _ => rfl)))) (pe_lst (pa_cons (pv 1) pa_nil))) (pe_slice sl_list (pv 0) (po_some (pe_op op_add (pe_ix ix_list (pv 3) pe_int (fun _ _ => rfl)) pe_int)) po_none)))) pss_nil)
      (pss_one (ps_ret (pe_op op_cat (pv 0) (pe_lst (pa_cons (pv 1) pa_nil)))))))
theorem ok_l_parents (T : Txt P w K mg) {fd : FuncData} (F : FunD K ("_law_parents" : Str) ("_law_parents" : Str) (defArgs s_l_parents) (defBody s_l_parents) (defScope s_l_parents) [] [] (He.ga K ("_law_parents" : Str)) fd) : Def P w K mg base 1 (He.ga K ("_law_parents" : Str)) fd ["slots"] (sp_l_parents K) := by
  refine ⟨F.ok (CX := L2.CX P w) sc_l_parents (fun vs H Q E h => ?_) (fun cdv A outer s H vs Q E hr h => ⟨t_l_parents K E, ?_, run_l_parents h⟩), F.bindsN fun _ _ _ _ _ _ us hl => match us, hl with | [_], _ => rfl, F.kp⟩
  · obtain ⟨_, _, _, rfl, _⟩ := h
    rfl
  · exact (pss_one (ps_ret (pe_callTy call_tuple_of (by rfl) T.free_tuple (by decide +kernel) (pa_cons (pe_lc (own := [("slot", 1)]) (g := (gName 1)) (tt := (tAnd (tTest (tOp (rIn K false) (tOp (rIxT K) (tVar 1) (tC (.int 1))) (tTup (tCons (tC (.str ("parent" : Str))) (tCons (tC (.str ("varparent" : Str))) tNil))))) (tTest (tOp rEq (tOp (rIxT K) (tOp (rIxT K) (tVar 1) (tC (.int 2))) (tC (.int 0))) (tC (.str ("ref" : Str))))))) rfl sc_l_parents.nd (pi_list (pv 0)) (blkOk_by (N := ns_l_parents) (sc := defScope s_l_parents) (by decide +kernel)) (fun _ _ _ _ _ => (pg_name (i := 1) sc_l_parents.nd rfl (Or.inl rfl))) (fun _ _ _ _ _ => (pts_one (PW.pt (pw_and (pt_cmpR op_in_seq (pe_ix ix_tup (pv 1) pe_int (fun _ _ => rfl)) (pe_tup (pa_cons pe_str (pa_cons pe_str pa_nil))) (by with_unfolding_all rfl)) (pw_and1 (pt_cmpR op_eq (pe_ix ix_tup (pe_ix ix_tup (pv 1) pe_int (fun _ _ => rfl)) pe_int (fun _ _ => rfl)) pe_str (nomark _))))))) (fun _ _ _ _ _ => (pe_ix ix_tup (pe_ix ix_tup (pv 1) pe_int (fun _ _ => rfl)) pe_int (fun _ _ => rfl)))) pa_nil))))
theorem ok_l_alike (T : Txt P w K mg) {fd : FuncData} (F : FunD K ("_law_alike" : Str) ("_law_alike" : Str) (defArgs s_l_alike) (defBody s_l_alike) (defScope s_l_alike) [] [] (He.ga K ("_law_alike" : Str)) fd) : Def P w K mg base 3 (He.ga K ("_law_alike" : Str)) fd ["objects", "model"] (sp_l_alike K) := by
  obtain ⟨fd_Objects_ids, F_Objects_ids⟩ := T.d_Objects_ids
  have G_Objects_ids := ok_Objects_ids (P := P) (w := w) (base := base) T F_Objects_ids
  obtain ⟨fd_Objects_image, F_Objects_image⟩ := T.d_Objects_image
  have G_Objects_image := ok_Objects_image (P := P) (w := w) (base := base) T F_Objects_image
  obtain ⟨fd_Objects_has, F_Objects_has⟩ := T.d_Objects_has
  have G_Objects_has := ok_Objects_has (P := P) (w := w) (base := base) T F_Objects_has
  obtain ⟨fd_Objects_slots, F_Objects_slots⟩ := T.d_Objects_slots
  have G_Objects_slots := ok_Objects_slots (P := P) (w := w) (base := base) T F_Objects_slots
  obtain ⟨fd_l_parents, F_l_parents⟩ := T.d_l_parents
  have G_l_parents := ok_l_parents (P := P) (w := w) (base := base) T F_l_parents
  obtain ⟨fd_Objects_parents, F_Objects_parents⟩ := T.d_Objects_parents
  have G_Objects_parents := ok_Objects_parents (P := P) (w := w) (base := base) T F_Objects_parents
  obtain ⟨fd_Objects_slot, F_Objects_slot⟩ := T.d_Objects_slot
  have G_Objects_slot := ok_Objects_slot (P := P) (w := w) (base := base) T F_Objects_slot
  refine ⟨F.ok (CX := L2.CX P w) sc_l_alike (fun vs H Q E h => ?_) (fun cdv A outer s H vs Q E hr h => ⟨t_l_alike K E, ?_, run_l_alike h⟩), F.bindsN fun _ _ _ _ _ _ us hl => match us, hl with | [_, _], _ => rfl, F.kp⟩
  · obtain ⟨_, _, _, _, _, _, _, _, rfl, _⟩ := h
    rfl
  · have hu := hu_of hr
    exact (pss_cons (ps_set (i := 2) sc_l_alike.nd rfl (Or.inl rfl) (pe_callB (call_sortedDI rfl) (by rfl) T.free_sorted (by decide +kernel) (pa_cons (pe_dget hu (pv 1) pe_str (fun _ _ => rfl)) pa_nil)))
      (pss_cons (ps_set (i := 3) sc_l_alike.nd rfl (Or.inl rfl) (pe_meth0 (pv 0) T.cls_Objects T.meth_Objects_ids G_Objects_ids.fn (hr.mono (by decide)) G_Objects_ids.bd .nil (passE (takes_of rfl rfl rfl rfl))))
      (pss_cons (ps_if (PW.pt (pw_or (pt_cmpR (op_neD hr.units) (pv 3) (pv 2) (nomark _)) (pw_or1 (pt_not (pt_val (pe_callB call_isi (by rfl) T.free_isinstance (by decide +kernel) (pa_cons (pv 3) (pa_cons (pe_bltn (v := .ty "list") (by rfl) T.free_list (by decide +kernel) rfl) pa_nil)))))))) (pss_one (ps_ret pe_bl)) pss_nil)
      (pss_cons (ps_expr (pe_bm PySem.F.plainAttrs_list PySem.F.slot_list_append PySem.F.type_list_append mt_append (pv 3) (pa_cons pe_int pa_nil)))
      (pss_cons (ps_if (pt_cmpR (op_neD hr.units) (pe_meth0 (pv 0) T.cls_Objects T.meth_Objects_image G_Objects_image.fn (hr.mono (by decide)) G_Objects_image.bd .nil (passE (takes_of rfl rfl rfl rfl))) (pe_callTy call_tuple_of (by rfl) T.free_tuple (by decide +kernel) (pa_cons (pe_lc (own := [("one", 4)]) (g := (gName 4)) (tt := tYes) rfl sc_l_alike.nd (pi_list (pv 2)) (blkOk_by (N := ns_l_alike) (sc := defScope s_l_alike) (by decide +kernel)) (fun _ _ _ _ _ => (pg_name (i := 4) sc_l_alike.nd rfl (Or.inl rfl))) (fun _ _ _ _ _ => pts_nil) (fun _ _ _ _ _ => (pe_tup (pa_cons (pv 4) (pa_cons (pe_callTy call_tuple_of (by rfl) T.free_tuple (by decide +kernel) (pa_cons (pe_dget hu (pe_dget hu (pv 1) pe_str (fun _ _ => rfl)) (pv 4) (fun _ _ => rfl)) pa_nil)) pa_nil))))) pa_nil)) (nomark _)) (pss_one (ps_ret pe_bl)) pss_nil)
      (pss_cons (ps_for (passes_of rfl) rfl (pi_range1 (by rfl) T.free_range (pa_cons (pe_op op_add (pe_dget hu (pv 1) pe_str (fun _ _ => rfl)) pe_int) pa_nil)) (pg_name (i := 4) sc_l_alike.nd rfl (Or.inl rfl)) (pss_cons (ps_set (i := 3) sc_l_alike.nd rfl (Or.inl rfl) (pe_meth (pv 0) T.cls_Objects T.meth_Objects_has G_Objects_has.fn (hr.mono (by decide)) G_Objects_has.bd .nil (passE (takes_of rfl rfl rfl rfl)) (pa_cons (pv 4) pa_nil)))
      (pss_one (ps_if (PW.pt (pw_or (pt_not (pt_val (pe_callB call_isi (by rfl) T.free_isinstance (by decide +kernel) (pa_cons (pv 3) (pa_cons (pe_bltn (v := .ty "bool") (by rfl) T.free_bool (by decide +kernel) rfl) pa_nil))))) (pw_or1 (pt_cmpR (op_neD hr.units) (pv 3) (pe_cmpR op_in_seq (pv 4) (pv 2) (by with_unfolding_all rfl)) (nomark _))))) (pss_one (ps_ret pe_bl)) pss_nil))))
      (pss_cons (ps_for (passes_of rfl) rfl (pi_list (pv 2)) (pg_name (i := 4) sc_l_alike.nd rfl (Or.inl rfl)) (pss_cons (ps_set (i := 5) sc_l_alike.nd rfl (Or.inl rfl) (pe_dget hu (pe_dget hu (pv 1) pe_str (fun _ _ => rfl)) (pv 4) (fun _ _ => rfl)))
      (pss_cons (ps_if (PW.pt (pw_or (pt_cmpR (op_neD hr.units) (pe_meth (pv 0) T.cls_Objects T.meth_Objects_slots G_Objects_slots.fn (hr.mono (by decide)) G_Objects_slots.bd .nil (passE (takes_of rfl rfl rfl rfl)) (pa_cons (pv 4) pa_nil)) (pe_callTy call_tuple_of (by rfl) T.free_tuple (by decide +kernel) (pa_cons (pv 5) pa_nil)) (nomark _)) (pw_or1 (pt_cmpR (op_neD hr.units) (pe_meth (pv 0) T.cls_Objects T.meth_Objects_parents G_Objects_parents.fn (hr.mono (by decide)) G_Objects_parents.bd .nil (passE (takes_of rfl rfl rfl rfl)) (pa_cons (pv 4) pa_nil)) (pe_call G_l_parents.fn (hr.mono (by decide)) rfl T.glo__law_parents G_l_parents.kp G_l_parents.bd .nil (passE (takes_of rfl rfl rfl rfl)) (pa_cons (pv 5) pa_nil)) (nomark _))))) (pss_one (ps_ret pe_bl)) pss_nil)
      (pss_one (ps_for (passes_of rfl) rfl (pi_list (pe_lst (pa_cons pe_str (pa_cons pe_str (pa_cons pe_str (pa_cons pe_str (pa_cons pe_str (pa_cons pe_str (pa_cons pe_str pa_nil))))))))) (pg_name (i := 6) sc_l_alike.nd rfl (Or.inl rfl)) (pss_cons (ps_set (i := 7) sc_l_alike.nd rfl (Or.inl rfl) pe_non)
      (pss_cons (ps_for (passes_of rfl) rfl (pi_list (pv 5)) (pg_name (i := 8) sc_l_alike.nd rfl (Or.inl rfl)) (pss_one (ps_if (pt_cmpR op_eq (pe_ix ix_tup (pv 8) pe_int (fun _ _ => rfl)) (pv 6) (nomark _)) (pss_one (ps_set (i := 7) sc_l_alike.nd rfl (Or.inl rfl) (pe_tup (pa_cons (pe_ix ix_tup (pv 8) pe_int (fun _ _ => rfl)) (pa_cons (pe_ix ix_tup (pv 8) pe_int (fun _ _ => rfl)) pa_nil))))) pss_nil)))
      (pss_one (ps_if (pt_cmpR (op_neD hr.units) (pe_meth (pv 0) T.cls_Objects T.meth_Objects_slot G_Objects_slot.fn (hr.mono (by decide)) G_Objects_slot.bd .nil (passE (takes_of rfl rfl rfl rfl)) (pa_cons (pv 4) (pa_cons (pv 6) pa_nil))) (pv 7) (nomark _)) (pss_one (ps_ret pe_bl)) pss_nil)))))))))
      (pss_one (ps_ret pe_bl)))))))))
theorem ok_l_make (T : Txt P w K mg) {fd : FuncData} (F : FunD K ("_law_make" : Str) ("_law_make" : Str) (defArgs s_l_make) (defBody s_l_make) (defScope s_l_make) [] [] (He.ga K ("_law_make" : Str)) fd) : Def P w K mg base 3 (He.ga K ("_law_make" : Str)) fd ["draws", "objects", "model"] (sp_l_make K) := by
  obtain ⟨fd_l_next, F_l_next⟩ := T.d_l_next
  have G_l_next := ok_l_next (P := P) (w := w) (base := base) T F_l_next
  obtain ⟨fd_l_name, F_l_name⟩ := T.d_l_name
  have G_l_name := ok_l_name (P := P) (w := w) (base := base) T F_l_name
  obtain ⟨fd_l_kind, F_l_kind⟩ := T.d_l_kind
  have G_l_kind := ok_l_kind (P := P) (w := w) (base := base) T F_l_kind
  obtain ⟨fd_l_value, F_l_value⟩ := T.d_l_value
  have G_l_value := ok_l_value (P := P) (w := w) (base := base) T F_l_value
  obtain ⟨fd_l_put, F_l_put⟩ := T.d_l_put
  have G_l_put := ok_l_put (P := P) (w := w) (base := base) T F_l_put
  obtain ⟨fd_Objects_make, F_Objects_make⟩ := T.d_Objects_make
  have G_Objects_make := ok_Objects_make (P := P) (w := w) (base := base) T F_Objects_make
  refine ⟨F.ok (CX := L2.CX P w) sc_l_make (fun vs H Q E h => ?_) (fun cdv A outer s H vs Q E hr h => ⟨t_l_make K E, ?_, run_l_make h⟩), F.bindsN fun _ _ _ _ _ _ us hl => match us, hl with | [_, _, _], _ => rfl, F.kp⟩
  · obtain ⟨_, _, _, _, _, _, _, _, _, _, _, rfl, _⟩ := h
    rfl
  · have hu := hu_of hr
    exact (pss_cons (ps_setLc (i := 4) (own := [("k", 3)]) (g := (gName 3)) (tt := tYes) rfl sc_l_make.nd rfl rfl (sw_true rfl rfl rfl (by decide +kernel)) (pi_range1 (by rfl) T.free_range (pa_cons (pe_call G_l_next.fn (hr.mono (by decide)) rfl T.glo__law_next G_l_next.kp G_l_next.bd .nil (passE (takes_of rfl rfl rfl rfl)) (pa_cons (pv 0) (pa_cons pe_int pa_nil))) pa_nil)) (blkOk_by (N := ns_l_make) (sc := defScope s_l_make) (by decide +kernel)) (fun _ _ _ _ _ => (pg_name (i := 3) sc_l_make.nd rfl (Or.inl rfl))) (fun _ _ _ _ _ => pts_nil) (fun _ _ _ _ _ => (pe_tup (pa_cons (pe_call G_l_name.fn (hr.mono (by decide)) rfl T.glo__law_name G_l_name.kp G_l_name.bd .nil (passes_call takes0 fun _ _ _ _ h => h) (pa_cons (pv 0) pa_nil)) (pa_cons (pe_call G_l_kind.fn (hr.mono (by decide)) rfl T.glo__law_kind G_l_kind.kp G_l_kind.bd .nil (passes_call takes0 fun _ _ _ _ h => h) (pa_cons (pv 0) pa_nil)) (pa_cons (pe_call G_l_value.fn (hr.mono (by decide)) rfl T.glo__law_value G_l_value.kp G_l_value.bd .nil (passes_call takes0 fun _ _ _ _ h => h) (pa_cons (pv 0) (pa_cons pe_int pa_nil))) pa_nil))))))
      (pss_cons (ps_set (i := 5) sc_l_make.nd rfl (Or.inl rfl) (pe_lst pa_nil))
      (pss_cons (ps_for (passes_of rfl) rfl (pi_list (pv 4)) (pg_name (i := 6) sc_l_make.nd rfl (Or.inl rfl)) (pss_one (ps_set (i := 5) sc_l_make.nd rfl (Or.inl rfl) (pe_call G_l_put.fn (hr.mono (by decide)) rfl T.glo__law_put G_l_put.kp G_l_put.bd .nil (passE (takes_of rfl rfl rfl rfl)) (pa_cons (pv 5) (pa_cons (pv 6) pa_nil))))))
      (pss_cons (ps_set (i := 7) sc_l_make.nd rfl (Or.inl rfl) (pe_dget hu (pv 2) pe_str (fun _ _ => rfl)))
      (pss_cons (ps_dput hu (pe_dget hu (pv 2) pe_str (fun _ _ => rfl)) (pv 7) (pv 5) rfl)
      (pss_cons (ps_dput hu (pv 2) pe_str (pe_op op_add (pv 7) pe_int) rfl)
      (pss_one (ps_ret (pe_cmpR op_eq (pe_meth (pv 1) T.cls_Objects T.meth_Objects_make G_Objects_make.fn (hr.mono (by decide)) G_Objects_make.bd .nil (passE (takes_of rfl rfl rfl rfl)) (pa_cons (pe_callTy call_tuple_of (by rfl) T.free_tuple (by decide +kernel) (pa_cons (pv 4) pa_nil)) pa_nil)) (pv 7) (nomark _))))))))))
theorem ok_l_keep (T : Txt P w K mg) {fd : FuncData} (F : FunD K ("_law_keep" : Str) ("_law_keep" : Str) (defArgs s_l_keep) (defBody s_l_keep) (defScope s_l_keep) [] [] (He.ga K ("_law_keep" : Str)) fd) : Def P w K mg base 2 (He.ga K ("_law_keep" : Str)) fd ["draws", "objects", "model"] (sp_l_keep K) := by
  obtain ⟨fd_l_next, F_l_next⟩ := T.d_l_next
  have G_l_next := ok_l_next (P := P) (w := w) (base := base) T F_l_next
  obtain ⟨fd_Objects_keep, F_Objects_keep⟩ := T.d_Objects_keep
  have G_Objects_keep := ok_Objects_keep (P := P) (w := w) (base := base) T F_Objects_keep
  refine ⟨F.ok (CX := L2.CX P w) sc_l_keep (fun vs H Q E h => ?_) (fun cdv A outer s H vs Q E hr h => ⟨t_l_keep K E, ?_, run_l_keep h⟩), F.bindsN fun _ _ _ _ _ _ us hl => match us, hl with | [_, _, _], _ => rfl, F.kp⟩
  · obtain ⟨_, _, _, _, _, _, _, _, _, _, _, rfl, _⟩ := h
    rfl
  · have hu := hu_of hr
    exact (pss_cons (ps_setLc (i := 4) (own := [("one", 3)]) (g := (gName 3)) (tt := (tOr (tTest (tOp rEq (tVar 3) (tC (.int 0)))) (tTest (tOp rGtI (tCall (sp_l_next K) [] E0 (tCons (tVar 0) (tCons (tC (.int 3)) tNil))) (tC (.int 0)))))) rfl sc_l_keep.nd rfl rfl (sw_true rfl rfl rfl (by decide +kernel)) (pi_list (pe_callB (call_sortedDI rfl) (by rfl) T.free_sorted (by decide +kernel) (pa_cons (pe_dget hu (pv 2) pe_str (fun _ _ => rfl)) pa_nil))) (blkOk_by (N := ns_l_keep) (sc := defScope s_l_keep) (by decide +kernel)) (fun _ _ _ _ _ => (pg_name (i := 3) sc_l_keep.nd rfl (Or.inl rfl))) (fun _ _ _ _ _ => (pts_one (PW.pt (pw_or (pt_cmpR op_eq (pv 3) pe_int (nomark _)) (pw_or1 (pt_cmpR op_gt (pe_call G_l_next.fn (hr.mono (by decide)) rfl T.glo__law_next G_l_next.kp G_l_next.bd .nil (passes_call takes0 fun _ _ _ _ h => h) (pa_cons (pv 0) (pa_cons pe_int pa_nil))) pe_int (nomark _))))))) (fun _ _ _ _ _ => (pv 3)))
      (pss_cons (ps_set (i := 5) sc_l_keep.nd rfl (Or.inl rfl) (pe_callTy call_list_of (by rfl) T.free_list (by decide +kernel) (pa_cons (pv 4) pa_nil)))
      (pss_cons (ps_if (PW.pt (pw_or (pt_cmpR op_notN (pe_meth (pv 1) T.cls_Objects T.meth_Objects_keep G_Objects_keep.fn (hr.mono (by decide)) G_Objects_keep.bd .nil (passE (takes_of rfl rfl rfl rfl)) (pa_cons (pv 5) pa_nil)) pe_non (nomark _)) (pw_or1 (pt_cmpR (op_neD hr.units) (pv 5) (pv 4) (nomark _))))) (pss_one (ps_ret pe_bl)) pss_nil)
      (pss_cons (ps_expr (pe_bm PySem.F.plainAttrs_list PySem.F.slot_list_append PySem.F.type_list_append mt_append (pv 5) (pa_cons pe_int pa_nil)))
      (pss_cons (ps_dput hu (pv 2) pe_str (pe_callTy (call_dictP rfl) (by rfl) T.free_dict (by decide +kernel) (pa_cons (pe_lc (own := [("one", 3)]) (g := (gName 3)) (tt := tYes) rfl sc_l_keep.nd (pi_list (pv 4)) (blkOk_by (N := ns_l_keep) (sc := defScope s_l_keep) (by decide +kernel)) (fun _ _ _ _ _ => (pg_name (i := 3) sc_l_keep.nd rfl (Or.inl rfl))) (fun _ _ _ _ _ => pts_nil) (fun _ _ _ _ _ => (pe_tup (pa_cons (pv 3) (pa_cons (pe_dget hu (pe_dget hu (pv 2) pe_str (fun _ _ => rfl)) (pv 3) (fun _ _ => rfl)) pa_nil))))) pa_nil)) rfl)
      (pss_one (ps_ret pe_bl)))))))
theorem ok_l_deed (T : Txt P w K mg) {fd : FuncData} (F : FunD K ("_law_deed" : Str) ("_law_deed" : Str) (defArgs s_l_deed) (defBody s_l_deed) (defScope s_l_deed) [] [] (He.ga K ("_law_deed" : Str)) fd) : Def P w K mg base 4 (He.ga K ("_law_deed" : Str)) fd ["draws", "objects", "model"] (sp_l_deed K) := by
  obtain ⟨fd_l_next, F_l_next⟩ := T.d_l_next
  have G_l_next := ok_l_next (P := P) (w := w) (base := base) T F_l_next
  obtain ⟨fd_l_make, F_l_make⟩ := T.d_l_make
  have G_l_make := ok_l_make (P := P) (w := w) (base := base) T F_l_make
  obtain ⟨fd_l_name, F_l_name⟩ := T.d_l_name
  have G_l_name := ok_l_name (P := P) (w := w) (base := base) T F_l_name
  obtain ⟨fd_l_kind, F_l_kind⟩ := T.d_l_kind
  have G_l_kind := ok_l_kind (P := P) (w := w) (base := base) T F_l_kind
  obtain ⟨fd_l_value, F_l_value⟩ := T.d_l_value
  have G_l_value := ok_l_value (P := P) (w := w) (base := base) T F_l_value
  obtain ⟨fd_l_put, F_l_put⟩ := T.d_l_put
  have G_l_put := ok_l_put (P := P) (w := w) (base := base) T F_l_put
  obtain ⟨fd_Objects_put, F_Objects_put⟩ := T.d_Objects_put
  have G_Objects_put := ok_Objects_put (P := P) (w := w) (base := base) T F_Objects_put
  obtain ⟨fd_Objects_drop, F_Objects_drop⟩ := T.d_Objects_drop
  have G_Objects_drop := ok_Objects_drop (P := P) (w := w) (base := base) T F_Objects_drop
  obtain ⟨fd_Objects_assign, F_Objects_assign⟩ := T.d_Objects_assign
  have G_Objects_assign := ok_Objects_assign (P := P) (w := w) (base := base) T F_Objects_assign
  obtain ⟨fd_l_keep, F_l_keep⟩ := T.d_l_keep
  have G_l_keep := ok_l_keep (P := P) (w := w) (base := base) T F_l_keep
  refine ⟨F.ok (CX := L2.CX P w) sc_l_deed (fun vs H Q E h => ?_) (fun cdv A outer s H vs Q E hr h => ⟨t_l_deed K E, ?_, run_l_deed h⟩), F.bindsN fun _ _ _ _ _ _ us hl => match us, hl with | [_, _, _], _ => rfl, F.kp⟩
  · obtain ⟨_, _, _, _, _, _, _, _, _, _, _, rfl, _⟩ := h
    rfl
  · have hu := hu_of hr
    exact (pss_cons (ps_set (i := 3) sc_l_deed.nd rfl (Or.inl rfl) (pe_call G_l_next.fn (hr.mono (by decide)) rfl T.glo__law_next G_l_next.kp G_l_next.bd .nil (passE (takes_of rfl rfl rfl rfl)) (pa_cons (pv 0) (pa_cons pe_int pa_nil))))
      (pss_cons (ps_set (i := 4) sc_l_deed.nd rfl (Or.inl rfl) (pe_callB (call_sortedDI rfl) (by rfl) T.free_sorted (by decide +kernel) (pa_cons (pe_dget hu (pv 2) pe_str (fun _ _ => rfl)) pa_nil)))
      (pss_cons (ps_set (i := 5) sc_l_deed.nd rfl (Or.inl rfl) (pe_ix ix_list (pv 4) (pe_call G_l_next.fn (hr.mono (by decide)) rfl T.glo__law_next G_l_next.kp G_l_next.bd .nil (passE (takes_of rfl rfl rfl rfl)) (pa_cons (pv 0) (pa_cons (pe_callB call_len (by rfl) T.free_len (by decide +kernel) (pa_cons (pv 4) pa_nil)) pa_nil))) (fun _ _ => rfl)))
      (pss_cons (ps_set (i := 6) sc_l_deed.nd rfl (Or.inl rfl) (pe_dget hu (pe_dget hu (pv 2) pe_str (fun _ _ => rfl)) (pv 5) (fun _ _ => rfl)))
      (pss_cons (ps_if (pt_cmpR op_lt (pv 3) pe_int (nomark _)) (pss_one (ps_ret (pe_call G_l_make.fn (hr.mono (by decide)) rfl T.glo__law_make G_l_make.kp G_l_make.bd .nil (passE (takes_of rfl rfl rfl rfl)) (pa_cons (pv 0) (pa_cons (pv 1) (pa_cons (pv 2) pa_nil)))))) pss_nil)
      (pss_cons (ps_if (pt_cmpR op_lt (pv 3) pe_int (nomark _)) (pss_cons (ps_set (i := 7) sc_l_deed.nd rfl (Or.inl rfl) (pe_tup (pa_cons (pe_call G_l_name.fn (hr.mono (by decide)) rfl T.glo__law_name G_l_name.kp G_l_name.bd .nil (passE (takes_of rfl rfl rfl rfl)) (pa_cons (pv 0) pa_nil)) (pa_cons (pe_call G_l_kind.fn (hr.mono (by decide)) rfl T.glo__law_kind G_l_kind.kp G_l_kind.bd .nil (passE (takes_of rfl rfl rfl rfl)) (pa_cons (pv 0) pa_nil)) (pa_cons (pe_call G_l_value.fn (hr.mono (by decide)) rfl T.glo__law_value G_l_value.kp G_l_value.bd .nil (passE (takes_of rfl rfl rfl rfl)) (pa_cons (pv 0) (pa_cons pe_int pa_nil))) pa_nil)))))
      (pss_cons (ps_dput hu (pe_dget hu (pv 2) pe_str (fun _ _ => rfl)) (pv 5) (pe_call G_l_put.fn (hr.mono (by decide)) rfl T.glo__law_put G_l_put.kp G_l_put.bd .nil (passE (takes_of rfl rfl rfl rfl)) (pa_cons (pv 6) (pa_cons (pv 7) pa_nil))) rfl)
      (pss_one (ps_ret (pe_cmpR op_isN (pe_meth (pv 1) T.cls_Objects T.meth_Objects_put G_Objects_put.fn (hr.mono (by decide)) G_Objects_put.bd .nil (passE (takes_of rfl rfl rfl rfl)) (pa_cons (pv 5) (pa_cons (pe_ix ix_tup (pv 7) pe_int (fun _ _ => rfl)) (pa_cons (pe_ix ix_tup (pv 7) pe_int (fun _ _ => rfl)) (pa_cons (pe_ix ix_tup (pv 7) pe_int (fun _ _ => rfl)) pa_nil))))) pe_non (nomark _)))))) pss_nil)
      (pss_cons (ps_if (pt_cmpR op_lt (pv 3) pe_int (nomark _)) (pss_cons (ps_set (i := 8) sc_l_deed.nd rfl (Or.inr rfl) (pe_call G_l_name.fn (hr.mono (by decide)) rfl T.glo__law_name G_l_name.kp G_l_name.bd .nil (passE (takes_of rfl rfl rfl rfl)) (pa_cons (pv 0) pa_nil)))
      (pss_cons (ps_dput hu (pe_dget hu (pv 2) pe_str (fun _ _ => rfl)) (pv 5) (pe_lc (own := [("slot", 7)]) (g := (gName 7)) (tt := (tTest (tOp rNe (tOp (rIxT K) (tVar 7) (tC (.int 0))) (tVar 8)))) rfl sc_l_deed.nd (pi_list (pv 6)) (blkOk_by (N := ns_l_deed) (sc := defScope s_l_deed) (by decide +kernel)) (fun _ _ _ _ _ => (pg_name (i := 7) sc_l_deed.nd rfl (Or.inl rfl))) (fun _ _ _ _ _ => (pts_one (pt_cmpR op_ne (pe_ix ix_tup (pv 7) pe_int (fun _ _ => rfl)) (pv 8) (nomark _)))) (fun _ _ _ _ _ => (pv 7))) rfl)
      (pss_cons (ps_set (i := 9) sc_l_deed.nd rfl (Or.inl rfl) (pe_meth (pv 1) T.cls_Objects T.meth_Objects_drop G_Objects_drop.fn (hr.mono (by decide)) G_Objects_drop.bd .nil (passE (takes_of rfl rfl rfl rfl)) (pa_cons (pv 5) (pa_cons (pv 8) pa_nil))))
      (pss_one (ps_ret (pe_and (pe_callB call_isi (by rfl) T.free_isinstance (by decide +kernel) (pa_cons (pv 9) (pa_cons (pe_bltn (v := .ty "bool") (by rfl) T.free_bool (by decide +kernel) rfl) pa_nil))) (pe_one (pe_cmpR op_eq (pv 9) (pe_cmpR op_lt (pe_callB call_len (by rfl) T.free_len (by decide +kernel) (pa_cons (pe_dget hu (pe_dget hu (pv 2) pe_str (fun _ _ => rfl)) (pv 5) (fun _ _ => rfl)) pa_nil)) (pe_callB call_len (by rfl) T.free_len (by decide +kernel) (pa_cons (pv 6) pa_nil)) (nomark _)) (nomark _))))))))) pss_nil)
      (pss_cons (ps_if (pt_cmpR op_lt (pv 3) pe_int (nomark _)) (pss_cons (ps_if (pt_cmpR op_gt (pe_callB call_len (by rfl) T.free_len (by decide +kernel) (pa_cons (pv 6) pa_nil)) pe_int (nomark _)) (pss_cons (ps_set (i := 7) sc_l_deed.nd rfl (Or.inl rfl) (pe_ix ix_list (pv 6) (pe_call G_l_next.fn (hr.mono (by decide)) rfl T.glo__law_next G_l_next.kp G_l_next.bd .nil (passE (takes_of rfl rfl rfl rfl)) (pa_cons (pv 0) (pa_cons (pe_callB call_len (by rfl) T.free_len (by decide +kernel) (pa_cons (pv 6) pa_nil)) pa_nil))) (fun _ _ => rfl)))
      (pss_cons (ps_set (i := 10) sc_l_deed.nd rfl (Or.inl rfl) (pe_call G_l_value.fn (hr.mono (by decide)) rfl T.glo__law_value G_l_value.kp G_l_value.bd .nil (passE (takes_of rfl rfl rfl rfl)) (pa_cons (pv 0) (pa_cons pe_int pa_nil))))
      (pss_cons (ps_dput hu (pe_dget hu (pv 2) pe_str (fun _ _ => rfl)) (pv 5) (pe_call G_l_put.fn (hr.mono (by decide)) rfl T.glo__law_put G_l_put.kp G_l_put.bd .nil (passE (takes_of rfl rfl rfl rfl)) (pa_cons (pv 6) (pa_cons (pe_tup (pa_cons (pe_ix ix_tup (pv 7) pe_int (fun _ _ => rfl)) (pa_cons (pe_ix ix_tup (pv 7) pe_int (fun _ _ => rfl)) (pa_cons (pv 10) pa_nil)))) pa_nil))) rfl)
      (pss_one (ps_ret (pe_cmpR op_isN (pe_meth (pv 1) T.cls_Objects T.meth_Objects_assign G_Objects_assign.fn (hr.mono (by decide)) G_Objects_assign.bd .nil (passE (takes_of rfl rfl rfl rfl)) (pa_cons (pv 5) (pa_cons (pe_ix ix_tup (pv 7) pe_int (fun _ _ => rfl)) (pa_cons (pv 10) pa_nil)))) pe_non (nomark _))))))) pss_nil)
      (pss_one (ps_ret pe_bl))) pss_nil)
      (pss_one (ps_ret (pe_call G_l_keep.fn (hr.mono (by decide)) rfl T.glo__law_keep G_l_keep.kp G_l_keep.bd .nil (passE (takes_of rfl rfl rfl rfl)) (pa_cons (pv 0) (pa_cons (pv 1) (pa_cons (pv 2) pa_nil))))))))))))))
theorem ok_law (T : Txt P w K mg) {fd : FuncData} (F : FunD K ("law" : Str) ("law" : Str) (defArgs s_law) (defBody s_law) (defScope s_law) [] [] (He.ga K ("law" : Str)) fd) : Def P w K mg base 5 (He.ga K ("law" : Str)) fd ["script"] (sp_law K) := by
  obtain ⟨fd_l_reader, F_l_reader⟩ := T.d_l_reader
  have G_l_reader := ok_l_reader (P := P) (w := w) (base := base) T F_l_reader
  obtain ⟨fd_Objects_init, F_Objects_init⟩ := T.d_Objects_init
  have G_Objects_init := ok_Objects_init (P := P) (w := w) (base := base) T F_Objects_init
  obtain ⟨fd_l_alike, F_l_alike⟩ := T.d_l_alike
  have G_l_alike := ok_l_alike (P := P) (w := w) (base := base) T F_l_alike
  obtain ⟨fd_l_next, F_l_next⟩ := T.d_l_next
  have G_l_next := ok_l_next (P := P) (w := w) (base := base) T F_l_next
  obtain ⟨fd_l_deed, F_l_deed⟩ := T.d_l_deed
  have G_l_deed := ok_l_deed (P := P) (w := w) (base := base) T F_l_deed
  obtain ⟨fd_Objects_image, F_Objects_image⟩ := T.d_Objects_image
  have G_Objects_image := ok_Objects_image (P := P) (w := w) (base := base) T F_Objects_image
  refine ⟨F.ok (CX := L2.CX P w) sc_law (fun vs H Q E h => ?_) (fun cdv A outer s H vs Q E hr h => ⟨t_law K E, ?_, run_law T.kk h⟩), F.bindsN fun _ _ _ _ _ _ us hl => match us, hl with | [_], _ => rfl, F.kp⟩
  · obtain ⟨_, _, rfl, _⟩ := h
    rfl
  · exact (pss_cons (ps_set (i := 1) sc_law.nd rfl (Or.inl rfl) (pe_call G_l_reader.fn (hr.mono (by decide)) rfl T.glo__law_reader G_l_reader.kp G_l_reader.bd .nil (passE (takes_of rfl rfl rfl rfl)) (pa_cons (pv 0) pa_nil)))
      (pss_cons (ps_set (i := 2) sc_law.nd rfl (Or.inl rfl) (pe_make0 T.mkr_Objects G_Objects_init.fn (hr.mono (by decide)) rfl T.glo_Objects G_Objects_init.bd .nil (passE (takes_of rfl rfl rfl rfl))))
      (pss_cons (ps_set (i := 3) sc_law.nd rfl (Or.inl rfl) (pe_make0 T.mkr_Objects G_Objects_init.fn (hr.mono (by decide)) rfl T.glo_Objects G_Objects_init.bd .nil (passE (takes_of rfl rfl rfl rfl))))
      (pss_cons (ps_set (i := 4) sc_law.nd rfl (Or.inl rfl) (pe_disp (pps_cons pe_str (pe_disp (pps_cons pe_int (pe_lst (pa_cons (pe_tup (pa_cons pe_str (pa_cons pe_str (pa_cons (pe_tup (pa_cons pe_str (pa_cons pe_int pa_nil))) pa_nil)))) pa_nil)) pps_nil) (by rfl) (by rfl) (fun z => by cases z) (by decide)) (pps_cons pe_str pe_int pps_nil)) (by rfl) (by rfl) (fun z => by cases z) (by decide)))
      (pss_cons (ps_if (PW.pt (pw_or (pt_cmpR (op_neD hr.units) (pe_glob rfl T.glo_KINDS rfl) (pe_tup (pa_cons pe_str (pa_cons pe_str (pa_cons pe_str (pa_cons pe_str (pa_cons pe_str pa_nil)))))) (nomark _)) (pw_or1 (pt_not (pt_val (pe_call G_l_alike.fn (hr.mono (by decide)) rfl T.glo__law_alike G_l_alike.kp G_l_alike.bd .nil (passE (takes_of rfl rfl rfl rfl)) (pa_cons (pv 2) (pa_cons (pv 4) pa_nil)))))))) (pss_one (ps_ret pe_bl)) pss_nil)
      (pss_cons (ps_for (passes_of rfl) rfl (pi_range1 (by rfl) T.free_range (pa_cons (pe_op op_add pe_int (pe_call G_l_next.fn (hr.mono (by decide)) rfl T.glo__law_next G_l_next.kp G_l_next.bd .nil (passE (takes_of rfl rfl rfl rfl)) (pa_cons (pv 1) (pa_cons pe_int pa_nil)))) pa_nil)) (pg_name (i := 5) sc_law.nd rfl (Or.inl rfl)) (pss_one (ps_if (PW.pt (pw_or (pt_not (pt_val (pe_call G_l_deed.fn (hr.mono (by decide)) rfl T.glo__law_deed G_l_deed.kp G_l_deed.bd .nil (passE (takes_of rfl rfl rfl rfl)) (pa_cons (pv 1) (pa_cons (pv 2) (pa_cons (pv 4) pa_nil)))))) (pw_or1 (pt_not (pt_val (pe_call G_l_alike.fn (hr.mono (by decide)) rfl T.glo__law_alike G_l_alike.kp G_l_alike.bd .nil (passE (takes_of rfl rfl rfl rfl)) (pa_cons (pv 2) (pa_cons (pv 4) pa_nil)))))))) (pss_one (ps_ret pe_bl)) pss_nil)))
      (pss_one (ps_ret (pe_cmpR (op_eqD hr.units) (pe_meth0 (pv 3) T.cls_Objects T.meth_Objects_image G_Objects_image.fn (hr.mono (by decide)) G_Objects_image.bd .nil (passE (takes_of rfl rfl rfl rfl))) (pe_tup (pa_cons (pe_tup (pa_cons pe_int (pa_cons (pe_tup (pa_cons (pe_tup (pa_cons pe_str (pa_cons pe_str (pa_cons (pe_tup (pa_cons pe_str (pa_cons pe_int pa_nil))) pa_nil)))) pa_nil)) pa_nil))) pa_nil)) (nomark _))))))))))
end
def fn : List He.DefD := [⟨(("_law_draws" : Str), none), ("_law_draws" : Str), ("_law_draws" : Str), defArgs s_l_draws, defBody s_l_draws, defScope s_l_draws, [], []⟩,
  ⟨(("_law_reader" : Str), none), ("_law_reader" : Str), ("_law_reader" : Str), defArgs s_l_reader, defBody s_l_reader, defScope s_l_reader, [], []⟩,
  ⟨(("_law_next" : Str), none), ("_law_next" : Str), ("_law_next" : Str), defArgs s_l_next, defBody s_l_next, defScope s_l_next, [], []⟩,
  ⟨(("_law_value" : Str), none), ("_law_value" : Str), ("_law_value" : Str), defArgs s_l_value, defBody s_l_value, defScope s_l_value, [], []⟩,
  ⟨(("_law_kind" : Str), none), ("_law_kind" : Str), ("_law_kind" : Str), defArgs s_l_kind, defBody s_l_kind, defScope s_l_kind, [], []⟩,
  ⟨(("_law_name" : Str), none), ("_law_name" : Str), ("_law_name" : Str), defArgs s_l_name, defBody s_l_name, defScope s_l_name, [], []⟩,
  ⟨(("Objects" : Str), some ("slot" : Str)), ("slot" : Str), ("Objects.slot" : Str), defArgs s_Objects_slot, defBody s_Objects_slot, defScope s_Objects_slot, [], []⟩,
  ⟨(("Objects" : Str), some ("put" : Str)), ("put" : Str), ("Objects.put" : Str), defArgs s_Objects_put, defBody s_Objects_put, defScope s_Objects_put, [], []⟩,
  ⟨(("Objects" : Str), some ("drop" : Str)), ("drop" : Str), ("Objects.drop" : Str), defArgs s_Objects_drop, defBody s_Objects_drop, defScope s_Objects_drop, [], []⟩,
  ⟨(("Objects" : Str), some ("assign" : Str)), ("assign" : Str), ("Objects.assign" : Str), defArgs s_Objects_assign, defBody s_Objects_assign, defScope s_Objects_assign, [], []⟩,
  ⟨(("Objects" : Str), some ("parents" : Str)), ("parents" : Str), ("Objects.parents" : Str), defArgs s_Objects_parents, defBody s_Objects_parents, defScope s_Objects_parents, [], []⟩,
  ⟨(("Objects" : Str), some ("make" : Str)), ("make" : Str), ("Objects.make" : Str), defArgs s_Objects_make, defBody s_Objects_make, defScope s_Objects_make, [], []⟩,
  ⟨(("Objects" : Str), some ("__init__" : Str)), ("__init__" : Str), ("Objects.__init__" : Str), defArgs s_Objects_init, defBody s_Objects_init, defScope s_Objects_init, [], []⟩,
  ⟨(("Objects" : Str), some ("ids" : Str)), ("ids" : Str), ("Objects.ids" : Str), defArgs s_Objects_ids, defBody s_Objects_ids, defScope s_Objects_ids, [], []⟩,
  ⟨(("Objects" : Str), some ("slots" : Str)), ("slots" : Str), ("Objects.slots" : Str), defArgs s_Objects_slots, defBody s_Objects_slots, defScope s_Objects_slots, [], []⟩,
  ⟨(("Objects" : Str), some ("image" : Str)), ("image" : Str), ("Objects.image" : Str), defArgs s_Objects_image, defBody s_Objects_image, defScope s_Objects_image, [], []⟩,
  ⟨(("Objects" : Str), some ("has" : Str)), ("has" : Str), ("Objects.has" : Str), defArgs s_Objects_has, defBody s_Objects_has, defScope s_Objects_has, [], []⟩,
  ⟨(("Objects" : Str), some ("keep" : Str)), ("keep" : Str), ("Objects.keep" : Str), defArgs s_Objects_keep, defBody s_Objects_keep, defScope s_Objects_keep, [], []⟩,
  ⟨(("_law_put" : Str), none), ("_law_put" : Str), ("_law_put" : Str), defArgs s_l_put, defBody s_l_put, defScope s_l_put, [], []⟩,
  ⟨(("_law_parents" : Str), none), ("_law_parents" : Str), ("_law_parents" : Str), defArgs s_l_parents, defBody s_l_parents, defScope s_l_parents, [], []⟩,
  ⟨(("_law_alike" : Str), none), ("_law_alike" : Str), ("_law_alike" : Str), defArgs s_l_alike, defBody s_l_alike, defScope s_l_alike, [], []⟩,
  ⟨(("_law_make" : Str), none), ("_law_make" : Str), ("_law_make" : Str), defArgs s_l_make, defBody s_l_make, defScope s_l_make, [], []⟩,
  ⟨(("_law_keep" : Str), none), ("_law_keep" : Str), ("_law_keep" : Str), defArgs s_l_keep, defBody s_l_keep, defScope s_l_keep, [], []⟩,
  ⟨(("_law_deed" : Str), none), ("_law_deed" : Str), ("_law_deed" : Str), defArgs s_l_deed, defBody s_l_deed, defScope s_l_deed, [], []⟩,
  ⟨(("law" : Str), none), ("law" : Str), ("law" : Str), defArgs s_law, defBody s_law, defScope s_law, [], []⟩]
def fa : List He.Fa := [.free ("range" : Str),
  .free ("min" : Str),
  .free ("len" : Str),
  .free ("abs" : Str),
  .free ("int" : Str),
  .glo ("_law_draws" : Str),
  .glo ("_law_next" : Str),
  .glo ("PARENT_KINDS" : Str),
  .free ("tuple" : Str),
  .cls ("Objects" : Str),
  .meth ("Objects" : Str) ("put" : Str),
  .int ("LOBBY" : Str) 0,
  .meth ("Objects" : Str) ("make" : Str),
  .free ("list" : Str),
  .meth ("Objects" : Str) ("ids" : Str),
  .meth ("Objects" : Str) ("slots" : Str),
  .free ("set" : Str),
  .free ("sorted" : Str),
  .free ("isinstance" : Str),
  .meth ("Objects" : Str) ("image" : Str),
  .meth ("Objects" : Str) ("has" : Str),
  .free ("bool" : Str),
  .glo ("_law_parents" : Str),
  .meth ("Objects" : Str) ("parents" : Str),
  .meth ("Objects" : Str) ("slot" : Str),
  .glo ("_law_name" : Str),
  .glo ("_law_kind" : Str),
  .glo ("_law_value" : Str),
  .glo ("_law_put" : Str),
  .meth ("Objects" : Str) ("keep" : Str),
  .free ("dict" : Str),
  .glo ("_law_make" : Str),
  .meth ("Objects" : Str) ("drop" : Str),
  .meth ("Objects" : Str) ("assign" : Str),
  .glo ("_law_keep" : Str),
  .glo ("_law_reader" : Str),
  .glo ("Objects" : Str),
  .mkr ("Objects" : Str),
  .glo ("KINDS" : Str),
  .glo ("_law_alike" : Str),
  .glo ("_law_deed" : Str),
  .glo ("law" : Str),
  .noat ("Objects" : Str) ("table" : Str),
  .noat ("Objects" : Str) ("next_id" : Str)]
def dc : DcL := []
def exs : List (PySem.W.Frag → Bool) := [fun K => tupM K "PARENT_KINDS" ["parent", "varparent"], fun K => tupM K "KINDS" ["const", "var", "parent", "varparent", "method"]]
abbrev ex : PySem.W.Frag → Bool := allOf exs
def ce : List (Str × CelW) := []
theorem txt_mk {P : Program} {w : World} {K : PySem.W.Frag} {h : Heap} {mg : Str → Option Value} (X : K.In h) (G : h.Ns mainGlobals mg) (c : SaysG fa fn ce dc ex w K) : Txt P w K mg where
  free_range := He.free_ok X G (c.fact 0 (f := .free ("range" : Str)) rfl)
  free_min := He.free_ok X G (c.fact 1 (f := .free ("min" : Str)) rfl)
  free_len := He.free_ok X G (c.fact 2 (f := .free ("len" : Str)) rfl)
  free_abs := He.free_ok X G (c.fact 3 (f := .free ("abs" : Str)) rfl)
  free_int := He.free_ok X G (c.fact 4 (f := .free ("int" : Str)) rfl)
  glo__law_draws := He.glo_ok X G (c.fact 5 (f := .glo ("_law_draws" : Str)) rfl)
  glo__law_next := He.glo_ok X G (c.fact 6 (f := .glo ("_law_next" : Str)) rfl)
  glo_PARENT_KINDS := He.glo_ok X G (c.fact 7 (f := .glo ("PARENT_KINDS" : Str)) rfl)
  free_tuple := He.free_ok X G (c.fact 8 (f := .free ("tuple" : Str)) rfl)
  cls_Objects := He.cls_ok (c.fact 9 (f := .cls ("Objects" : Str)) rfl)
  meth_Objects_put := He.meth_ok (c.fact 10 (f := .meth ("Objects" : Str) ("put" : Str)) rfl)
  int_LOBBY := He.int_ok X G (c.fact 11 (f := .int ("LOBBY" : Str) 0) rfl)
  meth_Objects_make := He.meth_ok (c.fact 12 (f := .meth ("Objects" : Str) ("make" : Str)) rfl)
  free_list := He.free_ok X G (c.fact 13 (f := .free ("list" : Str)) rfl)
  meth_Objects_ids := He.meth_ok (c.fact 14 (f := .meth ("Objects" : Str) ("ids" : Str)) rfl)
  meth_Objects_slots := He.meth_ok (c.fact 15 (f := .meth ("Objects" : Str) ("slots" : Str)) rfl)
  free_set := He.free_ok X G (c.fact 16 (f := .free ("set" : Str)) rfl)
  free_sorted := He.free_ok X G (c.fact 17 (f := .free ("sorted" : Str)) rfl)
  free_isinstance := He.free_ok X G (c.fact 18 (f := .free ("isinstance" : Str)) rfl)
  meth_Objects_image := He.meth_ok (c.fact 19 (f := .meth ("Objects" : Str) ("image" : Str)) rfl)
  meth_Objects_has := He.meth_ok (c.fact 20 (f := .meth ("Objects" : Str) ("has" : Str)) rfl)
  free_bool := He.free_ok X G (c.fact 21 (f := .free ("bool" : Str)) rfl)
  glo__law_parents := He.glo_ok X G (c.fact 22 (f := .glo ("_law_parents" : Str)) rfl)
  meth_Objects_parents := He.meth_ok (c.fact 23 (f := .meth ("Objects" : Str) ("parents" : Str)) rfl)
  meth_Objects_slot := He.meth_ok (c.fact 24 (f := .meth ("Objects" : Str) ("slot" : Str)) rfl)
  glo__law_name := He.glo_ok X G (c.fact 25 (f := .glo ("_law_name" : Str)) rfl)
  glo__law_kind := He.glo_ok X G (c.fact 26 (f := .glo ("_law_kind" : Str)) rfl)
  glo__law_value := He.glo_ok X G (c.fact 27 (f := .glo ("_law_value" : Str)) rfl)
  glo__law_put := He.glo_ok X G (c.fact 28 (f := .glo ("_law_put" : Str)) rfl)
  meth_Objects_keep := He.meth_ok (c.fact 29 (f := .meth ("Objects" : Str) ("keep" : Str)) rfl)
  free_dict := He.free_ok X G (c.fact 30 (f := .free ("dict" : Str)) rfl)
  glo__law_make := He.glo_ok X G (c.fact 31 (f := .glo ("_law_make" : Str)) rfl)
  meth_Objects_drop := He.meth_ok (c.fact 32 (f := .meth ("Objects" : Str) ("drop" : Str)) rfl)
  meth_Objects_assign := He.meth_ok (c.fact 33 (f := .meth ("Objects" : Str) ("assign" : Str)) rfl)
  glo__law_keep := He.glo_ok X G (c.fact 34 (f := .glo ("_law_keep" : Str)) rfl)
  glo__law_reader := He.glo_ok X G (c.fact 35 (f := .glo ("_law_reader" : Str)) rfl)
  glo_Objects := He.glo_ok X G (c.fact 36 (f := .glo ("Objects" : Str)) rfl)
  mkr_Objects := He.mkr_ok (c.fact 37 (f := .mkr ("Objects" : Str)) rfl)
  glo_KINDS := He.glo_ok X G (c.fact 38 (f := .glo ("KINDS" : Str)) rfl)
  glo__law_alike := He.glo_ok X G (c.fact 39 (f := .glo ("_law_alike" : Str)) rfl)
  glo__law_deed := He.glo_ok X G (c.fact 40 (f := .glo ("_law_deed" : Str)) rfl)
  glo_law := He.glo_ok X G (c.fact 41 (f := .glo ("law" : Str)) rfl)
  noat_Objects_table := He.noat_ok (c.fact 42 (f := .noat ("Objects" : Str) ("table" : Str)) rfl)
  noat_Objects_next_id := He.noat_ok (c.fact 43 (f := .noat ("Objects" : Str) ("next_id" : Str)) rfl)
  d_l_draws := c.def_ 0 rfl
  d_l_reader := c.def_ 1 rfl
  d_l_next := c.def_ 2 rfl
  d_l_value := c.def_ 3 rfl
  d_l_kind := c.def_ 4 rfl
  d_l_name := c.def_ 5 rfl
  d_Objects_slot := c.def_ 6 rfl
  d_Objects_put := c.def_ 7 rfl
  d_Objects_drop := c.def_ 8 rfl
  d_Objects_assign := c.def_ 9 rfl
  d_Objects_parents := c.def_ 10 rfl
  d_Objects_make := c.def_ 11 rfl
  d_Objects_init := c.def_ 12 rfl
  d_Objects_ids := c.def_ 13 rfl
  d_Objects_slots := c.def_ 14 rfl
  d_Objects_image := c.def_ 15 rfl
  d_Objects_has := c.def_ 16 rfl
  d_Objects_keep := c.def_ 17 rfl
  d_l_put := c.def_ 18 rfl
  d_l_parents := c.def_ 19 rfl
  d_l_alike := c.def_ 20 rfl
  d_l_make := c.def_ 21 rfl
  d_l_keep := c.def_ 22 rfl
  d_l_deed := c.def_ 23 rfl
  d_law := c.def_ 24 rfl
  pk := fun H => tupM_ok (allOf_at c.more 0 rfl) H
  kk := fun H => tupM_ok (allOf_at c.more 1 rfl) H
abbrev R : PySem.W.OpenRow := PySem.W.OpenLaw.row PySem.Challenge.rw_reaimed_k20_objects_by_model
abbrev hk : PySem.W.Hook := hookG 4 fa fn ce dc ex
def ob (s : PySem.W.SharedT) : AlG := obsGG 4 fa fn ce dc ex (HandSHeadRun.getT s)
theorem ob_eq (s : PySem.W.SharedT) : ob s = hk.obs s.abs := obsGG_eq (HandSHeadRun.getT_eq s)
def names : List PySem.Str := [("KINDS" : Str), ("PARENT_KINDS" : Str), ("LOBBY" : Str), ("Objects" : Str), ("_law_draws" : Str), ("_law_reader" : Str), ("_law_next" : Str), ("_law_value" : Str), ("_law_kind" : Str), ("_law_name" : Str), ("_law_put" : Str), ("_law_parents" : Str), ("_law_alike" : Str), ("_law_make" : Str), ("_law_keep" : Str), ("_law_deed" : Str)]
theorem run (w : World) : HandSHeadRun.RunEq R (PySem.W.view R.prog [18]) hk ob 12000 names w := fun _ => by kernel_rfl
theorem facts {P : Program} {w : World} {K : PySem.W.Frag} {h : Heap} {mg : Str → Option Value} {f : Addr} (X : K.In h) (G : h.Ns mainGlobals mg) (hfa : mg ("law" : Str) = some (.ref f)) (c : SaysG fa fn ce dc ex w K) :
    ∃ fd : FuncData, (∀ (s : Shared) (v : Value), BindsTo s fd ⟨[v], []⟩ [("script", v)]) ∧ ∀ base : Heap, K.In base → base.Ns mainGlobals mg → FnOk P w K mg base (L2.CX P w) 5 f fd ["script"] (sp_law K) := by
  have T : Txt P w K mg := txt_mk X G c
  obtain ⟨fd, F⟩ := T.d_law
  have e := hfa.symm.trans (He.glo_ok X G (c.fact 41 (f := .glo "law") rfl))
  cases e
  have b := FunD.bindsA (ps := ["script"]) F fun _ _ _ _ _ _ us hl => match us, hl with | [_], _ => rfl
  refine ⟨fd, fun s v => b s [v] rfl, fun base _ _ => ?_⟩
  exact (ok_law (P := P) (w := w) (base := base) T F).fn
end Rm.Q.K21.K20.W20
open PySem PySem.W PySem.Calls PyProof.Rows
theorem PySem.Challenge.cw_reaimed_k20_objects_by_model_holds : PySem.Challenge.rw_reaimed_k20_objects_by_model.Holds := by
  w_on
  o_law
  refine HandSHeadRun.head_any (r := OpenLaw.row PySem.Challenge.rw_reaimed_k20_objects_by_model) (q := view (OpenLaw.row PySem.Challenge.rw_reaimed_k20_objects_by_model).prog [18]) (H := Rm.Q.K21.K20.W20.hk) (ob := Rm.Q.K21.K20.W20.ob) (M := 12000)
    (loose := Rm.Q.K21.K20.W20.names) (d := HandSHeadRun.topDef (OpenLaw.row PySem.Challenge.rw_reaimed_k20_objects_by_model).prog 18) (kwd := []) Rm.Q.K21.K20.W20.ob_eq (by kernel_rfl) (fun _ => by kernel_rfl) Rm.Q.K21.K20.W20.run
    (by kernel_rfl) (by kernel_rfl) (by kernel_rfl) (by rfl) (by first | assumption | decide +kernel) (by decide +kernel) ⟨rfl, rfl, rfl, rfl, rfl, by decide +kernel⟩ ?hw ?hc
  case hw => w_witness2
  case hc =>
    refine Rm.walk_law (l := PySem.Challenge.rw_reaimed_k20_objects_by_model) (n := 63) (k := 5) (x := "script") rfl (by decide) (by kernel_rfl) ⟨rfl, by decide, by decide⟩ fun w mg fa h Y G hmg0 => ?_
    obtain ⟨K, KX, c⟩ := Y
    have hmg : mg ("law" : PySem.Str) = some (.ref fa) := by
      have e : (HandSHeadRun.topDef (OpenLaw.row PySem.Challenge.rw_reaimed_k20_objects_by_model).prog 18).name = ("law" : PySem.Str) := by kernel_rfl
      rw [← e]
      exact hmg0
    obtain ⟨fd, hb, hF⟩ := Rm.Q.K21.K20.W20.facts (P := (PySem.Challenge.rw_reaimed_k20_objects_by_model).prog) (w := w) KX G hmg c
    exact ⟨K, fd, _, KX, hb, fun H a ns hl _ hS => ⟨a, ns, rfl, hS, hl, fun _ => rfl⟩, hF⟩
