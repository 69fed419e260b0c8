import PyProof.Rows.All
import Wide.All
import OpenK.AllK
import Wide.FinOn
import HandS.ForMost
import HandS.More
import HandS.StrMore
import HandS.IsInst
import HandS.Exc
import HandS.ExcOwn
import HandS.ExcInit
import HandS.TryOnly
import HandS.Defaults
import HandS.LawCells
import HandS.TupAny
import HandS.WordsExc
import HandS.Head0
import HandS.Head1
import HandS.Head2
import HandS.HeadEnd
import HandS.HeadHook1
import HandS.HeadHook2
import KE.KExcSuper
import HandS.FStr
import HandS.HeadWalk
import HandS.ExcField
import HandS.ExcIs
import HandS.TryMany
import KE.KExcIs
import HandS.CallLocal
import HandS.Iter
import HandS.Conv
import HandS.Style
import KE.KDictList
import KE.KeyNested
import HandS.Walk
import KE.GoesMore
import HandS.SortInts
import HandS.Deep
import HandS.Star
import PySem.Challenge.RW_reaimed_k45_only_what_is_rested_on_matte
set_option Elab.async false
set_option linter.all false
set_option maxRecDepth 100000
set_option maxHeartbeats 4000000
/-! B0: readings by short names; a def that keeps a promise; the law's draws. -/
namespace Rm
open PySem PySem.Spec PyProof.Rows L2
/-! ### readings of operations, by short names -/
abbrev rAddI : R2 := rI0 fun i j => .int (i + j)
abbrev rSubI : R2 := rI0 fun i j => .int (i - j)
abbrev rMulI : R2 := rI CMul fun i j => .int (i * j)
abbrev rFdivI : R2 := rI CDiv fun i j => .int (i / j)
abbrev rModI : R2 := rI (fun _ j => 0 < j) fun i j => .int (i % j)
abbrev rPowI : R2 := rI CPow fun i j => .int (i ^ j.toNat)
abbrev rLtI : R2 := rI0 fun i j => .bl (decide (i < j))
abbrev rLeI : R2 := rI0 fun i j => .bl (decide (i ≤ j))
abbrev rGtI : R2 := rI0 fun i j => .bl (decide (j < i))
abbrev rGeI : R2 := rI0 fun i j => .bl (decide (j ≤ i))
abbrev rNegI : V → Hp → VK → Prop := rU fun i => .int (-i)
def rInS : R2 := fun x y H Q => ∃ i j, x = .str i ∧ y = .str j ∧ Q (.bl (!(Builtin.Str.occurrences j i 0 j.length 1).isEmpty)) H
def rNotInS : R2 := fun x y H Q => ∃ i j, x = .str i ∧ y = .str j ∧ Q (.bl (!(!(Builtin.Str.occurrences j i 0 j.length 1).isEmpty))) H
def rInSign : R2 := fun x y H Q => ∃ (c : Nat) (z : Str), x = .str ⟨#[c]⟩ ∧ y = .str z ∧ Q (.bl (decide (c ∈ z.cps.toList))) H
def rNotInSign : R2 := fun x y H Q => ∃ (c : Nat) (z : Str), x = .str ⟨#[c]⟩ ∧ y = .str z ∧ Q (.bl (!decide (c ∈ z.cps.toList))) H
def rIsN : R2 := fun x y H Q => y = .non ∧ Q (.bl (decide (x = .non))) H
def rNotN : R2 := fun x y H Q => y = .non ∧ Q (.bl (!decide (x = .non))) H
abbrev RM := V → List V → Hp → VK → Prop
abbrev RC := List V → Hp → VK → Prop
def rIsascii : RM := fun x xs H Q => ∃ a, x = .str a ∧ xs = [] ∧ True ∧ Q (.bl (Txt.isascii a)) H
def rIsalpha : RM := fun x xs H Q => ∃ a, x = .str a ∧ xs = [] ∧ True ∧ Q (.bl (Txt.isalpha a)) H
def rIsdigit : RM := fun x xs H Q => ∃ a, x = .str a ∧ xs = [] ∧ True ∧ Q (.bl (Txt.isdigit a)) H
def rCount : RM := fun x xs H Q => ∃ a b, x = .str a ∧ xs = [.str b] ∧ Q (.int (Txt.count a b)) H
def rRfind : RM := fun x xs H Q => ∃ a b, x = .str a ∧ xs = [.str b] ∧ Q (.int (Txt.rfind a b)) H
def rFind : RM := fun x xs H Q => ∃ a b, x = .str a ∧ xs = [.str b] ∧ Q (.int (Txt.find a b)) H
def rFind3 : RM := fun x xs H Q => ∃ (a b : Str) (i : Int), x = .str a ∧ xs = [.str b, .int i] ∧ Q (.int (Txt.find3 a b i)) H
def rStartswith : RM := fun x xs H Q => ∃ a b, x = .str a ∧ xs = [.str b] ∧ Q (.bl (Txt.startswith a b)) H
def rEndswith : RM := fun x xs H Q => ∃ a b, x = .str a ∧ xs = [.str b] ∧ Q (.bl (Txt.endswith a b)) H
def rIntS : RC := fun xs H Q => ∃ a n, xs = [.str a] ∧ PySem.intText? a = some n ∧ a.length ≤ 640 ∧ Q (.int n) H
def rInt1 : RC := fun xs H Q => (∃ i, xs = [.int i] ∧ Q (.int i) H) ∨ ∃ k, xs = [.bl k] ∧ Q (.int (if k then 1 else 0)) H
def rMin2 : RC := fun xs H Q => ∃ i j, xs = [.int i, .int j] ∧ Q (.int (if j < i then j else i)) H
def rMax2 : RC := fun xs H Q => ∃ i j, xs = [.int i, .int j] ∧ Q (.int (if j > i then j else i)) H
def rTupleOf (K : PySem.W.Frag) : RC := fun xs H Q => ∃ p ys, xs = [.ref p] ∧ ((SqL K H p ys ∧ ∀ l, H l = none → Q (.ref l) (upd H l (.tup ys))) ∨ (SqT K H p ys ∧ Q (.ref p) H))
def rLenD : RC := fun xs H Q => ∃ a kvs, xs = [V.ref a] ∧ H a = some (.dK kvs) ∧ Q (.int kvs.length) H
abbrev oNone : TO := tNoPart
abbrev oSome (t : TE) : TO := tPart t
/-! ### a def that keeps its promise -/
structure Def (P : Program) (w : World) (K : PySem.W.Frag) (mg : Str → Option Value) (base : Heap) (k : Nat) (f : Addr) (fd : FuncData) (ps : List Str) (sp : Sp) : Prop where
  fn : FnOk P w K mg base (L2.CX P w) k f fd ps sp
  bd : Binds K fd ps []
  kp : PySem.W.keepIn K (.ref f) = true
/-- what a callee may let out, at a caller that wishes the same -/
theorem passE {X : Cx} {E : XK} (tk : Takes X (fun cls d _ H => E cls d H)) : Passes (L2.CX X.prog X.w) X E := passes_call tk fun _ _ _ _ h => h
/-! ### the law's draws: {"row": a list of ints, "at": i, "seed": s} -/
abbrev kRow : Key := Sum.inr ("row" : Str)
abbrev kAt : Key := Sum.inr ("at" : Str)
abbrev kSeed : Key := Sum.inr ("seed" : Str)
def drK (r : Addr) (i s : Int) : List (Key × V) := [(kRow, .ref r), (kAt, .int i), (kSeed, .int s)]
theorem kRA : ¬ kRow = kAt := by decide +kernel
theorem kRS : ¬ kRow = kSeed := by decide +kernel
theorem kAS : ¬ kAt = kSeed := by decide +kernel
theorem kSA : ¬ kSeed = kAt := by decide +kernel
theorem drK_at (r : Addr) (i s : Int) : valV (drK r i s) kAt = some (.int i) := by
  unfold drK
  rw [valV_neg (p := (kRow, V.ref r)) kRA, valV_pos (p := (kAt, V.int i)) rfl]
theorem drK_row (r : Addr) (i s : Int) : valV (drK r i s) kRow = some (.ref r) := by
  unfold drK
  rw [valV_pos (p := (kRow, V.ref r)) rfl]
theorem drK_seed (r : Addr) (i s : Int) : valV (drK r i s) kSeed = some (.int s) := by
  unfold drK
  rw [valV_neg (p := (kRow, V.ref r)) kRS, valV_neg (p := (kAt, V.int i)) kAS, valV_pos (p := (kSeed, V.int s)) rfl]
theorem drK_put (r : Addr) (i j s : Int) : putK (drK r i s) kAt (.int j) = drK r j s := by
  unfold putK
  rw [valV_any, drK_at, if_pos (show (some (V.int i)).isSome = true from rfl)]
  unfold drK
  rw [List.map_cons, List.map_cons, List.map_cons, List.map_nil, if_neg kRA, if_pos rfl, if_neg kSA]
theorem drK_len (r : Addr) (i s : Int) : (drK r i s).length < sizeLine := by
  show 3 < sizeLine
  decide
theorem drK_merge (p : Addr) (i s : Int) : mergeK [] (drK p i s) = drK p i s := by
  have e1 : putK [] kRow (V.ref p) = [(kRow, V.ref p)] := putK_new _ rfl
  have e2 : putK [(kRow, V.ref p)] kAt (V.int i) = [(kRow, V.ref p), (kAt, V.int i)] := putK_new _ (by rw [valV_neg kRA] <;> rfl)
  have e3 : putK [(kRow, V.ref p), (kAt, V.int i)] kSeed (V.int s) = drK p i s := putK_new _ (by rw [valV_neg kRS, valV_neg kAS] <;> rfl)
  show putK (putK (putK [] kRow (V.ref p)) kAt (V.int i)) kSeed (V.int s) = _
  rw [e1, e2, e3]
section
variable {H : Hp} {d r : Addr} {i s : Int}
theorem dget_at (h : H d = some (.dK (drK r i s))) : DGet H d (.str ("at" : Str)) (some (.int i)) := .inl ⟨_, kAt, .inl h, rfl, (drK_at r i s).symm⟩
theorem dget_row (h : H d = some (.dK (drK r i s))) : DGet H d (.str ("row" : Str)) (some (.ref r)) := .inl ⟨_, kRow, .inl h, rfl, (drK_row r i s).symm⟩
theorem dget_seed (h : H d = some (.dK (drK r i s))) : DGet H d (.str ("seed" : Str)) (some (.int s)) := .inl ⟨_, kSeed, .inl h, rfl, (drK_seed r i s).symm⟩
theorem dput_at (h : H d = some (.dK (drK r i s))) (j : Int) : DPut H d (.str ("at" : Str)) (.int j) (upd H d (.dK (drK r j s))) := .inl ⟨_, kAt, h, rfl, drK_len r i s, by rw [drK_put]⟩
end
/-- at d: draws, their row at r -/
def Draws (H : Hp) (d r : Addr) : Prop := ∃ (i s : Int) (ns : List Int), H d = some (.dK (drK r i s)) ∧ H r = some (.lst (ns.map V.int)) ∧ 0 ≤ i
theorem Draws.atD {H : Hp} {d r : Addr} (h : Draws H d r) : ∃ o, H d = some o := let ⟨_, _, _, h, _⟩ := h; ⟨_, h⟩
theorem Draws.atR {H : Hp} {d r : Addr} (h : Draws H d r) : ∃ o, H r = some o := let ⟨_, _, _, _, h, _⟩ := h; ⟨_, h⟩
theorem Draws.ne {H : Hp} {d r : Addr} (h : Draws H d r) : r ≠ d := by
  obtain ⟨i, s, ns, h1, h2, _⟩ := h
  exact ne_of h2 h1 (by intro z; cases z)
theorem Draws.neD {H : Hp} {d r a : Addr} (h : Draws H d r) (n : H a = none) : d ≠ a := let ⟨_, e⟩ := h.atD; ne_of_none e n
theorem Draws.neR {H : Hp} {d r a : Addr} (h : Draws H d r) (n : H a = none) : r ≠ a := let ⟨_, e⟩ := h.atR; ne_of_none e n
theorem same_upd {H : Hp} {a : Addr} {o : HO} (n : H a = none) : Same H (upd H a o) := fun b u e => by
  rw [upd_ne (ne_of_none e n)]
  exact e
theorem Draws.same {H H' : Hp} {d r : Addr} (h : Draws H d r) (s : Same H H') : Draws H' d r := by
  obtain ⟨i, z, ns, h1, h2, h3⟩ := h
  exact ⟨i, z, ns, s _ _ h1, s _ _ h2, h3⟩
theorem Draws.keep {H H' : Hp} {d r : Addr} (h : Draws H d r) (s : ∀ b, (b = d ∨ b = r) → H' b = H b) : Draws H' d r := by
  obtain ⟨i, z, ns, h1, h2, h3⟩ := h
  exact ⟨i, z, ns, (s _ (.inl rfl)).trans h1, (s _ (.inr rfl)).trans h2, h3⟩
theorem Draws.fresh {H : Hp} {d r a : Addr} {o : HO} (h : Draws H d r) (n : H a = none) : Draws (upd H a o) d r := h.same (same_upd n)
theorem Draws.other {H : Hp} {d r a : Addr} {o : HO} (h : Draws H d r) (hd : a ≠ d) (hr : a ≠ r) : Draws (upd H a o) d r := h.keep fun b e => by
  rcases e with rfl | rfl
  · exact upd_ne (Ne.symm hd)
  · exact upd_ne (Ne.symm hr)
/-- the draws may have moved, nothing else has changed -/
def Moved (d : Addr) (H H' : Hp) : Prop := ∀ b, b ≠ d → H' b = H b
theorem Moved.refl (d : Addr) (H : Hp) : Moved d H H := fun _ _ => rfl
theorem Moved.trans {d : Addr} {H H1 H2 : Hp} (a : Moved d H H1) (b : Moved d H1 H2) : Moved d H H2 := fun c n => (b c n).trans (a c n)
/-! ### promises -/
def sp_l_mix (K : PySem.W.Frag) : Sp := fun vs H Q _ => ∃ (c k : Int), vs = [.int c, .int k] ∧ ∀ z : Int, Q (.int z) H
def sp_l_pick (K : PySem.W.Frag) : Sp := fun vs H Q _ => ∃ (d : Addr) (m : Int), vs = [.ref d, .int m] ∧ 0 < m ∧ ∃ r, Draws H d r ∧ ∀ (j : Int) (H' : Hp), 0 ≤ j → j < m → Draws H' d r → Moved d H H' → Q (.int j) H'
def sp_l_stream (K : PySem.W.Frag) : Sp := fun vs H Q _ => ∃ (a : Addr) (ns : List Int) (m : Int), vs = [.ref a, .int m] ∧ SqL K H a (ns.map V.int) ∧ ns.length ≤ 63 ∧ 0 ≤ m ∧ m ≤ 10000 ∧
  ∀ (d : Addr) (H' : Hp) (r : Addr) (s : Int) (rs : List Int), Same H H' → H d = none → H' d = some (.dK (drK r 0 s)) → H' r = some (.lst (rs.map V.int)) → r ≠ d → rs.length ≤ 3780 → (rs.length : Int) ≤ m → Q (.ref d) H'
abbrev DQ (Q : VK) : Ends := { nx := fun _ H' => Q .non H', rt := Q }
theorem lk_ne {a b : Str} {v : V} {r : List (Str × V)} (h : ¬ a = b) : List.lookup a ((b, v) :: r) = List.lookup a r := by
  have e : (a == b) = false := by simpa using h
  simp only [List.lookup, e]
theorem lk_eq {a : Str} {v : V} {r : List (Str × V)} : List.lookup a ((a, v) :: r) = some v := by simp [List.lookup]
theorem pf_ne {a b : Str} {v w : V} {r : List (Str × V)} (h : ¬ b = a) : putF a v ((b, w) :: r) = (b, w) :: putF a v r := by
  show (if b = a then (b, v) :: r else (b, w) :: putF a v r) = _
  rw [if_neg h]
theorem pf_eq {a : Str} {v w : V} {r : List (Str × V)} : putF a v ((a, w) :: r) = (a, v) :: r := by
  show (if a = a then (a, v) :: r else (a, w) :: putF a v r) = _
  rw [if_pos rfl]
theorem pf_nil {a : Str} {v : V} : putF a v [] = [(a, v)] := rfl
end Rm

/-! B1: the law's draws: readings (by gen.py) and that they keep their promises. -/
namespace Rm
open PySem PySem.Spec PyProof.Rows L2

def t_l_mix (K : PySem.W.Frag) (E : XK) : TS :=
  (tSeq (tAsg (tOp rModI (tCB rInt1 (tCons (tOp rAddI (tOp rAddI (tOp rMulI (tVar 0) (tC (.int 48271))) (tOp rMulI (tVar 1) (tC (.int 69621)))) (tC (.int 11))) tNil)) (tC (.int 2147483647))) (gName 2))
    (tRet (tOp rModI (tOp rModI (tCB rInt1 (tCons (tOp rAddI (tOp rAddI (tOp rAddI (tOp rMulI (tVar 2) (tVar 2)) (tOp rMulI (tVar 0) (tC (.int 40692)))) (tOp rMulI (tVar 1) (tC (.int 7)))) (tC (.int 3))) tNil)) (tC (.int 1000003))) (tC (.int 1000)))))
def ns_l_mix : List Str := ["cell", "k", "low"]

def t_l_pick (K : PySem.W.Frag) (E : XK) : TS :=
  (tSeq (tAsg (tDGet (tVar 0) (tC (.str ("at" : Str)))) (gName 2))
    (tSeq (sDPut (tVar 0) (tC (.str ("at" : Str))) (tOp rAddI (tVar 2) (tC (.int 1))))
    (tSeq (tAsg (tCall (sp_l_mix K) [] E (tCons (tDGet (tVar 0) (tC (.str ("seed" : Str)))) (tCons (tVar 2) tNil))) (gName 3))
    (tSeq (tIfS (tTest (tOp rLtI (tVar 2) (tCB (rLen K) (tCons (tDGet (tVar 0) (tC (.str ("row" : Str)))) tNil))))
      (tAsg (tOp (rIxL K) (tDGet (tVar 0) (tC (.str ("row" : Str)))) (tVar 2)) (gName 3))
      tNext)
    (tRet (tOp rModI (tCB rInt1 (tCons (tVar 3) tNil)) (tVar 1)))))))
def ns_l_pick : List Str := ["draws", "many", "at", "number"]

def t_l_stream (K : PySem.W.Frag) (E : XK) : TS :=
  (tSeq (tAsg (tLst tNil) (gName 2))
    (tSeq (tFor (iRng1 (tCons (tCB rMin2 (tCons (tCB (rLen K) (tCons (tVar 0) tNil)) (tCons (tC (.int 63)) tNil))) tNil)) (gName 3)
      (tSeq (tAsg (tOp (rIxL K) (tVar 0) (tVar 3)) (gName 4))
    (tIfS (tTest (tOp rGeI (tVar 4) (tOp rPowI (tC (.int 10)) (tC (.int 18)))))
      (tFor (iRng1 (tCons (tC (.int 60)) tNil)) (gName 5)
      (tIfS (tAnd (tTest (tOp rGtI (tVar 4) (tC (.int 0)))) (tTest (tOp rLtI (tCB (rLen K) (tCons (tVar 2) tNil)) (tVar 1))))
      (tSeq (tDrop (tBM K "list" rAppend (tVar 2) (tCons (tOp rModI (tCB rInt1 (tCons (tVar 4) tNil)) (tC (.int 1000))) tNil)))
    (tAsg (tOp rFdivI (tVar 4) (tC (.int 1000))) (gName 4)))
      tNext))
      (tFor (iRng1 (tCons (tC (.int 3)) tNil)) (gName 5)
      (tIfS (tTest (tOp rLtI (tCB (rLen K) (tCons (tVar 2) tNil)) (tVar 1)))
      (tDrop (tBM K "list" rAppend (tVar 2) (tCons (tCall (sp_l_mix K) [] E (tCons (tVar 4) (tCons (tOp rAddI (tOp rMulI (tC (.int 64)) (tVar 5)) (tVar 3)) tNil))) tNil)))
      tNext)))))
    (tRet (tDisp [((tC (.str ("row" : Str))), (tVar 2)), ((tC (.str ("at" : Str))), (tC (.int 0))), ((tC (.str ("seed" : Str))), (tCB (rLen K) (tCons (tVar 2) tNil)))]))))
def ns_l_stream : List Str := ["script", "most", "row", "k", "rest", "j"]


theorem run_l_mix {K : PySem.W.Frag} {vs : List V} {H : Hp} {Q : VK} {E : XK} (h : sp_l_mix K vs H Q E) : t_l_mix K E { nx := fun _ H' => Q .non H', rt := Q } (start ns_l_mix vs) H := by
  obtain ⟨c, k, rfl, q⟩ := h
  refine ⟨_, rfl, _, _, rfl, rfl, .inr (by decide), _, rfl, _, _, rfl, rfl, .inr (by decide), _, _, rfl, rfl, _, _, rfl, rfl, .inl ⟨_, rfl, ?_⟩⟩
  refine ⟨_, _, rfl, rfl, (by show (0 : Int) < 2147483647; decide), ?_⟩
  have b1 : 0 ≤ (c * 48271 + k * 69621 + 11) % 2147483647 := Int.emod_nonneg _ (by decide)
  have b2 : (c * 48271 + k * 69621 + 11) % 2147483647 < 2147483647 := Int.emod_lt_of_pos _ (by decide)
  refine ⟨_, rfl, _, rfl, _, _, rfl, rfl, .inl ⟨by omega, by omega⟩, _, rfl, _, _, rfl, rfl, .inr (by decide), _, _, rfl, rfl, _, rfl, _, _, rfl, rfl, .inr (by decide), _, _, rfl, rfl, _, _, rfl, rfl, .inl ⟨_, rfl, ?_⟩⟩
  exact ⟨_, _, rfl, rfl, (by show (0 : Int) < 1000003; decide), _, _, rfl, rfl, (by show (0 : Int) < 1000; decide), q _⟩
theorem run_l_pick {K : PySem.W.Frag} {vs : List V} {H : Hp} {Q : VK} {E : XK} (h : sp_l_pick K vs H Q E) : t_l_pick K E { nx := fun _ H' => Q .non H', rt := Q } (start ns_l_pick vs) H := by
  obtain ⟨d, m, rfl, hm, r, hD, q⟩ := h
  obtain ⟨i, s, ns, h1, h2, h3⟩ := id hD
  have nrd : r ≠ d := hD.ne
  -- at = draws["at"]
  refine ⟨_, rfl, d, _, rfl, dget_at h1, ?_⟩
  -- draws["at"] = at + 1
  refine ⟨_, rfl, _, _, rfl, rfl, _, rfl, d, _, rfl, dput_at h1 _, ?_⟩
  have h1' : (upd H d (.dK (drK r (i + 1) s))) d = some (.dK (drK r (i + 1) s)) := upd_same
  have h2' : (upd H d (.dK (drK r (i + 1) s))) r = some (.lst (ns.map V.int)) := by rw [upd_ne nrd]; exact h2
  have D' : Draws (upd H d (.dK (drK r (i + 1) s))) d r := ⟨i + 1, s, ns, h1', h2', by omega⟩
  have M' : Moved d H (upd H d (.dK (drK r (i + 1) s))) := fun b n => upd_ne n
  have fin : ∀ z : Int, Q (.int (z % m)) (upd H d (.dK (drK r (i + 1) s))) := fun z => q _ _ (Int.emod_nonneg _ (by omega)) (Int.emod_lt_of_pos _ hm) D' M'
  -- number = mix(draws["seed"], at)
  refine ⟨_, rfl, d, _, rfl, dget_seed h1', _, rfl, _, _, rfl, fun z => ?_⟩
  -- if at < len(draws["row"])
  refine ⟨_, rfl, _, rfl, d, _, rfl, dget_row h1', _, _, rfl, .inl ⟨_, SqL.of h2', rfl⟩, _, _, rfl, rfl, _, rfl, ?_⟩
  by_cases c : i < ((ns.map V.int).length : Int)
  · rw [decide_eq_true c]
    refine iteT ?_
    rw [List.length_map] at c
    obtain ⟨n, rfl⟩ : ∃ n : Nat, i = (n : Int) := ⟨i.toNat, by omega⟩
    have hn : n < ns.length := by omega
    refine ⟨_, rfl, d, _, rfl, dget_row h1', _, rfl, r, ns.map V.int, (n : Int), .int ns[n], rfl, rfl, SqL.of h2', atI_nat (by rw [List.getElem?_map, List.getElem?_eq_getElem hn]; rfl), ?_⟩
    exact ⟨_, rfl, .inl ⟨_, rfl, _, rfl, _, _, rfl, rfl, hm, fin _⟩⟩
  · rw [decide_eq_false c]
    refine iteF ?_
    exact ⟨_, rfl, .inl ⟨_, rfl, _, rfl, _, _, rfl, rfl, hm, fin _⟩⟩
theorem map_snoc (rs : List Int) (z : Int) : rs.map V.int ++ [V.int z] = (rs ++ [z]).map V.int := by
  rw [List.map_append]
  rfl
theorem run_l_stream {K : PySem.W.Frag} {vs : List V} {H : Hp} {Q : VK} {E : XK} (h : sp_l_stream K vs H Q E) : t_l_stream K E { nx := fun _ H' => Q .non H', rt := Q } (start ns_l_stream vs) H := by
  obtain ⟨a, ns, m, rfl, hS, hl, hm0, hm, q⟩ := h
  refine ⟨(by show 0 ≤ sizeLine; decide), fun p np => ?_⟩
  refine ⟨_, rfl, _, _, rfl, .inl ⟨_, (same_upd np).seq hS, rfl⟩, _, _, rfl, ?_⟩
  have e0 : (if (63 : Int) < ((ns.map V.int).length : Int) then (63 : Int) else ((ns.map V.int).length : Int)) = (ns.length : Int) := by
    rw [List.length_map, if_neg (by omega)]
  rw [e0]
  refine ⟨(ns.length : Int), rfl, by omega, by omega, ?_⟩
  rw [Int.toNat_natCast]
  refine for_range (lo := 0) (n := ns.length) (fun i σ H2 => ∃ (rs : List Int) (kv rv jv : Option V), σ = [some (.ref a), some (.int m), some (.ref p), kv, rv, jv] ∧ Same H H2 ∧ H2 p = some (.lst (rs.map V.int)) ∧ rs.length ≤ 60 * i ∧ (rs.length : Int) ≤ m)
    ⟨[], none, none, none, rfl, same_upd np, upd_same, Nat.zero_le _, hm0⟩ ?_ ?_
  · rintro i σ H2 hi ⟨rs, kv, rv, jv, rfl, s2, hp, h60, hm2⟩
    -- rest = script[k]
    have hz : (ns.map V.int)[i]? = some (.int ns[i]) := by rw [List.getElem?_map, List.getElem?_eq_getElem hi]; rfl
    refine ⟨_, rfl, _, rfl, a, ns.map V.int, _, .int ns[i], rfl, rfl, s2.seq hS, at_of (j := i) (by simp) hz, ?_⟩
    -- if rest >= 10 ** 18
    refine ⟨_, rfl, _, _, rfl, rfl, ⟨by decide, by decide, by decide⟩, _, _, rfl, rfl, _, rfl, ?_⟩
    refine ite2 (fun _ => ?_) (fun _ => ?_)
    · -- for j in range(60)
      refine ⟨60, rfl, by decide, by decide, ?_⟩
      refine for_range (lo := 0) (n := 60) (fun j σ H3 => ∃ (rs : List Int) (kv jv : Option V) (z : Int), σ = [some (.ref a), some (.int m), some (.ref p), kv, some (.int z), jv] ∧ Same H H3 ∧ H3 p = some (.lst (rs.map V.int)) ∧ rs.length ≤ 60 * i + j ∧ (rs.length : Int) ≤ m)
        ⟨rs, _, _, _, rfl, s2, hp, by omega, hm2⟩ ?_ ?_
      · rintro j σ H3 hj ⟨rs, kv, jv, z, rfl, s3, hp, h60, hm2⟩
        refine ⟨_, rfl, _, _, rfl, rfl, _, rfl, ?_⟩
        refine ite2 (fun _ => ?_) (fun _ => ?_)
        · refine ⟨_, rfl, _, _, rfl, .inl ⟨_, SqL.of hp, rfl⟩, _, rfl, _, _, rfl, rfl, _, rfl, ?_⟩
          rw [List.length_map]
          refine ite2 (fun c => ?_) (fun _ => ?_)
          · have c := of_decide_eq_true c
            refine ⟨_, rfl, Or.inl ⟨rfl, _, SqL.of hp⟩, _, rfl, .inl ⟨_, rfl, _, _, rfl, rfl, (by show (0 : Int) < 1000; decide), p, _, _, rfl, rfl, hp, (by rw [List.length_map]; exact Nat.lt_of_lt_of_le (show rs.length < 20000 by omega) (by decide)), ?_⟩⟩
            refine ⟨_, rfl, _, _, rfl, rfl, ⟨by decide, by decide⟩, ?_⟩
            refine ⟨rs ++ [z % 1000], _, _, _, rfl, fun b o e => ?_, ?_, by rw [List.length_append, List.length_singleton]; omega, by rw [List.length_append, List.length_singleton]; omega⟩
            · rw [upd_ne (ne_of_none e np)]
              exact s3 b o e
            · rw [upd_same, map_snoc]
          · exact ⟨rs, _, _, z, rfl, s3, hp, by omega, hm2⟩
        · exact ⟨rs, _, _, z, rfl, s3, hp, by omega, hm2⟩
      · rintro σ H3 ⟨rs, kv, jv, z, rfl, s3, hp, h60, hm2⟩
        exact ⟨rs, _, _, _, rfl, s3, hp, by omega, hm2⟩
    · refine ⟨3, rfl, by decide, by decide, ?_⟩
      refine for_range (lo := 0) (n := 3) (fun j σ H3 => ∃ (rs : List Int) (jv : Option V), σ = [some (.ref a), some (.int m), some (.ref p), some (.int (0 + i)), some (.int ns[i]), jv] ∧ Same H H3 ∧ H3 p = some (.lst (rs.map V.int)) ∧ rs.length ≤ 60 * i + j ∧ (rs.length : Int) ≤ m)
        ⟨rs, _, rfl, s2, hp, by omega, hm2⟩ ?_ ?_
      · rintro j σ H3 hj ⟨rs, jv, rfl, s3, hp, h60, hm2⟩
        refine ⟨_, rfl, _, _, rfl, .inl ⟨_, SqL.of hp, rfl⟩, _, rfl, _, _, rfl, rfl, _, rfl, ?_⟩
        rw [List.length_map]
        refine ite2 (fun c => ?_) (fun _ => ?_)
        · have c := of_decide_eq_true c
          refine ⟨_, rfl, Or.inl ⟨rfl, _, SqL.of hp⟩, _, rfl, _, rfl, _, _, rfl, rfl, .inl ⟨by decide, by decide⟩, _, rfl, _, _, rfl, rfl, _, _, rfl, fun z => ?_⟩
          refine ⟨p, _, _, rfl, rfl, hp, (by rw [List.length_map]; exact Nat.lt_of_lt_of_le (show rs.length < 20000 by omega) (by decide)), ?_⟩
          refine ⟨rs ++ [z], _, rfl, fun b o e => ?_, ?_, by rw [List.length_append, List.length_singleton]; omega, by rw [List.length_append, List.length_singleton]; omega⟩
          · rw [upd_ne (ne_of_none e np)]
            exact s3 b o e
          · rw [upd_same, map_snoc]
        · exact ⟨rs, _, rfl, s3, hp, by omega, hm2⟩
      · rintro σ H3 ⟨rs, jv, rfl, s3, hp, h60, hm2⟩
        exact ⟨rs, _, _, _, rfl, s3, hp, by omega, hm2⟩
  · rintro σ H2 ⟨rs, kv, rv, jv, rfl, s2, hp, h60, hm2⟩
    -- return {..}
    intro d nd
    have npd : p ≠ d := ne_of_none hp nd
    have hp' : (upd H2 d (.dK [])) p = some (.lst (rs.map V.int)) := by rw [upd_ne npd]; exact hp
    refine ⟨_, rfl, _, rfl, _, _, rfl, .inl ⟨_, SqL.of hp', rfl⟩, ?_⟩
    refine ⟨upd_same, drK p 0 (rs.length : Int), ?_, (by show 3 ≤ 15; decide), ?_⟩
    · rw [List.length_map]
      rfl
    · rw [drK_merge, upd_upd]
      refine q d _ p (rs.length : Int) rs (fun b o e => ?_) (s2.free nd) upd_same ?_ npd (by omega) hm2
      · rw [upd_ne (ne_of_none (s2 b o e) nd)]
        exact s2 b o e
      · rw [upd_ne npd]
        exact hp
end Rm

/-! Lx: the tokens of a text as plain functions over codes; no Python here. -/
namespace Lx
def isLet (c : Nat) : Bool := (decide (65 ≤ c) && decide (c ≤ 90)) || (decide (97 ≤ c) && decide (c ≤ 122))
def isDig (c : Nat) : Bool := decide (48 ≤ c) && decide (c ≤ 57)
def isWP (c : Nat) : Bool := isLet c || (isDig c || c == 95)
/-- behind spaces, newlines and comments (true: within a comment) -/
def skip : Bool → List Nat → Int → Int → List Nat × Int × Int
  | _, [], r, c => ([], r, c)
  | true, x :: xs, r, c => if x = 10 then skip false xs (r + 1) 1 else skip true xs r (c + 1)
  | false, x :: xs, r, c => if x = 10 then skip false xs (r + 1) 1 else if x = 32 then skip false xs r (c + 1) else if x = 35 then skip true xs r (c + 1) else (x :: xs, r, c)
inductive Kd where
  | name | number | keyword | sign | fin
  deriving DecidableEq
structure Tk where
  kind : Kd
  text : List Nat
  row : Int
  col : Int
  deriving DecidableEq
inductive Er where
  | char | num
  deriving DecidableEq
abbrev codes (s : String) : List Nat := s.toList.map Char.toNat
def kwL : List (List Nat) := ["method", "main", "object", "const", "var", "parent", "let", "print", "return", "if", "else", "while", "put", "drop", "resend", "fn", "call", "self", "true", "false", "nothing", "div", "mod"].map codes
def longL : List (List Nat) := [":=", "==", "<="].map codes
def shortL : List (List Nat) := ["{", "}", "(", ")", ",", ";", ".", "=", "+", "-", "*", "<"].map codes
def val (l : List Nat) : Nat := l.foldl (fun a c => a * 10 + (c - 48)) 0
def isNum (w : List Nat) : Bool := w.all isDig && (!(decide (1 < w.length) && (w.head? == some 48)) && (decide (w.length ≤ 13) && decide (val w ≤ 1000000000000)))
def word (l : List Nat) : List Nat := l.takeWhile isWP
def kindOf (w : List Nat) : Kd := if w ∈ kwL then .keyword else .name
/-- the token at the beginning of x :: xs, what is behind it, and its place -/
def step (x : Nat) (xs : List Nat) (r c : Int) : Except (Er × Int × Int) (Tk × List Nat × Int × Int) :=
  if isLet x then .ok (⟨kindOf (word (x :: xs)), word (x :: xs), r, c⟩, (x :: xs).drop (word (x :: xs)).length, r, c + (word (x :: xs)).length)
  else if isDig x then
    if isNum (word (x :: xs)) then .ok (⟨.number, word (x :: xs), r, c⟩, (x :: xs).drop (word (x :: xs)).length, r, c + (word (x :: xs)).length) else .error (.num, r, c)
  else if (x :: xs).take 2 ∈ longL then .ok (⟨.sign, (x :: xs).take 2, r, c⟩, (x :: xs).drop 2, r, c + 2)
  else if [x] ∈ shortL then .ok (⟨.sign, [x], r, c⟩, xs, r, c + 1)
  else .error (.char, r, c)
abbrev Out := List Tk × Option (Er × Int × Int)
def lexF : Nat → List Nat → Int → Int → Out
  | 0, _, _, _ => ([], none)
  | n + 1, l, r, c => match skip false l r c with
    | ([], r', c') => ([⟨.fin, [], r', c'⟩], none)
    | (x :: xs, r', c') => match step x xs r' c' with
      | .error e => ([], some e)
      | .ok (t, l', r2, c2) => (t :: (lexF n l' r2 c2).1, (lexF n l' r2 c2).2)
def lex (l : List Nat) (r c : Int) : Out := lexF (l.length + 1) l r c

theorem skip_len : ∀ (b : Bool) (l : List Nat) (r c : Int), (skip b l r c).1.length ≤ l.length
  | _, [], r, c => by simp [skip]
  | true, x :: xs, r, c => by
    unfold skip
    split
    · exact Nat.le_succ_of_le (skip_len false xs _ _)
    · exact Nat.le_succ_of_le (skip_len true xs _ _)
  | false, x :: xs, r, c => by
    unfold skip
    split
    · exact Nat.le_succ_of_le (skip_len false xs _ _)
    · split
      · exact Nat.le_succ_of_le (skip_len false xs _ _)
      · split
        · exact Nat.le_succ_of_le (skip_len true xs _ _)
        · exact Nat.le_refl _
theorem skip_idem : ∀ (b : Bool) (l : List Nat) (r c : Int), skip false (skip b l r c).1 (skip b l r c).2.1 (skip b l r c).2.2 = skip b l r c
  | true, [], r, c => rfl
  | false, [], r, c => rfl
  | true, x :: xs, r, c => by
    by_cases h : x = 10
    · have e : skip true (x :: xs) r c = skip false xs (r + 1) 1 := by rw [skip, if_pos h]
      rw [e]; exact skip_idem false xs _ _
    · have e : skip true (x :: xs) r c = skip true xs r (c + 1) := by rw [skip, if_neg h]
      rw [e]; exact skip_idem true xs _ _
  | false, x :: xs, r, c => by
    by_cases h : x = 10
    · have e : skip false (x :: xs) r c = skip false xs (r + 1) 1 := by rw [skip, if_pos h]
      rw [e]; exact skip_idem false xs _ _
    · by_cases h2 : x = 32
      · have e : skip false (x :: xs) r c = skip false xs r (c + 1) := by rw [skip, if_neg h, if_pos h2]
        rw [e]; exact skip_idem false xs _ _
      · by_cases h3 : x = 35
        · have e : skip false (x :: xs) r c = skip true xs r (c + 1) := by rw [skip, if_neg h, if_neg h2, if_pos h3]
          rw [e]; exact skip_idem true xs _ _
        · have e : skip false (x :: xs) r c = (x :: xs, r, c) := by rw [skip, if_neg h, if_neg h2, if_neg h3]
          rw [e]; exact e
theorem takeWhile_len (p : Nat → Bool) : ∀ l : List Nat, (l.takeWhile p).length ≤ l.length
  | [] => Nat.le_refl _
  | x :: xs => by
    rw [List.takeWhile_cons]
    split
    · exact Nat.succ_le_succ (takeWhile_len p xs)
    · exact Nat.zero_le _
theorem word_pos {x : Nat} {xs : List Nat} (h : isWP x = true) : 0 < (word (x :: xs)).length := by
  unfold word
  rw [List.takeWhile_cons, if_pos h]
  exact Nat.succ_pos _
theorem word_len (l : List Nat) : (word l).length ≤ l.length := takeWhile_len _ l
theorem step_len {x : Nat} {xs : List Nat} {r c : Int} {t : Tk} {l' : List Nat} {r2 c2 : Int} (h : step x xs r c = .ok (t, l', r2, c2)) : l'.length < (x :: xs).length := by
  unfold step at h
  have wl := word_len (x :: xs)
  have drop_lt : ∀ n, 0 < n → n ≤ (x :: xs).length → ((x :: xs).drop n).length < (x :: xs).length := fun n h1 h2 => by rw [List.length_drop]; omega
  split at h
  · rename_i h1
    cases h
    exact drop_lt _ (word_pos (by unfold isWP; rw [h1]; rfl)) wl
  · split at h
    · rename_i h1 h2
      split at h
      · cases h
        exact drop_lt _ (word_pos (by unfold isWP; rw [h2]; simp)) wl
      · cases h
    · split at h
      · rename_i h3
        cases h
        have : 2 ≤ (x :: xs).length := by
          have e : ∀ w ∈ longL, w.length = 2 := by decide +kernel
          have q := e _ h3
          rw [List.length_take] at q
          omega
        exact drop_lt 2 (by decide) this
      · split at h
        · cases h
          exact Nat.lt_succ_self _
        · cases h
theorem lexF_fuel : ∀ (n m : Nat) (l : List Nat) (r c : Int), l.length < n → l.length < m → lexF n l r c = lexF m l r c
  | 0, _, l, _, _, h, _ => absurd h (Nat.not_lt_zero _)
  | _, 0, l, _, _, _, h => absurd h (Nat.not_lt_zero _)
  | n + 1, m + 1, l, r, c, h1, h2 => by
    unfold lexF
    have sl := skip_len false l r c
    rcases e : skip false l r c with ⟨_ | ⟨x, xs⟩, r', c'⟩
    · rfl
    · rw [e] at sl
      simp only
      cases es : step x xs r' c' with
      | error e => rfl
      | ok q =>
        obtain ⟨t, l', r2, c2⟩ := q
        have := step_len es
        have sl' : (x :: xs).length ≤ l.length := sl
        simp only
        rw [lexF_fuel n m l' r2 c2 (by omega) (by omega)]
theorem lex_eq (l : List Nat) (r c : Int) : lex l r c = match skip false l r c with
    | ([], r', c') => ([⟨.fin, [], r', c'⟩], none)
    | (x :: xs, r', c') => match step x xs r' c' with
      | .error e => ([], some e)
      | .ok (t, l', r2, c2) => (t :: (lex l' r2 c2).1, (lex l' r2 c2).2) := by
  unfold lex
  rw [lexF]
  have sl := skip_len false l r c
  rcases e : skip false l r c with ⟨_ | ⟨x, xs⟩, r', c'⟩
  · rfl
  · rw [e] at sl
    simp only
    cases es : step x xs r' c' with
    | error e => rfl
    | ok q =>
      obtain ⟨t, l', r2, c2⟩ := q
      have := step_len es
      have sl' : (x :: xs).length ≤ l.length := sl
      simp only
      rw [lexF_fuel l.length (l'.length + 1) l' r2 c2 (by omega) (by omega)]
/-- what is skipped changes nothing -/
theorem lex_skip {l l2 : List Nat} {r c r2 c2 : Int} (h : skip false l r c = skip false l2 r2 c2) : lex l r c = lex l2 r2 c2 := by
  rw [lex_eq, lex_eq, h]
theorem lex_end {l : List Nat} {r c r' c' : Int} (h : skip false l r c = ([], r', c')) : lex l r c = ([⟨.fin, [], r', c'⟩], none) := by
  rw [lex_eq, h]
theorem lex_tok {l : List Nat} {x : Nat} {xs : List Nat} {r c r' c' : Int} {t : Tk} {l' : List Nat} {r2 c2 : Int} (h : skip false l r c = (x :: xs, r', c')) (hs : step x xs r' c' = .ok (t, l', r2, c2)) :
    lex l r c = (t :: (lex l' r2 c2).1, (lex l' r2 c2).2) := by
  rw [lex_eq, h]
  simp only [hs]
theorem lex_err {l : List Nat} {x : Nat} {xs : List Nat} {r c r' c' : Int} {e : Er × Int × Int} (h : skip false l r c = (x :: xs, r', c')) (hs : step x xs r' c' = .error e) : lex l r c = ([], some e) := by
  rw [lex_eq, h]
  simp only [hs]
theorem skip_here {x : Nat} {xs : List Nat} {r c : Int} (h : x ≠ 10 ∧ x ≠ 32 ∧ x ≠ 35) : skip false (x :: xs) r c = (x :: xs, r, c) := by
  rw [skip, if_neg h.1, if_neg h.2.1, if_neg h.2.2]
/-! ### places -/
def adv : List Nat → Int → Int → Int × Int
  | [], r, c => (r, c)
  | x :: xs, r, c => if x = 10 then adv xs (r + 1) 1 else adv xs r (c + 1)
theorem adv_append : ∀ (a b : List Nat) (r c : Int), adv (a ++ b) r c = adv b (adv a r c).1 (adv a r c).2
  | [], b, r, c => rfl
  | x :: xs, b, r, c => by
    show (if x = 10 then adv (xs ++ b) (r + 1) 1 else adv (xs ++ b) r (c + 1)) = _
    by_cases h : x = 10
    · rw [if_pos h, adv, if_pos h]; exact adv_append xs b _ _
    · rw [if_neg h, adv, if_neg h]; exact adv_append xs b _ _
theorem adv_flat : ∀ (a : List Nat) (r c : Int), 10 ∉ a → adv a r c = (r, c + a.length)
  | [], r, c, _ => by simp [adv]
  | x :: xs, r, c, h => by
    have h1 : x ≠ 10 := fun e => h (by simp [e])
    rw [adv, if_neg h1, adv_flat xs r (c + 1) fun m => h (List.mem_cons_of_mem _ m), List.length_cons]
    congr 1
    omega
/-- gaps: whatever follows, they are skipped whole -/
def Gap (g : List Nat) : Prop := ∀ (rest : List Nat) (r c : Int), skip false (g ++ rest) r c = skip false rest (adv g r c).1 (adv g r c).2
theorem Gap.nil : Gap [] := fun _ _ _ => rfl
theorem Gap.append {a b : List Nat} (h1 : Gap a) (h2 : Gap b) : Gap (a ++ b) := fun rest r c => by
  rw [List.append_assoc, h1, h2, adv_append]
/-- a run of the scanner's skipping over a gap, by computation: the end is not within a comment -/
def gapB : Bool → List Nat → Bool
  | b, [] => !b
  | true, x :: xs => if x = 10 then gapB false xs else gapB true xs
  | false, x :: xs => if x = 10 then gapB false xs else if x = 32 then gapB false xs else if x = 35 then gapB true xs else false
theorem gapB_ok : ∀ (b : Bool) (g : List Nat), gapB b g = true → ∀ (rest : List Nat) (r c : Int), skip b (g ++ rest) r c = skip false rest (adv g r c).1 (adv g r c).2
  | true, [], h, rest, r, c => by cases h
  | false, [], h, rest, r, c => rfl
  | true, x :: xs, h, rest, r, c => by
    show skip true (x :: (xs ++ rest)) r c = _
    rw [skip, adv]
    rw [gapB] at h
    by_cases e : x = 10
    · rw [if_pos e] at h ⊢; rw [if_pos e]; exact gapB_ok false xs h rest _ _
    · rw [if_neg e] at h ⊢; rw [if_neg e]; exact gapB_ok true xs h rest _ _
  | false, x :: xs, h, rest, r, c => by
    show skip false (x :: (xs ++ rest)) r c = _
    rw [skip, adv]
    rw [gapB] at h
    by_cases e : x = 10
    · rw [if_pos e] at h ⊢; rw [if_pos e]; exact gapB_ok false xs h rest _ _
    · rw [if_neg e] at h ⊢; rw [if_neg e]
      by_cases e2 : x = 32
      · rw [if_pos e2] at h ⊢; exact gapB_ok false xs h rest _ _
      · rw [if_neg e2] at h ⊢
        by_cases e3 : x = 35
        · rw [if_pos e3] at h ⊢; exact gapB_ok true xs h rest _ _
        · rw [if_neg e3] at h; cases h
theorem Gap.of {g : List Nat} (h : gapB false g = true) : Gap g := gapB_ok false g h
/-- a comment at the end of the text -/
theorem skip_comment : ∀ (l : List Nat) (r c : Int), 10 ∉ l → skip true l r c = ([], r, c + l.length)
  | [], r, c, _ => by simp [skip]
  | x :: xs, r, c, h => by
    have h1 : x ≠ 10 := fun e => h (by simp [e])
    rw [skip, if_neg h1, skip_comment xs r (c + 1) fun m => h (List.mem_cons_of_mem _ m), List.length_cons]
    congr 2
    omega
end Lx

/-! S0: texts of one newline; the scanner's fields; what the defs of the tokens promise. -/
namespace Rm
open PySem PySem.Spec PyProof.Rows L2 Lx
/-- the text of these codes -/
abbrev Tx (l : List Nat) : Str := ⟨l.toArray⟩
theorem Tx_len (l : List Nat) : (Tx l).length = l.length := rfl
theorem Tx_inj {a b : List Nat} (h : Tx a = Tx b) : a = b := by
  have := congrArg (fun s : Str => s.cps.toList) h
  exact this
theorem Tx_of (s : String) : Str.ofString s = Tx (codes s) := by
  have h := TL.tl_ofString s
  exact TL.ext_tl h
theorem Tx_app (a b : List Nat) : Tx a ++ Tx b = Tx (a ++ b) := TL.ext_tl (by rw [TL.tl_append])
theorem nl1 : ("\n" : Str) = ⟨#[10]⟩ := by decide +kernel
theorem small_len {n : Nat} (h : n ≤ 10000000) : n ≤ sizeLine := Nat.le_trans h (by decide)
/-! ### one letter -/
theorem let_ok : ∀ c < 128, Txt.isalpha ⟨#[c]⟩ = isLet c := by decide +kernel
theorem dig_ok : ∀ c < 128, PySem.Unicode.isDigit c = isDig c := by decide +kernel
theorem ascii1 (c : Nat) : Txt.isascii ⟨#[c]⟩ = decide (c < 128) := by
  show (#[c] : Array Nat).all (fun x => decide (x < 128)) = _
  simp
theorem isLet_lt {c : Nat} (h : isLet c = true) : c < 128 := by
  unfold isLet at h
  simp at h
  omega
theorem isDig_lt {c : Nat} (h : isDig c = true) : c < 128 := by
  unfold isDig at h
  simp at h
  omega
theorem isWP_lt {c : Nat} (h : isWP c = true) : c < 128 := by
  unfold isWP at h
  simp only [Bool.or_eq_true] at h
  rcases h with h | h | h
  · exact isLet_lt h
  · exact isDig_lt h
  · have := beq_iff_eq.mp h
    omega
theorem digits_mem (c : Nat) : decide (c ∈ ("0123456789" : Str).cps.toList) = isDig c := by
  rw [show ("0123456789" : Str).cps.toList = [48, 49, 50, 51, 52, 53, 54, 55, 56, 57] by decide +kernel]
  unfold isDig
  rw [Bool.eq_iff_iff]
  simp
  omega
theorem under1 : ("_" : Str) = ⟨#[95]⟩ := by decide +kernel
theorem dec_one (a b : Nat) : decide (V.str ⟨#[a]⟩ = V.str ⟨#[b]⟩) = decide (a = b) := by
  rw [Bool.eq_iff_iff]
  simp
/-! ### finding newlines -/
theorem find_nl (l : List Nat) (i : Nat) (h : i ≤ l.length) : Txt.find3 (Tx l) ("\n" : Str) (i : Int) = (if i + ((l.drop i).takeWhile (fun c => c != 10)).length = l.length then -1 else ((i + ((l.drop i).takeWhile (fun c => c != 10)).length : Nat) : Int)) := by
  rw [nl1]
  have hf : PySem.fromIndex (Tx l).length (i : Int) = i := by
    unfold PySem.fromIndex
    rw [if_neg (by omega)]
    omega
  have hget : ∀ v, v < l.length → (Tx l).cps.getD v 0 = l.getD v 0 := fun v hv => by simp [Array.getD, hv]
  -- the takeWhile
  have key : ∀ (m : List Nat) (k : Nat), (∀ v, v < k → v < m.length → m.getD v 0 ≠ 10) → k ≤ m.length → (k = m.length ∨ m.getD k 0 = 10) → (m.takeWhile (fun c => c != 10)).length = k := by
    intro m
    induction m with
    | nil =>
      intro k _ hk _
      simp at hk
      simp [hk]
    | cons x xs ih =>
      intro k hv hk he
      cases k with
      | zero =>
        rcases he with he | he
        · simp at he
        · have e : x = 10 := by simpa using he
          simp [e]
      | succ k =>
        have e : x ≠ 10 := by simpa using hv 0 (by omega) (by simp)
        rw [List.takeWhile_cons, if_pos (by simpa using e), List.length_cons]
        refine congrArg Nat.succ (ih k (fun v h1 h2 => ?_) (by simpa using hk) ?_)
        · have q := hv (v + 1) (by omega) (by simpa using h2)
          simpa using q
        · rcases he with he | he
          · exact .inl (by simpa using he)
          · exact .inr (by simpa using he)
  have dropget : ∀ v, (l.drop i).getD v 0 = l.getD (i + v) 0 := fun v => by simp [List.getD_eq_getElem?_getD, List.getElem?_drop]
  rcases StrLaws.find3_spec (Tx l) 10 (i : Int) with ⟨h0, hn⟩ | ⟨k, h0, h1, h2, h3, h4⟩
  · rw [hf] at hn
    have e := key (l.drop i) (l.drop i).length (fun v _ hv => by
      rw [dropget]
      rw [List.length_drop] at hv
      have q := hn (i + v) (by omega) (by show i + v < l.length; omega)
      rw [hget _ (by omega)] at q
      exact q) (Nat.le_refl _) (.inl rfl)
    rw [h0, e, List.length_drop, if_pos (by omega)]
  · rw [hf] at h1 h4
    have h2' : k < l.length := h2
    have e := key (l.drop i) (k - i) (fun v hk hv => by
      rw [dropget]
      have q := h4 (i + v) (by omega) (by omega)
      rw [hget _ (by omega)] at q
      exact q) (by rw [List.length_drop]; omega) (.inr (by rw [dropget, show i + (k - i) = k by omega, ← hget k h2']; exact h3))
    rw [h0, e, show i + (k - i) = k by omega, if_neg (by omega)]
/-! ### the place of a text's end: rows by count, columns by rfind -/
theorem cnt_adv : ∀ (l : List Nat) (r c : Int), (adv l r c).1 = r + PyProof.Rows.cnt 10 l
  | [], r, c => by simp [adv, PyProof.Rows.cnt_nil]
  | x :: xs, r, c => by
    rw [PyProof.Rows.cnt_cons, adv]
    by_cases h : x = 10
    · rw [if_pos h, if_pos h, cnt_adv xs]
      omega
    · rw [if_neg h, if_neg h, cnt_adv xs]
      omega
/-- the column behind a text: counted from its last newline -/
theorem adv_col : ∀ (a b : List Nat) (r c : Int), 10 ∉ b → (adv (a ++ 10 :: b) r c).2 = b.length + 1
  | [], b, r, c, h => by
    show (if (10 : Nat) = 10 then adv b (r + 1) 1 else adv b r (c + 1)).2 = _
    rw [if_pos rfl, adv_flat b _ _ h]
    show (1 : Int) + b.length = _
    omega
  | x :: xs, b, r, c, h => by
    show (if x = 10 then adv (xs ++ 10 :: b) (r + 1) 1 else adv (xs ++ 10 :: b) r (c + 1)).2 = _
    split
    · exact adv_col xs b _ _ h
    · exact adv_col xs b _ _ h
theorem place_ok (l : List Nat) : Txt.count (Tx l) ("\n" : Str) + 1 = (adv l 1 1).1 ∧ ((l.length : Int) - Txt.rfind (Tx l) ("\n" : Str)) = (adv l 1 1).2 := by
  refine ⟨?_, ?_⟩
  · rw [nl1, PyProof.Rows.count_cnt, cnt_adv]
    show cnt 10 l + 1 = 1 + cnt 10 l
    omega
  · rw [nl1]
    unfold Txt.rfind
    rcases StrLaws.last_spec (Tx l) ⟨#[10]⟩ with ⟨h0, hn⟩ | ⟨i, h0, hi, hn⟩
    · rw [h0]
      have hno : 10 ∉ l := fun hm => by
        obtain ⟨v, hv, e⟩ := List.mem_iff_getElem.mp hm
        exact hn v ((StrLaws.subAt_one (Tx l) 10 v).mpr (by show l[v]? = some 10; rw [List.getElem?_eq_getElem hv, e]))
      rw [adv_flat l 1 1 hno]
      show (l.length : Int) - (-1) = 1 + (l.length : Int)
      omega
    · rw [h0]
      have e1 : l[i]? = some 10 := (StrLaws.subAt_one (Tx l) 10 i).mp hi
      obtain ⟨hlt, e2⟩ := List.getElem?_eq_some_iff.mp e1
      have hno : 10 ∉ l.drop (i + 1) := fun hm => by
        obtain ⟨v, hv, e⟩ := List.mem_iff_getElem.mp hm
        rw [List.length_drop] at hv
        refine hn (i + 1 + v) (by omega) ((StrLaws.subAt_one (Tx l) 10 (i + 1 + v)).mpr ?_)
        show l[i + 1 + v]? = some 10
        rw [List.getElem_drop] at e
        rw [List.getElem?_eq_getElem (by omega), e]
      have el : l = l.take i ++ 10 :: l.drop (i + 1) := by
        rw [← e2, ← List.drop_eq_getElem_cons hlt, List.take_append_drop]
      have q := adv_col (l.take i) (l.drop (i + 1)) 1 1 hno
      rw [← el] at q
      rw [q, List.length_drop]
      show (l.length : Int) - (i : Int) = ((l.length - (i + 1) : Nat) : Int) + 1
      omega
end Rm

/-! S1: the tokens' defs: promises, readings (by gen.py), and that the readings keep the promises. -/
namespace Rm
open PySem PySem.Spec PyProof.Rows L2 Lx
/-- what is wanted where an error of the class of this name is raised with a row and a column -/
abbrev EWT := Str → Int → Int → XK → Hp → Prop
def kdS : Kd → Str
  | .name => "name"
  | .number => "number"
  | .keyword => "keyword"
  | .sign => "sign"
  | .fin => "end"
def erS : Er → Str
  | .char => "BadCharacter"
  | .num => "BadNumber"
def tkV (t : Tk) : List V := [.str (kdS t.kind), .str (Tx t.text), .int t.row, .int t.col]
abbrev CS (K : PySem.W.Frag) : Addr := He.ga K ("Scanner" : Str)
def scF (l : List Nat) (i r c : Int) : List (Str × V) := [("text", .str (Tx l)), ("at", .int i), ("row", .int r), ("column", .int c)]
theorem neTA : ¬ (("text" : Str) = "at") := by decide +kernel
theorem neTR : ¬ (("text" : Str) = "row") := by decide +kernel
theorem neTC : ¬ (("text" : Str) = "column") := by decide +kernel
theorem neAR : ¬ (("at" : Str) = "row") := by decide +kernel
theorem neAC : ¬ (("at" : Str) = "column") := by decide +kernel
theorem neRC : ¬ (("row" : Str) = "column") := by decide +kernel
section
variable {l : List Nat} {i r c j : Int}
theorem scF_text : (scF l i r c).lookup ("text" : Str) = some (.str (Tx l)) := lk_eq
theorem scF_at : (scF l i r c).lookup ("at" : Str) = some (.int i) := by
  unfold scF
  rw [lk_ne (Ne.symm neTA), lk_eq]
theorem scF_row : (scF l i r c).lookup ("row" : Str) = some (.int r) := by
  unfold scF
  rw [lk_ne (Ne.symm neTR), lk_ne (Ne.symm neAR), lk_eq]
theorem scF_col : (scF l i r c).lookup ("column" : Str) = some (.int c) := by
  unfold scF
  rw [lk_ne (Ne.symm neTC), lk_ne (Ne.symm neAC), lk_ne (Ne.symm neRC), lk_eq]
theorem scF_no {m : Str} (h1 : ¬ m = "text") (h2 : ¬ m = "at") (h3 : ¬ m = "row") (h4 : ¬ m = "column") : (scF l i r c).lookup m = none := by
  unfold scF
  rw [lk_ne h1, lk_ne h2, lk_ne h3, lk_ne h4]
  rfl
theorem scF_pat : putF ("at" : Str) (.int j) (scF l i r c) = scF l j r c := by
  unfold scF
  rw [pf_ne neTA, pf_eq]
theorem scF_prow : putF ("row" : Str) (.int j) (scF l i r c) = scF l i j c := by
  unfold scF
  rw [pf_ne neTR, pf_ne neAR, pf_eq]
theorem scF_pcol : putF ("column" : Str) (.int j) (scF l i r c) = scF l i r j := by
  unfold scF
  rw [pf_ne neTC, pf_ne neAC, pf_ne neRC, pf_eq]
theorem scF_len : (scF l i r c).length < 1000 := by
  show 4 < 1000
  decide
theorem scF_init : putF ("column" : Str) (.int c) (putF ("row" : Str) (.int r) (putF ("at" : Str) (.int i) (putF ("text" : Str) (.str (Tx l)) []))) = scF l i r c := by
  rw [pf_nil, pf_ne neTA, pf_nil, pf_ne neTR, pf_ne neAR, pf_nil, pf_ne neTC, pf_ne neAC, pf_ne neRC, pf_nil]
  rfl
end
structure ScC (K : PySem.W.Frag) : Prop where
  cl : Cls K (CS K)
  nt : NoAttr K (CS K) "text"
  na : NoAttr K (CS K) "at"
  nr : NoAttr K (CS K) "row"
  nc : NoAttr K (CS K) "column"
theorem upd_self {H : Hp} {a : Addr} {o : HO} (h : H a = some o) : upd H a o = H := by
  funext b
  by_cases e : b = a
  · rw [e, upd_same, h]
  · rw [upd_ne e]
/-! ### promises -/
def sp_is_letter (K : PySem.W.Frag) : Sp := fun vs H Q _ => ∃ c : Nat, vs = [.str ⟨#[c]⟩] ∧ Q (.bl (isLet c)) H
def sp_is_word_part (K : PySem.W.Frag) : Sp := fun vs H Q _ => ∃ c : Nat, vs = [.str ⟨#[c]⟩] ∧ Q (.bl (isWP c)) H
def sp_is_number (K : PySem.W.Frag) : Sp := fun vs H Q _ => ∃ w : List Nat, vs = [.str (Tx w)] ∧ w ≠ [] ∧ w.length ≤ 10000000 ∧ (∀ x ∈ w, isWP x = true) ∧ Q (.bl (isNum w)) H
def sp_word_kind (K : PySem.W.Frag) : Sp := fun vs H Q _ => ∃ w : List Nat, vs = [.str (Tx w)] ∧ Q (.str (kdS (kindOf w))) H
/-- a scanner at p: its text, how far it has read, row and column -/
def Sc (K : PySem.W.Frag) (H : Hp) (p dx : Addr) (l : List Nat) (i : Nat) (r c : Int) : Prop := H p = some (.ins (CS K) dx (scF l (i : Int) r c)) ∧ l.length ≤ 10000000 ∧ i ≤ l.length
abbrev scO (K : PySem.W.Frag) (dx : Addr) (l : List Nat) (i : Nat) (r c : Int) : HO := .ins (CS K) dx (scF l (i : Int) r c)
def sp_Scanner_init (K : PySem.W.Frag) : Sp := fun vs H Q _ => ∃ (p dx : Addr) (l : List Nat), vs = [.ref p, .str (Tx l)] ∧ H p = some (.ins (CS K) dx []) ∧ Q .non (upd H p (scO K dx l 0 1 1))
def sp_Scanner_is_done (K : PySem.W.Frag) : Sp := fun vs H Q _ => ∃ (p dx : Addr) (l : List Nat) (i : Nat) (r c : Int), vs = [.ref p] ∧ Sc K H p dx l i r c ∧ Q (.bl (decide (i = l.length))) H
def sp_Scanner_skip_newline (K : PySem.W.Frag) : Sp := fun vs H Q _ => ∃ (p dx : Addr) (l : List Nat) (i : Nat) (r c : Int), vs = [.ref p] ∧ Sc K H p dx l i r c ∧ Q .non (upd H p (scO K dx l (i + 1) (r + 1) 1))
abbrev rowLen (l : List Nat) : Nat := (l.takeWhile (fun c => c != 10)).length
def sp_Scanner_row_end (K : PySem.W.Frag) : Sp := fun vs H Q _ => ∃ (p dx : Addr) (l : List Nat) (i : Nat) (r c : Int), vs = [.ref p] ∧ Sc K H p dx l i r c ∧ Q (.int ((i + rowLen (l.drop i) : Nat) : Int)) H
def sp_Scanner_word_end (K : PySem.W.Frag) : Sp := fun vs H Q _ => ∃ (p dx : Addr) (l : List Nat) (i : Nat) (r c : Int), vs = [.ref p] ∧ Sc K H p dx l i r c ∧ Q (.int ((i + (word (l.drop i)).length : Nat) : Int)) H
def sp_Scanner_take_to (K : PySem.W.Frag) : Sp := fun vs H Q _ => ∃ (p dx : Addr) (l : List Nat) (i n : Nat) (r c : Int), vs = [.ref p, .int ((i + n : Nat) : Int)] ∧ Sc K H p dx l i r c ∧ i + n ≤ l.length ∧
  Q (.str (Tx ((l.drop i).take n))) (upd H p (scO K dx l (i + n) r (c + n)))
def sp_Scanner_skip_gaps (K : PySem.W.Frag) : Sp := fun vs H Q _ => ∃ (p dx : Addr) (l : List Nat) (i : Nat) (r c : Int), vs = [.ref p] ∧ Sc K H p dx l i r c ∧
  ∀ (j : Nat) (r2 c2 : Int), j ≤ l.length → skip false (l.drop i) r c = (l.drop j, r2, c2) → Q .non (upd H p (scO K dx l j r2 c2))
/-- at a place that is no gap and not the end: a sign -/
def sp_Scanner_take_sign (K : PySem.W.Frag) (EW : EWT) : Sp := fun vs H Q E => ∃ (p dx : Addr) (l : List Nat) (i : Nat) (r c : Int) (x : Nat) (xs : List Nat), vs = [.ref p] ∧ Sc K H p dx l i r c ∧ l.drop i = x :: xs ∧ isLet x = false ∧ isDig x = false ∧
  (∀ t (n : Nat), i + n ≤ l.length → Lx.step x xs r c = .ok (⟨.sign, t, r, c⟩, l.drop (i + n), r, c + n) → Q (.str (Tx t)) (upd H p (scO K dx l (i + n) r (c + n)))) ∧ (Lx.step x xs r c = .error (.char, r, c) → EW "BadCharacter" r c E H)
def sp_Scanner_take_token (K : PySem.W.Frag) (EW : EWT) : Sp := fun vs H Q E => ∃ (p dx : Addr) (l : List Nat) (i : Nat) (r c : Int) (x : Nat) (xs : List Nat), vs = [.ref p] ∧ Sc K H p dx l i r c ∧ l.drop i = x :: xs ∧
  (∀ (t : Tk) (n : Nat) (q : Addr) (H' : Hp), i + n ≤ l.length → Lx.step x xs r c = .ok (t, l.drop (i + n), r, c + n) → H q = none → H' = upd (upd H p (scO K dx l (i + n) r (c + n))) q (.tup (tkV t)) → Q (.ref q) H') ∧
  (∀ (e : Er) (H' : Hp), Lx.step x xs r c = .error (e, r, c) → (H' = H ∨ ∃ n : Nat, H' = upd H p (scO K dx l (i + n) r (c + n))) → EW (erS e) r c E H')
/-- a list of tokens at p: tuples -/
def TksAt (H : Hp) (p : Addr) (ts : List Tk) : Prop := ∃ qs : List Addr, H p = some (.lst (qs.map V.ref)) ∧ qs.length = ts.length ∧ ∀ (k : Nat) (q : Addr) (t : Tk), qs[k]? = some q → ts[k]? = some t → H q = some (.tup (tkV t))
def sp_tokens (K : PySem.W.Frag) (EW : EWT) : Sp := fun vs H Q E => ∃ l : List Nat, vs = [.str (Tx l)] ∧ l.length ≤ 10000000 ∧
  (∀ (ts : List Tk) (p : Addr) (H' : Hp), lex l 1 1 = (ts, none) → H p = none → Same H H' → TksAt H' p ts → Q (.ref p) H') ∧
  (∀ (ts : List Tk) (e : Er) (r c : Int) (H' : Hp), lex l 1 1 = (ts, some (e, r, c)) → Same H H' → EW (erS e) r c E H')
/-! ### readings -/

def ns_is_letter : List Str := ["char"]
def t_is_letter (K : PySem.W.Frag) (E : XK) : TS :=
  (tRet (tAndV (tBM0 K "str" rIsascii (tVar 0)) (tBM0 K "str" rIsalpha (tVar 0))))

def ns_is_word_part : List Str := ["char"]
def t_is_word_part (K : PySem.W.Frag) (E : XK) : TS :=
  (tRet (tOrV (tCall (sp_is_letter K) [] E (tCons (tVar 0) tNil)) (tOrV (tOp rInSign (tVar 0) (tC (.str ("0123456789" : Str)))) (tOp rEq (tVar 0) (tC (.str ("_" : Str)))))))

def ns_is_number : List Str := ["word"]
def t_is_number (K : PySem.W.Frag) (E : XK) : TS :=
  (tSeq (tIfS (tOr (tNot (tB (tBM0 K "str" rIsascii (tVar 0)))) (tNot (tB (tBM0 K "str" rIsdigit (tVar 0)))))
      (tRet (tC (.bl false)))
      tNext)
    (tSeq (tIfS (tAnd (tTest (tOp rGtI (tCB rLenS (tCons (tVar 0) tNil)) (tC (.int 1)))) (tTest (tOp rEq (tOp rIxS (tVar 0) (tC (.int 0))) (tC (.str ("0" : Str))))))
      (tRet (tC (.bl false)))
      tNext)
    (tRet (tAndV (tOp rLeI (tCB rLenS (tCons (tVar 0) tNil)) (tC (.int 13))) (tOp rLeI (tCB rIntS (tCons (tVar 0) tNil)) (tC (.int 1000000000000)))))))

def ns_word_kind : List Str := ["word"]
def t_word_kind (K : PySem.W.Frag) (E : XK) : TS :=
  (tSeq (tIfS (tTest (tOp (rIn K false) (tVar 0) (tC (.ref (He.ga K ("KEYWORDS" : Str))))))
      (tRet (tC (.str ("keyword" : Str))))
      tNext)
    (tRet (tC (.str ("name" : Str)))))

def ns_Scanner_init : List Str := ["self", "text"]
def t_Scanner_init (K : PySem.W.Frag) (E : XK) : TS :=
  (tSeq (sFld K (tVar 0) (tVar 1) ("text" : Str))
    (tSeq (sFld K (tVar 0) (tC (.int 0)) ("at" : Str))
    (tSeq (sFld K (tVar 0) (tC (.int 1)) ("row" : Str))
    (sFld K (tVar 0) (tC (.int 1)) ("column" : Str)))))

def ns_Scanner_is_done : List Str := ["self"]
def t_Scanner_is_done (K : PySem.W.Frag) (E : XK) : TS :=
  (tRet (tOp rEq (tFld K (tVar 0) ("at" : Str)) (tCB rLenS (tCons (tFld K (tVar 0) ("text" : Str)) tNil))))

def ns_Scanner_skip_newline : List Str := ["self"]
def t_Scanner_skip_newline (K : PySem.W.Frag) (E : XK) : TS :=
  (tSeq (sFldAug K (tVar 0) (tC (.int 1)) rAdd ("at" : Str))
    (tSeq (sFldAug K (tVar 0) (tC (.int 1)) rAdd ("row" : Str))
    (sFld K (tVar 0) (tC (.int 1)) ("column" : Str))))

def ns_Scanner_row_end : List Str := ["self", "end"]
def t_Scanner_row_end (K : PySem.W.Frag) (E : XK) : TS :=
  (tSeq (tAsg (tBM K "str" rFind3 (tFld K (tVar 0) ("text" : Str)) (tCons (tC (.str ("\n" : Str))) (tCons (tFld K (tVar 0) ("at" : Str)) tNil))) (gName 1))
    (tSeq (tIfS (tTest (tOp rEq (tVar 1) (tUn rNegI (tC (.int 1)))))
      (tRet (tCB rLenS (tCons (tFld K (tVar 0) ("text" : Str)) tNil)))
      tNext)
    (tRet (tVar 1))))

def ns_Scanner_word_end : List Str := ["self", "end"]
def t_Scanner_word_end (K : PySem.W.Frag) (E : XK) : TS :=
  (tSeq (tAsg (tFld K (tVar 0) ("at" : Str)) (gName 1))
    (tSeq (tWhile (tAnd (tTest (tOp rLtI (tVar 1) (tCB rLenS (tCons (tFld K (tVar 0) ("text" : Str)) tNil)))) (tB (tCall (sp_is_word_part K) [] E (tCons (tOp rIxS (tFld K (tVar 0) ("text" : Str)) (tVar 1)) tNil))))
      (tAug 1 (tC (.int 1)) (ipI fun i j => i + j)))
    (tRet (tVar 1))))

def ns_Scanner_take_to : List Str := ["self", "end", "taken"]
def t_Scanner_take_to (K : PySem.W.Frag) (E : XK) : TS :=
  (tSeq (tAsg (tSl rSlS (tFld K (tVar 0) ("text" : Str)) (oSome (tFld K (tVar 0) ("at" : Str))) (oSome (tVar 1))) (gName 2))
    (tSeq (sFldAug K (tVar 0) (tOp rSubI (tVar 1) (tFld K (tVar 0) ("at" : Str))) rAdd ("column" : Str))
    (tSeq (sFld K (tVar 0) (tVar 1) ("at" : Str))
    (tRet (tVar 2)))))

def ns_Scanner_skip_gaps : List Str := ["self", "char"]
def t_Scanner_skip_gaps (K : PySem.W.Frag) (E : XK) : TS :=
  (tWhile (tNot (tB (tMeth (He.ga K ("Scanner" : Str)) ("is_done" : Str) (sp_Scanner_is_done K) [] E (tVar 0) tNil)))
      (tSeq (tAsg (tOp rIxS (tFld K (tVar 0) ("text" : Str)) (tFld K (tVar 0) ("at" : Str))) (gName 1))
    (tIfS (tTest (tOp rEq (tVar 1) (tC (.str ("\n" : Str)))))
      (tDrop (tMeth (He.ga K ("Scanner" : Str)) ("skip_newline" : Str) (sp_Scanner_skip_newline K) [] E (tVar 0) tNil))
      (tIfS (tTest (tOp rEq (tVar 1) (tC (.str (" " : Str)))))
      (tDrop (tMeth (He.ga K ("Scanner" : Str)) ("take_to" : Str) (sp_Scanner_take_to K) [] E (tVar 0) (tCons (tOp rAddI (tFld K (tVar 0) ("at" : Str)) (tC (.int 1))) tNil)))
      (tIfS (tTest (tOp rEq (tVar 1) (tC (.str ("#" : Str)))))
      (tDrop (tMeth (He.ga K ("Scanner" : Str)) ("take_to" : Str) (sp_Scanner_take_to K) [] E (tVar 0) (tCons (tMeth (He.ga K ("Scanner" : Str)) ("row_end" : Str) (sp_Scanner_row_end K) [] E (tVar 0) tNil) tNil)))
      tRetN)))))

def ns_Scanner_take_sign : List Str := ["self", "pair"]
def t_Scanner_take_sign (K : PySem.W.Frag) (EW : EWT) (E : XK) (rz0 : TS) : TS :=
  (tSeq (tAsg (tSl rSlS (tFld K (tVar 0) ("text" : Str)) (oSome (tFld K (tVar 0) ("at" : Str))) (oSome (tOp rAddI (tFld K (tVar 0) ("at" : Str)) (tC (.int 2))))) (gName 1))
    (tSeq (tIfS (tTest (tOp (rIn K false) (tVar 1) (tC (.ref (He.ga K ("LONG_SIGNS" : Str))))))
      (tRet (tMeth (He.ga K ("Scanner" : Str)) ("take_to" : Str) (sp_Scanner_take_to K) [] E (tVar 0) (tCons (tOp rAddI (tFld K (tVar 0) ("at" : Str)) (tC (.int 2))) tNil)))
      tNext)
    (tSeq (tIfS (tTest (tOp (rIn K false) (tOp rIxS (tFld K (tVar 0) ("text" : Str)) (tFld K (tVar 0) ("at" : Str))) (tC (.ref (He.ga K ("SHORT_SIGNS" : Str))))))
      (tRet (tMeth (He.ga K ("Scanner" : Str)) ("take_to" : Str) (sp_Scanner_take_to K) [] E (tVar 0) (tCons (tOp rAddI (tFld K (tVar 0) ("at" : Str)) (tC (.int 1))) tNil)))
      tNext)
    rz0)))

def ns_Scanner_take_token : List Str := ["self", "row", "column", "char", "word"]
def t_Scanner_take_token (K : PySem.W.Frag) (EW : EWT) (E : XK) (rz0 : TS) : TS :=
  (tSeq (tAsg (tFld K (tVar 0) ("row" : Str)) (gName 1))
    (tSeq (tAsg (tFld K (tVar 0) ("column" : Str)) (gName 2))
    (tSeq (tAsg (tOp rIxS (tFld K (tVar 0) ("text" : Str)) (tFld K (tVar 0) ("at" : Str))) (gName 3))
    (tSeq (tIfS (tB (tCall (sp_is_letter K) [] E (tCons (tVar 3) tNil)))
      (tSeq (tAsg (tMeth (He.ga K ("Scanner" : Str)) ("take_to" : Str) (sp_Scanner_take_to K) [] E (tVar 0) (tCons (tMeth (He.ga K ("Scanner" : Str)) ("word_end" : Str) (sp_Scanner_word_end K) [] E (tVar 0) tNil) tNil)) (gName 4))
    (tRet (tTup (tCons (tCall (sp_word_kind K) [] E (tCons (tVar 4) tNil)) (tCons (tVar 4) (tCons (tVar 1) (tCons (tVar 2) tNil)))))))
      tNext)
    (tSeq (tIfS (tTest (tOp rInSign (tVar 3) (tC (.str ("0123456789" : Str)))))
      (tSeq (tAsg (tMeth (He.ga K ("Scanner" : Str)) ("take_to" : Str) (sp_Scanner_take_to K) [] E (tVar 0) (tCons (tMeth (He.ga K ("Scanner" : Str)) ("word_end" : Str) (sp_Scanner_word_end K) [] E (tVar 0) tNil) tNil)) (gName 4))
    (tSeq (tIfS (tNot (tB (tCall (sp_is_number K) [] E (tCons (tVar 4) tNil))))
      rz0
      tNext)
    (tRet (tTup (tCons (tC (.str ("number" : Str))) (tCons (tVar 4) (tCons (tVar 1) (tCons (tVar 2) tNil))))))))
      tNext)
    (tRet (tTup (tCons (tC (.str ("sign" : Str))) (tCons (tMeth (He.ga K ("Scanner" : Str)) ("take_sign" : Str) (sp_Scanner_take_sign K EW) [] E (tVar 0) tNil) (tCons (tVar 1) (tCons (tVar 2) tNil)))))))))))

def ns_tokens : List Str := ["text", "scanner", "found"]
def t_tokens (K : PySem.W.Frag) (EW : EWT) (E : XK) : TS :=
  (tSeq (tAsg (tMake (He.ga K ("Scanner" : Str)) (sp_Scanner_init K) [] E (tCons (tVar 0) tNil)) (gName 1))
    (tSeq (tAsg (tLst tNil) (gName 2))
    (tSeq (tDrop (tMeth (He.ga K ("Scanner" : Str)) ("skip_gaps" : Str) (sp_Scanner_skip_gaps K) [] E (tVar 1) tNil))
    (tSeq (tWhile (tNot (tB (tMeth (He.ga K ("Scanner" : Str)) ("is_done" : Str) (sp_Scanner_is_done K) [] E (tVar 1) tNil)))
      (tSeq (tDrop (tBM K "list" rAppend (tVar 2) (tCons (tMeth (He.ga K ("Scanner" : Str)) ("take_token" : Str) (sp_Scanner_take_token K EW) [] E (tVar 1) tNil) tNil)))
    (tDrop (tMeth (He.ga K ("Scanner" : Str)) ("skip_gaps" : Str) (sp_Scanner_skip_gaps K) [] E (tVar 1) tNil))))
    (tSeq (tDrop (tBM K "list" rAppend (tVar 2) (tCons (tTup (tCons (tC (.str ("end" : Str))) (tCons (tC (.str ("" : Str))) (tCons (tFld K (tVar 1) ("row" : Str)) (tCons (tFld K (tVar 1) ("column" : Str)) tNil))))) tNil)))
    (tRet (tVar 2)))))))

/-! ### runs -/
theorem _root_.L2.Same.put {H H' : Hp} {a : Addr} {o : HO} (s : Same H H') (n : H a = none) : Same H (upd H' a o) := fun b u e => by
  rw [upd_ne (ne_of_none e n)]
  exact s b u e
theorem bf {b : Bool} (h : ¬ b = true) : b = false := Bool.eq_false_iff.mpr h
section
variable {K : PySem.W.Frag} {vs : List V} {H : Hp} {Q : VK} {E : XK}
theorem run_is_letter (h : sp_is_letter K vs H Q E) : t_is_letter K E (DQ Q) (start ns_is_letter vs) H := by
  obtain ⟨c, rfl, q⟩ := h
  refine ⟨_, rfl, rfl, _, rfl, rfl, trivial, _, rfl, ?_⟩
  rw [ascii1]
  refine ite2 (fun h => ?_) (fun h => ?_)
  · have h := of_decide_eq_true h
    refine ⟨_, rfl, rfl, _, rfl, rfl, trivial, ?_⟩
    rw [let_ok c h]
    exact q
  · have e : isLet c = false := by
      cases e : isLet c with
      | false => rfl
      | true => exact absurd (decide_eq_true (isLet_lt e)) h
    show Q (.bl false) H
    rw [← e]
    exact q
theorem run_is_word_part (h : sp_is_word_part K vs H Q E) : t_is_word_part K E (DQ Q) (start ns_is_word_part vs) H := by
  obtain ⟨c, rfl, q⟩ := h
  refine ⟨_, rfl, c, rfl, _, rfl, ?_⟩
  have e : isWP c = (isLet c || (isDig c || c == 95)) := rfl
  refine ite2 (fun h => ?_) (fun h => ?_)
  · rw [e, h] at q
    exact q
  · have h := bf h
    refine ⟨_, rfl, c, _, rfl, rfl, _, rfl, ?_⟩
    rw [digits_mem]
    refine ite2 (fun h2 => ?_) (fun h2 => ?_)
    · rw [e, h, h2] at q
      exact q
    · have h2 := bf h2
      refine ⟨_, rfl, rfl, ?_⟩
      rw [under1, dec_one]
      rw [e, h, h2] at q
      rw [Bool.false_or, Bool.false_or] at q
      rw [show decide (c = 95) = (c == 95) by rw [Bool.beq_eq_decide_eq]]
      exact q
theorem isdigit_ok {w : List Nat} (hne : w ≠ []) (hw : ∀ x ∈ w, isWP x = true) : Txt.isdigit (Tx w) = w.all isDig := by
  have h1 : (Tx w).length > 0 := List.length_pos_iff.mpr hne
  show (decide ((Tx w).length > 0) && w.toArray.all PySem.Unicode.isDigit) = _
  rw [decide_eq_true h1, Bool.true_and, List.all_toArray]
  rw [Bool.eq_iff_iff, List.all_eq_true, List.all_eq_true]
  exact ⟨fun h x hx => by rw [← dig_ok x (isWP_lt (hw x hx))]; exact h x hx, fun h x hx => by rw [dig_ok x (isWP_lt (hw x hx))]; exact h x hx⟩
theorem isascii_ok {w : List Nat} (hw : ∀ x ∈ w, isWP x = true) : Txt.isascii (Tx w) = true := by
  show w.toArray.all (fun x => decide (x < 128)) = true
  rw [List.all_toArray, List.all_eq_true]
  exact fun x hx => decide_eq_true (isWP_lt (hw x hx))
theorem run_is_number (h : sp_is_number K vs H Q E) : t_is_number K E (DQ Q) (start ns_is_number vs) H := by
  obtain ⟨w, rfl, hne, hl, hw, q⟩ := h
  refine ⟨_, rfl, rfl, _, rfl, rfl, trivial, _, rfl, ?_⟩
  rw [isascii_ok hw]
  refine iteF ?_
  refine ⟨_, rfl, rfl, _, rfl, rfl, trivial, _, rfl, ?_⟩
  rw [isdigit_ok hne hw]
  have e : isNum w = (w.all isDig && (!(decide (1 < w.length) && (w.head? == some 48)) && (decide (w.length ≤ 13) && decide (val w ≤ 1000000000000)))) := rfl
  refine ite2 (fun h => ?_) (fun h => ?_)
  · have h : w.all isDig = false := by simpa using h
    rw [e, h] at q
    exact q
  · have h : w.all isDig = true := by simpa using h
    have hz : (Tx w).length ≤ sizeLine := small_len hl
    have hpos : 0 < w.length := List.length_pos_iff.mpr hne
    refine ⟨_, rfl, _, rfl, hz, _, _, rfl, rfl, _, rfl, ?_⟩
    have e1 : decide ((1 : Int) < ((Tx w).length : Int)) = decide (1 < w.length) := by
      rw [Tx_len]
      exact decide_eq_decide.mpr (by omega)
    rw [e1]
    have tail : (decide (1 < w.length) && (w.head? == some 48)) = false →
        (tRet (tAndV (tOp rLeI (tCB rLenS (tCons (tVar 0) tNil)) (tC (.int 13))) (tOp rLeI (tCB rIntS (tCons (tVar 0) tNil)) (tC (.int 1000000000000))))) (DQ Q) (start ns_is_number [V.str (Tx w)]) H := fun hh => by
      rw [e, h, hh] at q
      rw [Bool.true_and, Bool.not_false, Bool.true_and] at q
      refine ⟨_, rfl, _, rfl, hz, _, _, rfl, rfl, _, rfl, ?_⟩
      have e2 : decide (((Tx w).length : Int) ≤ 13) = decide (w.length ≤ 13) := by
        rw [Tx_len]
        exact decide_eq_decide.mpr (by omega)
      rw [e2]
      refine ite2 (fun h3 => ?_) (fun h3 => ?_)
      · have h3' := of_decide_eq_true h3
        have hd : NumText.AllDigits (Tx w).cps.toList := fun x hx => by
          have q := List.all_eq_true.mp h x hx
          unfold isDig at q
          simp at q
          exact q
        have hi := intText_digits hd (by exact hne) (by show w.length ≤ 4300; omega)
        refine ⟨_, rfl, _, _, rfl, hi, (by show w.length ≤ 640; omega), _, _, rfl, rfl, ?_⟩
        have e3 : decide (((NumText.digitsVal (Tx w).cps.toList : Nat) : Int) ≤ 1000000000000) = decide (val w ≤ 1000000000000) := by
          show decide (((val w : Nat) : Int) ≤ 1000000000000) = _
          exact decide_eq_decide.mpr (by omega)
        show Q (.bl (decide (((NumText.digitsVal (Tx w).cps.toList : Nat) : Int) ≤ 1000000000000))) H
        rw [e3]
        rw [h3, Bool.true_and] at q
        exact q
      · have h3 := bf h3
        rw [h3, Bool.false_and] at q
        exact q
    refine ite2 (fun h2 => ?_) (fun h2 => ?_)
    · obtain ⟨c, cs, rfl⟩ : ∃ c cs, w = c :: cs := by
        cases w with
        | nil => exact absurd rfl hne
        | cons c cs => exact ⟨c, cs, rfl⟩
      refine ⟨_, rfl, _, _, c, rfl, rfl, hz, atI_nat (j := 0) rfl, rfl, _, rfl, ?_⟩
      rw [show ("0" : Str) = ⟨#[48]⟩ by decide +kernel, dec_one]
      refine ite2 (fun h3 => ?_) (fun h3 => ?_)
      · have h3 := of_decide_eq_true h3
        have e4 : (decide (1 < (c :: cs).length) && ((c :: cs).head? == some 48)) = true := by rw [h2, h3]; simp
        rw [e, h, e4] at q
        exact q
      · refine tail ?_
        rw [h2]
        have : ¬ c = 48 := fun z => h3 (decide_eq_true z)
        simp [this]
    · refine iteF (tail ?_)
      rw [bf h2]
      rfl
theorem in_list (L : List (List Nat)) (w : List Nat) : inV (.str (Tx w)) (L.map fun k => V.str (Tx k)) = decide (w ∈ L) := by
  unfold inV
  rw [Bool.eq_iff_iff, List.any_eq_true, decide_eq_true_iff]
  constructor
  · rintro ⟨v, hv, e⟩
    obtain ⟨k, hk, rfl⟩ := List.mem_map.mp hv
    have e : (Tx k == Tx w) = true := e
    have := Tx_inj (beq_iff_eq.mp e)
    rw [← this]
    exact hk
  · intro h
    exact ⟨V.str (Tx w), List.mem_map.mpr ⟨w, h, rfl⟩, by show (Tx w == Tx w) = true; simp⟩
theorem take_word : ∀ l : List Nat, l.take (word l).length = word l
  | [] => rfl
  | x :: xs => by
    unfold word
    rw [List.takeWhile_cons]
    split
    · rw [List.length_cons, List.take_succ_cons]
      exact congrArg (x :: ·) (take_word xs)
    · rfl
theorem word_all : ∀ (l : List Nat), ∀ y ∈ word l, isWP y = true
  | [], y, h => by cases h
  | x :: xs, y, h => by
    unfold word at h
    rw [List.takeWhile_cons] at h
    split at h
    · rename_i hx
      rcases List.mem_cons.mp h with rfl | h
      · exact hx
      · exact word_all xs y h
    · cases h
theorem flat_map (l : List (List Nat)) : (l.map fun k => V.str (Tx k)).all flatV = true := by
  rw [List.all_eq_true]
  intro v hv
  obtain ⟨k, _, rfl⟩ := List.mem_map.mp hv
  rfl
theorem run_word_kind (hK : ∀ H, SqT K H (He.ga K ("KEYWORDS" : Str)) (kwL.map fun k => V.str (Tx k))) (h : sp_word_kind K vs H Q E) : t_word_kind K E (DQ Q) (start ns_word_kind vs) H := by
  obtain ⟨w, rfl, q⟩ := h
  refine ⟨_, rfl, _, _, rfl, .inr (hK H), rfl, flat_map _, _, rfl, ?_⟩
  rw [if_neg Bool.false_ne_true, in_list]
  have e : kindOf w = if w ∈ kwL then .keyword else .name := rfl
  refine ite2 (fun h => ?_) (fun h => ?_)
  · rw [e, if_pos (of_decide_eq_true h)] at q
    exact q
  · rw [e, if_neg (fun z => h (decide_eq_true z))] at q
    exact q
theorem skip_true : ∀ (l : List Nat) (r c : Int), skip true l r c = skip false (l.drop (rowLen l)) r (c + (rowLen l : Nat))
  | [], r, c => by
    show ([], r, c) = ([], r, c + ((0 : Nat) : Int))
    rw [Int.natCast_zero, Int.add_zero]
  | x :: xs, r, c => by
    unfold rowLen
    rw [List.takeWhile_cons]
    by_cases h : x = 10
    · rw [skip, if_pos h, if_neg (by simp [h])]
      show _ = skip false (x :: xs) r _
      rw [skip, if_pos h]
    · rw [skip, if_neg h, if_pos (by simpa using h), skip_true xs r (c + 1), List.length_cons, List.drop_succ_cons]
      congr 1
      unfold rowLen
      omega
theorem cut_any (l : List Nat) (i n : Nat) : cutS (Tx l) (some (i : Int)) (some ((i + n : Nat) : Int)) = Tx ((l.drop i).take n) := by
  unfold cutS
  rw [HT.sIx_nat, HT.sIx_nat, Tx_len]
  refine TL.ext_tl ?_
  show (l.drop (min i l.length)).take (min (i + n) l.length - min i l.length) = (l.drop i).take n
  by_cases h : i ≤ l.length
  · rw [Nat.min_eq_left h]
    by_cases h2 : i + n ≤ l.length
    · rw [Nat.min_eq_left h2, Nat.add_sub_cancel_left]
    · rw [Nat.min_eq_right (by omega), List.take_of_length_le (by rw [List.length_drop]; omega), List.take_of_length_le (by rw [List.length_drop]; omega)]
  · rw [Nat.min_eq_right (show l.length ≤ i by omega), List.drop_eq_nil_of_le (Nat.le_refl _), List.drop_eq_nil_of_le (show l.length ≤ i by omega), List.take_nil, List.take_nil]
theorem cut_ok (l : List Nat) (i n : Nat) (h : i + n ≤ l.length) : cutS (Tx l) (some (i : Int)) (some ((i + n : Nat) : Int)) = Tx ((l.drop i).take n) := by
  unfold cutS
  rw [HT.sIx_nat, HT.sIx_nat, Tx_len, Nat.min_eq_left (show i ≤ l.length by omega), Nat.min_eq_left h, Nat.add_sub_cancel_left]
theorem drop_cons {l : List Nat} {i : Nat} (h : i < l.length) : l.drop i = l[i] :: l.drop (i + 1) := List.drop_eq_getElem_cons h
section
variable (S : ScC K)
include S
theorem run_Scanner_init (h : sp_Scanner_init K vs H Q E) : t_Scanner_init K E (DQ Q) (start ns_Scanner_init vs) H := by
  obtain ⟨p, dx, l, rfl, hp, q⟩ := h
  refine ⟨_, rfl, _, rfl, p, _, dx, _, rfl, hp, S.cl, S.nt, (by show 0 < 1000; decide), ?_⟩
  refine ⟨_, rfl, p, _, dx, _, rfl, upd_same, S.cl, S.na, (by show 1 < 1000; decide), ?_⟩
  rw [upd_upd]
  refine ⟨_, rfl, p, _, dx, _, rfl, upd_same, S.cl, S.nr, (by rw [pf_nil, pf_ne neTA, pf_nil]; show 2 < 1000; decide), ?_⟩
  rw [upd_upd]
  refine ⟨_, rfl, p, _, dx, _, rfl, upd_same, S.cl, S.nc, (by rw [pf_nil, pf_ne neTA, pf_nil, pf_ne neTR, pf_ne neAR, pf_nil]; show 3 < 1000; decide), ?_⟩
  rw [upd_upd, scF_init]
  exact q
theorem run_Scanner_is_done (h : sp_Scanner_is_done K vs H Q E) : t_Scanner_is_done K E (DQ Q) (start ns_Scanner_is_done vs) H := by
  obtain ⟨p, dx, l, i, r, c, rfl, ⟨hp, hl, hi⟩, q⟩ := h
  refine ⟨_, rfl, p, _, dx, _, _, rfl, hp, S.cl, S.na, scF_at, _, rfl, p, _, dx, _, _, rfl, hp, S.cl, S.nt, scF_text, _, rfl, small_len hl, rfl, ?_⟩
  rw [dec_int]
  have e : ((i : Int) == ((Tx l).length : Int)) = decide (i = l.length) := by
    rw [Tx_len, Bool.beq_eq_decide_eq]
    exact decide_eq_decide.mpr (by omega)
  rw [e]
  exact q
theorem run_Scanner_skip_newline (h : sp_Scanner_skip_newline K vs H Q E) : t_Scanner_skip_newline K E (DQ Q) (start ns_Scanner_skip_newline vs) H := by
  obtain ⟨p, dx, l, i, r, c, rfl, ⟨hp, hl, hi⟩, q⟩ := h
  refine ⟨_, rfl, p, _, dx, _, _, rfl, hp, S.cl, S.na, scF_at, _, _, rfl, rfl, dx, _, hp, scF_len, ?_⟩
  rw [scF_pat]
  refine ⟨_, rfl, p, _, dx, _, _, rfl, upd_same, S.cl, S.nr, scF_row, _, _, rfl, rfl, dx, _, upd_same, scF_len, ?_⟩
  rw [upd_upd, scF_prow]
  refine ⟨_, rfl, p, _, dx, _, rfl, upd_same, S.cl, S.nc, scF_len, ?_⟩
  rw [upd_upd, scF_pcol]
  exact q
theorem run_Scanner_row_end (h : sp_Scanner_row_end K vs H Q E) : t_Scanner_row_end K E (DQ Q) (start ns_Scanner_row_end vs) H := by
  obtain ⟨p, dx, l, i, r, c, rfl, ⟨hp, hl, hi⟩, q⟩ := h
  refine ⟨_, rfl, p, _, dx, _, _, rfl, hp, S.cl, S.nt, scF_text, rfl, _, rfl, p, _, dx, _, _, rfl, hp, S.cl, S.na, scF_at, _, _, _, rfl, rfl, ?_⟩
  rw [find_nl l i hi]
  by_cases e : i + ((l.drop i).takeWhile (fun c => c != 10)).length = l.length
  · rw [if_pos e]
    refine ⟨_, rfl, _, rfl, rfl, _, rfl, iteT ?_⟩
    refine ⟨_, rfl, p, _, dx, _, _, rfl, hp, S.cl, S.nt, scF_text, _, rfl, small_len hl, ?_⟩
    rw [Tx_len, ← e]
    exact q
  · rw [if_neg e]
    refine ⟨_, rfl, _, rfl, rfl, _, rfl, ?_⟩
    rw [dec_int, show ((((i + ((l.drop i).takeWhile (fun c => c != 10)).length : Nat) : Int)) == -1) = false by rw [Bool.beq_eq_decide_eq]; exact decide_eq_false (by omega)]
    refine iteF ⟨_, rfl, q⟩
theorem run_Scanner_word_end (h : sp_Scanner_word_end K vs H Q E) : t_Scanner_word_end K E (DQ Q) (start ns_Scanner_word_end vs) H := by
  obtain ⟨p, dx, l, i, r, c, rfl, ⟨hp, hl, hi⟩, q⟩ := h
  refine ⟨_, rfl, p, _, dx, _, _, rfl, hp, S.cl, S.na, scF_at, ?_⟩
  refine ⟨fun m σ H' => H' = H ∧ ∃ j : Nat, m = l.length - j ∧ σ = [some (.ref p), some (.int (j : Int))] ∧ j ≤ l.length ∧ i + (word (l.drop i)).length = j + (word (l.drop j)).length, ⟨_, rfl, i, rfl, rfl, hi, rfl⟩, ?_⟩
  rintro m σ H' ⟨rfl, j, rfl, rfl, hj, e⟩
  refine ⟨_, rfl, _, rfl, p, _, dx, _, _, rfl, hp, S.cl, S.nt, scF_text, _, rfl, small_len hl, _, _, rfl, rfl, _, rfl, ?_⟩
  have fin : (word (l.drop j)).length = 0 → (tRet (tVar 1)) (DQ Q) [some (.ref p), some (.int (j : Int))] H' := fun hz => by
    refine ⟨_, rfl, ?_⟩
    rw [hz, Nat.add_zero] at e
    rw [← e]
    exact q
  by_cases hlt : j < l.length
  · rw [decide_eq_true (show (j : Int) < ((Tx l).length : Int) by rw [Tx_len]; omega)]
    refine iteT ?_
    refine ⟨_, rfl, p, _, dx, _, _, rfl, hp, S.cl, S.nt, scF_text, _, rfl, _, _, l[j], rfl, rfl, small_len hl, atI_nat (j := j) (by rw [List.getElem?_eq_getElem hlt]), l[j], rfl, _, rfl, ?_⟩
    refine ite2 (fun h => ?_) (fun h => ?_)
    · refine ⟨fun σ' H'' => H'' = H' ∧ ∃ j2 : Nat, σ' = [some (.ref p), some (.int (j2 : Int))] ∧ j2 = j + 1, ?_, ?_⟩
      · rintro σ' H'' ⟨rfl, j2, rfl, rfl⟩
        refine ⟨l.length - (j + 1), by omega, rfl, j + 1, rfl, rfl, hlt, ?_⟩
        rw [e, drop_cons hlt]
        unfold word
        rw [List.takeWhile_cons, if_pos h, List.length_cons]
        omega
      · exact ⟨_, rfl, _, _, rfl, rfl, rfl, j + 1, rfl, rfl⟩
    · refine fin ?_
      rw [drop_cons hlt]
      unfold word
      rw [List.takeWhile_cons, if_neg h]
      rfl
  · rw [decide_eq_false (show ¬ (j : Int) < ((Tx l).length : Int) by rw [Tx_len]; omega)]
    refine iteF (fin ?_)
    rw [List.drop_eq_nil_of_le (by omega)]
    rfl
theorem run_Scanner_take_to (h : sp_Scanner_take_to K vs H Q E) : t_Scanner_take_to K E (DQ Q) (start ns_Scanner_take_to vs) H := by
  obtain ⟨p, dx, l, i, n, r, c, rfl, ⟨hp, hl, hi⟩, hn, q⟩ := h
  refine ⟨_, rfl, p, _, dx, _, _, rfl, hp, S.cl, S.nt, scF_text, ?_⟩
  refine ⟨_, rfl, p, _, dx, _, _, rfl, hp, S.cl, S.na, scF_at, _, rfl, _, rfl, _, rfl, _, rfl, small_len hl, ?_⟩
  rw [cut_ok l i n hn]
  refine ⟨_, rfl, p, _, dx, _, _, rfl, hp, S.cl, S.nc, scF_col, _, rfl, _, rfl, p, _, dx, _, _, rfl, hp, S.cl, S.na, scF_at, _, _, rfl, rfl, _, _, rfl, rfl, dx, _, hp, scF_len, ?_⟩
  rw [scF_pcol]
  refine ⟨_, rfl, _, rfl, p, _, dx, _, rfl, upd_same, S.cl, S.na, scF_len, ?_⟩
  rw [upd_upd, scF_pat, show c + (((i + n : Nat) : Int) - (i : Int)) = c + n by omega]
  exact ⟨_, rfl, q⟩
theorem run_Scanner_skip_gaps (h : sp_Scanner_skip_gaps K vs H Q E) : t_Scanner_skip_gaps K E (DQ Q) (start ns_Scanner_skip_gaps vs) H := by
  obtain ⟨p, dx, l, i, r, c, rfl, ⟨hp, hl, hi⟩, q⟩ := h
  refine ⟨fun m σ H' => ∃ (j : Nat) (r2 c2 : Int) (cv : Option V), m = l.length - j ∧ σ = [some (.ref p), cv] ∧ H' = upd H p (scO K dx l j r2 c2) ∧ j ≤ l.length ∧ skip false (l.drop i) r c = skip false (l.drop j) r2 c2,
    ⟨_, i, r, c, none, rfl, rfl, (upd_self hp).symm, hi, rfl⟩, ?_⟩
  rintro m σ H' ⟨j, r2, c2, cv, rfl, rfl, rfl, hj, e⟩
  refine ⟨_, rfl, p, dx, _, rfl, upd_same, scF_no (by decide +kernel) (by decide +kernel) (by decide +kernel) (by decide +kernel), p, dx, l, j, r2, c2, rfl, ⟨upd_same, hl, hj⟩, _, rfl, ?_⟩
  by_cases hlt : j < l.length
  · rw [decide_eq_false (show ¬ j = l.length by omega)]
    refine iteT ⟨fun σ' H'' => ∃ m', m' < l.length - j ∧ ∃ (j2 : Nat) (r3 c3 : Int) (cv : Option V), m' = l.length - j2 ∧ σ' = [some (.ref p), cv] ∧ H'' = upd H p (scO K dx l j2 r3 c3) ∧ j2 ≤ l.length ∧ skip false (l.drop i) r c = skip false (l.drop j2) r3 c3, fun _ _ z => z, ?_⟩
    have ed := drop_cons hlt
    refine ⟨_, rfl, p, _, dx, _, _, rfl, upd_same, S.cl, S.nt, scF_text, _, rfl, p, _, dx, _, _, rfl, upd_same, S.cl, S.na, scF_at, _, _, l[j], rfl, rfl, small_len hl, atI_nat (j := j) (by rw [List.getElem?_eq_getElem hlt]), ?_⟩
    refine ⟨_, rfl, rfl, _, rfl, ?_⟩
    rw [nl1, dec_one]
    refine ite2 (fun h => ?_) (fun h => ?_)
    · have h := of_decide_eq_true h
      refine ⟨_, rfl, p, dx, _, rfl, upd_same, scF_no (by decide +kernel) (by decide +kernel) (by decide +kernel) (by decide +kernel), p, dx, l, j, r2, c2, rfl, ⟨upd_same, hl, hj⟩, ?_⟩
      rw [upd_upd]
      refine ⟨l.length - (j + 1), by omega, j + 1, r2 + 1, 1, _, rfl, rfl, rfl, hlt, ?_⟩
      rw [e, ed, skip, if_pos h]
    · have h : ¬ l[j] = 10 := fun z => h (decide_eq_true z)
      refine ⟨_, rfl, rfl, _, rfl, ?_⟩
      rw [show (" " : Str) = ⟨#[32]⟩ by decide +kernel, dec_one]
      refine ite2 (fun h2 => ?_) (fun h2 => ?_)
      · have h2 := of_decide_eq_true h2
        refine ⟨_, rfl, p, dx, _, rfl, upd_same, scF_no (by decide +kernel) (by decide +kernel) (by decide +kernel) (by decide +kernel), _, rfl, p, _, dx, _, _, rfl, upd_same, S.cl, S.na, scF_at, _, _, rfl, rfl,
          p, dx, l, j, 1, r2, c2, rfl, ⟨upd_same, hl, hj⟩, hlt, ?_⟩
        rw [upd_upd]
        refine ⟨l.length - (j + 1), by omega, j + 1, r2, c2 + 1, _, rfl, rfl, rfl, hlt, ?_⟩
        rw [e, ed, skip, if_neg h, if_pos h2]
      · have h2 : ¬ l[j] = 32 := fun z => h2 (decide_eq_true z)
        refine ⟨_, rfl, rfl, _, rfl, ?_⟩
        rw [show ("#" : Str) = ⟨#[35]⟩ by decide +kernel, dec_one]
        refine ite2 (fun h3 => ?_) (fun h3 => ?_)
        · have h3 := of_decide_eq_true h3
          have hr : rowLen (l.drop j) = rowLen (l.drop (j + 1)) + 1 := by
            rw [ed]
            show (List.takeWhile (fun c => c != 10) (l[j] :: l.drop (j + 1))).length = _
            rw [List.takeWhile_cons, if_pos (by simpa using h)]
            rfl
          have hrl : rowLen (l.drop j) ≤ (l.drop j).length := takeWhile_len _ _
          rw [List.length_drop] at hrl
          refine ⟨_, rfl, p, dx, _, rfl, upd_same, scF_no (by decide +kernel) (by decide +kernel) (by decide +kernel) (by decide +kernel), _, rfl, p, dx, _, rfl, upd_same, scF_no (by decide +kernel) (by decide +kernel) (by decide +kernel) (by decide +kernel),
            p, dx, l, j, r2, c2, rfl, ⟨upd_same, hl, hj⟩, p, dx, l, j, rowLen (l.drop j), r2, c2, rfl, ⟨upd_same, hl, hj⟩, by omega, ?_⟩
          rw [upd_upd]
          refine ⟨l.length - (j + rowLen (l.drop j)), by omega, j + rowLen (l.drop j), r2, c2 + (rowLen (l.drop j) : Nat), _, rfl, rfl, rfl, by omega, ?_⟩
          rw [e, ed, skip, if_neg h, if_neg h2, if_pos h3, skip_true, List.drop_drop, ← ed, hr]
          congr 1
          · congr 1
            omega
          · omega
        · have h3 : ¬ l[j] = 35 := fun z => h3 (decide_eq_true z)
          refine q j r2 c2 hj ?_
          rw [e, ed, skip_here ⟨h, h2, h3⟩]
  · rw [decide_eq_true (show j = l.length by omega)]
    refine iteF (q j r2 c2 hj ?_)
    rw [e, List.drop_eq_nil_of_le (by omega)]
    rfl
theorem run_Scanner_take_sign {EW : EWT} {rz0 : TS} (hLg : ∀ H, SqT K H (He.ga K ("LONG_SIGNS" : Str)) (longL.map fun k => V.str (Tx k))) (hSh : ∀ H, SqT K H (He.ga K ("SHORT_SIGNS" : Str)) (shortL.map fun k => V.str (Tx k)))
    (hz : ∀ (D : Ends) (σ : L2.St) (H : Hp) (p dx : Addr) (l : List Nat) (i : Nat) (r c : Int), σ[0]? = some (some (.ref p)) → Sc K H p dx l i r c → EW "BadCharacter" r c E H → rz0 D σ H)
    (h : sp_Scanner_take_sign K EW vs H Q E) : t_Scanner_take_sign K EW E rz0 (DQ Q) (start ns_Scanner_take_sign vs) H := by
  obtain ⟨p, dx, l, i, r, c, x, xs, rfl, ⟨hp, hl, hi⟩, ed, h1, h2, q, qe⟩ := h
  have hlt : i < l.length := by
    have := congrArg List.length ed
    rw [List.length_drop, List.length_cons] at this
    omega
  have hx : l[i]? = some x := by
    have := congrArg List.head? ed
    rw [List.head?_drop] at this
    exact this
  have est : Lx.step x xs r c = if (x :: xs).take 2 ∈ longL then .ok (⟨.sign, (x :: xs).take 2, r, c⟩, (x :: xs).drop 2, r, c + 2) else if [x] ∈ shortL then .ok (⟨.sign, [x], r, c⟩, xs, r, c + 1) else .error (.char, r, c) := by
    unfold Lx.step
    rw [if_neg (by rw [h1]; exact Bool.false_ne_true), if_neg (by rw [h2]; exact Bool.false_ne_true)]
  refine ⟨_, rfl, p, _, dx, _, _, rfl, hp, S.cl, S.nt, scF_text, _, rfl, p, _, dx, _, _, rfl, hp, S.cl, S.na, scF_at, _, rfl, _, rfl, p, _, dx, _, _, rfl, hp, S.cl, S.na, scF_at, _, _, rfl, rfl, _, rfl, _, rfl, small_len hl, ?_⟩
  rw [show (i : Int) + 2 = ((i + 2 : Nat) : Int) by omega, cut_any, ed]
  refine ⟨_, rfl, _, _, rfl, .inr (hLg H), rfl, flat_map _, _, rfl, ?_⟩
  rw [if_neg Bool.false_ne_true, in_list]
  refine ite2 (fun h3 => ?_) (fun h3 => ?_)
  · have h3 := of_decide_eq_true h3
    have h2l : i + 2 ≤ l.length := by
      have e : ∀ w ∈ longL, w.length = 2 := by decide +kernel
      have q := e _ h3
      rw [← ed, List.length_take, List.length_drop] at q
      omega
    refine ⟨_, rfl, p, dx, _, rfl, hp, scF_no (by decide +kernel) (by decide +kernel) (by decide +kernel) (by decide +kernel), _, rfl, p, _, dx, _, _, rfl, hp, S.cl, S.na, scF_at, _, _, rfl, rfl,
      p, dx, l, i, 2, r, c, rfl, ⟨hp, hl, hi⟩, h2l, ?_⟩
    rw [ed]
    refine q _ 2 h2l ?_
    rw [est, if_pos h3, ← ed, List.drop_drop]
    rfl
  · have h3 : ¬ (x :: xs).take 2 ∈ longL := fun z => h3 (decide_eq_true z)
    rw [if_neg h3] at est
    refine ⟨_, rfl, p, _, dx, _, _, rfl, hp, S.cl, S.nt, scF_text, _, rfl, p, _, dx, _, _, rfl, hp, S.cl, S.na, scF_at, _, _, x, rfl, rfl, small_len hl, atI_nat (j := i) hx, _, _, rfl, .inr (hSh H), rfl, flat_map _, _, rfl, ?_⟩
    rw [if_neg Bool.false_ne_true, show (⟨#[x]⟩ : Str) = Tx [x] from rfl, in_list]
    refine ite2 (fun h4 => ?_) (fun h4 => ?_)
    · have h4 := of_decide_eq_true h4
      refine ⟨_, rfl, p, dx, _, rfl, hp, scF_no (by decide +kernel) (by decide +kernel) (by decide +kernel) (by decide +kernel), _, rfl, p, _, dx, _, _, rfl, hp, S.cl, S.na, scF_at, _, _, rfl, rfl,
        p, dx, l, i, 1, r, c, rfl, ⟨hp, hl, hi⟩, hlt, ?_⟩
      rw [ed]
      refine q _ 1 hlt ?_
      rw [est, if_pos h4, ← List.drop_drop, ed]
      rfl
    · have h4 : ¬ [x] ∈ shortL := fun z => h4 (decide_eq_true z)
      rw [if_neg h4] at est
      exact hz _ _ _ p dx l i r c rfl ⟨hp, hl, hi⟩ (qe est)
theorem run_Scanner_take_token {EW : EWT} {rz0 : TS} (hz : ∀ (D : Ends) (σ : L2.St) (H : Hp) (r c : Int), σ[1]? = some (some (.int r)) → σ[2]? = some (some (.int c)) → EW "BadNumber" r c E H → rz0 D σ H)
    (h : sp_Scanner_take_token K EW vs H Q E) : t_Scanner_take_token K EW E rz0 (DQ Q) (start ns_Scanner_take_token vs) H := by
  obtain ⟨p, dx, l, i, r, c, x, xs, rfl, ⟨hp, hl, hi⟩, ed, q, qe⟩ := h
  have hlt : i < l.length := by
    have := congrArg List.length ed
    rw [List.length_drop, List.length_cons] at this
    omega
  have hx : l[i]? = some x := by
    have := congrArg List.head? ed
    rw [List.head?_drop] at this
    exact this
  have wl := word_len (l.drop i)
  rw [List.length_drop] at wl
  have wd : (l.drop i).take (word (l.drop i)).length = word (l.drop i) := take_word _
  have dw : (x :: xs).drop (word (l.drop i)).length = l.drop (i + (word (l.drop i)).length) := by rw [← ed, List.drop_drop]
  have hn : i + (word (l.drop i)).length ≤ l.length := by omega
  refine ⟨_, rfl, p, _, dx, _, _, rfl, hp, S.cl, S.nr, scF_row, _, rfl, p, _, dx, _, _, rfl, hp, S.cl, S.nc, scF_col, _, rfl, p, _, dx, _, _, rfl, hp, S.cl, S.nt, scF_text, _, rfl, p, _, dx, _, _, rfl, hp, S.cl, S.na, scF_at, _, _, x, rfl, rfl, small_len hl, atI_nat (j := i) hx, ?_⟩
  refine ⟨_, rfl, x, rfl, _, rfl, ?_⟩
  refine ite2 (fun h1 => ?_) (fun h1 => ?_)
  · -- a name or a keyword
    refine ⟨_, rfl, p, dx, _, rfl, hp, scF_no (by decide +kernel) (by decide +kernel) (by decide +kernel) (by decide +kernel), _, rfl, p, dx, _, rfl, hp, scF_no (by decide +kernel) (by decide +kernel) (by decide +kernel) (by decide +kernel),
      p, dx, l, i, r, c, rfl, ⟨hp, hl, hi⟩, p, dx, l, i, (word (l.drop i)).length, r, c, rfl, ⟨hp, hl, hi⟩, hn, ?_⟩
    rw [wd]
    refine ⟨_, rfl, word (l.drop i), rfl, _, rfl, _, rfl, _, rfl, (by show 4 ≤ sizeLine; decide), fun a na => ?_⟩
    have nap : a ≠ p := fun z => by rw [z, upd_same] at na; cases na
    rw [upd_ne nap] at na
    refine q ⟨kindOf (word (l.drop i)), word (l.drop i), r, c⟩ _ a _ hn ?_ na rfl
    unfold Lx.step
    rw [if_pos h1, ← ed, List.drop_drop]
  · have h1 := bf h1
    refine ⟨_, rfl, x, _, rfl, rfl, _, rfl, ?_⟩
    rw [digits_mem]
    refine ite2 (fun h2 => ?_) (fun h2 => ?_)
    · -- what begins with a digit
      have hall : ∀ y ∈ word (l.drop i), isWP y = true := word_all _
      have hne : word (l.drop i) ≠ [] := by
        rw [ed]
        have := word_pos (x := x) (xs := xs) (by unfold isWP; rw [h2]; simp)
        exact List.ne_nil_of_length_pos this
      refine ⟨_, rfl, p, dx, _, rfl, hp, scF_no (by decide +kernel) (by decide +kernel) (by decide +kernel) (by decide +kernel), _, rfl, p, dx, _, rfl, hp, scF_no (by decide +kernel) (by decide +kernel) (by decide +kernel) (by decide +kernel),
        p, dx, l, i, r, c, rfl, ⟨hp, hl, hi⟩, p, dx, l, i, (word (l.drop i)).length, r, c, rfl, ⟨hp, hl, hi⟩, hn, ?_⟩
      rw [wd]
      refine ⟨_, rfl, word (l.drop i), rfl, hne, by omega, hall, _, rfl, ?_⟩
      have est : Lx.step x xs r c = if isNum (word (x :: xs)) then .ok (⟨.number, word (x :: xs), r, c⟩, (x :: xs).drop (word (x :: xs)).length, r, c + (word (x :: xs)).length) else .error (.num, r, c) := by
        unfold Lx.step
        rw [if_neg (by rw [h1]; exact Bool.false_ne_true), if_pos h2]
      rw [← ed] at est
      cases hnum : isNum (word (l.drop i)) with
      | false =>
        refine iteT ?_
        rw [hnum, if_neg Bool.false_ne_true] at est
        exact hz _ _ _ r c rfl rfl (qe .num _ est (.inr ⟨_, rfl⟩))
      | true =>
        refine iteF ?_
        rw [hnum, if_pos rfl, List.drop_drop] at est
        refine ⟨_, rfl, _, rfl, _, rfl, (by show 4 ≤ sizeLine; decide), fun a na => ?_⟩
        have nap : a ≠ p := fun z => by rw [z, upd_same] at na; cases na
        rw [upd_ne nap] at na
        exact q ⟨.number, word (l.drop i), r, c⟩ _ a _ hn est na rfl
    · have h2 := bf h2
      refine ⟨_, rfl, p, dx, _, rfl, hp, scF_no (by decide +kernel) (by decide +kernel) (by decide +kernel) (by decide +kernel), p, dx, l, i, r, c, x, xs, rfl, ⟨hp, hl, hi⟩, ed, h1, h2, fun t n hn est => ?_, fun est => qe .char _ est (.inl rfl)⟩
      refine ⟨_, rfl, _, rfl, (by show 4 ≤ sizeLine; decide), fun a na => ?_⟩
      have nap : a ≠ p := fun z => by rw [z, upd_same] at na; cases na
      rw [upd_ne nap] at na
      exact q ⟨.sign, t, r, c⟩ n a _ hn est na rfl
theorem run_tokens {EW : EWT} (h : sp_tokens K EW vs H Q E) : t_tokens K EW E (DQ Q) (start ns_tokens vs) H := by
  obtain ⟨l, rfl, hl, q, qe⟩ := h
  refine ⟨_, rfl, fun x dx nx ndx nex => ?_⟩
  refine ⟨x, dx, l, rfl, upd_same, rfl, ?_⟩
  rw [upd_upd]
  refine ⟨(by show 0 ≤ sizeLine; decide), fun f nf => ?_⟩
  have nfx : f ≠ x := fun z => by rw [z, upd_same] at nf; cases nf
  have nfd : f ≠ dx := fun z => by rw [z, upd_ne nex, upd_same] at nf; cases nf
  have nfH : H f = none := by rw [upd_ne nfx, upd_ne nfd] at nf; exact nf
  have s0 : Same H (upd (upd (upd H dx (.own x)) x (scO K dx l 0 1 1)) f (.lst [])) := fun b o e => by
    rw [upd_ne (ne_of_none e nfH), upd_ne (ne_of_none e nx), upd_ne (ne_of_none e ndx)]
    exact e
  -- scanner.skip_gaps()
  refine ⟨_, rfl, x, dx, _, rfl, (by rw [upd_ne nfx.symm, upd_same]), scF_no (by decide +kernel) (by decide +kernel) (by decide +kernel) (by decide +kernel), x, dx, l, 0, 1, 1, rfl, ⟨by rw [upd_ne nfx.symm, upd_same], hl, Nat.zero_le _⟩, fun j r c hj es => ?_⟩
  have start1 : lex l 1 1 = lex (l.drop j) r c := lex_skip (by
    have := skip_idem false (l.drop 0) 1 1
    rw [es] at this
    rw [this, ← es]
    rfl)
  refine ⟨fun m σ H' => ∃ (j : Nat) (r c : Int) (ts : List Tk), m = l.length - j ∧ σ = [some (.str (Tx l)), some (.ref x), some (.ref f)] ∧ H' x = some (scO K dx l j r c) ∧ TksAt H' f ts ∧ ts.length ≤ j ∧ j ≤ l.length ∧ skip false (l.drop j) r c = (l.drop j, r, c) ∧
      lex l 1 1 = (ts ++ (lex (l.drop j) r c).1, (lex (l.drop j) r c).2) ∧ Same H H', ⟨_, j, r, c, [], rfl, rfl, upd_same, ⟨[], ?_, rfl, fun k q t e => by simp at e⟩, Nat.zero_le _, hj, ?_, start1, ?_⟩, ?_⟩
  · rw [upd_ne nfx, upd_same]
    rfl
  · have := skip_idem false (l.drop 0) 1 1
    rw [es] at this
    exact this
  · exact s0.put nx
  rintro m σ H' ⟨j, r, c, ts, rfl, rfl, hx, hT, htl, hj, hs, hlx, s1⟩
  have hsc : Sc K H' x dx l j r c := ⟨hx, hl, hj⟩
  refine ⟨_, rfl, x, dx, _, rfl, hx, scF_no (by decide +kernel) (by decide +kernel) (by decide +kernel) (by decide +kernel), x, dx, l, j, r, c, rfl, hsc, _, rfl, ?_⟩
  obtain ⟨qs, hf, hql, hqs⟩ := id hT
  by_cases hlt : j < l.length
  · rw [decide_eq_false (show ¬ j = l.length by omega)]
    refine iteT ⟨fun σ' H'' => ∃ m', m' < l.length - j ∧ ∃ (j : Nat) (r c : Int) (ts : List Tk), m' = l.length - j ∧ σ' = [some (.str (Tx l)), some (.ref x), some (.ref f)] ∧ H'' x = some (scO K dx l j r c) ∧ TksAt H'' f ts ∧ ts.length ≤ j ∧ j ≤ l.length ∧ skip false (l.drop j) r c = (l.drop j, r, c) ∧
      lex l 1 1 = (ts ++ (lex (l.drop j) r c).1, (lex (l.drop j) r c).2) ∧ Same H H'', fun _ _ z => z, ?_⟩
    have ed := drop_cons hlt
    refine ⟨_, rfl, .inl ⟨rfl, _, SqL.of hf⟩, _, rfl, x, dx, _, rfl, hx, scF_no (by decide +kernel) (by decide +kernel) (by decide +kernel) (by decide +kernel), x, dx, l, j, r, c, l[j], l.drop (j + 1), rfl, hsc, ed, fun t n a H2 hn est na eH2 => ?_, fun e H2 est eH2 => ?_⟩
    · subst eH2
      have nax : a ≠ x := fun z => by rw [z, hx] at na; cases na
      have naf : a ≠ f := fun z => by rw [z, hf] at na; cases na
      have nxf : x ≠ f := nfx.symm
      have hf2 : (upd (upd H' x (scO K dx l (j + n) r (c + n))) a (.tup (tkV t))) f = some (.lst (qs.map V.ref)) := by rw [upd_ne naf.symm, upd_ne nfx]; exact hf
      have hlex : lex (l.drop j) r c = (t :: (lex (l.drop (j + n)) r (c + n)).1, (lex (l.drop (j + n)) r (c + n)).2) := lex_tok (by rw [hs, ed]) est
      have hlen := step_len est
      rw [← ed, List.length_drop, List.length_drop] at hlen
      refine ⟨f, _, _, rfl, rfl, hf2, (by rw [List.length_map, hql]; exact Nat.lt_of_le_of_lt htl (Nat.lt_of_lt_of_le hlt (Nat.le_trans hl (by decide)))), ?_⟩
      have hx3 : (upd (upd (upd H' x (scO K dx l (j + n) r (c + n))) a (.tup (tkV t))) f (.lst (qs.map V.ref ++ [V.ref a]))) x = some (scO K dx l (j + n) r (c + n)) := by rw [upd_ne nxf, upd_ne nax.symm, upd_same]
      refine ⟨_, rfl, x, dx, _, rfl, hx3, scF_no (by decide +kernel) (by decide +kernel) (by decide +kernel) (by decide +kernel), x, dx, l, j + n, r, c + n, rfl, ⟨hx3, hl, hn⟩, fun j2 r2 c2 hj2 es2 => ?_⟩
      have sk : skip false (l.drop j2) r2 c2 = (l.drop j2, r2, c2) := by
        have := skip_idem false (l.drop (j + n)) r (c + n)
        rw [es2] at this
        exact this
      have hlen2 := skip_len false (l.drop (j + n)) r (c + n)
      rw [es2] at hlen2
      rw [List.length_drop, List.length_drop] at hlen2
      refine ⟨l.length - j2, by omega, j2, r2, c2, ts ++ [t], rfl, rfl, upd_same, ⟨qs ++ [a], ?_, ?_, fun k qa ta e1 e2 => ?_⟩, ?_, hj2, sk, ?_, ?_⟩
      · rw [upd_ne nfx, upd_same, List.map_append]
        rfl
      · rw [List.length_append, List.length_append, hql]
        rfl
      · by_cases hk : k < qs.length
        · rw [List.getElem?_append_left hk] at e1
          rw [List.getElem?_append_left (by omega)] at e2
          have h0 := hqs k qa ta e1 e2
          have n1 : qa ≠ x := ne_of h0 hx (by intro z; cases z)
          have n2 : qa ≠ f := ne_of h0 hf (by intro z; cases z)
          have n3 : qa ≠ a := ne_of_none h0 na
          rw [upd_ne n1, upd_ne n2, upd_ne n3, upd_ne n1]
          exact h0
        · have hkl : k < (qs ++ [a]).length := (List.getElem?_eq_some_iff.mp e1).1
          rw [List.length_append, List.length_singleton] at hkl
          have ek : k = qs.length := by omega
          subst ek
          rw [List.getElem?_append_right (Nat.le_refl _), Nat.sub_self] at e1
          rw [hql, List.getElem?_append_right (Nat.le_refl _), Nat.sub_self] at e2
          cases e1
          cases e2
          rw [upd_ne nax, upd_ne naf, upd_same]
      · rw [List.length_append, List.length_singleton]
        omega
      · have e3 : lex (l.drop (j + n)) r (c + n) = lex (l.drop j2) r2 c2 := lex_skip (by rw [sk, es2])
        rw [hlx, hlex, e3, List.append_assoc]
        rfl
      · exact (((s1.put nx).put (s1.free na)).put nfH).put nx
    · have s2 : Same H H2 := by
        rcases eH2 with rfl | ⟨n, rfl⟩
        · exact s1
        · exact s1.put nx
      refine qe ts e r c H2 ?_ s2
      rw [hlx, lex_err (by rw [hs, ed]) est, List.append_nil]
  · have ej : j = l.length := by omega
    subst ej
    rw [decide_eq_true rfl]
    refine iteF ?_
    have nxf : x ≠ f := nfx.symm
    refine ⟨_, rfl, .inl ⟨rfl, _, SqL.of hf⟩, _, rfl, x, _, dx, _, _, rfl, hx, S.cl, S.nr, scF_row, _, rfl, x, _, dx, _, _, rfl, hx, S.cl, S.nc, scF_col, (by show 4 ≤ sizeLine; decide), fun a na => ?_⟩
    have nax : a ≠ x := fun z => by rw [z, hx] at na; cases na
    have naf : a ≠ f := fun z => by rw [z, hf] at na; cases na
    have hf2 : (upd H' a (.tup [V.str ("end" : Str), V.str ("" : Str), V.int r, V.int c])) f = some (.lst (qs.map V.ref)) := by rw [upd_ne naf.symm]; exact hf
    refine ⟨f, _, _, rfl, rfl, hf2, (by rw [List.length_map, hql]; exact Nat.lt_of_le_of_lt htl (Nat.lt_of_le_of_lt hl (by decide))), _, rfl, ?_⟩
    have hend : lex (l.drop l.length) r c = ([⟨.fin, [], r, c⟩], none) := by
      refine lex_end ?_
      rw [hs, List.drop_eq_nil_of_le (Nat.le_refl _)]
    refine q (ts ++ [⟨.fin, [], r, c⟩]) f _ ?_ nfH ((s1.put (s1.free na)).put nfH) ⟨qs ++ [a], ?_, ?_, fun k qa ta e1 e2 => ?_⟩
    · rw [hlx, hend]
    · rw [upd_same, List.map_append]
      rfl
    · rw [List.length_append, List.length_append, hql]
      rfl
    · by_cases hk : k < qs.length
      · rw [List.getElem?_append_left hk] at e1
        rw [List.getElem?_append_left (by omega)] at e2
        have h0 := hqs k qa ta e1 e2
        have n2 : qa ≠ f := ne_of h0 hf (by intro z; cases z)
        have n3 : qa ≠ a := ne_of_none h0 na
        rw [upd_ne n2, upd_ne n3]
        exact h0
      · have hkl : k < (qs ++ [a]).length := (List.getElem?_eq_some_iff.mp e1).1
        rw [List.length_append, List.length_singleton] at hkl
        have ek : k = qs.length := by omega
        subst ek
        rw [List.getElem?_append_right (Nat.le_refl _), Nat.sub_self] at e1
        rw [hql, List.getElem?_append_right (Nat.le_refl _), Nat.sub_self] at e2
        cases e1
        cases e2
        rw [upd_ne naf, upd_same]
        rw [show ("" : Str) = Tx [] by decide +kernel]
        rfl
end
end
end Rm

/-! T0: menus; what stays; trees in the heap. -/
namespace Rm
open PySem PySem.Spec PyProof.Rows L2
/-! ### menus -/
abbrev mS (s : String) : V := .str (Str.ofString s)
def tMenu (vs : List V) : TA := fun _ H Q => Q vs H
theorem menu_s {ss : List String} {j : Int} (h0 : 0 ≤ j) (h1 : j < (ss.length : Int)) : ∃ s ∈ ss, atI (ss.map mS) j = some (mS s) := by
  obtain ⟨n, rfl⟩ : ∃ n : Nat, j = (n : Int) := ⟨j.toNat, by omega⟩
  have hn : n < ss.length := by omega
  refine ⟨ss[n], List.getElem_mem hn, atI_nat ?_⟩
  rw [List.getElem?_map, List.getElem?_eq_getElem hn]
  rfl
/-- a written tuple of texts -/
def tupM (K : PySem.W.Frag) (x : Str) (ss : List String) : Bool := He.tupB K x (ss.map fun s => .str (Str.ofString s))
theorem tupM_ok {K : PySem.W.Frag} {x : Str} {ss : List String} (h : tupM K x ss = true) (H : Hp) : SqT K H (He.ga K x) (ss.map mS) := by
  have q := He.tupB_ok h H
  rw [List.map_map] at q
  exact q
theorem in_strs (L : List Str) (x : Str) : inV (.str x) (L.map V.str) = decide (x ∈ L) := by
  unfold inV
  rw [Bool.eq_iff_iff, List.any_eq_true, decide_eq_true_iff]
  constructor
  · rintro ⟨v, hv, e⟩
    obtain ⟨k, hk, rfl⟩ := List.mem_map.mp hv
    have e : (k == x) = true := e
    rw [← beq_iff_eq.mp e]
    exact hk
  · intro h
    exact ⟨V.str x, List.mem_map.mpr ⟨x, h, rfl⟩, by show (x == x) = true; simp⟩
/-- all that was tracked but the draws is as it was -/
def Kept (d : Addr) (H H' : Hp) : Prop := ∀ b o, b ≠ d → H b = some o → H' b = some o
theorem Kept.refl (d : Addr) (H : Hp) : Kept d H H := fun _ _ _ h => h
theorem Kept.trans {d : Addr} {H H1 H2 : Hp} (a : Kept d H H1) (b : Kept d H1 H2) : Kept d H H2 := fun c o n h => b c o n (a c o n h)
theorem Kept.of_moved {d : Addr} {H H' : Hp} (a : Moved d H H') : Kept d H H' := fun b o n h => (a b n).trans h
theorem Kept.of_same {d : Addr} {H H' : Hp} (a : Same H H') : Kept d H H' := fun b o _ h => a b o h
theorem Kept.put {d a : Addr} {H H' : Hp} {o : HO} (s : Kept d H H') (n : H a = none) : Kept d H (upd H' a o) := fun b u e h => by
  rw [upd_ne (ne_of_none h n)]
  exact s b u e h
theorem Kept.free {d a : Addr} {H H' : Hp} (s : Kept d H H') (hd : ∃ o, H' d = some o) (n : H' a = none) : H a = none := by
  cases e : H a with
  | none => rfl
  | some o =>
    by_cases h : a = d
    · obtain ⟨u, hu⟩ := hd
      rw [h, hu] at n
      cases n
    · rw [s a o h e] at n
      cases n
/-! ### trees in the heap: tuples, texts, ints, None -/
mutual
inductive Tr (H : Hp) : V → PyData → Prop
  | non : Tr H .non .none
  | int (i : Int) : Tr H (.int i) (.int i)
  | str (x : Str) : Tr H (.str x) (.str x)
  | tup {a : Addr} {xs : List V} {ds : List PyData} (h : H a = some (.tup xs)) (r : Trs H xs ds) : Tr H (.ref a) (.tuple ds)
inductive Trs (H : Hp) : List V → List PyData → Prop
  | nil : Trs H [] []
  | cons {v : V} {vs : List V} {d : PyData} {ds : List PyData} (h : Tr H v d) (r : Trs H vs ds) : Trs H (v :: vs) (d :: ds)
end
/-- tuples stay -/
def TK (H H' : Hp) : Prop := ∀ a xs, H a = some (.tup xs) → H' a = some (.tup xs)
mutual
theorem Tr.keep {H H' : Hp} (k : TK H H') : ∀ {v : V} {d : PyData}, Tr H v d → Tr H' v d
  | _, _, .non => .non
  | _, _, .int i => .int i
  | _, _, .str x => .str x
  | _, _, .tup h r => .tup (k _ _ h) (r.keep k)
theorem Trs.keep {H H' : Hp} (k : TK H H') : ∀ {vs : List V} {ds : List PyData}, Trs H vs ds → Trs H' vs ds
  | _, _, .nil => .nil
  | _, _, .cons h r => .cons (h.keep k) (r.keep k)
end
mutual
theorem Tr.dp {K : PySem.W.Frag} {H : Hp} : ∀ {v : V} {d : PyData}, Tr H v d → Dp K H v d
  | _, _, .non => .non
  | _, _, .int i => .int i
  | _, _, .str x => .str x
  | _, _, .tup h r => .tup (SqT.of h) r.dp
theorem Trs.dp {K : PySem.W.Frag} {H : Hp} : ∀ {vs : List V} {ds : List PyData}, Trs H vs ds → DpAll K H vs ds
  | _, _, .nil => .nil
  | _, _, .cons h r => .cons h.dp r.dp
end
theorem Trs.snoc {H : Hp} {v : V} {d : PyData} (h : Tr H v d) : ∀ {vs : List V} {ds : List PyData}, Trs H vs ds → Trs H (vs ++ [v]) (ds ++ [d])
  | _, _, .nil => .cons h .nil
  | _, _, .cons h1 r => .cons h1 (r.snoc h)
theorem TK.trans {H H1 H2 : Hp} (a : TK H H1) (b : TK H1 H2) : TK H H2 := fun c xs h => b c xs (a c xs h)
theorem TK.new {a : Addr} {H : Hp} {o : HO} (n : H a = none) : TK H (upd H a o) := fun b xs h => by
  rw [upd_ne (ne_of_none h n)]
  exact h
end Rm

/-! L00: the first law's own defs: promises, readings (by gen.py), runs. -/
namespace Rm
open PySem PySem.Spec PyProof.Rows L2 Lx
/-! ### menus -/
theorem mS_eq (s : String) : mS s = .str (Tx (codes s)) := congrArg V.str (Tx_of s)
theorem menu_at {ss : List String} {j : Int} (h0 : 0 ≤ j) (h1 : j < (ss.length : Int)) : ∃ s ∈ ss, atI (ss.map mS) j = some (.str (Tx (codes s))) := by
  obtain ⟨n, rfl⟩ : ∃ n : Nat, j = (n : Int) := ⟨j.toNat, by omega⟩
  have hn : n < ss.length := by omega
  refine ⟨ss[n], List.getElem_mem hn, atI_nat ?_⟩
  rw [List.getElem?_map, List.getElem?_eq_getElem hn, ← mS_eq]
  rfl
/-! ### good words, and what may follow them -/
def aloneL : List (List Nat) := ["{", "}", "(", ")", ",", ";", ".", "+", "-", "*"].map codes
def aloneW (w : List Nat) : Bool := decide (w ∈ aloneL)
/-- what may stand behind a word that joins: nothing, a gap, a sign that joins with nothing -/
def headOk (l : List Nat) : Bool := match l with
  | [] => true
  | y :: _ => y == 10 || (y == 32 || (y == 35 || aloneW [y]))
def Bd (w rest : List Nat) : Prop := aloneW w = true ∨ headOk rest = true
def goodTok (k : Kd) (w : List Nat) : Bool := match w with
  | [] => false
  | x :: xs => match k with
    | .name => isLet x && ((x :: xs).all isWP && decide (kindOf (x :: xs) = .name))
    | .keyword => isLet x && ((x :: xs).all isWP && decide (kindOf (x :: xs) = .keyword))
    | .number => !isLet x && (isDig x && ((x :: xs).all isWP && isNum (x :: xs)))
    | .sign => !isLet x && (!isDig x && (x != 10 && (x != 32 && (x != 35 && ((decide ((x :: xs) ∈ longL)) || (decide ((x :: xs) ∈ shortL) && (aloneW (x :: xs) || (x == 60 || x == 61))))))))
    | .fin => false
theorem all_takeWhile {p : Nat → Bool} : ∀ {w rest : List Nat}, w.all p = true → (rest = [] ∨ ∃ y ys, rest = y :: ys ∧ p y = false) → (w ++ rest).takeWhile p = w
  | [], rest, _, h => by
    rcases h with rfl | ⟨y, ys, rfl, e⟩
    · rfl
    · show (y :: ys).takeWhile p = []
      rw [List.takeWhile_cons, e]
      rfl
  | x :: xs, rest, hw, h => by
    have hw' := Bool.and_eq_true_iff.mp (show (p x && xs.all p) = true from hw)
    show (x :: (xs ++ rest)).takeWhile p = _
    rw [List.takeWhile_cons, if_pos hw'.1, all_takeWhile hw'.2 h]
theorem headOk_noWP {rest : List Nat} (h : headOk rest = true) : rest = [] ∨ ∃ y ys, rest = y :: ys ∧ isWP y = false := by
  cases rest with
  | nil => exact .inl rfl
  | cons y ys =>
    refine .inr ⟨y, ys, rfl, ?_⟩
    have h : (y == 10 || (y == 32 || (y == 35 || aloneW [y]))) = true := h
    rw [Bool.or_eq_true, Bool.or_eq_true, Bool.or_eq_true, beq_iff_eq, beq_iff_eq, beq_iff_eq] at h
    rcases h with rfl | rfl | rfl | h
    · rfl
    · rfl
    · rfl
    · have e : ∀ w ∈ aloneL, ∀ y, w = [y] → isWP y = false := by
        intro w hw
        have q : ∀ w ∈ aloneL, (w.all fun y => !isWP y) = true := by decide +kernel
        intro y hy
        have := q w hw
        rw [hy] at this
        simpa using this
      exact e _ (of_decide_eq_true h) y rfl
theorem alone_sign {w : List Nat} (h : aloneW w = true) : ∃ x, w = [x] ∧ isWP x = false ∧ x ≠ 60 ∧ x ≠ 61 ∧ x ≠ 58 := by
  have q : ∀ w ∈ aloneL, w.length = 1 ∧ (w.all fun x => !isWP x && (x != 60 && (x != 61 && x != 58))) = true := by decide +kernel
  obtain ⟨h1, h2⟩ := q w (of_decide_eq_true h)
  match w, h1 with
  | [x], _ =>
    refine ⟨x, rfl, ?_⟩
    simpa using h2
theorem long_heads {w : List Nat} (h : w ∈ longL) : ∃ x, w = [x, 61] ∧ (x = 58 ∨ x = 61 ∨ x = 60) := by
  have q : longL = [[58, 61], [61, 61], [60, 61]] := by decide +kernel
  rw [q] at h
  simp only [List.mem_cons, List.not_mem_nil, or_false] at h
  rcases h with rfl | rfl | rfl
  · exact ⟨58, rfl, .inl rfl⟩
  · exact ⟨61, rfl, .inr (.inl rfl)⟩
  · exact ⟨60, rfl, .inr (.inr rfl)⟩
theorem headOk_no61 {rest : List Nat} (h : headOk rest = true) : ∀ x, ¬ (x :: rest).take 2 = [x, 61] := by
  intro x e
  cases rest with
  | nil => cases e
  | cons y ys =>
    have ey : y = 61 := by
      have := congrArg (fun l : List Nat => l[1]?) e
      simpa using this
    subst ey
    have h : ((61 : Nat) == 10 || ((61 : Nat) == 32 || ((61 : Nat) == 35 || aloneW [61]))) = true := h
    exact absurd h (by decide +kernel)
/-- THE STEP: a good word with what may follow is one token -/
theorem tok_step {k : Kd} {w rest : List Nat} (r c : Int) (hg : goodTok k w = true) (hb : Bd w rest) : ∃ x xs, w ++ rest = x :: xs ∧ (x ≠ 10 ∧ x ≠ 32 ∧ x ≠ 35) ∧ Lx.step x xs r c = .ok (⟨k, w, r, c⟩, rest, r, c + w.length) := by
  cases w with
  | nil => cases hg
  | cons x xs =>
    refine ⟨x, xs ++ rest, rfl, ?_⟩
    have wordCase : (x :: xs).all isWP = true → isWP x = true ∧ headOk rest = true ∧ word (x :: (xs ++ rest)) = x :: xs ∧ (x :: (xs ++ rest)).drop (x :: xs).length = rest := fun ha => by
      have hx : isWP x = true := (Bool.and_eq_true_iff.mp (show (isWP x && xs.all isWP) = true from ha)).1
      have hr : headOk rest = true := by
        rcases hb with hb | hb
        · obtain ⟨y, e, e2, _⟩ := alone_sign hb
          cases e
          rw [hx] at e2
          cases e2
        · exact hb
      exact ⟨hx, hr, all_takeWhile (w := x :: xs) ha (headOk_noWP hr), List.drop_left (l₁ := x :: xs)⟩
    have ngap : isWP x = true → x ≠ 10 ∧ x ≠ 32 ∧ x ≠ 35 := fun hx => by
      refine ⟨?_, ?_, ?_⟩ <;> (rintro rfl; revert hx; decide)
    cases k with
    | fin => cases hg
    | name =>
      have hg : (isLet x && ((x :: xs).all isWP && decide (kindOf (x :: xs) = .name))) = true := hg
      rw [Bool.and_eq_true, Bool.and_eq_true] at hg
      obtain ⟨h1, h2, h3⟩ := hg
      obtain ⟨hx, hr, hw, hd⟩ := wordCase h2
      refine ⟨ngap hx, ?_⟩
      unfold Lx.step
      rw [if_pos h1, hw, of_decide_eq_true h3, hd]
    | keyword =>
      have hg : (isLet x && ((x :: xs).all isWP && decide (kindOf (x :: xs) = .keyword))) = true := hg
      rw [Bool.and_eq_true, Bool.and_eq_true] at hg
      obtain ⟨h1, h2, h3⟩ := hg
      obtain ⟨hx, hr, hw, hd⟩ := wordCase h2
      refine ⟨ngap hx, ?_⟩
      unfold Lx.step
      rw [if_pos h1, hw, of_decide_eq_true h3, hd]
    | number =>
      have hg : (!isLet x && (isDig x && ((x :: xs).all isWP && isNum (x :: xs)))) = true := hg
      rw [Bool.and_eq_true, Bool.and_eq_true, Bool.and_eq_true] at hg
      obtain ⟨h1, h2, h3, h4⟩ := hg
      have h1 : isLet x = false := by simpa using h1
      obtain ⟨hx, hr, hw, hd⟩ := wordCase h3
      refine ⟨ngap hx, ?_⟩
      unfold Lx.step
      rw [if_neg (by rw [h1]; exact Bool.false_ne_true), if_pos h2, hw, if_pos h4, hd]
    | sign =>
      have hg : (!isLet x && (!isDig x && (x != 10 && (x != 32 && (x != 35 && ((decide ((x :: xs) ∈ longL)) || (decide ((x :: xs) ∈ shortL) && (aloneW (x :: xs) || (x == 60 || x == 61)))))))) ) = true := hg
      rw [Bool.and_eq_true, Bool.and_eq_true, Bool.and_eq_true, Bool.and_eq_true, Bool.and_eq_true, Bool.or_eq_true, Bool.and_eq_true] at hg
      obtain ⟨h1, h2, g1, g2, g3, h3⟩ := hg
      have h1 : isLet x = false := by simpa using h1
      have h2 : isDig x = false := by simpa using h2
      refine ⟨⟨by simpa using g1, by simpa using g2, by simpa using g3⟩, ?_⟩
      unfold Lx.step
      rw [if_neg (by rw [h1]; exact Bool.false_ne_true), if_neg (by rw [h2]; exact Bool.false_ne_true)]
      rcases h3 with h3 | ⟨h3, h4⟩
      · have h3 := of_decide_eq_true h3
        obtain ⟨y, e, _⟩ := long_heads h3
        cases e
        rw [if_pos (by exact h3)]
        rfl
      · have h3 := of_decide_eq_true h3
        have e1 : xs = [] := by
          have q : ∀ w ∈ shortL, w.length = 1 := by decide +kernel
          have := q _ h3
          exact List.eq_nil_of_length_eq_zero (by simpa using this)
        subst e1
        have nl : ¬ (x :: ([] ++ rest)).take 2 ∈ longL := fun hm => by
          rcases Bool.or_eq_true_iff.mp h4 with h4 | h4
          · obtain ⟨y, e, e2, e3, e4, e5⟩ := alone_sign h4
            cases e
            obtain ⟨z, ez, hz⟩ := long_heads hm
            have : x = z := by
              have := congrArg (fun l : List Nat => l[0]?) ez
              simpa using this
            omega
          · rcases hb with hb | hb
            · obtain ⟨y, e, e2, e3, e4, e5⟩ := alone_sign hb
              cases e
              rw [Bool.or_eq_true, beq_iff_eq, beq_iff_eq] at h4
              omega
            · obtain ⟨z, ez, hz⟩ := long_heads hm
              have ex : x = z := by
                have := congrArg (fun l : List Nat => l[0]?) ez
                simpa using this
              subst ex
              exact headOk_no61 hb x ez
        rw [if_neg nl, if_pos h3]
        rfl
theorem adv_tok {k : Kd} {w : List Nat} (hg : goodTok k w = true) (hn : 10 ∉ w) (r c : Int) : adv w r c = (r, c + w.length) := adv_flat w r c hn
/-- the scanner over a good word with what may follow -/
theorem lex_word {k : Kd} {w rest : List Nat} (r c : Int) (hg : goodTok k w = true) (hb : Bd w rest) : lex (w ++ rest) r c = (⟨k, w, r, c⟩ :: (lex rest r (c + w.length)).1, (lex rest r (c + w.length)).2) := by
  obtain ⟨x, xs, e, hne, hs⟩ := tok_step r c hg hb
  refine lex_tok (x := x) (xs := xs) ?_ hs
  rw [e]
  exact skip_here hne
/-- gaps and perhaps a comment, to the end of the text -/
def endB : Bool → List Nat → Bool
  | _, [] => true
  | true, x :: xs => if x = 10 then endB false xs else endB true xs
  | false, x :: xs => if x = 10 then endB false xs else if x = 32 then endB false xs else if x = 35 then endB true xs else false
theorem endB_ok : ∀ (b : Bool) (g : List Nat), endB b g = true → ∀ (r c : Int), skip b g r c = ([], (adv g r c).1, (adv g r c).2)
  | true, [], h, r, c => rfl
  | false, [], h, r, c => rfl
  | true, x :: xs, h, r, c => by
    rw [skip, adv]
    rw [endB] at h
    by_cases e : x = 10
    · rw [if_pos e] at h ⊢; rw [if_pos e]; exact endB_ok false xs h _ _
    · rw [if_neg e] at h ⊢; rw [if_neg e]; exact endB_ok true xs h _ _
  | false, x :: xs, h, r, c => by
    rw [skip, adv]
    rw [endB] at h
    by_cases e : x = 10
    · rw [if_pos e] at h ⊢; rw [if_pos e]; exact endB_ok false xs h _ _
    · rw [if_neg e] at h ⊢; rw [if_neg e]
      by_cases e2 : x = 32
      · rw [if_pos e2] at h ⊢; exact endB_ok false xs h _ _
      · rw [if_neg e2] at h ⊢
        by_cases e3 : x = 35
        · rw [if_pos e3] at h ⊢; exact endB_ok true xs h _ _
        · rw [if_neg e3] at h; cases h
/-! ### the tokens as data -/
def tkD (t : Tk) : PyData := .tuple [.str (kdS t.kind), .str (Tx t.text), .int t.row, .int t.col]
def okTk (t : Tk) : Bool := PyData.strOk (Tx t.text)
theorem kdS_ok (k : Kd) : PyData.strOk (kdS k) = true := by cases k <;> decide +kernel
theorem tkD_lay {ts : List Tk} (h : ∀ t ∈ ts, okTk t = true) : PyData.canLayAll0 (ts.map tkD) = true := by
  induction ts with
  | nil => rfl
  | cons t ts ih =>
    have h1 : PyData.strOk (Tx t.text) = true := h t List.mem_cons_self
    show (PyData.canLay0 (tkD t) && PyData.canLayAll0 (ts.map tkD)) = true
    rw [ih fun t ht => h t (List.mem_cons_of_mem _ ht), Bool.and_true]
    simp [tkD, PyData.canLay0, PyData.canLayAll0, h1, kdS_ok]
theorem tkD_depth (ts : List Tk) : PyData.depthAll (ts.map tkD) ≤ 1 := by
  induction ts with
  | nil => exact Nat.zero_le _
  | cons t ts ih =>
    show max (PyData.depth (tkD t)) (PyData.depthAll (ts.map tkD)) ≤ 1
    have : PyData.depth (tkD t) = 1 := by simp [tkD, PyData.depth, PyData.depthAll]
    omega
theorem shaped_tks {ts : List Tk} (h : ∀ t ∈ ts, okTk t = true) : SeqAt.shaped (.list (ts.map tkD)) = true := by
  unfold SeqAt.shaped
  have d := tkD_depth ts
  rw [show PyData.canLay0 (.list (ts.map tkD)) = PyData.canLayAll0 (ts.map tkD) by simp [PyData.canLay0], tkD_lay h, Bool.true_and]
  exact decide_eq_true (by simp only [PyData.depth]; omega)
theorem dp_tks {K : PySem.W.Frag} {H : Hp} : ∀ {qs : List Addr} {ts : List Tk}, qs.length = ts.length → (∀ (k : Nat) (q : Addr) (t : Tk), qs[k]? = some q → ts[k]? = some t → H q = some (.tup (tkV t))) → DpAll K H (qs.map V.ref) (ts.map tkD)
  | [], [], _, _ => .nil
  | q :: qs, t :: ts, hl, h => by
    refine .cons (.tup (SqT.of (h 0 q t rfl rfl)) (.cons (.str _) (.cons (.str _) (.cons (.int _) (.cons (.int _) .nil))))) (dp_tks (by simpa using hl) fun k q' t' e1 e2 => h (k + 1) q' t' (by simpa using e1) (by simpa using e2))
  | [], _ :: _, hl, _ => by cases hl
  | _ :: _, [], hl, _ => by cases hl
theorem TksAt.dp {K : PySem.W.Frag} {H : Hp} {p : Addr} {ts : List Tk} (h : TksAt H p ts) : Dp K H (.ref p) (.list (ts.map tkD)) := by
  obtain ⟨qs, h1, h2, h3⟩ := h
  exact .lst (SqL.of h1) (dp_tks h2 h3)
theorem TksAt.kept {H H' : Hp} {p : Addr} {ts : List Tk} (h : TksAt H p ts) (k : ∀ b o, H b = some o → (∀ kvs, o ≠ .dK kvs) → H' b = some o) : TksAt H' p ts := by
  obtain ⟨qs, h1, h2, h3⟩ := h
  exact ⟨qs, k _ _ h1 (fun _ z => by cases z), h2, fun i q t e1 e2 => k _ _ (h3 i q t e1 e2) (fun _ z => by cases z)⟩
/-! ### promises -/
def kwS : List String := ["method", "main", "object", "const", "var", "parent", "let", "print", "return", "if", "else", "while", "put", "drop", "resend", "fn", "call", "self", "true", "false", "nothing", "div", "mod"]
def sp_l_keywords (K : PySem.W.Frag) : Sp := fun vs H Q _ => vs = [] ∧ ∀ (p : Addr) (H' : Hp), Same H H' → H p = none → H' p = some (.lst (kwS.map mS)) → Q (.ref p) H'
def sp_l_word (K : PySem.W.Frag) : Sp := fun vs H Q _ => ∃ (d r : Addr), vs = [.ref d] ∧ Draws H d r ∧ ∀ (q : Addr) (H' : Hp) (k : Kd) (w : List Nat), Kept d H H' → Draws H' d r → H q = none → H' q = some (.tup [.str (kdS k), .str (Tx w)]) →
  goodTok k w = true → 10 ∉ w → w.length ≤ 40 → PyData.strOk (Tx w) = true → Q (.ref q) H'
def sp_l_alone (K : PySem.W.Frag) : Sp := fun vs H Q _ => ∃ w : List Nat, vs = [.str (Tx w)] ∧ ∀ H', Same H H' → Q (.bl (aloneW w)) H'
def sp_l_between (K : PySem.W.Frag) : Sp := fun vs H Q _ => ∃ (d r : Addr), vs = [.ref d] ∧ Draws H d r ∧ ∀ (H' : Hp) (g : List Nat), Kept d H H' → Draws H' d r → gapB false g = true → g ≠ [] → g.length ≤ 40 → headOk g = true → Q (.str (Tx g)) H'
def sp_l_place (K : PySem.W.Frag) : Sp := fun vs H Q _ => ∃ l : List Nat, vs = [.str (Tx l)] ∧ l.length ≤ 10000000 ∧ ∀ (q : Addr) (H' : Hp), Same H H' → H q = none → H' q = some (.tup [.int (adv l 1 1).1, .int (adv l 1 1).2]) → Q (.ref q) H'
/-! ### readings -/

def ns_l_keywords : List Str := ["words"]
def t_l_keywords (K : PySem.W.Frag) (E : XK) : TS :=
  (tSeq (tAsg (tLst (tMenu (["method", "main", "object", "const", "var", "parent", "let", "print", "return", "if", "else", "while"].map mS))) (gName 0))
    (tRet (tOp rCat (tVar 0) (tLst (tMenu (["put", "drop", "resend", "fn", "call", "self", "true", "false", "nothing", "div", "mod"].map mS))))))

def ns_l_word : List Str := ["draws", "pick", "names"]
def t_l_word (K : PySem.W.Frag) (E : XK) : TS :=
  (tSeq (tAsg (tCall (sp_l_pick K) [] E (tCons (tVar 0) (tCons (tC (.int 9)) tNil))) (gName 1))
    (tSeq (tIfS (tTest (tOp rLtI (tVar 1) (tC (.int 2))))
      (tSeq (tAsg (tLst (tMenu (["a", "X1", "go_", "a_b", "ifx", "fn2", "letter", "calls", "z9", "Main", "divide", "truer", "Self"].map mS))) (gName 2))
    (tRet (tTup (tCons (tC (.str ("name" : Str))) (tCons (tOp (rIxL K) (tVar 2) (tCall (sp_l_pick K) [] E (tCons (tVar 0) (tCons (tC (.int 13)) tNil)))) tNil)))))
      tNext)
    (tSeq (tIfS (tTest (tOp rEq (tVar 1) (tC (.int 2))))
      (tRet (tTup (tCons (tC (.str ("number" : Str))) (tCons (tOp (rIxL K) (tLst (tMenu (["0", "7", "10", "1000000000000", "999999999999", "12345", "90"].map mS))) (tCall (sp_l_pick K) [] E (tCons (tVar 0) (tCons (tC (.int 7)) tNil)))) tNil))))
      tNext)
    (tSeq (tIfS (tTest (tOp rLtI (tVar 1) (tC (.int 5))))
      (tRet (tTup (tCons (tC (.str ("keyword" : Str))) (tCons (tOp (rIxL K) (tCall (sp_l_keywords K) [] E tNil) (tCall (sp_l_pick K) [] E (tCons (tVar 0) (tCons (tC (.int 23)) tNil)))) tNil))))
      tNext)
    (tSeq (tIfS (tTest (tOp rLtI (tVar 1) (tC (.int 7))))
      (tRet (tTup (tCons (tC (.str ("sign" : Str))) (tCons (tOp (rIxL K) (tLst (tMenu (["=", ":=", "==", "<", "<="].map mS))) (tCall (sp_l_pick K) [] E (tCons (tVar 0) (tCons (tC (.int 5)) tNil)))) tNil))))
      tNext)
    (tRet (tTup (tCons (tC (.str ("sign" : Str))) (tCons (tOp (rIxL K) (tLst (tMenu (["{", "}", "(", ")", ",", ";", ".", "+", "-", "*"].map mS))) (tCall (sp_l_pick K) [] E (tCons (tVar 0) (tCons (tC (.int 10)) tNil)))) tNil)))))))))

def ns_l_alone : List Str := ["text"]
def t_l_alone (K : PySem.W.Frag) (E : XK) : TS :=
  (tRet (tOp (rIn K false) (tVar 0) (tTup (tMenu (["{", "}", "(", ")", ",", ";", ".", "+", "-", "*"].map mS)))))

def ns_l_between : List Str := ["draws", "first", "more"]
def t_l_between (K : PySem.W.Frag) (E : XK) : TS :=
  (tSeq (tAsg (tOp (rIxL K) (tLst (tMenu ([" ", "\n", "  ", "# a _ comment := main!", " "].map mS))) (tCall (sp_l_pick K) [] E (tCons (tVar 0) (tCons (tC (.int 5)) tNil)))) (gName 1))
    (tSeq (tAsg (tOp (rIxL K) (tLst (tMenu (["", "", "", "\n", "#\n ", "\n   ", "#x\n\n"].map mS))) (tCall (sp_l_pick K) [] E (tCons (tVar 0) (tCons (tC (.int 7)) tNil)))) (gName 2))
    (tSeq (tIfS (tTest (tOp rEq (tOp rIxS (tVar 1) (tC (.int 0))) (tC (.str ("#" : Str)))))
      (tAsg (tC (.str ("\n" : Str))) (gName 2))
      tNext)
    (tRet (tOp rCatS (tVar 1) (tVar 2))))))

def ns_l_place : List Str := ["text"]
def t_l_place (K : PySem.W.Frag) (E : XK) : TS :=
  (tRet (tTup (tCons (tOp rAddI (tBM K "str" rCount (tVar 0) (tCons (tC (.str ("\n" : Str))) tNil)) (tC (.int 1))) (tCons (tOp rSubI (tCB rLenS (tCons (tVar 0) tNil)) (tBM K "str" rRfind (tVar 0) (tCons (tC (.str ("\n" : Str))) tNil))) tNil))))

def ns_law : List Str := ["script", "draws", "text", "due", "last", "k", "kind", "word", "between", "row", "column", "actual"]
def t_law (K : PySem.W.Frag) (EW : EWT) (E : XK) : TS :=
  (tSeq (tAsg (tCall (sp_l_stream K) [] E (tCons (tVar 0) (tCons (tC (.int 300)) tNil))) (gName 1))
    (tSeq (tAsg (tOp (rIxL K) (tLst (tMenu (["", "", " ", "\n", "# begin\n  "].map mS))) (tCall (sp_l_pick K) [] E (tCons (tVar 1) (tCons (tC (.int 5)) tNil)))) (gName 2))
    (tSeq (tAsg (tLst tNil) (gName 3))
    (tSeq (tAsg (tC (.str ("(" : Str))) (gName 4))
    (tSeq (tFor (iRng1 (tCons (tCB rMin2 (tCons (tC (.int 120)) (tCons (tOp rAddI (tC (.int 1)) (tOp rFdivI (tCB (rLen K) (tCons (tDGet (tVar 1) (tC (.str ("row" : Str)))) tNil)) (tC (.int 3)))) tNil))) tNil)) (gName 5)
      (tSeq (tAsg (tCall (sp_l_word K) [] E (tCons (tVar 1) tNil)) (gTup K 2 (gCons (gName 6) (gCons (gName 7) gNil))))
    (tSeq (tIfS (tOr (tNot (tOr (tB (tCall (sp_l_alone K) [] E (tCons (tVar 4) tNil))) (tB (tCall (sp_l_alone K) [] E (tCons (tVar 7) tNil))))) (tTest (tOp rEq (tCall (sp_l_pick K) [] E (tCons (tVar 1) (tCons (tC (.int 3)) tNil))) (tC (.int 0)))))
      (tIfS (tTest (tOp rGtI (tVar 5) (tC (.int 0))))
      (tSeq (tAsg (tCall (sp_l_between K) [] E (tCons (tVar 1) tNil)) (gName 8))
    (tSeq (tAsg (tOp rCatS (tVar 2) (tVar 8)) (gName 2))
    (tIfS (tAnd (tTest (tOp rInSign (tC (.str ("#" : Str))) (tVar 8))) (tTest (tOp (rIn K true) (tOp rIxS (tVar 8) (tUn rNegI (tC (.int 1)))) (tTup (tCons (tC (.str (" " : Str))) (tCons (tC (.str ("\n" : Str))) tNil))))))
      (tAsg (tOp rCatS (tVar 2) (tC (.str ("\n" : Str)))) (gName 2))
      tNext)))
      tNext)
      tNext)
    (tSeq (tAsg (tCall (sp_l_place K) [] E (tCons (tVar 2) tNil)) (gTup K 2 (gCons (gName 9) (gCons (gName 10) gNil))))
    (tSeq (tDrop (tBM K "list" rAppend (tVar 3) (tCons (tTup (tCons (tVar 6) (tCons (tVar 7) (tCons (tVar 9) (tCons (tVar 10) tNil))))) tNil)))
    (tSeq (tAsg (tOp rCatS (tVar 2) (tVar 7)) (gName 2))
    (tAsg (tVar 7) (gName 4))))))))
    (tSeq (tAsg (tOp rCatS (tVar 2) (tOp (rIxL K) (tLst (tMenu (["", " ", "\n", "\n  ", " # the end"].map mS))) (tCall (sp_l_pick K) [] E (tCons (tVar 1) (tCons (tC (.int 5)) tNil))))) (gName 2))
    (tSeq (tAsg (tCall (sp_l_place K) [] E (tCons (tVar 2) tNil)) (gTup K 2 (gCons (gName 9) (gCons (gName 10) gNil))))
    (tSeq (tDrop (tBM K "list" rAppend (tVar 3) (tCons (tTup (tCons (tC (.str ("end" : Str))) (tCons (tC (.str ("" : Str))) (tCons (tVar 9) (tCons (tVar 10) tNil))))) tNil)))
    (tSeq (tAsg (tCall (sp_tokens K EW) [] E (tCons (tVar 2) tNil)) (gName 11))
    (tSeq (tIfS (tOr (tNot (tB (tCB (rIsi K) (tCons (tVar 11) (tCons (tC (.ty "list")) tNil))))) (tTest (tOp (rNeD K) (tVar 11) (tVar 3))))
      (tRet (tC (.bl false)))
      tNext)
    (tRet (tAndV (tOp (rEqD K) (tC (.ref (He.ga K ("KEYWORDS" : Str)))) (tCB (rTupleOf K) (tCons (tCall (sp_l_keywords K) [] E tNil) tNil))) (tOp (rEqD K) (tCall (sp_tokens K EW) [] E (tCons (tC (.str ("" : Str))) tNil)) (tLst (tCons (tTup (tCons (tC (.str ("end" : Str))) (tCons (tC (.str ("" : Str))) (tCons (tC (.int 1)) (tCons (tC (.int 1)) tNil))))) tNil)))))))))))))))

/-! ### runs of the law's own defs -/
section
variable {K : PySem.W.Frag} {vs : List V} {H : Hp} {Q : VK} {E : XK}
theorem run_l_keywords (h : sp_l_keywords K vs H Q E) : t_l_keywords K E (DQ Q) (start ns_l_keywords vs) H := by
  obtain ⟨rfl, q⟩ := h
  refine ⟨(by show 12 ≤ sizeLine; decide), fun p np => ?_⟩
  refine ⟨_, rfl, (by show 11 ≤ sizeLine; decide), fun p2 np2 => ?_⟩
  have n21 : p2 ≠ p := fun z => by rw [z, upd_same] at np2; cases np2
  have np2H : H p2 = none := by rw [upd_ne n21] at np2; exact np2
  refine ⟨p, p2, _, _, rfl, rfl, (by rw [upd_ne n21.symm, upd_same]), upd_same, (by show 23 ≤ sizeLine; decide), fun p3 np3 => ?_⟩
  have n31 : p3 ≠ p := fun z => by rw [z, upd_ne n21.symm, upd_same] at np3; cases np3
  have n32 : p3 ≠ p2 := fun z => by rw [z, upd_same] at np3; cases np3
  have np3H : H p3 = none := by rw [upd_ne n32, upd_ne n31] at np3; exact np3
  exact q p3 _ ((((Same.refl H).put np).put np2H).put np3H) np3H upd_same
theorem run_l_alone (h : sp_l_alone K vs H Q E) : t_l_alone K E (DQ Q) (start ns_l_alone vs) H := by
  obtain ⟨w, rfl, q⟩ := h
  refine ⟨_, rfl, (by show 10 ≤ sizeLine; decide), fun p np => ⟨_, _, rfl, .inr (SqT.of upd_same), rfl, rfl, ?_⟩⟩
  rw [if_neg Bool.false_ne_true, show ["{", "}", "(", ")", ",", ";", ".", "+", "-", "*"].map mS = aloneL.map (fun k => V.str (Tx k)) by unfold aloneL; rw [List.map_map]; exact List.map_congr_left fun s _ => mS_eq s, in_list]
  exact q _ ((Same.refl H).put np)
theorem run_l_place (h : sp_l_place K vs H Q E) : t_l_place K E (DQ Q) (start ns_l_place vs) H := by
  obtain ⟨l, rfl, hl, q⟩ := h
  obtain ⟨e1, e2⟩ := place_ok l
  refine ⟨_, rfl, rfl, _, _, rfl, rfl, _, _, rfl, rfl, _, rfl, _, rfl, small_len hl, _, rfl, rfl, _, _, rfl, rfl, _, _, rfl, rfl, (by show 2 ≤ sizeLine; decide), fun p np => ?_⟩
  refine q p _ ((Same.refl H).put np) np ?_
  rw [upd_same, ← e1, ← e2]
  rfl
/-- one item of a menu, by a draw -/
theorem run_l_word (h : sp_l_word K vs H Q E) : t_l_word K E (DQ Q) (start ns_l_word vs) H := by
  obtain ⟨d, r, rfl, hD, q⟩ := h
  refine ⟨_, rfl, d, 9, rfl, by decide, r, hD, fun j1 H1 j10 j19 D1 M1 => ?_⟩
  have K1 := Kept.of_moved M1
  have fin : ∀ (k : Kd) (ss : List String) (j : Int) (H2 : Hp), Kept d H H2 → Draws H2 d r → (∀ s ∈ ss, goodTok k (codes s) = true ∧ 10 ∉ codes s ∧ (codes s).length ≤ 40 ∧ PyData.strOk (Tx (codes s)) = true) → 0 ≤ j → j < (ss.length : Int) →
      ∃ v, atI (ss.map mS) j = some v ∧ ∀ p, H2 p = none → Q (.ref p) (upd H2 p (.tup [V.str (kdS k), v])) := fun k ss j H2 K2 D2 hs j0 j1 => by
    obtain ⟨s, hm, e⟩ := menu_at j0 j1
    obtain ⟨g1, g2, g3, g4⟩ := hs s hm
    exact ⟨_, e, fun p np => q p _ k (codes s) (K2.put (K2.free D2.atD np)) (D2.fresh np) (K2.free D2.atD np) upd_same g1 g2 g3 g4⟩
  refine ⟨_, rfl, _, _, rfl, rfl, _, rfl, ?_⟩
  refine ite2 (fun _ => ?_) (fun _ => ?_)
  · refine ⟨(by show 13 ≤ sizeLine; decide), fun p np => ?_⟩
    have D2 : Draws (upd H1 p (.lst (["a", "X1", "go_", "a_b", "ifx", "fn2", "letter", "calls", "z9", "Main", "divide", "truer", "Self"].map mS))) d r := D1.fresh np
    refine ⟨_, rfl, _, rfl, d, 13, rfl, by decide, r, D2, fun j H3 j0 j1 D3 M3 => ?_⟩
    have K3 : Kept d H H3 := (K1.put (K1.free D1.atD np)).trans (Kept.of_moved M3)
    have hp : H3 p = some (.lst (["a", "X1", "go_", "a_b", "ifx", "fn2", "letter", "calls", "z9", "Main", "divide", "truer", "Self"].map mS)) := (M3 p (Ne.symm (D1.neD np))).trans upd_same
    obtain ⟨v, e, f⟩ := fin .name ["a", "X1", "go_", "a_b", "ifx", "fn2", "letter", "calls", "z9", "Main", "divide", "truer", "Self"] j H3 K3 D3 (by decide +kernel) j0 j1
    exact ⟨p, _, _, v, rfl, rfl, SqL.of hp, e, (by show 2 ≤ sizeLine; decide), f⟩
  · have menu : ∀ (k : Kd) (ss : List String) (m : Int), m = (ss.length : Int) → ss.length ≤ 100 → 0 < m → (∀ s ∈ ss, goodTok k (codes s) = true ∧ 10 ∉ codes s ∧ (codes s).length ≤ 40 ∧ PyData.strOk (Tx (codes s)) = true) →
        (tRet (tTup (tCons (tC (.str (kdS k))) (tCons (tOp (rIxL K) (tLst (tMenu (ss.map mS))) (tCall (sp_l_pick K) [] E (tCons (tVar 0) (tCons (tC (.int m)) tNil)))) tNil)))) (DQ Q) [some (.ref d), some (.int j1), none] H1 := fun k ss m hm hl hpos hs => by
      refine ⟨?_, fun p np => ?_⟩
      · show (ss.map mS).length ≤ sizeLine
        rw [List.length_map]
        exact Nat.le_trans hl (by decide)
      · have D2 : Draws (upd H1 p (.lst (ss.map mS))) d r := D1.fresh np
        refine ⟨_, rfl, d, m, rfl, hpos, r, D2, fun j H3 j0 j1 D3 M3 => ?_⟩
        have K3 : Kept d H H3 := (K1.put (K1.free D1.atD np)).trans (Kept.of_moved M3)
        have hp : H3 p = some (.lst (ss.map mS)) := (M3 p (Ne.symm (D1.neD np))).trans upd_same
        obtain ⟨v, e, f⟩ := fin k ss j H3 K3 D3 hs j0 (by rw [← hm]; exact j1)
        exact ⟨p, _, _, v, rfl, rfl, SqL.of hp, e, (by show 2 ≤ sizeLine; decide), f⟩
    refine ⟨_, rfl, rfl, _, rfl, ?_⟩
    refine ite2 (fun _ => ?_) (fun _ => ?_)
    · exact menu .number _ 7 rfl (by decide) (by decide) (by decide +kernel)
    · refine ⟨_, rfl, _, _, rfl, rfl, _, rfl, ?_⟩
      refine ite2 (fun _ => ?_) (fun _ => ?_)
      · refine ⟨rfl, fun p H2 s2 np hp => ?_⟩
        have D2 := D1.same s2
        refine ⟨_, rfl, d, 23, rfl, by decide, r, D2, fun j H3 j0 j1 D3 M3 => ?_⟩
        have K3 : Kept d H H3 := (K1.trans (Kept.of_same s2)).trans (Kept.of_moved M3)
        have hp3 : H3 p = some (.lst (kwS.map mS)) := (M3 p (Ne.symm (D1.neD np))).trans hp
        obtain ⟨v, e, f⟩ := fin .keyword kwS j H3 K3 D3 (by decide +kernel) j0 j1
        exact ⟨p, _, _, v, rfl, rfl, SqL.of hp3, e, (by show 2 ≤ sizeLine; decide), f⟩
      · refine ⟨_, rfl, _, _, rfl, rfl, _, rfl, ?_⟩
        refine ite2 (fun _ => ?_) (fun _ => ?_)
        · exact menu .sign _ 5 rfl (by decide) (by decide) (by decide +kernel)
        · exact menu .sign _ 10 rfl (by decide) (by decide) (by decide +kernel)
theorem run_l_between (h : sp_l_between K vs H Q E) : t_l_between K E (DQ Q) (start ns_l_between vs) H := by
  obtain ⟨d, r, rfl, hD, q⟩ := h
  refine ⟨(by show 5 ≤ sizeLine; decide), fun p np => ?_⟩
  refine ⟨_, rfl, d, 5, rfl, by decide, r, hD.fresh np, fun j H1 j0 j1 D1 M1 => ?_⟩
  have K1 : Kept d H H1 := ((Kept.refl d H).put np).trans (Kept.of_moved M1)
  have hp : H1 p = some (.lst ([" ", "\n", "  ", "# a _ comment := main!", " "].map mS)) := (M1 p (Ne.symm (hD.neD np))).trans upd_same
  obtain ⟨s, hs, e⟩ := menu_at (ss := [" ", "\n", "  ", "# a _ comment := main!", " "]) j0 j1
  refine ⟨p, _, _, _, rfl, rfl, SqL.of hp, e, ?_⟩
  refine ⟨(by show 7 ≤ sizeLine; decide), fun p2 np2 => ?_⟩
  refine ⟨_, rfl, d, 7, rfl, by decide, r, D1.fresh np2, fun j2 H2 j20 j21 D2 M2 => ?_⟩
  have K2 : Kept d H H2 := (K1.put (K1.free D1.atD np2)).trans (Kept.of_moved M2)
  have hp2 : H2 p2 = some (.lst (["", "", "", "\n", "#\n ", "\n   ", "#x\n\n"].map mS)) := (M2 p2 (Ne.symm (D1.neD np2))).trans upd_same
  obtain ⟨s2, hs2, e2⟩ := menu_at (ss := ["", "", "", "\n", "#\n ", "\n   ", "#x\n\n"]) j20 j21
  refine ⟨p2, _, _, _, rfl, rfl, SqL.of hp2, e2, ?_⟩
  have first : ∃ c cs, codes s = c :: cs := by
    have z : ∀ s ∈ [" ", "\n", "  ", "# a _ comment := main!", " "], (codes s).isEmpty = false := by decide +kernel
    have := z s hs
    cases hc : codes s with
    | nil => rw [hc] at this; cases this
    | cons c cs => exact ⟨c, cs, rfl⟩
  obtain ⟨c, cs, ec⟩ := first
  have hlen : (codes s).length ≤ 22 := by
    have z : ∀ s ∈ [" ", "\n", "  ", "# a _ comment := main!", " "], (codes s).length ≤ 22 := by decide +kernel
    exact z s hs
  refine ⟨_, rfl, _, _, c, rfl, rfl, small_len (by show (codes s).length ≤ _; omega), atI_nat (j := 0) (by show (codes s)[0]? = _; rw [ec]; rfl), rfl, _, rfl, ?_⟩
  rw [show ("#" : Str) = ⟨#[35]⟩ by decide +kernel, dec_one]
  have good : ∀ (a b : List Nat), a = codes s → (c = 35 → b = [10]) → (c ≠ 35 → b ∈ ["", "", "", "\n", "#\n ", "\n   ", "#x\n\n"].map codes) → gapB false (a ++ b) = true ∧ (a ++ b) ≠ [] ∧ (a ++ b).length ≤ 40 ∧ headOk (a ++ b) = true := fun a b ea h1 h2 => by
    subst ea
    have z : ∀ s ∈ [" ", "\n", "  ", "# a _ comment := main!", " "], ((codes s).head? = some 35 → (gapB false (codes s ++ [10]) = true ∧ (codes s ++ [10]) ≠ [] ∧ (codes s ++ [10]).length ≤ 40 ∧ headOk (codes s ++ [10]) = true)) ∧
        ((codes s).head? ≠ some 35 → ∀ b ∈ ["", "", "", "\n", "#\n ", "\n   ", "#x\n\n"].map codes, gapB false (codes s ++ b) = true ∧ (codes s ++ b) ≠ [] ∧ (codes s ++ b).length ≤ 40 ∧ headOk (codes s ++ b) = true) := by decide +kernel
    obtain ⟨z1, z2⟩ := z s hs
    rw [ec] at z1 z2
    rw [ec]
    by_cases hc : c = 35
    · rw [h1 hc]
      exact z1 (by rw [hc]; rfl)
    · exact z2 (fun e => hc (by simpa using e)) b (h2 hc)
  refine ite2 (fun h3 => ?_) (fun h3 => ?_)
  · have h3 := of_decide_eq_true h3
    obtain ⟨g1, g2, g3, g4⟩ := good (codes s) [10] rfl (fun _ => rfl) (fun z => absurd h3 z)
    refine ⟨_, rfl, _, rfl, _, _, rfl, rfl, ?_, ?_⟩
    · rw [nl1]
      show (codes s).length + 1 ≤ sizeLine
      exact small_len (by omega)
    · rw [nl1, show (⟨#[10]⟩ : Str) = Tx [10] from rfl, Tx_app]
      exact q H2 _ K2 D2 g1 g2 g3 g4
  · have h3 : ¬ c = 35 := fun z => h3 (decide_eq_true z)
    have hm : codes s2 ∈ ["", "", "", "\n", "#\n ", "\n   ", "#x\n\n"].map codes := List.mem_map.mpr ⟨s2, hs2, rfl⟩
    obtain ⟨g1, g2, g3, g4⟩ := good (codes s) (codes s2) rfl (fun z => absurd z h3) (fun _ => hm)
    refine ⟨_, rfl, _, rfl, _, _, rfl, rfl, ?_, ?_⟩
    · show (codes s).length + (codes s2).length ≤ sizeLine
      rw [List.length_append] at g3
      exact small_len (by omega)
    · rw [Tx_app]
      exact q H2 _ K2 D2 g1 g2 g3 g4
end

/-! ### the law -/
def sp_law (K : PySem.W.Frag) : Sp := fun vs H Q _ => ∃ (a : Addr) (ns : List Int), vs = [.ref a] ∧ SqL K H a (ns.map V.int) ∧ ns.length ≤ 63 ∧ ∀ H', Q (.bl true) H'
def PreL (t : List Nat) (ts : List Tk) (last : List Nat) : Prop := ∀ rest, Bd last rest → lex (t ++ rest) 1 1 = (ts ++ (lex rest (adv t 1 1).1 (adv t 1 1).2).1, (lex rest (adv t 1 1).1 (adv t 1 1).2).2)
def FreeW (t : List Nat) (ts : List Tk) (w : List Nat) : Prop := ∀ rest, lex (t ++ (w ++ rest)) 1 1 = (ts ++ (lex (w ++ rest) (adv t 1 1).1 (adv t 1 1).2).1, (lex (w ++ rest) (adv t 1 1).1 (adv t 1 1).2).2)
theorem PreL.first {g : List Nat} (h : gapB false g = true) (last : List Nat) : PreL g [] last := fun rest _ => by
  rw [List.nil_append]
  have e := gapB_ok false g h rest 1 1
  rw [lex_skip (l := g ++ rest) (l2 := rest) e]
theorem PreL.gap {t g : List Nat} {ts : List Tk} {last : List Nat} (h : PreL t ts last) (hg : gapB false g = true) (ho : headOk g = true) (hne : g ≠ []) (w : List Nat) : FreeW (t ++ g) ts w := fun rest => by
  rw [List.append_assoc, h (g ++ (w ++ rest)) (.inr ?_), adv_append]
  · have e := gapB_ok false g hg (w ++ rest) (adv t 1 1).1 (adv t 1 1).2
    rw [lex_skip (l := g ++ (w ++ rest)) (l2 := w ++ rest) e]
  · cases g with
    | nil => exact absurd rfl hne
    | cons y ys => exact ho
theorem PreL.direct {t : List Nat} {ts : List Tk} {last w : List Nat} (h : PreL t ts last) (hw : aloneW last = true ∨ aloneW w = true) : FreeW t ts w := fun rest => by
  refine h (w ++ rest) ?_
  rcases hw with hw | hw
  · exact .inl hw
  · obtain ⟨x, rfl, _⟩ := alone_sign hw
    refine .inr ?_
    show (x == 10 || (x == 32 || (x == 35 || aloneW [x]))) = true
    rw [hw, Bool.or_true, Bool.or_true, Bool.or_true]
theorem FreeW.word {t : List Nat} {ts : List Tk} {k : Kd} {w : List Nat} (h : FreeW t ts w) (hg : goodTok k w = true) (hn : 10 ∉ w) : PreL (t ++ w) (ts ++ [⟨k, w, (adv t 1 1).1, (adv t 1 1).2⟩]) w := fun rest hb => by
  rw [List.append_assoc, h rest, lex_word _ _ hg hb, adv_append, adv_flat w _ _ hn, List.append_assoc]
  rfl
theorem TksAt.keptD {H H' : Hp} {p d r : Addr} {ts : List Tk} (h : TksAt H p ts) (hD : Draws H d r) (k : Kept d H H') : TksAt H' p ts := h.kept fun b o e n => k b o (fun z => by
  obtain ⟨i, s, ns, h1, _⟩ := hD
  rw [z, h1] at e
  exact n _ (Option.some.inj e).symm) e
theorem TksAt.same {H H' : Hp} {p : Addr} {ts : List Tk} (h : TksAt H p ts) (s : Same H H') : TksAt H' p ts := h.kept fun b o e _ => s b o e
theorem Draws.kept_ne {H : Hp} {p d r : Addr} {ts : List Tk} (h : TksAt H p ts) (hD : Draws H d r) : p ≠ d := by
  obtain ⟨qs, h1, _⟩ := h
  obtain ⟨i, s, ns, h2, _⟩ := hD
  exact ne_of h1 h2 (by intro z; cases z)
/-- a token is appended -/
theorem TksAt.snoc {H : Hp} {p q : Addr} {ts : List Tk} {t : Tk} (h : TksAt H p ts) (hq : H q = some (.tup (tkV t))) : ∃ xs, H p = some (.lst xs) ∧ xs.length = ts.length ∧ TksAt (upd H p (.lst (xs ++ [.ref q]))) p (ts ++ [t]) := by
  obtain ⟨qs, h1, h2, h3⟩ := h
  refine ⟨_, h1, by rw [List.length_map, h2], qs ++ [q], by rw [upd_same, List.map_append]; rfl, by rw [List.length_append, List.length_append, h2]; rfl, fun k q' t' e1 e2 => ?_⟩
  have nq : q ≠ p := ne_of hq h1 (by intro z; cases z)
  by_cases hk : k < qs.length
  · rw [List.getElem?_append_left hk] at e1
    rw [List.getElem?_append_left (by omega)] at e2
    have h0 := h3 k q' t' e1 e2
    rw [upd_ne (ne_of h0 h1 (by intro z; cases z))]
    exact h0
  · have hkl : k < (qs ++ [q]).length := (List.getElem?_eq_some_iff.mp e1).1
    rw [List.length_append, List.length_singleton] at hkl
    have ek : k = qs.length := by omega
    subst ek
    rw [List.getElem?_append_right (Nat.le_refl _), Nat.sub_self] at e1
    rw [h2, List.getElem?_append_right (Nat.le_refl _), Nat.sub_self] at e2
    cases e1
    cases e2
    rw [upd_ne nq]
    exact hq
theorem kwS_eq : kwS.map mS = kwL.map (fun k => V.str (Tx k)) := by
  unfold kwL kwS
  rw [List.map_map]
  exact List.map_congr_left fun s _ => mS_eq s
theorem dp_strs {K : PySem.W.Frag} {H : Hp} : ∀ L : List (List Nat), DpAll K H (L.map fun k => V.str (Tx k)) (L.map fun k => PyData.str (Tx k))
  | [] => .nil
  | k :: L => .cons (.str _) (dp_strs L)
theorem kw_shaped : SeqAt.shaped (.tuple (kwL.map fun k => PyData.str (Tx k))) = true := by decide +kernel
theorem gapB_app : ∀ (b : Bool) (g h : List Nat), gapB b g = true → gapB b (g ++ h) = gapB false h
  | true, [], h, e => by cases e
  | false, [], h, e => rfl
  | true, x :: xs, h, e => by
    show gapB true (x :: (xs ++ h)) = _
    rw [gapB] at e ⊢
    split at e
    · rename_i hx; rw [if_pos hx]; exact gapB_app false xs h e
    · rename_i hx; rw [if_neg hx]; exact gapB_app true xs h e
  | false, x :: xs, h, e => by
    show gapB false (x :: (xs ++ h)) = _
    rw [gapB] at e ⊢
    split at e
    · rename_i hx; rw [if_pos hx]; exact gapB_app false xs h e
    · rename_i hx
      rw [if_neg hx]
      split at e
      · rename_i hx; rw [if_pos hx]; exact gapB_app false xs h e
      · rename_i hx
        rw [if_neg hx]
        split at e
        · rename_i hx; rw [if_pos hx]; exact gapB_app true xs h e
        · cases e
theorem gapB_nl {g : List Nat} (h : gapB false g = true) : gapB false (g ++ [10]) = true := by
  rw [gapB_app false g [10] h]
  rfl
theorem headOk_app {g h : List Nat} (hne : g ≠ []) (hg : headOk g = true) : headOk (g ++ h) = true := by
  cases g with
  | nil => exact absurd rfl hne
  | cons y ys => exact hg
section
variable {K : PySem.W.Frag} {vs : List V} {H : Hp} {Q : VK} {E : XK}
def LInv (a d r u : Addr) (k : Nat) (σ : L2.St) (H4 : Hp) : Prop := ∃ (t last : List Nat) (ts : List Tk) (v5 v6 v7 v8 v9 v10 v11 : Option V), σ = [some (.ref a), some (.ref d), some (.str (Tx t)), some (.ref u), some (.str (Tx last)), v5, v6, v7, v8, v9, v10, v11] ∧ Draws H4 d r ∧ TksAt H4 u ts ∧
  PreL t ts last ∧ (k = 0 → aloneW last = true) ∧ t.length ≤ 100 + 100 * k ∧ (∀ x ∈ ts, okTk x = true) ∧ ts.length ≤ k
theorem run_law {EW : EWT} (hEW : ∀ x r c E H, ¬ EW x r c E H) (hK : ∀ H, SqT K H (He.ga K ("KEYWORDS" : Str)) (kwL.map fun k => V.str (Tx k))) (h : sp_law K vs H Q E) : t_law K EW E (DQ Q) (start ns_law vs) H := by
  obtain ⟨a, ns, rfl, hS, hl, q⟩ := h
  -- draws = _law_stream(script, 300)
  refine ⟨_, rfl, a, ns, 300, rfl, hS, hl, by decide, by decide, fun d H1 r s rs s1 nd hd hr nrd hrl hrm => ?_⟩
  have D1 : Draws H1 d r := ⟨0, s, rs, hd, hr, Int.le_refl _⟩
  -- text = [..][pick]
  refine ⟨(by show 5 ≤ sizeLine; decide), fun p np => ?_⟩
  refine ⟨_, rfl, d, 5, rfl, by decide, r, D1.fresh np, fun j H2 j0 j1 D2 M2 => ?_⟩
  have hp : H2 p = some (.lst (["", "", " ", "\n", "# begin\n  "].map mS)) := (M2 p (Ne.symm (D1.neD np))).trans upd_same
  obtain ⟨t0, ht0, e0⟩ := menu_at (ss := ["", "", " ", "\n", "# begin\n  "]) j0 j1
  refine ⟨p, _, _, _, rfl, rfl, SqL.of hp, e0, ?_⟩
  have g0 : gapB false (codes t0) = true ∧ (codes t0).length ≤ 100 := by
    have z : ∀ s ∈ ["", "", " ", "\n", "# begin\n  "], gapB false (codes s) = true ∧ (codes s).length ≤ 100 := by decide +kernel
    exact z t0 ht0
  -- due = []
  refine ⟨(by show 0 ≤ sizeLine; decide), fun u nu => ?_⟩
  have nud : u ≠ d := Ne.symm (D2.neD nu)
  have nur : u ≠ r := Ne.symm (D2.neR nu)
  have D3 : Draws (upd H2 u (.lst [])) d r := D2.fresh nu
  -- last = "("
  obtain ⟨i3, s3, ns3, hd3, hr3, hi3⟩ := id D3
  refine ⟨_, rfl, d, _, rfl, dget_row hd3, _, _, rfl, .inl ⟨_, SqL.of hr3, rfl⟩, _, _, rfl, rfl, ⟨by decide, by decide⟩, _, _, rfl, rfl, _, _, rfl, ?_⟩
  -- for k in range(..)
  have hm : ∃ n : Nat, n ≤ 120 ∧ (if (1 + ((ns3.map V.int).length : Int) / 3) < 120 then (1 + ((ns3.map V.int).length : Int) / 3) else 120) = (n : Int) := by
    have z0 : 0 ≤ ((ns3.map V.int).length : Int) / 3 := Int.ediv_nonneg (by omega) (by decide)
    refine ⟨(if (1 + ((ns3.map V.int).length : Int) / 3) < 120 then (1 + ((ns3.map V.int).length : Int) / 3) else 120).toNat, ?_, ?_⟩
    · split <;> omega
    · split <;> omega
  obtain ⟨n, hn, en⟩ := hm
  rw [en]
  refine ⟨(n : Int), rfl, by omega, by omega, ?_⟩
  rw [Int.toNat_natCast]
  refine for_range (lo := 0) (n := n) (LInv a d r u) ⟨codes t0, codes "(", [], none, none, none, none, none, none, none, ?_, D3, ⟨[], upd_same, rfl, fun k q t e => by simp at e⟩, PreL.first g0.1 _, (fun _ => by decide +kernel), (by omega), (fun x hx => by cases hx), Nat.zero_le _⟩ ?_ ?_
  · show [some (V.ref a), some (V.ref d), some (V.str (Tx (codes t0))), some (V.ref u), some (V.str ("(" : Str)), none, none, none, none, none, none, none] = _
    rw [show ("(" : Str) = Tx (codes "(") by decide +kernel]
  · rintro k σ H4 hk ⟨t, last, ts, v5, v6, v7, v8, v9, v10, v11, rfl, D4, T4, hPre, hk0, htl, hok, htsl⟩
    -- kind, word = _law_word(draws)
    refine ⟨_, rfl, d, r, rfl, D4, fun qw H5 kd w K5 D5 nq hq hg hn10 hw40 hwok => ?_⟩
    have T5 := T4.keptD D4 K5
    refine ⟨qw, _, rfl, SqT.of hq, rfl, _, _, rfl, _, _, rfl, rfl, ?_⟩
    -- what is left of the turn, from any text that the word may follow
    have rest : ∀ (D' : Ends), (∀ σ H, LInv a d r u (k + 1) σ H → D'.nx σ H) → ∀ (t' : List Nat) (v8' : Option V) (H6 : Hp), Draws H6 d r → TksAt H6 u ts → FreeW t' ts w → t'.length ≤ 100 + 100 * k + 50 →
        (tSeq (tAsg (tCall (sp_l_place K) [] E (tCons (tVar 2) tNil)) (gTup K 2 (gCons (gName 9) (gCons (gName 10) gNil))))
          (tSeq (tDrop (tBM K "list" rAppend (tVar 3) (tCons (tTup (tCons (tVar 6) (tCons (tVar 7) (tCons (tVar 9) (tCons (tVar 10) tNil))))) tNil)))
          (tSeq (tAsg (tOp rCatS (tVar 2) (tVar 7)) (gName 2))
          (tAsg (tVar 7) (gName 4))))) D'
        [some (.ref a), some (.ref d), some (.str (Tx t')), some (.ref u), some (.str (Tx last)), some (.int (0 + k)), some (.str (kdS kd)), some (.str (Tx w)), v8', v9, v10, v11] H6 := fun D' hD' t' v8' H6 D6 T6 hF hl' => by
      refine ⟨_, rfl, t', rfl, by omega, fun q2 H7 s7 nq2 hq2 => ?_⟩
      refine ⟨q2, _, rfl, SqT.of hq2, rfl, _, _, rfl, _, _, rfl, rfl, ?_⟩
      have D7 := D6.same s7
      have T7 := T6.same s7
      obtain ⟨xs0, hu0, hxl0, _⟩ := id T7
      refine ⟨_, rfl, .inl ⟨rfl, _, SqL.of hu0⟩, _, rfl, _, rfl, _, rfl, _, rfl, (by show 4 ≤ sizeLine; decide), fun q3 nq3 => ?_⟩
      have T8 : TksAt (upd H7 q3 (.tup (tkV ⟨kd, w, (adv t' 1 1).1, (adv t' 1 1).2⟩))) u ts := T7.same (same_upd nq3)
      have D8 : Draws (upd H7 q3 (.tup (tkV ⟨kd, w, (adv t' 1 1).1, (adv t' 1 1).2⟩))) d r := D7.fresh nq3
      obtain ⟨xs, hu, hxl, T9⟩ := T8.snoc (t := ⟨kd, w, (adv t' 1 1).1, (adv t' 1 1).2⟩) upd_same
      refine ⟨u, xs, _, rfl, rfl, hu, (by rw [hxl]; exact Nat.lt_of_le_of_lt (show ts.length ≤ 1000 by omega) (by decide)), ?_⟩
      refine ⟨_, rfl, _, rfl, _, _, rfl, rfl, ?_, ?_⟩
      · show t'.length + w.length ≤ sizeLine
        exact small_len (by omega)
      · rw [Tx_app]
        refine ⟨_, rfl, hD' _ _ ⟨t' ++ w, w, _, _, _, _, _, _, _, _, rfl, D8.other nud nur, T9, hF.word hg hn10, fun z => by omega, by rw [List.length_append]; omega, ?_, by rw [List.length_append, List.length_singleton]; omega⟩⟩
        intro x hx
        rcases List.mem_append.mp hx with hx | hx
        · exact hok x hx
        · rw [List.mem_singleton.mp hx]
          exact hwok
    -- if the last word or this one is alone, and the draw is not 0: nothing between
    refine ⟨_, rfl, last, rfl, fun H6 s6 => ⟨_, rfl, ?_⟩⟩
    have D6 := D5.same s6
    have T6 := T5.same s6
    -- a gap, or at the first word nothing
    have yes : ∀ (D' : Ends), (∀ σ H, LInv a d r u (k + 1) σ H → D'.nx σ H) → ∀ H7, Draws H7 d r → TksAt H7 u ts →
        (tIfS (tTest (tOp rGtI (tVar 5) (tC (.int 0))))
          (tSeq (tAsg (tCall (sp_l_between K) [] E (tCons (tVar 1) tNil)) (gName 8))
          (tSeq (tAsg (tOp rCatS (tVar 2) (tVar 8)) (gName 2))
          (tIfS (tAnd (tTest (tOp rInSign (tC (.str ("#" : Str))) (tVar 8))) (tTest (tOp (rIn K true) (tOp rIxS (tVar 8) (tUn rNegI (tC (.int 1)))) (tTup (tCons (tC (.str (" " : Str))) (tCons (tC (.str ("\n" : Str))) tNil))))))
            (tAsg (tOp rCatS (tVar 2) (tC (.str ("\n" : Str)))) (gName 2))
            tNext)))
          tNext) { D' with nx := (tSeq (tAsg (tCall (sp_l_place K) [] E (tCons (tVar 2) tNil)) (gTup K 2 (gCons (gName 9) (gCons (gName 10) gNil))))
          (tSeq (tDrop (tBM K "list" rAppend (tVar 3) (tCons (tTup (tCons (tVar 6) (tCons (tVar 7) (tCons (tVar 9) (tCons (tVar 10) tNil))))) tNil)))
          (tSeq (tAsg (tOp rCatS (tVar 2) (tVar 7)) (gName 2))
          (tAsg (tVar 7) (gName 4))))) D' }
        [some (.ref a), some (.ref d), some (.str (Tx t)), some (.ref u), some (.str (Tx last)), some (.int (0 + k)), some (.str (kdS kd)), some (.str (Tx w)), v8, v9, v10, v11] H7 := fun D' hD' H7 D7 T7 => by
      refine ⟨_, rfl, _, _, rfl, rfl, _, rfl, ?_⟩
      refine ite2 (fun hk1 => ?_) (fun hk1 => ?_)
      · refine ⟨_, rfl, d, r, rfl, D7, fun H8 g K8 D8 gg gne gl gh => ?_⟩
        have T8 := T7.keptD D7 K8
        refine ⟨_, rfl, _, rfl, _, _, rfl, rfl, ?_, ?_⟩
        · show t.length + g.length ≤ sizeLine
          exact small_len (by omega)
        · rw [Tx_app]
          refine ⟨_, rfl, 35, _, congrArg V.str (by decide +kernel), rfl, _, rfl, ?_⟩
          refine ite2 (fun h35 => ?_) (fun h35 => ?_)
          · -- between[-1] not in (" ", "\n")
            obtain ⟨c, cs, ec⟩ : ∃ c cs, g = cs ++ [c] := ⟨g.getLast gne, g.dropLast, (List.dropLast_concat_getLast gne).symm⟩
            refine ⟨_, rfl, _, rfl, _, -1, c, rfl, rfl, small_len (by show g.length ≤ _; omega), (by show atI g (-1) = _; rw [ec]; exact atI_last cs c), (by show 2 ≤ sizeLine; decide), fun q9 nq9 => ?_⟩
            have T9 := T8.same (same_upd (o := .tup [V.str (" " : Str), V.str ("\n" : Str)]) nq9)
            have D9 := D8.fresh (o := .tup [V.str (" " : Str), V.str ("\n" : Str)]) nq9
            refine ⟨_, _, rfl, .inr (SqT.of upd_same), rfl, rfl, _, rfl, ?_⟩
            refine ite2 (fun _ => ?_) (fun _ => ?_)
            · refine ⟨_, rfl, _, _, rfl, rfl, ?_, ?_⟩
              · rw [nl1]
                show (t ++ g).length + 1 ≤ sizeLine
                rw [List.length_append]
                exact small_len (by omega)
              · rw [nl1, show (⟨#[10]⟩ : Str) = Tx [10] from rfl, Tx_app, List.append_assoc]
                have gg2 : gapB false (g ++ [10]) = true := gapB_nl gg
                refine rest D' hD' (t ++ (g ++ [10])) _ _ D9 T9 (hPre.gap gg2 (headOk_app gne gh) (by simp) w) (by rw [List.length_append, List.length_append, List.length_singleton]; omega)
            · exact rest D' hD' (t ++ g) _ _ D9 T9 (hPre.gap gg gh gne w) (by rw [List.length_append]; omega)
          · exact rest D' hD' (t ++ g) _ _ D8 T8 (hPre.gap gg gh gne w) (by rw [List.length_append]; omega)
      · have ek : k = 0 := by
          have : ¬ (0 : Int) < 0 + (k : Int) := fun z => hk1 (decide_eq_true z)
          omega
        exact rest D' hD' t _ _ D7 T7 (hPre.direct (.inl (hk0 ek))) (by omega)
    have pick : ∀ H7, Draws H7 d r → TksAt H7 u ts → (aloneW last = true ∨ aloneW w = true) → ∀ (Y : Bool → Hp → Prop), (∀ H8, Draws H8 d r → TksAt H8 u ts → Y true H8 ∧ Y false H8) →
        (tTest (tOp rEq (tCall (sp_l_pick K) [] E (tCons (tVar 1) (tCons (tC (.int 3)) tNil))) (tC (.int 0)))) [some (.ref a), some (.ref d), some (.str (Tx t)), some (.ref u), some (.str (Tx last)), some (.int (0 + k)), some (.str (kdS kd)), some (.str (Tx w)), v8, v9, v10, v11] H7 Y := fun H7 D7 T7 _ Y hY => by
      refine ⟨_, rfl, d, 3, rfl, by decide, r, D7, fun j H8 j0 j1 D8 M8 => ?_⟩
      obtain ⟨y1, y2⟩ := hY H8 D8 (T7.keptD D7 (Kept.of_moved M8))
      refine ⟨rfl, _, rfl, ?_⟩
      cases decide (V.int j = V.int 0) with
      | true => exact y1
      | false => exact y2
    have hD0 : ∀ σ H, LInv a d r u (k + 1) σ H → LInv a d r u (k + 1) σ H := fun _ _ z => z
    cases hal : aloneW last with
    | true =>
      refine iteT (iteF ?_)
      refine pick H6 D6 T6 (.inl hal) _ fun H8 D8 T8 => ⟨iteT ?_, iteF ?_⟩
      · exact yes _ hD0 H8 D8 T8
      · exact rest _ hD0 t _ _ D8 T8 (hPre.direct (.inl hal)) (by omega)
    | false =>
      refine iteF ⟨_, rfl, w, rfl, fun H7 s7 => ⟨_, rfl, ?_⟩⟩
      have D7 := D6.same s7
      have T7 := T6.same s7
      cases haw : aloneW w with
      | true =>
        refine iteF ?_
        refine pick H7 D7 T7 (.inr haw) _ fun H8 D8 T8 => ⟨iteT ?_, iteF ?_⟩
        · exact yes _ hD0 H8 D8 T8
        · exact rest _ hD0 t _ _ D8 T8 (hPre.direct (.inr haw)) (by omega)
      | false =>
        exact iteT (yes _ hD0 H7 D7 T7)
  · rintro σ H4 ⟨t, last, ts, v5, v6, v7, v8, v9, v10, v11, rfl, D4, T4, hPre, hk0, htl, hok, htsl⟩
    -- text = text + [..][pick]
    refine ⟨_, rfl, (by show 5 ≤ sizeLine; decide), fun p5 np5 => ?_⟩
    refine ⟨_, rfl, d, 5, rfl, by decide, r, D4.fresh np5, fun j5 H5 j50 j51 D5 M5 => ?_⟩
    have T5 : TksAt H5 u ts := (T4.same (same_upd np5)).keptD (D4.fresh np5) (Kept.of_moved M5)
    have hp5 : H5 p5 = some (.lst (["", " ", "\n", "\n  ", " # the end"].map mS)) := (M5 p5 (Ne.symm (D4.neD np5))).trans upd_same
    obtain ⟨sf, hsf, e5⟩ := menu_at (ss := ["", " ", "\n", "\n  ", " # the end"]) j50 j51
    have gsf : endB false (codes sf) = true ∧ (codes sf).length ≤ 100 ∧ headOk (codes sf) = true := by
      have z : ∀ s ∈ ["", " ", "\n", "\n  ", " # the end"], endB false (codes s) = true ∧ (codes s).length ≤ 100 ∧ headOk (codes s) = true := by decide +kernel
      exact z sf hsf
    refine ⟨p5, _, _, _, rfl, rfl, SqL.of hp5, e5, _, _, rfl, rfl, ?_, ?_⟩
    · show t.length + (codes sf).length ≤ sizeLine
      exact small_len (by omega)
    rw [Tx_app]
    have hend := lex_end (endB_ok false (codes sf) gsf.1 (adv t 1 1).1 (adv t 1 1).2)
    have hlex : lex (t ++ codes sf) 1 1 = (ts ++ [⟨.fin, [], (adv (t ++ codes sf) 1 1).1, (adv (t ++ codes sf) 1 1).2⟩], none) := by
      rw [hPre (codes sf) (.inr gsf.2.2), hend, adv_append]
    -- row, column = _law_place(text); due.append(("end", "", row, column))
    refine ⟨_, rfl, t ++ codes sf, rfl, by rw [List.length_append]; omega, fun q6 H6 s6 nq6 hq6 => ?_⟩
    refine ⟨q6, _, rfl, SqT.of hq6, rfl, _, _, rfl, _, _, rfl, rfl, ?_⟩
    have T6 := T5.same s6
    obtain ⟨xs0, hu0, hxl0, _⟩ := id T6
    refine ⟨_, rfl, .inl ⟨rfl, _, SqL.of hu0⟩, _, rfl, _, rfl, (by show 4 ≤ sizeLine; decide), fun q7 nq7 => ?_⟩
    have e7 : ([V.str ("end" : Str), V.str ("" : Str), V.int (adv (t ++ codes sf) 1 1).1, V.int (adv (t ++ codes sf) 1 1).2] : List V) = tkV ⟨.fin, [], (adv (t ++ codes sf) 1 1).1, (adv (t ++ codes sf) 1 1).2⟩ := by
      show _ = [V.str ("end" : Str), V.str (Tx []), _, _]
      rw [show ("" : Str) = Tx [] by decide +kernel]
    have T7 : TksAt (upd H6 q7 (.tup [V.str ("end" : Str), V.str ("" : Str), V.int (adv (t ++ codes sf) 1 1).1, V.int (adv (t ++ codes sf) 1 1).2])) u ts := T6.same (same_upd nq7)
    obtain ⟨xs, hu, hxl, T8⟩ := T7.snoc (t := ⟨.fin, [], (adv (t ++ codes sf) 1 1).1, (adv (t ++ codes sf) 1 1).2⟩) (by rw [upd_same, e7])
    refine ⟨u, xs, _, rfl, rfl, hu, (by rw [hxl]; exact Nat.lt_of_le_of_lt (show ts.length ≤ 1000 by omega) (by decide)), ?_⟩
    -- actual = tokens(text)
    refine ⟨_, rfl, t ++ codes sf, rfl, by rw [List.length_append]; omega, fun ts9 p9 H9 e9 np9 s9 T9 => ?_, fun ts9 er r9 c9 H9 e9 _ => by rw [hlex] at e9; cases e9⟩
    have ets : ts9 = ts ++ [⟨.fin, [], (adv (t ++ codes sf) 1 1).1, (adv (t ++ codes sf) 1 1).2⟩] := by
      rw [hlex] at e9
      exact (congrArg Prod.fst e9).symm
    have T10 := T8.same s9
    have hok2 : ∀ x ∈ ts9, okTk x = true := fun x hx => by
      rw [ets] at hx
      rcases List.mem_append.mp hx with hx | hx
      · exact hok x hx
      · rw [List.mem_singleton.mp hx]
        exact (by decide +kernel : PyData.strOk (Tx []) = true)
    rw [← ets] at T10
    obtain ⟨qs9, hp9, _, _⟩ := id T9
    have hsh := shaped_tks hok2
    -- isinstance(actual, list), actual != due
    refine ⟨_, rfl, _, _, .type "list", .type "list", true, rfl, .ty "list", .base (.lst hp9), kit_ty (by decide +kernel), _, rfl, ?_⟩
    refine iteF ?_
    refine ⟨_, rfl, _, rfl, _, _, T9.dp, T10.dp, hsh, hsh, _, rfl, ?_⟩
    rw [SeqAt.eqv_refl _ (SeqAt.canLay_of_shaped hsh)]
    refine iteF ?_
    -- KEYWORDS == tuple(_law_keywords()) and tokens("") == [("end", "", 1, 1)]
    refine ⟨rfl, fun p11 H11 s11 np11 hp11 => ?_⟩
    refine ⟨p11, _, rfl, .inl ⟨SqL.of hp11, fun p12 np12 => ?_⟩⟩
    refine ⟨_, _, .tup (hK _) (dp_strs kwL), .tup (SqT.of upd_same) (by rw [kwS_eq]; exact dp_strs kwL), kw_shaped, kw_shaped, _, rfl, ?_⟩
    rw [SeqAt.eqv_refl _ (SeqAt.canLay_of_shaped kw_shaped)]
    refine iteT ?_
    have l0 : lex [] 1 1 = ([⟨.fin, [], 1, 1⟩], none) := lex_end rfl
    refine ⟨[], congrArg (fun s => [V.str s]) (by decide +kernel), by decide, fun ts13 p13 H13 e13 np13 s13 T13 => ?_, fun ts13 er r9 c9 H13 e13 _ => by rw [l0] at e13; cases e13⟩
    have ets13 : ts13 = [⟨.fin, [], 1, 1⟩] := by
      rw [l0] at e13
      exact (congrArg Prod.fst e13).symm
    subst ets13
    refine ⟨(by show 4 ≤ sizeLine; decide), fun p14 np14 => ⟨(by show 1 ≤ sizeLine; decide), fun p15 np15 => ?_⟩⟩
    have n145 : p14 ≠ p15 := fun z => by rw [← z, upd_same] at np15; cases np15
    have e14 : ([V.str ("end" : Str), V.str ("" : Str), V.int 1, V.int 1] : List V) = tkV ⟨.fin, [], 1, 1⟩ := by
      show _ = [V.str ("end" : Str), V.str (Tx []), _, _]
      rw [show ("" : Str) = Tx [] by decide +kernel]
    have T15 := (T13.same (same_upd (o := .tup [V.str ("end" : Str), V.str ("" : Str), V.int 1, V.int 1]) np14)).same (same_upd (o := .lst [V.ref p14]) np15)
    have T16 : TksAt (upd (upd H13 p14 (.tup [V.str ("end" : Str), V.str ("" : Str), V.int 1, V.int 1])) p15 (.lst [V.ref p14])) p15 [⟨.fin, [], 1, 1⟩] := by
      refine ⟨[p14], upd_same, rfl, fun k q t e1 e2 => ?_⟩
      cases k with
      | zero =>
        cases e1
        cases e2
        rw [upd_ne n145, upd_same, e14]
      | succ k => simp at e1
    have sh16 : SeqAt.shaped (.list ([(⟨.fin, [], 1, 1⟩ : Tk)].map tkD)) = true := by decide +kernel
    refine ⟨_, _, T15.dp, T16.dp, sh16, sh16, ?_⟩
    rw [SeqAt.eqv_refl _ (SeqAt.canLay_of_shaped sh16)]
    exact q _
end
end Rm

/-! E1: an own error whose class chain ends in ValueError and whose __init__ tells row and column by super().__init__(f'..'). -/
namespace Rm
open PySem PySem.W PySem.Calls PyProof.Rows PySem.HandSPX
/-! ### the text of __init__ -/
def teA (p1 p2 p3 : Pos) : Arguments := { posonlyargs := [], args := [{ arg := "self", annotation := none, pos := p1 }, { arg := "row", annotation := none, pos := p2 }, { arg := "column", annotation := none, pos := p3 }], vararg := none, kwonlyargs := [], kw_defaults := [], kwarg := none, defaults := [] }
def teB (a1 a2 a3 b1 b2 b3 c1 c2 d1 d2 e1 e2 f1 f2 f3 f4 g1 g2 g3 g4 : Pos) (k1 k2 : Nat) : List Stmt :=
  [.Expr (.Call (.Attribute (.Call (.Name "super" a1) [] [] a2) "__init__" a3) [.JoinedStr [.Constant (.str "row ") k1 b1, .FormattedValue (.Name "row" c1) (-1) none c2, .Constant (.str ", column ") k2 b2, .FormattedValue (.Name "column" d1) (-1) none d2] b3] [] e1) e2,
   .Assign [.Attribute (.Name "self" f1) "row" f2] (.Name "row" f3) f4, .Assign [.Attribute (.Name "self" g1) "column" g2] (.Name "column" g3) g4]
def teS : Scope := { kind := .function, names := [(PySem.Str.ofString "self", .local), (PySem.Str.ofString "row", .local), (PySem.Str.ofString "column", .local), (PySem.Str.ofString "__class__", .free), (PySem.Str.ofString "super", .globalImplicit)], isGenerator := false, isCoroutine := false, more := [] }
/-- what the written part tells of the class at C, whose __init__, at fI, is written in the class at D -/
structure ErrK (P : Program) (K : Frag) (C : Addr) : Prop where
  oex : L2.OexC K C
  nr : findIn K (.ref C) "row" = some none
  nc : findIn K (.ref C) "column" = some none
  vE : subIn K (.ref C) (.type "ValueError") = some true
  sup : nsIn K mainGlobals "super" = some none
  tp : nsIn K cStatics "thirdparty.any" = some none
  top : (P.main.scope.names.lookup ("super" : Str)).isSome = false
  fn : ∃ (D cc cda fI : Addr) (oc ocd oce : Value) (od odd ode : Option Addr) (osl osd ose : Array (Option Value)) (cdD : ClassData) (vs : Array Value) (file : Str) (tf : Tok) (dV kV doc pm ct : Value) (an : Option Addr)
    (p1 p2 p3 a1 a2 a3 b1 b2 b3 c1 c2 d1 d2 e1 e2 f1 f2 f3 f4 g1 g2 g3 g4 : Pos) (k1 k2 : Nat),
    (a3.endLine == e1.line) = true ∧ findIn K (.ref C) "__init__" = some (some (.ref fI)) ∧ typeIn K (.ref fI) = some (.type "function") ∧
    K.lookup fI = some ⟨oc, od, .func (ksFn "__init__" "TextError.__init__" (teA p1 p2 p3) (teB a1 a2 a3 b1 b2 b3 c1 c2 d1 d2 e1 e2 f1 f2 f3 f4 g1 g2 g3 g4 k1 k2) teS .none kV doc pm an (.ref cda) ct cc), osl⟩ ∧ codeIn K (.ref cda) "TextError.__init__" = true ∧
    K.lookup cda = some ⟨ocd, odd, .fields vs, osd⟩ ∧ vs[2]? = some (.str file tf) ∧ ((P.main.file : Str) == file) = true ∧
    K.lookup cc = some ⟨oce, ode, .cell (some (.ref D)), ose⟩ ∧ clsIn K D = some cdD ∧ mroIn K C (.ref D) = some true ∧ ks_superIn K C D "__init__" = some (some (.builtin "ValueError.__init__"))
section
variable {prog : Program} {w : World} {A : Around} {E : Value → Shared → Prop} {R : Result → Shared → Prop} {h : Heap} {g : Array GenState} {d : Drawn} {t : Nat} {os : OsState} {K : Frag} {C : Addr}
/-- ValueError.__init__, bound, called -/
theorem bound_called {nm q : Str} {N u x t0 : Addr} {bs bm : List Value} {hd : Bool} {sn : List Str} {sub : List Value} {ab : Bool} {col : Option Bool} {dd : Option Addr} {k0 k1 k2 k3 k5 : Option Value} {rest : List Value} {Q : Value → Shared → Prop}
    (cls : h.get? C = some (excClassObj nm q C N bs bm hd sn sub ab col dd k0 k1 k2 k3 k5 "ValueError.__new__")) (inst : h.get? x = some (excO C t0)) (mw : h.get? u = some (kxs_mw "ValueError.__init__" x)) (few : rest.length ≤ sizeLine)
    (goal : ∀ h' t1, (∀ b o, b ≠ x → h.get? b = some o → h'.get? b = some o) → h'.get? x = some (excO C t1) → Q .none ⟨h', g, d, t, os⟩) : wpAny (model prog w) A (call (.ref u) rest) Q E ⟨h, g, d, t, os⟩ := by
  apply wpAny_call
  apply codeAny_of_tree
  change wpAny _ A.in1 (callAny (.ref u) ⟨rest, []⟩) _ _ _
  rw [callAny]
  apply wpAny_bind
  apply wpAny_load mw
  have yes : (Value.type "method-wrapper" == Value.type "method" || Value.type "method-wrapper" == Value.type "builtin_function_or_method" || Value.type "method-wrapper" == Value.type "method-wrapper") = true := by decide
  simp only [kxs_mw, yes, if_true]
  apply KFB.if_so (by decide)
  refine wpAny_bind (check_bound_init F.excBase_ValueError.toExcCallFacts cls inst rfl (wpAny_bind (wpAny_pure (wpAny_pure ⟨plainId_quiet F.excBase_ValueError.init.plain _, codeAny_builtin F.excBase_ValueError.initEntry ?_⟩))))
  exact exc_init_tree (cls := .ref C) (t0 := t0) (dv := none) (c2 := .none) (c3 := .none) (b4 := .bool false) inst few fun h' keep at_ _ => goal h' _ keep at_
theorem three {x : Addr} {r c : Value} {y : Str × Value} (hy : y ∈ ([(("self" : Str), Value.ref x), ("row", r), ("column", c)] : List (Str × Value))) : teS.names.lookup y.1 = some .local := by
  rcases List.mem_cons.mp hy with rfl | hy
  · show teS.names.lookup ("self" : Str) = _
    decide +kernel
  rcases List.mem_cons.mp hy with rfl | hy
  · show teS.names.lookup ("row" : Str) = _
    decide +kernel
  rcases List.mem_cons.mp hy with rfl | hy
  · show teS.names.lookup ("column" : Str) = _
    decide +kernel
  · cases hy
theorem meth_line {o : Expr} {name : Str} {apos pos : Pos} {args : List Expr} {env : Env} (ln : (apos.endLine == pos.line) = true) (few : methodCallForm (args.length + 0) (backTo pos (starEach args env)) [] = true) :
    eval (.Call (.Attribute o name apos) args [] pos) env = (do
      let ov ← attributeBase o name env (eval o env)
      standAt apos.atName
      let (f, first) ← holding [ov] (getMethod ov name (L2.plainOf o env))
      callWith pos f first (backTo pos (starEach args env)) []) := by
  have e : ∀ ov, methodCall o name apos pos env ov (args.length + 0) (backTo pos (starEach args env)) [] = (do
      let (f, first) ← holding [ov] (getMethod ov name (L2.plainOf o env))
      callWith pos f first (backTo pos (starEach args env)) []) := fun ov => L2.mcall_line few ln
  rw [arm_eval_Call]
  show (attributeBase o name env (eval o env) >>= fun ov => standAt apos.atName >>= fun _ => methodCall o name apos pos env ov (args.length + 0) (backTo pos (starEach args env)) []) = _
  rw [show (fun ov => standAt apos.atName >>= fun _ => methodCall o name apos pos env ov (args.length + 0) (backTo pos (starEach args env)) []) = fun ov => standAt apos.atName >>= fun _ => (do
      let (f, first) ← holding [ov] (getMethod ov name (L2.plainOf o env))
      callWith pos f first (backTo pos (starEach args env)) []) from funext fun ov => by rw [e ov]]
/-- the parts of the told text are short -/
theorem place_text {r : Int} (hr : r.natAbs.log2 < 1920) : (PySem.Str.ofString (toString r)).length ≤ 1921 := by
  have e := int_text_length_le (k := 1920) (by decide) hr
  rw [PySem.ofString_length]
  omega
/-- what __init__ leaves -/
structure ErrLeft (h h' : Heap) (x C dx t1 : Addr) (r c : Value) : Prop where
  keep : ∀ b o, b ≠ x → h.get? b = some o → h'.get? b = some o
  obj : h'.get? x = some { cls := .ref C, dict := some dx, data := .fields #[.ref t1, .none, .none, .none, .bool false, .none] }
  big : h.objs.size ≤ dx
  ne : dx ≠ x
  ns : h'.Ns1 dx (fun y => if y = "column" then some c else if y = "row" then some r else none)
theorem err_init {mg mb : Str → Option Value} {x t0 : Addr} {r c : Int} {tr tc : Tok} (T : ErrK prog K C) (X : K.In h) (G : h.Ns mainGlobals mg) (B : h.Ns builtinsNs mb) (bb : ∀ x : Str, x ≠ "__name__" → mb x = bootBuiltins x)
    (lim : h.NoLimit) (hx : h.get? x = some (excO C t0)) (nx : K.lookup x = none) (room : A.depth < recursionLimit) (hr : r.natAbs.log2 < 1920) (hc : c.natAbs.log2 < 1920) {fI : Addr} (iI : findIn K (.ref C) "__init__" = some (some (.ref fI)))
    (goal : ∀ h' tk dx t1, ErrLeft h h' x C dx t1 (.int r tr) (.int c tc) → R (.ok (.ret .none)) ⟨h', g, d, tk, os⟩) :
    codeAny (model prog w) A (.call (.ref fI) ⟨[.ref x, .int r tr, .int c tc], []⟩) R ⟨h, g, d, t, os⟩ := by
  obtain ⟨D, cc, cda, fI', oc, ocd, oce, od, odd, ode, osl, osd, ose, cdD, vs, file, tf, dV, kV, doc, pm, ct, an, p1, p2, p3, a1, a2, a3, b1, b2, b3, c1, c2, d1, d2, e1, e2, f1, f2, f3, f4, g1, g2, g3, g4, k1, k2, ln, iI', tI, lF, cF, lcd, hvs, hfile, lcc, lD, mD, sI⟩ := T.fn
  have same : fI' = fI := by
    rw [iI] at iI'
    cases iI'
    rfl
  subst same
  obtain ⟨nm, q, N, bs, bm, sn, sub, ab, col, dd, k0, k1', k2', k3, k5, hC, hbm⟩ := T.oex.cls
  have hcl : clsIn K C = some { name := nm, bases := bs, mro := .ref C :: bm, ns := N, qualname := q, hasDict := true, slotNames := sn, subclasses := sub, abstract := ab, collection := col, hasDel := false } := by
    unfold clsIn
    rw [hC] <;> rfl
  refine ks_codeAny_call_defAt (binds := [("self", .ref x), ("row", .int r tr), ("column", .int c tc)]) room (X _ _ lF) rfl lim (codeRec_of X cF) rfl (BindsTo.of_eq (by first | rfl | with_unfolding_all rfl)) (show ∀ y ∈ teS.names, y.2 ≠ .cell by decide +kernel) (show ∀ y ∈ ([(("self" : Str), Value.ref x), ("row", .int r tr), ("column", .int c tc)] : List (Str × Value)), teS.names.lookup y.1 = some .local from fun y hy => three hy) (fun h0 ns0 keep0 => ?_)
  have X0 : K.In h0 := X.keeps keep0
  have hx0 := keep0 _ _ hx
  -- super()
  refine ks_wpAt_execs_cons (ks_wpAt_Expr_any (ks_wpAt_MethodCall (pl := L2.plainOf (.Call (.Name "super" a1) [] [] a2) (ksEnv "TextError.__init__" teS h.objs.size fI' (.ref cda) cc)) ?_ (meth_line ln rfl)))
  have lookN : ∀ y : Str, (fun y => ([("self", Value.ref x), ("row", .int r tr), ("column", .int c tc)] : List (Str × Value)).reverse.lookup y) y = ([("self", Value.ref x), ("row", .int r tr), ("column", .int c tc)] : List (Str × Value)).reverse.lookup y := fun _ => rfl
  obtain ⟨oD, hD1, hD2⟩ : ∃ oD, h0.get? D = some oD ∧ oD.data = .cls cdD := by
    unfold clsIn at lD
    split at lD
    · rename_i cls0 dct0 cd0 sl0 ho
      cases lD
      exact ⟨_, X0 _ _ ho, rfl⟩
    · cases lD
  refine ks_wpAt_super_base (by rfl) (by rfl) (by decide) rfl (X0 _ _ lF) rfl rfl rfl (X0 _ _ lcd) rfl hvs hfile T.top ?_
  refine ks_loadName_global rfl rfl (loadGlobal_builtin (mg := mg) (mb := mb) (v := .type "super") (G.keeps keep0) (mg_none_of X G T.sup) (B.keeps keep0) ((bb _ (by decide +kernel)).trans (by first | rfl | kernel_rfl)) ⟨rfl, ?_⟩)
  refine wpAny_loadName_free (v := .ref D) rfl rfl rfl ⟨_, X0 _ _ lcc, rfl⟩ ?_
  refine wpAny_loadName_local (v := .ref x) rfl rfl ns0 (by first | rfl | kernel_rfl) ?_
  refine ks_wpAny_isType_cls hD1 hD2 ⟨rfl, ?_⟩
  refine ks_wpAny_call_super hD1 hD2 hx0 rfl (fun _ z => by cases z) (looks_mroIn X0 mD) (fun h1 so1 keep1 => ?_)
  have X1 : K.In h1 := X0.keeps keep1
  have hx1 := keep1 _ _ hx0
  have I1 : InstAt h1 x (excO C t0) C none := ⟨hx1, rfl, rfl, trivial⟩
  have along : alongIn K "__init__" (((Value.ref C :: bm).dropWhile (· != .ref D)).drop 1) = some (some (.builtin "ValueError.__init__")) := by
    unfold ks_superIn at sI
    rw [hcl] at sI
    exact sI
  refine kxs_getMethod kxs_ValueError so1 (looks_opaque X1 T.tp) ((looks_clsIn X1 hcl).andThen .now) rfl X1 along (I1.type.andThen (looks_subIn X1 T.vE)) (ks_ne X1 I1 hcl) (by decide) ?_
  have keep2 : ∀ b o, h1.get? b = some o → (h1.push (kxs_mw "ValueError.__init__" x)).get? b = some o := fun b o e => Heap.get?_push_of_some _ e
  have mw2 : (h1.push (kxs_mw "ValueError.__init__" x)).get? h1.objs.size = some (kxs_mw "ValueError.__init__" x) := Heap.get?_push_at rfl rfl
  have ns2 : (h1.push (kxs_mw "ValueError.__init__" x)).Ns h.objs.size (fun y => ([("self", Value.ref x), ("row", .int r tr), ("column", .int c tc)] : List (Str × Value)).reverse.lookup y) := ns0.at fun o e => keep2 _ _ (keep1 _ _ e)
  generalize hh2 : h1.push (kxs_mw "ValueError.__init__" x) = h2 at keep2 mw2 ns2
  have all2 : ∀ b o, h.get? b = some o → h2.get? b = some o := fun b o e => keep2 _ _ (keep1 _ _ (keep0 _ _ e))
  -- the told text
  refine kxs_callWith (i := "ValueError.__init__") (x := x) rfl ?_
  refine evalArgs_plain (x := eval (.JoinedStr [.Constant (.str "row ") k1 b1, .FormattedValue (.Name "row" c1) (-1) none c2, .Constant (.str ", column ") k2 b2, .FormattedValue (.Name "column" d1) (-1) none d2] b3) (ksEnv "TextError.__init__" teS h.objs.size fI' (.ref cda) cc)) (spliced_cons ?_)
  refine wpAny_JoinedStr ?_
  refine wpAny_Constant_str ⟨_, _, rfl, by decide, ?_⟩
  have z0 : (Str.empty ++ ("row " : Str)).length = 4 := by decide
  have z1 : ((", column " : Str)).length = 9 := by decide
  have tr1 := place_text hr
  have tc1 := place_text hc
  have fit1 : ((Str.empty ++ ("row " : Str)) ++ Str.ofString (toString r)).length ≤ sizeLine := by
    rw [strLen_append, sizeLine_eq]
    omega
  have fit2 : (((Str.empty ++ ("row " : Str)) ++ Str.ofString (toString r)) ++ (", column " : Str)).length ≤ sizeLine := by
    rw [strLen_append, strLen_append, sizeLine_eq]
    omega
  have fit3 : ((((Str.empty ++ ("row " : Str)) ++ Str.ofString (toString r)) ++ (", column " : Str)) ++ Str.ofString (toString c)).length ≤ sizeLine := by
    rw [strLen_append, strLen_append, strLen_append, sizeLine_eq]
    omega
  refine wpAny_FormattedValue_plain (wpAny_Name (wpAny_loadName_local (v := .int r tr) rfl rfl ns2 (by first | rfl | kernel_rfl) ?_))
  refine wpAny_formatField_int hr ⟨_, _, rfl, fit1, ?_⟩
  refine wpAny_Constant_str ⟨_, _, rfl, fit2, ?_⟩
  refine wpAny_FormattedValue_plain (wpAny_Name (wpAny_loadName_local (v := .int c tc) rfl rfl ns2 (by first | rfl | kernel_rfl) ?_))
  refine wpAny_formatField_int hc ⟨_, _, rfl, fit3, fit3, ?_⟩
  refine spliced_nil ⟨mw2, ?_⟩
  refine bound_called (X.keeps all2 _ _ hC) (keep2 _ _ hx1) mw2 (by show 1 ≤ sizeLine; decide) fun h3 t3 keep3 hx3 => ?_
  have Lx : h.objs.size ≠ x := Nat.ne_of_gt (Heap.lt_size hx)
  have ns3 := ns2.at fun o e => keep3 _ _ Lx e
  have X2 : K.In h2 := X.keeps all2
  have X3 : K.In h3 := fun b o e => keep3 b o (fun z => by rw [z, nx] at e; cases e) (X2 b o e)
  -- self.row = row
  refine wpAt_of_wpAny (wpAny_execs_cons (plainObj_wpAny_Assign_Attribute ?_))
  refine wpAny_Name (wpAny_loadName_local (v := .int r tr) rfl rfl ns3 (by first | rfl | kernel_rfl) ?_)
  refine wpAny_Name (wpAny_loadName_local (v := .ref x) rfl rfl ns3 (by first | rfl | kernel_rfl) ?_)
  refine set_plain X3 (ox := excO C t3) (od := none) ⟨hx3, rfl, rfl, trivial⟩ T.oex.sa ?_
  refine exc_osa X3 hx3 hcl (show refsVE (.ref C :: bm) = true from hbm) rfl T.nr fun h4 tk4 dx keep4 big4 ne4 hx4 own4 => ?_
  have ns4 := ns3.at fun o e => keep4 _ _ Lx e
  have X4 : K.In h4 := fun b o e => keep4 b o (fun z => by rw [z, nx] at e; cases e) (X3 b o e)
  -- self.column = column
  refine wpAny_execs_cons (plainObj_wpAny_Assign_Attribute ?_)
  refine wpAny_Name (wpAny_loadName_local (v := .int c tc) rfl rfl ns4 (by first | rfl | kernel_rfl) ?_)
  refine wpAny_Name (wpAny_loadName_local (v := .ref x) rfl rfl ns4 (by first | rfl | kernel_rfl) ?_)
  obtain ⟨oD4, _, _, hoD4, _⟩ := id own4
  refine set_plain X4 (od := some oD4) ⟨hx4, rfl, rfl, hoD4⟩ T.oex.sa ?_
  have within4 : PySem.Within (fun y => if y = ("row" : Str) then some (Value.int r tr) else none) ["row"] := fun y hy => by
    by_cases e : y = "row"
    · rw [e]
      exact List.mem_cons_self
    · exact absurd (if_neg e) hy
  refine PySem.OEX.osa_old X4 hx4 own4 within4 (by decide) hcl (show refsVE (.ref C :: bm) = true from hbm) rfl T.nc fun h5 tk5 keep5 own5 => ?_
  refine wpAny_execs_nil (goal h5 _ dx t3 ?_)
  have dxbig : h.objs.size ≤ dx := Nat.le_trans (Nat.le_of_lt ns3.lt) big4
  exact ⟨fun b o ne e => keep5 b o (fun z => by
      have q : b < h.objs.size := Heap.lt_size e
      rw [z] at q
      exact absurd dxbig (Nat.not_le_of_lt q)) (keep4 b o ne (keep3 b o ne (all2 b o e))), keep5 _ _ (Ne.symm ne4) hx4, dxbig, ne4, own5⟩
end
end Rm

/-! E2: such an error made, raised, its fields read, its class asked. -/
namespace Rm
open PySem PySem.W PySem.Calls PyProof.Rows PySem.HandSPX
section
variable {prog : Program} {w : World} {A : Around} {E : Value → Shared → Prop} {R : Result → Shared → Prop} {h : Heap} {g : Array GenState} {d : Drawn} {t : Nat} {os : OsState} {K : Frag} {C : Addr}
theorem err_made {mg mb : Str → Option Value} {r c : Int} {tr tc : Tok} (T : ErrK prog K C) (X : K.In h) (G : h.Ns mainGlobals mg) (B : h.Ns builtinsNs mb) (bb : ∀ x : Str, x ≠ "__name__" → mb x = bootBuiltins x)
    (lim : h.NoLimit) (room : A.depth + 1 < recursionLimit) (hr : r.natAbs.log2 < 1920) (hc : c.natAbs.log2 < 1920)
    (goal : ∀ h' tk e dx t1, (∀ b o, h.get? b = some o → h'.get? b = some o) → h.objs.size ≤ e → h'.get? e = some { cls := .ref C, dict := some dx, data := .fields #[.ref t1, .none, .none, .none, .bool false, .none] } → h.objs.size ≤ dx → dx ≠ e →
      h'.Ns1 dx (fun y => if y = "column" then some (.int c tc) else if y = "row" then some (.int r tr) else none) → R (.ok (.ret (.ref e))) ⟨h', g, d, tk, os⟩) :
    codeAny (model prog w) A (.call (.ref C) ⟨[.int r tr, .int c tc], []⟩) R ⟨h, g, d, t, os⟩ := by
  obtain ⟨nm, q, N, bs, bm, sn, sub, ab, col, dd, k0, k1, k2, k3, k5, hC, hbm⟩ := T.oex.cls
  obtain ⟨D, cc, cda, fI, oc, ocd, oce, od, odd, ode, osl, osd, ose, cdD, vs, file, tf, dV, kV, doc, pm, ct, an, p1, p2, p3, a1, a2, a3, b1, b2, b3, c1, c2, d1, d2, e1, e2, f1, f2, f3, f4, g1, g2, g3, g4, k1', k2', ln, iI, tI, rest⟩ := T.fn
  clear rest
  have up : ∀ b o, h.get? b = some o → ((h.push (kdv_tup [.int r tr, .int c tc])).push (excO C h.objs.size)).get? b = some o := fun b o e => Heap.get?_push_of_some _ (Heap.get?_push_of_some _ e)
  have there : ((h.push (kdv_tup [.int r tr, .int c tc])).push (excO C h.objs.size)).get? (h.objs.size + 1) = some (excO C h.objs.size) := by heap_get
  have free : K.lookup (h.objs.size + 1) = none := by
    cases e : K.lookup (h.objs.size + 1) with
    | none => rfl
    | some o =>
      exact absurd (Nat.lt_of_succ_lt (show h.objs.size + 1 < h.objs.size from Heap.lt_size (X _ _ e))) (Nat.lt_irrefl _)
  refine call_own F.excBase_ValueError (fun Y => refsVE_contains Y bm hbm) (X _ _ hC) (looks_findIn X iI) (fun self => bind_fn X self tI) (by show 2 ≤ sizeLine; decide) ?_
  refine err_init T (X.keeps up) (G.keeps up) (B.keeps up) bb (lim.keeps up) there free ?_ hr hc iI fun h' tk dx t1 L => ?_
  · show A.depth + 1 < recursionLimit
    exact room
  · have old : ∀ b o, h.get? b = some o → h'.get? b = some o := fun b o e => L.keep b o (Nat.ne_of_lt (Nat.lt_succ_of_lt (Heap.lt_size e))) (up b o e)
    have big := L.big
    rw [Heap.size_push, Heap.size_push] at big
    exact ⟨rfl, goal h' tk (h.objs.size + 1) dx t1 old (Nat.le_succ _) L.obj (by omega) L.ne L.ns⟩
end
end Rm
namespace Rm
open PySem PySem.Spec PyProof.Rows L2
/-- an error's fields -/
def exF (r c : Int) : List (Str × V) := [("column", .int c), ("row", .int r)]
theorem exF_rel {r c : Int} {tr tc : Tok} (f : Str) : RelO ((exF r c).lookup f) (if f = "column" then some (Value.int c tc) else if f = "row" then some (Value.int r tr) else none) := by
  unfold exF
  by_cases e : f = "column"
  · subst e
    rw [if_pos rfl, show List.lookup ("column" : Str) [(("column" : Str), V.int c), ("row", .int r)] = some (.int c) by simp [List.lookup]]
    exact ⟨_, rfl⟩
  · rw [if_neg e, lookup_put, if_neg e]
    by_cases e2 : f = "row"
    · subst e2
      rw [if_pos rfl, show List.lookup ("row" : Str) [(("row" : Str), V.int r)] = some (.int r) by simp [List.lookup]]
      exact ⟨_, rfl⟩
    · rw [if_neg e2, lookup_put, if_neg e2]
      exact True.intro
section
variable {X : Cx} {C : Addr}
/-- C(row, column) -/
def tMkErr (C : Addr) (ta : TA) : L2.St → Hp → XK → Prop := fun σ H Q => ta σ H fun vs H1 => ∃ r c : Int, vs = [.int r, .int c] ∧ r.natAbs.log2 < 1920 ∧ c.natAbs.log2 < 1920 ∧ ∀ d, H1 d = none → Q (.ref C) (some d) (upd H1 d (.xd (exF r c)))
theorem pmk_err {n : Str} {es : List Expr} {e0 : Expr} {ta : TA} {p pos : Pos} {k : Nat} (T : ErrK X.prog X.K C) (hr : Room k X.A) (hm : X.mg n = some (.ref C)) (ha : PA X (e0 :: es) ta) (hg : Gl X n := by rfl) (hdb : (n == ("__debug__" : Str)) = false := by decide)
    (he : starEach (e0 :: es) X.env = (false, eval e0 X.env) :: starEach es X.env := by rfl) (hpl : (backTo pos (starEach es X.env)).any (·.1) = false := by rfl) :
    PMk X (.Call (.Name n p) (e0 :: es) [] pos) (tMkErr C ta) := by
  intro pins s σ H Q I h
  refine wpAny_Call_Name_kw (ld_glob I hg hm ?_ hdb)
  refine PySem.W.callWith_K (h₀ := X.base) I.ok.mod.kin T.oex.kC (thn (ha.run pos pins s σ H _ I h) fun us s1 hh => ?_) he hpl
  obtain ⟨vs, H1, I1, r1, r, c, ev, hlr, hlc, q1⟩ := hh
  subst ev
  refine ⟨I1.kIn, ?_⟩
  cases r1 with
  | cons rr rest =>
    cases rest with
    | cons rc rest =>
      cases rest
      obtain ⟨tr, rfl⟩ := rr
      obtain ⟨tc, rfl⟩ := rc
      show wpAny _ _ (call (.ref C) [.int r tr, .int c tc]) _ _ _
      have lim := I1.nolimit
      have e0' := I1.env0
      obtain ⟨mb, hb, hbb⟩ := e0'.mod.blt
      have kb : ∀ b o, X.base.get? b = some o → s1.heap.get? b = some o := fun b o e => (e0'.bs b o e).1
      have G1 := e0'.mod.glob.keeps kb
      have B1 := hb.keeps kb
      obtain ⟨hp, g, dr, tk, os⟩ := s1
      refine wpAny_call (err_made T I1.kIn G1 B1 hbb lim (by have := hr.dp; omega) hlr hlc fun h' tk' e d t1 old eb hoe db dne hns => ?_)
      show MkP X pins σ Q (.ref e) ⟨h', g, dr, tk', os⟩
      obtain ⟨G', gs, gn⟩ := restrict h' fun b => decide (b ≠ e)
      have gk : ∀ b, b ≠ e → G'.get? b = h'.get? b := fun b hb => gs b (decide_eq_true hb)
      have ge : G'.get? e = none := gn e (by simp)
      have keep : ∀ b o, hp.get? b = some o → G'.get? b = some o := fun b o q => (gk b (Nat.ne_of_lt (Nat.lt_of_lt_of_le (Heap.lt_size q) eb))).trans (old b o q)
      have dict : ObjOk X.prog X.w (upd H1 d (.xd (exF r c))) G' d (.xd (exF r c)) := ⟨_, hns.at (fun o q => (gk d dne).trans q), exF_rel⟩
      have J : Inv X pins σ (upd H1 d (.xd (exF r c))) ⟨G', g, dr, tk', os⟩ := I1.laid (t' := tk') keep db dict
      refine ⟨e, _, _, ⟨G', g, dr, tk', os⟩, _, .ref C, some d, rfl, J, fun b o q => ?_, ge, hoe, ⟨rfl, rfl⟩, rfl, rfl, ?_, rfl, I1.bare, raises_own T.oex.exC T.oex.tyC, q1 d (I1.hok.fresh db)⟩
      · by_cases hb : b = e
        · rw [hb] at q
          exact absurd (ge.symm.trans q) (by simp)
        · exact (gk b hb).symm.trans q
      · rw [upd_ne (Ne.symm dne)]
        exact I1.hok.fresh eb
/-- raise C(row, column) -/
def tRaiseErr (C : Addr) (W : WX) (ta : TA) : TS := fun _ σ H => tMkErr C ta σ H fun cls d H' => W cls d σ H'
theorem ps_err {n : Str} {es : List Expr} {e0 : Expr} {ta : TA} {W : WX} {p pos pos2 : Pos} {k : Nat} (hc : X.calm = true) (T : ErrK X.prog X.K C) (hr : Room k X.A) (tk : Takes X W) (hm : X.mg n = some (.ref C)) (ha : PA X (e0 :: es) ta) (hg : Gl X n := by rfl)
    (hdb : (n == ("__debug__" : Str)) = false := by decide) (he : starEach (e0 :: es) X.env = (false, eval e0 X.env) :: starEach es X.env := by rfl) (hpl : (backTo pos (starEach es X.env)).any (·.1) = false := by rfl) :
    PS X (.Raise (some (.Call (.Name n p) (e0 :: es) [] pos)) none pos2) (tRaiseErr C W ta) := ps_raise hc tk (pmk_err T hr hm ha hg hdb he hpl)
/-! ### its class asked: isinstance(e, ..) in the suite -/
theorem inst_at {C a : Addr} {d : Option Addr} {oe : Obj} {h : Heap} (hz : Zc (.ref C) d oe) (hf : ∃ vs, oe.data = .fields vs) (ha : h.get? a = some oe) (hd : ∀ x, d = some x → ∃ o, h.get? x = some o) : ∃ od, PySem.W.InstAt h a oe C od := by
  obtain ⟨oc, odc, odt, osl⟩ := oe
  obtain ⟨vs, hv⟩ := hf
  obtain ⟨z1, z2⟩ := hz
  dsimp only at z1 z2 hv
  subst z1 z2 hv
  cases odc with
  | none => exact ⟨none, ha, rfl, rfl, trivial⟩
  | some x =>
    obtain ⟨o, ho⟩ := hd x rfl
    exact ⟨some o, ha, rfl, rfl, ho⟩
/-- isinstance(e, c), e the error that the suite holds, c a class -/
def rIsX (K : PySem.W.Frag) (cls : Value) (d : Option Addr) (a : Addr) : List V → Hp → VK → Prop := fun xs H Q => ∃ (C : Addr) (c : V) (cv : Value) (b : Bool), cls = .ref C ∧ xs = [.ref a, c] ∧ ClsV c cv ∧ ExcC K C ∧ (∀ x, d = some x → ∃ fs, H x = some (.xd fs)) ∧ PySem.W.kitOne K (.ref C) cv = some b ∧ Q (.bl b) H
/-- isinstance(e, (c, ..)) -/
def rIsXT (K : PySem.W.Frag) (cls : Value) (d : Option Addr) (a : Addr) : List V → Hp → VK → Prop := fun xs H Q => ∃ (C tp : Addr) (cs : List V) (us : List Value) (b : Bool), cls = .ref C ∧ xs = [.ref a, .ref tp] ∧ H tp = some (.tup cs) ∧ Paired ClsV cs us ∧ ExcC K C ∧ (∀ x, d = some x → ∃ fs, H x = some (.xd fs)) ∧ PySem.W.kitAny K (.ref C) us = some b ∧ Q (.bl b) H
theorem call_isX {a : Addr} {oe : Obj} {cls : Value} {d : Option Addr} {pn : List (Addr × Obj)} (hz : Zc cls d oe) (hf : ∃ vs, oe.data = .fields vs) : CallR (X.suite a ((a, oe) :: pn)) (.builtin "isinstance") (rIsX X.K cls d a) := by
  intro pins s σ H xs us Q I r h
  obtain ⟨C, c, cv, b, rfl, rfl, k, T, hd, e, q⟩ := h
  obtain ⟨u1, u2, rfl, r1, r2⟩ := vals2 r
  have e2 := k.eq r2
  subst e2
  cases (show u1 = Value.ref a from r1)
  obtain ⟨at_, _⟩ := I.pin (a, oe) (List.mem_append.mpr (.inl List.mem_cons_self))
  obtain ⟨od, J⟩ := inst_at hz hf at_ fun x ex => by
    obtain ⟨fs, hx⟩ := hd x ex
    obtain ⟨mA, ⟨o, _, _, ho, _⟩, _⟩ := (show ObjOk X.prog X.w H s.heap x (.xd fs) from I.hok x _ hx)
    exact ⟨o, ho⟩
  have cl : (PySem.W.clsIn X.K C).isSome = true := by
    obtain ⟨cd, hc, _⟩ := PySem.W.any_some T.hd
    rw [hc]
    rfl
  exact PySem.W.kia_one (PySem.W.kitx_exc cl T.hg T.hk T.hs T.ha T.hn T.ht T.hm) I.kIn J e (fun z => nomatch z) fun tk => ⟨.bl b, H, I.kept (t' := tk) fun _ _ z => z, rfl, q⟩
theorem call_isXT {a : Addr} {oe : Obj} {cls : Value} {d : Option Addr} {pn : List (Addr × Obj)} (hz : Zc cls d oe) (hf : ∃ vs, oe.data = .fields vs) : CallR (X.suite a ((a, oe) :: pn)) (.builtin "isinstance") (rIsXT X.K cls d a) := by
  intro pins s σ H xs us Q I r h
  obtain ⟨C, tp, cs, ws, b, rfl, rfl, hT, k, T, hd, e, q⟩ := h
  obtain ⟨u1, u2, rfl, r1, r2⟩ := vals2 r
  cases (show u1 = Value.ref a from r1)
  cases (show u2 = Value.ref tp from r2)
  obtain ⟨at_, _⟩ := I.pin (a, oe) (List.mem_append.mpr (.inl List.mem_cons_self))
  obtain ⟨od, J⟩ := inst_at hz hf at_ fun x ex => by
    obtain ⟨fs, hx⟩ := hd x ex
    obtain ⟨mA, ⟨o, _, _, ho, _⟩, _⟩ := (show ObjOk X.prog X.w H s.heap x (.xd fs) from I.hok x _ hx)
    exact ⟨o, ho⟩
  obtain ⟨_, its, rv, o, t1, t2, n, t3⟩ := (show ObjOk X.prog X.w H s.heap tp (.tup cs) from I.hok tp _ hT)
  have e3 := ClsV.all k rv
  subst e3
  obtain ⟨oc, od', dt, sl⟩ := o
  simp only at t2 t3
  subst t2 t3
  have cl : (PySem.W.clsIn X.K C).isSome = true := by
    obtain ⟨cd, hc, _⟩ := PySem.W.any_some T.hd
    rw [hc]
    rfl
  exact PySem.W.kia_tup (PySem.W.kitx_exc cl T.hg T.hk T.hs T.ha T.hn T.ht T.hm) I.kIn J t1 e (fun z => nomatch z) fun tk => ⟨.bl b, H, I.kept (t' := tk) fun _ _ z => z, rfl, q⟩
end
end Rm

/-! E3: try with several clauses, each with a name. -/
namespace Rm
open PySem PySem.Spec PyProof.Rows L2
abbrev Sfn := Addr → Value → Option Addr → TS
/-- behind a suite the name is gone -/
def goneD (i : Nat) (D : Ends) : Ends := { nx := fun τ G => D.nx (τ.set i none) G, rt := D.rt, bk := fun τ G => D.bk (τ.set i none) G, ct := fun τ G => D.ct (τ.set i none) G }
/-- what the clauses 'except c as n' (n's slot) wish of the body's error -/
def wishes (K : PySem.W.Frag) (out : WX) (D : Ends) : List (Value × Nat × Sfn) → WX
  | [] => out
  | (c, i, f) :: more => fun cls d τ G => ∃ hit, PySem.W.exmOne K cls c = some hit ∧ (hit = true → ∀ a, G a = none → f a cls d (goneD i D) (τ.set i (some (.ref a))) G) ∧ (hit = false → wishes K out D more cls d τ G)
/-- the clauses -/
inductive Clauses (X : Cx) : List ExceptHandler → List (Value × Nat × Sfn) → Prop
  | nil : Clauses X [] []
  | cons {x n : Str} {c : Value} {i : Nat} {f : Sfn} {b0 : Stmt} {bs : List Stmt} {p1 p2 : Pos} {more : List ExceptHandler} {l : List (Value × Nat × Sfn)} (is : Names X x c) (slot : X.N[i]? = some n) (loc : X.env.kindOf n = some .local)
      (suite : ∀ (a : Addr) (oe : Obj) (cls : Value) (d : Option Addr) (pn : List (Addr × Obj)), Zc cls d oe → (∃ vs, oe.data = .fields vs) → PSs (X.suite a ((a, oe) :: pn)) (b0 :: bs) (f a cls d)) (rest : Clauses X more l) :
      Clauses X (.ExceptHandler (some (.Name x p1)) (some n) (b0 :: bs) p2 :: more) ((c, i, f) :: l)
/-- an error that has landed in its frame: at a, its class cls, its dict d; s1 what stands now, s0 what stood where it was raised -/
structure Landed (X : Cx) (pins : List (Addr × Obj)) (τ : L2.St) (G : Hp) (B : Heap) (a : Addr) (cls : Value) (d : Option Addr) (s0 s1 : Shared) : Prop where
  ok : X.Ok
  inv : Inv X pins τ G s0
  stack : X.stack = X.env :: X.outer
  frame : X.env.frame = some X.env.locals
  nb : ∀ b o, s0.heap.get? b = some o → b ∉ frs X.stack → B.get? b = some o
  up : s0.heap.UpToSlots s1.heap
  fly : HandSPX.FlyingZ B (X.env :: X.outer) a (Zc cls d) s1.heap
  na : G a = none
  os : s1.os = s0.os
  ag : AllBare s1.gens
section
variable {X : Cx} {pins : List (Addr × Obj)} {τ : L2.St} {G : Hp} {B : Heap} {a : Addr} {cls : Value} {d : Option Addr} {s0 s1 : Shared}
theorem Landed.now (L : Landed X pins τ G B a cls d s0 s1) : Inv X pins τ G s1 := L.inv.landed L.nb L.fly.1 L.up L.os L.ag
theorem Landed.next (L : Landed X pins τ G B a cls d s0 s1) {h : Heap} (fly : HandSPX.FlyingZ B (X.env :: X.outer) a (Zc cls d) h) (up : s1.heap.UpToSlots h) : Landed X pins τ G B a cls d s0 { s1 with heap := h } :=
  ⟨L.ok, L.inv, L.stack, L.frame, L.nb, L.up.trans up, fly, L.na, L.os, L.ag⟩
/-- it is no frame of those that run -/
theorem Landed.apart (L : Landed X pins τ G B a cls d s0 s1) : ∃ oe vs, s1.heap.get? a = some oe ∧ Zc cls d oe ∧ oe.data = .fields vs ∧ a ≠ X.env.locals ∧ a ∉ X.fs := by
  obtain ⟨oe, vs, e, z, dt⟩ := L.fly.there
  have away : a ∉ frs (X.env :: X.outer) := by
    intro mem
    obtain ⟨_, o2, e2, no⟩ := L.fly.2.2.1.mem mem
    rw [e] at e2
    cases e2
    exact no _ dt
  refine ⟨oe, vs, e, z, dt, ?_, ?_⟩
  · intro same
    refine away (List.mem_filterMap.mpr ⟨X.env, List.mem_cons_self, ?_⟩)
    rw [L.frame, same]
  · intro mem
    obtain ⟨en, m, q⟩ := List.mem_filterMap.mp mem
    exact away (List.mem_filterMap.mpr ⟨en, List.mem_cons_of_mem _ m, q⟩)
/-- no clause is left -/
theorem Landed.out {D : Ends} {W : WX} (L : Landed X pins τ G B a cls d s0 s1) (tk : Takes X W) (w : W cls d τ G) : wpAny (model X.prog X.w) X.A (handleBy (.ref a) X.env []) (SP X pins D) X.xe s1 := by
  have fl := L.fly
  obtain ⟨_, _, _, oe, vs, tb, ob, tt, e, z, dt, first_, _⟩ := id fl
  apply wpAny_handleBy_nil
  unfold PySem.passOn
  apply wpAny_bind
  apply wpAny_field e dt first_
  have no : ¬ ((Value.ref tb == Value.none) = true) := by simp
  rw [if_neg no]
  have last : wpAny (model X.prog X.w) X.A (setFlight (.ref a) X.env.frame) (fun _ s4 => wpAny (model X.prog X.w) X.A (throw (.ref a) : Sem Flow) (SP X pins D) X.xe s4) X.xe s1 := by
    rw [L.frame]
    apply HandSPX.setFlight_upZ fl
    intro h4 held up4
    apply wpAny_throw
    refine tk _ _ ⟨a, B, s0, pins, τ, G, cls, d, rfl, L.inv, L.nb, L.up.trans up4, .inr (.inr ?_), L.na, L.os, L.ag, w⟩
    rw [L.stack]
    exact held
  first
    | exact wpAny_bind (wpAny_pure (wpAny_bind last))
    | exact wpAny_bind last
/-- the class that the clause names -/
theorem Landed.named {x : Str} {c : Value} {p : Pos} (L : Landed X pins τ G B a cls d s0 s1) (is : Names X x c) {Q : Value → Shared → Prop} {E : Value → Shared → Prop} (q : Q c s1) :
    wpAny (model X.prog X.w) (X.A.mark (some (.ref a))) (eval (.Name x p) X.env) Q E s1 := by
  obtain ⟨oe, vs, e, z, dt, n1, n2⟩ := L.apart
  have S := L.now.suite e dt L.na n1 n2
  obtain ⟨g, dbg, own | ⟨none_, blt, nn⟩⟩ := is
  · exact ld_glob (X := X.suite a ((a, oe) :: (X.pn ++ pins))) S g own q dbg
  · exact ld_blt (X := X.suite a ((a, oe) :: (X.pn ++ pins))) S g none_ blt q nn dbg
theorem Landed.clauses {D : Ends} {W : WX} (tk : Takes X W) (nd : X.N.Nodup) : ∀ {hs : List ExceptHandler} {l : List (Value × Nat × Sfn)}, Clauses X hs l → ∀ {s1 : Shared}, Landed X pins τ G B a cls d s0 s1 → wishes X.K W D l cls d τ G →
    wpAny (model X.prog X.w) X.A (handleBy (.ref a) X.env hs) (SP X pins D) X.xe s1 := by
  intro hs l cl
  induction cl with
  | nil => exact fun L w => L.out tk w
  | @cons x n c i f b0 bs p1 p2 more l is slot loc suite rest ih =>
    intro s1 L w
    obtain ⟨hit, asked, yes, no⟩ := w
    obtain ⟨oe, vs, e, z, dt, n1, n2⟩ := L.apart
    apply wpAny_handleBy_cons
    · apply codeAny_handlers_test
      have typ : PySem.W.Looks (model X.prog X.w) s1.heap (typeOf (.ref a)) cls := fun _ _ _ _ keep q => wpAny_typeOf_ref (keep _ _ e) (by rw [z.1]; exact q)
      refine L.named is ((PySem.W.exm_one (M := model X.prog X.w) L.now.kIn typ asked).here ?_)
      cases hit with
      | false => exact ih L (no rfl)
      | true =>
        apply codeAny_handlers_suite_as
        apply HandSPX.lands_againZ L.fly
        intro h4 fly4 up4
        have L4 := L.next fly4 up4
        obtain ⟨oe4, vs4, e4, z4, dt4, m1, m2⟩ := L4.apart
        refine store_ok (X := X.suite a ((a, oe4) :: (X.pn ++ pins))) (v := .ref a) (L4.now.suite e4 dt4 L4.na m1 m2) nd slot (.inl loc) rfl (fun s5 I5 => ?_) (.inr loc)
        refine wpAny_mono ((suite a oe4 cls d (X.pn ++ pins) z4 ⟨_, dt4⟩).run [] s5 _ G _ I5 (yes rfl a L.na)) (fun fl s6 got => ?_) (fun _ _ never => never.elim)
        have close : ∀ {τ6 : L2.St} {G6 : Hp} {Z : Shared → Prop}, Inv (X.suite a ((a, oe4) :: (X.pn ++ pins))) [] τ6 G6 s6 → (∀ s7, Inv X pins (τ6.set i none) G6 s7 → Z s7) →
            wpAny (model X.prog X.w) X.A (do bindName X.env n .none; unbindBehindTheSuite X.env n p2) (fun _ s7 => Z s7) X.xe s6 := fun I6 z7 => gone_ok (I6.unsuite L.ok) nd slot loc z7
        cases fl with
        | ret u =>
          obtain ⟨v6, τ6, G6, I6, rv, q6⟩ := got
          exact close I6 fun s7 I7 => ⟨v6, _, G6, I7, rv, q6⟩
        | next =>
          obtain ⟨τ6, G6, I6, q6⟩ := got
          exact close I6 fun s7 I7 => ⟨_, G6, I7, q6⟩
        | brk =>
          obtain ⟨τ6, G6, I6, q6⟩ := got
          exact close I6 fun s7 I7 => ⟨_, G6, I7, q6⟩
        | cont =>
          obtain ⟨τ6, G6, I6, q6⟩ := got
          exact close I6 fun s7 I7 => ⟨_, G6, I7, q6⟩
    · intro q
      cases q
end
/-- its reading -/
def tTry (K : PySem.W.Frag) (out : WX) (tb : WX → TS) (l : List (Value × Nat × Sfn)) : TS := fun D τ G => tb (wishes K out D l) D τ G
/-- try: body, clauses with names -/
theorem ps_try_named {X : Cx} {body : List Stmt} {c0 : ExceptHandler} {cs : List ExceptHandler} {l : List (Value × Nat × Sfn)} {pos : Pos} {tb : WX → TS} {out : WX} (stk : X.stack = X.env :: X.outer) (fr : X.env.frame = some X.env.locals) (nd : X.N.Nodup) (tk : Takes X out)
    (inner : ∀ (W : WX) (pn : List (Addr × Obj)) (xe : Value → Shared → Prop), Takes (X.tr pn xe) W → PassesOwn (model X.prog X.w) X.A X.env xe → PSs (X.tr pn xe) body (tb W)) (cl : Clauses X (c0 :: cs) l) :
    PS X (.Try body (c0 :: cs) [] [] pos) (tTry X.K out tb l) := by
  constructor
  intro pins s τ G D I h
  have ok := I.ok
  have frames : X.A.frames = some (X.env :: X.outer) := by rw [ok.frames, stk]
  apply wpAny_Try_except
  have caught : Takes (X.tr (X.pn ++ pins) fun e s₁ => wpAny (model X.prog X.w) X.A (noteFrame e X.env) (fun _ s₂ => wpAny (model X.prog X.w) X.A (setFlight e none) (fun _ s₃ => wpAny (model X.prog X.w) X.A (handleBy e X.env (c0 :: cs)) (SP X pins D) X.xe s₃) X.xe s₂) X.xe s₁)
      (wishes X.K out D l) := by
    intro u s1 xx
    obtain ⟨a, B, s0, pins1, τ1, G1, cls, d, rfl, J, nb, up, sky, na, os, ag, w⟩ := xx
    have sky' : Sky B (X.env :: X.outer) a (Zc cls d) X.env.locals s1.heap := by
      rw [← stk]
      exact sky
    apply Sky.land Zc.steady frames fr sky'
    intro h3 fly3 up3
    exact Landed.clauses tk nd cl ⟨ok, J.ofTry ok, stk, fr, nb, up.trans up3, fly3, na, os, ag⟩ w
  refine wpAny_mono ((inner _ _ _ caught PassesOwn.looking).run [] s τ G D (I.toTry _) h) (fun fl s1 got => ?_) (fun _ _ e => e)
  cases fl with
  | ret u =>
    obtain ⟨v, τ1, G1, J, rv, q⟩ := got
    exact ⟨v, τ1, G1, J.ofTry ok, rv, q⟩
  | brk =>
    obtain ⟨τ1, G1, J, q⟩ := got
    exact ⟨τ1, G1, J.ofTry ok, q⟩
  | cont =>
    obtain ⟨τ1, G1, J, q⟩ := got
    exact ⟨τ1, G1, J.ofTry ok, q⟩
  | next =>
    obtain ⟨τ1, G1, J, q⟩ := got
    exact wpAny_execs_nil ⟨τ1, G1, J.ofTry ok, q⟩
end Rm

/-! E4: what is asked of the written part for such errors; the head's facts with a def that has a cell. -/
namespace Rm
open PySem PySem.Spec PyProof.Rows L2
def tailB (C : Addr) : List Value → Bool
  | .ref D :: bm => decide (D = C) && PySem.HandSPX.refsVE bm
  | _ => false
def newB : List (Option Value) → Bool
  | [_, _, _, _, some (.builtin n), _] => decide (n = "ValueError.__new__")
  | _ => false
def clsB (K : PySem.W.Frag) (C : Addr) : Bool := match K.lookup C with
  | some ⟨.type "type", _, .cls cd, sl⟩ => tailB C cd.mro && (newB sl.toList && (!cd.hasDel && cd.hasDict))
  | _ => false
theorem tailB_ok {C : Addr} {l : List Value} (h : tailB C l = true) : ∃ bm, l = .ref C :: bm ∧ PySem.HandSPX.refsVE bm = true := by
  unfold tailB at h
  split at h
  · obtain ⟨e, q⟩ := He.ba h
    have e := of_decide_eq_true e
    subst e
    exact ⟨_, rfl, q⟩
  · cases h
theorem newB_ok {l : List (Option Value)} (h : newB l = true) : ∃ k0 k1 k2 k3 k5, l = [k0, k1, k2, k3, some (.builtin "ValueError.__new__"), k5] := by
  unfold newB at h
  split at h
  · have e := of_decide_eq_true h
    subst e
    exact ⟨_, _, _, _, _, rfl⟩
  · cases h
theorem clsB_ok {K : PySem.W.Frag} {C : Addr} (h : clsB K C = true) : ∃ nm q N bs bm sn sub ab col dd k0 k1 k2 k3 k5, K.lookup C = some (excClassObj nm q C N bs bm true sn sub ab col dd k0 k1 k2 k3 k5 "ValueError.__new__") ∧ PySem.HandSPX.refsVE bm = true := by
  unfold clsB at h
  split at h
  · rename_i dd cd sl look
    obtain ⟨h1, h⟩ := He.ba h
    obtain ⟨h2, h⟩ := He.ba h
    obtain ⟨h3, h4⟩ := He.ba h
    obtain ⟨bm, e1, tail⟩ := tailB_ok h1
    obtain ⟨k0, k1, k2, k3, k5, e2⟩ := newB_ok h2
    obtain ⟨nm, bs, mro, ns, qn, hd, sn, sub, ab, col, del⟩ := cd
    obtain ⟨sll⟩ := sl
    dsimp only at e1 e2 h3 h4
    subst e1 e2 h4
    have e3 : del = false := by simpa using h3
    subst e3
    exact ⟨nm, qn, ns, bs, bm, sn, sub, ab, col, dd, k0, k1, k2, k3, k5, look, tail⟩
  · cases h
/-- the def with a cell -/
abbrev CelW : Type := Option (Str × Str × Arguments × FuncBody × Scope × Addr × List Str × Addr)
def celW (K : PySem.W.Frag) (f : Addr) : CelW := match K.lookup f with
  | some ⟨_, _, .func fd, _⟩ => some (fd.name, fd.qualname, fd.params, fd.body, fd.scope, fd.globals, fd.closure.map (·.1), fd.builtins)
  | _ => none
def celV (name qual : Str) (st : Stmt) : CelW := some (name, qual, defArgs st, .stmts (defBody st), defScope st, mainGlobals, ["__class__"], builtinsNs)
def codB (K : PySem.W.Frag) (file : Str) : Value → Bool
  | .ref c => (match K.lookup c with
    | some ⟨_, _, .fields vs, _⟩ => (match (vs[2]? : Option Value) with
      | some (Value.str z _) => decide (z = file)
      | _ => false)
    | _ => false)
  | _ => false
theorem codB_ok {K : PySem.W.Frag} {file : Str} {v : Value} (h : codB K file v = true) : ∃ c oc od vs sl t, v = .ref c ∧ K.lookup c = some ⟨oc, od, .fields vs, sl⟩ ∧ vs[2]? = some (.str file t) := by
  unfold codB at h
  split at h
  · split at h
    · rename_i look
      split at h
      · rename_i e
        have z := of_decide_eq_true h
        subst z
        exact ⟨_, _, _, _, _, _, rfl, look, e⟩
      · cases h
    · cases h
  · cases h
def ownB (K : PySem.W.Frag) (C : Addr) : List (Str × Addr) → Bool
  | [(_, cc)] => (match K.lookup cc with
    | some ⟨_, _, .cell (some (.ref D)), _⟩ => (PySem.W.clsIn K D).isSome && (decide (PySem.W.mroIn K C (.ref D) = some true) && decide (PySem.W.ks_superIn K C D "__init__" = some (some (.builtin "ValueError.__init__"))))
    | _ => false)
  | _ => false
theorem ownB_ok {K : PySem.W.Frag} {C : Addr} {l : List (Str × Addr)} (h : ownB K C l = true) : ∃ x cc oc od sl D cd, l = [(x, cc)] ∧ K.lookup cc = some ⟨oc, od, .cell (some (.ref D)), sl⟩ ∧ PySem.W.clsIn K D = some cd ∧ PySem.W.mroIn K C (.ref D) = some true ∧
    PySem.W.ks_superIn K C D "__init__" = some (some (.builtin "ValueError.__init__")) := by
  unfold ownB at h
  split at h
  · split at h
    · rename_i look
      obtain ⟨h1, h⟩ := He.ba h
      obtain ⟨h2, h3⟩ := He.ba h
      obtain ⟨cd, e⟩ := Option.isSome_iff_exists.mp h1
      exact ⟨_, _, _, _, _, _, cd, rfl, look, e, of_decide_eq_true h2, of_decide_eq_true h3⟩
    · cases h
  · cases h
def noneB : Value → Bool
  | .none => true
  | _ => false
theorem noneB_ok {v : Value} (h : noneB v = true) : v = .none := by
  unfold noneB at h
  split at h
  · rfl
  · cases h
/-- what is asked of the class at C and of its __init__ -/
def errB (K : PySem.W.Frag) (file : Str) (C : Addr) : Bool :=
  clsB K C && (decide (PySem.W.findIn K (.ref C) "__setattr__" = some (some (.builtin "object.__setattr__"))) && (decide (PySem.W.subIn K (.ref C) (.type "BaseException") = some true) && (decide (PySem.W.typeIn K (.ref C) = some (.type "type")) && (PySem.W.keepIn K (.ref C) &&
  (decide (PySem.W.findIn K (.ref C) "row" = some none) && (decide (PySem.W.findIn K (.ref C) "column" = some none) && (decide (PySem.W.subIn K (.ref C) (.type "ValueError") = some true) && (decide (PySem.W.nsIn K mainGlobals "super" = some none) &&
  (decide (PySem.W.nsIn K cStatics "thirdparty.any" = some none) && (decide (PySem.W.findIn K (.ref C) "__init__" = some (some (.ref (He.ma K C "__init__")))) && (decide (PySem.W.typeIn K (.ref (He.ma K C "__init__")) = some (.type "function")) &&
  (match K.lookup (He.ma K C "__init__") with
    | some ⟨_, _, .func fd, _⟩ => noneB fd.defaults && (PySem.W.codeIn K fd.code fd.qualname && (codB K file fd.code && ownB K C fd.closure))
    | _ => false))))))))))))
/-- its class asked -/
def excB (K : PySem.W.Frag) (C : Addr) : Bool :=
  decide (PySem.W.findIn K (.ref C) "__getattribute__" = some (some (.builtin "BaseException.__getattribute__"))) && (decide (PySem.W.findIn K (.ref C) "__getattr__" = some none) && (decide (PySem.W.subIn K (.ref C) (.type "BaseException") = some true) && (PySem.W.hasDictIn K C &&
  (decide (PySem.W.findIn K (.ref C) "__class__" = some (some (.builtin "object.__class__"))) && (decide (PySem.W.specialIn K (.builtin "object.__class__") "__get__" = some (some (.builtin "getset_descriptor.__get__"))) &&
  (decide (PySem.W.takesIn K (.builtin "object.__class__") = some true) && decide (PySem.W.mroIn K C (.type "object") = some true)))))))
theorem excB_ok {K : PySem.W.Frag} {C : Addr} (h : excB K C = true) : ExcC K C := by
  obtain ⟨h1, h⟩ := He.ba h
  obtain ⟨h2, h⟩ := He.ba h
  obtain ⟨h3, h⟩ := He.ba h
  obtain ⟨h4, h⟩ := He.ba h
  obtain ⟨h5, h⟩ := He.ba h
  obtain ⟨h6, h⟩ := He.ba h
  obtain ⟨h7, h8⟩ := He.ba h
  exact ⟨of_decide_eq_true h1, of_decide_eq_true h2, of_decide_eq_true h3, h4, of_decide_eq_true h5, of_decide_eq_true h6, of_decide_eq_true h7, of_decide_eq_true h8⟩
theorem xf_of {K : PySem.W.Frag} {C : Addr} (T : ExcC K C) : XfC K C := ⟨T.hg, T.hk, T.hs, T.hd⟩
/-- the text of __init__, as it is written -/
def TeIs (st : Stmt) : Prop := ∃ (p1 p2 p3 a1 a2 a3 b1 b2 b3 c1 c2 d1 d2 e1 e2 f1 f2 f3 f4 g1 g2 g3 g4 : Pos) (k1 k2 : Nat), defArgs st = teA p1 p2 p3 ∧ defBody st = teB a1 a2 a3 b1 b2 b3 c1 c2 d1 d2 e1 e2 f1 f2 f3 f4 g1 g2 g3 g4 k1 k2 ∧ defScope st = teS ∧ (a3.endLine == e1.line) = true
theorem errB_ok {P : Program} {K : PySem.W.Frag} {file : Str} {C : Addr} {st : Stmt} (h : errB K file C = true) (e : celW K (He.ma K C "__init__") = celV "__init__" "TextError.__init__" st) (te : TeIs st) (top : (P.main.scope.names.lookup ("super" : Str)).isSome = false) (pf : ((P.main.file : Str) == file) = true) : ErrK P K C := by
  obtain ⟨h1, h⟩ := He.ba h
  obtain ⟨h2, h⟩ := He.ba h
  obtain ⟨h3, h⟩ := He.ba h
  obtain ⟨h4, h⟩ := He.ba h
  obtain ⟨h5, h⟩ := He.ba h
  obtain ⟨h6, h⟩ := He.ba h
  obtain ⟨h7, h⟩ := He.ba h
  obtain ⟨h8, h⟩ := He.ba h
  obtain ⟨h9, h⟩ := He.ba h
  obtain ⟨h10, h⟩ := He.ba h
  obtain ⟨h11, h⟩ := He.ba h
  obtain ⟨h12, h⟩ := He.ba h
  refine ⟨⟨clsB_ok h1, of_decide_eq_true h2, of_decide_eq_true h3, of_decide_eq_true h4, h5⟩, of_decide_eq_true h6, of_decide_eq_true h7, of_decide_eq_true h8, of_decide_eq_true h9, of_decide_eq_true h10, top, ?_⟩
  obtain ⟨p1, p2, p3, a1, a2, a3, b1, b2, b3, c1, c2, d1, d2, e1, e2, f1, f2, f3, f4, g1, g2, g3, g4, k1, k2, t1, t2, t3, t4⟩ := te
  unfold celW celV at e
  split at h
  · rename_i oc od fd osl look
    rw [look] at e
    obtain ⟨q1, h⟩ := He.ba h
    obtain ⟨q2, h⟩ := He.ba h
    obtain ⟨q3, q4⟩ := He.ba h
    obtain ⟨n1, n2, n3, n4, n5, n6, n7, n8, n9, n10, n11, n12, n13, n14, n15⟩ := fd
    have e' : (some (n1, n2, n3, n4, n5, n6, n7.map (·.1), n15) : CelW) = some (("__init__" : Str), ("TextError.__init__" : Str), defArgs st, FuncBody.stmts (defBody st), defScope st, mainGlobals, [("__class__" : Str)], builtinsNs) := e
    simp only [Option.some.injEq, Prod.mk.injEq] at e'
    obtain ⟨m1, m2, m3, m4, m5, m6, m7, m8⟩ := e'
    dsimp only at q1 q2 q3 q4
    obtain ⟨x, cc, oce, ode, ose, D, cd, l1, l2, l3, l4, l5⟩ := ownB_ok q4
    obtain ⟨c, ocd, odd, vs, osd, tt, v1, v2, v3⟩ := codB_ok q3
    have q0 := noneB_ok q1
    subst l1
    have m7' : x = "__class__" := by simpa using m7
    rw [t1] at m3
    rw [t2] at m4
    rw [t3] at m5
    subst m1 m2 m3 m4 m5 m6 m7' m8 v1 q0
    exact ⟨D, cc, c, _, oc, ocd, oce, od, odd, ode, osl, osd, ose, cd, vs, file, tt, .none, n9, n10, n11, n14, n12, p1, p2, p3, a1, a2, a3, b1, b2, b3, c1, c2, d1, d2, e1, e2, f1, f2, f3, f4, g1, g2, g3, g4, k1, k2, t4, of_decide_eq_true h11, of_decide_eq_true h12, look, q2, v2, v3, pf, l2, l3, l4, l5⟩
  · cases h
end Rm

/-! D1: dicts of the module with texts as keys: what is at a key, there or not; a def that a slot holds, called, with what it lets out. -/
namespace Rm
open PySem PySem.Spec PyProof.Rows L2
/-- entries, one by one -/
inductive Ents (w : World) : List DictEntry → List (Str × V) → Prop
  | nil : Ents w [] []
  | cons {e : DictEntry} {x : Str} {t : Tok} {v : V} {es : List DictEntry} {l : List (Str × V)} (k : e.key = .str x t) (h : e.hash = PyData.keyHash w.params x) (r : RelV v e.val) (m : Ents w es l) : Ents w (e :: es) ((x, v) :: l)
/-- the dict at a holds just l -/
def KD (K : PySem.W.Frag) (w : World) (a : Addr) (l : List (Str × V)) : Prop := ∃ es n, K.lookup a = some ⟨.type "dict", none, .dict es n, #[]⟩ ∧ Ents w es.toList l ∧ (a == sysModules) = false
theorem Ents.lit {w : World} : ∀ {es : List DictEntry} {l : List (Str × V)}, Ents w es l → PySem.W.KeysLit w.params es
  | _, _, .nil => True.intro
  | _, _, .cons k h _ m => ⟨⟨_, _, k, h⟩, m.lit⟩
theorem Ents.find {w : World} {z : Str} : ∀ {es : List DictEntry} {l : List (Str × V)}, Ents w es l → RelO (l.lookup z) ((es.find? fun e => Value.isStrOf z e.key).map (·.val))
  | _, _, .nil => True.intro
  | _, _, .cons (e := e) (x := x) (t := t) (v := v) (es := es) (l := l) k h r m => by
    rw [List.find?_cons, k]
    have q : Value.isStrOf z (.str x t) = decide (x = z) := by
      by_cases hz : x = z <;> simp [Value.isStrOf, hz]
    rw [q]
    by_cases hz : x = z
    · subst hz
      rw [decide_eq_true rfl, show ((x, v) :: l).lookup x = some v by simp [List.lookup]]
      exact r
    · rw [decide_eq_false hz]
      have e2 : (z == x) = false := by
        simpa using fun y => hz y.symm
      rw [show ((x, v) :: l).lookup z = l.lookup z by simp [List.lookup, e2]]
      exact m.find
theorem KD.map {X : Cx} {pins : List (Addr × Obj)} {σ : L2.St} {H : Hp} {s : Shared} {a : Addr} {l : List (Str × V)} (I : Inv X pins σ H s) (d : KD X.K X.w a l) :
    ∃ f : Str → Option Value, s.heap.MapOf (strKind X.prog X.w) a f ∧ (a == sysModules) = false ∧ ∀ z, RelO (l.lookup z) (f z) := by
  obtain ⟨es, n, hl, ent, na⟩ := d
  refine ⟨_, PySem.W.mapOf_K (prog := X.prog) (w := X.w) I.kIn hl ent.lit, na, fun z => ?_⟩
  have q := ent.find (z := z)
  obtain ⟨es⟩ := es
  show RelO _ (((⟨es⟩ : Array DictEntry).find? fun e => Value.isStrOf z e.key).map (·.val))
  rw [List.find?_toArray]
  exact q
/-- d.get(e, f) -/
def tKGet2 (K : PySem.W.Frag) (w : World) (td ty tx : TE) : TE := fun σ H Q => td σ H fun x H1 => ∃ a l, x = .ref a ∧ KD K w a l ∧ ty σ H1 fun y H2 => tx σ H2 fun z H3 => ∃ k, y = .str k ∧ Q ((l.lookup k).getD z) H3
/-- e in d -/
def tKIn (K : PySem.W.Frag) (w : World) (ty td : TE) : TE := fun σ H Q => ty σ H fun y H1 => td σ H1 fun x H2 => ∃ a l k, x = .ref a ∧ y = .str k ∧ KD K w a l ∧ Q (.bl (l.lookup k).isSome) H2
/-- d[e], there -/
def rKIx (K : PySem.W.Frag) (w : World) : R2 := fun x y H Q => ∃ a l k v, x = .ref a ∧ y = .str k ∧ KD K w a l ∧ l.lookup k = some v ∧ Q v H
section
variable {X : Cx} {o e f : Expr} {apos cpos : Pos} {td ty tx : TE}
theorem pe_kget2 (ho : PE X o td) (he : PE X e ty) (hf : PE X f tx) (m : M2 X o "get" apos e f cpos) : PE X (.Call (.Attribute o "get" apos) [e, f] [] cpos) (tKGet2 X.K X.w td ty tx) := by
  constructor
  intro pins s σ H Q I h
  apply wpAny_Call_method m.base m.few m.line PySem.F.plainAttrs_dict PySem.F.slot_dict_get PySem.F.type_dict_get
  refine thn (ho.run pins s σ H _ I h) fun u s1 hh => ?_
  obtain ⟨x, H1, I1, rx, a, l, ex, d, q1⟩ := hh
  subst ex
  obtain rfl : u = Value.ref a := rx
  obtain ⟨fn, mp, na, rel⟩ := d.map I1
  refine ⟨mp.typeIs, fun b q => ?_, ?_⟩
  · cases q
    obtain ⟨_, _, _, h1, h2, _⟩ := mp
    exact ⟨_, h1, h2.2.1⟩
  rw [m.trees]
  apply Calls.callWith_builtin rfl
  apply Calls.evalArgs_plain
  refine Calls.spliced_cons (thn (he.run pins s1 σ H1 _ I1 q1) fun iv s2 h2 => ?_)
  obtain ⟨y, H2, I2, ry, q2⟩ := h2
  refine Calls.spliced_cons (thn (hf.run pins s2 σ H2 _ I2 q2) fun fv s3 h3 => Calls.spliced_nil ?_)
  obtain ⟨z, H3, I3, rz, k, ey, q3⟩ := h3
  subst ey
  obtain ⟨t, rfl⟩ := ry
  obtain ⟨fn, mp, na, rel⟩ := d.map I3
  refine call_meetsIn PySem.F.slot_dict_get mp.typeIs PySem.F.entry_dict_get (PySem.F.args_dict_get_3 _ _ _) (meets_dict_get_default (strKind X.prog X.w) a (strKind_is X.prog X.w k t) na fv) ⟨fn, mp, ?_⟩
  exact ⟨_, H3, I3.tok _, (rel k).getD rz, q3⟩
theorem pc_kin (hi : PE X e ty) (ho : PE X o td) : PC X .In e o (tKIn X.K X.w ty td) := by
  constructor
  intro pins s σ H Q I h
  refine thn (hi.run pins s σ H _ I h) fun iv s1 h1 => ?_
  obtain ⟨y, H1, I1, ry, q1⟩ := h1
  refine thn (ho.run pins s1 σ H1 _ I1 q1) fun u s2 h2 => ?_
  obtain ⟨x, H2, I2, rx, a, l, k, ex, ey, d, q2⟩ := h2
  subst ex ey
  obtain rfl : u = Value.ref a := rx
  obtain ⟨t, rfl⟩ := ry
  obtain ⟨fn, mp, na, rel⟩ := d.map I2
  refine wpAny_in_of (strKind_is X.prog X.w k t) na mp ?_
  rw [← (rel k).isSome_eq]
  exact ⟨.bl (l.lookup k).isSome, H2, I2.tok _, rfl, q2⟩
theorem ix_kd : IxR X (rKIx X.K X.w) := by
  intro value slice pins s σ H x y v u Q I rx ry h hs
  obtain ⟨a, l, k, r, rfl, rfl, d, lk, q⟩ := h
  obtain rfl : v = Value.ref a := rx
  obtain ⟨t, rfl⟩ := ry
  obtain ⟨fn, mp, na, rel⟩ := d.map I
  obtain ⟨w', e1, e2⟩ := RelO.some_of (v := r) (o := fn k) (by rw [← lk]; exact rel k)
  exact tail_any mp.typeIs slot_dict_getitem.lookup (wpAny_getItem_of (strKind_is X.prog X.w k t) mp e1 ⟨r, H, I.tok _, e2, q⟩) hs
end
/-! ### the def that a slot holds -/
def tCallP (i : Nat) (S : Addr → Sp → Prop) (E : XK) (t : TA) : TE := fun σ H Q => ∃ f sp, σ[i]? = some (some (.ref f)) ∧ S f sp ∧ t σ H fun vs H1 => sp vs H1 Q E
theorem pe_callP {X : Cx} {k i : Nat} {S : Addr → Sp → Prop} {E : XK} {x : Str} {p pos : Pos} {e : Expr} {es : List Expr} {t : TA} (A : ∀ f sp, S f sp → ∃ fd ps, Def X.prog X.w X.K X.mg X.base k f fd ps sp) (hr : Room k X.A) (hN : X.N[i]? = some x) (hv : Vis X.env.scope x) (hx : Passes (L2.CX X.prog X.w) X E) (ha : PA X (e :: es) t)
    (hdb : (x == ("__debug__" : Str)) = false := by decide) (hcd : (x == ("__classdict__" : Str)) = false := by decide)
    (he : starEach (e :: es) X.env = (false, eval e X.env) :: starEach es X.env := by rfl) (hpl : (backTo pos (starEach es X.env)).any (·.1) = false := by rfl) : PE X (.Call (.Name x p) (e :: es) [] pos) (tCallP i S E t) := by
  constructor
  intro pins s σ H Q I h
  obtain ⟨f, sp, hs, hS, ht⟩ := h
  obtain ⟨fd, ps, D⟩ := A f sp hS
  refine (pe_callL (i := i) (f := f) (sp := sp) (dvs := []) (E := E) D.fn hr hN hv D.kp D.bd .nil hx ha hdb hcd he hpl).run pins s σ H Q I ⟨hs, ?_⟩
  have same : (fun (vs : List V) (H1 : Hp) => sp (vs ++ []) H1 Q E) = fun vs H1 => sp vs H1 Q E := funext fun vs => funext fun H1 => by rw [List.append_nil]
  show t σ H (fun vs H1 => sp (vs ++ []) H1 Q E)
  rw [same]
  exact ht
end Rm
namespace Rm
open PySem PySem.Spec PyProof.Rows L2
theorem Def.mono {P : Program} {w : World} {K : PySem.W.Frag} {mg : Str → Option Value} {base : Heap} {j k : Nat} {f : Addr} {fd : FuncData} {ps : List Str} {sp : Sp} (D : Def P w K mg base j f fd ps sp) (h : j ≤ k) : Def P w K mg base k f fd ps sp := ⟨D.fn.mono h, D.bd, D.kp⟩
/-- a promise that holds of nothing -/
theorem Def.never {P : Program} {w : World} {K : PySem.W.Frag} {mg : Str → Option Value} {base : Heap} {k : Nat} {f : Addr} {fd : FuncData} {ps : List Str} {sp : Sp} (no : ∀ vs H Q E, sp vs H Q E → False) (bd : Binds K fd ps []) (kp : PySem.W.keepIn K (.ref f) = true) : Def P w K mg base k f fd ps sp :=
  ⟨⟨fun vs H Q E h => (no vs H Q E h).elim, fun _ _ _ H _ _ vs Q E _ _ _ _ h => (no vs H Q E h).elim⟩, bd, kp⟩
end Rm

/-! HG: the head's facts: a Hook with one more Bool. -/
namespace Rm
open PySem PySem.Spec PyProof.Rows L2
/-! a dict of the module: keys, values, hashes (these hang on the world) -/
def entB (K : PySem.W.Frag) : List DictEntry → List (Str × He.Dv) → Bool
  | [], [] => true
  | ⟨_, .str z _, u⟩ :: es, (x, v) :: l => decide (z = x) && (He.relB (v.v K) u && entB K es l)
  | _, _ => false
def emB : List (Option Value) → Bool
  | [] => true
  | _ => false
def dicB (K : PySem.W.Frag) (x : Str) (l : List (Str × He.Dv)) : Bool := match K.lookup (He.ga K x) with
  | some ⟨.type "dict", none, .dict es _, sl⟩ => emB sl.toList && (!(He.ga K x == sysModules) && entB K es.toList l)
  | _ => false
def hasW (K : PySem.W.Frag) (x : Str) : List Int := match K.lookup (He.ga K x) with
  | some ⟨_, _, .dict es _, _⟩ => es.toList.map (·.hash)
  | _ => []
abbrev DcL : Type := List (Str × List (Str × He.Dv))
def valH (w : World) (d : Str × List (Str × He.Dv)) : List Int := d.2.map fun e => PyData.keyHash w.params e.1
theorem ents_ok {K : PySem.W.Frag} {w : World} : ∀ {es : List DictEntry} {l : List (Str × He.Dv)}, entB K es l = true → es.map (·.hash) = l.map (fun e => PyData.keyHash w.params e.1) → Ents w es (l.map fun e => (e.1, e.2.v K))
  | [], [], _, _ => .nil
  | ⟨h, .str z t, u⟩ :: es, (x, v) :: l, b, e => by
    have b : (decide (z = x) && (He.relB (v.v K) u && entB K es l)) = true := b
    obtain ⟨b1, b⟩ := He.ba b
    obtain ⟨b2, b3⟩ := He.ba b
    have b1 := of_decide_eq_true b1
    subst b1
    rw [List.map_cons, List.map_cons] at e
    obtain ⟨e1, e2⟩ := List.cons.inj e
    exact .cons rfl e1 (He.relB_ok b2) (ents_ok b3 e2)
theorem dicB_ok {K : PySem.W.Frag} {w : World} {x : Str} {l : List (Str × He.Dv)} (b : dicB K x l = true) (e : hasW K x = valH w (x, l)) : KD K w (He.ga K x) (l.map fun e => (e.1, e.2.v K)) := by
  unfold dicB at b
  unfold hasW at e
  split at b
  · rename_i es n sl look
    rw [look] at e
    obtain ⟨b1, b⟩ := He.ba b
    obtain ⟨b2, b3⟩ := He.ba b
    obtain ⟨sll⟩ := sl
    cases sll with
    | nil => exact ⟨es, _, look, ents_ok b3 e, by simpa using b2⟩
    | cons _ _ => cases b1
  · cases b
abbrev AlG : Type := Bool × List He.FnW × List CelW × List (List Int)
def obsG (fa : List He.Fa) (fn : List He.DefD) (ce : List (Str × CelW)) (dc : DcL) (ex : PySem.W.Frag → Bool) (K : PySem.W.Frag) : AlG := ((fa.all fun f => f.ok K) && ((fn.all fun d => d.ok K) && ex K), fn.map (fun d => He.fnW K d.at_), ce.map (fun c => celW K (He.ma K (He.ga K c.1) "__init__")), dc.map fun d => hasW K d.1)
def valG (fn : List He.DefD) (ce : List (Str × CelW)) (dc : DcL) (w : World) : AlG := (true, fn.map He.DefD.val, ce.map (·.2), dc.map (valH w))
def SaysG (fa : List He.Fa) (fn : List He.DefD) (ce : List (Str × CelW)) (dc : DcL) (ex : PySem.W.Frag → Bool) (w : World) (K : PySem.W.Frag) : Prop := obsG fa fn ce dc ex K = valG fn ce dc w
def obsGG (n : Nat) (fa : List He.Fa) (fn : List He.DefD) (ce : List (Str × CelW)) (dc : DcL) (ex : PySem.W.Frag → Bool) (g : Addr → Option Obj) : AlG := obsG fa fn ce dc ex (He.frG g (cStatics :: He.asD g n))
def hookG (n : Nat) (fa : List He.Fa) (fn : List He.DefD) (ce : List (Str × CelW)) (dc : DcL) (ex : PySem.W.Frag → Bool) : PySem.W.Hook where
  α := AlG
  obs := fun s => obsGG n fa fn ce dc ex s.heap.get?
  val := fun w => valG fn ce dc w
  says := fun w h => ∃ K : PySem.W.Frag, K.In h ∧ SaysG fa fn ce dc ex w K
  of := fun _ _ e => ⟨_, He.frG_in, e⟩
  keeps := fun _ _ _ ⟨K, hK, c⟩ k => ⟨K, PySem.W.Frag.In.keeps hK k, c⟩
theorem obsGG_eq {n : Nat} {fa : List He.Fa} {fn : List He.DefD} {ce : List (Str × CelW)} {dc : DcL} {ex : PySem.W.Frag → Bool} {g : Addr → Option Obj} {s : Shared} (h : ∀ a, g a = s.heap.get? a) : obsGG n fa fn ce dc ex g = (hookG n fa fn ce dc ex).obs s := by
  have e : g = s.heap.get? := funext h
  rw [e] <;> rfl
section
variable {fa : List He.Fa} {fn : List He.DefD} {ce : List (Str × CelW)} {dc : DcL} {w : World} {ex : PySem.W.Frag → Bool} {K : PySem.W.Frag}
theorem SaysG.fact (c : SaysG fa fn ce dc ex w K) (i : Nat) {f : He.Fa} (h : fa[i]? = some f := by rfl) : f.ok K = true := by
  have c1 := (He.ba (show ((fa.all fun f => f.ok K) && ((fn.all fun d => d.ok K) && ex K)) = true from congrArg (fun z : AlG => z.1) c)).1
  exact List.all_eq_true.mp c1 f (List.mem_of_getElem? h)
theorem SaysG.more (c : SaysG fa fn ce dc ex w K) : ex K = true :=
  (He.ba (He.ba (show ((fa.all fun f => f.ok K) && ((fn.all fun d => d.ok K) && ex K)) = true from congrArg (fun z : AlG => z.1) c)).2).2
theorem SaysG.def_ (c : SaysG fa fn ce dc ex w K) (i : Nat) {d : He.DefD} (h : fn[i]? = some d := by rfl) : ∃ fd, FunD K d.name d.qual d.params d.body d.scope (d.dvs K) (d.kws K) (He.fAd K d.at_) fd := by
  have c2 := (He.ba (He.ba (show ((fa.all fun f => f.ok K) && ((fn.all fun d => d.ok K) && ex K)) = true from congrArg (fun z : AlG => z.1) c)).2).1
  have e : fn.map (fun d => He.fnW K d.at_) = fn.map He.DefD.val := congrArg (fun z : AlG => z.2.1) c
  have e2 : (fn.map fun d => He.fnW K d.at_)[i]? = (fn.map He.DefD.val)[i]? := by rw [e]
  rw [List.getElem?_map, List.getElem?_map, h] at e2
  exact He.DefD.funD (Option.some.inj e2) (List.all_eq_true.mp c2 d (List.mem_of_getElem? h))
theorem SaysG.dic (c : SaysG fa fn ce dc ex w K) (i : Nat) {d : Str × List (Str × He.Dv)} (h : dc[i]? = some d := by rfl) : hasW K d.1 = valH w d := by
  have e : dc.map (fun d => hasW K d.1) = dc.map (valH w) := congrArg (fun z : AlG => z.2.2.2) c
  have e2 : (dc.map fun d => hasW K d.1)[i]? = (dc.map (valH w))[i]? := by rw [e]
  rw [List.getElem?_map, List.getElem?_map, h] at e2
  exact Option.some.inj e2
theorem SaysG.cel (c : SaysG fa fn ce dc ex w K) (i : Nat) {d : Str × CelW} (h : ce[i]? = some d := by rfl) : celW K (He.ma K (He.ga K d.1) "__init__") = d.2 := by
  have e : ce.map (fun c => celW K (He.ma K (He.ga K c.1) "__init__")) = ce.map (·.2) := congrArg (fun z : AlG => z.2.2.1) c
  have e2 : (ce.map fun c => celW K (He.ma K (He.ga K c.1) "__init__"))[i]? = (ce.map (·.2))[i]? := by rw [e]
  rw [List.getElem?_map, List.getElem?_map, h] at e2
  exact Option.some.inj e2
end
/-- a law's end where callees may let out: what is let out at the law itself is nothing -/
theorem no_out {P : Program} {w : World} (H : Hp) (s : Shared) (v : Value) (t : Shared) (h : L2.CX P w [] H s (fun _ _ _ => False) v t) : False := by
  obtain ⟨_, _, _, _, _, _, _, _, _, _, _, _, z⟩ := h
  exact z
theorem walk_law {l : PySem.W.OpenLaw} {x : Str} {n k : Nat} {q : Program} {d : DefRec} {loose : List Str} {Xp : (Str → Option Value) → Heap → Prop} {Yp : World → Heap → Prop}
    (most : l.most = some n) (small : n ≤ sizeLine) (nodf : d.params.defaults = []) (room : Room k callerA)
    (got : ∀ (w : World) (mg : Str → Option Value) (fa : Addr) (h : Heap), Yp w h → h.Ns mainGlobals mg → mg d.name = some (.ref fa) →
      ∃ (K : PySem.W.Frag) (fd : FuncData) (sp : Sp), K.In h ∧ (∀ (s : Shared) (u : Value), BindsTo s fd ⟨[u], []⟩ [(x, u)]) ∧
        (∀ (H : Hp) (a : Addr) (ns : List Int), ns.length ≤ n → Only H → SqL K H a (ns.map V.int) → sp [.ref a] H (fun v _ => v = .bl true) fun _ _ _ => False) ∧
        ∀ base : Heap, K.In base → base.Ns mainGlobals mg → FnOk l.prog w K mg base (L2.CX l.prog w) k fa fd [x] sp) :
    PySem.W.WalkO q loose Xp Yp l.row.toRowW d [] (fun f vs => PySem.call f vs) := by
  apply Att.attach_call most nodf
  intro w s0 s1 mg mb fa ob pm cd doc a vs ns Gr Yw ho hd hcd hmg hobj hints hlen hgens
  obtain ⟨K, fd, sp, KX, bind, wish, fok⟩ := got w mg fa _ Yw Gr.T.g hmg
  exact law_call KX Gr.T.g Gr.T.b Gr.T.builtins Gr.T.nolimit hgens hobj hints (Nat.le_trans hlen small) room fok bind (fun H only sq => wish H a ns hlen only sq) fun H v t => no_out H s1 v t
/-- further facts, one behind another -/
def allOf (l : List (PySem.W.Frag → Bool)) (K : PySem.W.Frag) : Bool := l.all fun f => f K
theorem allOf_at {l : List (PySem.W.Frag → Bool)} {K : PySem.W.Frag} (c : allOf l K = true) (i : Nat) {f : PySem.W.Frag → Bool} (h : l[i]? = some f) : f K = true := List.all_eq_true.mp c f (List.mem_of_getElem? h)
/-- nothing is let out -/
def EW0 : EWT := fun _ _ _ _ _ => False
/-- a tuple of written texts -/
def tupS (K : PySem.W.Frag) (x : Str) (ss : List String) : Bool := He.tupB K x (ss.map fun s => .str (Str.ofString s))
theorem tupS_ok {K : PySem.W.Frag} {x : Str} {ss : List String} (h : tupS K x ss = true) (H : Hp) : SqT K H (He.ga K x) ((ss.map Lx.codes).map fun k => V.str (Tx k)) := by
  have q := He.tupB_ok h H
  rw [List.map_map] at q
  rw [List.map_map]
  have e : (ss.map (He.Dv.v K ∘ fun s => He.Dv.str (Str.ofString s))) = ss.map ((fun k => V.str (Tx k)) ∘ Lx.codes) := List.map_congr_left fun s _ => mS_eq s
  rw [← e]
  exact q
end Rm

/-! O1: rules that the layer lacks: xs.extend(tuple), tuple[::-1], tuple(dict). -/
namespace Rm
open PySem PySem.Spec PyProof.Rows L2
theorem extend_tup (l : Addr) (items : Array Value) (n : Nat) (b : Addr) (items2 : Array Value) (hs0 : ¬(!items.isEmpty && Builtin.List.listTooLong (items.size + items2.size)) = true) (hs1 : items.size ≤ sizeLine) (hs2 : items.size + items2.size ≤ sizeLine + 1) :
    Meets (Builtin.«list.extend» ⟨[.ref l, .ref b], []⟩) (fun _ R s => s.heap.get? l = some { cls := .type "list", dict := none, data := .seq items n, slots := #[] } ∧ PyProof.Rows.IsTup s.heap b items2 ∧ R (.ok (.ret Value.none)) { s with heap := s.heap.update l (Obj.mapSeq fun x => x ++ items2), toks := s.toks }) :=
  .of_wp fun prog w A R s h => by
    obtain ⟨hp, g, d, tk, os⟩ := s
    obtain ⟨hl, hb, h⟩ := h
    obtain ⟨o, hb, hc, n2, hd⟩ := hb
    obtain ⟨cls, dict, data, slots⟩ := o
    dsimp only at hc hd
    subst hc hd
    have f1 := AutoSeq1.idx_int
    have f2 := AutoSeq1.sub_tuple_tuple
    have f3 := AutoSeq1.sub_list_list
    have f4 := AutoSeq1.sub_tuple_list
    have f5 := AutoSeq1.sub_list_tuple
    have hz' : (items ++ items2).size ≤ sizeLine + 1 := by rw [Array.size_append]; exact hs2
    wp_walk using (wpAny_updateSeq hl rfl (hz := hs1) (_hz' := hz')), wpAny_loadPart' hl, wpAny_loadPart' hb
    exact ⟨_, rfl, h⟩
/-! ### xs.extend(t), t a tuple -/
def rExtendT (K : PySem.W.Frag) : V → List V → Hp → VK → Prop := fun x vs H Q => ∃ l b xs zs, x = .ref l ∧ vs = [.ref b] ∧ H l = some (.lst xs) ∧ SqT K H b zs ∧ xs.length + zs.length ≤ sizeLine ∧ Q .non (upd H l (.lst (xs ++ zs)))
section
variable {X : Cx}
theorem mt_extendT : MtM X "list.extend" (rExtendT X.K) := by
  intro pins s σ H x vs v us Q I rx rv h
  obtain ⟨l, b, xs, zs, rfl, rfl, hH, hB, hz, q⟩ := h
  cases rx
  obtain ⟨u, rfl, ru⟩ := rv.one
  cases ru
  obtain ⟨z, its, n, r, hl, e⟩ := I.lstM hH
  obtain ⟨its2, r2, p2, z2⟩ := I.tuple hB
  have l1 := r.length
  have l2 := r2.length
  have hsz : its.toArray.size + its2.toArray.size ≤ sizeLine := by rw [List.size_toArray, List.size_toArray]; omega
  have hlong : ¬ (!its.toArray.isEmpty && Builtin.List.listTooLong (its.toArray.size + its2.toArray.size)) = true := by
    rw [notLongL hsz, Bool.and_false]
    exact Bool.false_ne_true
  refine call_meets F.slot_list_extend ⟨_, e, rfl⟩ F.entry_list_extend (F.args_list_extend_2 _ _)
    (extend_tup l its.toArray n b its2.toArray hlong (by rw [List.size_toArray]; omega) (by omega)) ⟨e, p2, ?_⟩
  refine ⟨.non, _, I.lset (its' := its ++ its2) hH e (by simp) (r.append r2) ?_, rfl, q⟩
  rw [List.length_append]
  omega
end
/-! ### t[::-1], t a tuple -/
section
variable {prog : Program} {w : World} {A : Around} {E : Value → Shared → Prop} {s : Shared}
theorem rev_places (n : Nat) : Builtin.Slice.slicePlaces ((n : Int) - 1) (-1) (-1) = n := by
  unfold Builtin.Slice.slicePlaces
  rw [if_neg (by decide)]
  by_cases h : (n : Int) - 1 > -1
  · rw [if_pos h]
    have e : ((n : Int) - 1 - -1 - 1) / (- -1) + 1 = (n : Int) := by
      rw [show (- -1 : Int) = 1 by decide, Int.ediv_one]
      omega
    rw [e]
    exact Int.toNat_natCast n
  · rw [if_neg h]
    have : n = 0 := by omega
    rw [this]
    rfl
theorem pick_rev (xs : Array Value) : ((List.range xs.size).filterMap fun (m : Nat) => xs[(((xs.size : Nat) : Int) - 1 + (m : Int) * (-1)).toNat]?).toArray = xs.toList.reverse.toArray := by
  congr 1
  apply List.ext_getElem?
  intro i
  have e : ((List.range xs.size).filterMap fun (m : Nat) => xs[(((xs.size : Nat) : Int) - 1 + (m : Int) * (-1)).toNat]?) = (List.range xs.size).reverse.filterMap (xs[·]?) := by
    rw [← PySem.W.krv_range, List.filterMap_map]
    have z : ∀ (l : List Nat), (∀ m ∈ l, m < xs.size) → l.filterMap (fun (m : Nat) => xs[(((xs.size : Nat) : Int) - 1 + (m : Int) * (-1)).toNat]?) = l.filterMap ((xs[·]?) ∘ fun k => xs.size - 1 - k) := by
      intro l
      induction l with
      | nil => exact fun _ => rfl
      | cons m l ih =>
        intro hl
        have hm := hl m List.mem_cons_self
        have e : (((xs.size : Nat) : Int) - 1 + (m : Int) * (-1)).toNat = xs.size - 1 - m := by omega
        rw [List.filterMap_cons, List.filterMap_cons, ih fun k hk => hl k (List.mem_cons_of_mem _ hk), e]
        rfl
    exact z _ fun m hm => List.mem_range.mp hm
  rw [e, List.filterMap_reverse, PySem.W.krv_all]
theorem sliceApplied_rev {sl : Addr} {vl vu vs : Value} {n : Nat} {Q : Int × Int × Nat → Shared → Prop} (hs : s.heap.IsSliceOf sl vl vu vs) (pl : IsPart vl none) (pu : IsPart vu none) (ps : IsPart vs (some (-1)))
    (h : Q ((n : Int) - 1, -1, n) s) : wpAny (model prog w) A (Builtin.Slice.sliceApplied (.ref sl) (pure (n : Int))) Q E s := by
  obtain ⟨os, hos, hcs, hds⟩ := id hs
  unfold Builtin.Slice.sliceApplied Builtin.Slice.sliceFields
  refine wpAny_bind (wpAny_bind (wpAny_field hos hds (x := vl) rfl (wpAny_bind (wpAny_field hos hds (x := vu) rfl (wpAny_bind (wpAny_field hos hds (x := vs) rfl (wpAny_pure ?_)))))))
  refine wpAny_bind (HT.slicePart_ ps ?_)
  show wpAny _ _ (if ((-1 : Int) == 0) = true then _ else _) _ _ s
  rw [if_neg (by decide)]
  refine wpAny_bind (HT.slicePart_ pl (wpAny_bind (HT.slicePart_ pu (wpAny_bind (wpAny_pure ?_)))))
  show wpAny _ _ (pure ((n : Int) - 1, (-1 : Int), Builtin.Slice.slicePlaces ((n : Int) - 1) (-1) (-1))) _ _ s
  rw [rev_places]
  exact wpAny_pure h
theorem getItem_tuple_rev {t sl : Addr} {items : Array Value} {vl vu vs : Value} {Q : Value → Shared → Prop} (ht : PyProof.Rows.IsTup s.heap t items) (hs : s.heap.IsSliceOf sl vl vu vs) (pl : IsPart vl none) (pu : IsPart vu none) (ps : IsPart vs (some (-1)))
    (h : Q (.ref s.heap.objs.size) { s with heap := s.heap.push { cls := .type "tuple", data := .seq items.toList.reverse.toArray } })
    (hsz : items.size ≤ sizeLine) : wpAny (model prog w) A (getItem (.ref t) (.ref sl)) Q E s := by
  have htake : sizeOk (.seq items.toList.reverse.toArray) := by
    show items.toList.reverse.toArray.size ≤ sizeLine
    rw [List.size_toArray, List.length_reverse, Array.length_toList]
    exact hsz
  obtain ⟨os, hos, hcs, hds⟩ := id hs
  have hTs : s.TypeIs (.ref sl) "slice" := ⟨os, hos, hcs⟩
  unfold getItem
  try with_reducible refine wpAny_holding ?_
  first | refine wpAny_bind (wpAny_pure ?_) | skip
  refine wpAny_bind (wpAny_sequenceKey ht.typeIs (by decide) ?_)
  refine wpAny_bind (wpAny_callSpecial?_slot (name := Str.ofString "__getitem__") ht.typeIs PyProof.Rows.slot_tuple_getitem
    (wpAny_call_entry PyProof.Rows.slot_tuple_getitem ht.typeIs entry_tuple_getitem ?_ (args_tuple_getitem _ _)))
  show wpAny _ _ (Builtin.Tuple.tupleItemsOf (.ref t) >>= _) _ _ s
  refine wpAny_bind (tupleItemsOf_ ht ?_)
  refine wpAny_bind (wpAny_typeOf hTs ?_)
  rw [if_pos (by decide)]
  refine wpAny_bind (sliceApplied_rev hs pl pu ps ?_)
  have hno : ¬ (((((items.size : Nat) : Int) - 1 == 0) && ((-1 : Int) == 1) && (items.size == items.size)) = true) := by
    intro q
    rw [Bool.and_eq_true, Bool.and_eq_true] at q
    exact absurd q.1.2 (by decide)
  show wpAny _ _ (if ((((items.size : Nat) : Int) - 1 == 0) && ((-1 : Int) == 1) && (items.size == items.size)) = true then _ else _) _ _ s
  rw [if_neg hno, pick_rev]
  first
    | exact wpAny_bind (m := Builtin.Tuple.tupleExact _) (wpAny_newObj_type (wpAny_pure ⟨_, rfl, wpAny_pure h⟩) htake)
    | exact wpAny_bind (m := Builtin.Tuple.tupleExact _) (wpAny_newObj_type (wpAny_bind (wpAny_pure (wpAny_pure ⟨_, rfl, wpAny_pure h⟩))) htake)
    | exact wpAny_bind (wpAny_bind (m := Builtin.Tuple.tupleExact _) (wpAny_newObj_type (wpAny_pure (wpAny_pure ⟨_, rfl, wpAny_pure h⟩)) htake))
    | exact wpAny_bind (wpAny_bind (m := Builtin.Tuple.tupleExact _) (wpAny_newObj_type (wpAny_pure ⟨_, rfl, wpAny_pure h⟩) htake))
end
def tRevT (K : PySem.W.Frag) (te : TE) : TE := fun σ H Q => te σ H fun x H1 => ∃ a xs, x = .ref a ∧ SqT K H1 a xs ∧ ∀ p, H1 p = none → Q (.ref p) (upd H1 p (.tup xs.reverse))
section
variable {X : Cx}
theorem pe_revT {e : Expr} {te : TE} {k : Nat} {p1 p2 p3 pos : Pos} (he : PE X e te) : PE X (.Subscript e (.Slice none none (some (.UnaryOp .USub (.Constant (.int 1) k p1) p2)) p3) pos) (tRevT X.K te) := by
  refine ⟨fun pins s σ H Q I h => ?_⟩
  refine Subscript_ (thn (he.run pins s σ H _ I h) fun v s1 ⟨x, H1, I1, r1, q1⟩ => ?_)
  obtain ⟨a, xs, ex, hx, q⟩ := q1
  subst ex
  cases r1
  have hst : PO X (some (.UnaryOp .USub (.Constant (.int 1) k p1) p2)) (tPart (tUn (rU fun i => .int (-i)) (tC (.int 1)))) := po_some (pe_un un_neg pe_int)
  refine wpAny_Slice (thn (po_none.run pins s1 σ H1 (fun o H2 => o = none ∧ H2 = H1) I1 ⟨rfl, rfl⟩) fun vl s2 ⟨l, H2, I2, pl, el, e2⟩ => ?_)
  subst el e2
  refine thn (po_none.run pins s2 σ H2 (fun o H3 => o = none ∧ H3 = H2) I2 ⟨rfl, rfl⟩) fun vu s3 ⟨u, H3, I3, pu, eu, e3⟩ => ?_
  subst eu e3
  refine thn (hst.run pins s3 σ H3 (fun o H4 => o = some (-1) ∧ H4 = H3) I3 ⟨1, rfl, -1, rfl, rfl, rfl⟩) fun vs s4 ⟨o, H4, I4, ps, eo, e4⟩ => ?_
  subst eo e4
  have I5 : Inv X pins σ H4 { s4 with heap := s4.heap.push { cls := .type "slice", data := .fields #[vl, vu, vs] } } := I4.kept (t' := s4.toks) fun b ob q => Heap.get?_push_of_some _ q
  obtain ⟨its, r, ht, hz⟩ := I5.tuple hx
  have hlen := r.length
  show wpAny (model X.prog X.w) X.A (subscriptTail e (.Slice none none (some (.UnaryOp .USub (.Constant (.int 1) k p1) p2)) p3) (.ref a) (.ref s4.heap.objs.size)) (EP X pins σ Q) X.xe { s4 with heap := s4.heap.push { cls := .type "slice", data := .fields #[vl, vu, vs] } }
  refine tail_any (ops := [.ref a, .ref s4.heap.objs.size]) ht.typeIs (PyProof.Rows.slot_tuple_getitem.lookup) ?_ (by with_unfolding_all rfl)
  refine getItem_tuple_rev ht (Heap.IsSliceOf.new _ vl vu vs) pl pu ps ?_ (by rw [List.size_toArray]; omega)
  refine ⟨.ref _, _, I5.laid (t' := s4.toks) (o := .tup xs.reverse) (fun b ob q => Heap.get?_push_of_some _ q) (Nat.le_refl _) ?_, rfl, q _ (I5.hok.fresh (Nat.le_refl _))⟩
  exact ⟨by rw [List.length_reverse]; exact hz, _, r.reverse, IsTup.new _ _⟩
end
/-! ### tuple(d), d a dict -/
section
variable {prog : Program} {w : World} {A : Around} {E : Value → Shared → Prop} {s : Shared} {T : String} {r d : Addr} {n : Nat} {P : Nat → Value → Prop} {OK : Heap → Prop}
theorem collect_kdl {Q : List Value → Shared → Prop} (K : PySem.W.KdlSrc prog w T r d n P OK) (hh : A.handled = none) (hok : OK s.heap) (hn : n ≤ sizeLine)
    (hQ : ∀ (h' : Heap) (tk : Nat) (acc : Array Value), (∀ b o, s.heap.get? b = some o → h'.get? b = some o) → ItemsOf P acc n → Q acc.toList { s with heap := h', toks := tk }) :
    wpAny (model prog w) A (collect (.ref r)) Q E s := by
  unfold collect
  refine wpAny_bind (wpAny_runValue (codeAny_builtin PySem.F.entry_proto_collect ?_))
  rw [Around.under_plainId PySem.F.plain_proto_collect _]
  show wpAny _ A.in1 (newList [] >>= fun l => again (.builtin "list.__iadd__" ⟨[l, .ref r], []⟩)) _ _ s
  refine wpAny_bind (wpAny_newObj_type ?_)
  refine wpAny_pure ⟨plainId_quiet PySem.F.plain_list_iadd _, codeAny_builtin PySem.F.entry_list_iadd ?_⟩
  rw [Around.under_plainId PySem.F.plain_list_iadd _]
  show wpAny _ A.in1 (Builtin.List.listExtendWith (.ref s.heap.objs.size) (.ref r) (.ref s.heap.objs.size)) _ _ _
  have hS : (s.heap.push { cls := .type "list", data := .seq ([] : List Value).toArray }).get? s.heap.objs.size = some { cls := .type "list", data := .seq #[] 0 } := Heap.get?_push_size _ rfl
  have hlt := K.there _ hok
  refine wpAny_mono (PySem.W.kdl_extend (A := A) (R := fun rr s' => rr = .ok (.ret (.ref s.heap.objs.size)) ∧ ∃ (h' : Heap) (tk : Nat) (acc : Array Value) (c' : Nat), s' = { s with heap := h', toks := tk } ∧
      (∀ b o, s.heap.get? b = some o → h'.get? b = some o) ∧ h'.get? s.heap.objs.size = some { cls := .type "list", dict := none, data := .seq acc c', slots := #[] } ∧ ItemsOf P acc n)
    (s := { s with heap := s.heap.push { cls := .type "list", data := .seq ([] : List Value).toArray } }) K hh (K.keep _ _ hok fun b _ o e => Heap.get?_push_of_some _ e) s.heap.objs.size (Nat.ne_of_gt hlt.1) (Nat.ne_of_gt hlt.2) _ 0 hS
    (fun h' tk acc c' hk e hi => ⟨rfl, h', tk, acc, c', rfl, fun b o q => hk b o (Nat.ne_of_lt (Heap.lt_size q)) (Heap.get?_push_of_some _ q), e, hi⟩) hn) (fun fin s' h => ?_) (fun e s' h => ?_)
  · cases fin with
    | done f =>
      obtain ⟨e, h', tk, acc, c', rfl, hk, hS', hi⟩ := h
      cases e
      show wpAny _ A (load s.heap.objs.size >>= _) _ _ _
      exact wpAny_bind (wpAny_load hS' (wpAny_pure (hQ h' tk acc hk hi)))
    | again c' =>
      refine ⟨h.1, codeAny_mono h.2 fun rr s'' hr' => ?_⟩
      obtain ⟨rfl, h', tk, acc, c', rfl, hk, hS', hi⟩ := hr'
      show wpAny _ A (load s.heap.objs.size >>= _) _ _ _
      exact wpAny_bind (wpAny_load hS' (wpAny_pure (hQ h' tk acc hk hi)))
  · exact absurd h.1 (by simp)
theorem notT (K : PySem.W.KdlSrc prog w T r d n P OK) : ¬ (Value.type T == Value.type "tuple") = true := by
  rw [K.notTuple]
  exact Bool.false_ne_true
theorem code_tuple_new_dict {kvs : List (Key × Value)} {ep : Nat} {Q₁ : Value → Shared → Prop} (lo : (d == sysModules) = false) (hh : A.handled = none) (hok : s.heap.DictAt (mixKind prog w) d kvs ep) (hn : kvs.length ≤ sizeLine)
    (h : ∀ (h' : Heap) (tk : Nat) (acc : Array Value), (∀ b o, s.heap.get? b = some o → h'.get? b = some o) → ItemsOf (fun i v => ∃ k x, kvs[i]? = some (k, x) ∧ (mixKind prog w).is k v = true) acc kvs.length →
      Q₁ (.ref h'.objs.size) { s with heap := h'.push { cls := .type "tuple", data := .seq acc }, toks := tk }) :
    codeAny (model prog w) A (.call (.builtin "tuple.__new__") ⟨[.type "tuple", .ref d], []⟩) (wants Q₁ E) s := by
  refine codeAny_of_tree ?_
  show wpAny _ A.in1 (do checkBuiltinCall "tuple.__new__" ⟨[.type "tuple", .ref d], []⟩; again (.builtin "tuple.__new__" ⟨[.type "tuple", .ref d], []⟩)) _ _ s
  refine wpAny_bind (wpAny_of_eq (PySem.F.newCall_tuple_1 _) (wpAny_pure ⟨plainId_quiet PySem.F.plain_tuple_new _, codeAny_builtin PySem.F.entry_tuple_new ?_⟩))
  rw [Around.under_plainId PySem.F.plain_tuple_new _]
  have hsub := sub_tuple_self
  have hinit := init_tuple_lookup
  have hmh := madeHere_tuple
  have hTI : s.TypeIs (.ref d) "dict" := hok.dictOf.typeIs
  have hh1 : A.in1.handled = none := hh
  wp_walk using wpAny_typeOf hTI, collect_kdl (A := A.in1) (PySem.W.kdl_dict (knd := mixKind prog w) (kvs := kvs) (ep := ep) lo) hh1 hok hn
  intro h' tk acc hk hacc
  show wpAny _ _ (Builtin.Tuple.tupleExact acc.toList.toArray >>= fun v => ret v) _ _ _
  unfold Builtin.Tuple.tupleExact
  refine wpAny_bind (wpAny_newObj_type ?_ (by show acc.toList.toArray.size ≤ sizeLine; simp only [Array.toArray_toList]; rw [hacc.1]; exact hn))
  refine wpAny_pure ?_
  have e : acc.toList.toArray = acc := by simp
  rw [e]
  exact h h' tk acc hk hacc
theorem call_tuple_dict {kvs : List (Key × Value)} {ep : Nat} {Q : Value → Shared → Prop} (lo : (d == sysModules) = false) (hh : A.handled = none) (hok : s.heap.DictAt (mixKind prog w) d kvs ep) (hn : kvs.length ≤ sizeLine)
    (hQ : ∀ (h' : Heap) (tk : Nat) (acc : Array Value), (∀ b o, s.heap.get? b = some o → h'.get? b = some o) → ItemsOf (fun i v => ∃ k x, kvs[i]? = some (k, x) ∧ (mixKind prog w).is k v = true) acc kvs.length →
      Q (.ref h'.objs.size) { s with heap := h'.push { cls := .type "tuple", data := .seq acc }, toks := tk }) :
    wpAny (model prog w) A (call (.type "tuple") [.ref d]) Q E s := by
  refine callType_codes (Q₁ := fun obj s₁ => s₁.TypeIs obj "tuple" ∧ Q obj s₁) PySem.F.called_tuple (PySem.F.typeCall_tuple_1 _) PySem.F.entry_object_init
    (code_tuple_new_dict (A := A.in1) lo hh hok hn fun h' tk acc hk hacc => ⟨⟨_, Heap.get?_push_size _ rfl, rfl⟩, hQ h' tk acc hk hacc⟩) fun obj s₁ h₁ => ?_
  exact ⟨h₁.1, PySem.F.args_object_init_2 obj _, object_init_meets PySem.F.called_tuple.init.lookup PySem.F.called_tuple.made (by decide) prog w A.in1 _ s₁ ⟨h₁.1, rfl, h₁.2⟩⟩
end
def rTupleD : RC := fun xs H Q => ∃ (a : Addr) (kvs : List (Key × V)), xs = [.ref a] ∧ H a = some (.dK kvs) ∧ ∀ p, H p = none → Q (.ref p) (upd H p (.tup (kvs.map fun kv => kV kv.1)))
section
variable {X : Cx}
theorem call_tupleD (hcalm : X.calm = true) : CallR X (.type "tuple") rTupleD := by
  intro pins s σ H xs us Q I r q
  obtain ⟨a, kvs, ex, hd, q⟩ := q
  subst ex
  obtain ⟨u, eu, rx⟩ := vals1 r
  subst eu
  cases rx
  obtain ⟨z, lo, vs, rel, dd⟩ := dk_of I.hok hd
  obtain ⟨ep, hat⟩ := dd.dictAt
  have ek : (kvs.map fun kv => kV kv.1) = vs.map fun p => kV p.1 := by
    have e := congrArg (List.map kV) rel.keys
    rw [List.map_map, List.map_map] at e
    exact e
  refine call_tuple_dict lo (I.ok.hd hcalm) hat (by rw [← rel.length]; exact z) fun h' tk acc hk hacc => ?_
  have hv : Vals (vs.map fun p => kV p.1) acc.toList := keys_at (by rw [Array.length_toList]; exact hacc.1) fun j v e => hacc.2 j v (by rw [← Array.getElem?_toList]; exact e)
  have I1 : Inv X pins σ H { s with heap := h', toks := tk } := I.kept (t' := tk) hk
  have I2 : Inv X pins σ (upd H h'.objs.size (.tup (kvs.map fun kv => kV kv.1))) { s with heap := h'.push { cls := .type "tuple", data := .seq acc }, toks := tk } :=
    I1.laid (t' := tk) (fun b o e => Heap.get?_push_of_some _ e) (Nat.le_refl _) (show ObjOk X.prog X.w _ _ _ (.tup (kvs.map fun kv => kV kv.1)) from ⟨by rw [List.length_map]; exact z, acc.toList, by rw [ek]; exact hv, by rw [Array.toArray_toList]; exact IsTup.new _ _⟩)
  exact ⟨.ref h'.objs.size, _, I2, rfl, q _ (I1.hok.fresh (Nat.le_refl _))⟩
end
/-! ### more readings by short names -/
def rListOf (K : PySem.W.Frag) : RC := fun xs H Q => ∃ p ys, xs = [.ref p] ∧ (SqL K H p ys ∨ SqT K H p ys) ∧ ∀ l, H l = none → Q (.ref l) (upd H l (.lst ys))
def rListD (K : PySem.W.Frag) : RC := fun xs H Q => ∃ (a : Addr) (kvs : List (Key × V)), xs = [.ref a] ∧ Rd H a (.dK kvs) ∧ ∀ p, H p = none → Q (.ref p) (upd H p (.lst (kvs.map fun kv => kV kv.1)))
def rDictP (K : PySem.W.Frag) : RC := fun xs H Q => ∃ (a : Addr) (ps : List Addr) (kvs : List (Key × V)), xs = [.ref a] ∧ SqL K H a (ps.map V.ref) ∧ Paired (fun p kv => SqT K H p [kV kv.1, kv.2]) ps kvs ∧ ∀ p, H p = none → Q (.ref p) (upd H p (.dK (mergeK [] kvs)))
def rAbs : RC := fun xs H Q => ∃ i, xs = [.int i] ∧ Q (.int (if i < 0 then -i else i)) H
/-- nothing leaves -/
abbrev E0 : XK := fun _ _ _ => False
/-- a walk over the values of a dict -/
theorem for_vals {d : Addr} {o : Obj} {kvs : List (Key × V)} {g : TG} {tb : TS} {D : Ends} {σ : L2.St} {H : Hp} (Pv : Nat → L2.St → Hp → Prop) (h0 : Pv 0 σ H) (hl : ∀ i σ H, Pv i σ H → H d = some (.frz o (.dK kvs)))
    (hs : ∀ (i : Nat) (k : Key) (x : V) (σ : L2.St) (H : Hp), kvs[i]? = some (k, x) → Pv i σ H → g x σ H fun σ2 H2 => tb { D with nx := Pv (i + 1), ct := Pv (i + 1), bk := D.nx } σ2 H2) (hd : ∀ σ H, Pv kvs.length σ H → D.nx σ H) :
    ∃ W : Nat → Nat → L2.St → Hp → Prop, (∃ m, W 0 m σ H) ∧ ∀ i m σ H, W i m σ H →
      ((Itd d o kvs).stop i H ∧ D.nx σ H) ∨ ((Itd d o kvs).go i H ∧ ∃ N : L2.St → Hp → Prop, (∀ σ' H', N σ' H' → ∃ m', m' < m ∧ W (i + 1) m' σ' H') ∧ ∀ x H', (Itd d o kvs).yld i H x H' → g x σ H' fun σ2 H2 => tb { D with nx := N, ct := N, bk := D.nx } σ2 H2) := by
  refine ⟨fun i m σ H => m = kvs.length - i ∧ i ≤ kvs.length ∧ Pv i σ H, ⟨kvs.length, by simp, Nat.zero_le _, h0⟩, ?_⟩
  rintro i m σ H ⟨rfl, hi, p⟩
  have q := hl i σ H p
  by_cases hlt : i < kvs.length
  · refine .inr ⟨⟨q, hlt⟩, Pv (i + 1), fun σ' H' p' => ⟨kvs.length - (i + 1), by omega, rfl, hlt, p'⟩, fun x H' y => ?_⟩
    obtain ⟨e, k, y⟩ := y
    subst e
    exact hs i k x σ _ y p
  · have e : i = kvs.length := by omega
    subst e
    exact .inl ⟨⟨q, Nat.le_refl _⟩, hd σ H p⟩
end Rm

/-! O2: objects in the heap: slots, entries, what an Objects holds; plain functions over slots. -/
namespace Rm
open PySem PySem.Spec PyProof.Rows L2
/-! ### slots -/
structure Sl where
  name : Str
  kind : Str
  val : PyData
def getS : List Sl → Str → Option Sl
  | [], _ => none
  | s :: r, x => if s.name = x then some s else getS r x
def putS : List Sl → Sl → List Sl
  | [], n => [n]
  | s :: r, n => if s.name = n.name then n :: r else s :: putS r n
def dropS (sl : List Sl) (x : Str) : List Sl := sl.filter fun s => decide (s.name ≠ x)
def NdS (sl : List Sl) : Prop := (sl.map (·.name)).Nodup
/-- what the value of a slot may be: a tuple that begins with a word; a "ref" has a number -/
def ValOk (d : PyData) : Prop := ∃ w r, d = .tuple (.str w :: r) ∧ (w = ("ref" : Str) → ∃ i r', r = .int i :: r')
def refOf : PyData → Option Int
  | .tuple (.str w :: .int i :: _) => if w = ("ref" : Str) then some i else none
  | _ => none
def isPar (k : Str) : Bool := decide (k = ("parent" : Str)) || decide (k = ("varparent" : Str))
def parOf (s : Sl) : Option Int := if isPar s.kind = true then refOf s.val else none
def parS (sl : List Sl) : List Int := sl.filterMap parOf
theorem getS_mem : ∀ {sl : List Sl} {x : Str} {s : Sl}, getS sl x = some s → s ∈ sl ∧ s.name = x
  | [], _, _, h => by cases h
  | t :: r, x, s, h => by
    unfold getS at h
    split at h
    · rename_i e
      cases h
      exact ⟨List.mem_cons_self, e⟩
    · obtain ⟨a, b⟩ := getS_mem h
      exact ⟨List.mem_cons_of_mem _ a, b⟩
theorem getS_none : ∀ {sl : List Sl} {x : Str}, getS sl x = none → ∀ s ∈ sl, s.name ≠ x
  | [], _, _, _, h => by cases h
  | t :: r, x, h, s, hs => by
    unfold getS at h
    split at h
    · cases h
    · rename_i e
      rcases List.mem_cons.mp hs with rfl | hs
      · exact e
      · exact getS_none h s hs
theorem putS_names : ∀ (sl : List Sl) (n : Sl) (x : Str), x ∈ (putS sl n).map (·.name) → x ∈ sl.map (·.name) ∨ x = n.name
  | [], n, x, h => by
    rw [List.mem_singleton.mp h]
    exact .inr rfl
  | s :: r, n, x, h => by
    unfold putS at h
    split at h
    · rename_i e
      rcases List.mem_cons.mp h with rfl | h
      · exact .inr rfl
      · exact .inl (List.mem_cons_of_mem _ h)
    · rcases List.mem_cons.mp h with rfl | h
      · exact .inl List.mem_cons_self
      · rcases putS_names r n x h with h | h
        · exact .inl (List.mem_cons_of_mem _ h)
        · exact .inr h
theorem putS_nd : ∀ {sl : List Sl} (n : Sl), NdS sl → NdS (putS sl n)
  | [], n, _ => by
    show ([n.name] : List Str).Nodup
    simp
  | s :: r, n, h => by
    obtain ⟨h1, h2⟩ := List.nodup_cons.mp h
    unfold putS
    split
    · rename_i e
      have e : s.name = n.name := e
      refine List.nodup_cons.mpr ⟨?_, h2⟩
      show ¬ n.name ∈ _
      rw [← e]
      exact h1
    · rename_i e
      refine List.nodup_cons.mpr ⟨fun z => ?_, putS_nd n h2⟩
      rcases putS_names r n s.name z with z | z
      · exact h1 z
      · exact e z
theorem dropS_nd {sl : List Sl} (x : Str) (h : NdS sl) : NdS (dropS sl x) := List.Nodup.sublist (List.Sublist.map _ List.filter_sublist) h
theorem putS_mem : ∀ {sl : List Sl} {n s : Sl}, s ∈ putS sl n → s ∈ sl ∨ s = n
  | [], n, s, h => .inr (List.mem_singleton.mp h)
  | t :: r, n, s, h => by
    unfold putS at h
    split at h
    · rcases List.mem_cons.mp h with rfl | h
      · exact .inr rfl
      · exact .inl (List.mem_cons_of_mem _ h)
    · rcases List.mem_cons.mp h with rfl | h
      · exact .inl List.mem_cons_self
      · rcases putS_mem h with h | h
        · exact .inl (List.mem_cons_of_mem _ h)
        · exact .inr h
theorem putS_len : ∀ (sl : List Sl) (n : Sl), (putS sl n).length ≤ sl.length + 1
  | [], n => Nat.le_refl _
  | t :: r, n => by
    unfold putS
    split
    · exact Nat.le_succ _
    · exact Nat.succ_le_succ (putS_len r n)
/-! ### slots in the heap -/
inductive SlR (H : Hp) : List (Key × V) → List Sl → Prop
  | nil : SlR H [] []
  | cons {x k : Str} {q : Addr} {v : V} {d : PyData} {kvs : List (Key × V)} {sl : List Sl} (h : H q = some (.tup [.str k, v])) (t : Tr H v d) (r : SlR H kvs sl) : SlR H ((Sum.inr x, .ref q) :: kvs) (⟨x, k, d⟩ :: sl)
theorem SlR.keep {H H' : Hp} (k : TK H H') : ∀ {kvs : List (Key × V)} {sl : List Sl}, SlR H kvs sl → SlR H' kvs sl
  | _, _, .nil => .nil
  | _, _, .cons h t r => .cons (k _ _ h) (t.keep k) (r.keep k)
theorem SlR.len {H : Hp} : ∀ {kvs : List (Key × V)} {sl : List Sl}, SlR H kvs sl → kvs.length = sl.length
  | _, _, .nil => rfl
  | _, _, .cons _ _ r => congrArg Nat.succ r.len
theorem inr_ne {x y : Str} (h : ¬ x = y) : ¬ (Sum.inr x : Key) = Sum.inr y := fun e => h (Sum.inr.inj e)
theorem SlR.none_ {H : Hp} {x : Str} : ∀ {kvs : List (Key × V)} {sl : List Sl}, SlR H kvs sl → getS sl x = none → valV kvs (Sum.inr x : Key) = none
  | _, _, .nil, _ => rfl
  | _, _, .cons (x := y) h t r, e => by
    unfold getS at e
    split at e
    · cases e
    · rename_i n
      rw [valV_neg (inr_ne n)]
      exact r.none_ e
theorem SlR.some_ {H : Hp} {x : Str} {s : Sl} : ∀ {kvs : List (Key × V)} {sl : List Sl}, SlR H kvs sl → getS sl x = some s → ∃ q v, valV kvs (Sum.inr x : Key) = some (.ref q) ∧ H q = some (.tup [.str s.kind, v]) ∧ Tr H v s.val
  | _, _, .nil, e => by cases e
  | _, _, .cons (x := y) (q := q) (v := v) h t r, e => by
    unfold getS at e
    split at e
    · rename_i n
      cases e
      exact ⟨q, v, by rw [valV_pos (congrArg Sum.inr n)], h, t⟩
    · rename_i n
      rw [valV_neg (inr_ne n)]
      exact r.some_ e
theorem putK_cons {k0 k : Key} {v0 v : V} {r : List (Key × V)} (h : ¬ k0 = k) : putK ((k0, v0) :: r) k v = (k0, v0) :: putK r k v := by
  unfold putK
  rw [List.any_cons, decide_eq_false h, Bool.false_or]
  split
  · rw [List.map_cons, if_neg h]
  · rfl
theorem putK_first {k : Key} {v0 v : V} {r : List (Key × V)} (h : valV r k = none) : putK ((k, v0) :: r) k v = (k, v) :: r := by
  unfold putK
  rw [List.any_cons, decide_eq_true rfl, Bool.true_or, if_pos rfl, List.map_cons, if_pos rfl]
  congr 1
  have z : ∀ r : List (Key × V), valV r k = none → r.map (fun kv => if kv.1 = k then (kv.1, v) else kv) = r := by
    intro r
    induction r with
    | nil => exact fun _ => rfl
    | cons p r ih =>
      intro e
      by_cases c : p.1 = k
      · rw [valV_pos c] at e
        cases e
      · rw [valV_neg c] at e
        rw [List.map_cons, if_neg c, ih e]
  exact z r h
theorem SlR.put {H : Hp} {n : Sl} {q : Addr} {v : V} (hq : H q = some (.tup [.str n.kind, v])) (tv : Tr H v n.val) : ∀ {kvs : List (Key × V)} {sl : List Sl}, SlR H kvs sl → NdS sl → SlR H (putK kvs (Sum.inr n.name) (.ref q)) (putS sl n)
  | _, _, .nil, _ => .cons hq tv .nil
  | _, _, .cons (x := y) h t r, nd => by
    obtain ⟨n1, n2⟩ := List.nodup_cons.mp nd
    unfold putS
    split
    · rename_i e
      have e : y = n.name := e
      rename_i sl0 _
      have g : getS sl0 y = none := by
        cases z : getS sl0 y with
        | none => rfl
        | some s =>
          obtain ⟨m, em⟩ := getS_mem z
          exact absurd (List.mem_map.mpr ⟨s, m, em⟩) n1
      subst e
      rw [putK_first (r.none_ g)]
      exact .cons hq tv r
    · rename_i e
      rw [putK_cons (inr_ne e)]
      exact .cons h t (r.put hq tv n2)
theorem SlR.drop {H : Hp} {x : Str} : ∀ {kvs : List (Key × V)} {sl : List Sl}, SlR H kvs sl → SlR H (dropK kvs (Sum.inr x)) (dropS sl x)
  | _, _, .nil => .nil
  | _, _, .cons (x := y) h t r => by
    unfold dropS
    rw [List.filter_cons]
    by_cases c : y = x
    · rw [if_neg (by simp [c]), dropK_pos (congrArg Sum.inr c)]
      exact r.drop
    · rw [if_pos (by simp [c]), dropK_neg (inr_ne c)]
      exact .cons h t r.drop
/-- a tuple of triples (name, kind, value) -/
inductive TrpR (H : Hp) : List V → List Sl → Prop
  | nil : TrpR H [] []
  | cons {x k : Str} {t : Addr} {v : V} {d : PyData} {vs : List V} {sl : List Sl} (h : H t = some (.tup [.str x, .str k, v])) (tr : Tr H v d) (r : TrpR H vs sl) : TrpR H (.ref t :: vs) (⟨x, k, d⟩ :: sl)
theorem TrpR.keep {H H' : Hp} (k : TK H H') : ∀ {vs : List V} {sl : List Sl}, TrpR H vs sl → TrpR H' vs sl
  | _, _, .nil => .nil
  | _, _, .cons h t r => .cons (k _ _ h) (t.keep k) (r.keep k)
theorem TrpR.len {H : Hp} : ∀ {vs : List V} {sl : List Sl}, TrpR H vs sl → vs.length = sl.length
  | _, _, .nil => rfl
  | _, _, .cons _ _ r => congrArg Nat.succ r.len
theorem TrpR.at_ {H : Hp} : ∀ {vs : List V} {sl : List Sl} (i : Nat) {x : V}, TrpR H vs sl → vs[i]? = some x → ∃ s t v, sl[i]? = some s ∧ x = .ref t ∧ H t = some (.tup [.str s.name, .str s.kind, v]) ∧ Tr H v s.val
  | _, _, _, _, .nil, e => by simp at e
  | _, _, 0, _, .cons h t r, e => by
    cases e
    exact ⟨_, _, _, rfl, rfl, h, t⟩
  | _, _, i + 1, _, .cons h t r, e => r.at_ i e
theorem TrpR.snoc {H : Hp} {x k : Str} {t : Addr} {v : V} {d : PyData} (h : H t = some (.tup [.str x, .str k, v])) (tr : Tr H v d) : ∀ {vs : List V} {sl : List Sl}, TrpR H vs sl → TrpR H (vs ++ [.ref t]) (sl ++ [⟨x, k, d⟩])
  | _, _, .nil => .cons h tr .nil
  | _, _, .cons h1 t1 r => .cons h1 t1 (r.snoc h tr)
def mkS (ts : List Sl) : List Sl := ts.foldl putS []
theorem mkS_snoc (ts : List Sl) (n : Sl) : mkS (ts ++ [n]) = putS (mkS ts) n := by
  unfold mkS
  rw [List.foldl_append]
  rfl
/-! ### entries -/
structure En where
  id : Nat
  at_ : Addr
  sl : List Sl
def tabK (tab : List En) : List (Key × V) := tab.map fun e => (Sum.inl (e.id : Int), V.ref e.at_)
abbrev OC (K : PySem.W.Frag) : Addr := He.ga K ("Objects" : Str)
def obF (tb : Addr) (n : Int) : List (Str × V) := [("table", .ref tb), ("next_id", .int n)]
theorem neTN : ¬ (("table" : Str) = "next_id") := by decide +kernel
section
variable {tb : Addr} {i j : Int}
theorem obF_t : (obF tb i).lookup ("table" : Str) = some (.ref tb) := lk_eq
theorem obF_n : (obF tb i).lookup ("next_id" : Str) = some (.int i) := by
  unfold obF
  rw [lk_ne (fun e => neTN e.symm), lk_eq]
theorem obF_no {m : Str} (h1 : ¬ m = "table") (h2 : ¬ m = "next_id") : (obF tb i).lookup m = none := by
  unfold obF
  rw [lk_ne h1, lk_ne h2]
  rfl
theorem obF_put : putF ("next_id" : Str) (.int j) (obF tb i) = obF tb j := by
  unfold obF
  rw [pf_ne neTN, pf_eq]
theorem obF_init : putF ("next_id" : Str) (.int i) (putF ("table" : Str) (.ref tb) []) = obF tb i := by
  rw [pf_nil, pf_ne neTN, pf_nil]
  rfl
end
structure ObC (K : PySem.W.Frag) : Prop where
  cl : Cls K (OC K)
  nt : NoAttr K (OC K) "table"
  nn : NoAttr K (OC K) "next_id"
/-- an Objects at p, its table at tb, its entries tab, the next id nx -/
structure Ob (K : PySem.W.Frag) (H : Hp) (p dx tb : Addr) (tab : List En) (nx : Nat) : Prop where
  ins : H p = some (.ins (OC K) dx (obF tb (nx : Int)))
  tbl : H tb = some (.dK (tabK tab))
  ent : ∀ e ∈ tab, ∃ kvs, H e.at_ = some (.dK kvs) ∧ SlR H kvs e.sl
  nda : (tab.map (·.at_)).Nodup
  tbn : ∀ e ∈ tab, e.at_ ≠ tb
  ord : tab.Pairwise fun a b => a.id < b.id
  lt : ∀ e ∈ tab, e.id < nx
  nds : ∀ e ∈ tab, NdS e.sl
  val : ∀ e ∈ tab, ∀ s ∈ e.sl, ValOk s.val
/-- what stays while an Objects is changed -/
def KO (p tb : Addr) (tab : List En) (H H' : Hp) : Prop := ∀ b o, b ≠ p → b ≠ tb → (∀ e ∈ tab, b ≠ e.at_) → H b = some o → H' b = some o
theorem KO.refl (p tb : Addr) (tab : List En) (H : Hp) : KO p tb tab H H := fun _ _ _ _ _ h => h
theorem KO.of_same {p tb : Addr} {tab : List En} {H H' : Hp} (s : Same H H') : KO p tb tab H H' := fun b o _ _ _ h => s b o h
section
variable {K : PySem.W.Frag} {H H' : Hp} {p dx tb : Addr} {tab : List En} {nx : Nat}
theorem Ob.tk (h : Ob K H p dx tb tab nx) (k : KO p tb tab H H') : TK H H' := fun a xs e => k a _ (ne_of e h.ins (by intro z; cases z)) (ne_of e h.tbl (by intro z; cases z)) (fun n hn => by
  obtain ⟨kvs, e2, _⟩ := h.ent n hn
  exact ne_of e e2 (by intro z; cases z)) e
theorem Ob.same (h : Ob K H p dx tb tab nx) (s : Same H H') : Ob K H' p dx tb tab nx := ⟨s _ _ h.ins, s _ _ h.tbl, fun e he => by
  obtain ⟨kvs, e2, r⟩ := h.ent e he
  exact ⟨kvs, s _ _ e2, r.keep fun a xs z => s a _ z⟩, h.nda, h.tbn, h.ord, h.lt, h.nds, h.val⟩
/-- what else changes: nothing of it -/
theorem Ob.keep (h : Ob K H p dx tb tab nx) (hp : H' p = H p) (ht : H' tb = H tb) (he : ∀ e ∈ tab, H' e.at_ = H e.at_) (k : TK H H') : Ob K H' p dx tb tab nx := ⟨hp.trans h.ins, ht.trans h.tbl, fun e hm => by
  obtain ⟨kvs, e2, r⟩ := h.ent e hm
  exact ⟨kvs, (he e hm).trans e2, r.keep k⟩, h.nda, h.tbn, h.ord, h.lt, h.nds, h.val⟩
theorem tab_get : ∀ {tab : List En} {e : En}, tab.Pairwise (fun a b => a.id < b.id) → e ∈ tab → valV (tabK tab) (Sum.inl (e.id : Int) : Key) = some (.ref e.at_)
  | [], _, _, h => by cases h
  | t :: r, e, hp, h => by
    obtain ⟨h1, h2⟩ := List.pairwise_cons.mp hp
    rcases List.mem_cons.mp h with rfl | h
    · exact valV_pos rfl
    · have := h1 e h
      have n : ¬ ((Sum.inl (t.id : Int) : Key) = Sum.inl (e.id : Int)) := fun z => by
        have := Sum.inl.inj z
        omega
      show valV ((Sum.inl (t.id : Int), V.ref t.at_) :: tabK r) _ = _
      rw [valV_neg n]
      exact tab_get h2 h
theorem tab_none {i : Int} : ∀ {tab : List En}, (∀ e ∈ tab, (e.id : Int) ≠ i) → valV (tabK tab) (Sum.inl i : Key) = none
  | [], _ => rfl
  | t :: r, h => by
    have n : ¬ ((Sum.inl (t.id : Int) : Key) = Sum.inl i) := fun z => h t List.mem_cons_self (Sum.inl.inj z)
    show valV ((Sum.inl (t.id : Int), V.ref t.at_) :: tabK r) _ = _
    rw [valV_neg n]
    exact tab_none fun e he => h e (List.mem_cons_of_mem _ he)
theorem Ob.get (h : Ob K H p dx tb tab nx) {e : En} (he : e ∈ tab) : DGet H tb (.int (e.id : Int)) (some (.ref e.at_)) := .inl ⟨_, Sum.inl (e.id : Int), .inl h.tbl, rfl, (tab_get h.ord he).symm⟩
/-- entries of one place are one -/
theorem at_inj : ∀ {tab : List En} {a b : En}, (tab.map (·.at_)).Nodup → a ∈ tab → b ∈ tab → a.at_ = b.at_ → a = b
  | [], _, _, _, h, _, _ => by cases h
  | t :: r, a, b, nd, ha, hb, e => by
    obtain ⟨n1, n2⟩ := List.nodup_cons.mp nd
    rcases List.mem_cons.mp ha with ea | ha'
    · rcases List.mem_cons.mp hb with eb | hb'
      · rw [ea, eb]
      · subst ea
        exact absurd (List.mem_map.mpr ⟨b, hb', e.symm⟩) n1
    · rcases List.mem_cons.mp hb with eb | hb'
      · subst eb
        exact absurd (List.mem_map.mpr ⟨a, ha', e⟩) n1
      · exact at_inj n2 ha' hb' e
/-- an entry's slots are others now -/
def setE (tab : List En) (i : Nat) (sl : List Sl) : List En := tab.map fun e => if e.id = i then ⟨e.id, e.at_, sl⟩ else e
theorem setE_at (tab : List En) (i : Nat) (sl : List Sl) : (setE tab i sl).map (·.at_) = tab.map (·.at_) := by
  unfold setE
  rw [List.map_map]
  refine List.map_congr_left fun e _ => ?_
  show (if e.id = i then (⟨e.id, e.at_, sl⟩ : En) else e).at_ = e.at_
  split <;> rfl
theorem setE_id (tab : List En) (i : Nat) (sl : List Sl) : (setE tab i sl).map (·.id) = tab.map (·.id) := by
  unfold setE
  rw [List.map_map]
  refine List.map_congr_left fun e _ => ?_
  show (if e.id = i then (⟨e.id, e.at_, sl⟩ : En) else e).id = e.id
  split <;> rfl
theorem setE_K (tab : List En) (i : Nat) (sl : List Sl) : tabK (setE tab i sl) = tabK tab := by
  unfold setE tabK
  rw [List.map_map]
  refine List.map_congr_left fun e _ => ?_
  show ((Sum.inl (((if e.id = i then (⟨e.id, e.at_, sl⟩ : En) else e).id : Nat) : Int) : Key), V.ref (if e.id = i then (⟨e.id, e.at_, sl⟩ : En) else e).at_) = _
  split <;> rfl
theorem setE_mem {tab : List En} {i : Nat} {sl : List Sl} {e : En} (h : e ∈ setE tab i sl) : ∃ e0 ∈ tab, e = (if e0.id = i then ⟨e0.id, e0.at_, sl⟩ else e0) := by
  obtain ⟨e0, h0, h1⟩ := List.mem_map.mp h
  exact ⟨e0, h0, h1.symm⟩
theorem pw_ids {tab tab' : List En} (h : tab'.map (·.id) = tab.map (·.id)) (o : tab.Pairwise fun a b => a.id < b.id) : tab'.Pairwise fun a b => a.id < b.id := by
  have a : (tab.map (·.id)).Pairwise (· < ·) := List.pairwise_map.mpr o
  rw [← h] at a
  exact List.pairwise_map.mp a
theorem id_inj {tab : List En} (o : tab.Pairwise fun a b => a.id < b.id) {a b : En} (ha : a ∈ tab) (hb : b ∈ tab) (e : a.id = b.id) : a = b := by
  induction tab with
  | nil => cases ha
  | cons t r ih =>
    obtain ⟨h1, h2⟩ := List.pairwise_cons.mp o
    rcases List.mem_cons.mp ha with ea | ha'
    · rcases List.mem_cons.mp hb with eb | hb'
      · rw [ea, eb]
      · subst ea
        have := h1 b hb'
        omega
    · rcases List.mem_cons.mp hb with eb | hb'
      · subst eb
        have := h1 a ha'
        omega
      · exact ih h2 ha' hb'
/-- an entry's dict is written anew -/
theorem Ob.set (h : Ob K H p dx tb tab nx) {e : En} (he : e ∈ tab) {kvs : List (Key × V)} {sl : List Sl} (r : SlR H kvs sl) (nd : NdS sl) (vo : ∀ s ∈ sl, ValOk s.val) : Ob K (upd H e.at_ (.dK kvs)) p dx tb (setE tab e.id sl) nx := by
  obtain ⟨kv0, h0, r0⟩ := h.ent e he
  have tk : TK H (upd H e.at_ (.dK kvs)) := fun a xs z => by
    rw [upd_ne (ne_of z h0 (by intro z; cases z))]
    exact z
  refine ⟨?_, ?_, fun e1 h1 => ?_, by rw [setE_at]; exact h.nda, fun e1 h1 => ?_, pw_ids (setE_id tab e.id sl) h.ord, fun e1 h1 => ?_, fun e1 h1 => ?_, fun e1 h1 => ?_⟩
  · rw [upd_ne (ne_of h.ins h0 (by intro z; cases z))]
    exact h.ins
  · rw [upd_ne (Ne.symm (h.tbn e he)), setE_K]
    exact h.tbl
  · obtain ⟨e0, m0, rfl⟩ := setE_mem h1
    by_cases c : e0.id = e.id
    · rw [if_pos c]
      obtain rfl := id_inj h.ord m0 he c
      exact ⟨kvs, upd_same, r.keep tk⟩
    · rw [if_neg c]
      obtain ⟨kv1, g1, g2⟩ := h.ent e0 m0
      refine ⟨kv1, ?_, g2.keep tk⟩
      rw [upd_ne fun z => c (congrArg (·.id) (at_inj h.nda m0 he z))]
      exact g1
  · obtain ⟨e0, m0, rfl⟩ := setE_mem h1
    split
    · exact h.tbn e0 m0
    · exact h.tbn e0 m0
  · obtain ⟨e0, m0, rfl⟩ := setE_mem h1
    split
    · exact h.lt e0 m0
    · exact h.lt e0 m0
  · obtain ⟨e0, m0, rfl⟩ := setE_mem h1
    split
    · exact nd
    · exact h.nds e0 m0
  · obtain ⟨e0, m0, rfl⟩ := setE_mem h1
    split
    · exact vo
    · exact h.val e0 m0
theorem KO.set {e : En} (he : e ∈ tab) {o : HO} (k : KO p tb tab H H') : KO p tb tab H (upd H' e.at_ o) := fun b u n1 n2 n3 z => by
  rw [upd_ne (n3 e he)]
  exact k b u n1 n2 n3 z
theorem KO.new {a : Addr} {o : HO} (n : H a = none) (k : KO p tb tab H H') : KO p tb tab H (upd H' a o) := fun b u n1 n2 n3 z => by
  rw [upd_ne (ne_of_none z n)]
  exact k b u n1 n2 n3 z
theorem KO.trans {H2 : Hp} (a : KO p tb tab H H') (b : KO p tb tab H' H2) : KO p tb tab H H2 := fun c o n1 n2 n3 z => b c o n1 n2 n3 (a c o n1 n2 n3 z)
/-- free now, free before -/
theorem KO.free {a : Addr} (k : KO p tb tab H H') (h : Ob K H' p dx tb tab nx) (n : H' a = none) : H a = none := by
  cases z : H a with
  | none => rfl
  | some o =>
    have n1 : a ≠ p := fun e => by
      rw [e, h.ins] at n
      cases n
    have n2 : a ≠ tb := fun e => by
      rw [e, h.tbl] at n
      cases n
    have n3 : ∀ e ∈ tab, a ≠ e.at_ := fun e he q => by
      obtain ⟨kvs, g, _⟩ := h.ent e he
      rw [q, g] at n
      cases n
    rw [k a o n1 n2 n3 z] at n
    cases n
end
end Rm

/-! O3: the defs of objects and search: promises, readings (by gen.py), runs. -/
namespace Rm
open PySem PySem.Spec PyProof.Rows L2
/-! ### searches as plain functions -/
def entOf (tab : List En) (i : Int) : Option En := tab.find? fun e => decide ((e.id : Int) = i)
def slotOf (tab : List En) (x : Str) (i : Int) : Option Sl := (entOf tab i).bind fun e => getS e.sl x
def hasS (tab : List En) (x : Str) (i : Int) : Bool := (slotOf tab x i).isSome
def parI (tab : List En) (i : Int) : List Int := match entOf tab i with
  | some e => parS e.sl
  | none => []
def srF (tab : List En) (x : Str) : Nat → List Int → List Int → List Int → List Int × List Int
  | 0, L, A, _ => (L, A)
  | _ + 1, L, A, [] => (L, A)
  | m + 1, L, A, i :: w => if i ∈ L then srF tab x m L A w else if hasS tab x i = true then srF tab x m (L ++ [i]) (A ++ [i]) w else srF tab x m (L ++ [i]) A (parI tab i ++ w)
def bdS (tab : List En) : Nat := (tab.map fun e => (parS e.sl).length).sum
def fuel (tab : List En) (st : List Int) : Nat := tab.length * (bdS tab + 1) + st.length + 1
def srch (tab : List En) (x : Str) (st : List Int) : List Int × List Int := srF tab x (fuel tab st) [] [] st
def outD (tab : List En) (x : Str) : List Int → PyData
  | [] => .tuple [.str ("none" : Str)]
  | [h] => match slotOf tab x h with
    | some s => .tuple [.str ("found" : Str), .int h, .str s.kind, s.val]
    | none => .none
  | _ => .tuple [.str ("several" : Str)]
def resD (tab : List En) (x : Str) (r : List Int × List Int) : PyData := .tuple [outD tab x r.2, .tuple (r.1.map PyData.int)]
def isId (tab : List En) (i : Int) : Prop := ∃ e ∈ tab, (e.id : Int) = i
/-- what is referred to is there -/
def Closed (tab : List En) : Prop := ∀ e ∈ tab, ∀ i ∈ parS e.sl, isId tab i
def lobbyS : Sl := ⟨("lobby" : Str), ("const" : Str), .tuple [.str ("ref" : Str), .int 0]⟩
/-! ### promises -/
def sp_Objects_slot (K : PySem.W.Frag) : Sp := fun vs H Q _ => ∃ (p dx tb : Addr) (tab : List En) (nx : Nat) (e : En) (x : Str), vs = [.ref p, .int (e.id : Int), .str x] ∧ Ob K H p dx tb tab nx ∧ e ∈ tab ∧
  (getS e.sl x = none → Q .non H) ∧ ∀ s q v, getS e.sl x = some s → H q = some (.tup [.str s.kind, v]) → Tr H v s.val → Q (.ref q) H
def sp_Objects_put (K : PySem.W.Frag) : Sp := fun vs H Q _ => ∃ (p dx tb : Addr) (tab : List En) (nx : Nat) (e : En) (x k : Str) (v : V) (d : PyData), vs = [.ref p, .int (e.id : Int), .str x, .str k, v] ∧ Ob K H p dx tb tab nx ∧ e ∈ tab ∧ Tr H v d ∧ ValOk d ∧ e.sl.length ≤ 1000000 ∧
  ∀ H', KO p tb tab H H' → Ob K H' p dx tb (setE tab e.id (putS e.sl ⟨x, k, d⟩)) nx → Q .non H'
def sp_Objects_drop (K : PySem.W.Frag) : Sp := fun vs H Q _ => ∃ (p dx tb : Addr) (tab : List En) (nx : Nat) (e : En) (x : Str), vs = [.ref p, .int (e.id : Int), .str x] ∧ Ob K H p dx tb tab nx ∧ e ∈ tab ∧
  (getS e.sl x = none → Q (.bl false) H) ∧ (getS e.sl x ≠ none → ∀ H', KO p tb tab H H' → Ob K H' p dx tb (setE tab e.id (dropS e.sl x)) nx → Q (.bl true) H')
def sp_Objects_assign (K : PySem.W.Frag) : Sp := fun vs H Q _ => ∃ (p dx tb : Addr) (tab : List En) (nx : Nat) (e : En) (x : Str) (v : V) (d : PyData) (s : Sl), vs = [.ref p, .int (e.id : Int), .str x, v] ∧ Ob K H p dx tb tab nx ∧ e ∈ tab ∧ Tr H v d ∧ ValOk d ∧ e.sl.length ≤ 1000000 ∧ getS e.sl x = some s ∧
  ∀ H', KO p tb tab H H' → Ob K H' p dx tb (setE tab e.id (putS e.sl ⟨x, s.kind, d⟩)) nx → Q .non H'
def sp_Objects_parents (K : PySem.W.Frag) : Sp := fun vs H Q _ => ∃ (p dx tb : Addr) (tab : List En) (nx : Nat) (e : En), vs = [.ref p, .int (e.id : Int)] ∧ Ob K H p dx tb tab nx ∧ e ∈ tab ∧ e.sl.length ≤ 1000000 ∧
  ∀ q H', Same H H' → H q = none → H' q = some (.tup ((parS e.sl).map V.int)) → Q (.ref q) H'
def sp_Objects_make (K : PySem.W.Frag) : Sp := fun vs H Q _ => ∃ (p dx tb : Addr) (tab : List En) (nx : Nat) (a : Addr) (us : List V) (ts : List Sl), vs = [.ref p, .ref a] ∧ Ob K H p dx tb tab nx ∧ H a = some (.tup us) ∧ TrpR H us ts ∧ (∀ s ∈ ts, ValOk s.val) ∧ tab.length ≤ 1000000 ∧ ts.length ≤ 1000000 ∧
  ∀ o H', H o = none → KO p tb tab H H' → Ob K H' p dx tb (tab ++ [⟨nx, o, mkS ts⟩]) (nx + 1) → Q (.int (nx : Int)) H'
def sp_Objects_init (K : PySem.W.Frag) : Sp := fun vs H Q _ => ∃ (p dx : Addr), vs = [.ref p] ∧ H p = some (.ins (OC K) dx []) ∧
  ∀ tb o H', (∀ b u, b ≠ p → H b = some u → H' b = some u) → H tb = none → H o = none → Ob K H' p dx tb [⟨0, o, [lobbyS]⟩] 1 → Q .non H'
def sp_outcome_of (K : PySem.W.Frag) : Sp := fun vs H Q _ => ∃ (p dx tb : Addr) (tab : List En) (nx : Nat) (a : Addr) (hs : List Int) (x : Str), vs = [.ref p, .ref a, .str x] ∧ Ob K H p dx tb tab nx ∧ H a = some (.lst (hs.map V.int)) ∧ (∀ h ∈ hs, hasS tab x h = true) ∧
  ∀ q H', Same H H' → Tr H' (.ref q) (outD tab x hs) → Q (.ref q) H'
def sp_search (K : PySem.W.Frag) : Sp := fun vs H Q _ => ∃ (p dx tb : Addr) (tab : List En) (nx : Nat) (a : Addr) (st : List Int) (x : Str), vs = [.ref p, .ref a, .str x] ∧ Ob K H p dx tb tab nx ∧ H a = some (.tup (st.map V.int)) ∧ (∀ i ∈ st, isId tab i) ∧ Closed tab ∧ (∀ e ∈ tab, e.sl.length ≤ 1000000) ∧ fuel tab st ≤ 10000000 ∧
  ∀ q H', Same H H' → Tr H' (.ref q) (resD tab x (srch tab x st)) → Q (.ref q) H'
/-! ### readings -/

def ns_Objects_slot : List Str := ["self", "object_id", "name"]
def t_Objects_slot (K : PySem.W.Frag) (E : XK) : TS :=
  (tRet (tDGet1 (tDGet (tFld K (tVar 0) ("table" : Str)) (tVar 1)) (tVar 2)))

def ns_Objects_put : List Str := ["self", "object_id", "name", "kind", "value"]
def t_Objects_put (K : PySem.W.Frag) (E : XK) : TS :=
  (sDPut (tDGet (tFld K (tVar 0) ("table" : Str)) (tVar 1)) (tVar 2) (tTup (tCons (tVar 3) (tCons (tVar 4) tNil))))

def ns_Objects_drop : List Str := ["self", "object_id", "name"]
def t_Objects_drop (K : PySem.W.Frag) (E : XK) : TS :=
  (tSeq (tIfS (tB (tDNotIn (tVar 2) (tDGet (tFld K (tVar 0) ("table" : Str)) (tVar 1))))
      (tRet (tC (.bl false)))
      tNext)
    (tSeq (sDDel (tDGet (tFld K (tVar 0) ("table" : Str)) (tVar 1)) (tVar 2))
    (tRet (tC (.bl true)))))

def ns_Objects_assign : List Str := ["self", "object_id", "name", "value", "kind", "_"]
def t_Objects_assign (K : PySem.W.Frag) (E : XK) : TS :=
  (tSeq (tAsg (tDGet (tDGet (tFld K (tVar 0) ("table" : Str)) (tVar 1)) (tVar 2)) (gTup K 2 (gCons (gName 4) (gCons (gName 5) gNil))))
    (sDPut (tDGet (tFld K (tVar 0) ("table" : Str)) (tVar 1)) (tVar 2) (tTup (tCons (tVar 4) (tCons (tVar 3) tNil)))))

def ns_Objects_parents : List Str := ["self", "object_id", "found", "kind", "value"]
def t_Objects_parents (K : PySem.W.Frag) (E : XK) : TS :=
  (tSeq (tAsg (tLst tNil) (gName 2))
    (tSeq (tLock (tFor (iVals (tDGet (tFld K (tVar 0) ("table" : Str)) (tVar 1))) (gTup K 2 (gCons (gName 3) (gCons (gName 4) gNil)))
      (tIfS (tAnd (tTest (tOp (rIn K false) (tVar 3) (tC (.ref (He.ga K ("PARENT_KINDS" : Str)))))) (tTest (tOp rEq (tOp (rIxT K) (tVar 4) (tC (.int 0))) (tC (.str ("ref" : Str))))))
      (tDrop (tBM K "list" rAppend (tVar 2) (tCons (tOp (rIxT K) (tVar 4) (tC (.int 1))) tNil)))
      tNext)))
    (tRet (tCB (rTupleOf K) (tCons (tVar 2) tNil)))))

def ns_Objects_make : List Str := ["self", "slots", "object_id", "name", "kind", "value"]
def t_Objects_make (K : PySem.W.Frag) (E : XK) : TS :=
  (tSeq (tAsg (tFld K (tVar 0) ("next_id" : Str)) (gName 2))
    (tSeq (sFldAug K (tVar 0) (tC (.int 1)) rAdd ("next_id" : Str))
    (tSeq (sDPut (tFld K (tVar 0) ("table" : Str)) (tVar 2) tDNewK)
    (tSeq (tFor (iTup K (tVar 1)) (gTup K 3 (gCons (gName 3) (gCons (gName 4) (gCons (gName 5) gNil))))
      (tDrop (tMeth (He.ga K ("Objects" : Str)) ("put" : Str) (sp_Objects_put K) [] E (tVar 0) (tCons (tVar 2) (tCons (tVar 3) (tCons (tVar 4) (tCons (tVar 5) tNil)))))))
    (tRet (tVar 2))))))

def ns_Objects_init : List Str := ["self"]
def t_Objects_init (K : PySem.W.Frag) (E : XK) : TS :=
  (tSeq (sFld K (tVar 0) tDNewK ("table" : Str))
    (tSeq (sFld K (tVar 0) (tC (.int 0)) ("next_id" : Str))
    (tDrop (tMeth (He.ga K ("Objects" : Str)) ("make" : Str) (sp_Objects_make K) [] E (tVar 0) (tCons (tTup (tCons (tTup (tCons (tC (.str ("lobby" : Str))) (tCons (tC (.str ("const" : Str))) (tCons (tTup (tCons (tC (.str ("ref" : Str))) (tCons (tC (.int 0)) tNil))) tNil)))) tNil)) tNil)))))

def ns_outcome_of : List Str := ["objects", "holders", "name", "kind", "value"]
def t_outcome_of (K : PySem.W.Frag) (E : XK) : TS :=
  (tSeq (tIfS (tTest (tOp rEq (tCB (rLen K) (tCons (tVar 1) tNil)) (tC (.int 0))))
      (tRet (tTup (tCons (tC (.str ("none" : Str))) tNil)))
      tNext)
    (tSeq (tIfS (tTest (tOp rGtI (tCB (rLen K) (tCons (tVar 1) tNil)) (tC (.int 1))))
      (tRet (tTup (tCons (tC (.str ("several" : Str))) tNil)))
      tNext)
    (tSeq (tAsg (tMeth (He.ga K ("Objects" : Str)) ("slot" : Str) (sp_Objects_slot K) [] E (tVar 0) (tCons (tOp (rIxL K) (tVar 1) (tC (.int 0))) (tCons (tVar 2) tNil))) (gTup K 2 (gCons (gName 3) (gCons (gName 4) gNil))))
    (tRet (tTup (tCons (tC (.str ("found" : Str))) (tCons (tOp (rIxL K) (tVar 1) (tC (.int 0))) (tCons (tVar 3) (tCons (tVar 4) tNil)))))))))

def ns_search : List Str := ["objects", "starts", "name", "looked", "holders", "waiting", "object_id"]
def t_search (K : PySem.W.Frag) (E : XK) : TS :=
  (tSeq (tAsg tDNewK (gName 3))
    (tSeq (tAsg (tLst tNil) (gName 4))
    (tSeq (tAsg (tCB (rListOf K) (tCons (tRevT K (tVar 1)) tNil)) (gName 5))
    (tSeq (tWhile (tTest (tOp rGtI (tCB (rLen K) (tCons (tVar 5) tNil)) (tC (.int 0))))
      (tSeq (tAsg (tBM0 K "list" rPop (tVar 5)) (gName 6))
    (tSeq (tIfS (tB (tDIn (tVar 6) (tVar 3)))
      tCont
      tNext)
    (tSeq (sDPut (tVar 3) (tVar 6) (tC (.bl true)))
    (tIfS (tTest (tOp rNotN (tMeth (He.ga K ("Objects" : Str)) ("slot" : Str) (sp_Objects_slot K) [] E (tVar 0) (tCons (tVar 6) (tCons (tVar 2) tNil))) (tC .non)))
      (tDrop (tBM K "list" rAppend (tVar 4) (tCons (tVar 6) tNil)))
      (tDrop (tBM K "list" (rExtendT K) (tVar 5) (tCons (tRevT K (tMeth (He.ga K ("Objects" : Str)) ("parents" : Str) (sp_Objects_parents K) [] E (tVar 0) (tCons (tVar 6) tNil))) tNil))))))))
    (tRet (tTup (tCons (tCall (sp_outcome_of K) [] E (tCons (tVar 0) (tCons (tVar 4) (tCons (tVar 2) tNil)))) (tCons (tCB rTupleD (tCons (tVar 3) tNil)) tNil))))))))

section
variable {K : PySem.W.Frag} {vs : List V} {H : Hp} {Q : VK} {E : XK}
theorem run_Objects_slot (S : ObC K) (h : sp_Objects_slot K vs H Q E) : t_Objects_slot K E (DQ Q) (start ns_Objects_slot vs) H := by
  obtain ⟨p, dx, tb, tab, nx, e, x, rfl, O, he, q1, q2⟩ := h
  obtain ⟨kvs, hk, r⟩ := O.ent e he
  refine ⟨_, rfl, p, _, dx, _, _, rfl, O.ins, S.cl, S.nt, obF_t, _, rfl, tb, _, rfl, O.get he, e.at_, rfl, .inl ⟨_, .inl hk⟩, _, rfl, _, DGet.k (k := Sum.inr x) hk, ?_⟩
  cases z : getS e.sl x with
  | none =>
    rw [r.none_ z]
    exact q1 z
  | some s =>
    obtain ⟨qa, v, e1, e2, e3⟩ := r.some_ z
    rw [e1]
    exact q2 s qa v z e2 e3
theorem run_Objects_put (S : ObC K) (h : sp_Objects_put K vs H Q E) : t_Objects_put K E (DQ Q) (start ns_Objects_put vs) H := by
  obtain ⟨p, dx, tb, tab, nx, e, x, k, v, d, rfl, O, he, tv, vo, hl, q⟩ := h
  refine ⟨_, rfl, _, rfl, (by show 2 ≤ sizeLine; decide), fun qa nqa => ?_⟩
  have s1 := same_upd (o := .tup [V.str k, v]) nqa
  have O1 := O.same s1
  obtain ⟨kvs, hk, r⟩ := O1.ent e he
  refine ⟨_, rfl, p, _, dx, _, _, rfl, O1.ins, S.cl, S.nt, obF_t, _, rfl, tb, _, rfl, O1.get he, _, rfl, e.at_, _, rfl, DPut.k (k := Sum.inr x) hk (Nat.lt_of_le_of_lt (by rw [r.len]; exact hl) (by decide)), ?_⟩
  have r2 := r.put (n := ⟨x, k, d⟩) upd_same (tv.keep fun a xs z => s1 a _ z) (O1.nds e he)
  refine q _ (KO.set he (KO.of_same s1)) (O1.set he r2 (putS_nd _ (O1.nds e he)) fun s hs => ?_)
  rcases putS_mem hs with hs | rfl
  · exact O1.val e he s hs
  · exact vo
theorem run_Objects_drop (S : ObC K) (h : sp_Objects_drop K vs H Q E) : t_Objects_drop K E (DQ Q) (start ns_Objects_drop vs) H := by
  obtain ⟨p, dx, tb, tab, nx, e, x, rfl, O, he, q1, q2⟩ := h
  obtain ⟨kvs, hk, r⟩ := O.ent e he
  refine ⟨_, rfl, _, rfl, p, _, dx, _, _, rfl, O.ins, S.cl, S.nt, obF_t, _, rfl, tb, _, rfl, O.get he, e.at_, _, rfl, DGet.k (k := Sum.inr x) hk, _, rfl, ?_⟩
  cases z : getS e.sl x with
  | none =>
    rw [r.none_ z]
    exact iteT (q1 z)
  | some s =>
    obtain ⟨qa, v, e1, e2, e3⟩ := r.some_ z
    rw [e1]
    refine iteF ?_
    refine ⟨_, rfl, p, _, dx, _, _, rfl, O.ins, S.cl, S.nt, obF_t, _, rfl, tb, _, rfl, O.get he, _, rfl, e.at_, kvs, Sum.inr x, rfl, hk, rfl, by rw [e1]; rfl, ?_⟩
    refine q2 (by rw [z]; intro y; cases y) _ (KO.set he (KO.refl p tb tab H)) (O.set he r.drop (dropS_nd x (O.nds e he)) fun s hs => O.val e he s (List.mem_filter.mp hs).1)
theorem run_Objects_assign (S : ObC K) (h : sp_Objects_assign K vs H Q E) : t_Objects_assign K E (DQ Q) (start ns_Objects_assign vs) H := by
  obtain ⟨p, dx, tb, tab, nx, e, x, v, d, s, rfl, O, he, tv, vo, hl, hs, q⟩ := h
  obtain ⟨kvs, hk, r⟩ := O.ent e he
  obtain ⟨qa, v0, e1, e2, e3⟩ := r.some_ hs
  have g : DGet H e.at_ (.str x) (some (.ref qa)) := .inl ⟨_, Sum.inr x, .inl hk, rfl, e1.symm⟩
  refine ⟨_, rfl, p, _, dx, _, _, rfl, O.ins, S.cl, S.nt, obF_t, _, rfl, tb, _, rfl, O.get he, _, rfl, e.at_, _, rfl, g, ?_⟩
  refine ⟨qa, _, rfl, SqT.of e2, rfl, _, _, rfl, _, _, rfl, rfl, ?_⟩
  refine ⟨_, rfl, _, rfl, (by show 2 ≤ sizeLine; decide), fun qb nqb => ?_⟩
  have s1 := same_upd (o := .tup [V.str s.kind, v]) nqb
  have O1 := O.same s1
  refine ⟨_, rfl, p, _, dx, _, _, rfl, O1.ins, S.cl, S.nt, obF_t, _, rfl, tb, _, rfl, O1.get he, _, rfl, e.at_, _, rfl, DPut.k (k := Sum.inr x) (s1 _ _ hk) (Nat.lt_of_le_of_lt (by rw [r.len]; exact hl) (by decide)), ?_⟩
  have r2 := (r.keep (H' := upd H qb (.tup [V.str s.kind, v])) fun a xs z => s1 a _ z).put (n := ⟨x, s.kind, d⟩) upd_same (tv.keep fun a xs z => s1 a _ z) (O1.nds e he)
  refine q _ (KO.set he (KO.of_same s1)) (O1.set he r2 (putS_nd _ (O1.nds e he)) fun t ht => ?_)
  rcases putS_mem ht with ht | rfl
  · exact O1.val e he t ht
  · exact vo
theorem SlR.at_ {H : Hp} : ∀ {kvs : List (Key × V)} {sl : List Sl} (i : Nat) {k : Key} {x : V}, SlR H kvs sl → kvs[i]? = some (k, x) → ∃ s q v, sl[i]? = some s ∧ x = .ref q ∧ H q = some (.tup [.str s.kind, v]) ∧ Tr H v s.val
  | _, _, _, _, _, .nil, e => by simp at e
  | _, _, 0, _, _, .cons h t r, e => by
    cases e
    exact ⟨_, _, _, rfl, rfl, h, t⟩
  | _, _, i + 1, _, _, .cons h t r, e => r.at_ i e
theorem parS_snoc (a : List Sl) (s : Sl) : parS (a ++ [s]) = parS a ++ (parOf s).toList := by
  unfold parS
  rw [List.filterMap_append]
  cases z : parOf s with
  | none => rw [List.filterMap_cons_none z]; rfl
  | some i => rw [List.filterMap_cons_some z]; rfl
theorem parS_len (a : List Sl) : (parS a).length ≤ a.length := List.length_filterMap_le _ _
theorem in_kinds (k : Str) : inV (.str k) (["parent", "varparent"].map mS) = isPar k := by
  have e : ["parent", "varparent"].map mS = [("parent" : Str), ("varparent" : Str)].map V.str := rfl
  rw [e, in_strs]
  unfold isPar
  rw [Bool.eq_iff_iff]
  simp
theorem run_Objects_parents (S : ObC K) (hP : ∀ H, SqT K H (He.ga K ("PARENT_KINDS" : Str)) (["parent", "varparent"].map mS)) (h : sp_Objects_parents K vs H Q E) : t_Objects_parents K E (DQ Q) (start ns_Objects_parents vs) H := by
  obtain ⟨p, dx, tb, tab, nx, e, rfl, O, he, hl, q⟩ := h
  refine ⟨(by show 0 ≤ sizeLine; decide), fun f nf => ?_⟩
  have s1 := same_upd (o := .lst []) nf
  have O1 := O.same s1
  obtain ⟨kvs, hk, r⟩ := O1.ent e he
  refine ⟨e.at_, .dK kvs, hk, trivial, fun od => ?_⟩
  have np : p ≠ e.at_ := ne_of O1.ins hk (by intro z; cases z)
  have nt : tb ≠ e.at_ := Ne.symm (O1.tbn e he)
  have nfe : f ≠ e.at_ := ne_of upd_same hk (by intro z; cases z)
  have hp : (upd (upd H f (.lst [])) e.at_ (.frz od (.dK kvs))) p = _ := (upd_ne np).trans O1.ins
  have ht : (upd (upd H f (.lst [])) e.at_ (.frz od (.dK kvs))) tb = _ := (upd_ne nt).trans O1.tbl
  have hg : DGet (upd (upd H f (.lst [])) e.at_ (.frz od (.dK kvs))) tb (.int (e.id : Int)) (some (.ref e.at_)) := .inl ⟨_, Sum.inl (e.id : Int), .inl ht, rfl, (tab_get O.ord he).symm⟩
  refine ⟨_, rfl, p, _, dx, _, _, rfl, hp, S.cl, S.nt, obF_t, _, rfl, tb, _, rfl, hg, e.at_, od, kvs, rfl, upd_same, ?_⟩
  have lk : kvs.length = e.sl.length := r.len
  refine for_vals (fun i σ G => (∃ v3 v4 : Option V, σ = [some (.ref p), some (.int (e.id : Int)), some (.ref f), v3, v4]) ∧ G f = some (.lst ((parS (e.sl.take i)).map V.int)) ∧ ∀ b, b ≠ f → G b = (upd (upd H f (.lst [])) e.at_ (.frz od (.dK kvs))) b)
    ⟨⟨none, none, rfl⟩, (upd_ne nfe).trans upd_same, fun _ _ => rfl⟩ (fun i σ G z => (z.2.2 _ (Ne.symm nfe)).trans upd_same) ?_ ?_
  · rintro i k x σ G hx ⟨⟨v3, v4, rfl⟩, gf, gb⟩
    obtain ⟨s, qa, v, es, rfl, hq, tv⟩ := r.at_ i hx
    have hi : i < e.sl.length := (List.getElem?_eq_some_iff.mp es).1
    have tup : ∀ a xs, (upd H f (.lst [])) a = some (.tup xs) → G a = some (.tup xs) := fun a xs z => by
      rw [gb a (ne_of z upd_same (by intro z; cases z)), upd_ne (ne_of z hk (by intro z; cases z))]
      exact z
    have et : e.sl.take (i + 1) = e.sl.take i ++ [s] := by rw [List.take_add_one, es]; rfl
    refine ⟨qa, _, rfl, SqT.of (tup _ _ hq), rfl, _, _, rfl, _, _, rfl, rfl, ?_⟩
    refine ⟨_, rfl, _, _, rfl, .inr (hP G), rfl, rfl, _, rfl, ?_⟩
    show (if inV (.str s.kind) (["parent", "varparent"].map mS) = true then _ else _)
    rw [in_kinds]
    have vo := O.val e he s (List.mem_of_getElem? es)
    obtain ⟨w, rs, ev, hw⟩ := vo
    have keep : parOf s = none → G f = some (.lst ((parS (e.sl.take (i + 1))).map V.int)) := fun z => by
      rw [et, parS_snoc, z, gf]
      simp
    refine ite2 (fun c => ?_) (fun c => ?_)
    · rw [ev] at tv
      cases tv with
      | @tup a xs ds ha rt =>
        cases rt with
        | @cons v0 vs0 d0 ds0 t0 rt =>
          cases t0
          refine ⟨_, rfl, a, _, _, _, rfl, rfl, SqT.of (tup _ _ ha), atI_nat (j := 0) rfl, rfl, _, rfl, ?_⟩
          refine ite2 (fun cw => ?_) (fun cw => ?_)
          · have cw : w = ("ref" : Str) := V.str.inj (of_decide_eq_true cw)
            obtain ⟨j, r', er⟩ := hw cw
            subst er
            cases rt with
            | @cons v1 vs1 d1 ds1 t1 rt =>
              cases t1
              have ep : parOf s = some j := by
                unfold parOf
                rw [if_pos c, ev]
                show (if w = ("ref" : Str) then some j else none) = _
                rw [if_pos cw]
              refine ⟨_, rfl, .inl ⟨rfl, _, SqL.of gf⟩, _, rfl, a, _, _, _, rfl, rfl, SqT.of (tup _ _ ha), atI_nat (j := 1) rfl, f, _, _, rfl, rfl, gf, ?_, ?_⟩
              · rw [List.length_map]
                refine Nat.lt_of_le_of_lt (parS_len _) (Nat.lt_of_le_of_lt (List.length_take_le _ _) (Nat.lt_of_lt_of_le hi ?_))
                exact Nat.le_trans hl (by decide)
              · refine ⟨⟨_, _, rfl⟩, ?_, fun b n => (upd_ne n).trans (gb b n)⟩
                rw [upd_same, et, parS_snoc, ep, List.map_append]
                rfl
          · have cw : ¬ w = ("ref" : Str) := fun z => cw (decide_eq_true (by rw [z]))
            have ep : parOf s = none := by
              unfold parOf
              rw [if_pos c, ev]
              unfold refOf
              split
              · rename_i w2 j2 r2 e2
                injection e2 with e2
                injection e2 with e2 e3
                injection e2 with e2
                subst e2
                rw [if_neg cw]
              · rfl
            exact ⟨⟨_, _, rfl⟩, keep ep, gb⟩
    · have ep : parOf s = none := by
        unfold parOf
        rw [if_neg c]
      exact ⟨⟨_, _, rfl⟩, keep ep, gb⟩
  · rintro σ G ⟨⟨v3, v4, rfl⟩, gf, gb⟩
    rw [lk, List.take_length] at gf
    refine ⟨(gb _ (Ne.symm nfe)).trans upd_same, ?_⟩
    have gf2 : (upd G e.at_ (.dK kvs)) f = some (.lst ((parS e.sl).map V.int)) := (upd_ne nfe).trans gf
    have sm : Same H (upd G e.at_ (.dK kvs)) := fun b u z => by
      have z1 := s1 b u z
      by_cases c : b = e.at_
      · rw [c] at z1 ⊢
        rw [upd_same, ← hk, z1]
      · rw [upd_ne c, gb b (ne_of_none z nf), upd_ne c]
        exact z1
    refine ⟨_, rfl, f, _, rfl, .inl ⟨SqL.of gf2, fun l nl => ?_⟩⟩
    exact q l _ (sm.trans (same_upd nl)) (Same.free sm nl) upd_same
theorem run_Objects_make (S : ObC K) (h : sp_Objects_make K vs H Q E) : t_Objects_make K E (DQ Q) (start ns_Objects_make vs) H := by
  obtain ⟨p, dx, tb, tab, nx, a, us, ts, rfl, O, ha, tr, vo, ht, hts, q⟩ := h
  refine ⟨_, rfl, p, _, dx, _, _, rfl, O.ins, S.cl, S.nn, obF_n, ?_⟩
  refine ⟨_, rfl, p, _, dx, _, _, rfl, O.ins, S.cl, S.nn, obF_n, _, _, rfl, rfl, dx, _, O.ins, (by show 2 < 1000; decide), ?_⟩
  rw [obF_put]
  have ntp : tb ≠ p := ne_of O.tbl O.ins (by intro z; cases z)
  intro o no
  have np : p ≠ o := ne_of_none upd_same no
  have no0 : H o = none := by
    rw [upd_ne (Ne.symm np)] at no
    exact no
  have nto : tb ≠ o := ne_of_none O.tbl no0
  refine ⟨_, rfl, p, _, dx, _, _, rfl, (upd_ne np).trans upd_same, S.cl, S.nt, obF_t, _, rfl, tb, _, rfl, DPut.k (k := Sum.inl (nx : Int)) ((upd_ne nto).trans ((upd_ne ntp).trans O.tbl)) (Nat.lt_of_le_of_lt (by unfold tabK; rw [List.length_map]; exact ht) (by decide)), ?_⟩
  have nn : ∀ e ∈ tab, (e.id : Int) ≠ (nx : Int) := fun e he z => by
    have := O.lt e he
    omega
  rw [putK_new _ (tab_none nn)]
  have et : tabK tab ++ [(Sum.inl (nx : Int), V.ref o)] = tabK (tab ++ [⟨nx, o, []⟩]) := by
    unfold tabK
    rw [List.map_append]
    rfl
  rw [et]
  have ko : KO p tb tab H (upd (upd (upd H p (.ins (OC K) dx (obF tb ((nx : Int) + 1)))) o (.dK [])) tb (.dK (tabK (tab ++ [⟨nx, o, []⟩])))) := fun b u n1 n2 n3 z => by
    rw [upd_ne n2, upd_ne (ne_of_none z no0), upd_ne n1]
    exact z
  have neo : ∀ e ∈ tab, e.at_ ≠ o := fun e he => by
    obtain ⟨kvs, g, _⟩ := O.ent e he
    exact ne_of_none g no0
  have tk := O.tk ko
  have O1 : Ob K (upd (upd (upd H p (.ins (OC K) dx (obF tb ((nx : Int) + 1)))) o (.dK [])) tb (.dK (tabK (tab ++ [⟨nx, o, []⟩])))) p dx tb (tab ++ [⟨nx, o, mkS (ts.take 0)⟩]) (nx + 1) := by
    refine ⟨?_, upd_same, fun e he => ?_, ?_, fun e he => ?_, ?_, fun e he => ?_, fun e he => ?_, fun e he => ?_⟩
    · rw [upd_ne (Ne.symm ntp), upd_ne np, upd_same]
      rfl
    · rcases List.mem_append.mp he with he | he
      · obtain ⟨kvs, g, r⟩ := O.ent e he
        refine ⟨kvs, ?_, r.keep tk⟩
        rw [upd_ne (O.tbn e he), upd_ne (neo e he), upd_ne (ne_of g O.ins (by intro z; cases z))]
        exact g
      · rw [List.mem_singleton.mp he]
        exact ⟨[], by rw [upd_ne (Ne.symm nto), upd_same], .nil⟩
    · rw [List.map_append]
      refine List.nodup_append.mpr ⟨O.nda, by simp, fun x hx y hy => ?_⟩
      obtain ⟨e, he, rfl⟩ := List.mem_map.mp hx
      rw [List.mem_singleton.mp hy]
      exact neo e he
    · rcases List.mem_append.mp he with he | he
      · exact O.tbn e he
      · rw [List.mem_singleton.mp he]
        exact Ne.symm nto
    · refine List.pairwise_append.mpr ⟨O.ord, List.pairwise_singleton _ _, fun x hx y hy => ?_⟩
      rw [List.mem_singleton.mp hy]
      exact O.lt x hx
    · rcases List.mem_append.mp he with he | he
      · exact Nat.lt_succ_of_lt (O.lt e he)
      · rw [List.mem_singleton.mp he]
        exact Nat.lt_succ_self _
    · rcases List.mem_append.mp he with he | he
      · exact O.nds e he
      · rw [List.mem_singleton.mp he]
        exact List.nodup_nil
    · rcases List.mem_append.mp he with he | he
      · exact O.val e he
      · rw [List.mem_singleton.mp he]
        exact fun s hs => by cases hs
  generalize (upd (upd (upd H p (.ins (OC K) dx (obF tb ((nx : Int) + 1)))) o (.dK [])) tb (.dK (tabK (tab ++ [⟨nx, o, []⟩])))) = G0 at ko tk O1 ⊢
  have ha0 := tk _ _ ha
  refine ⟨_, rfl, a, rfl, ⟨_, SqT.of ha0⟩, ?_⟩
  have mk_len : ∀ l : List Sl, (mkS l).length ≤ l.length := fun l => by
    have z : ∀ (l acc : List Sl), (l.foldl putS acc).length ≤ acc.length + l.length := by
      intro l
      induction l with
      | nil => exact fun acc => Nat.le_refl _
      | cons s l ih =>
        intro acc
        have a := ih (putS acc s)
        have b := putS_len acc s
        rw [List.foldl_cons, List.length_cons]
        omega
    have := z l []
    simpa [mkS] using this
  refine for_tup (xs := us) (fun i σ G => (∃ v3 v4 v5 : Option V, σ = [some (.ref p), some (.ref a), some (.int (nx : Int)), v3, v4, v5]) ∧ KO p tb tab H G ∧ Ob K G p dx tb (tab ++ [⟨nx, o, mkS (ts.take i)⟩]) (nx + 1)) ⟨⟨none, none, none, rfl⟩, ko, O1⟩
    (fun i σ G _ z => SqT.of (O.tk z.2.1 _ _ ha)) ?_ ?_
  · rintro i x σ G hx ⟨⟨v3, v4, v5, rfl⟩, kg, OG⟩
    obtain ⟨s, t, v, es, rfl, hq, tv⟩ := tr.at_ i hx
    have tkg := O.tk kg
    have hi : i < ts.length := (List.getElem?_eq_some_iff.mp es).1
    have em : (⟨nx, o, mkS (ts.take i)⟩ : En) ∈ tab ++ [⟨nx, o, mkS (ts.take i)⟩] := List.mem_append_right _ (List.mem_singleton.mpr rfl)
    refine ⟨t, _, rfl, SqT.of (tkg _ _ hq), rfl, _, _, rfl, _, _, rfl, _, _, rfl, rfl, ?_⟩
    refine ⟨_, rfl, p, dx, _, rfl, OG.ins, obF_no (by decide +kernel) (by decide +kernel), _, rfl, _, rfl, _, rfl, _, rfl, ?_⟩
    refine ⟨p, dx, tb, _, nx + 1, _, s.name, s.kind, v, s.val, rfl, OG, em, tv.keep tkg, vo s (List.mem_of_getElem? es), Nat.le_trans (mk_len _) (Nat.le_trans (List.length_take_le _ _) (by omega)), fun G2 k2 O2 => ?_⟩
    have e2 : setE (tab ++ [⟨nx, o, mkS (ts.take i)⟩]) nx (putS (mkS (ts.take i)) ⟨s.name, s.kind, s.val⟩) = tab ++ [⟨nx, o, mkS (ts.take (i + 1))⟩] := by
      unfold setE
      rw [List.map_append]
      have a1 : tab.map (fun e => if e.id = nx then (⟨e.id, e.at_, putS (mkS (ts.take i)) ⟨s.name, s.kind, s.val⟩⟩ : En) else e) = tab := by
        have z : ∀ e ∈ tab, (fun e : En => if e.id = nx then (⟨e.id, e.at_, putS (mkS (ts.take i)) ⟨s.name, s.kind, s.val⟩⟩ : En) else e) e = id e := fun e he => by
          have := O.lt e he
          exact if_neg (by omega)
        rw [List.map_congr_left z, List.map_id]
      have a2 : ts.take (i + 1) = ts.take i ++ [s] := by rw [List.take_add_one, es]; rfl
      rw [a1, a2, mkS_snoc, List.map_cons, List.map_nil, if_pos rfl]
    rw [e2] at O2
    refine ⟨⟨_, _, _, rfl⟩, fun b u c1 c2 c3 z => ?_, O2⟩
    refine k2 b u c1 c2 (fun e he => ?_) (kg b u c1 c2 c3 z)
    rcases List.mem_append.mp he with he | he
    · exact c3 e he
    · rw [List.mem_singleton.mp he]
      exact ne_of_none z no0
  · rintro σ G ⟨⟨v3, v4, v5, rfl⟩, kg, OG⟩
    rw [tr.len, List.take_length] at OG
    exact ⟨_, rfl, q o G no0 kg OG⟩
theorem run_Objects_init (S : ObC K) (h : sp_Objects_init K vs H Q E) : t_Objects_init K E (DQ Q) (start ns_Objects_init vs) H := by
  obtain ⟨p, dx, rfl, hp, q⟩ := h
  intro tb nt
  have npt : p ≠ tb := ne_of_none hp nt
  refine ⟨_, rfl, p, _, dx, _, rfl, (upd_ne npt).trans hp, S.cl, S.nt, (by show 0 < 1000; decide), ?_⟩
  refine ⟨_, rfl, p, _, dx, _, rfl, upd_same, S.cl, S.nn, (by show 1 < 1000; decide), ?_⟩
  rw [obF_init, upd_upd]
  have O1 : Ob K (upd (upd H tb (.dK [])) p (.ins (OC K) dx (obF tb 0))) p dx tb [] 0 := ⟨upd_same, (upd_ne (Ne.symm npt)).trans upd_same, (fun e he => by cases he), List.nodup_nil, (fun e he => by cases he), .nil, (fun e he => by cases he), (fun e he => by cases he), fun e he => by cases he⟩
  have k1 : ∀ b u, b ≠ p → H b = some u → (upd (upd H tb (.dK [])) p (.ins (OC K) dx (obF tb 0))) b = some u := fun b u n z => by
    rw [upd_ne n, upd_ne (ne_of_none z nt)]
    exact z
  refine ⟨_, rfl, p, dx, _, rfl, upd_same, obF_no (by decide +kernel) (by decide +kernel), (by show 2 ≤ sizeLine; decide), fun r1 n1 => ⟨(by show 3 ≤ sizeLine; decide), fun r2 n2 => ⟨(by show 1 ≤ sizeLine; decide), fun r3 n3 => ?_⟩⟩⟩
  have s1 := same_upd (o := .tup [V.str ("ref" : Str), V.int 0]) n1
  have s2 := same_upd (o := .tup [V.str ("lobby" : Str), V.str ("const" : Str), V.ref r1]) n2
  have s3 := same_upd (o := .tup [V.ref r2]) n3
  have O2 := ((O1.same s1).same s2).same s3
  have T1 := Tr.tup (ds := [.str ("ref" : Str), .int 0]) (s3 _ _ (s2 _ _ (upd_same (H := (upd (upd H tb (.dK [])) p (.ins (OC K) dx (obF tb 0)))) (a := r1) (o := .tup [V.str ("ref" : Str), V.int 0])))) (.cons (.str _) (.cons (.int _) .nil))
  refine ⟨p, dx, tb, [], 0, r3, [.ref r2], [lobbyS], rfl, O2, upd_same, .cons (s3 _ _ upd_same) T1 .nil, (fun s hs => ?_), by decide, (by show 1 ≤ 1000000; decide), fun o H' no ko O3 => ?_⟩
  · rw [List.mem_singleton.mp hs]
    exact ⟨_, _, rfl, fun _ => ⟨_, _, rfl⟩⟩
  · have no1 : (upd (upd H tb (.dK [])) p (.ins (OC K) dx (obF tb 0))) o = none := Same.free ((s1.trans s2).trans s3) no
    have no2 : H o = none := by
      have a : o ≠ p := fun z => by
        rw [z, upd_same] at no1
        cases no1
      rw [upd_ne a] at no1
      have b : o ≠ tb := fun z => by
        rw [z, upd_same] at no1
        cases no1
      rw [upd_ne b] at no1
      exact no1
    refine q tb o H' (fun b u n z => ?_) nt no2 O3
    exact ko b u n (ne_of_none z nt) (fun e he => by cases he) (s3 _ _ (s2 _ _ (s1 _ _ (k1 b u n z))))
theorem entOf_mem {tab : List En} (o : tab.Pairwise fun a b => a.id < b.id) {e : En} (he : e ∈ tab) : entOf tab (e.id : Int) = some e := by
  unfold entOf
  cases z : tab.find? fun a => decide ((a.id : Int) = (e.id : Int)) with
  | none =>
    have := List.find?_eq_none.mp z e he
    simp at this
  | some a =>
    have h1 := List.find?_some z
    have h2 := List.mem_of_find?_eq_some z
    have h1 : (a.id : Int) = (e.id : Int) := of_decide_eq_true h1
    rw [id_inj o h2 he (by omega)]
theorem slotOf_mem {tab : List En} (o : tab.Pairwise fun a b => a.id < b.id) {e : En} (he : e ∈ tab) (x : Str) : slotOf tab x (e.id : Int) = getS e.sl x := by
  unfold slotOf
  rw [entOf_mem o he]
  rfl
theorem parI_mem {tab : List En} (o : tab.Pairwise fun a b => a.id < b.id) {e : En} (he : e ∈ tab) : parI tab (e.id : Int) = parS e.sl := by
  unfold parI
  rw [entOf_mem o he]
theorem hasS_id {tab : List En} {x : Str} {i : Int} (h : hasS tab x i = true) : ∃ e ∈ tab, (e.id : Int) = i ∧ ∃ s, getS e.sl x = some s := by
  unfold hasS slotOf entOf at h
  cases z : tab.find? fun a => decide ((a.id : Int) = i) with
  | none =>
    rw [z] at h
    cases h
  | some a =>
    rw [z] at h
    have h : (getS a.sl x).isSome = true := h
    have h1 := List.find?_some z
    obtain ⟨s, hs⟩ := Option.isSome_iff_exists.mp h
    exact ⟨a, List.mem_of_find?_eq_some z, of_decide_eq_true h1, s, hs⟩
theorem int_nat {i : Int} (h : 0 ≤ i) : ∃ n : Nat, i = (n : Int) := ⟨i.toNat, by omega⟩
theorem run_outcome_of (S : ObC K) (h : sp_outcome_of K vs H Q E) : t_outcome_of K E (DQ Q) (start ns_outcome_of vs) H := by
  obtain ⟨p, dx, tb, tab, nx, a, hs, x, rfl, O, ha, hh, q⟩ := h
  have len : ∀ n : Nat, hs.length = n → (hs.map V.int).length = n := fun n e => by rw [List.length_map]; exact e
  refine ⟨_, rfl, _, _, rfl, .inl ⟨_, SqL.of ha, rfl⟩, rfl, _, rfl, ?_⟩
  match hs, hh, ha, q, len with
  | [], _, ha, q, _ =>
    refine ite2 (fun _ => ⟨(by show 1 ≤ sizeLine; decide), fun r nr => q r _ (same_upd nr) (.tup upd_same (.cons (.str _) .nil))⟩) (fun c => absurd (decide_eq_true rfl) c)
  | [h1], hh, ha, q, _ =>
    refine ite2 (fun c => absurd (V.int.inj (of_decide_eq_true c)) (by show ¬ ((1 : Nat) : Int) = 0; decide)) (fun _ => ?_)
    refine ⟨_, rfl, _, _, rfl, .inl ⟨_, SqL.of ha, rfl⟩, _, _, rfl, rfl, _, rfl, ?_⟩
    refine ite2 (fun c => absurd (of_decide_eq_true c) (by show ¬ (1 : Int) < ((1 : Nat) : Int); decide)) (fun _ => ?_)
    obtain ⟨e, he, rfl, s, gs⟩ := hasS_id (hh h1 List.mem_cons_self)
    refine ⟨_, rfl, p, dx, _, rfl, O.ins, obF_no (by decide +kernel) (by decide +kernel), _, rfl, a, _, _, _, rfl, rfl, SqL.of ha, atI_nat (j := 0) rfl, _, rfl, ?_⟩
    refine ⟨p, dx, tb, tab, nx, e, x, rfl, O, he, (fun z => by rw [z] at gs; cases gs), fun s2 qa v z hq tv => ?_⟩
    rw [gs] at z
    cases z
    refine ⟨qa, _, rfl, SqT.of hq, rfl, _, _, rfl, _, _, rfl, rfl, _, rfl, a, _, _, _, rfl, rfl, SqL.of ha, atI_nat (j := 0) rfl, _, rfl, _, rfl, (by show 4 ≤ sizeLine; decide), fun r nr => ?_⟩
    refine q r _ (same_upd nr) ?_
    have eo : outD tab x [(e.id : Int)] = .tuple [.str ("found" : Str), .int (e.id : Int), .str s.kind, s.val] := by
      show (match slotOf tab x (e.id : Int) with | some s => PyData.tuple [.str ("found" : Str), .int (e.id : Int), .str s.kind, s.val] | none => .none) = _
      rw [slotOf_mem O.ord he, gs]
    rw [eo]
    exact .tup upd_same (.cons (.str _) (.cons (.int _) (.cons (.str _) (.cons (tv.keep (TK.new nr)) .nil))))
  | h1 :: h2 :: r, _, ha, q, _ =>
    have l2 : ((List.map V.int (h1 :: h2 :: r)).length : Int) = (r.length : Int) + 2 := by
      rw [List.length_map, List.length_cons, List.length_cons]
      omega
    refine ite2 (fun c => absurd (V.int.inj (of_decide_eq_true c)) (by omega)) (fun _ => ?_)
    refine ⟨_, rfl, _, _, rfl, .inl ⟨_, SqL.of ha, rfl⟩, _, _, rfl, rfl, _, rfl, ?_⟩
    refine ite2 (fun c => ?_) (fun c => absurd (decide_eq_true (by omega)) c)
    exact ⟨(by show 1 ≤ sizeLine; decide), fun r nr => q r _ (same_upd nr) (.tup upd_same (.cons (.str _) .nil))⟩
theorem nodup_len : ∀ {L M : List Int}, L.Nodup → (∀ i ∈ L, i ∈ M) → L.length ≤ M.length
  | [], _, _, _ => Nat.zero_le _
  | i :: L, M, nd, h => by
    obtain ⟨n1, n2⟩ := List.nodup_cons.mp nd
    have hi := h i List.mem_cons_self
    have e := List.length_erase_of_mem hi
    have pos : 0 < M.length := List.length_pos_of_mem hi
    have ih := nodup_len (M := M.erase i) n2 fun j hj => (List.mem_erase_of_ne (fun z => n1 (by rw [← z]; exact hj))).mpr (h j (List.mem_cons_of_mem _ hj))
    rw [List.length_cons]
    omega
theorem mem_sum : ∀ {l : List Nat} {x : Nat}, x ∈ l → x ≤ l.sum
  | [], _, h => by cases h
  | y :: l, x, h => by
    rw [List.sum_cons]
    rcases List.mem_cons.mp h with rfl | h
    · omega
    · have := mem_sum h
      omega
theorem par_bd {tab : List En} {e : En} (he : e ∈ tab) : (parS e.sl).length ≤ bdS tab := mem_sum (List.mem_map.mpr ⟨e, he, rfl⟩)
theorem ids_len {tab : List En} {L : List Int} (nd : L.Nodup) (h : ∀ i ∈ L, isId tab i) : L.length ≤ tab.length := by
  have := nodup_len (M := tab.map fun e => (e.id : Int)) nd fun i hi => by
    obtain ⟨e, he, z⟩ := h i hi
    exact List.mem_map.mpr ⟨e, he, z⟩
  rwa [List.length_map] at this
def lkK (L : List Int) : List (Key × V) := L.map fun i => (Sum.inl i, V.bl true)
theorem lk_get (i : Int) : ∀ L : List Int, (valV (lkK L) (Sum.inl i : Key)).isSome = decide (i ∈ L)
  | [] => rfl
  | j :: L => by
    show (valV ((Sum.inl j, V.bl true) :: lkK L) (Sum.inl i : Key)).isSome = _
    by_cases c : j = i
    · rw [valV_pos (congrArg Sum.inl c)]
      exact (decide_eq_true (by simp [c])).symm
    · rw [valV_neg (fun z => c (Sum.inl.inj z)), lk_get i L]
      have c : ¬ i = j := fun z => c z.symm
      simp [c]
theorem trs_ints {H : Hp} : ∀ L : List Int, Trs H (L.map V.int) (L.map PyData.int)
  | [] => .nil
  | _ :: L => .cons (.int _) (trs_ints L)
theorem fuel_step {N l B w m : Nat} (hl : l + 1 ≤ N) (h : (N - l) * (B + 1) + (w + 1) < m + 1) {b : Nat} (hb : b ≤ B) : (N - (l + 1)) * (B + 1) + (b + w) < m := by
  obtain ⟨d, rfl⟩ : ∃ d, N = d + (l + 1) := ⟨N - (l + 1), by omega⟩
  have e1 : d + (l + 1) - l = d + 1 := by omega
  have e2 : d + (l + 1) - (l + 1) = d := by omega
  rw [e1, Nat.succ_mul] at h
  rw [e2]
  omega
def SIv (p a lk hl wl : Addr) (x : Str) (tab : List En) (H : Hp) (res : List Int × List Int) (m : Nat) (σ : L2.St) (G : Hp) : Prop := ∃ (L A w : List Int) (v6 : Option V), σ = [some (.ref p), some (.ref a), some (.str x), some (.ref lk), some (.ref hl), some (.ref wl), v6] ∧ Same H G ∧
  G lk = some (.dK (lkK L)) ∧ G hl = some (.lst (A.map V.int)) ∧ G wl = some (.lst (w.reverse.map V.int)) ∧ L.Nodup ∧ (∀ i ∈ L, isId tab i) ∧ (∀ i ∈ w, isId tab i) ∧ (∀ i ∈ A, hasS tab x i = true) ∧ A.length ≤ L.length ∧
  (tab.length - L.length) * (bdS tab + 1) + w.length < m ∧ m ≤ 10000000 ∧ srF tab x m L A w = res
theorem run_search (S : ObC K) (h : sp_search K vs H Q E) : t_search K E (DQ Q) (start ns_search vs) H := by
  obtain ⟨p, dx, tb, tab, nx, a, st, x, rfl, O, ha, hst, cl, sm, fu, q⟩ := h
  intro lk nlk
  have s1 := same_upd (o := .dK []) nlk
  refine ⟨(by show 0 ≤ sizeLine; decide), fun hl nhl => ?_⟩
  have s2 := same_upd (o := .lst []) nhl
  have h12 := s1.trans s2
  refine ⟨_, rfl, a, _, rfl, SqT.of (h12 _ _ ha), fun rt nrt => ?_⟩
  have s3 := same_upd (o := .tup (st.map V.int).reverse) nrt
  refine ⟨rt, _, rfl, .inr (SqT.of upd_same), fun wl nwl => ?_⟩
  have s4 := same_upd (o := .lst (st.map V.int).reverse) nwl
  have h123 := h12.trans s3
  have h1234 := h123.trans s4
  have nhl0 : H hl = none := Same.free s1 nhl
  have nwl0 : H wl = none := Same.free h123 nwl
  have glk : (upd (upd (upd (upd H lk (.dK [])) hl (.lst [])) rt (.tup (st.map V.int).reverse)) wl (.lst (st.map V.int).reverse)) lk = some (.dK (lkK [])) := s4 _ _ (s3 _ _ (s2 _ _ upd_same))
  have ghl : (upd (upd (upd (upd H lk (.dK [])) hl (.lst [])) rt (.tup (st.map V.int).reverse)) wl (.lst (st.map V.int).reverse)) hl = some (.lst []) := s4 _ _ (s3 _ _ upd_same)
  have nhw : hl ≠ wl := ne_of_none (s3 _ _ upd_same) nwl
  have nlh : lk ≠ hl := ne_of glk ghl (by intro z; cases z)
  have nlw : lk ≠ wl := ne_of glk upd_same (by intro z; cases z)
  refine ⟨SIv p a lk hl wl x tab H (srch tab x st), ⟨fuel tab st, [], [], st, none, rfl, h1234, glk, ghl, by rw [upd_same, List.map_reverse], List.nodup_nil, (fun i hi => by cases hi), hst, (fun i hi => by cases hi), Nat.le_refl _, by unfold fuel; rw [List.length_nil, Nat.sub_zero]; omega, fu, rfl⟩, ?_⟩
  rintro m σ G ⟨L, A, w, v6, rfl, sG, gl, gh, gw, nd, hL, hw, hA, hAL, hm, hm2, er⟩
  have OG := O.same sG
  refine ⟨_, rfl, _, _, rfl, .inl ⟨_, SqL.of gw, rfl⟩, _, _, rfl, rfl, _, rfl, ?_⟩
  cases w with
  | nil =>
    refine ite2 (fun c => absurd (of_decide_eq_true c) (by show ¬ (0 : Int) < ((0 : Nat) : Int); decide)) (fun _ => ?_)
    have er : (L, A) = srch tab x st := by
      rw [← er]
      cases m <;> rfl
    refine ⟨_, rfl, _, rfl, _, rfl, p, dx, tb, tab, nx, hl, A, x, rfl, OG, gh, hA, fun q1 G1 s5 t1 => ?_⟩
    refine ⟨_, rfl, lk, lkK L, rfl, s5 _ _ gl, fun tq ntq => ⟨(by show 2 ≤ sizeLine; decide), fun rq nrq => ?_⟩⟩
    have s6 := same_upd (o := .tup ((lkK L).map fun kv => kV kv.1)) ntq
    have s7 := same_upd (o := .tup [V.ref q1, V.ref tq]) nrq
    have ek : (lkK L).map (fun kv => kV kv.1) = L.map V.int := by
      unfold lkK
      rw [List.map_map]
      rfl
    have T2 := Tr.tup (ds := L.map PyData.int) (s7 _ _ (upd_same (H := G1) (a := tq) (o := .tup ((lkK L).map fun kv => kV kv.1)))) (by rw [ek]; exact trs_ints L)
    refine q rq _ (((sG.trans s5).trans s6).trans s7) ?_
    unfold resD
    rw [← er]
    exact .tup upd_same (.cons (t1.keep fun a xs z => s7 a _ (s6 a _ z)) (.cons T2 .nil))
  | cons i w =>
    have lw : ((((i :: w).reverse.map V.int).length : Nat) : Int) = (w.length : Int) + 1 := by
      rw [List.length_map, List.length_reverse, List.length_cons]
      omega
    refine ite2 (fun _ => ?_) (fun c => absurd (decide_eq_true (by omega)) c)
    cases m with
    | zero => exact absurd hm (Nat.not_lt_zero _)
    | succ m =>
      refine ⟨SIv p a lk hl wl x tab H (srch tab x st) m, fun σ' G' z => ⟨m, Nat.lt_succ_self m, z⟩, ?_⟩
      have erw : (i :: w).reverse.map V.int = w.reverse.map V.int ++ [V.int i] := by
        rw [List.reverse_cons, List.map_append]
        rfl
      rw [erw] at gw
      have e1 : (w.reverse.map V.int ++ [V.int i])[(w.reverse.map V.int ++ [V.int i]).length - 1]? = some (V.int i) := by
        rw [List.length_append, List.length_singleton, Nat.add_sub_cancel, List.getElem?_append_right (Nat.le_refl _), Nat.sub_self]
        rfl
      refine ⟨_, rfl, .inl ⟨rfl, _, SqL.of gw⟩, wl, _, _, rfl, rfl, gw, e1, ?_⟩
      rw [List.dropLast_concat]
      have pl : (upd G wl (.lst (w.reverse.map V.int))) lk = some (.dK (lkK L)) := (upd_ne nlw).trans gl
      have ph : (upd G wl (.lst (w.reverse.map V.int))) hl = some (.lst (A.map V.int)) := (upd_ne nhw).trans gh
      have sP : Same H (upd G wl (.lst (w.reverse.map V.int))) := fun b u z => by
        rw [upd_ne (ne_of_none z nwl0)]
        exact sG b u z
      have pw : (upd G wl (.lst (w.reverse.map V.int))) wl = some (.lst (w.reverse.map V.int)) := upd_same
      generalize upd G wl (.lst (w.reverse.map V.int)) = P at pl ph sP pw ⊢
      have hw2 : ∀ j ∈ w, isId tab j := fun j hj => hw j (List.mem_cons_of_mem _ hj)
      refine ⟨_, rfl, _, rfl, lk, _, rfl, DGet.k (k := Sum.inl i) pl, _, rfl, ?_⟩
      rw [lk_get]
      refine ite2 (fun c => ?_) (fun c => ?_)
      · have c := of_decide_eq_true c
        have es : srF tab x (m + 1) L A (i :: w) = srF tab x m L A w := if_pos c
        rw [es] at er
        rw [List.length_cons] at hm
        exact ⟨L, A, w, _, rfl, sP, pl, ph, pw, nd, hL, hw2, hA, hAL, by omega, by omega, er⟩
      · have c : ¬ i ∈ L := fun z => c (decide_eq_true z)
        have ndL : (L ++ [i]).Nodup := List.nodup_append.mpr ⟨nd, by simp, fun y hy z hz => by
          rw [List.mem_singleton.mp hz]
          intro k
          exact c (by rw [← k]; exact hy)⟩
        have hLi : ∀ j ∈ L ++ [i], isId tab j := fun j hj => by
          rcases List.mem_append.mp hj with hj | hj
          · exact hL j hj
          · rw [List.mem_singleton.mp hj]
            exact hw i List.mem_cons_self
        have ll := ids_len ndL hLi
        rw [List.length_append, List.length_singleton] at ll
        have tl : tab.length ≤ 10000000 := by
          have : tab.length ≤ fuel tab st := by
            unfold fuel
            have : tab.length ≤ tab.length * (bdS tab + 1) := Nat.le_mul_of_pos_right tab.length (Nat.succ_pos (bdS tab))
            omega
          omega
        have pk : putK (lkK L) (Sum.inl i) (V.bl true) = lkK (L ++ [i]) := by
          have z := lk_get i L
          rw [decide_eq_false c] at z
          rw [putK_new _ (Option.isSome_eq_false_iff.mp z |> Option.isNone_iff_eq_none.mp)]
          unfold lkK
          rw [List.map_append]
          rfl
        refine ⟨_, rfl, _, rfl, lk, _, rfl, DPut.k (k := Sum.inl i) pl (Nat.lt_of_le_of_lt (by unfold lkK; rw [List.length_map]; omega : (lkK L).length ≤ 10000000) (by decide)), ?_⟩
        rw [pk]
        have ql : (upd P lk (.dK (lkK (L ++ [i])))) lk = some (.dK (lkK (L ++ [i]))) := upd_same
        have qh : (upd P lk (.dK (lkK (L ++ [i])))) hl = some (.lst (A.map V.int)) := (upd_ne (Ne.symm nlh)).trans ph
        have qw : (upd P lk (.dK (lkK (L ++ [i])))) wl = some (.lst (w.reverse.map V.int)) := (upd_ne (Ne.symm nlw)).trans pw
        have sQ : Same H (upd P lk (.dK (lkK (L ++ [i])))) := fun b u z => by
          rw [upd_ne (ne_of_none z nlk)]
          exact sP b u z
        generalize upd P lk (.dK (lkK (L ++ [i]))) = P2 at ql qh qw sQ ⊢
        have O2 := O.same sQ
        obtain ⟨e, he, ei⟩ := hw i List.mem_cons_self
        subst ei
        have step : srF tab x (m + 1) L A ((e.id : Int) :: w) = if hasS tab x (e.id : Int) = true then srF tab x m (L ++ [(e.id : Int)]) (A ++ [(e.id : Int)]) w else srF tab x m (L ++ [(e.id : Int)]) A (parI tab (e.id : Int) ++ w) := if_neg c
        rw [step] at er
        have eh : hasS tab x (e.id : Int) = (getS e.sl x).isSome := by
          unfold hasS
          rw [slotOf_mem O.ord he]
        have lA : (A ++ [(e.id : Int)]).length ≤ (L ++ [(e.id : Int)]).length := by
          rw [List.length_append, List.length_append]
          exact Nat.succ_le_succ hAL
        rw [List.length_cons] at hm
        refine ⟨_, rfl, p, dx, _, rfl, O2.ins, obF_no (by decide +kernel) (by decide +kernel), _, rfl, _, rfl, ?_⟩
        refine ⟨p, dx, tb, tab, nx, e, x, rfl, O2, he, fun g => ?_, fun s qa v g hq tv => ?_⟩
        · -- no slot: its parents
          refine ⟨rfl, _, rfl, ?_⟩
          rw [decide_eq_true (show V.non = V.non from rfl)]
          refine iteF ?_
          rw [g] at eh
          rw [eh, if_neg (by intro z; cases z), parI_mem O.ord he] at er
          refine ⟨_, rfl, .inl ⟨rfl, _, SqL.of qw⟩, _, rfl, p, dx, _, rfl, O2.ins, obF_no (by decide +kernel) (by decide +kernel), _, rfl, ?_⟩
          refine ⟨p, dx, tb, tab, nx, e, rfl, O2, he, sm e he, fun q5 H5 s5 n5 h5 => ?_⟩
          refine ⟨q5, _, rfl, SqT.of h5, fun q6 n6 => ?_⟩
          have s6 := same_upd (o := .tup ((parS e.sl).map V.int).reverse) n6
          have s56 := s5.trans s6
          have b1 := par_bd he
          have mm := fuel_step (N := tab.length) (l := L.length) (B := bdS tab) (w := w.length) (m := m) (by omega) (by omega) b1
          refine ⟨wl, q6, _, _, rfl, rfl, s56 _ _ qw, SqT.of upd_same, ?_, ?_⟩
          · rw [List.length_map, List.length_reverse, List.length_reverse, List.length_map]
            exact Nat.le_trans (show w.length + (parS e.sl).length ≤ 10000000 by omega) (by decide)
          · refine ⟨L ++ [(e.id : Int)], A, parS e.sl ++ w, _, rfl, fun b u z => ?_, (upd_ne nlw).trans (s56 _ _ ql), (upd_ne nhw).trans (s56 _ _ qh), ?_, ndL, hLi, fun j hj => ?_, hA, by rw [List.length_append]; omega, ?_, by omega, er⟩
            · rw [upd_ne (ne_of_none z nwl0)]
              exact s56 b u (sQ b u z)
            · rw [upd_same, List.reverse_append, List.map_append, List.map_reverse, List.map_reverse]
            · rcases List.mem_append.mp hj with hj | hj
              · exact cl e he j hj
              · exact hw2 j hj
            · rw [List.length_append, List.length_append, List.length_singleton]
              exact mm
        · -- a holder
          refine ⟨rfl, _, rfl, ?_⟩
          rw [decide_eq_false (show ¬ V.ref qa = V.non by intro z; cases z)]
          refine iteT ?_
          rw [g] at eh
          have eh : hasS tab x (e.id : Int) = true := eh
          rw [if_pos eh] at er
          have mm := fuel_step (N := tab.length) (l := L.length) (B := bdS tab) (w := w.length) (m := m) (by omega) (by omega) (Nat.zero_le _)
          refine ⟨_, rfl, .inl ⟨rfl, _, SqL.of qh⟩, _, rfl, hl, _, _, rfl, rfl, qh, Nat.lt_of_le_of_lt (by rw [List.length_map]; omega : (A.map V.int).length ≤ 10000000) (by decide), ?_⟩
          refine ⟨L ++ [(e.id : Int)], A ++ [(e.id : Int)], w, _, rfl, fun b u z => ?_, (upd_ne nlh).trans ql, ?_, (upd_ne (Ne.symm nhw)).trans qw, ndL, hLi, hw2, fun j hj => ?_, lA, ?_, by omega, er⟩
          · rw [upd_ne (ne_of_none z nhl0)]
            exact sQ b u z
          · rw [upd_same, List.map_append]
            rfl
          · rcases List.mem_append.mp hj with hj | hj
            · exact hA j hj
            · rw [List.mem_singleton.mp hj]
              exact eh
          · rw [List.length_append, List.length_singleton]
            omega
end
end Rm

/-! R1: the laws' reader: draws from the digits of cells; values, kinds, names: promises, readings (by gen.py), runs. -/
namespace Rm.Q
open PySem PySem.Spec PyProof.Rows L2
def kindM : List String := ["const", "var", "parent", "varparent", "method", "parent", "varparent"]
def nameM : List String := ["x", "y", "p", "q", "xx", "lobby"]
/-- what a drawn value is -/
structure ValD (m : Int) (D : PyData) : Prop where
  ok : ValOk D
  ref : ∀ i, refOf D = some i → 0 ≤ i ∧ i < m
  lay : PyData.canLay0 D = true
  dep : PyData.depth D ≤ 1
def sp_l_draws (K : PySem.W.Frag) : Sp := fun vs H Q _ => ∃ (a : Addr) (ns : List Int), vs = [.ref a] ∧ SqL K H a (ns.map V.int) ∧ ns.length ≤ 63 ∧ ∀ q H' (rs : List Int), Same H H' → H q = none → H' q = some (.lst (rs.map V.int)) → Q (.ref q) H'
def sp_l_reader (K : PySem.W.Frag) : Sp := fun vs H Q _ => ∃ (a : Addr) (ns : List Int), vs = [.ref a] ∧ SqL K H a (ns.map V.int) ∧ ns.length ≤ 63 ∧ ∀ d r H', Same H H' → H d = none → H r = none → Draws H' d r → Q (.ref d) H'
def sp_l_next (K : PySem.W.Frag) : Sp := fun vs H Q _ => ∃ (d : Addr) (m : Int), vs = [.ref d, .int m] ∧ 0 < m ∧ ∃ r, Draws H d r ∧ ∀ (j : Int) (H' : Hp), 0 ≤ j → j < m → Draws H' d r → Moved d H H' → Q (.int j) H'
def sp_l_value (K : PySem.W.Frag) : Sp := fun vs H Q _ => ∃ (d : Addr) (m : Int), vs = [.ref d, .int m] ∧ 0 < m ∧ ∃ r, Draws H d r ∧ ∀ (v : V) (D : PyData) (H' : Hp), Kept d H H' → Draws H' d r → Tr H' v D → ValD m D → Q v H'
def sp_l_kind (K : PySem.W.Frag) : Sp := fun vs H Q _ => ∃ (d : Addr), vs = [.ref d] ∧ ∃ r, Draws H d r ∧ ∀ (s : String) (H' : Hp), Kept d H H' → Draws H' d r → s ∈ kindM → Q (mS s) H'
def sp_l_name (K : PySem.W.Frag) : Sp := fun vs H Q _ => ∃ (d : Addr), vs = [.ref d] ∧ ∃ r, Draws H d r ∧ ∀ (s : String) (H' : Hp), Kept d H H' → Draws H' d r → s ∈ nameM → Q (mS s) H'
/-! ### readings -/

def ns_l_draws : List Str := ["script", "draws", "k", "cell", "turn", "mixed"]
def t_l_draws (K : PySem.W.Frag) (E : XK) : TS :=
  (tSeq (tAsg (tLst tNil) (gName 1))
    (tSeq (tFor (iRng1 (tCons (tCB rMin2 (tCons (tCB (rLen K) (tCons (tVar 0) tNil)) (tCons (tC (.int 63)) tNil))) tNil)) (gName 2)
      (tSeq (tAsg (tCB rAbs (tCons (tOp (rIxL K) (tVar 0) (tVar 2)) tNil)) (gName 3))
    (tIfS (tTest (tOp rGeI (tVar 3) (tOp rPowI (tC (.int 10)) (tC (.int 18)))))
      (tFor (iRng1 (tCons (tC (.int 20)) tNil)) (gName 4)
      (tIfS (tTest (tOp rGtI (tVar 3) (tC (.int 0))))
      (tSeq (tDrop (tBM K "list" rAppend (tVar 1) (tCons (tOp rModI (tVar 3) (tC (.int 1000))) tNil)))
    (tAsg (tOp rFdivI (tVar 3) (tC (.int 1000))) (gName 3)))
      tNext))
      (tSeq (tAsg (tOp rModI (tCB rInt1 (tCons (tOp rAddI (tOp rAddI (tOp rMulI (tOp (rIxL K) (tVar 0) (tVar 2)) (tC (.int 48271))) (tOp rMulI (tVar 2) (tC (.int 69621)))) (tC (.int 12345))) tNil)) (tC (.int 2147483647))) (gName 5))
    (tFor (iRng1 (tCons (tC (.int 3)) tNil)) (gName 4)
      (tSeq (tAsg (tOp rModI (tCB rInt1 (tCons (tOp rAddI (tOp rAddI (tOp rMulI (tVar 5) (tVar 5)) (tOp rMulI (tVar 4) (tC (.int 7919)))) (tC (.int 17))) tNil)) (tC (.int 2147483629))) (gName 5))
    (tDrop (tBM K "list" rAppend (tVar 1) (tCons (tOp rModI (tVar 5) (tC (.int 1000))) tNil)))))))))
    (tRet (tVar 1))))

def ns_l_reader : List Str := ["script", "row", "seed"]
def t_l_reader (K : PySem.W.Frag) (E : XK) : TS :=
  (tSeq (tAsg (tCall (sp_l_draws K) [] E (tCons (tVar 0) tNil)) (gName 1))
    (tSeq (tAsg (tC (.int 5)) (gName 2))
    (tSeq (tIfS (tTest (tOp rGtI (tCB (rLen K) (tCons (tVar 0) tNil)) (tC (.int 0))))
      (tAsg (tOp rModI (tCB rAbs (tCons (tOp (rIxL K) (tVar 0) (tUn rNegI (tC (.int 1)))) tNil)) (tC (.int 1000003))) (gName 2))
      tNext)
    (tRet (tDisp [((tC (.str ("row" : Str))), (tVar 1)), ((tC (.str ("at" : Str))), (tC (.int 0))), ((tC (.str ("seed" : Str))), (tVar 2))])))))

def ns_l_next : List Str := ["draws", "many", "at", "mixed"]
def t_l_next (K : PySem.W.Frag) (E : XK) : TS :=
  (tSeq (tAsg (tDGet (tVar 0) (tC (.str ("at" : Str)))) (gName 2))
    (tSeq (sDPut (tVar 0) (tC (.str ("at" : Str))) (tOp rAddI (tVar 2) (tC (.int 1))))
    (tSeq (tIfS (tTest (tOp rLtI (tVar 2) (tCB (rLen K) (tCons (tDGet (tVar 0) (tC (.str ("row" : Str)))) tNil))))
      (tRet (tOp rModI (tOp (rIxL K) (tDGet (tVar 0) (tC (.str ("row" : Str)))) (tVar 2)) (tVar 1)))
      tNext)
    (tSeq (tAsg (tOp rModI (tCB rInt1 (tCons (tOp rMulI (tOp rAddI (tOp rAddI (tDGet (tVar 0) (tC (.str ("seed" : Str)))) (tOp rMulI (tC (.int 17)) (tVar 2))) (tC (.int 3))) (tC (.int 48271))) tNil)) (tC (.int 2147483647))) (gName 3))
    (tRet (tOp rModI (tOp rFdivI (tOp rModI (tCB rInt1 (tCons (tOp rAddI (tOp rMulI (tVar 3) (tVar 3)) (tVar 2)) tNil)) (tC (.int 2147483629))) (tC (.int 7))) (tVar 1)))))))

def ns_l_value : List Str := ["draws", "many", "pick"]
def t_l_value (K : PySem.W.Frag) (E : XK) : TS :=
  (tSeq (tAsg (tCall (sp_l_next K) [] E (tCons (tVar 0) (tCons (tC (.int 8)) tNil))) (gName 2))
    (tSeq (tIfS (tTest (tOp rLtI (tVar 2) (tC (.int 4))))
      (tRet (tTup (tCons (tC (.str ("ref" : Str))) (tCons (tCall (sp_l_next K) [] E (tCons (tVar 0) (tCons (tVar 1) tNil))) tNil))))
      tNext)
    (tRet (tOp (rIxL K) (tLst (tCons (tTup (tCons (tC (.str ("num" : Str))) (tCons (tCall (sp_l_next K) [] E (tCons (tVar 0) (tCons (tC (.int 90)) tNil))) tNil))) (tCons (tTup (tCons (tC (.str ("nothing" : Str))) tNil)) (tCons (tTup (tCons (tC (.str ("method" : Str))) (tCons (tCall (sp_l_next K) [] E (tCons (tVar 0) (tCons (tC (.int 4)) tNil))) tNil))) (tCons (tTup (tCons (tC (.str ("block" : Str))) (tCons (tC (.int 1)) tNil))) tNil))))) (tOp rSubI (tVar 2) (tC (.int 4)))))))

def ns_l_kind : List Str := ["draws"]
def t_l_kind (K : PySem.W.Frag) (E : XK) : TS :=
  (tRet (tOp (rIxL K) (tLst (tMenu (["const", "var", "parent", "varparent", "method", "parent", "varparent"].map mS))) (tCall (sp_l_next K) [] E (tCons (tVar 0) (tCons (tC (.int 7)) tNil)))))

def ns_l_name : List Str := ["draws"]
def t_l_name (K : PySem.W.Frag) (E : XK) : TS :=
  (tRet (tOp (rIxL K) (tLst (tMenu (["x", "y", "p", "q", "xx", "lobby"].map mS))) (tCall (sp_l_next K) [] E (tCons (tVar 0) (tCons (tC (.int 6)) tNil)))))

section
variable {K : PySem.W.Frag} {vs : List V} {H : Hp} {Q : VK} {E : XK}
theorem run_l_next (h : sp_l_next K vs H Q E) : t_l_next K E (DQ Q) (start ns_l_next vs) H := by
  obtain ⟨d, m, rfl, hm, r, hD, q⟩ := h
  obtain ⟨i, s, ns, h1, h2, h3⟩ := id hD
  have nrd : r ≠ d := hD.ne
  refine ⟨_, rfl, d, _, rfl, dget_at h1, ?_⟩
  refine ⟨_, rfl, _, _, rfl, rfl, _, rfl, d, _, rfl, dput_at h1 _, ?_⟩
  have h1' : (upd H d (.dK (drK r (i + 1) s))) d = some (.dK (drK r (i + 1) s)) := upd_same
  have h2' : (upd H d (.dK (drK r (i + 1) s))) r = some (.lst (ns.map V.int)) := by rw [upd_ne nrd]; exact h2
  have D' : Draws (upd H d (.dK (drK r (i + 1) s))) d r := ⟨i + 1, s, ns, h1', h2', by omega⟩
  have M' : Moved d H (upd H d (.dK (drK r (i + 1) s))) := fun b n => upd_ne n
  have fin : ∀ z : Int, Q (.int (z % m)) (upd H d (.dK (drK r (i + 1) s))) := fun z => q _ _ (Int.emod_nonneg _ (by omega)) (Int.emod_lt_of_pos _ hm) D' M'
  refine ⟨_, rfl, _, rfl, d, _, rfl, dget_row h1', _, _, rfl, .inl ⟨_, SqL.of h2', rfl⟩, _, _, rfl, rfl, _, rfl, ?_⟩
  refine ite2 (fun c => ?_) (fun _ => ?_)
  · have c := of_decide_eq_true c
    rw [List.length_map] at c
    obtain ⟨n, rfl⟩ : ∃ n : Nat, i = (n : Int) := ⟨i.toNat, by omega⟩
    have hn : n < ns.length := by omega
    have g : (ns.map V.int)[n]? = some (.int ns[n]) := by rw [List.getElem?_map, List.getElem?_eq_getElem hn]; rfl
    exact ⟨_, rfl, d, _, rfl, dget_row h1', _, rfl, r, _, _, _, rfl, rfl, SqL.of h2', atI_nat g, _, rfl, _, _, rfl, rfl, hm, fin _⟩
  · refine ⟨_, rfl, d, _, rfl, dget_seed h1', _, rfl, _, _, rfl, rfl, .inl ⟨by decide, by decide⟩, _, _, rfl, rfl, _, _, rfl, rfl, _, _, rfl, rfl, .inr (by decide), .inl ⟨_, rfl, ?_⟩⟩
    refine ⟨_, _, rfl, rfl, (by show (0 : Int) < 2147483647; decide), ?_⟩
    have b1 : 0 ≤ ((s + 17 * i + 3) * 48271) % 2147483647 := Int.emod_nonneg _ (by decide)
    have b2 : ((s + 17 * i + 3) * 48271) % 2147483647 < 2147483647 := Int.emod_lt_of_pos _ (by decide)
    refine ⟨_, rfl, _, rfl, _, _, rfl, rfl, .inl ⟨by omega, by omega⟩, _, rfl, _, _, rfl, rfl, .inl ⟨_, rfl, _, _, rfl, rfl, (by show (0 : Int) < 2147483629; decide), _, _, rfl, rfl, ⟨by decide, by decide⟩, _, rfl, _, _, rfl, rfl, hm, fin _⟩⟩
theorem run_l_draws (h : sp_l_draws K vs H Q E) : t_l_draws K E (DQ Q) (start ns_l_draws vs) H := by
  obtain ⟨a, ns, rfl, hS, hl, q⟩ := h
  refine ⟨(by show 0 ≤ sizeLine; decide), fun p np => ?_⟩
  refine ⟨_, rfl, _, _, rfl, .inl ⟨_, (same_upd np).seq hS, rfl⟩, _, _, rfl, ?_⟩
  have e0 : (if (63 : Int) < ((ns.map V.int).length : Int) then (63 : Int) else ((ns.map V.int).length : Int)) = (ns.length : Int) := by
    rw [List.length_map, if_neg (by omega)]
  rw [e0]
  refine ⟨(ns.length : Int), rfl, by omega, by omega, ?_⟩
  rw [Int.toNat_natCast]
  refine for_range (lo := 0) (n := ns.length) (fun i σ H2 => ∃ (rs : List Int) (v2 v3 v4 v5 : Option V), σ = [some (.ref a), some (.ref p), v2, v3, v4, v5] ∧ Same H H2 ∧ H2 p = some (.lst (rs.map V.int)) ∧ rs.length ≤ 20 * i)
    ⟨[], none, none, none, none, rfl, same_upd np, upd_same, Nat.zero_le _⟩ ?_ ?_
  · rintro i σ H2 hi ⟨rs, v2, v3, v4, v5, rfl, s2, hp, h20⟩
    have hz : (ns.map V.int)[i]? = some (.int ns[i]) := by rw [List.getElem?_map, List.getElem?_eq_getElem hi]; rfl
    have hz0 : atI (ns.map V.int) (0 + (i : Int)) = some (.int ns[i]) := at_of (j := i) (by simp) hz
    refine ⟨_, rfl, _, rfl, a, ns.map V.int, _, .int ns[i], rfl, rfl, s2.seq hS, hz0, _, rfl, ?_⟩
    refine ⟨_, rfl, _, _, rfl, rfl, ⟨by decide, by decide, by decide⟩, _, _, rfl, rfl, _, rfl, ?_⟩
    refine ite2 (fun _ => ?_) (fun _ => ?_)
    · refine ⟨20, rfl, by decide, by decide, ?_⟩
      refine for_range (lo := 0) (n := 20) (fun j σ H3 => ∃ (rs : List Int) (v2 v4 v5 : Option V) (z : Int), σ = [some (.ref a), some (.ref p), v2, some (.int z), v4, v5] ∧ Same H H3 ∧ H3 p = some (.lst (rs.map V.int)) ∧ rs.length ≤ 20 * i + j)
        ⟨rs, _, _, _, _, rfl, s2, hp, by omega⟩ ?_ ?_
      · rintro j σ H3 hj ⟨rs, v2, v4, v5, z, rfl, s3, hp, h20⟩
        refine ⟨_, rfl, _, _, rfl, rfl, _, rfl, ?_⟩
        refine ite2 (fun _ => ?_) (fun _ => ?_)
        · refine ⟨_, rfl, Or.inl ⟨rfl, _, SqL.of hp⟩, _, rfl, _, _, rfl, rfl, (by show (0 : Int) < 1000; decide), p, _, _, rfl, rfl, hp, (by rw [List.length_map]; exact Nat.lt_of_lt_of_le (show rs.length < 20000 by omega) (by decide)), ?_⟩
          refine ⟨_, rfl, _, _, rfl, rfl, ⟨by decide, by decide⟩, ?_⟩
          refine ⟨rs ++ [z % 1000], _, _, _, _, rfl, fun b o e => ?_, ?_, by rw [List.length_append, List.length_singleton]; omega⟩
          · rw [upd_ne (ne_of_none e np)]
            exact s3 b o e
          · rw [upd_same, map_snoc]
        · exact ⟨rs, _, _, _, z, rfl, s3, hp, by omega⟩
      · rintro σ H3 ⟨rs, v2, v4, v5, z, rfl, s3, hp, h20⟩
        exact ⟨rs, _, _, _, _, rfl, s3, hp, by omega⟩
    · refine ⟨_, rfl, _, rfl, a, ns.map V.int, _, .int ns[i], rfl, rfl, s2.seq hS, hz0, _, _, rfl, rfl, .inr (by decide), _, rfl, _, _, rfl, rfl, .inr (by decide), _, _, rfl, rfl, _, _, rfl, rfl, .inl ⟨_, rfl, ?_⟩⟩
      refine ⟨_, _, rfl, rfl, (by show (0 : Int) < 2147483647; decide), ?_⟩
      have b1 : 0 ≤ (ns[i] * 48271 + (0 + (i : Int)) * 69621 + 12345) % 2147483647 := Int.emod_nonneg _ (by decide)
      have b2 : (ns[i] * 48271 + (0 + (i : Int)) * 69621 + 12345) % 2147483647 < 2147483647 := Int.emod_lt_of_pos _ (by decide)
      refine ⟨3, rfl, by decide, by decide, ?_⟩
      refine for_range (lo := 0) (n := 3) (fun j σ H3 => ∃ (rs : List Int) (v2 v3 v4 : Option V) (z : Int), σ = [some (.ref a), some (.ref p), v2, v3, v4, some (.int z)] ∧ Same H H3 ∧ H3 p = some (.lst (rs.map V.int)) ∧ rs.length ≤ 20 * i + j ∧ 0 ≤ z ∧ z < 2147483647)
        ⟨rs, _, _, _, _, rfl, s2, hp, by omega, b1, b2⟩ ?_ ?_
      · rintro j σ H3 hj ⟨rs, v2, v3, v4, z, rfl, s3, hp, h20, z1, z2⟩
        refine ⟨_, rfl, _, rfl, _, _, rfl, rfl, .inl ⟨by omega, by omega⟩, _, rfl, _, _, rfl, rfl, .inr (by decide), _, _, rfl, rfl, _, _, rfl, rfl, .inl ⟨_, rfl, ?_⟩⟩
        refine ⟨_, _, rfl, rfl, (by show (0 : Int) < 2147483629; decide), ?_⟩
        have c1 : 0 ≤ (z * z + (0 + (j : Int)) * 7919 + 17) % 2147483629 := Int.emod_nonneg _ (by decide)
        have c2 : (z * z + (0 + (j : Int)) * 7919 + 17) % 2147483629 < 2147483629 := Int.emod_lt_of_pos _ (by decide)
        refine ⟨_, rfl, Or.inl ⟨rfl, _, SqL.of hp⟩, _, rfl, _, _, rfl, rfl, (by show (0 : Int) < 1000; decide), p, _, _, rfl, rfl, hp, (by rw [List.length_map]; exact Nat.lt_of_lt_of_le (show rs.length < 20000 by omega) (by decide)), ?_⟩
        refine ⟨rs ++ [((z * z + (0 + (j : Int)) * 7919 + 17) % 2147483629) % 1000], _, _, _, _, rfl, fun b o e => ?_, ?_, by rw [List.length_append, List.length_singleton]; omega, c1, by omega⟩
        · rw [upd_ne (ne_of_none e np)]
          exact s3 b o e
        · rw [upd_same, map_snoc]
      · rintro σ H3 ⟨rs, v2, v3, v4, z, rfl, s3, hp, h20, _, _⟩
        exact ⟨rs, _, _, _, _, rfl, s3, hp, by omega⟩
  · rintro σ H2 ⟨rs, v2, v3, v4, v5, rfl, s2, hp, h20⟩
    exact ⟨_, rfl, q p H2 rs s2 np hp⟩
theorem run_l_reader (h : sp_l_reader K vs H Q E) : t_l_reader K E (DQ Q) (start ns_l_reader vs) H := by
  obtain ⟨a, ns, rfl, hS, hl, q⟩ := h
  refine ⟨_, rfl, a, ns, rfl, hS, hl, fun p H1 rs s1 np hp => ?_⟩
  have fin : ∀ z : Int, (tRet (tDisp [((tC (.str ("row" : Str))), (tVar 1)), ((tC (.str ("at" : Str))), (tC (.int 0))), ((tC (.str ("seed" : Str))), (tVar 2))])) (DQ Q) [some (.ref a), some (.ref p), some (.int z)] H1 := fun z => by
    intro d nd
    have npd : p ≠ d := ne_of_none hp nd
    refine ⟨_, rfl, _, rfl, ?_⟩
    refine ⟨upd_same, drK p 0 z, rfl, (by show 3 ≤ 15; decide), ?_⟩
    rw [drK_merge, upd_upd]
    refine q d p _ (fun b o e => ?_) (s1.free nd) np ⟨0, z, rs, upd_same, ?_, Int.le_refl _⟩
    · rw [upd_ne (ne_of_none (s1 b o e) nd)]
      exact s1 b o e
    · rw [upd_ne npd]
      exact hp
  refine ⟨_, rfl, _, _, rfl, .inl ⟨_, s1.seq hS, rfl⟩, _, _, rfl, rfl, _, rfl, ?_⟩
  refine ite2 (fun c => ?_) (fun _ => fin 5)
  have c := of_decide_eq_true c
  rw [List.length_map] at c
  rcases List.eq_nil_or_concat ns with rfl | ⟨m, z, rfl⟩
  · exact absurd c (by show ¬ (0 : Int) < ((0 : Nat) : Int); decide)
  · have g : atI ((m.concat z).map V.int) (-1) = some (.int z) := by
      rw [List.concat_eq_append, List.map_append]
      exact atI_last _ _
    refine ⟨_, rfl, _, rfl, a, _, _, _, rfl, rfl, s1.seq hS, g, _, rfl, _, _, rfl, rfl, (by show (0 : Int) < 1000003; decide), fin _⟩
theorem run_l_kind (h : sp_l_kind K vs H Q E) : t_l_kind K E (DQ Q) (start ns_l_kind vs) H := by
  obtain ⟨d, rfl, r, hD, q⟩ := h
  refine ⟨(by show 7 ≤ sizeLine; decide), fun p np => ?_⟩
  refine ⟨_, rfl, d, 7, rfl, by decide, r, hD.fresh np, fun j H1 j0 j1 D1 M1 => ?_⟩
  have hp : H1 p = some (.lst (kindM.map mS)) := (M1 p (Ne.symm (hD.neD np))).trans upd_same
  obtain ⟨s, hs, e⟩ := menu_s (ss := kindM) j0 j1
  exact ⟨p, _, _, _, rfl, rfl, SqL.of hp, e, q s _ (((Kept.refl d H).put np).trans (Kept.of_moved M1)) D1 hs⟩
theorem run_l_name (h : sp_l_name K vs H Q E) : t_l_name K E (DQ Q) (start ns_l_name vs) H := by
  obtain ⟨d, rfl, r, hD, q⟩ := h
  refine ⟨(by show 6 ≤ sizeLine; decide), fun p np => ?_⟩
  refine ⟨_, rfl, d, 6, rfl, by decide, r, hD.fresh np, fun j H1 j0 j1 D1 M1 => ?_⟩
  have hp : H1 p = some (.lst (nameM.map mS)) := (M1 p (Ne.symm (hD.neD np))).trans upd_same
  obtain ⟨s, hs, e⟩ := menu_s (ss := nameM) j0 j1
  exact ⟨p, _, _, _, rfl, rfl, SqL.of hp, e, q s _ (((Kept.refl d H).put np).trans (Kept.of_moved M1)) D1 hs⟩
theorem alloc_kept {d r a : Addr} {H H' : Hp} {o : HO} (k : Kept d H H') (D : Draws H' d r) (n : H' a = none) : Kept d H (upd H' a o) := k.put (k.free D.atD n)
theorem kept_tk {d r : Addr} {G G' : Hp} (D : Draws G d r) (k : Kept d G G') : TK G G' := by
  obtain ⟨i, s, ns, h1, _⟩ := D
  exact fun a xs h => k a _ (ne_of h h1 (by intro z; cases z)) h
theorem val_two {m i : Int} {w : Str} (hs : PyData.strOk w = true) (h : w = ("ref" : Str) → 0 ≤ i ∧ i < m) : ValD m (.tuple [.str w, .int i]) := by
  refine ⟨⟨w, _, rfl, fun _ => ⟨i, _, rfl⟩⟩, fun j e => ?_, by simp [PyData.canLay0, PyData.canLayAll0, hs], by simp [PyData.depth, PyData.depthAll]⟩
  have e : (if w = ("ref" : Str) then some i else none) = some j := e
  split at e
  · rename_i c
    cases e
    exact h c
  · cases e
theorem val_one {m : Int} {w : Str} (hs : PyData.strOk w = true) (h : w ≠ ("ref" : Str)) : ValD m (.tuple [.str w]) := by
  refine ⟨⟨w, _, rfl, fun e => absurd e h⟩, (fun j e => by cases e), by simp [PyData.canLay0, PyData.canLayAll0, hs], by simp [PyData.depth, PyData.depthAll]⟩
theorem run_l_value (h : sp_l_value K vs H Q E) : t_l_value K E (DQ Q) (start ns_l_value vs) H := by
  obtain ⟨d, m, rfl, hm, r, hD, q⟩ := h
  refine ⟨_, rfl, d, 8, rfl, by decide, r, hD, fun j H1 j0 j1 D1 M1 => ?_⟩
  have K1 : Kept d H H1 := Kept.of_moved M1
  refine ⟨_, rfl, _, _, rfl, rfl, _, rfl, ?_⟩
  refine ite2 (fun _ => ?_) (fun c => ?_)
  · refine ⟨_, rfl, _, rfl, d, m, rfl, hm, r, D1, fun k H2 k0 k1 D2 M2 => ⟨(by show 2 ≤ sizeLine; decide), fun p np => ?_⟩⟩
    exact q _ (.tuple [.str ("ref" : Str), .int k]) _ ((K1.trans (Kept.of_moved M2)).put ((K1.trans (Kept.of_moved M2)).free D2.atD np)) (D2.fresh np) (.tup upd_same (.cons (.str _) (.cons (.int _) .nil))) (val_two (by decide +kernel) fun _ => ⟨k0, k1⟩)
  · have c : ¬ j < 4 := fun z => c (decide_eq_true z)
    refine ⟨_, rfl, d, 90, rfl, by decide, r, D1, fun k1 H2 a0 a1 D2 M2 => ⟨(by show 2 ≤ sizeLine; decide), fun p1 n1 => ⟨(by show 1 ≤ sizeLine; decide), fun p2 n2 => ?_⟩⟩⟩
    have D3 := D2.fresh (o := .tup [V.str ("num" : Str), V.int k1]) n1
    have D4 := D3.fresh (o := .tup [V.str ("nothing" : Str)]) n2
    refine ⟨_, rfl, d, 4, rfl, by decide, r, D4, fun k2 H5 b0 b1 D5 M5 => ⟨(by show 2 ≤ sizeLine; decide), fun p3 n3 => ⟨(by show 2 ≤ sizeLine; decide), fun p4 n4 => ⟨(by show 4 ≤ sizeLine; decide), fun pl nl => ?_⟩⟩⟩⟩
    have D6 := D5.fresh (o := .tup [V.str ("method" : Str), V.int k2]) n3
    have D7 := D6.fresh (o := .tup [V.str ("block" : Str), V.int 1]) n4
    have D8 := D7.fresh (o := .lst [V.ref p1, V.ref p2, V.ref p3, V.ref p4]) nl
    have K2 : Kept d H H2 := K1.trans (Kept.of_moved M2)
    have K3 := alloc_kept (o := .tup [V.str ("num" : Str), V.int k1]) K2 D2 n1
    have K4 := alloc_kept (o := .tup [V.str ("nothing" : Str)]) K3 D3 n2
    have K5 := K4.trans (Kept.of_moved M5)
    have K6 := alloc_kept (o := .tup [V.str ("method" : Str), V.int k2]) K5 D5 n3
    have K7 := alloc_kept (o := .tup [V.str ("block" : Str), V.int 1]) K6 D6 n4
    have K8 := alloc_kept (o := .lst [V.ref p1, V.ref p2, V.ref p3, V.ref p4]) K7 D7 nl
    have t8 := TK.new (o := .lst [V.ref p1, V.ref p2, V.ref p3, V.ref p4]) nl
    have t7 := (TK.new (o := .tup [V.str ("block" : Str), V.int 1]) n4).trans t8
    have t6 := (TK.new (o := .tup [V.str ("method" : Str), V.int k2]) n3).trans t7
    have t5 := (kept_tk D4 (Kept.of_moved M5)).trans t6
    have t4 := (TK.new (o := .tup [V.str ("nothing" : Str)]) n2).trans t5
    obtain rfl | rfl | rfl | rfl : j = 4 ∨ j = 5 ∨ j = 6 ∨ j = 7 := by omega
    · refine ⟨_, rfl, _, _, rfl, rfl, pl, _, _, _, rfl, rfl, SqL.of upd_same, atI_nat (j := 0) rfl, q _ (.tuple [.str ("num" : Str), .int k1]) _ K8 D8 (.tup (t4 _ _ upd_same) (.cons (.str _) (.cons (.int _) .nil))) (val_two (by decide +kernel) fun z => absurd z (by decide +kernel))⟩
    · refine ⟨_, rfl, _, _, rfl, rfl, pl, _, _, _, rfl, rfl, SqL.of upd_same, atI_nat (j := 1) rfl, q _ (.tuple [.str ("nothing" : Str)]) _ K8 D8 (.tup (t5 _ _ upd_same) (.cons (.str _) .nil)) (val_one (by decide +kernel) (by decide +kernel))⟩
    · refine ⟨_, rfl, _, _, rfl, rfl, pl, _, _, _, rfl, rfl, SqL.of upd_same, atI_nat (j := 2) rfl, q _ (.tuple [.str ("method" : Str), .int k2]) _ K8 D8 (.tup (t7 _ _ upd_same) (.cons (.str _) (.cons (.int _) .nil))) (val_two (by decide +kernel) fun z => absurd z (by decide +kernel))⟩
    · refine ⟨_, rfl, _, _, rfl, rfl, pl, _, _, _, rfl, rfl, SqL.of upd_same, atI_nat (j := 3) rfl, q _ (.tuple [.str ("block" : Str), .int 1]) _ K8 D8 (.tup (t8 _ _ upd_same) (.cons (.str _) (.cons (.int _) .nil))) (val_two (by decide +kernel) fun z => absurd z (by decide +kernel))⟩
end
end Rm.Q

/-! M22: what a search rests on: plain Lean; worlds of objects that a law makes. -/
namespace Rm.Q
open PySem PySem.Spec PyProof.Rows L2
/-! ### data without truths: equal is the same -/
mutual
def plD : PyData → Bool
  | .none | .int _ | .str _ => true
  | .tuple xs => plAll xs
  | _ => false
def plAll : List PyData → Bool
  | [] => true
  | x :: xs => plD x && plAll xs
end
mutual
theorem eqv_eq : ∀ (d e : PyData), plD d = true → plD e = true → PyData.eqv d e = true → d = e
  | .none, e, _, he, h => by cases e <;> simp_all [PyData.eqv, plD]
  | .int i, e, _, he, h => by cases e <;> simp_all [PyData.eqv, plD]
  | .str x, e, _, he, h => by cases e <;> simp_all [PyData.eqv, plD]
  | .tuple xs, e, hd, he, h => by
    cases e with
    | tuple ys =>
      simp only [plD] at hd he
      simp only [PyData.eqv] at h
      rw [eqvAll_eq xs ys hd he h]
    | _ => simp_all [PyData.eqv, plD]
  | .bool _, _, hd, _, _ => by simp [plD] at hd
  | .list _, _, hd, _, _ => by simp [plD] at hd
  | .dict _, _, hd, _, _ => by simp [plD] at hd
theorem eqvAll_eq : ∀ (xs ys : List PyData), plAll xs = true → plAll ys = true → PyData.eqvAll xs ys = true → xs = ys
  | [], ys, _, _, h => by
    cases ys with
    | nil => rfl
    | cons y ys => simp [PyData.eqvAll] at h
  | x :: xs, ys, hd, he, h => by
    cases ys with
    | nil => simp [PyData.eqvAll] at h
    | cons y ys =>
      simp only [plAll, Bool.and_eq_true] at hd he
      simp only [PyData.eqvAll, Bool.and_eq_true] at h
      rw [eqv_eq x y hd.1 he.1 h.1, eqvAll_eq xs ys hd.2 he.2 h.2]
end
mutual
theorem tr_pl {H : Hp} : ∀ {v : V} {d : PyData}, Tr H v d → plD d = true
  | _, _, .non => rfl
  | _, _, .int _ => rfl
  | _, _, .str _ => rfl
  | _, _, .tup _ r => by
    simp only [plD]
    exact trs_pl r
theorem trs_pl {H : Hp} : ∀ {vs : List V} {ds : List PyData}, Trs H vs ds → plAll ds = true
  | _, _, .nil => rfl
  | _, _, .cons h r => by
    simp only [plAll, Bool.and_eq_true]
    exact ⟨tr_pl h, trs_pl r⟩
end
/-! ### searches -/
section
variable {tab tab' : List En} {x : Str}
theorem sr_mono : ∀ (m : Nat) (L A w : List Int), ∀ i ∈ L, i ∈ (srF tab x m L A w).1
  | 0, _, _, _, _, h => h
  | _ + 1, _, _, [], _, h => h
  | m + 1, L, A, j :: w, i, h => by
    unfold srF
    split
    · exact sr_mono m L A w i h
    · split
      · exact sr_mono m _ _ w i (List.mem_append_left _ h)
      · exact sr_mono m _ _ _ i (List.mem_append_left _ h)
theorem sr_sub : ∀ (m : Nat) (L A w : List Int), (∀ i ∈ A, i ∈ L) → ∀ i ∈ (srF tab x m L A w).2, i ∈ (srF tab x m L A w).1
  | 0, _, _, _, h => h
  | _ + 1, _, _, [], h => h
  | m + 1, L, A, j :: w, h => by
    unfold srF
    split
    · exact sr_sub m L A w h
    · split
      · refine sr_sub m _ _ w fun i hi => ?_
        rcases List.mem_append.mp hi with hi | hi
        · exact List.mem_append_left _ (h i hi)
        · exact List.mem_append_right _ hi
      · exact sr_sub m _ _ _ fun i hi => List.mem_append_left _ (h i hi)
/-- what is looked at agrees: the same search -/
theorem sr_congr : ∀ (m : Nat) (L A w : List Int), (∀ i ∈ (srF tab x m L A w).1, hasS tab' x i = hasS tab x i ∧ parI tab' i = parI tab i) → srF tab' x m L A w = srF tab x m L A w
  | 0, _, _, _, _ => rfl
  | _ + 1, _, _, [], _ => rfl
  | m + 1, L, A, j :: w, h => by
    unfold srF at h ⊢
    by_cases c : j ∈ L
    · rw [if_pos c] at h
      rw [if_pos c, if_pos c]
      exact sr_congr m L A w h
    · rw [if_neg c] at h
      rw [if_neg c, if_neg c]
      have hj : hasS tab' x j = hasS tab x j ∧ parI tab' j = parI tab j := by
        refine h j ?_
        split
        · exact sr_mono m _ _ w j (List.mem_append_right _ (List.mem_singleton.mpr rfl))
        · exact sr_mono m _ _ _ j (List.mem_append_right _ (List.mem_singleton.mpr rfl))
      rw [hj.1, hj.2]
      by_cases c2 : hasS tab x j = true
      · rw [if_pos c2] at h
        rw [if_pos c2, if_pos c2]
        exact sr_congr m _ _ w h
      · rw [if_neg c2] at h
        rw [if_neg c2, if_neg c2]
        exact sr_congr m _ _ _ h
theorem sr_fuel (o : tab.Pairwise fun a b => a.id < b.id) (cl : Closed tab) : ∀ (m m2 : Nat) (L A w : List Int), L.Nodup → (∀ i ∈ L, isId tab i) → (∀ i ∈ w, isId tab i) → (tab.length - L.length) * (bdS tab + 1) + w.length < m → (tab.length - L.length) * (bdS tab + 1) + w.length < m2 → srF tab x m L A w = srF tab x m2 L A w
  | 0, _, _, _, _, _, _, _, h, _ => absurd h (Nat.not_lt_zero _)
  | _, 0, _, _, _, _, _, _, _, h => absurd h (Nat.not_lt_zero _)
  | m + 1, m2 + 1, L, A, [], _, _, _, _, _ => rfl
  | m + 1, m2 + 1, L, A, j :: w, nd, hL, hw, h1, h2 => by
    rw [List.length_cons] at h1 h2
    have hw2 : ∀ i ∈ w, isId tab i := fun i hi => hw i (List.mem_cons_of_mem _ hi)
    unfold srF
    by_cases c : j ∈ L
    · rw [if_pos c, if_pos c]
      exact sr_fuel o cl m m2 L A w nd hL hw2 (by omega) (by omega)
    · rw [if_neg c, if_neg c]
      have ndL : (L ++ [j]).Nodup := List.nodup_append.mpr ⟨nd, by simp, fun y hy z hz => by
        rw [List.mem_singleton.mp hz]
        intro k
        exact c (by rw [← k]; exact hy)⟩
      have hLi : ∀ i ∈ L ++ [j], isId tab i := fun i hi => by
        rcases List.mem_append.mp hi with hi | hi
        · exact hL i hi
        · rw [List.mem_singleton.mp hi]
          exact hw j List.mem_cons_self
      have ll := ids_len ndL hLi
      rw [List.length_append, List.length_singleton] at ll
      have el : (L ++ [j]).length = L.length + 1 := by rw [List.length_append]; rfl
      split
      · have a1 := fuel_step (N := tab.length) (l := L.length) (B := bdS tab) (w := w.length) (m := m) ll h1 (Nat.zero_le _)
        have a2 := fuel_step (N := tab.length) (l := L.length) (B := bdS tab) (w := w.length) (m := m2) ll h2 (Nat.zero_le _)
        exact sr_fuel o cl m m2 _ _ w ndL hLi hw2 (by rw [el]; omega) (by rw [el]; omega)
      · obtain ⟨e, he, rfl⟩ := hw j List.mem_cons_self
        rw [parI_mem o he]
        have b := par_bd he
        have a1 := fuel_step (N := tab.length) (l := L.length) (B := bdS tab) (w := w.length) (m := m) ll h1 b
        have a2 := fuel_step (N := tab.length) (l := L.length) (B := bdS tab) (w := w.length) (m := m2) ll h2 b
        refine sr_fuel o cl m m2 _ _ _ ndL hLi (fun i hi => ?_) (by rw [el, List.length_append]; exact a1) (by rw [el, List.length_append]; exact a2)
        rcases List.mem_append.mp hi with hi | hi
        · exact cl e he i hi
        · exact hw2 i hi
theorem sr_ids (o : tab.Pairwise fun a b => a.id < b.id) (cl : Closed tab) : ∀ (m : Nat) (L A w : List Int), (∀ i ∈ L, isId tab i) → (∀ i ∈ w, isId tab i) → ∀ i ∈ (srF tab x m L A w).1, isId tab i
  | 0, _, _, _, h, _ => h
  | _ + 1, _, _, [], h, _ => h
  | m + 1, L, A, j :: w, h, hw => by
    have hw2 : ∀ i ∈ w, isId tab i := fun i hi => hw i (List.mem_cons_of_mem _ hi)
    have hLi : ∀ i ∈ L ++ [j], isId tab i := fun i hi => by
      rcases List.mem_append.mp hi with hi | hi
      · exact h i hi
      · rw [List.mem_singleton.mp hi]
        exact hw j List.mem_cons_self
    unfold srF
    split
    · exact sr_ids o cl m L A w h hw2
    · split
      · exact sr_ids o cl m _ _ w hLi hw2
      · refine sr_ids o cl m _ _ _ hLi fun i hi => ?_
        obtain ⟨e, he, rfl⟩ := hw j List.mem_cons_self
        rw [parI_mem o he] at hi
        rcases List.mem_append.mp hi with hi | hi
        · exact cl e he i hi
        · exact hw2 i hi
theorem start_lt (st : List Int) : (tab.length - ([] : List Int).length) * (bdS tab + 1) + st.length < fuel tab st := by
  unfold fuel
  rw [List.length_nil, Nat.sub_zero]
  omega
theorem srch_ids (o : tab.Pairwise fun a b => a.id < b.id) (cl : Closed tab) {st : List Int} (hst : ∀ i ∈ st, isId tab i) : ∀ i ∈ (srch tab x st).1, isId tab i := sr_ids o cl _ [] [] st (fun i hi => by cases hi) hst
/-- the same search, the same outcome -/
theorem res_congr (o : tab.Pairwise fun a b => a.id < b.id) (o' : tab'.Pairwise fun a b => a.id < b.id) (cl : Closed tab) (cl' : Closed tab') {st : List Int} (h1 : ∀ i ∈ st, isId tab i) (h2 : ∀ i ∈ st, isId tab' i)
    (h : ∀ i ∈ (srch tab x st).1, slotOf tab' x i = slotOf tab x i ∧ parI tab' i = parI tab i) : resD tab' x (srch tab' x st) = resD tab x (srch tab x st) := by
  have e : srch tab' x st = srch tab x st := by
    have f1 := start_lt (tab := tab) st
    have f2 := start_lt (tab := tab') st
    have a1 : srch tab x st = srF tab x (fuel tab st + fuel tab' st) [] [] st := sr_fuel o cl _ _ [] [] st List.nodup_nil (fun i hi => by cases hi) h1 f1 (by omega)
    have a2 : srch tab' x st = srF tab' x (fuel tab st + fuel tab' st) [] [] st := sr_fuel o' cl' _ _ [] [] st List.nodup_nil (fun i hi => by cases hi) h2 f2 (by omega)
    rw [a1] at h ⊢
    rw [a2]
    exact sr_congr _ [] [] st fun i hi => ⟨by unfold hasS; rw [(h i hi).1], (h i hi).2⟩
  have sub : ∀ i ∈ (srch tab x st).2, i ∈ (srch tab x st).1 := sr_sub _ [] [] st fun i hi => by cases hi
  have key : outD tab' x (srch tab x st).2 = outD tab x (srch tab x st).2 := by
    generalize (srch tab x st).2 = hs at sub ⊢
    match hs, sub with
    | [], _ => rfl
    | [j], sub =>
      have one : ∀ t : List En, outD t x [j] = match slotOf t x j with | some s => PyData.tuple [.str ("found" : Str), .int j, .str s.kind, s.val] | none => .none := fun _ => rfl
      rw [one, one, (h j (sub j List.mem_cons_self)).1]
    | _ :: _ :: _, _ => rfl
  rw [e]
  unfold resD
  rw [key]
/-- what a law keeps of an object: its slot of a name and its parents -/
def slD (tab : List En) (x : Str) (i : Int) : PyData := match slotOf tab x i with
  | some s => .tuple [.str s.kind, s.val]
  | none => .none
def vD (tab : List En) (x : Str) (i : Int) : PyData := .tuple [slD tab x i, .tuple ((parI tab i).map PyData.int)]
theorem slotOf_name {i : Int} {s : Sl} (h : slotOf tab x i = some s) : s.name = x := by
  unfold slotOf at h
  obtain ⟨e, _, g⟩ := Option.bind_eq_some_iff.mp h
  exact (getS_mem g).2
theorem ints_inj : ∀ {a b : List Int}, a.map PyData.int = b.map PyData.int → a = b
  | [], [], _ => rfl
  | [], _ :: _, h => by cases h
  | _ :: _, [], h => by cases h
  | x :: a, y :: b, h => by
    obtain ⟨h1, h2⟩ := List.cons.inj h
    rw [PyData.int.inj h1, ints_inj h2]
theorem vD_inj {i : Int} (h : vD tab' x i = vD tab x i) : slotOf tab' x i = slotOf tab x i ∧ parI tab' i = parI tab i := by
  unfold vD at h
  injection h with h
  injection h with h1 h2
  injection h2 with h2
  injection h2 with h2
  refine ⟨?_, ints_inj h2⟩
  unfold slD at h1
  cases a : slotOf tab' x i with
  | none =>
    rw [a] at h1
    cases b : slotOf tab x i with
    | none => rfl
    | some s =>
      rw [b] at h1
      cases h1
  | some s =>
    rw [a] at h1
    cases b : slotOf tab x i with
    | none =>
      rw [b] at h1
      cases h1
    | some t =>
      rw [b] at h1
      injection h1 with h1
      injection h1 with h3 h4
      injection h3 with h3
      injection h4 with h4
      have n1 := slotOf_name a
      have n2 := slotOf_name b
      obtain ⟨x1, x2, x3⟩ := s
      obtain ⟨y1, y2, y3⟩ := t
      dsimp only at n1 n2 h3 h4
      rw [n1, n2, h3, h4]
end
/-! ### worlds that the law makes -/
structure SlD (m : Int) (s : Sl) : Prop where
  nm : ∃ t ∈ nameM, s.name = Str.ofString t
  kd : PyData.strOk s.kind = true
  vl : ValD m s.val
structure GoodT (tab : List En) (n : Nat) (m : Int) : Prop where
  ids : tab.map (·.id) = List.range n
  sl : ∀ e ∈ tab, ∀ s ∈ e.sl, SlD m s
  nd : ∀ e ∈ tab, NdS e.sl
section
variable {tab : List En} {n : Nat} {m : Int}
theorem GoodT.len (g : GoodT tab n m) : tab.length = n := by
  have := congrArg List.length g.ids
  rwa [List.length_map, List.length_range] at this
theorem GoodT.ord (g : GoodT tab n m) : tab.Pairwise fun a b => a.id < b.id := by
  have a : (List.range n).Pairwise (· < ·) := List.pairwise_lt_range
  rw [← g.ids] at a
  exact List.pairwise_map.mp a
theorem GoodT.isId (g : GoodT tab n m) {i : Int} (h0 : 0 ≤ i) (h1 : i < n) : isId tab i := by
  obtain ⟨k, rfl⟩ := int_nat h0
  have : k ∈ tab.map (·.id) := by
    rw [g.ids]
    exact List.mem_range.mpr (by omega)
  obtain ⟨e, he, rfl⟩ := List.mem_map.mp this
  exact ⟨e, he, rfl⟩
theorem GoodT.lt (g : GoodT tab n m) {e : En} (he : e ∈ tab) : e.id < n := by
  have : e.id ∈ tab.map (·.id) := List.mem_map.mpr ⟨e, he, rfl⟩
  rw [g.ids] at this
  exact List.mem_range.mp this
theorem GoodT.closed (g : GoodT tab n m) (le : m ≤ n) : Closed tab := fun e he i hi => by
  obtain ⟨s, hs, h⟩ := List.mem_filterMap.mp hi
  unfold parOf at h
  split at h
  · obtain ⟨a, b⟩ := (g.sl e he s hs).vl.ref i h
    exact g.isId a (by omega)
  · cases h
theorem strs_len : ∀ {L M : List Str}, L.Nodup → (∀ i ∈ L, i ∈ M) → L.length ≤ M.length
  | [], _, _, _ => Nat.zero_le _
  | i :: L, M, nd, h => by
    obtain ⟨n1, n2⟩ := List.nodup_cons.mp nd
    have hi := h i List.mem_cons_self
    have e := List.length_erase_of_mem hi
    have pos : 0 < M.length := List.length_pos_of_mem hi
    have ih := strs_len (M := M.erase i) n2 fun j hj => (List.mem_erase_of_ne (fun z => n1 (by rw [← z]; exact hj))).mpr (h j (List.mem_cons_of_mem _ hj))
    rw [List.length_cons]
    omega
theorem six {m : Int} {sl : List Sl} (nd : NdS sl) (h : ∀ s ∈ sl, SlD m s) : sl.length ≤ 6 := by
  have := strs_len (M := nameM.map Str.ofString) nd fun i hi => by
    obtain ⟨s, hs, rfl⟩ := List.mem_map.mp hi
    obtain ⟨t, ht, e⟩ := (h s hs).nm
    exact List.mem_map.mpr ⟨t, ht, e.symm⟩
  rw [List.length_map, List.length_map] at this
  exact this
theorem GoodT.six (g : GoodT tab n m) {e : En} (he : e ∈ tab) : e.sl.length ≤ 6 := Q.six (g.nd e he) (g.sl e he)
theorem sum_le {B : Nat} : ∀ {l : List Nat}, (∀ x ∈ l, x ≤ B) → l.sum ≤ l.length * B
  | [], _ => by simp
  | y :: l, h => by
    have := sum_le fun x hx => h x (List.mem_cons_of_mem _ hx)
    have := h y List.mem_cons_self
    rw [List.sum_cons, List.length_cons, Nat.succ_mul]
    omega
theorem GoodT.fuel (g : GoodT tab n m) (hn : n ≤ 100) {st : List Int} (hs : st.length ≤ 1000) : fuel tab st ≤ 10000000 := by
  have b : bdS tab ≤ n * 6 := by
    have := sum_le (B := 6) (l := tab.map fun e => (parS e.sl).length) fun x hx => by
      obtain ⟨e, he, rfl⟩ := List.mem_map.mp hx
      exact Nat.le_trans (parS_len _) (g.six he)
    rw [List.length_map, g.len] at this
    exact this
  unfold Rm.fuel
  rw [g.len]
  have : n * (bdS tab + 1) ≤ 100 * 601 := Nat.mul_le_mul hn (by omega)
  omega
theorem GoodT.set (g : GoodT tab n m) (i : Nat) {sl : List Sl} (h : ∀ s ∈ sl, SlD m s) (nd : NdS sl) : GoodT (setE tab i sl) n m := by
  refine ⟨(setE_id tab i sl).trans g.ids, fun e he => ?_, fun e he => ?_⟩
  · obtain ⟨e0, m0, rfl⟩ := setE_mem he
    split
    · exact h
    · exact g.sl e0 m0
  · obtain ⟨e0, m0, rfl⟩ := setE_mem he
    split
    · exact nd
    · exact g.nd e0 m0
theorem GoodT.add (g : GoodT tab n m) (o : Addr) {sl : List Sl} (h : ∀ s ∈ sl, SlD m s) (nd : NdS sl) : GoodT (tab ++ [⟨n, o, sl⟩]) (n + 1) m := by
  refine ⟨by rw [List.map_append, g.ids, List.range_succ]; rfl, fun e he => ?_, fun e he => ?_⟩
  · rcases List.mem_append.mp he with he | he
    · exact g.sl e he
    · rw [List.mem_singleton.mp he]
      exact h
  · rcases List.mem_append.mp he with he | he
    · exact g.nd e he
    · rw [List.mem_singleton.mp he]
      exact nd
theorem mkS_nd (ts : List Sl) : NdS (mkS ts) := by
  have z : ∀ (l acc : List Sl), NdS acc → NdS (l.foldl putS acc) := by
    intro l
    induction l with
    | nil => exact fun _ h => h
    | cons s l ih => exact fun acc h => ih _ (putS_nd s h)
  exact z ts [] List.nodup_nil
theorem mkS_mem {ts : List Sl} {s : Sl} (h : s ∈ mkS ts) : s ∈ ts := by
  have z : ∀ (l acc : List Sl) (s : Sl), s ∈ l.foldl putS acc → s ∈ acc ∨ s ∈ l := by
    intro l
    induction l with
    | nil => exact fun _ s h => .inl h
    | cons t l ih =>
      intro acc s h
      rcases ih _ s h with h | h
      · rcases putS_mem h with h | h
        · exact .inl h
        · exact .inr (by rw [h]; exact List.mem_cons_self)
      · exact .inr (List.mem_cons_of_mem _ h)
  rcases z ts [] s h with h | h
  · cases h
  · exact h
/-- elsewhere nothing has changed -/
theorem slot_set (g : GoodT tab n m) (i : Nat) (sl : List Sl) {x : Str} {j : Int} (hj : isId tab j) (ne : j ≠ (i : Int)) : slotOf (setE tab i sl) x j = slotOf tab x j ∧ parI (setE tab i sl) j = parI tab j := by
  obtain ⟨e, he, rfl⟩ := hj
  have ne : e.id ≠ i := by omega
  have m2 : e ∈ setE tab i sl := List.mem_map.mpr ⟨e, he, if_neg ne⟩
  have o2 := pw_ids (setE_id tab i sl) g.ord
  rw [slotOf_mem o2 m2, slotOf_mem g.ord he, parI_mem o2 m2, parI_mem g.ord he]
  exact ⟨rfl, rfl⟩
theorem slot_add {t : En} (o2 : (tab ++ [t]).Pairwise fun a b => a.id < b.id) (g : GoodT tab n m) {x : Str} {j : Int} (hj : isId tab j) : slotOf (tab ++ [t]) x j = slotOf tab x j ∧ parI (tab ++ [t]) j = parI tab j := by
  obtain ⟨e, he, rfl⟩ := hj
  have m2 : e ∈ tab ++ [t] := List.mem_append_left _ he
  rw [slotOf_mem o2 m2, slotOf_mem g.ord he, parI_mem o2 m2, parI_mem g.ord he]
  exact ⟨rfl, rfl⟩
end
/-! ### a world: draws, objects -/
structure Wo (K : PySem.W.Frag) (H : Hp) (d r p dx tb : Addr) (tab : List En) (n : Nat) (m : Int) : Prop where
  dr : Draws H d r
  ob : Ob K H p dx tb tab n
  gd : GoodT tab n m
  dt : d ≠ tb
  da : ∀ e ∈ tab, d ≠ e.at_
/-- what else stands stays -/
def KW (d p tb : Addr) (tab : List En) (H H' : Hp) : Prop := ∀ b u, b ≠ d → b ≠ p → b ≠ tb → (∀ e ∈ tab, b ≠ e.at_) → H b = some u → H' b = some u
section
variable {K : PySem.W.Frag} {H H' : Hp} {d r p dx tb : Addr} {tab : List En} {n : Nat} {m : Int}
theorem Wo.pd (w : Wo K H d r p dx tb tab n m) : p ≠ d := by
  obtain ⟨i, s, ns, h1, _⟩ := w.dr
  exact ne_of w.ob.ins h1 (by intro z; cases z)
theorem Wo.same (w : Wo K H d r p dx tb tab n m) (s : Same H H') : Wo K H' d r p dx tb tab n m := ⟨w.dr.same s, w.ob.same s, w.gd, w.dt, w.da⟩
theorem Wo.kept (w : Wo K H d r p dx tb tab n m) (k : Kept d H H') (D : Draws H' d r) : Wo K H' d r p dx tb tab n m := by
  refine ⟨D, w.ob.keep ?_ ?_ (fun e he => ?_) (kept_tk w.dr k), w.gd, w.dt, w.da⟩
  · exact (k _ _ w.pd w.ob.ins).trans w.ob.ins.symm
  · exact (k _ _ (Ne.symm w.dt) w.ob.tbl).trans w.ob.tbl.symm
  · obtain ⟨kvs, g, _⟩ := w.ob.ent e he
    exact (k _ _ (Ne.symm (w.da e he)) g).trans g.symm
theorem Wo.ko {tab' : List En} {n' : Nat} (w : Wo K H d r p dx tb tab n m) (k : KO p tb tab H H') (O : Ob K H' p dx tb tab' n') (g : GoodT tab' n' m) (da : ∀ e ∈ tab', d ≠ e.at_) : Wo K H' d r p dx tb tab' n' m := by
  obtain ⟨i, s, ns, h1, h2, h3⟩ := id w.dr
  refine ⟨⟨i, s, ns, k _ _ (Ne.symm w.pd) w.dt w.da h1, k _ _ (ne_of h2 w.ob.ins (by intro z; cases z)) (ne_of h2 w.ob.tbl (by intro z; cases z)) (fun e he => ?_) h2, h3⟩, O, g, w.dt, da⟩
  obtain ⟨kvs, g, _⟩ := w.ob.ent e he
  exact ne_of h2 g (by intro z; cases z)
/-- a list of the def's own is written anew -/
theorem Wo.lst {u : Addr} {xs ys : List V} (w : Wo K H d r p dx tb tab n m) (h : H u = some (.lst xs)) (ur : u ≠ r) : Wo K (upd H u (.lst ys)) d r p dx tb tab n m := by
  obtain ⟨i, s, ns, h1, h2, h3⟩ := id w.dr
  have ud : u ≠ d := ne_of h h1 (by intro z; cases z)
  have tk : TK H (upd H u (.lst ys)) := fun b zs e => by
    rw [upd_ne (ne_of e h (by intro z; cases z))]
    exact e
  refine ⟨w.dr.other ud ur, w.ob.keep (upd_ne (ne_of w.ob.ins h (by intro z; cases z))) (upd_ne (ne_of w.ob.tbl h (by intro z; cases z))) (fun e he => ?_) tk, w.gd, w.dt, w.da⟩
  obtain ⟨kvs, g, _⟩ := w.ob.ent e he
  exact upd_ne (ne_of g h (by intro z; cases z))
theorem Wo.closed (w : Wo K H d r p dx tb tab n m) (le : m ≤ n) : Closed tab := w.gd.closed le
theorem KW.trans {H2 : Hp} (a : KW d p tb tab H H') (b : KW d p tb tab H' H2) : KW d p tb tab H H2 := fun c u n1 n2 n3 n4 z => b c u n1 n2 n3 n4 (a c u n1 n2 n3 n4 z)
theorem KW.kept (k : Kept d H H') : KW d p tb tab H H' := fun b u n1 _ _ _ z => k b u n1 z
theorem KW.ko (k : KO p tb tab H H') : KW d p tb tab H H' := fun b u _ n2 n3 n4 z => k b u n2 n3 n4 z
theorem KW.same (s : Same H H') : KW d p tb tab H H' := fun b u _ _ _ _ z => s b u z
theorem KW.tk (w : Wo K H d r p dx tb tab n m) (k : KW d p tb tab H H') : TK H H' := fun a xs z => by
  obtain ⟨i, s, ns, h1, _⟩ := w.dr
  refine k a _ (ne_of z h1 (by intro z; cases z)) (ne_of z w.ob.ins (by intro z; cases z)) (ne_of z w.ob.tbl (by intro z; cases z)) (fun e he => ?_) z
  obtain ⟨kvs, g, _⟩ := w.ob.ent e he
  exact ne_of z g (by intro z; cases z)
/-! ### shapes -/
theorem ints_lay : ∀ L : List Int, PyData.canLayAll0 (L.map PyData.int) = true ∧ PyData.depthAll (L.map PyData.int) = 0
  | [] => ⟨rfl, rfl⟩
  | i :: L => by
    obtain ⟨a, b⟩ := ints_lay L
    rw [List.map_cons]
    simp [PyData.canLayAll0, PyData.depthAll, PyData.canLay0, PyData.depth, a, b]
theorem slot_sl (w : Wo K H d r p dx tb tab n m) {x : Str} {i : Int} {s : Sl} (h : slotOf tab x i = some s) : SlD m s := by
  unfold slotOf at h
  obtain ⟨e, h1, h2⟩ := Option.bind_eq_some_iff.mp h
  exact w.gd.sl e (List.mem_of_find?_eq_some h1) s (getS_mem h2).1
theorem outD_lay (w : Wo K H d r p dx tb tab n m) (x : Str) (hs : List Int) : PyData.canLay0 (outD tab x hs) = true ∧ PyData.depth (outD tab x hs) ≤ 2 := by
  have o1 : PyData.strOk ("none" : Str) = true := by decide +kernel
  have o2 : PyData.strOk ("found" : Str) = true := by decide +kernel
  have o3 : PyData.strOk ("several" : Str) = true := by decide +kernel
  match hs with
  | [] => exact ⟨by simp [outD, PyData.canLay0, PyData.canLayAll0, o1], by simp [outD, PyData.depth, PyData.depthAll]⟩
  | [j] =>
    have one : outD tab x [j] = match slotOf tab x j with | some s => PyData.tuple [.str ("found" : Str), .int j, .str s.kind, s.val] | none => .none := rfl
    rw [one]
    cases z : slotOf tab x j with
    | none => exact ⟨rfl, by simp [PyData.depth]⟩
    | some s =>
      have sd := slot_sl w z
      have v1 := sd.vl.lay
      have v2 := sd.vl.dep
      have v3 := sd.kd
      refine ⟨by simp [PyData.canLay0, PyData.canLayAll0, o2, v1, v3], ?_⟩
      simp only [PyData.depth, PyData.depthAll]
      omega
  | _ :: _ :: _ => exact ⟨by simp [outD, PyData.canLay0, PyData.canLayAll0, o3], by simp [outD, PyData.depth, PyData.depthAll]⟩
theorem shaped_small {d : PyData} (h : PyData.canLay0 d = true) (k : PyData.depth d ≤ 60) : SeqAt.shaped d = true := by
  unfold SeqAt.shaped
  rw [h, Bool.true_and]
  exact decide_eq_true (by omega)
theorem resD_shaped (w : Wo K H d r p dx tb tab n m) (x : Str) (q : List Int × List Int) : SeqAt.shaped (resD tab x q) = true := by
  obtain ⟨a, b⟩ := outD_lay w x q.2
  obtain ⟨c, e⟩ := ints_lay q.1
  unfold resD
  refine shaped_small (by simp [PyData.canLay0, PyData.canLayAll0, a, c]) ?_
  simp only [PyData.depth, PyData.depthAll, e]
  omega
theorem vD_shaped (w : Wo K H d r p dx tb tab n m) (x : Str) (i : Int) : SeqAt.shaped (vD tab x i) = true := by
  obtain ⟨c, e⟩ := ints_lay (parI tab i)
  unfold vD slD
  cases z : slotOf tab x i with
  | none =>
    refine shaped_small (by simp [PyData.canLay0, PyData.canLayAll0, c]) ?_
    simp only [PyData.depth, PyData.depthAll, e]
    omega
  | some s =>
    have sd := slot_sl w z
    have v1 := sd.vl.lay
    have v2 := sd.vl.dep
    have v3 := sd.kd
    refine shaped_small (by simp [PyData.canLay0, PyData.canLayAll0, c, v1, v3]) ?_
    simp only [PyData.depth, PyData.depthAll, e]
    omega
theorem in_ints (i : Int) (L : List Int) : inV (.int i) (L.map V.int) = decide (i ∈ L) := by
  unfold inV
  rw [Bool.eq_iff_iff, List.any_eq_true, decide_eq_true_iff]
  constructor
  · rintro ⟨v, hv, e⟩
    obtain ⟨k, hk, rfl⟩ := List.mem_map.mp hv
    have e : (k == i) = true := e
    rw [← beq_iff_eq.mp e]
    exact hk
  · intro h
    exact ⟨V.int i, List.mem_map.mpr ⟨i, h, rfl⟩, by show (i == i) = true; simp⟩
theorem merge_app : ∀ (kvs acc : List (Key × V)), (∀ kv ∈ kvs, valV acc kv.1 = none) → (kvs.map (·.1)).Nodup → mergeK acc kvs = acc ++ kvs
  | [], acc, _, _ => (List.append_nil acc).symm
  | kv :: kvs, acc, h, nd => by
    obtain ⟨n1, n2⟩ := List.nodup_cons.mp nd
    show mergeK (putK acc kv.1 kv.2) kvs = _
    rw [putK_new _ (h kv List.mem_cons_self), merge_app kvs (acc ++ [(kv.1, kv.2)]) (fun k hk => ?_) n2, List.append_assoc]
    · rfl
    · rw [valV_snoc _ _ _ _ (h kv List.mem_cons_self), if_neg, h k (List.mem_cons_of_mem _ hk)]
      intro e
      exact n1 (List.mem_map.mpr ⟨k, hk, e⟩)
end
end Rm.Q

/-! M21: searches by definition, plain Lean: a walk that calls itself, a set that grows, the outcome by the set of holders. -/
namespace Rm.Q
open PySem PySem.Spec PyProof.Rows L2
section
variable {tab : List En} {x : Str}
/-! ### the walk -/
def wk (tab : List En) (x : Str) : Nat → Int → List Int → List Int
  | 0, _, L => L
  | n + 1, i, L => if i ∈ L then L else if hasS tab x i = true then L ++ [i] else (parI tab i).foldl (fun L j => wk tab x n j L) (L ++ [i])
def wks (tab : List En) (x : Str) (n : Nat) (w L : List Int) : List Int := w.foldl (fun L j => wk tab x n j L) L
theorem wks_cons (n : Nat) (i : Int) (w L : List Int) : wks tab x n (i :: w) L = wks tab x n w (wk tab x n i L) := rfl
theorem wk_succ (n : Nat) (i : Int) (L : List Int) : wk tab x (n + 1) i L = if i ∈ L then L else if hasS tab x i = true then L ++ [i] else wks tab x n (parI tab i) (L ++ [i]) := rfl
structure LI (tab : List En) (L : List Int) : Prop where
  nd : L.Nodup
  ids : ∀ i ∈ L, isId tab i
theorem LI.nil : LI tab [] := ⟨List.nodup_nil, fun i h => by cases h⟩
theorem LI.snoc {L : List Int} {i : Int} (h : LI tab L) (hi : isId tab i) (n : ¬ i ∈ L) : LI tab (L ++ [i]) := ⟨List.nodup_append.mpr ⟨h.nd, by simp, fun y hy z hz => by
  rw [List.mem_singleton.mp hz]
  intro k
  exact n (by rw [← k]; exact hy)⟩, fun j hj => by
  rcases List.mem_append.mp hj with hj | hj
  · exact h.ids j hj
  · rw [List.mem_singleton.mp hj]
    exact hi⟩
theorem LI.len {L : List Int} (h : LI tab L) : L.length ≤ tab.length := ids_len h.nd h.ids
theorem par_ids (o : tab.Pairwise fun a b => a.id < b.id) (cl : Closed tab) {i : Int} (hi : isId tab i) : ∀ j ∈ parI tab i, isId tab j := by
  obtain ⟨e, he, rfl⟩ := hi
  intro j hj
  rw [parI_mem o he] at hj
  exact cl e he j hj
def Done (tab : List En) (x : Str) (L : List Int) (j : Int) : Prop := hasS tab x j = true ∨ ∀ k ∈ parI tab j, k ∈ L
theorem Done.mono {L M : List Int} {j : Int} (h : Done tab x L j) (s : ∀ k ∈ L, k ∈ M) : Done tab x M j := h.imp id fun h k hk => s k (h k hk)
structure WkOk (tab : List En) (x : Str) (ms : List Int) (L R R' : List Int) : Prop where
  inv : LI tab R
  ext : ∃ M, R = L ++ M
  mem : ∀ i ∈ ms, i ∈ R
  cls : ∀ j ∈ R, j ∈ L ∨ Done tab x R j
  fue : R' = R
theorem WkOk.sub {ms L R R' : List Int} (h : WkOk tab x ms L R R') : ∀ k ∈ L, k ∈ R := fun k hk => by
  obtain ⟨M, e⟩ := h.ext
  rw [e]
  exact List.mem_append_left _ hk
theorem WkOk.len {ms L R R' : List Int} (h : WkOk tab x ms L R R') : L.length ≤ R.length := by
  obtain ⟨M, e⟩ := h.ext
  rw [e, List.length_append]
  omega
theorem wks_ok {n : Nat} (P : ∀ i L, LI tab L → isId tab i → tab.length < L.length + n → WkOk tab x [i] L (wk tab x n i L) (wk tab x (n + 1) i L)) : ∀ w L, LI tab L → (∀ i ∈ w, isId tab i) → tab.length < L.length + n → WkOk tab x w L (wks tab x n w L) (wks tab x (n + 1) w L)
  | [], L, h, _, _ => ⟨h, ⟨[], (List.append_nil L).symm⟩, (fun i hi => by cases hi), fun j hj => .inl hj, rfl⟩
  | i :: w, L, h, hw, hn => by
    have p := P i L h (hw i List.mem_cons_self) hn
    have q := wks_ok P w (wk tab x n i L) p.inv (fun j hj => hw j (List.mem_cons_of_mem _ hj)) (by have := p.len; omega)
    rw [wks_cons, wks_cons, p.fue]
    refine ⟨q.inv, ?_, fun j hj => ?_, fun j hj => ?_, q.fue⟩
    · obtain ⟨M, e⟩ := p.ext
      obtain ⟨N, f⟩ := q.ext
      exact ⟨M ++ N, by rw [f]; conv => lhs; rw [e]
                        exact List.append_assoc _ _ _⟩
    · rcases List.mem_cons.mp hj with rfl | hj
      · exact q.sub _ (p.mem _ List.mem_cons_self)
      · exact q.mem j hj
    · rcases q.cls j hj with hj | hj
      · rcases p.cls j hj with hj | hj
        · exact .inl hj
        · exact .inr (hj.mono q.sub)
      · exact .inr hj
theorem wk_ok (o : tab.Pairwise fun a b => a.id < b.id) (cl : Closed tab) : ∀ (n : Nat) (i : Int) (L : List Int), LI tab L → isId tab i → tab.length < L.length + n → WkOk tab x [i] L (wk tab x n i L) (wk tab x (n + 1) i L)
  | 0, i, L, h, _, hn => absurd h.len (by omega)
  | n + 1, i, L, h, hi, hn => by
    rw [wk_succ, wk_succ]
    by_cases c : i ∈ L
    · rw [if_pos c, if_pos c]
      exact ⟨h, ⟨[], (List.append_nil L).symm⟩, fun j hj => by rw [List.mem_singleton.mp hj]; exact c, fun j hj => .inl hj, rfl⟩
    · rw [if_neg c, if_neg c]
      have h1 := h.snoc hi c
      by_cases k : hasS tab x i = true
      · rw [if_pos k, if_pos k]
        refine ⟨h1, ⟨[i], rfl⟩, fun j hj => List.mem_append_right _ hj, fun j hj => ?_, rfl⟩
        rcases List.mem_append.mp hj with hj | hj
        · exact .inl hj
        · rw [List.mem_singleton.mp hj]
          exact .inr (.inl k)
      · rw [if_neg k, if_neg k]
        have q := wks_ok (wk_ok o cl n) (parI tab i) (L ++ [i]) h1 (par_ids o cl hi) (by rw [List.length_append, List.length_singleton]; omega)
        refine ⟨q.inv, ?_, fun j hj => q.sub j (List.mem_append_right _ hj), fun j hj => ?_, q.fue⟩
        · obtain ⟨M, e⟩ := q.ext
          exact ⟨[i] ++ M, by rw [e, List.append_assoc]⟩
        · rcases q.cls j hj with hj | hj
          · rcases List.mem_append.mp hj with hj | hj
            · exact .inl hj
            · rw [List.mem_singleton.mp hj]
              exact .inr (.inr q.mem)
          · exact .inr hj
theorem wks_all (o : tab.Pairwise fun a b => a.id < b.id) (cl : Closed tab) {n : Nat} {w L : List Int} (h : LI tab L) (hw : ∀ i ∈ w, isId tab i) (hn : tab.length < L.length + n) : WkOk tab x w L (wks tab x n w L) (wks tab x (n + 1) w L) := wks_ok (wk_ok o cl n) w L h hw hn
/-- what is closed and holds the starts holds the walk -/
def Cl (tab : List En) (x : Str) (C : Int → Prop) : Prop := ∀ i, C i → Done tab x [] i ∨ ∀ k ∈ parI tab i, C k
theorem wk_least {C : Int → Prop} (hc : ∀ i, C i → hasS tab x i = true ∨ ∀ k ∈ parI tab i, C k) : ∀ (n : Nat) (i : Int) (L : List Int), C i → (∀ j ∈ L, C j) → ∀ j ∈ wk tab x n i L, C j
  | 0, _, _, _, h => h
  | n + 1, i, L, hi, h => by
    have h1 : ∀ j ∈ L ++ [i], C j := fun j hj => by
      rcases List.mem_append.mp hj with hj | hj
      · exact h j hj
      · rw [List.mem_singleton.mp hj]
        exact hi
    rw [wk_succ]
    split
    · exact h
    · split
      · exact h1
      · rename_i k
        have hp : ∀ p ∈ parI tab i, C p := (hc i hi).resolve_left k
        have z : ∀ (w M : List Int), (∀ p ∈ w, C p) → (∀ j ∈ M, C j) → ∀ j ∈ wks tab x n w M, C j := by
          intro w
          induction w with
          | nil => exact fun M _ h => h
          | cons p w ih => exact fun M hw hM => ih _ (fun q hq => hw q (List.mem_cons_of_mem _ hq)) (wk_least hc n p M (hw p List.mem_cons_self) hM)
        exact z _ _ hp h1
theorem wks_least {C : Int → Prop} (hc : ∀ i, C i → hasS tab x i = true ∨ ∀ k ∈ parI tab i, C k) (n : Nat) : ∀ (w L : List Int), (∀ i ∈ w, C i) → (∀ j ∈ L, C j) → ∀ j ∈ wks tab x n w L, C j
  | [], _, _, h => h
  | i :: w, L, hw, h => wks_least hc n w _ (fun q hq => hw q (List.mem_cons_of_mem _ hq)) (wk_least hc n i L (hw i List.mem_cons_self) h)
/-! ### the search is the walk -/
theorem sr_wk (o : tab.Pairwise fun a b => a.id < b.id) (cl : Closed tab) : ∀ (m : Nat) (L A w : List Int) (n : Nat), LI tab L → (∀ i ∈ w, isId tab i) → (tab.length - L.length) * (bdS tab + 1) + w.length < m → tab.length < L.length + n → (srF tab x m L A w).1 = wks tab x n w L
  | 0, _, _, _, _, _, _, h, _ => absurd h (Nat.not_lt_zero _)
  | m + 1, L, A, [], n, _, _, _, _ => rfl
  | m + 1, L, A, j :: w, n, hL, hw, hm, hn => by
    rw [List.length_cons] at hm
    have hw2 : ∀ i ∈ w, isId tab i := fun i hi => hw i (List.mem_cons_of_mem _ hi)
    have hj := hw j List.mem_cons_self
    obtain ⟨n', rfl⟩ : ∃ n', n = n' + 1 := ⟨n - 1, by have := hL.len; omega⟩
    rw [wks_cons, wk_succ]
    unfold srF
    by_cases c : j ∈ L
    · rw [if_pos c, if_pos c]
      exact sr_wk o cl m L A w _ hL hw2 (by omega) hn
    · rw [if_neg c, if_neg c]
      have h1 := hL.snoc hj c
      have ll := h1.len
      have el : (L ++ [j]).length = L.length + 1 := by rw [List.length_append]; rfl
      rw [el] at ll
      split
      · have a1 := fuel_step (N := tab.length) (l := L.length) (B := bdS tab) (w := w.length) (m := m) ll hm (Nat.zero_le _)
        exact sr_wk o cl m _ _ w _ h1 hw2 (by rw [el]; omega) (by rw [el]; omega)
      · have pi := par_ids o cl hj
        obtain ⟨e, he, ej⟩ := id hj
        have b : (parI tab j).length ≤ bdS tab := by
          rw [← ej, parI_mem o he]
          exact par_bd he
        have a1 := fuel_step (N := tab.length) (l := L.length) (B := bdS tab) (w := w.length) (m := m) ll hm b
        rw [sr_wk o cl m _ _ (parI tab j ++ w) (n' + 1) h1 (fun i hi => by
          rcases List.mem_append.mp hi with hi | hi
          · exact pi i hi
          · exact hw2 i hi) (by rw [el, List.length_append]; exact a1) (by rw [el]; omega)]
        have f := (wks_all (x := x) o cl (n := n') h1 pi (by rw [el]; omega)).fue
        unfold wks at f ⊢
        rw [List.foldl_append, f]
theorem sr_fil : ∀ (m : Nat) (L A w : List Int), A = L.filter (hasS tab x) → (srF tab x m L A w).2 = (srF tab x m L A w).1.filter (hasS tab x)
  | 0, _, _, _, h => h
  | _ + 1, _, _, [], h => h
  | m + 1, L, A, j :: w, h => by
    unfold srF
    split
    · exact sr_fil m L A w h
    · split
      · rename_i c
        refine sr_fil m _ _ w ?_
        rw [List.filter_append, ← h, List.filter_cons, if_pos c]
        rfl
      · rename_i c
        refine sr_fil m _ _ _ ?_
        rw [List.filter_append, ← h, List.filter_cons, if_neg c]
        exact (List.append_nil A).symm
/-- the fuel of a walk over eight objects -/
abbrev WF : Nat := 9
theorem srch_eq (o : tab.Pairwise fun a b => a.id < b.id) (cl : Closed tab) (h8 : tab.length ≤ 8) {st : List Int} (hst : ∀ i ∈ st, isId tab i) : srch tab x st = (wks tab x WF st [], (wks tab x WF st []).filter (hasS tab x)) := by
  have e : (srch tab x st).1 = wks tab x WF st [] := sr_wk o cl _ [] [] st WF LI.nil hst (start_lt st) (by show tab.length < 0 + 9; omega)
  have f : (srch tab x st).2 = (srch tab x st).1.filter (hasS tab x) := sr_fil _ [] [] st rfl
  rw [e] at f
  exact Prod.ext e f
/-! ### the set that grows -/
def addI (R : List Int) (p : Int) : List Int := if p ∈ R then R else R ++ [p]
def rnd1 (tab : List En) (x : Str) (R : List Int) (i : Int) : List Int := if hasS tab x i = true then R else (parI tab i).foldl addI R
def rnd (tab : List En) (x : Str) (R : List Int) : List Int := R.foldl (rnd1 tab x) R
def itr (tab : List En) (x : Str) : Nat → List Int → List Int
  | 0, R => R
  | k + 1, R => rnd tab x (itr tab x k R)
structure Gr (tab : List En) (R R' : List Int) : Prop where
  ex : ∃ E, R' = R ++ E ∧ E.Nodup ∧ ∀ i ∈ E, i ∉ R ∧ isId tab i
theorem Gr.refl (R : List Int) : Gr tab R R := ⟨[], (List.append_nil R).symm, List.nodup_nil, fun i h => by cases h⟩
theorem Gr.trans {R R1 R2 : List Int} (a : Gr tab R R1) (b : Gr tab R1 R2) : Gr tab R R2 := by
  obtain ⟨E, rfl, n1, h1⟩ := a.ex
  obtain ⟨F, rfl, n2, h2⟩ := b.ex
  refine ⟨E ++ F, List.append_assoc _ _ _, List.nodup_append.mpr ⟨n1, n2, fun y hy z hz k => (h2 z hz).1 (List.mem_append_right _ (by rw [← k]; exact hy))⟩, fun i hi => ?_⟩
  rcases List.mem_append.mp hi with hi | hi
  · exact h1 i hi
  · exact ⟨fun k => (h2 i hi).1 (List.mem_append_left _ k), (h2 i hi).2⟩
theorem Gr.sub {R R' : List Int} (a : Gr tab R R') : ∀ i ∈ R, i ∈ R' := fun i hi => by
  obtain ⟨E, rfl, _⟩ := a.ex
  exact List.mem_append_left _ hi
theorem Gr.ids {R R' : List Int} (a : Gr tab R R') (h : ∀ i ∈ R, isId tab i) : ∀ i ∈ R', isId tab i := fun i hi => by
  obtain ⟨E, rfl, _, h2⟩ := a.ex
  rcases List.mem_append.mp hi with hi | hi
  · exact h i hi
  · exact (h2 i hi).2
theorem Gr.len {R R' : List Int} (a : Gr tab R R') : R'.length ≤ R.length + tab.length := by
  obtain ⟨E, rfl, n, h⟩ := a.ex
  rw [List.length_append]
  have := ids_len n fun i hi => (h i hi).2
  omega
theorem Gr.le {R R' : List Int} (a : Gr tab R R') : R.length ≤ R'.length := by
  obtain ⟨E, rfl, n, h⟩ := a.ex
  rw [List.length_append]
  omega
theorem Gr.eq {R R' : List Int} (a : Gr tab R R') (h : R'.length ≤ R.length) : R' = R := by
  obtain ⟨E, rfl, _, _⟩ := a.ex
  rw [List.length_append] at h
  have : E = [] := List.eq_nil_of_length_eq_zero (by omega)
  rw [this, List.append_nil]
theorem addI_gr (R : List Int) {p : Int} (hp : isId tab p) : Gr tab R (addI R p) := by
  unfold addI
  split
  · exact Gr.refl R
  · rename_i c
    exact ⟨[p], rfl, by simp, fun i hi => by rw [List.mem_singleton.mp hi]; exact ⟨c, hp⟩⟩
theorem addI_mem (R : List Int) (p : Int) : p ∈ addI R p := by
  unfold addI
  split
  · assumption
  · exact List.mem_append_right _ (List.mem_singleton.mpr rfl)
theorem adds_gr : ∀ (ps R : List Int), (∀ p ∈ ps, isId tab p) → Gr tab R (ps.foldl addI R)
  | [], R, _ => Gr.refl R
  | p :: ps, R, h => (addI_gr R (h p List.mem_cons_self)).trans (adds_gr ps _ fun q hq => h q (List.mem_cons_of_mem _ hq))
theorem adds_mem : ∀ (ps R : List Int), (∀ p ∈ ps, isId tab p) → ∀ p ∈ ps, p ∈ ps.foldl addI R
  | [], _, _, _, h => by cases h
  | q :: ps, R, h, p, hp => by
    have h2 : ∀ r ∈ ps, isId tab r := fun r hr => h r (List.mem_cons_of_mem _ hr)
    rcases List.mem_cons.mp hp with rfl | hp
    · exact (adds_gr ps _ h2).sub _ (addI_mem R p)
    · exact adds_mem ps _ h2 p hp
theorem adds_all : ∀ (ps R : List Int), (∀ p ∈ ps, p ∈ R) → ps.foldl addI R = R
  | [], _, _ => rfl
  | p :: ps, R, h => by
    have e : addI R p = R := if_pos (h p List.mem_cons_self)
    rw [List.foldl_cons, e]
    exact adds_all ps R fun q hq => h q (List.mem_cons_of_mem _ hq)
theorem adds_least {C : Int → Prop} : ∀ (ps R : List Int), (∀ p ∈ ps, C p) → (∀ i ∈ R, C i) → ∀ i ∈ ps.foldl addI R, C i
  | [], _, _, h => h
  | p :: ps, R, hp, h => adds_least ps _ (fun q hq => hp q (List.mem_cons_of_mem _ hq)) fun i hi => by
    unfold addI at hi
    split at hi
    · exact h i hi
    · rcases List.mem_append.mp hi with hi | hi
      · exact h i hi
      · rw [List.mem_singleton.mp hi]
        exact hp p List.mem_cons_self
theorem rnd1_gr (o : tab.Pairwise fun a b => a.id < b.id) (cl : Closed tab) (R : List Int) {i : Int} (hi : isId tab i) : Gr tab R (rnd1 tab x R i) := by
  unfold rnd1
  split
  · exact Gr.refl R
  · exact adds_gr _ R (par_ids o cl hi)
theorem rnds_gr (o : tab.Pairwise fun a b => a.id < b.id) (cl : Closed tab) : ∀ (l R : List Int), (∀ i ∈ l, isId tab i) → Gr tab R (l.foldl (rnd1 tab x) R)
  | [], R, _ => Gr.refl R
  | i :: l, R, h => (rnd1_gr o cl R (h i List.mem_cons_self)).trans (rnds_gr o cl l _ fun q hq => h q (List.mem_cons_of_mem _ hq))
theorem rnds_done (o : tab.Pairwise fun a b => a.id < b.id) (cl : Closed tab) : ∀ (l R : List Int), (∀ i ∈ l, isId tab i) → ∀ i ∈ l, Done tab x (l.foldl (rnd1 tab x) R) i
  | [], _, _, _, h => by cases h
  | j :: l, R, h, i, hi => by
    have h2 : ∀ r ∈ l, isId tab r := fun r hr => h r (List.mem_cons_of_mem _ hr)
    rcases List.mem_cons.mp hi with rfl | hi
    · refine Done.mono (L := rnd1 tab x R i) ?_ (rnds_gr o cl l _ h2).sub
      by_cases c : hasS tab x i = true
      · exact .inl c
      · refine .inr fun k hk => ?_
        unfold rnd1
        rw [if_neg c]
        exact adds_mem _ R (par_ids o cl (h i List.mem_cons_self)) k hk
    · exact rnds_done o cl l _ h2 i hi
theorem rnds_all : ∀ (l R : List Int), (∀ i ∈ l, Done tab x R i) → l.foldl (rnd1 tab x) R = R
  | [], _, _ => rfl
  | i :: l, R, h => by
    have e : rnd1 tab x R i = R := by
      unfold rnd1
      split
      · rfl
      · rename_i c
        exact adds_all _ R ((h i List.mem_cons_self).resolve_left c)
    rw [List.foldl_cons, e]
    exact rnds_all l R fun q hq => h q (List.mem_cons_of_mem _ hq)
theorem rnds_least {C : Int → Prop} (hc : ∀ i, C i → hasS tab x i = true ∨ ∀ k ∈ parI tab i, C k) : ∀ (l R : List Int), (∀ i ∈ l, C i) → (∀ i ∈ R, C i) → ∀ i ∈ l.foldl (rnd1 tab x) R, C i
  | [], _, _, h => h
  | i :: l, R, hl, h => rnds_least hc l _ (fun q hq => hl q (List.mem_cons_of_mem _ hq)) (by
    unfold rnd1
    split
    · exact h
    · rename_i c
      exact adds_least _ R ((hc i (hl i List.mem_cons_self)).resolve_left c) h)
theorem itr_gr (o : tab.Pairwise fun a b => a.id < b.id) (cl : Closed tab) {st : List Int} (hst : ∀ i ∈ st, isId tab i) : ∀ k, Gr tab st (itr tab x k st)
  | 0 => Gr.refl st
  | k + 1 => (itr_gr o cl hst k).trans (rnds_gr o cl _ _ ((itr_gr o cl hst k).ids hst))
theorem itr_least {C : Int → Prop} (hc : ∀ i, C i → hasS tab x i = true ∨ ∀ k ∈ parI tab i, C k) {st : List Int} (hs : ∀ i ∈ st, C i) : ∀ k, ∀ i ∈ itr tab x k st, C i
  | 0 => hs
  | k + 1 => rnds_least hc _ _ (itr_least hc hs k) (itr_least hc hs k)
theorem itr_done (o : tab.Pairwise fun a b => a.id < b.id) (cl : Closed tab) {st : List Int} (hst : ∀ i ∈ st, isId tab i) : ∀ k, (∀ i ∈ itr tab x k st, Done tab x (itr tab x k st) i) ∨ st.length + k ≤ (itr tab x k st).length
  | 0 => .inr (Nat.le_refl _)
  | k + 1 => by
    have ids := (itr_gr (x := x) o cl hst k).ids hst
    have g : Gr tab (itr tab x k st) (itr tab x (k + 1) st) := rnds_gr o cl _ _ ids
    rcases itr_done o cl hst k with h | h
    · have e : itr tab x (k + 1) st = itr tab x k st := rnds_all _ _ h
      rw [e]
      exact .inl h
    · by_cases c : (itr tab x (k + 1) st).length ≤ (itr tab x k st).length
      · have e := g.eq c
        refine .inl fun i hi => ?_
        rw [e] at hi
        exact rnds_done o cl _ _ ids i hi
      · refine .inr ?_
        omega
theorem reach_done (o : tab.Pairwise fun a b => a.id < b.id) (cl : Closed tab) (h8 : tab.length ≤ 8) {st : List Int} (hst : ∀ i ∈ st, isId tab i) : ∀ i ∈ itr tab x 12 st, Done tab x (itr tab x 12 st) i := by
  rcases itr_done (x := x) o cl hst 12 with h | h
  · exact h
  · have := (itr_gr (x := x) o cl hst 12).len
    omega
/-- what is reached is what the walk meets -/
theorem reach_walk (o : tab.Pairwise fun a b => a.id < b.id) (cl : Closed tab) (h8 : tab.length ≤ 8) {st : List Int} (hst : ∀ i ∈ st, isId tab i) (i : Int) : i ∈ itr tab x 12 st ↔ i ∈ wks tab x WF st [] := by
  have w := wks_all (x := x) o cl (n := WF) (w := st) LI.nil hst (by show tab.length < 0 + 9; omega)
  constructor
  · refine itr_least (C := fun i => i ∈ wks tab x WF st []) (fun j hj => ?_) w.mem 12 i
    rcases w.cls j hj with h | h
    · cases h
    · exact h
  · exact wks_least (C := fun i => i ∈ itr tab x 12 st) (fun j hj => reach_done o cl h8 hst j hj) WF st [] (itr_gr o cl hst 12).sub (fun j hj => by cases hj) i
/-! ### the outcome by the set of holders -/
theorem outD_congr {F D : List Int} (nF : F.Nodup) (nD : D.Nodup) (h : ∀ i, i ∈ F ↔ i ∈ D) : outD tab x F = outD tab x D := by
  have l1 := nodup_len nF fun i hi => (h i).mp hi
  have l2 := nodup_len nD fun i hi => (h i).mpr hi
  match F, D with
  | [], [] => rfl
  | [a], [b] =>
    have : a = b := List.mem_singleton.mp ((h a).mp (List.mem_singleton.mpr rfl))
    rw [this]
  | _ :: _ :: _, _ :: _ :: _ => rfl
  | [], _ :: _ => simp at l2
  | _ :: _, [] => simp at l1
  | [_], _ :: _ :: _ => simp at l2
  | _ :: _ :: _, [_] => simp at l1
/-- by neighbours that differ, of an ascending row -/
structure Dd (hs : List Int) (k : Nat) (acc : List Int) : Prop where
  lt : acc.Pairwise (· < ·)
  mem : ∀ i, i ∈ acc ↔ i ∈ hs.take k
theorem Dd.zero (hs : List Int) : Dd hs 0 [] := ⟨.nil, fun i => by simp⟩
theorem Dd.keep {hs acc : List Int} {k : Nat} (d : Dd hs (k + 1) acc) (hk : k + 1 < hs.length) (e : hs[k + 1] = hs[k]) : Dd hs (k + 2) acc := by
  refine ⟨d.lt, fun i => ?_⟩
  rw [List.take_succ_eq_append_getElem hk, List.mem_append, ← d.mem i]
  constructor
  · exact .inl
  · rintro (h | h)
    · exact h
    · rw [List.mem_singleton.mp h, e, d.mem]
      rw [List.take_succ_eq_append_getElem (by omega)]
      exact List.mem_append_right _ (List.mem_singleton.mpr rfl)
theorem Dd.add {hs acc : List Int} {k : Nat} (s : hs.Pairwise (· ≤ ·)) (d : Dd hs k acc) (hk : k < hs.length) (ne : ∀ j, k = j + 1 → ∀ h : j < hs.length, hs[k] ≠ hs[j]) : Dd hs (k + 1) (acc ++ [hs[k]]) := by
  refine ⟨List.pairwise_append.mpr ⟨d.lt, List.pairwise_singleton _ _, fun y hy z hz => ?_⟩, fun i => ?_⟩
  · rw [List.mem_singleton.mp hz]
    obtain ⟨q, hq, rfl⟩ := List.getElem_of_mem ((d.mem y).mp hy)
    rw [List.length_take] at hq
    rw [List.getElem_take]
    obtain ⟨j, rfl⟩ : ∃ j, k = j + 1 := ⟨k - 1, by omega⟩
    have n := ne j rfl (by omega)
    have a : hs[q]'(by omega) ≤ hs[j]'(by omega) := by
      rcases Nat.lt_or_ge q j with c | c
      · exact List.pairwise_iff_getElem.mp s q j _ _ c
      · have : q = j := by omega
        subst this
        exact Int.le_refl _
    have b : hs[j]'(by omega) ≤ hs[j + 1] := List.pairwise_iff_getElem.mp s j (j + 1) _ _ (Nat.lt_succ_self j)
    omega
  · rw [List.take_succ_eq_append_getElem hk, List.mem_append, List.mem_append, d.mem i]
theorem Dd.nd {hs acc : List Int} {k : Nat} (d : Dd hs k acc) : acc.Nodup := d.lt.imp fun h e => by omega
end
end Rm.Q

/-! O7: dicts whose keys are nested tuples: {}, in, d[k], d[k] = v (a new key). -/
namespace Rm
open PySem PySem.Spec PyProof.Rows L2
mutual
/-- data as a key -/
def nk : PyData → NestedKey
  | .int i => .num i
  | .str x => .text x
  | .tuple ds => .tup (nkAll ds)
  | _ => .none
def nkAll : List PyData → List NestedKey
  | [] => []
  | d :: ds => nk d :: nkAll ds
end
abbrev NEnt := NestedKey × Addr × V
def NRel (p : NEnt) (q : NestedKey × Addr × Value) : Prop := p.1 = q.1 ∧ p.2.1 = q.2.1 ∧ RelV p.2.2 q.2.2
def entN (w : World) (x : NestedKey × Addr × Value) : DictEntry := ⟨x.1.hash w, .ref x.2.1, x.2.2⟩
/-- a dict of nested keys, at a -/
def dnP (w : World) (a : Addr) (kvs : List NEnt) (h : Heap) : Prop := kvs.length ≤ sizeLine ∧ (a == sysModules) = false ∧ ∃ xs, Paired NRel kvs xs ∧ ∃ o es ep, h.get? a = some o ∧ o.ExactDict ∧ o.data = .dict es ep ∧ es.toList = xs.map (entN w) ∧ (xs.map (·.1)).Nodup
def dnO (w : World) (a : Addr) (kvs : List NEnt) : HO := .ext (dnP w a kvs)
/-- its keys stand -/
def KeysN (H : Hp) (kvs : List NEnt) : Prop := ∀ p ∈ kvs, ∃ D, Tr H (.ref p.2.1) D ∧ nk D = p.1 ∧ p.1.depth ≤ 8
def valN (kvs : List NEnt) (k : NestedKey) : Option V := (kvs.find? fun p => decide (p.1 = k)).map (·.2.2)
section
variable {P : Program} {w : World} {H : Hp} {h h' : Heap} {a : Addr} {kvs : List NEnt}
theorem dnP_stay : ∀ h1 h2 : Heap, dnP w a kvs h1 → (∀ o, h1.get? a = some o → h2.get? a = some o) → dnP w a kvs h2 := fun h1 h2 x k => by
  obtain ⟨z, y, xs, r, o, es, ep, e, c⟩ := x
  exact ⟨z, y, xs, r, o, es, ep, k _ e, c⟩
theorem dn_ok (x : dnP w a kvs h) : ObjOk P w H h a (dnO w a kvs) := by
  refine ⟨x, ?_, dnP_stay⟩
  obtain ⟨z, y, xs, r, o, es, ep, e, c⟩ := x
  exact ⟨o, e⟩
mutual
theorem tr_nest (ok : HOk P w H h) : ∀ {v : V} {D : PyData} {u : Value}, Tr H v D → RelV v u → NestedIs h (nk D) u
  | _, _, u, .non, r => by
    obtain rfl : u = Value.none := r
    exact .none
  | _, _, u, .int i, r => by
    obtain ⟨t, rfl⟩ : ∃ t, u = Value.int i t := r
    exact .int _ _
  | _, _, u, .str x, r => by
    obtain ⟨t, rfl⟩ : ∃ t, u = Value.str x t := r
    exact .text _ _
  | _, _, u, .tup (a := a) (xs := xs) h1 rs, r => by
    obtain rfl : u = Value.ref a := r
    obtain ⟨_, its, rv, o, e1, e2, n, e3⟩ := (show ObjOk P w H h a (.tup xs) from ok a _ h1)
    exact .tup e1 e2 e3 (by simpa using trs_nest ok rs rv)
theorem trs_nest (ok : HOk P w H h) : ∀ {vs : List V} {ds : List PyData} {us : List Value}, Trs H vs ds → Vals vs us → NestedAll h (nkAll ds) us
  | _, _, _, .nil, r => by
    cases r
    exact .nil
  | _, _, _, .cons h1 rs, r => by
    cases r with
    | cons r1 r2 => exact .cons (tr_nest ok h1 r1) (trs_nest ok rs r2)
end
theorem dn_of (ok : HOk P w H h) (e : H a = some (dnO w a kvs)) (hk : KeysN H kvs) : kvs.length ≤ sizeLine ∧ (a == sysModules) = false ∧ ∃ xs, Paired NRel kvs xs ∧ h.DictOfH (nestedKind P w) a xs := by
  obtain ⟨⟨z, y, xs, r, o, es, ep, h1, h2, h3, h4, h5⟩, _⟩ := (show ObjOk P w H h a (dnO w a kvs) from ok a _ e)
  refine ⟨z, y, xs, r, o, es, ep, h1, h2, h3, h4, ?_, h5⟩
  have all : ∀ {l : List NEnt} {m : List (NestedKey × Addr × Value)}, KeysN H l → Paired NRel l m → ∀ x ∈ m, (nestedKind P w).is h x.1 x.2.1 := by
    intro l m hk q
    induction q with
    | nil => intro x hx; exact nomatch hx
    | @cons p q ps qs hq t ih =>
      intro x hx
      rcases List.mem_cons.mp hx with e | hx
      · subst e
        obtain ⟨D, t1, t2, t3⟩ := hk p (List.mem_cons_self ..)
        obtain ⟨e1, e2, _⟩ := hq
        rw [e1] at t2 t3
        rw [e2] at t1
        exact ⟨t2 ▸ tr_nest ok t1 rfl, t3⟩
      · exact ih (fun p hp => hk p (List.mem_cons_of_mem _ hp)) x hx
  exact all hk r
theorem nrel_val : ∀ {kvs : List NEnt} {xs : List (NestedKey × Addr × Value)} (r : Paired NRel kvs xs) (k : NestedKey), RelO (valN kvs k) ((atKey xs k).map (·.2)) := fun r k => by
  induction r with
  | nil => exact True.intro
  | @cons p q ps qs h t ih =>
    obtain ⟨h1, _, h2⟩ := h
    by_cases e : p.1 = k
    · have e' : q.1 = k := h1.symm.trans e
      have b : atKey (q :: qs) k = some q.2 := by simp [atKey, List.find?_cons, e']
      have c : valN (p :: ps) k = some p.2.2 := by simp [valN, List.find?_cons, e]
      rw [c, b]; exact h2
    · have e' : ¬ q.1 = k := fun z => e (h1.trans z)
      have b : atKey (q :: qs) k = atKey qs k := by simp [atKey, List.find?_cons, e']
      have c : valN (p :: ps) k = valN ps k := by simp [valN, List.find?_cons, e]
      rw [c, b]; exact ih
end
/-- what the dict at a holds at the key y -/
def NGet (w : World) (H : Hp) (a : Addr) (y : V) (r : Option V) : Prop := ∃ kvs D b, H a = some (dnO w a kvs) ∧ KeysN H kvs ∧ y = .ref b ∧ Tr H (.ref b) D ∧ (nk D).depth ≤ 8 ∧ r = valN kvs (nk D)
/-- the heap behind a[y] = v, y a new key -/
def NPut (w : World) (H : Hp) (a : Addr) (y v : V) (H' : Hp) : Prop := ∃ kvs D b, H a = some (dnO w a kvs) ∧ KeysN H kvs ∧ y = .ref b ∧ Tr H (.ref b) D ∧ (nk D).depth ≤ 8 ∧ valN kvs (nk D) = none ∧ kvs.length < sizeLine ∧ H' = upd H a (dnO w a (kvs ++ [(nk D, b, v)]))
section
variable {X : Cx} {pins : List (Addr × Obj)} {σ : L2.St} {H : Hp} {s : Shared} {a : Addr} {y v : V} {u r : Value} {o : Option V} {A : Around} {E : Value → Shared → Prop}
theorem n_room {A : Around} {P : Program} {w : World} (hu : A.units + 64 < cLine) : (nestedKind P w).room A.in1 := by
  show A.in1.units + 8 < cLine
  have e : A.in1.units = A.units + 1 := rfl
  rw [e]
  omega
theorem n_getItem {Q : Value → Shared → Prop} (hu : A.units + 64 < cLine) (I : Inv X pins σ H s) (g : NGet X.w H a y (some v)) (ry : RelV y u) (h : ∀ w' s', Inv X pins σ H s' → RelV v w' → Q w' s') :
    wpAny (model X.prog X.w) A (getItem (.ref a) u) Q E s := by
  obtain ⟨kvs, D, b, e, hk, ey, t, dp, l⟩ := g
  subst ey
  cases (show u = Value.ref b from ry)
  obtain ⟨z, hd, xs, rel, dd⟩ := dn_of I.hok e hk
  obtain ⟨w', hw, rw'⟩ := RelO.some_of (v := v) (o := (atKey xs (nk D)).map (·.2)) (by rw [l]; exact nrel_val rel _)
  obtain ⟨p, hp, hp2⟩ := Option.map_eq_some_iff.mp hw
  refine wpAny_getItem_heap (n_room hu) ⟨tr_nest I.hok t rfl, dp⟩ dd hp ?_
  rw [hp2]
  exact h w' _ (I.tok _) rw'
theorem n_in {Q : Value → Shared → Prop} (hu : A.units + 64 < cLine) (I : Inv X pins σ H s) (g : NGet X.w H a y o) (ry : RelV y u) (h : ∀ s', Inv X pins σ H s' → Q (.bool o.isSome) s') :
    wpAny (model X.prog X.w) A (compareOp .In u (.ref a)) Q E s := by
  obtain ⟨kvs, D, b, e, hk, ey, t, dp, l⟩ := g
  subst ey
  cases (show u = Value.ref b from ry)
  obtain ⟨z, hd, xs, rel, dd⟩ := dn_of I.hok e hk
  refine wpAny_in_heap (n_room hu) ⟨tr_nest I.hok t rfl, dp⟩ hd dd ?_
  have q := (nrel_val rel (nk D)).isSome_eq
  rw [Option.isSome_map] at q
  rw [← q, ← l]
  exact h _ (I.tok _)
theorem n_notIn {Q : Value → Shared → Prop} (hu : A.units + 64 < cLine) (I : Inv X pins σ H s) (g : NGet X.w H a y o) (ry : RelV y u) (h : ∀ s', Inv X pins σ H s' → Q (.bool (!o.isSome)) s') :
    wpAny (model X.prog X.w) A (compareOp .NotIn u (.ref a)) Q E s := by
  obtain ⟨kvs, D, b, e, hk, ey, t, dp, l⟩ := g
  subst ey
  cases (show u = Value.ref b from ry)
  obtain ⟨z, hd, xs, rel, dd⟩ := dn_of I.hok e hk
  refine wpAny_notIn_heap (n_room hu) ⟨tr_nest I.hok t rfl, dp⟩ hd dd ?_
  have q := (nrel_val rel (nk D)).isSome_eq
  rw [Option.isSome_map] at q
  rw [← q, ← l]
  exact h _ (I.tok _)
theorem n_setItem {H' : Hp} {Q : Unit → Shared → Prop} (hu : A.units + 64 < cLine) (I : Inv X pins σ H s) (g : NPut X.w H a y v H') (ry : RelV y u) (rv : RelV v r) (h : ∀ s', Inv X pins σ H' s' → Q () s') :
    wpAny (model X.prog X.w) A (setItem (.ref a) u r) Q E s := by
  obtain ⟨kvs, D, b, e, hk, ey, t, dp, l, hl, eH⟩ := g
  subst ey eH
  cases (show u = Value.ref b from ry)
  obtain ⟨z, hd, xs, rel, dd⟩ := dn_of I.hok e hk
  have hz : xs.length ≤ sizeLine := by rw [← Paired.length rel]; exact z
  have no : atKey xs (nk D) = none := by
    have q := (nrel_val rel (nk D)).isSome_eq
    rw [l, Option.isSome_map] at q
    exact Option.isSome_eq_false_iff.mp q.symm |> Option.isNone_iff_eq_none.mp
  have st : storedH xs (nk D) b r = xs ++ [(nk D, b, r)] := by
    unfold storedH
    rw [no]
    rfl
  refine wpAny_setItem_heap (hsz := hz) (n_room hu) ⟨tr_nest I.hok t rfl, dp⟩ dd fun h' dd' hs => h _ ?_
  rw [st] at dd'
  obtain ⟨q, es, ep, hq, h2, h3, h4, _, h5⟩ := dd'
  refine d_write I (by rw [e]; exact True.intro) hs ⟨q, hq⟩ (dn_ok ⟨?_, hd, _, Paired.snoc rel ⟨rfl, rfl, rv⟩, q, es, ep, hq, h2, h3, h4, h5⟩)
  rw [List.length_append]
  exact hl
end
def tNGet (w : World) (td ty : TE) : TE := fun σ H Q => td σ H fun x H1 => ty σ H1 fun y H2 => ∃ a v, x = .ref a ∧ NGet w H2 a y (some v) ∧ Q v H2
def tNIn (w : World) (ty td : TE) : TE := fun σ H Q => ty σ H fun y H1 => td σ H1 fun x H2 => ∃ a o, x = .ref a ∧ NGet w H2 a y o ∧ Q (.bl o.isSome) H2
def tNNotIn (w : World) (ty td : TE) : TE := fun σ H Q => ty σ H fun y H1 => td σ H1 fun x H2 => ∃ a o, x = .ref a ∧ NGet w H2 a y o ∧ Q (.bl (!o.isSome)) H2
def sNPut (w : World) (td ty tv : TE) : TS := fun D σ H => tv σ H fun v H1 => td σ H1 fun x H2 => ty σ H2 fun y H3 => ∃ a H4, x = .ref a ∧ NPut w H3 a y v H4 ∧ D.nx σ H4
def tNNew (w : World) : TE := fun _ H Q => ∀ p, H p = none → Q (.ref p) (upd H p (dnO w p []))
section
variable {X : Cx} {o i e value : Expr} {pos pos' tpos : Pos} {td ty tv : TE}
theorem n_typeIs {pins : List (Addr × Obj)} {σ : L2.St} {H : Hp} {s : Shared} {a : Addr} {y : V} {o : Option V} (I : Inv X pins σ H s) (g : NGet X.w H a y o) : s.TypeIs (.ref a) "dict" := by
  obtain ⟨kvs, D, b, e, hk, _⟩ := g
  obtain ⟨_, _, xs, _, dd⟩ := dn_of I.hok e hk
  exact dd.typeIs
theorem pe_nget (hu : X.A.units + 64 < cLine) (ho : PE X o td) (hi : PE X i ty) (hs : NoSl i) : PE X (.Subscript o i pos) (tNGet X.w td ty) := by
  refine ⟨fun pins s σ H Q I h => ?_⟩
  refine subD_of PySem.F.slot_dict_getitem.lookup hs (thn (ho.run pins s σ H _ I h) fun u s1 ⟨x, H1, I1, rx, q1⟩ => thn (hi.run pins s1 σ H1 _ I1 q1) fun iv s2 ⟨y, H2, I2, ry, a, v, ex, g, q2⟩ => ?_)
  subst ex
  obtain rfl : u = Value.ref a := rx
  exact ⟨n_typeIs I2 g, n_getItem hu I2 g ry fun w' s3 I3 rw' => ⟨v, H2, I3, rw', q2⟩⟩
theorem pc_nin (hu : X.A.units + 64 < cLine) (hi : PE X i ty) (ho : PE X o td) : PC X .In i o (tNIn X.w ty td) := by
  refine ⟨fun pins s σ H Q I h => ?_⟩
  refine thn (hi.run pins s σ H _ I h) fun iv s1 ⟨y, H1, I1, ry, q1⟩ => thn (ho.run pins s1 σ H1 _ I1 q1) fun u s2 ⟨x, H2, I2, rx, a, ov, ex, g, q2⟩ => ?_
  subst ex
  obtain rfl : u = Value.ref a := rx
  exact n_in hu I2 g ry fun s3 I3 => ⟨.bl ov.isSome, H2, I3, rfl, q2⟩
theorem pc_nnotin (hu : X.A.units + 64 < cLine) (hi : PE X i ty) (ho : PE X o td) : PC X .NotIn i o (tNNotIn X.w ty td) := by
  refine ⟨fun pins s σ H Q I h => ?_⟩
  refine thn (hi.run pins s σ H _ I h) fun iv s1 ⟨y, H1, I1, ry, q1⟩ => thn (ho.run pins s1 σ H1 _ I1 q1) fun u s2 ⟨x, H2, I2, rx, a, ov, ex, g, q2⟩ => ?_
  subst ex
  obtain rfl : u = Value.ref a := rx
  exact n_notIn hu I2 g ry fun s3 I3 => ⟨.bl (!ov.isSome), H2, I3, rfl, q2⟩
theorem ps_nput (hu : X.A.units + 64 < cLine) (ho : PE X o td) (hi : PE X i ty) (hv : PE X value tv) (hs : swapsWith value (some (.Subscript o i pos')) pos.line X.env = pure false) :
    PS X (.Assign [.Subscript o i pos'] value pos) (sNPut X.w td ty tv) := by
  refine ⟨fun pins s σ H D I h => ?_⟩
  refine wpAny_Assign_Subscript (thn (hv.run pins s σ H _ I h) fun r s1 ⟨v, H1, I1, rv, q1⟩ => thn (ho.run pins s1 σ H1 _ I1 q1) fun u s2 ⟨x, H2, I2, rx, q2⟩ => thn (hi.run pins s2 σ H2 _ I2 q2) fun iv s3 ⟨y, H3, I3, ry, a, H4, ex, g, q3⟩ => ?_) hs
  subst ex
  obtain rfl : u = Value.ref a := rx
  exact n_setItem hu I3 g ry rv fun s4 I4 => ⟨σ, H4, I4, q3⟩
theorem dn_empty {P : Program} {w : World} {H : Hp} (h : Heap) (hb : sysModules < h.objs.size) : ObjOk P w H (h.push { cls := .type "dict", data := .dict #[] }) h.objs.size (dnO w h.objs.size []) :=
  dn_ok ⟨Nat.zero_le _, beq_eq_false_iff_ne.mpr (Ne.symm (Nat.ne_of_lt hb)), [], .nil, _, #[], 0, Heap.get?_push_size _ rfl, ⟨rfl, rfl, rfl⟩, rfl, rfl, List.nodup_nil⟩
theorem pe_dnewN : PE X (.Dict [] [] pos) (tNNew X.w) := ⟨fun pins s σ H Q I h =>
  wpAny_Dict_empty ⟨.ref s.heap.objs.size, _, I.laid (a := s.heap.objs.size) (o := dnO X.w s.heap.objs.size []) (t' := s.toks) (fun _ _ q => Heap.get?_push_of_some _ q) (Nat.le_refl _) (dn_empty s.heap I.big), rfl, h _ (I.hok.fresh (Nat.le_refl _))⟩⟩
end
/-! ### keys -/
theorem KeysN.keep {H H' : Hp} {kvs : List NEnt} (h : KeysN H kvs) (k : TK H H') : KeysN H' kvs := fun p hp => let ⟨D, a, b, c⟩ := h p hp; ⟨D, a.keep k, b, c⟩
theorem KeysN.snoc {H : Hp} {kvs : List NEnt} {D : PyData} {b : Addr} {v : V} (h : KeysN H kvs) (t : Tr H (.ref b) D) (d : (nk D).depth ≤ 8) : KeysN H (kvs ++ [(nk D, b, v)]) := fun p hp => by
  rcases List.mem_append.mp hp with hp | hp
  · exact h p hp
  · rw [List.mem_singleton.mp hp]
    exact ⟨D, t, rfl, d⟩
theorem valN_snoc {kvs : List NEnt} {k k' : NestedKey} {b : Addr} {v : V} : valN (kvs ++ [(k, b, v)]) k' = (valN kvs k').or (if k = k' then some v else none) := by
  unfold valN
  rw [List.find?_append]
  cases e : kvs.find? fun p => decide (p.1 = k') with
  | some p => rfl
  | none =>
    by_cases c : k = k'
    · simp [c]
    · simp [c]
end Rm

/-! O8: enumerate over a tuple. -/
namespace Rm
open PySem PySem.Spec PyProof.Rows L2
open AutoSeq1 (wpAny_loadPart')
theorem meets_enumerate_newT (l : Addr) (items : Array Value) (n : Nat) (dct : Option Addr) (sl : Array (Option Value)) :
    Meets (Builtin.«enumerate.__new__» ⟨[.type "enumerate", .ref l], []⟩) (fun _ R s => s.heap.get? l = some { cls := .type "tuple", dict := dct, data := .seq items n, slots := sl } ∧
      R (.ok (.ret (.ref (s.heap.push { cls := .type "tuple_iterator", data := .fields #[.ref l, .int 0 0] }).objs.size)))
        { s with heap := (s.heap.push { cls := .type "tuple_iterator", data := .fields #[.ref l, .int 0 0] }).push { cls := .type "enumerate", data := .fields #[.none, .bool false, .ref s.heap.objs.size, rawInt 0, .none, .none] } }) :=
  .of_wp fun prog w A R s h => by
    obtain ⟨hp, g, d, tk, os⟩ := s; obtain ⟨hl, h⟩ := h
    have hsub := sub_enumerate
    have hL : Heap.IsTuple (Shared.heap ⟨hp, g, d, tk, os⟩) l items := ⟨_, hl, rfl, n, rfl⟩
    wp_walk using wpAny_loadPart' hl
    refine wpAny_stack_any fun st => wpAny_pure ?_
    split
    · rename_i c _ _ _ _ _
      cases (c == Value.type "enumerate")
      · wp_walk using wpAny_loadPart' hl, wpAny_pyIter_tuple hL
        exact ⟨_, rfl, h⟩
      · wp_walk using wpAny_loadPart' hl, wpAny_pyIter_tuple hL
        exact ⟨_, rfl, h⟩
    · wp_walk using wpAny_loadPart' hl, wpAny_pyIter_tuple hL
      exact ⟨_, rfl, h⟩
section
variable {prog : Program} {w : World} {A : Around} {E : Value → Shared → Prop} {s : Shared}
theorem call_enumerate_tup {l : Addr} {items : Array Value} {Q : Value → Shared → Prop} (hL : IsTup s.heap l items)
    (h : ∀ h', IsEnum h' (s.heap.objs.size + 1) s.heap.objs.size 0 .none → h'.IsTupleIter s.heap.objs.size l 0 → h'.objs.size = s.heap.objs.size + 2 →
      (∀ b o, s.heap.get? b = some o → h'.get? b = some o) → Q (.ref (s.heap.objs.size + 1)) { s with heap := h' }) :
    wpAny (model prog w) A (call (.type "enumerate") [.ref l]) Q E s := by
  obtain ⟨⟨c, dct, dt, sl⟩, hl, hc, n, hd⟩ := hL
  replace hc : c = .type "tuple" := hc
  replace hd : dt = .seq items n := hd
  subst hc hd
  refine callType_new F.called_enumerate (by decide) (F.typeCall_enumerate_1 _) (F.newCall_enumerate_1 _) (fun obj => F.args_object_init_2 obj _) F.entry_enumerate_new
    (meets_enumerate_newT l items n dct sl) ⟨hl, ?_⟩
  have hz : (s.heap.push { cls := .type "tuple_iterator", data := .fields #[.ref l, .int 0 0] }).objs.size = s.heap.objs.size + 1 := Heap.size_push ..
  show _ ∧ _
  rw [hz]
  have he : IsEnum ((s.heap.push { cls := .type "tuple_iterator", data := .fields #[.ref l, .int 0 0] }).push
      { cls := .type "enumerate", data := .fields #[.none, .bool false, .ref s.heap.objs.size, rawInt 0, .none, .none] }) (s.heap.objs.size + 1) s.heap.objs.size 0 .none := by
    have := Heap.get?_push_size (s.heap.push { cls := .type "tuple_iterator", data := .fields #[.ref l, .int 0 0] })
      (o := { cls := .type "enumerate", data := .fields #[.none, .bool false, .ref s.heap.objs.size, rawInt 0, .none, .none] }) rfl
    rw [hz] at this; exact this
  refine ⟨⟨_, he, rfl⟩, h _ he ⟨_, Heap.get?_push_of_some _ (Heap.get?_push_size _ rfl), rfl, rfl⟩ (by rw [Heap.size_push, hz]) fun b o x => Heap.get?_push_of_some _ (Heap.get?_push_of_some _ x)⟩
end
/-- the tuple at a, each item in a new pair with its number -/
def ItT (K : PySem.W.Frag) (a : Addr) : It :=
  ⟨fun i H => ∃ (xs : List V) (x : V), SqT K H a xs ∧ xs[i]? = some x, fun i H v H' => ∃ T x, v = .ref T ∧ H T = none ∧ H' = upd H T (.tup [.int (i : Nat), x]) ∧ ∀ xs, SqT K H a xs → xs[i]? = some x, fun i H => ∃ xs : List V, SqT K H a xs ∧ xs.length ≤ i⟩
theorem enumT_end {prog : Program} {w : World} {A : Around} {E : Value → Shared → Prop} {s : Shared} {e it l : Addr} {i : Nat} {items : Array Value} {old : Value} {Q : Option Value → Shared → Prop} (hh : A.handled = none)
    (he : IsEnum s.heap e it i old) (hit : s.heap.IsTupleIter it l i) (hl : s.heap.IsTuple l items) (hx : items[i]? = none)
    (hQ : ∀ h', Heap.ExtBut it s.heap h' → Q none { s with heap := h' }) : wpAny (model prog w) A (pyNext (.ref e)) Q E s := by
  have hT : s.TypeIs (.ref e) "enumerate" := ⟨_, he, rfl⟩
  unfold pyNext
  refine wpAny_bind (wpAny_attempt (wpAny_callSpecial?_slot (name := Str.ofString "__next__") hT F.slot_enumerate_next
    (wpAny_call_entry F.slot_enumerate_next hT F.entry_enumerate_next ?_ (F.args_enumerate_next_1 _))))
  show wpAny _ _ (field (.ref e) 2 >>= _) _ _ _
  refine wpAny_bind (wpAny_field he rfl (x := .ref it) rfl ?_)
  refine wpAny_bind (wpAny_nextOf_tuple_end hh hit hl hx fun h' x he' hx' => ?_)
  obtain ⟨o, ho, hc⟩ := hx'
  refine wpAny_bind (wpAny_isInstance (T := "StopIteration") (b := true) ⟨o, ho, hc⟩ isSubtype_stop ?_)
  exact wpAny_pure (hQ _ he')
theorem turn_enumT {P : Program} {w : World} {K : PySem.W.Frag} {elts : List Expr} {kk : Nat} {tpos : Pos} (a e it : Addr) :
    Turn P w K (.Tuple elts kk tpos) (ItT K a) [e, it] e (fun i h => (∃ old, IsEnum h e it ((i : Nat) : Int) old) ∧ h.IsTupleIter it a i ∧ e ≠ it) where
  mem := by simp
  obj := fun i h st b hb => by
    obtain ⟨⟨old, he⟩, ⟨o, ho, hc, hd⟩, _⟩ := st
    have e' : b = e ∨ b = it := by simpa using hb
    rcases e' with z | z
    · rw [z]; exact ⟨_, he, fun v q => nomatch q⟩
    · rw [z]; exact ⟨o, ho, fun v q => by rw [hd] at q; cases q⟩
  keep := fun i h h' st k => let ⟨⟨old, he⟩, hi, hne⟩ := st; ⟨⟨old, k e (by simp) _ he⟩, hi.at fun o q => k it (by simp) o q, hne⟩
  item := by
    intro X hP hw hK hc i pins s σ H E I hf st hg
    subst hP hw hK
    obtain ⟨⟨old, he⟩, hit, hne⟩ := st
    obtain ⟨xs, x, hq, hx⟩ := hg
    obtain ⟨its, rv, p, hz⟩ := I.tuple hq
    obtain ⟨u, hu, ru⟩ := rv.get hx
    have hel : e < s.heap.objs.size := Heap.lt_size he
    have hil : it < s.heap.objs.size := by obtain ⟨_, q, _⟩ := hit; exact Heap.lt_size q
    have hpt : s.heap.IsTuple a its.toArray := p
    have hat : a ≠ it := by
      intro z
      subst z
      obtain ⟨o1, a1, a2, _⟩ := hpt
      obtain ⟨o2, b1, b2, _⟩ := hit
      rw [a1] at b1
      cases b1
      rw [a2] at b2
      exact absurd b2 (by decide)
    have hae : a ≠ e := by
      intro z
      subst z
      obtain ⟨o1, a1, a2, _⟩ := hpt
      have b1 : s.heap.get? a = some _ := he
      rw [a1] at b1
      cases b1
      have a2 : Value.type "enumerate" = Value.type "tuple" := a2
      exact absurd (Value.type.inj a2) (by decide)
    have hlt : i < its.toArray.size := by
      have := (List.getElem?_eq_some_iff.mp hu).1
      rw [List.size_toArray]
      exact this
    refine wpAny_pyNext_enum_itemD (Draws.tuple (A := X.A.in1) (I.ok.hd hc) it a hat its.toArray) he ⟨hit, hpt⟩ hlt hne (by simp [hne, Ne.symm hae]) fun u' h' tk hPu ho st' hT hsz hk => ?_
    have eu : u' = u := by
      have z : its.toArray[i]? = some u := by simpa using hu
      exact Option.some.inj (hPu.symm.trans z)
    subst eu
    refine ⟨_, rfl, wpAny_letOwnedTupleGo_enum (s := { s with heap := h', toks := tk + 1 }) ho fun h'' he' sb => ?_⟩
    have hT2 : h''.get? s.heap.objs.size = some { cls := .type "tuple", data := .seq #[.int i tk, u'] } := (sb.2 _ (Nat.ne_of_gt hel)).trans hT
    have new : ObjOk X.prog X.w (upd H s.heap.objs.size (.tup [.int (i : Nat), x])) h'' s.heap.objs.size (.tup [.int (i : Nat), x]) :=
      ⟨by show 2 ≤ sizeLine; decide, [.int i tk, u'], .cons ⟨_, rfl⟩ (.cons ru .nil), ⟨_, hT2, rfl, _, rfl⟩⟩
    have I1 : Inv X pins σ (upd H s.heap.objs.size (.tup [.int (i : Nat), x])) { s with heap := h'', toks := tk + 1 } :=
      I.turnedNew (ch := [e, it]) (fun b ob hb q => (sb.2 b (fun z => hb (by simp [z]))).trans (hk b ob (fun z => hb (by simp [z])) (fun z => hb (by simp [z])) q)) hf (Nat.le_refl _) new
    refine ⟨.ref s.heap.objs.size, _, I1, rfl, ⟨_, x, rfl, I.hok.fresh (Nat.le_refl _), rfl, fun ys hy => ?_⟩, ⟨⟨u', ?_⟩, st'.1.at fun o q => (sb.2 it (Ne.symm hne)).trans q, hne⟩, fun b hb => ?_⟩
    · rw [I.tuple_inj hy hq]; exact hx
    · have e1 : ((i + 1 : Nat) : Int) = (i : Int) + 1 := by omega
      rw [e1]; exact he'
    · have hb' : b < s.heap.objs.size := by
        have e' : b = e ∨ b = it := by simpa using hb
        rcases e' with z | z
        · rw [z]; exact hel
        · rw [z]; exact hil
      rw [upd_ne (Nat.ne_of_lt hb')]
      exact (hf b hb).1
  done := by
    intro X hP hw hK hc i pins s σ H E I hf st hg
    subst hP hw hK
    obtain ⟨⟨old, he⟩, hit, hne⟩ := st
    obtain ⟨xs, hq, hx⟩ := hg
    obtain ⟨its, rv, p, hz⟩ := I.tuple hq
    obtain ⟨f0, f1, f2, f3, f4, f5⟩ := hf it (by simp)
    have hl := rv.length
    exact enumT_end (I.ok.hd hc) he hit (show s.heap.IsTuple a its.toArray from p) (by simp; omega) fun h' eb => ⟨rfl, I.turned (t' := s.toks) (fun b o hb q => eb b o hb q) f0 f1 f3 f4 f5⟩
  self := fun A i s Q E st h => let ⟨⟨_, he⟩, _⟩ := st; wpAny_pyIter_enum he h
def iEnumT (K : PySem.W.Frag) (ta : TA) : TI := fun σ H R => ta σ H fun vs H1 => ∃ a xs, vs = [.ref a] ∧ SqT K H1 a xs ∧ R (ItT K a) H1
theorem pi_enumT {X : Cx} {e : Expr} {ta : TA} {p pos tpos : Pos} {elts : List Expr} {kk : Nat} (hg : Gl X "enumerate") (hm : X.mg "enumerate" = none) (ha : PA X [e] ta) (hs : starEach [e] X.env = [(false, eval e X.env)] := by rfl) :
    PI X (.Tuple elts kk tpos) (.Call (.Name "enumerate" p) [e] [] pos) (iEnumT X.K ta) := by
  refine ⟨fun pins s σ H R I h => ?_⟩
  refine Call_ (ld_blt I hg hm boot_enumerate (PyProof.Rows.callWith_type1 (thn (ha.run pos pins s σ H _ I h) fun us s1 ⟨vs, H1, I1, r1, q1⟩ => ?_) hs rfl))
  obtain ⟨a, xs, ex, hq, q⟩ := q1
  subst ex
  cases r1 with
  | cons r rr =>
    cases rr
    cases r
    obtain ⟨its, rv, p', hz⟩ := I1.tuple hq
    refine call_enumerate_tup p' fun h' he hit hsz hk => wpAny_pyIter_enum he ?_
    have I2 : Inv X pins σ H1 { s1 with heap := h' } := I1.kept (t' := s1.toks) hk
    refine ⟨s1.heap.objs.size + 1, [s1.heap.objs.size + 1, s1.heap.objs.size], _, _, H1, rfl, I2, turn_enumT a (s1.heap.objs.size + 1) s1.heap.objs.size, ⟨⟨.none, he⟩, hit, Nat.succ_ne_self _⟩, fun b hb => ?_, q⟩
    have e' : b = s1.heap.objs.size + 1 ∨ b = s1.heap.objs.size := by simpa using hb
    have hle : s1.heap.objs.size ≤ b := by
      rcases e' with z | z
      · rw [z]; exact Nat.le_add_right _ _
      · rw [z]; exact Nat.le_refl _
    exact I1.fpOk hle (I1.hok.fresh hle)
theorem walk_enumT {K : PySem.W.Frag} {a : Addr} {xs : List V} : Walk (ItT K a) xs.length (fun H => SqT K H a xs) (YPair (fun i => some (.int (i : Nat))) (fun i => xs[i]?)) := by
  refine ⟨fun i _ hi q => ⟨xs, xs[i], q, by simp [hi]⟩, fun _ q => ⟨xs, q, Nat.le_refl _⟩, fun i H v H' _ q y => ?_⟩
  obtain ⟨T, x, h1, h2, h3, h4⟩ := y
  exact ⟨T, .int (i : Nat), x, h1, h2, h3, rfl, h4 xs q⟩
end Rm

/-! O9: sorted(t), t a tuple of numbers. -/
namespace Rm
open PySem PySem.Spec PyProof.Rows L2
section
variable {prog : Program} {w : World} {A : Around} {E : Value → Shared → Prop} {s : Shared}
theorem collect_tup {t : Addr} {vs : List Value} {Q : List Value → Shared → Prop} (ht : IsTup s.heap t vs.toArray) (hz : vs.length ≤ sizeLine)
    (h : Q vs { s with heap := (s.heap.push (seqObj "list" #[] 0)).update s.heap.objs.size (Obj.mapSeq (· ++ vs.toArray)) }) : wpAny (model prog w) A (collect (.ref t)) Q E s := by
  obtain ⟨o, ho, hc, n, hd⟩ := id ht
  have ho2 : (s.heap.push (seqObj "list" #[] 0)).get? t = some o := Heap.get?_push_of_some _ ho
  have hn : (s.heap.push (seqObj "list" #[] 0)).get? s.heap.objs.size = some (seqObj "list" #[] 0) := Heap.get?_push_size _ rfl
  have e1 : (Value.type "tuple" == Value.type "tuple") = true := by rfl
  unfold collect
  refine wpAny_bind (wpAny_runValue (codeAny_builtin entry_proto_collect' ?_))
  show wpAny _ _ (do again (.builtin "list.__iadd__" ⟨[← newList [], .ref t], []⟩)) _ _ s
  refine wpAny_bind (wpAny_newList (wpAny_pure ⟨Code.quiet_builtin _ (by decide +kernel), codeAny_builtin entry_list_iadd' ?_⟩))
  show wpAny _ _ (Builtin.List.listExtendWith (.ref s.heap.objs.size) (.ref t) (.ref s.heap.objs.size)) _ _ { s with heap := s.heap.push (seqObj "list" #[] 0) }
  unfold Builtin.List.listExtendWith
  refine wpAny_bind (wpAny_typeOf (T := "tuple") ⟨o, ho2, hc⟩ ?_)
  rw [if_pos (by rw [e1]; simp)]
  refine wpAny_bind (listItems_at ho2 hd ?_)
  refine wpAny_bind (listItems_at (xs := #[]) (n := 0) hn rfl ?_)
  rw [if_neg (by simp)]
  refine wpAny_bind (listUpdate_at (xs := #[]) (n := 0) hn rfl ?_ (Nat.zero_le _) (by show (#[] ++ vs.toArray).size ≤ sizeLine + 1; simp only [Array.size_append, List.size_toArray, List.length_nil]; omega))
  refine wpAny_pure ?_
  show wpAny (model prog w) A (do
      let o ← load s.heap.objs.size
      match o.data with
      | .seq xs _ => pure xs.toList
      | _ => unsupported "internal:collect") Q E { s with heap := (s.heap.push (seqObj "list" #[] 0)).update s.heap.objs.size (Obj.mapSeq (· ++ vs.toArray)) }
  refine wpAny_bind (wpAny_load (get?_update_seq hn _) ?_)
  show wpAny _ _ (pure ((#[] : Array Value) ++ vs.toArray).toList) Q E _
  rw [show ((#[] : Array Value) ++ vs.toArray).toList = vs by simp]
  exact wpAny_pure h
theorem sorted_tup {t : Addr} {vs : List Value} {ltv : Value → Value → Bool} {Q : Value → Shared → Prop} (O : SrtO.Swo ltv) (ht : IsTup s.heap t vs.toArray) (hz : vs.length ≤ sizeLine)
    (hS : 2 ≤ vs.length → ∀ (h₁ : Heap) (a : Addr), h₁.get? a = some (seqObj "list" vs.toArray 0) → (∀ b o, s.heap.get? b = some o → b ≠ a ∧ h₁.get? b = some o) → SrtO.SortableO prog w A.in1.in1 { s with heap := h₁ } a vs ltv)
    (h : ∀ out : List Value, SrtO.Srtd ltv out → SrtO.Stb ltv out vs → Q (.ref (s.heap.objs.size + 1)) { s with heap := sortedAll s.heap vs out.toArray }) :
    wpAny (model prog w) A (call (.builtin "sorted") [.ref t]) Q E s := by
  refine Calls.call_function_entry kind_sorted plain_sorted entry_sorted (args_sorted1 _) ?_
  unfold Builtin.«sorted»
  refine wpAny_bind (m := checkCount "sorted" 1 1 _) (wpAny_pure ?_)
  refine wpAny_bind (collect_tup ht hz ?_)
  refine wpAny_bind (wpAny_newList ?_ hz)
  have old : ∀ b o, s.heap.get? b = some o → b < s.heap.objs.size ∧ ((s.heap.push (seqObj "list" #[] 0)).update s.heap.objs.size (Obj.mapSeq (· ++ vs.toArray))).get? b = some o := fun b o e => by
    have lt := Heap.lt_size e
    exact ⟨lt, (Heap.get?_update_ne _ _ _ _ (Nat.ne_of_lt lt)).trans (Heap.get?_push_of_some _ e)⟩
  have sz : ((s.heap.push (seqObj "list" #[] 0)).update s.heap.objs.size (Obj.mapSeq (· ++ vs.toArray))).objs.size = s.heap.objs.size + 1 := by
    rw [Heap.size_update, size_push']
  show wpAny _ _ _ _ _ { s with heap := ((s.heap.push (seqObj "list" #[] 0)).update s.heap.objs.size (Obj.mapSeq (· ++ vs.toArray))).push (seqObj "list" vs.toArray 0) }
  have new : (((s.heap.push (seqObj "list" #[] 0)).update s.heap.objs.size (Obj.mapSeq (· ++ vs.toArray))).push (seqObj "list" vs.toArray 0)).get? (s.heap.objs.size + 1) = some (seqObj "list" vs.toArray 0) := by
    rw [← sz]
    exact Heap.get?_push_size _ rfl
  rw [sz]
  refine wpAny_bind (wpAny_holding (wpAny_call_entry slot_list_sort ⟨_, new, rfl⟩ entry_list_sort (SrtO.list_sort_ord O new hz (fun h2 => hS h2 _ _ new fun b o e => ?_) fun out hs hb => ⟨_, rfl, ?_⟩) (args_list_sort _)))
  · obtain ⟨lt, e2⟩ := old b o e
    exact ⟨Nat.ne_of_lt (Nat.lt_succ_of_lt lt), Heap.get?_push_of_some _ e2⟩
  · exact wpAny_pure ⟨_, rfl, h out hs hb⟩
end
/-- sorted(t), t a tuple of numbers -/
def rSortedT (K : PySem.W.Frag) : RC := fun vs H Q => ∃ (a : Addr) (ns : List Int), vs = [V.ref a] ∧ SqT K H a (ns.map V.int) ∧
  ∀ (ns' : List Int) (p : Addr), ns'.Perm ns → ns'.Pairwise (· ≤ ·) → H p = none → Q (.ref p) (upd H p (.lst (ns'.map V.int)))
section
variable {X : Cx}
theorem cr_sortedT : CallR X (.builtin "sorted") (rSortedT X.K) := by
  intro pins s σ H vs us Q I r h
  obtain ⟨a, ns, rfl, hs, q⟩ := h
  obtain ⟨its, rv, hl, hz⟩ := I.tuple hs
  rw [Vals.ref1 r]
  have hi := rv.ints
  refine sorted_tup SrtO.swo_int hl (by rw [← rv.length]; exact hz) (fun h2 h₁ a' _ _ => SrtO.ints_sortable hi h2) fun out h1 h2 => ?_
  obtain ⟨k1, k2, k3⟩ := SrtO.ints_out hi h1 h2
  obtain ⟨ep, he'⟩ := PyProof.Rows.sortedAll_at s.heap its out.toArray
  have hlen : ((out.map SrtO.iv).map V.int).length ≤ sizeLine := by
    rw [List.length_map, k2.length_eq]
    rw [List.length_map] at hz
    exact hz
  exact ⟨.ref _, upd H (s.heap.objs.size + 1) (.lst ((out.map SrtO.iv).map V.int)), I.laid (t' := s.toks) (fun _ _ => PyProof.Rows.sortedAll_old) (Nat.le_succ _) ⟨hlen, out, ep, vals_of_ints k1, he'⟩, rfl, q _ _ k2 k3 (I.hok.fresh (Nat.le_succ _))⟩
end
/-- in order, as a function -/
def srtI (ns : List Int) : List Int := ns.mergeSort (· ≤ ·)
theorem srt_uniq : ∀ {a b : List Int}, a.Perm b → a.Pairwise (· ≤ ·) → b.Pairwise (· ≤ ·) → a = b := fun p h1 h2 =>
  p.eq_of_pairwise (fun x y _ _ a b => Int.le_antisymm a b) h1 h2
theorem srtI_eq {a ns : List Int} (p : a.Perm ns) (h : a.Pairwise (· ≤ ·)) : a = srtI ns := by
  refine srt_uniq (p.trans (List.mergeSort_perm ns _).symm) h ?_
  have := List.pairwise_mergeSort (le := fun (a b : Int) => decide (a ≤ b)) (fun a b c h1 h2 => by simp at *; omega) (fun a b => by simp; omega) ns
  exact this.imp fun h => of_decide_eq_true h
end Rm

/-! U1: shapes: the program's defs (row_of, Shapes): promises, readings (by gen.py), runs. -/
namespace Rm.U
open PySem PySem.Spec PyProof.Rows L2
open Rm.Q (plD plAll eqv_eq eqvAll_eq tr_pl trs_pl)
theorem hr65 {k : Nat} {A : Around} (r : Room k A) : A.units + 65 < cLine := by have := r.un; omega
/-! ### data -/
mutual
theorem nk_inj : ∀ (d e : PyData), plD d = true → plD e = true → nk d = nk e → d = e
  | .none, e, _, he, h => by cases e <;> simp_all [nk, plD]
  | .int i, e, _, he, h => by cases e <;> simp_all [nk, plD]
  | .str x, e, _, he, h => by cases e <;> simp_all [nk, plD]
  | .tuple xs, e, hd, he, h => by
    cases e with
    | tuple ys =>
      simp only [plD] at hd he
      simp only [nk] at h
      rw [nkAll_inj xs ys hd he (NestedKey.tup.inj h)]
    | _ => simp_all [nk, plD]
  | .bool _, _, hd, _, _ => by simp [plD] at hd
  | .list _, _, hd, _, _ => by simp [plD] at hd
  | .dict _, _, hd, _, _ => by simp [plD] at hd
theorem nkAll_inj : ∀ (xs ys : List PyData), plAll xs = true → plAll ys = true → nkAll xs = nkAll ys → xs = ys
  | [], ys, _, _, h => by
    cases ys with
    | nil => rfl
    | cons y ys => simp [nkAll] at h
  | x :: xs, ys, hd, he, h => by
    cases ys with
    | nil => simp [nkAll] at h
    | cons y ys =>
      simp only [plAll, Bool.and_eq_true] at hd he
      simp only [nkAll, List.cons.injEq] at h
      rw [nk_inj x y hd.1 he.1 h.1, nkAll_inj xs ys hd.2 he.2 h.2]
end
/-- what the value of a slot may be, here -/
structure VG (d : PyData) : Prop where
  pl : plD d = true
  lay : d.canLay0 = true
  dep : d.depth ≤ 1
  nd : (nk d).depth ≤ 1
def isFix (k : Str) : Bool := decide (k = ("const" : Str)) || decide (k = ("method" : Str)) || decide (k = ("parent" : Str))
def fixV (k : Str) (d : PyData) : PyData := if isFix k = true then d else .none
def slT (s : Sl) : PyData := .tuple [.str s.name, .str s.kind, s.val]
def slsT (ts : List Sl) : PyData := .tuple (ts.map slT)
def rwS (s : Sl) : Sl := ⟨s.name, s.kind, fixV s.kind s.val⟩
def rowD (ts : List Sl) : PyData := slsT (ts.map rwS)
structure SG (s : Sl) : Prop where
  nm : PyData.strOk s.name = true
  kd : PyData.strOk s.kind = true
  vl : VG s.val
structure SlG (ts : List Sl) : Prop where
  all : ∀ s ∈ ts, SG s
  len : ts.length ≤ 1000
def fixM : List String := ["const", "method", "parent"]
def parM : List String := ["parent", "varparent"]
def placeF : List Sl → Str → Int → Int
  | [], _, _ => -1
  | s :: ts, x, i => if s.name = x then i else placeF ts x (i + 1)
def ixF (f : Sl → Bool) : List Sl → Nat → List Int
  | [], _ => []
  | s :: ts, i => if f s = true then (i : Int) :: ixF f ts (i + 1) else ixF f ts (i + 1)
def isVp (s : Sl) : Bool := decide (s.kind = ("varparent" : Str))
def isPr (s : Sl) : Bool := isPar s.kind
/-! ### the heap -/
abbrev ShC (K : PySem.W.Frag) : Addr := He.ga K ("Shapes" : Str)
def shF (lr nr wr : Addr) (u : Int) : List (Str × V) := [("ways_used", .int u), ("rows", .ref lr), ("numbers", .ref nr), ("ways", .ref wr)]
structure ShK (K : PySem.W.Frag) : Prop where
  cl : Cls K (ShC K)
  nu : NoAttr K (ShC K) "ways_used"
  nr : NoAttr K (ShC K) "rows"
  nn : NoAttr K (ShC K) "numbers"
  nw : NoAttr K (ShC K) "ways"
def numF : Nat → List Addr → List PyData → List NEnt
  | i, a :: as, D :: Rs => (nk D, a, .int (i : Int)) :: numF (i + 1) as Rs
  | _, _, _ => []
/-- a Shapes at p: ways_used u, the rows Rs at as, the ways ws -/
structure Sh (K : PySem.W.Frag) (w : World) (H : Hp) (p dx lr nr wr : Addr) (u : Int) (as : List Addr) (Rs : List PyData) (ws : List NEnt) : Prop where
  ins : H p = some (.ins (ShC K) dx (shF lr nr wr u))
  rows : H lr = some (.lst (as.map V.ref))
  dat : Trs H (as.map V.ref) Rs
  num : H nr = some (dnO w nr (numF 0 as Rs))
  way : H wr = some (dnO w wr ws)
  wk : KeysN H ws
  ne : nr ≠ wr
  rk : ∀ D ∈ Rs, ∃ ts, D = rowD ts ∧ SlG ts
  nd : Rs.Nodup
/-- what stays while rows are added -/
def KS (lr nr : Addr) (H H' : Hp) : Prop := ∀ b o, b ≠ lr → b ≠ nr → H b = some o → H' b = some o
/-- Rs, with D in it -/
def Ext (Rs : List PyData) (D : PyData) (Rs' : List PyData) : Prop := (D ∈ Rs ∧ Rs' = Rs) ∨ (D ∉ Rs ∧ Rs' = Rs ++ [D])
/-! ### promises -/
def sp_fixed_value (K : PySem.W.Frag) : Sp := fun vs H Q _ => ∃ (k : Str) (v : V), vs = [.str k, v] ∧ Q (if isFix k = true then v else .non) H
def sp_row_of (K : PySem.W.Frag) : Sp := fun vs H Q _ => ∃ (a : Addr) (ts : List Sl), vs = [.ref a] ∧ Tr H (.ref a) (slsT ts) ∧ ts.length ≤ 1000 ∧ ∀ q H', Same H H' → H q = none → Tr H' (.ref q) (rowD ts) → Q (.ref q) H'
def sp_Shapes_number_of (K : PySem.W.Frag) (w : World) : Sp := fun vs H Q _ => ∃ (p dx lr nr wr : Addr) (u : Int) (as : List Addr) (Rs : List PyData) (ws : List NEnt) (q : Addr) (ts : List Sl), vs = [.ref p, .ref q] ∧
  Sh K w H p dx lr nr wr u as Rs ws ∧ Tr H (.ref q) (rowD ts) ∧ SlG ts ∧ Rs.length ≤ 100000 ∧
  ∀ (as' : List Addr) (Rs' : List PyData) (j : Nat) H', (∀ b, b ≠ lr → b ≠ nr → H' b = H b) → Sh K w H' p dx lr nr wr u as' Rs' ws → Ext Rs (rowD ts) Rs' → Rs'[j]? = some (rowD ts) → Q (.int (j : Int)) H'
def sp_Shapes_init (K : PySem.W.Frag) (w : World) : Sp := fun vs H Q _ => ∃ (p dx : Addr), vs = [.ref p] ∧ H p = some (.ins (ShC K) dx []) ∧
  ∀ lr nr wr q H', (∀ b o, b ≠ p → H b = some o → H' b = some o) → H lr = none → H nr = none → H wr = none → Sh K w H' p dx lr nr wr 0 [q] [rowD []] [] → Q .non H'
def sp_Shapes_shape_of (K : PySem.W.Frag) (w : World) : Sp := fun vs H Q _ => ∃ (p dx lr nr wr : Addr) (u : Int) (as : List Addr) (Rs : List PyData) (ws : List NEnt) (a : Addr) (ts : List Sl), vs = [.ref p, .ref a] ∧ Sh K w H p dx lr nr wr u as Rs ws ∧ Tr H (.ref a) (slsT ts) ∧ SlG ts ∧ Rs.length ≤ 100000 ∧
  ∀ (as' : List Addr) (Rs' : List PyData) (j : Nat) H', KS lr nr H H' → Sh K w H' p dx lr nr wr u as' Rs' ws → Ext Rs (rowD ts) Rs' → Rs'[j]? = some (rowD ts) → Q (.int (j : Int)) H'
def sp_Shapes_row (K : PySem.W.Frag) (w : World) : Sp := fun vs H Q _ => ∃ (p dx lr nr wr : Addr) (u : Int) (as : List Addr) (Rs : List PyData) (ws : List NEnt) (j : Nat) (D : PyData), vs = [.ref p, .int (j : Int)] ∧ Sh K w H p dx lr nr wr u as Rs ws ∧ Rs[j]? = some D ∧ ∀ a, Tr H (.ref a) D → Q (.ref a) H
def sp_Shapes_count (K : PySem.W.Frag) (w : World) : Sp := fun vs H Q _ => ∃ (p dx lr nr wr : Addr) (u : Int) (as : List Addr) (Rs : List PyData) (ws : List NEnt), vs = [.ref p] ∧ Sh K w H p dx lr nr wr u as Rs ws ∧ Q (.int (Rs.length : Int)) H
def sp_Shapes_place (K : PySem.W.Frag) (w : World) : Sp := fun vs H Q _ => ∃ (p dx lr nr wr : Addr) (u : Int) (as : List Addr) (Rs : List PyData) (ws : List NEnt) (j : Nat) (x : Str) (ts : List Sl), vs = [.ref p, .int (j : Int), .str x] ∧ Sh K w H p dx lr nr wr u as Rs ws ∧ Rs[j]? = some (slsT ts) ∧
  ∀ H', Same H H' → Q (.int (placeF ts x 0)) H'
def sp_Shapes_parents (K : PySem.W.Frag) (w : World) : Sp := fun vs H Q _ => ∃ (p dx lr nr wr : Addr) (u : Int) (as : List Addr) (Rs : List PyData) (ws : List NEnt) (j : Nat) (ts : List Sl), vs = [.ref p, .int (j : Int)] ∧ Sh K w H p dx lr nr wr u as Rs ws ∧ Rs[j]? = some (slsT ts) ∧ ts.length ≤ 1000 ∧
  ∀ q H', Same H H' → H q = none → H' q = some (.tup ((ixF isPr ts 0).map V.int)) → Q (.ref q) H'
def sp_Shapes_free_parents (K : PySem.W.Frag) (w : World) : Sp := fun vs H Q _ => ∃ (p dx lr nr wr : Addr) (u : Int) (as : List Addr) (Rs : List PyData) (ws : List NEnt) (j : Nat) (ts : List Sl), vs = [.ref p, .int (j : Int)] ∧ Sh K w H p dx lr nr wr u as Rs ws ∧ Rs[j]? = some (slsT ts) ∧ ts.length ≤ 1000 ∧
  ∀ q H', Same H H' → H q = none → H' q = some (.tup ((ixF isVp ts 0).map V.int)) → Q (.ref q) H'
/-! ### readings -/

def ns_fixed_value : List Str := ["kind", "value"]
def t_fixed_value (K : PySem.W.Frag) (E : XK) : TS :=
  (tRet (tIf (tTest (tOp (rIn K false) (tVar 0) (tC (.ref (He.ga K ("FIXED" : Str)))))) (tVar 1) (tC .non)))

def ns_row_of : List Str := ["slots", "name", "kind", "value"]
def t_row_of (K : PySem.W.Frag) (E : XK) : TS :=
  (tRet (tCB (rTupleOf K) (tCons (tLc (iTup K (tVar 0)) (gTup K 3 (gCons (gName 1) (gCons (gName 2) (gCons (gName 3) gNil)))) tYes (tTup (tCons (tVar 1) (tCons (tVar 2) (tCons (tCall (sp_fixed_value K) [] E0 (tCons (tVar 2) (tCons (tVar 3) tNil))) tNil)))) [1, 2, 3]) tNil)))

def ns_Shapes_number_of : List Str := ["self", "row"]
def t_Shapes_number_of (K : PySem.W.Frag) (w : World) (E : XK) : TS :=
  (tSeq (tIfS (tB (tNNotIn w (tVar 1) (tFld K (tVar 0) ("numbers" : Str))))
      (tSeq (sNPut w (tFld K (tVar 0) ("numbers" : Str)) (tVar 1) (tCB (rLen K) (tCons (tFld K (tVar 0) ("rows" : Str)) tNil)))
    (tDrop (tBM K "list" rAppend (tFld K (tVar 0) ("rows" : Str)) (tCons (tVar 1) tNil))))
      tNext)
    (tRet (tNGet w (tFld K (tVar 0) ("numbers" : Str)) (tVar 1))))

def ns_Shapes_init : List Str := ["self"]
def t_Shapes_init (K : PySem.W.Frag) (w : World) (E : XK) : TS :=
  (tSeq (sFld K (tVar 0) (tC (.int 0)) ("ways_used" : Str))
    (tSeq (sFld K (tVar 0) (tLst tNil) ("rows" : Str))
    (tSeq (sFld K (tVar 0) (tNNew w) ("numbers" : Str))
    (tSeq (sFld K (tVar 0) (tNNew w) ("ways" : Str))
    (tDrop (tMeth (He.ga K ("Shapes" : Str)) ("number_of" : Str) (sp_Shapes_number_of K w) [] E (tVar 0) (tCons (tTup tNil) tNil)))))))

def ns_Shapes_shape_of : List Str := ["self", "slots"]
def t_Shapes_shape_of (K : PySem.W.Frag) (w : World) (E : XK) : TS :=
  (tRet (tMeth (He.ga K ("Shapes" : Str)) ("number_of" : Str) (sp_Shapes_number_of K w) [] E (tVar 0) (tCons (tCall (sp_row_of K) [] E (tCons (tVar 1) tNil)) tNil)))

def ns_Shapes_row : List Str := ["self", "shape"]
def t_Shapes_row (K : PySem.W.Frag) (w : World) (E : XK) : TS :=
  (tRet (tOp (rIxL K) (tFld K (tVar 0) ("rows" : Str)) (tVar 1)))

def ns_Shapes_count : List Str := ["self"]
def t_Shapes_count (K : PySem.W.Frag) (w : World) (E : XK) : TS :=
  (tRet (tCB (rLen K) (tCons (tFld K (tVar 0) ("rows" : Str)) tNil)))

def ns_Shapes_place : List Str := ["self", "shape", "name", "at", "slot"]
def t_Shapes_place (K : PySem.W.Frag) (w : World) (E : XK) : TS :=
  (tSeq (tFor (iEnumT K (tCons (tOp (rIxL K) (tFld K (tVar 0) ("rows" : Str)) (tVar 1)) tNil)) (gTup K 2 (gCons (gName 3) (gCons (gName 4) gNil)))
      (tIfS (tTest (tOp rEq (tOp (rIxT K) (tVar 4) (tC (.int 0))) (tVar 2)))
      (tRet (tVar 3))
      tNext))
    (tRet (tUn rNegI (tC (.int 1)))))

def ns_Shapes_parents : List Str := ["self", "shape", "at", "slot"]
def t_Shapes_parents (K : PySem.W.Frag) (w : World) (E : XK) : TS :=
  (tRet (tCB (rTupleOf K) (tCons (tLc (iEnumT K (tCons (tOp (rIxL K) (tFld K (tVar 0) ("rows" : Str)) (tVar 1)) tNil)) (gTup K 2 (gCons (gName 2) (gCons (gName 3) gNil))) (tTest (tOp (rIn K false) (tOp (rIxT K) (tVar 3) (tC (.int 1))) (tC (.ref (He.ga K ("PARENT_KINDS" : Str)))))) (tVar 2) [2, 3]) tNil)))

def ns_Shapes_free_parents : List Str := ["self", "shape", "at", "slot"]
def t_Shapes_free_parents (K : PySem.W.Frag) (w : World) (E : XK) : TS :=
  (tRet (tCB (rTupleOf K) (tCons (tLc (iEnumT K (tCons (tOp (rIxL K) (tFld K (tVar 0) ("rows" : Str)) (tVar 1)) tNil)) (gTup K 2 (gCons (gName 2) (gCons (gName 3) gNil))) (tTest (tOp rEq (tOp (rIxT K) (tVar 3) (tC (.int 1))) (tC (.str ("varparent" : Str))))) (tVar 2) [2, 3]) tNil)))

section
variable {K : PySem.W.Frag} {w : World} {vs : List V} {H : Hp} {Q : VK} {E : XK}
/-! ### fields -/
theorem neUR : ¬ (("ways_used" : Str) = "rows") := by decide +kernel
theorem neUN : ¬ (("ways_used" : Str) = "numbers") := by decide +kernel
theorem neUW : ¬ (("ways_used" : Str) = "ways") := by decide +kernel
theorem neRN : ¬ (("rows" : Str) = "numbers") := by decide +kernel
theorem neRW : ¬ (("rows" : Str) = "ways") := by decide +kernel
theorem neNW : ¬ (("numbers" : Str) = "ways") := by decide +kernel
section
variable {lr nr wr : Addr} {i j : Int}
theorem shF_u : (shF lr nr wr i).lookup ("ways_used" : Str) = some (.int i) := lk_eq
theorem shF_r : (shF lr nr wr i).lookup ("rows" : Str) = some (.ref lr) := by
  unfold shF
  rw [lk_ne (fun e => neUR e.symm), lk_eq]
theorem shF_n : (shF lr nr wr i).lookup ("numbers" : Str) = some (.ref nr) := by
  unfold shF
  rw [lk_ne (fun e => neUN e.symm), lk_ne (fun e => neRN e.symm), lk_eq]
theorem shF_w : (shF lr nr wr i).lookup ("ways" : Str) = some (.ref wr) := by
  unfold shF
  rw [lk_ne (fun e => neUW e.symm), lk_ne (fun e => neRW e.symm), lk_ne (fun e => neNW e.symm), lk_eq]
theorem shF_no {m : Str} (h1 : ¬ m = "ways_used") (h2 : ¬ m = "rows") (h3 : ¬ m = "numbers") (h4 : ¬ m = "ways") : (shF lr nr wr i).lookup m = none := by
  unfold shF
  rw [lk_ne h1, lk_ne h2, lk_ne h3, lk_ne h4]
  rfl
theorem shF_put : putF ("ways_used" : Str) (.int j) (shF lr nr wr i) = shF lr nr wr j := by
  unfold shF
  rw [pf_eq]
theorem shF_init : putF ("ways" : Str) (.ref wr) (putF ("numbers" : Str) (.ref nr) (putF ("rows" : Str) (.ref lr) (putF ("ways_used" : Str) (.int i) []))) = shF lr nr wr i := by
  rw [pf_nil, pf_ne neUR, pf_nil, pf_ne neUN, pf_ne neRN, pf_nil, pf_ne neUW, pf_ne neRW, pf_ne neNW, pf_nil]
  rfl
end
/-! ### data in the heap -/
theorem trp_of : ∀ {us : List V} {ts : List Sl}, Trs H us (ts.map slT) → TrpR H us ts
  | _, [], h => by
    cases h
    exact .nil
  | _, s :: ts, h => by
    cases h with
    | cons h1 r =>
      cases h1 with
      | tup h2 r2 =>
        cases r2 with
        | cons a1 r2 =>
          cases r2 with
          | cons a2 r2 =>
            cases r2 with
            | cons a3 r2 =>
              cases r2
              cases a1
              cases a2
              exact .cons h2 a3 (trp_of r)
theorem trs_of : ∀ {us : List V} {ts : List Sl}, TrpR H us ts → Trs H us (ts.map slT)
  | _, [], .nil => .nil
  | _, _ :: _, .cons h t r => .cons (.tup h (.cons (.str _) (.cons (.str _) (.cons t .nil)))) (trs_of r)
theorem sls_open {a : Addr} {ts : List Sl} (h : Tr H (.ref a) (slsT ts)) : ∃ us, H a = some (.tup us) ∧ TrpR H us ts := by
  cases h with
  | tup h r => exact ⟨_, h, trp_of r⟩
theorem sls_make {a : Addr} {us : List V} {ts : List Sl} (h : H a = some (.tup us)) (r : TrpR H us ts) : Tr H (.ref a) (slsT ts) := .tup h (trs_of r)
theorem Trs.at_ : ∀ {vs : List V} {ds : List PyData} (i : Nat) {d : PyData}, Trs H vs ds → ds[i]? = some d → ∃ v, vs[i]? = some v ∧ Tr H v d
  | _, _, _, _, .nil, e => by simp at e
  | _, _, 0, _, .cons h r, e => by
    cases e
    exact ⟨_, rfl, h⟩
  | _, _, i + 1, _, .cons h r, e => Trs.at_ i r (by simpa using e)
theorem Trs.len : ∀ {vs : List V} {ds : List PyData}, Trs H vs ds → vs.length = ds.length
  | _, _, .nil => rfl
  | _, _, .cons _ r => congrArg Nat.succ (Trs.len r)
theorem vg_non : VG .none := ⟨rfl, rfl, Nat.zero_le _, Nat.zero_le _⟩
theorem fix_vg {k : Str} {d : PyData} (h : VG d) : VG (fixV k d) := by
  unfold fixV
  split
  · exact h
  · exact vg_non
theorem rw_sg {s : Sl} (h : SG s) : SG (rwS s) := ⟨h.nm, h.kd, fix_vg h.vl⟩
theorem rw_slg {ts : List Sl} (h : SlG ts) : SlG (ts.map rwS) := ⟨fun s hs => by
  obtain ⟨t, ht, rfl⟩ := List.mem_map.mp hs
  exact rw_sg (h.all t ht), by rw [List.length_map]; exact h.len⟩
theorem slT_pl {s : Sl} (h : SG s) : plD (slT s) = true := by simp [slT, plD, plAll, h.vl.pl]
theorem slT_lay {s : Sl} (h : SG s) : PyData.canLay0 (slT s) = true := by simp [slT, PyData.canLay0, PyData.canLayAll0, h.nm, h.kd, h.vl.lay]
theorem slT_dep {s : Sl} (h : SG s) : PyData.depth (slT s) ≤ 2 := by
  have := h.vl.dep
  simp [slT, PyData.depth, PyData.depthAll]
  omega
theorem slT_nd {s : Sl} (h : SG s) : (nk (slT s)).depth ≤ 2 := by
  have := h.vl.nd
  simp [slT, nk, nkAll, NestedKey.depth, NestedKey.depthAll]
  omega
theorem sls_all : ∀ {ts : List Sl}, (∀ s ∈ ts, SG s) → plAll (ts.map slT) = true ∧ PyData.canLayAll0 (ts.map slT) = true ∧ PyData.depthAll (ts.map slT) ≤ 2 ∧ NestedKey.depthAll (nkAll (ts.map slT)) ≤ 2
  | [], _ => ⟨rfl, rfl, Nat.zero_le _, Nat.zero_le _⟩
  | s :: ts, h => by
    obtain ⟨a, b, c, d⟩ := sls_all fun t ht => h t (List.mem_cons_of_mem _ ht)
    have hs := h s List.mem_cons_self
    refine ⟨?_, ?_, ?_, ?_⟩
    · simp [plAll, slT_pl hs, a]
    · simp [PyData.canLayAll0, slT_lay hs, b]
    · have := slT_dep hs
      simp [PyData.depthAll]
      omega
    · have := slT_nd hs
      simp [nkAll, NestedKey.depthAll]
      omega
theorem sls_pl {ts : List Sl} (h : ∀ s ∈ ts, SG s) : plD (slsT ts) = true := by
  simp only [slsT, plD]
  exact (sls_all h).1
theorem sls_sh {ts : List Sl} (h : ∀ s ∈ ts, SG s) : SeqAt.shaped (slsT ts) = true := by
  obtain ⟨a, b, c, d⟩ := sls_all h
  simp [SeqAt.shaped, slsT, PyData.canLay0, PyData.depth, b]
  omega
theorem sls_nd {ts : List Sl} (h : ∀ s ∈ ts, SG s) : (nk (slsT ts)).depth ≤ 3 := by
  obtain ⟨a, b, c, d⟩ := sls_all h
  simp [slsT, nk, NestedKey.depth]
  omega
/-! ### numbers of rows -/
theorem num_no : ∀ {Rs : List PyData} {as : List Addr} {i : Nat} {D : PyData}, plD D = true → (∀ e ∈ Rs, plD e = true) → D ∉ Rs → valN (numF i as Rs) (nk D) = none
  | [], as, i, D, _, _, _ => by cases as <;> rfl
  | e :: Rs, [], i, D, _, _, _ => rfl
  | e :: Rs, a :: as, i, D, hd, he, hn => by
    have c : ¬ nk e = nk D := fun z => hn (by rw [nk_inj e D (he e List.mem_cons_self) hd z]; exact List.mem_cons_self)
    have := num_no (as := as) (i := i + 1) hd (fun f hf => he f (List.mem_cons_of_mem _ hf)) fun z => hn (List.mem_cons_of_mem _ z)
    unfold valN at this ⊢
    simp only [numF, List.find?_cons, decide_eq_false c]
    exact this
theorem num_at : ∀ {Rs : List PyData} {as : List Addr} {i j : Nat} {D : PyData}, as.length = Rs.length → (∀ e ∈ Rs, plD e = true) → Rs.Nodup → Rs[j]? = some D → valN (numF i as Rs) (nk D) = some (.int ((i + j : Nat) : Int))
  | [], as, i, j, D, _, _, _, h => by simp at h
  | e :: Rs, [], i, j, D, hl, _, _, _ => by simp at hl
  | e :: Rs, a :: as, i, 0, D, hl, he, nd, h => by
    cases h
    unfold valN
    simp [numF, List.find?_cons]
  | e :: Rs, a :: as, i, j + 1, D, hl, he, nd, h => by
    have h : Rs[j]? = some D := by simpa using h
    have hD := List.mem_of_getElem? h
    obtain ⟨n1, n2⟩ := List.nodup_cons.mp nd
    have c : ¬ nk e = nk D := fun z => n1 (by rw [nk_inj e D (he e List.mem_cons_self) (he D (List.mem_cons_of_mem _ hD)) z]; exact hD)
    have := num_at (as := as) (i := i + 1) (by simpa using hl) (fun f hf => he f (List.mem_cons_of_mem _ hf)) n2 h
    unfold valN at this ⊢
    simp only [numF, List.find?_cons, decide_eq_false c]
    rw [this]
    congr 2
    omega
theorem num_snoc : ∀ {Rs : List PyData} {as : List Addr} {i : Nat} {D : PyData} {a : Addr}, as.length = Rs.length → numF i (as ++ [a]) (Rs ++ [D]) = numF i as Rs ++ [(nk D, a, .int ((i + Rs.length : Nat) : Int))]
  | [], [], i, D, a, _ => by simp [numF]
  | [], b :: as, i, D, a, h => by simp at h
  | e :: Rs, [], i, D, a, h => by simp at h
  | e :: Rs, b :: as, i, D, a, h => by
    have := num_snoc (i := i + 1) (D := D) (a := a) (as := as) (Rs := Rs) (by simpa using h)
    simp only [List.cons_append, numF, this]
    congr 5
    simp
    omega
theorem num_len : ∀ {Rs : List PyData} {as : List Addr} {i : Nat}, as.length = Rs.length → (numF i as Rs).length = Rs.length
  | [], [], i, _ => rfl
  | [], b :: as, i, h => by simp at h
  | e :: Rs, [], i, h => by simp at h
  | e :: Rs, b :: as, i, h => by simp [numF, num_len (i := i + 1) (as := as) (Rs := Rs) (by simpa using h)]
theorem num_keys : ∀ {Rs : List PyData} {as : List Addr} {i : Nat}, Trs H (as.map V.ref) Rs → (∀ D ∈ Rs, (nk D).depth ≤ 8) → KeysN H (numF i as Rs)
  | [], as, i, _, _ => by cases as <;> exact fun p hp => by cases hp
  | e :: Rs, [], i, _, _ => fun p hp => by cases hp
  | e :: Rs, a :: as, i, t, hd => fun p hp => by
    cases t with
    | cons h r =>
      rcases List.mem_cons.mp hp with rfl | hp
      · exact ⟨e, h, rfl, hd e List.mem_cons_self⟩
      · exact num_keys (i := i + 1) r (fun D hD => hd D (List.mem_cons_of_mem _ hD)) p hp
section
variable {p dx lr nr wr : Addr} {u : Int} {as : List Addr} {Rs : List PyData} {ws : List NEnt} {H' : Hp}
theorem Sh.la (h : Sh K w H p dx lr nr wr u as Rs ws) : as.length = Rs.length := by
  have := Trs.len h.dat
  rw [List.length_map] at this
  exact this
theorem Sh.pls (h : Sh K w H p dx lr nr wr u as Rs ws) : ∀ D ∈ Rs, plD D = true := fun D hD => by
  obtain ⟨ts, rfl, g⟩ := h.rk D hD
  exact sls_pl (rw_slg g).all
theorem Sh.nds (h : Sh K w H p dx lr nr wr u as Rs ws) : ∀ D ∈ Rs, (nk D).depth ≤ 8 := fun D hD => by
  obtain ⟨ts, rfl, g⟩ := h.rk D hD
  exact Nat.le_trans (sls_nd (rw_slg g).all) (by decide)
theorem Sh.nk (h : Sh K w H p dx lr nr wr u as Rs ws) : KeysN H (numF 0 as Rs) := num_keys h.dat h.nds
/-- what else changes -/
theorem Sh.keep (h : Sh K w H p dx lr nr wr u as Rs ws) (h1 : H' p = H p) (h2 : H' lr = H lr) (h3 : H' nr = H nr) (h4 : H' wr = H wr) (k : TK H H') : Sh K w H' p dx lr nr wr u as Rs ws :=
  ⟨h1.trans h.ins, h2.trans h.rows, h.dat.keep k, h3.trans h.num, h4.trans h.way, h.wk.keep k, h.ne, h.rk, h.nd⟩
theorem Sh.same (h : Sh K w H p dx lr nr wr u as Rs ws) (s : Same H H') : Sh K w H' p dx lr nr wr u as Rs ws :=
  ⟨s _ _ h.ins, s _ _ h.rows, h.dat.keep fun a xs z => s a _ z, s _ _ h.num, s _ _ h.way, h.wk.keep fun a xs z => s a _ z, h.ne, h.rk, h.nd⟩
theorem dn_ne {a b : Addr} {kvs : List NEnt} {o : HO} (h : H a = some (dnO w a kvs)) (h2 : H b = some o) (n : ∀ φ, o ≠ .ext φ) : b ≠ a := fun e => by
  subst e
  rw [h] at h2
  cases h2
  exact n _ rfl
theorem Sh.tk (h : Sh K w H p dx lr nr wr u as Rs ws) (k : ∀ b, b ≠ lr → b ≠ nr → H' b = H b) : TK H H' := fun a xs e =>
  (k a (ne_of e h.rows (by intro z; cases z)) (dn_ne h.num e (by intro φ z; cases z))).trans e
theorem Sh.ks (h : Sh K w H p dx lr nr wr u as Rs ws) (k : KS lr nr H H') : TK H H' := fun a xs e =>
  k a _ (ne_of e h.rows (by intro z; cases z)) (dn_ne h.num e (by intro φ z; cases z)) e
end
/-! ### runs -/
theorem run_fixed_value (hf : ∀ H, SqT K H (He.ga K ("FIXED" : Str)) (fixM.map mS)) (h : sp_fixed_value K vs H Q E) : t_fixed_value K E (DQ Q) (start ns_fixed_value vs) H := by
  obtain ⟨k, v, rfl, q⟩ := h
  refine ⟨_, rfl, _, _, rfl, .inr (hf H), rfl, (by decide +kernel), _, rfl, ?_⟩
  have e : inV (.str k) (fixM.map mS) = isFix k := by
    rw [show fixM.map mS = [("const" : Str), ("method" : Str), ("parent" : Str)].map V.str from rfl, in_strs]
    unfold isFix
    rw [Bool.eq_iff_iff]
    simp [or_assoc]
  show (if inV (.str k) (fixM.map mS) = true then _ else _)
  rw [e]
  by_cases c : isFix k = true
  · rw [if_pos c] at q ⊢
    exact ⟨_, rfl, q⟩
  · rw [if_neg c] at q ⊢
    exact q
theorem rowD_take {ts : List Sl} {i : Nat} {s : Sl} (h : ts[i]? = some s) : (ts.take (i + 1)).map rwS = (ts.take i).map rwS ++ [rwS s] := by
  rw [List.take_add_one, h, List.map_append]
  rfl
theorem run_row_of (h : sp_row_of K vs H Q E) : t_row_of K E (DQ Q) (start ns_row_of vs) H := by
  obtain ⟨a, ts, rfl, t, hl, q⟩ := h
  obtain ⟨us, hu, tr⟩ := sls_open t
  have lu := tr.len
  refine ⟨_, rfl, a, rfl, ⟨_, SqT.of hu⟩, fun D nD => ?_⟩
  refine lc_it (walk_tup (xs := us)) (fun i G => ∃ acc, Same H G ∧ G D = some (.lst acc) ∧ TrpR G acc ((ts.take i).map rwS)) ⟨[], same_upd nD, upd_same, .nil⟩ (fun i G _ ⟨acc, s1, _⟩ => SqT.of (s1 _ _ hu)) ?_ ?_
  · rintro i x G G' hi ⟨acc, s1, g1, r1⟩ ⟨rfl, hx⟩
    obtain ⟨s, t1, v, es, rfl, ht, tv⟩ := tr.at_ i hx
    have ht1 := s1 _ _ ht
    refine ⟨t1, _, rfl, SqT.of ht1, rfl, _, _, rfl, _, _, rfl, _, _, rfl, rfl, rfl, ?_⟩
    refine ⟨_, rfl, _, rfl, _, rfl, _, rfl, s.kind, v, rfl, ?_⟩
    refine ⟨(by show 3 ≤ sizeLine; decide), fun t2 n2 => ?_⟩
    have tf : Tr G' (if isFix s.kind = true then v else V.non) (fixV s.kind s.val) := by
      unfold fixV
      by_cases c : isFix s.kind = true
      · rw [if_pos c, if_pos c]
        exact tv.keep fun b xs e => s1 b _ e
      · rw [if_neg c, if_neg c]
        exact .non
    revert n2 tf
    generalize (if isFix s.kind = true then v else V.non) = fv
    intro n2 tf
    have s2 := same_upd (o := .tup [V.str s.name, V.str s.kind, fv]) n2
    have g2 := s2 _ _ g1
    have la := r1.len
    rw [List.length_map, List.length_take] at la
    refine ⟨acc, g2, Nat.lt_of_le_of_lt (show acc.length ≤ 1000 by omega) (by decide), acc ++ [.ref t2], fun b o e => ?_, upd_same, ?_⟩
    · rw [upd_ne (ne_of_none e nD)]
      exact s2 b o (s1 b o e)
    · rw [rowD_take es]
      have tk : TK (upd G' t2 (.tup [V.str s.name, V.str s.kind, fv])) (upd (upd G' t2 (.tup [V.str s.name, V.str s.kind, fv])) D (.lst (acc ++ [.ref t2]))) := fun b xs e => by
        rw [upd_ne (ne_of e g2 (by intro z; cases z))]
        exact e
      refine TrpR.snoc (tk _ _ upd_same) ?_ ((r1.keep fun b xs e => s2 b _ e).keep tk)
      exact (tf.keep fun b xs e => s2 b _ e).keep tk
  · rintro G ⟨acc, s1, g1, r1⟩
    rw [List.take_of_length_le (by omega)] at r1
    refine ⟨D, acc, rfl, .inl ⟨SqL.of g1, fun l nl => ?_⟩⟩
    have s2 := same_upd (o := .tup acc) nl
    exact q l _ (s1.trans s2) (Same.free s1 nl) (sls_make upd_same (r1.keep fun b xs e => s2 b _ e))
theorem shaped_row {ts : List Sl} (g : SlG ts) : SeqAt.shaped (rowD ts) = true := sls_sh (rw_slg g).all
theorem row_dp {ts : List Sl} (g : SlG ts) : (nk (rowD ts)).depth ≤ 8 := Nat.le_trans (sls_nd (rw_slg g).all) (by decide)
theorem run_Shapes_number_of (C : ShK K) (h : sp_Shapes_number_of K w vs H Q E) : t_Shapes_number_of K w E (DQ Q) (start ns_Shapes_number_of vs) H := by
  obtain ⟨p, dx, lr, nr, wr, u, as, Rs, ws, q, ts, rfl, S, t, g, hl, fin⟩ := h
  have dp := row_dp g
  have pl : plD (rowD ts) = true := sls_pl (rw_slg g).all
  refine ⟨_, rfl, _, rfl, p, _, dx, _, _, rfl, S.ins, C.cl, C.nn, shF_n, nr, _, rfl, ⟨_, rowD ts, q, S.num, S.nk, rfl, t, dp, rfl⟩, _, rfl, ?_⟩
  by_cases c : rowD ts ∈ Rs
  · obtain ⟨j, hj⟩ := List.mem_iff_getElem?.mp c
    have e := num_at (i := 0) (j := j) S.la S.pls S.nd hj
    rw [e]
    refine iteF ?_
    refine ⟨_, rfl, p, _, dx, _, _, rfl, S.ins, C.cl, C.nn, shF_n, _, rfl, nr, _, rfl, ⟨_, rowD ts, q, S.num, S.nk, rfl, t, dp, e.symm⟩, ?_⟩
    rw [Nat.zero_add]
    exact fin as Rs j H (fun _ _ _ => rfl) S (.inl ⟨c, rfl⟩) hj
  · have e := num_no (as := as) (i := 0) pl S.pls c
    rw [e]
    refine iteT ?_
    have ln := num_len (i := 0) S.la
    have big : ∀ n, n ≤ 100000 → n < sizeLine := fun n h => Nat.lt_of_le_of_lt h (by decide)
    refine ⟨_, rfl, p, _, dx, _, _, rfl, S.ins, C.cl, C.nr, shF_r, _, _, rfl, .inl ⟨_, SqL.of S.rows, rfl⟩, ?_⟩
    refine ⟨_, rfl, p, _, dx, _, _, rfl, S.ins, C.cl, C.nn, shF_n, _, rfl, nr, _, rfl, ⟨_, rowD ts, q, S.num, S.nk, rfl, t, dp, e, big _ (by rw [ln]; exact hl), rfl⟩, ?_⟩
    have nln : lr ≠ nr := dn_ne S.num S.rows (by intro φ z; cases z)
    have npn : p ≠ nr := dn_ne S.num S.ins (by intro φ z; cases z)
    have npl : p ≠ lr := ne_of S.ins S.rows (by intro z; cases z)
    have nwl : wr ≠ lr := Ne.symm (dn_ne S.way S.rows (by intro φ z; cases z))
    rw [List.length_map, S.la]
    have i1 : (upd H nr (dnO w nr (numF 0 as Rs ++ [(nk (rowD ts), q, V.int (Rs.length : Int))]))) p = _ := (upd_ne npn).trans S.ins
    have r1 : (upd H nr (dnO w nr (numF 0 as Rs ++ [(nk (rowD ts), q, V.int (Rs.length : Int))]))) lr = _ := (upd_ne nln).trans S.rows
    refine ⟨_, rfl, p, _, dx, _, _, rfl, i1, C.cl, C.nr, shF_r, .inl ⟨rfl, _, SqL.of r1⟩, _, rfl, lr, _, _, rfl, rfl, r1, big _ (by rw [List.length_map, S.la]; exact hl), ?_⟩
    have st : ∀ b, b ≠ lr → b ≠ nr → (upd (upd H nr (dnO w nr (numF 0 as Rs ++ [(nk (rowD ts), q, V.int (Rs.length : Int))]))) lr (.lst (as.map V.ref ++ [.ref q]))) b = H b := fun b h1 h2 => by rw [upd_ne h1, upd_ne h2]
    have tk := S.tk st
    have es := num_snoc (i := 0) (D := rowD ts) (a := q) S.la
    rw [Nat.zero_add] at es
    have S2 : Sh K w (upd (upd H nr (dnO w nr (numF 0 as Rs ++ [(nk (rowD ts), q, V.int (Rs.length : Int))]))) lr (.lst (as.map V.ref ++ [.ref q]))) p dx lr nr wr u (as ++ [q]) (Rs ++ [rowD ts]) ws := by
      refine ⟨(st p npl npn).trans S.ins, ?_, ?_, ?_, (st wr nwl (Ne.symm S.ne)).trans S.way, S.wk.keep tk, S.ne, fun D hD => ?_, ?_⟩
      · rw [upd_same, List.map_append]
        rfl
      · rw [List.map_append]
        exact Trs.snoc (t.keep tk) (S.dat.keep tk)
      · rw [upd_ne (Ne.symm nln), upd_same, es]
      · rcases List.mem_append.mp hD with hD | hD
        · exact S.rk D hD
        · exact ⟨ts, List.mem_singleton.mp hD, g⟩
      · rw [List.nodup_append]
        exact ⟨S.nd, by simp, fun x hx y hy z => c (by rw [List.mem_singleton.mp hy] at z; rw [← z]; exact hx)⟩
    have hj : (Rs ++ [rowD ts])[Rs.length]? = some (rowD ts) := by simp
    have e2 := num_at (i := 0) (j := Rs.length) S2.la S2.pls S2.nd hj
    refine ⟨_, rfl, p, _, dx, _, _, rfl, S2.ins, C.cl, C.nn, shF_n, _, rfl, nr, _, rfl, ⟨_, rowD ts, q, S2.num, S2.nk, rfl, t.keep tk, dp, e2.symm⟩, ?_⟩
    rw [Nat.zero_add]
    exact fin _ _ _ _ st S2 (.inr ⟨c, rfl⟩) hj
theorem run_Shapes_init (C : ShK K) (h : sp_Shapes_init K w vs H Q E) : t_Shapes_init K w E (DQ Q) (start ns_Shapes_init vs) H := by
  obtain ⟨p, dx, rfl, hp, fin⟩ := h
  refine ⟨_, rfl, p, _, dx, _, rfl, hp, C.cl, C.nu, (by show 0 < 1000; decide), ?_⟩
  refine ⟨(by show 0 ≤ sizeLine; decide), fun lr nl => ?_⟩
  have n1 : p ≠ lr := ne_of_none upd_same nl
  refine ⟨_, rfl, p, _, dx, _, rfl, (upd_ne n1).trans upd_same, C.cl, C.nr, (by rw [pf_nil]; show 1 < 1000; decide), fun nr nn => ?_⟩
  have n2 : p ≠ nr := ne_of_none upd_same nn
  have n3 : lr ≠ nr := ne_of_none ((upd_ne (Ne.symm n1)).trans upd_same) nn
  refine ⟨_, rfl, p, _, dx, _, rfl, (upd_ne n2).trans upd_same, C.cl, C.nn, (by rw [pf_nil, pf_ne neUR, pf_nil]; show 2 < 1000; decide), fun wr nw => ?_⟩
  have n4 : p ≠ wr := ne_of_none upd_same nw
  have n5 : nr ≠ wr := ne_of_none ((upd_ne (Ne.symm n2)).trans upd_same) nw
  have n6 : lr ≠ wr := ne_of_none ((upd_ne (Ne.symm n1)).trans ((upd_ne n3).trans ((upd_ne (Ne.symm n1)).trans upd_same))) nw
  refine ⟨_, rfl, p, _, dx, _, rfl, (upd_ne n4).trans upd_same, C.cl, C.nw, (by rw [pf_nil, pf_ne neUR, pf_nil, pf_ne neUN, pf_ne neRN, pf_nil]; show 3 < 1000; decide), ?_⟩
  rw [shF_init]
  have fl : H lr = none := by rw [upd_ne (Ne.symm n1)] at nl; exact nl
  have fn : H nr = none := by rw [upd_ne (Ne.symm n2), upd_ne (Ne.symm n3), upd_ne (Ne.symm n2)] at nn; exact nn
  have fw : H wr = none := by rw [upd_ne (Ne.symm n4), upd_ne (Ne.symm n5), upd_ne (Ne.symm n4), upd_ne (Ne.symm n6), upd_ne (Ne.symm n4)] at nw; exact nw
  generalize hG : (upd (upd (upd (upd (upd (upd (upd H p _) lr _) p _) nr _) p _) wr _) p _) = G
  have G1 : G p = some (.ins (ShC K) dx (shF lr nr wr 0)) := by rw [← hG, upd_same]
  have G2 : G lr = some (.lst []) := by rw [← hG, upd_ne (Ne.symm n1), upd_ne n6, upd_ne (Ne.symm n1), upd_ne n3, upd_ne (Ne.symm n1), upd_same]
  have G3 : G nr = some (dnO w nr []) := by rw [← hG, upd_ne (Ne.symm n2), upd_ne n5, upd_ne (Ne.symm n2), upd_same]
  have G4 : G wr = some (dnO w wr []) := by rw [← hG, upd_ne (Ne.symm n4), upd_same]
  have st : ∀ b o, b ≠ p → H b = some o → G b = some o := fun b o n z => by
    rw [← hG, upd_ne n, upd_ne (ne_of_none z fw), upd_ne n, upd_ne (ne_of_none z fn), upd_ne n, upd_ne (ne_of_none z fl), upd_ne n]
    exact z
  have S : Sh K w G p dx lr nr wr 0 [] [] [] := ⟨G1, G2, .nil, G3, G4, (fun x hx => by cases hx), n5, (fun x hx => by cases hx), List.nodup_nil⟩
  refine ⟨_, rfl, p, dx, _, rfl, G1, shF_no (by decide +kernel) (by decide +kernel) (by decide +kernel) (by decide +kernel), (by show 0 ≤ sizeLine; decide), fun q nq => ?_⟩
  have s1 := same_upd (o := .tup []) nq
  refine ⟨p, dx, lr, nr, wr, 0, [], [], [], q, [], rfl, S.same s1, .tup upd_same .nil, ⟨(fun x hx => by cases hx), Nat.zero_le _⟩, Nat.zero_le _, fun as' Rs' j H' e S' x hj => ?_⟩
  have eR : Rs' = [rowD []] := by
    rcases x with ⟨m, _⟩ | ⟨_, e⟩
    · cases m
    · exact e
  subst eR
  have la := S'.la
  obtain ⟨a, rfl⟩ : ∃ a, as' = [a] := by
    match as', la with
    | [a], _ => exact ⟨a, rfl⟩
  refine fin lr nr wr a H' (fun b o n z => ?_) fl fn fw S'
  rw [e b (ne_of_none z fl) (ne_of_none z fn)]
  exact s1 b o (st b o n z)
theorem KS.of_same {lr nr : Addr} {H H' : Hp} (s : Same H H') : KS lr nr H H' := fun b o _ _ z => s b o z
theorem KS.of_eq {lr nr : Addr} {H H' : Hp} (s : ∀ b, b ≠ lr → b ≠ nr → H' b = H b) : KS lr nr H H' := fun b o h1 h2 z => (s b h1 h2).trans z
theorem KS.trans {lr nr : Addr} {H H1 H2 : Hp} (a : KS lr nr H H1) (b : KS lr nr H1 H2) : KS lr nr H H2 := fun c o h1 h2 z => b c o h1 h2 (a c o h1 h2 z)
theorem run_Shapes_shape_of (C : ShK K) (h : sp_Shapes_shape_of K w vs H Q E) : t_Shapes_shape_of K w E (DQ Q) (start ns_Shapes_shape_of vs) H := by
  obtain ⟨p, dx, lr, nr, wr, u, as, Rs, ws, a, ts, rfl, S, t, g, hl, fin⟩ := h
  refine ⟨_, rfl, p, dx, _, rfl, S.ins, shF_no (by decide +kernel) (by decide +kernel) (by decide +kernel) (by decide +kernel), _, rfl, a, ts, rfl, t, g.len, fun q H1 s1 nq t1 => ?_⟩
  exact ⟨p, dx, lr, nr, wr, u, as, Rs, ws, q, ts, rfl, S.same s1, t1, g, hl, fun as' Rs' j H' e S' x hj => fin as' Rs' j H' ((KS.of_same s1).trans (KS.of_eq e)) S' x hj⟩
theorem run_Shapes_row (C : ShK K) (h : sp_Shapes_row K w vs H Q E) : t_Shapes_row K w E (DQ Q) (start ns_Shapes_row vs) H := by
  obtain ⟨p, dx, lr, nr, wr, u, as, Rs, ws, j, D, rfl, S, hj, fin⟩ := h
  obtain ⟨v, hv, tv⟩ := Trs.at_ j S.dat hj
  have hv2 := hv
  rw [List.getElem?_map] at hv2
  obtain ⟨a, ha, rfl⟩ := Option.map_eq_some_iff.mp hv2
  exact ⟨_, rfl, p, _, dx, _, _, rfl, S.ins, C.cl, C.nr, shF_r, _, rfl, lr, _, _, _, rfl, rfl, SqL.of S.rows, atI_nat hv, fin a tv⟩
theorem run_Shapes_count (C : ShK K) (h : sp_Shapes_count K w vs H Q E) : t_Shapes_count K w E (DQ Q) (start ns_Shapes_count vs) H := by
  obtain ⟨p, dx, lr, nr, wr, u, as, Rs, ws, rfl, S, fin⟩ := h
  refine ⟨_, rfl, p, _, dx, _, _, rfl, S.ins, C.cl, C.nr, shF_r, _, _, rfl, .inl ⟨_, SqL.of S.rows, rfl⟩, ?_⟩
  rw [List.length_map, S.la]
  exact fin
/-- the row of a number, and where it lies -/
theorem Sh.row_at {p dx lr nr wr : Addr} {u : Int} {as : List Addr} {Rs : List PyData} {ws : List NEnt} {j : Nat} {D : PyData} (S : Sh K w H p dx lr nr wr u as Rs ws) (hj : Rs[j]? = some D) : ∃ a, (as.map V.ref)[j]? = some (.ref a) ∧ Tr H (.ref a) D := by
  obtain ⟨v, hv, tv⟩ := Trs.at_ j S.dat hj
  have hv2 := hv
  rw [List.getElem?_map] at hv2
  obtain ⟨a, ha, rfl⟩ := Option.map_eq_some_iff.mp hv2
  exact ⟨a, hv, tv⟩
theorem place_drop {x : Str} : ∀ {ts : List Sl} {i : Nat} {s : Sl} {n : Int}, ts[i]? = some s → placeF (ts.drop i) x n = if s.name = x then n else placeF (ts.drop (i + 1)) x (n + 1) := fun {ts i s n} h => by
  obtain ⟨hi, e⟩ := List.getElem?_eq_some_iff.mp h
  rw [List.drop_eq_getElem_cons hi, e]
  rfl
theorem run_Shapes_place (C : ShK K) (h : sp_Shapes_place K w vs H Q E) : t_Shapes_place K w E (DQ Q) (start ns_Shapes_place vs) H := by
  obtain ⟨p, dx, lr, nr, wr, u, as, Rs, ws, j, x, ts, rfl, S, hj, fin⟩ := h
  obtain ⟨a, ha, ta⟩ := S.row_at hj
  obtain ⟨us, hu, tr⟩ := sls_open ta
  have lu := tr.len
  refine ⟨_, rfl, p, _, dx, _, _, rfl, S.ins, C.cl, C.nr, shF_r, _, rfl, lr, _, _, _, rfl, rfl, SqL.of S.rows, atI_nat ha, a, us, rfl, SqT.of hu, ?_⟩
  refine for_it (walk_enumT (xs := us)) (fun i σ G => ∃ v3 v4 : Option V, σ = [some (.ref p), some (.int (j : Int)), some (.str x), v3, v4] ∧ Same H G ∧ placeF ts x 0 = placeF (ts.drop i) x (i : Int)) ⟨none, none, rfl, (fun _ _ z => z), rfl⟩ (fun i σ G _ ⟨_, _, _, s1, _⟩ => SqT.of (s1 _ _ hu)) ?_ ?_
  · rintro i y σ G G' hi ⟨v3, v4, rfl, s1, e1⟩ ⟨T, y1, y2, rfl, nT, rfl, z1, z2⟩
    cases z1
    obtain ⟨s, t1, v, es, rfl, ht, tv⟩ := tr.at_ i z2
    have s2 := same_upd (o := .tup [V.int (i : Int), V.ref t1]) nT
    refine ⟨T, _, rfl, SqT.of upd_same, rfl, _, _, rfl, _, _, rfl, rfl, ?_⟩
    rw [place_drop es] at e1
    refine ⟨_, rfl, t1, _, _, _, rfl, rfl, SqT.of (s2 _ _ (s1 _ _ ht)), atI_nat (j := 0) rfl, _, rfl, rfl, _, rfl, ?_⟩
    refine ite2 (fun c => ?_) (fun c => ?_)
    · rw [if_pos (V.str.inj (of_decide_eq_true c))] at e1
      refine ⟨_, rfl, ?_⟩
      have := fin _ (s1.trans s2)
      rw [e1] at this
      exact this
    · rw [if_neg (fun z => c (decide_eq_true (congrArg V.str z)))] at e1
      refine ⟨_, _, rfl, s1.trans s2, ?_⟩
      rw [e1]
      congr 1
  · rintro σ G ⟨v3, v4, rfl, s1, e1⟩
    rw [List.drop_of_length_le (by omega)] at e1
    refine ⟨_, rfl, ?_⟩
    have := fin _ s1
    rw [e1] at this
    exact this
theorem ix_take {f : Sl → Bool} : ∀ {ts : List Sl} {i : Nat} {s : Sl} {n : Nat}, ts[i]? = some s → ixF f (ts.take (i + 1)) n = ixF f (ts.take i) n ++ (if f s = true then [((n + i : Nat) : Int)] else [])
  | [], i, s, n, h => by simp at h
  | t :: ts, 0, s, n, h => by
    cases h
    simp only [List.take_succ_cons, List.take_zero, ixF]
    split <;> rfl
  | t :: ts, i + 1, s, n, h => by
    have := ix_take (f := f) (n := n + 1) (ts := ts) (i := i) (s := s) (by simpa using h)
    simp only [List.take_succ_cons, ixF] at this ⊢
    rw [this, show n + 1 + i = n + (i + 1) by omega]
    split <;> rfl
theorem ix_len {f : Sl → Bool} : ∀ {ts : List Sl} {n : Nat}, (ixF f ts n).length ≤ ts.length
  | [], n => Nat.le_refl _
  | t :: ts, n => by
    have := ix_len (f := f) (ts := ts) (n := n + 1)
    unfold ixF
    split
    · simp; omega
    · simp; omega
/-- the comprehension over enumerate of a row, by a test of its kind -/
theorem enum_ix {a : Addr} {us : List V} {ts : List Sl} {f : Sl → Bool} {tt : TT} {σ : L2.St} {i1 i2 : Nat} {Qd : Addr → Hp → Prop} (hu : H a = some (.tup us)) (tr : TrpR H us ts) (hl : ts.length ≤ 1000) (h12 : i1 ≠ i2) (l1 : i1 < σ.length) (l2 : i2 < σ.length)
    (ht : ∀ (σ' : L2.St) (G : Hp) (s : Sl) (t1 : Addr) (v : V) (Z : Bool → Hp → Prop), Same H G → σ'[i2]? = some (some (.ref t1)) → G t1 = some (.tup [.str s.name, .str s.kind, v]) → Z (f s) G → tt σ' G Z)
    (hd : ∀ D G, Same H G → H D = none → G D = some (.lst ((ixF f ts 0).map V.int)) → Qd D G) : ∀ D, H D = none → ∃ W : Nat → Nat → Hp → Prop, (∃ m, W 0 m (upd H D (.lst []))) ∧ ∀ i m G, W i m G →
      ((ItT K a).stop i G ∧ Qd D G) ∨ ((ItT K a).go i G ∧ ∃ Nx : Hp → Prop, (∀ H', Nx H' → ∃ m', m' < m ∧ W (i + 1) m' H') ∧ ∀ x H', (ItT K a).yld i G x H' → (gTup K 2 (gCons (gName i1) (gCons (gName i2) gNil))) x (wipe σ [i1, i2]) H' fun σ2 H2 => wipe σ2 [i1, i2] = wipe σ [i1, i2] ∧ tt σ2 H2 fun b H3 =>
        if b = true then (tVar i1) σ2 H3 fun y H4 => ∃ acc, H4 D = some (.lst acc) ∧ acc.length < sizeLine ∧ Nx (upd H4 D (.lst (acc ++ [y]))) else Nx H3) := fun D nD => by
  have lu := tr.len
  refine lc_it (walk_enumT (xs := us)) (fun i G => Same H G ∧ G D = some (.lst ((ixF f (ts.take i) 0).map V.int))) ⟨same_upd nD, upd_same⟩ (fun i G _ ⟨s1, _⟩ => SqT.of (s1 _ _ hu)) ?_ ?_
  · rintro i y G G' hi ⟨s1, g1⟩ ⟨T, y1, y2, rfl, nT, rfl, z1, z2⟩
    cases z1
    obtain ⟨s, t1, v, es, rfl, ht1, tv⟩ := tr.at_ i z2
    have s2 := same_upd (o := .tup [V.int (i : Int), V.ref t1]) nT
    refine ⟨T, _, rfl, SqT.of upd_same, rfl, _, _, rfl, _, _, rfl, rfl, ?_, ?_⟩
    · simp only [wipe]
      apply List.ext_getElem?
      intro k
      simp only [List.getElem?_set, List.length_set]
      by_cases k2 : i2 = k
      · simp [k2]
      · by_cases k1 : i1 = k
        · simp [k1, k2]
        · simp [k1, k2]
    have e2 : (((wipe σ [i1, i2]).set i1 (some (V.int (i : Int)))).set i2 (some (V.ref t1)))[i2]? = some (some (.ref t1)) := by
      rw [List.getElem?_set_self]
      simp [wipe, l2]
    have e1 : (((wipe σ [i1, i2]).set i1 (some (V.int (i : Int)))).set i2 (some (V.ref t1)))[i1]? = some (some (.int (i : Int))) := by
      rw [List.getElem?_set_ne (Ne.symm h12), List.getElem?_set_self]
      simp [wipe, l1]
    refine ht _ _ s t1 v _ (s1.trans s2) e2 (s2 _ _ (s1 _ _ ht1)) ?_
    have ex := ix_take (f := f) (n := 0) es
    rw [Nat.zero_add] at ex
    cases c : f s with
    | true =>
      rw [c] at ex
      refine iteT ⟨_, e1, _, s2 _ _ g1, Nat.lt_of_le_of_lt (show ((ixF f (ts.take i) 0).map V.int).length ≤ 1000 by
        rw [List.length_map]
        have := ix_len (f := f) (ts := ts.take i) (n := 0)
        rw [List.length_take] at this
        omega) (by decide), fun b o e => ?_, ?_⟩
      · rw [upd_ne (ne_of_none e nD)]
        exact s2 b o (s1 b o e)
      · rw [upd_same, ex, List.map_append]
        rfl
    | false =>
      rw [c] at ex
      refine iteF ⟨s1.trans s2, ?_⟩
      rw [ex]
      simp
      exact s2 _ _ g1
  · rintro G ⟨s1, g1⟩
    rw [List.take_of_length_le (by omega)] at g1
    exact hd D G s1 nD g1
theorem run_Shapes_parents (C : ShK K) (hP : ∀ H, SqT K H (He.ga K ("PARENT_KINDS" : Str)) (parM.map mS)) (h : sp_Shapes_parents K w vs H Q E) : t_Shapes_parents K w E (DQ Q) (start ns_Shapes_parents vs) H := by
  obtain ⟨p, dx, lr, nr, wr, u, as, Rs, ws, j, ts, rfl, S, hj, hl, fin⟩ := h
  obtain ⟨a, ha, ta⟩ := S.row_at hj
  obtain ⟨us, hu, tr⟩ := sls_open ta
  refine ⟨_, rfl, p, _, dx, _, _, rfl, S.ins, C.cl, C.nr, shF_r, _, rfl, lr, _, _, _, rfl, rfl, SqL.of S.rows, atI_nat ha, a, us, rfl, SqT.of hu, ?_⟩
  refine enum_ix (f := isPr) hu tr hl (by decide) (by show 2 < 4; decide) (by show 3 < 4; decide) (fun σ' G s t1 v Z s1 e2 ht z => ?_) (fun D G s1 nD g1 => ?_)
  · refine ⟨_, e2, t1, _, _, _, rfl, rfl, SqT.of ht, atI_nat (j := 1) rfl, _, _, rfl, .inr (hP G), rfl, (by decide +kernel), _, rfl, ?_⟩
    show Z (inV (.str s.kind) (["parent", "varparent"].map mS)) G
    rw [in_kinds]
    exact z
  · refine ⟨D, _, rfl, .inl ⟨SqL.of g1, fun l nl => ?_⟩⟩
    exact fin l _ (s1.trans (same_upd nl)) (Same.free s1 nl) upd_same
theorem run_Shapes_free_parents (C : ShK K) (h : sp_Shapes_free_parents K w vs H Q E) : t_Shapes_free_parents K w E (DQ Q) (start ns_Shapes_free_parents vs) H := by
  obtain ⟨p, dx, lr, nr, wr, u, as, Rs, ws, j, ts, rfl, S, hj, hl, fin⟩ := h
  obtain ⟨a, ha, ta⟩ := S.row_at hj
  obtain ⟨us, hu, tr⟩ := sls_open ta
  refine ⟨_, rfl, p, _, dx, _, _, rfl, S.ins, C.cl, C.nr, shF_r, _, rfl, lr, _, _, _, rfl, rfl, SqL.of S.rows, atI_nat ha, a, us, rfl, SqT.of hu, ?_⟩
  refine enum_ix (f := isVp) hu tr hl (by decide) (by show 2 < 4; decide) (by show 3 < 4; decide) (fun σ' G s t1 v Z s1 e2 ht z => ?_) (fun D G s1 nD g1 => ?_)
  · refine ⟨_, e2, t1, _, _, _, rfl, rfl, SqT.of ht, atI_nat (j := 1) rfl, rfl, _, rfl, ?_⟩
    have e : decide (V.str s.kind = V.str ("varparent" : Str)) = isVp s := by
      unfold isVp
      rw [Bool.eq_iff_iff]
      simp
    rw [e]
    exact z
  · refine ⟨D, _, rfl, .inl ⟨SqL.of g1, fun l nl => ?_⟩⟩
    exact fin l _ (s1.trans (same_upd nl)) (Same.free s1 nl) upd_same
end
end Rm.U

/-! U2: the draws of the laws of shapes and caches, slots as tuples: promises, readings (by gen.py), runs. -/
namespace Rm.U
open PySem PySem.Spec PyProof.Rows L2
def dr2 (r : Addr) (i : Int) : List (Key × V) := [(kRow, .ref r), (kAt, .int i)]
/-- at d: draws, their row at r -/
def Dr (H : Hp) (d r : Addr) : Prop := ∃ (i : Int) (ns : List Int), H d = some (.dK (dr2 r i)) ∧ H r = some (.lst (ns.map V.int)) ∧ 0 ≤ i ∧ ns.length = 400 ∧ ∀ n ∈ ns, 0 ≤ n
def nameM : List String := ["x", "y", "p", "q", "long", "x1"]
def kindM : List String := ["const", "var", "parent", "varparent", "method", "parent", "varparent"]
/-- a drawn value -/
structure VN (m : Int) (D : PyData) : Prop where
  g : VG D
  ok : ValOk D
  ref : ∀ i, refOf D = some i → 0 ≤ i ∧ i < max 1 m
/-- a drawn slot -/
structure SN (m : Int) (s : Sl) : Prop where
  nm : ∃ x ∈ nameM, s.name = Str.ofString x
  kd : ∃ x ∈ kindM, s.kind = Str.ofString x
  vl : VN m s.val
def sp_l_draws (K : PySem.W.Frag) : Sp := fun vs H Q _ => ∃ (a : Addr) (ns : List Int), vs = [.ref a, .int 400] ∧ SqL K H a (ns.map V.int) ∧ ns.length ≤ 63 ∧ ∀ q H' (rs : List Int), Same H H' → H q = none → H' q = some (.lst (rs.map V.int)) → rs.length = 400 → (∀ n ∈ rs, 0 ≤ n) → Q (.ref q) H'
def sp_l_take (K : PySem.W.Frag) : Sp := fun vs H Q _ => ∃ (d : Addr), vs = [.ref d] ∧ ∃ r, Dr H d r ∧ ∀ (j : Int) (H' : Hp), 0 ≤ j → Dr H' d r → Moved d H H' → Q (.int j) H'
def sp_l_start (K : PySem.W.Frag) : Sp := fun vs H Q _ => ∃ (a : Addr) (ns : List Int), vs = [.ref a] ∧ SqL K H a (ns.map V.int) ∧ ns.length ≤ 63 ∧ ∀ d r H', Same H H' → H d = none → H r = none → Dr H' d r → Q (.ref d) H'
def sp_l_value (K : PySem.W.Frag) : Sp := fun vs H Q _ => ∃ (d : Addr) (m : Int), vs = [.ref d, .int m] ∧ ∃ r, Dr H d r ∧ ∀ (v : V) (D : PyData) (H' : Hp), Kept d H H' → Dr H' d r → Tr H' v D → VN m D → Q v H'
def sp_l_kind (K : PySem.W.Frag) : Sp := fun vs H Q _ => ∃ (d : Addr), vs = [.ref d] ∧ ∃ r, Dr H d r ∧ ∀ (s : String) (H' : Hp), Kept d H H' → Dr H' d r → s ∈ kindM → Q (mS s) H'
def sp_l_name (K : PySem.W.Frag) : Sp := fun vs H Q _ => ∃ (d : Addr), vs = [.ref d] ∧ ∃ r, Dr H d r ∧ ∀ (s : String) (H' : Hp), Kept d H H' → Dr H' d r → s ∈ nameM → Q (mS s) H'
def sp_l_put (K : PySem.W.Frag) : Sp := fun vs H Q _ => ∃ (a : Addr) (x k : Str) (v : V) (D : PyData) (ts : List Sl), vs = [.ref a, .str x, .str k, v] ∧ Tr H (.ref a) (slsT ts) ∧ Tr H v D ∧ ts.length ≤ 1000 ∧ ∀ q H', Same H H' → Tr H' (.ref q) (slsT (putS ts ⟨x, k, D⟩)) → Q (.ref q) H'
def sp_l_slots (K : PySem.W.Frag) : Sp := fun vs H Q _ => ∃ (d : Addr) (m : Int), vs = [.ref d, .int m] ∧ ∃ r, Dr H d r ∧ ∀ (q : Addr) (ts : List Sl) (H' : Hp), Kept d H H' → Dr H' d r → Tr H' (.ref q) (slsT ts) → (∀ s ∈ ts, SN m s) → NdS ts → ts.length ≤ 4 → Q (.ref q) H'
def sp_l_row (K : PySem.W.Frag) : Sp := fun vs H Q _ => ∃ (a : Addr) (ts : List Sl), vs = [.ref a] ∧ Tr H (.ref a) (slsT ts) ∧ (∀ s ∈ ts, ∃ x ∈ kindM, s.kind = Str.ofString x) ∧ ts.length ≤ 1000 ∧ ∀ q H', Same H H' → H q = none → Tr H' (.ref q) (rowD ts) → Q (.ref q) H'
def sp_l_is (K : PySem.W.Frag) : Sp := fun vs H Q _ => ∃ (i j : Int), vs = [.int i, .int j] ∧ Q (.bl (decide (i = j))) H
/-! ### readings -/

def ns_l_draws : List Str := ["script", "many", "draws", "mixed", "k", "cell", "rest", "turn"]
def t_l_draws (K : PySem.W.Frag) (E : XK) : TS :=
  (tSeq (tAsg (tLst tNil) (gName 2))
    (tSeq (tAsg (tC (.int 7)) (gName 3))
    (tSeq (tFor (iRng1 (tCons (tCB (rLen K) (tCons (tVar 0) tNil)) tNil)) (gName 4)
      (tSeq (tAsg (tCB rAbs (tCons (tCB rInt1 (tCons (tOp (rIxL K) (tVar 0) (tVar 4)) tNil)) tNil)) (gName 5))
    (tSeq (tAsg (tOp rModI (tCB rInt1 (tCons (tOp rAddI (tOp rAddI (tOp rMulI (tVar 3) (tC (.int 48271))) (tOp rModI (tVar 5) (tC (.int 1000003)))) (tVar 4)) tNil)) (tC (.int 65537))) (gName 3))
    (tSeq (tAsg (tC (.int 0)) (gName 6))
    (tSeq (tIfS (tTest (tOp rGeI (tVar 5) (tOp rPowI (tC (.int 10)) (tC (.int 18)))))
      (tAsg (tVar 5) (gName 6))
      (tSeq (tDrop (tBM K "list" rAppend (tVar 2) (tCons (tOp rModI (tVar 5) (tC (.int 997))) tNil)))
    (tDrop (tBM K "list" rAppend (tVar 2) (tCons (tOp rModI (tOp rModI (tCB rInt1 (tCons (tOp rAddI (tOp rMulI (tVar 3) (tC (.int 69621))) (tC (.int 5))) tNil)) (tC (.int 65521))) (tC (.int 997))) tNil)))))
    (tFor (iRng1 (tCons (tC (.int 60)) tNil)) (gName 7)
      (tIfS (tTest (tOp rGtI (tVar 6) (tC (.int 0))))
      (tSeq (tDrop (tBM K "list" rAppend (tVar 2) (tCons (tOp rModI (tCB rInt1 (tCons (tVar 6) tNil)) (tC (.int 997))) tNil)))
    (tAsg (tOp rFdivI (tVar 6) (tC (.int 997))) (gName 6)))
      tNext)))))))
    (tSeq (tFor (iRng1 (tCons (tVar 1) tNil)) (gName 4)
      (tSeq (tAsg (tOp rModI (tCB rInt1 (tCons (tOp rAddI (tOp rAddI (tOp rMulI (tVar 3) (tC (.int 16807))) (tVar 4)) (tC (.int 1))) tNil)) (tC (.int 65537))) (gName 3))
    (tDrop (tBM K "list" rAppend (tVar 2) (tCons (tOp rModI (tCB rInt1 (tCons (tVar 3) tNil)) (tC (.int 997))) tNil)))))
    (tRet (tSl (rSlL K) (tVar 2) oNone (oSome (tVar 1))))))))

def ns_l_take : List Str := ["d", "at"]
def t_l_take (K : PySem.W.Frag) (E : XK) : TS :=
  (tSeq (tAsg (tDGet (tVar 0) (tC (.str ("at" : Str)))) (gName 1))
    (tSeq (sDPut (tVar 0) (tC (.str ("at" : Str))) (tOp rAddI (tVar 1) (tC (.int 1))))
    (tRet (tOp rAddI (tOp (rIxL K) (tDGet (tVar 0) (tC (.str ("row" : Str)))) (tOp rModI (tVar 1) (tCB (rLen K) (tCons (tDGet (tVar 0) (tC (.str ("row" : Str)))) tNil)))) (tOp rFdivI (tVar 1) (tCB (rLen K) (tCons (tDGet (tVar 0) (tC (.str ("row" : Str)))) tNil)))))))

def ns_l_start : List Str := ["script"]
def t_l_start (K : PySem.W.Frag) (E : XK) : TS :=
  (tRet (tDisp [((tC (.str ("row" : Str))), (tCall (sp_l_draws K) [] E (tCons (tVar 0) (tCons (tC (.int 400)) tNil)))), ((tC (.str ("at" : Str))), (tC (.int 0)))]))

def ns_l_value : List Str := ["d", "many", "turn"]
def t_l_value (K : PySem.W.Frag) (E : XK) : TS :=
  (tSeq (tAsg (tOp rModI (tCall (sp_l_take K) [] E (tCons (tVar 0) tNil)) (tC (.int 8))) (gName 2))
    (tSeq (tIfS (tTest (tOp rLtI (tVar 2) (tC (.int 4))))
      (tRet (tTup (tCons (tC (.str ("ref" : Str))) (tCons (tOp rModI (tCall (sp_l_take K) [] E (tCons (tVar 0) tNil)) (tCB rMax2 (tCons (tC (.int 1)) (tCons (tVar 1) tNil)))) tNil))))
      tNext)
    (tSeq (tIfS (tTest (tOp rEq (tVar 2) (tC (.int 4))))
      (tRet (tTup (tCons (tC (.str ("num" : Str))) (tCons (tOp (rIxL K) (tLst (tCons (tC (.int 0)) (tCons (tC (.int 1)) (tCons (tC (.int 2)) (tCons (tC (.int 7)) (tCons (tUn rNegI (tC (.int 1))) (tCons (tOp rPowI (tC (.int 10)) (tC (.int 15))) tNil))))))) (tOp rModI (tCall (sp_l_take K) [] E (tCons (tVar 0) tNil)) (tC (.int 6)))) tNil))))
      tNext)
    (tSeq (tIfS (tTest (tOp rEq (tVar 2) (tC (.int 5))))
      (tRet (tOp (rIxL K) (tLst (tCons (tTup (tCons (tC (.str ("true" : Str))) tNil)) (tCons (tTup (tCons (tC (.str ("false" : Str))) tNil)) (tCons (tTup (tCons (tC (.str ("nothing" : Str))) tNil)) tNil)))) (tOp rModI (tCall (sp_l_take K) [] E (tCons (tVar 0) tNil)) (tC (.int 3)))))
      tNext)
    (tSeq (tIfS (tTest (tOp rEq (tVar 2) (tC (.int 6))))
      (tRet (tTup (tCons (tC (.str ("method" : Str))) (tCons (tOp rModI (tCall (sp_l_take K) [] E (tCons (tVar 0) tNil)) (tC (.int 3))) tNil))))
      tNext)
    (tRet (tTup (tCons (tC (.str ("nothing" : Str))) tNil))))))))

def ns_l_name : List Str := ["d"]
def t_l_name (K : PySem.W.Frag) (E : XK) : TS :=
  (tRet (tOp (rIxL K) (tLst (tMenu (["x", "y", "p", "q", "long", "x1"].map mS))) (tOp rModI (tCall (sp_l_take K) [] E (tCons (tVar 0) tNil)) (tC (.int 6)))))

def ns_l_kind : List Str := ["d"]
def t_l_kind (K : PySem.W.Frag) (E : XK) : TS :=
  (tRet (tOp (rIxL K) (tLst (tMenu (["const", "var", "parent", "varparent", "method", "parent", "varparent"].map mS))) (tOp rModI (tCall (sp_l_take K) [] E (tCons (tVar 0) tNil)) (tC (.int 7)))))

def ns_l_put : List Str := ["slots", "name", "kind", "value", "k"]
def t_l_put (K : PySem.W.Frag) (E : XK) : TS :=
  (tSeq (tFor (iRng1 (tCons (tCB (rLen K) (tCons (tVar 0) tNil)) tNil)) (gName 4)
      (tIfS (tTest (tOp rEq (tOp (rIxT K) (tOp (rIxT K) (tVar 0) (tVar 4)) (tC (.int 0))) (tVar 1)))
      (tRet (tOp (rCatA K) (tOp (rCatA K) (tSl (rSlA K) (tVar 0) oNone (oSome (tVar 4))) (tTup (tCons (tTup (tCons (tVar 1) (tCons (tVar 2) (tCons (tVar 3) tNil)))) tNil))) (tSl (rSlA K) (tVar 0) (oSome (tOp rAddI (tVar 4) (tC (.int 1)))) oNone)))
      tNext))
    (tRet (tOp (rCatA K) (tVar 0) (tTup (tCons (tTup (tCons (tVar 1) (tCons (tVar 2) (tCons (tVar 3) tNil)))) tNil)))))

def ns_l_slots : List Str := ["d", "many", "slots", "k"]
def t_l_slots (K : PySem.W.Frag) (E : XK) : TS :=
  (tSeq (tAsg (tTup tNil) (gName 2))
    (tSeq (tFor (iRng1 (tCons (tOp rModI (tCall (sp_l_take K) [] E (tCons (tVar 0) tNil)) (tC (.int 5))) tNil)) (gName 3)
      (tAsg (tCall (sp_l_put K) [] E (tCons (tVar 2) (tCons (tCall (sp_l_name K) [] E (tCons (tVar 0) tNil)) (tCons (tCall (sp_l_kind K) [] E (tCons (tVar 0) tNil)) (tCons (tCall (sp_l_value K) [] E (tCons (tVar 0) (tCons (tVar 1) tNil))) tNil))))) (gName 2)))
    (tRet (tVar 2))))

def ns_l_row : List Str := ["slots", "row", "name", "kind", "value"]
def t_l_row (K : PySem.W.Frag) (E : XK) : TS :=
  (tSeq (tAsg (tLst tNil) (gName 1))
    (tSeq (tFor (iTup K (tVar 0)) (gTup K 3 (gCons (gName 2) (gCons (gName 3) (gCons (gName 4) gNil))))
      (tIfS (tTest (tOp (rIn K false) (tVar 3) (tTup (tCons (tC (.str ("var" : Str))) (tCons (tC (.str ("varparent" : Str))) tNil)))))
      (tDrop (tBM K "list" rAppend (tVar 1) (tCons (tTup (tCons (tVar 2) (tCons (tVar 3) (tCons (tC .non) tNil)))) tNil)))
      (tDrop (tBM K "list" rAppend (tVar 1) (tCons (tTup (tCons (tVar 2) (tCons (tVar 3) (tCons (tVar 4) tNil)))) tNil)))))
    (tRet (tCB (rTupleOf K) (tCons (tVar 1) tNil)))))

def ns_l_is : List Str := ["actual", "expected"]
def t_l_is (K : PySem.W.Frag) (E : XK) : TS :=
  (tRet (tAndV (tCB (rIsi K) (tCons (tVar 0) (tCons (tC (.ty "int")) tNil))) (tAndV (tNotV (tCB (rIsi K) (tCons (tVar 0) (tCons (tC (.ty "bool")) tNil)))) (tOp (rEqD K) (tVar 0) (tVar 1)))))

section
variable {K : PySem.W.Frag} {vs : List V} {H : Hp} {Q : VK} {E : XK}
/-! ### draws -/
theorem dr2_at (r : Addr) (i : Int) : valV (dr2 r i) kAt = some (.int i) := by
  unfold dr2
  rw [valV_neg (p := (kRow, V.ref r)) kRA, valV_pos (p := (kAt, V.int i)) rfl]
theorem dr2_row (r : Addr) (i : Int) : valV (dr2 r i) kRow = some (.ref r) := by
  unfold dr2
  rw [valV_pos (p := (kRow, V.ref r)) rfl]
theorem dr2_put (r : Addr) (i j : Int) : putK (dr2 r i) kAt (.int j) = dr2 r j := by
  unfold putK
  rw [valV_any, dr2_at, if_pos (show (some (V.int i)).isSome = true from rfl)]
  unfold dr2
  rw [List.map_cons, List.map_cons, List.map_nil, if_neg kRA, if_pos rfl]
theorem dr2_len (r : Addr) (i : Int) : (dr2 r i).length < sizeLine := by
  show 2 < sizeLine
  decide
theorem dr2_merge (p : Addr) (i : Int) : mergeK [] (dr2 p i) = dr2 p i := by
  have e1 : putK [] kRow (V.ref p) = [(kRow, V.ref p)] := putK_new _ rfl
  have e2 : putK [(kRow, V.ref p)] kAt (V.int i) = dr2 p i := putK_new _ (by rw [valV_neg kRA] <;> rfl)
  show putK (putK [] kRow (V.ref p)) kAt (V.int i) = _
  rw [e1, e2]
section
variable {d r : Addr} {i : Int}
theorem dg2_at (h : H d = some (.dK (dr2 r i))) : DGet H d (.str ("at" : Str)) (some (.int i)) := .inl ⟨_, kAt, .inl h, rfl, (dr2_at r i).symm⟩
theorem dg2_row (h : H d = some (.dK (dr2 r i))) : DGet H d (.str ("row" : Str)) (some (.ref r)) := .inl ⟨_, kRow, .inl h, rfl, (dr2_row r i).symm⟩
theorem dp2_at (h : H d = some (.dK (dr2 r i))) (j : Int) : DPut H d (.str ("at" : Str)) (.int j) (upd H d (.dK (dr2 r j))) := .inl ⟨_, kAt, h, rfl, dr2_len r i, by rw [dr2_put]⟩
end
theorem Dr.atD {d r : Addr} (h : Dr H d r) : ∃ o, H d = some o := let ⟨_, _, h, _⟩ := h; ⟨_, h⟩
theorem Dr.atR {d r : Addr} (h : Dr H d r) : ∃ o, H r = some o := let ⟨_, _, _, h, _⟩ := h; ⟨_, h⟩
theorem Dr.ne {d r : Addr} (h : Dr H d r) : r ≠ d := by
  obtain ⟨i, ns, h1, h2, _⟩ := h
  exact ne_of h2 h1 (by intro z; cases z)
theorem Dr.neD {d r a : Addr} (h : Dr H d r) (n : H a = none) : d ≠ a := let ⟨_, e⟩ := h.atD; ne_of_none e n
theorem Dr.neR {d r a : Addr} (h : Dr H d r) (n : H a = none) : r ≠ a := let ⟨_, e⟩ := h.atR; ne_of_none e n
theorem Dr.same {H' : Hp} {d r : Addr} (h : Dr H d r) (s : Same H H') : Dr H' d r := by
  obtain ⟨i, ns, h1, h2, h3⟩ := h
  exact ⟨i, ns, s _ _ h1, s _ _ h2, h3⟩
theorem Dr.keep {H' : Hp} {d r : Addr} (h : Dr H d r) (s : ∀ b o, (b = d ∨ b = r) → H b = some o → H' b = some o) : Dr H' d r := by
  obtain ⟨i, ns, h1, h2, h3⟩ := h
  exact ⟨i, ns, s _ _ (.inl rfl) h1, s _ _ (.inr rfl) h2, h3⟩
theorem Dr.fresh {d r a : Addr} {o : HO} (h : Dr H d r) (n : H a = none) : Dr (upd H a o) d r := h.same (same_upd n)
theorem Dr.tk {G' : Hp} {d r : Addr} (D : Dr H d r) (k : Kept d H G') : TK H G' := by
  obtain ⟨i, ns, h1, _⟩ := D
  exact fun a xs h => k a _ (ne_of h h1 (by intro z; cases z)) h
theorem Dr.kp {H' : Hp} {d r a : Addr} {o : HO} (k : Kept d H H') (D : Dr H' d r) (n : H' a = none) : Kept d H (upd H' a o) := k.put (k.free D.atD n)
theorem cut_take (xs : List V) (k : Nat) : cutV xs none (some (k : Int)) = xs.take k := by
  unfold cutV
  rw [HT.sIx_none, HT.sIx_nat, List.drop_zero, Nat.sub_zero]
  rw [List.take_eq_take_iff]
  omega
theorem cut_drop (xs : List V) (k : Nat) : cutV xs (some (k : Int)) none = xs.drop k := by
  unfold cutV
  rw [HT.sIx_none, HT.sIx_nat]
  by_cases h : k ≤ xs.length
  · rw [Nat.min_eq_left h, List.take_of_length_le (by rw [List.length_drop]; exact Nat.le_refl _)]
  · rw [Nat.min_eq_right (by omega), Nat.sub_self, List.take_zero, List.drop_of_length_le (by omega)]
theorem run_l_take (h : sp_l_take K vs H Q E) : t_l_take K E (DQ Q) (start ns_l_take vs) H := by
  obtain ⟨d, rfl, r, hD, q⟩ := h
  obtain ⟨i, ns, h1, h2, h3, h4, h5⟩ := id hD
  have nrd : r ≠ d := hD.ne
  refine ⟨_, rfl, d, _, rfl, dg2_at h1, ?_⟩
  refine ⟨_, rfl, _, _, rfl, rfl, _, rfl, d, _, rfl, dp2_at h1 _, ?_⟩
  have h1' : (upd H d (.dK (dr2 r (i + 1)))) d = some (.dK (dr2 r (i + 1))) := upd_same
  have h2' : (upd H d (.dK (dr2 r (i + 1)))) r = some (.lst (ns.map V.int)) := by rw [upd_ne nrd]; exact h2
  have D' : Dr (upd H d (.dK (dr2 r (i + 1)))) d r := ⟨i + 1, ns, h1', h2', by omega, h4, h5⟩
  have M' : Moved d H (upd H d (.dK (dr2 r (i + 1)))) := fun b n => upd_ne n
  refine ⟨_, rfl, d, _, rfl, dg2_row h1', _, rfl, _, rfl, d, _, rfl, dg2_row h1', _, _, rfl, .inl ⟨_, SqL.of h2', rfl⟩, ?_⟩
  have e400 : (((ns.map V.int).length : Nat) : Int) = 400 := by rw [List.length_map, h4]; rfl
  rw [e400]
  refine ⟨_, _, rfl, rfl, (by show (0 : Int) < 400; decide), ?_⟩
  have b1 : 0 ≤ i % 400 := Int.emod_nonneg _ (by decide)
  have b2 : i % 400 < 400 := Int.emod_lt_of_pos _ (by decide)
  obtain ⟨n, hn⟩ : ∃ n : Nat, i % 400 = (n : Int) := ⟨(i % 400).toNat, by omega⟩
  have hl : n < ns.length := by omega
  have g : (ns.map V.int)[n]? = some (.int ns[n]) := by rw [List.getElem?_map, List.getElem?_eq_getElem hl]; rfl
  refine ⟨r, _, i % 400, _, rfl, rfl, SqL.of h2', (by rw [hn]; exact atI_nat g), ?_⟩
  refine ⟨_, rfl, _, rfl, d, _, rfl, dg2_row h1', _, _, rfl, .inl ⟨_, SqL.of h2', rfl⟩, ?_⟩
  rw [e400]
  refine ⟨_, _, rfl, rfl, ⟨by decide, by decide⟩, _, _, rfl, rfl, ?_⟩
  refine q _ _ ?_ D' M'
  have := h5 ns[n] (List.getElem_mem hl)
  have : 0 ≤ i / 400 := Int.ediv_nonneg h3 (by decide)
  omega
theorem ap_nn {rs : List Int} {z : Int} (h : ∀ n ∈ rs, 0 ≤ n) (hz : 0 ≤ z) : ∀ n ∈ rs ++ [z], 0 ≤ n := fun n hn => by
  rcases List.mem_append.mp hn with hn | hn
  · exact h n hn
  · rw [List.mem_singleton.mp hn]; exact hz
theorem draw_rest {D : Ends} {a p : Addr} {x1 x3 x4 x5 v7 : Option V} {rs : List Int} {z : Int} {G : Hp} {B : Nat} (np : H p = none) (s1 : Same H G) (g1 : G p = some (.lst (rs.map V.int))) (l1 : rs.length ≤ B) (hB : B ≤ 9000) (z1 : ∀ n ∈ rs, 0 ≤ n) (hz : 0 ≤ z) {C : Nat}
    (fin : ∀ (rs : List Int) (z : Int) (v7 : Option V) (G : Hp), Same H G → G p = some (.lst (rs.map V.int)) → rs.length ≤ C → (∀ n ∈ rs, 0 ≤ n) → D.nx [some (.ref a), x1, some (.ref p), x3, x4, x5, some (.int z), v7] G) (hC : B + 60 ≤ C := by omega) :
    (tFor (iRng1 (tCons (tC (.int 60)) tNil)) (gName 7)
      (tIfS (tTest (tOp rGtI (tVar 6) (tC (.int 0))))
      (tSeq (tDrop (tBM K "list" rAppend (tVar 2) (tCons (tOp rModI (tCB rInt1 (tCons (tVar 6) tNil)) (tC (.int 997))) tNil)))
    (tAsg (tOp rFdivI (tVar 6) (tC (.int 997))) (gName 6)))
      tNext)) D [some (.ref a), x1, some (.ref p), x3, x4, x5, some (.int z), v7] G := by
  refine ⟨60, rfl, by decide, by decide, ?_⟩
  refine for_range (lo := 0) (n := 60) (fun j σ G => ∃ (rs : List Int) (z : Int) (v7 : Option V), σ = [some (.ref a), x1, some (.ref p), x3, x4, x5, some (.int z), v7] ∧ Same H G ∧ G p = some (.lst (rs.map V.int)) ∧ rs.length ≤ B + j ∧ (∀ n ∈ rs, 0 ≤ n) ∧ 0 ≤ z)
    ⟨rs, z, v7, rfl, s1, g1, l1, z1, hz⟩ ?_ ?_
  · rintro j σ G hj ⟨rs, z, v7, rfl, s1, g1, l1, z1, hz⟩
    refine ⟨_, rfl, _, _, rfl, rfl, _, rfl, ite2 (fun _ => ?_) (fun _ => ?_)⟩
    · refine ⟨_, rfl, .inl ⟨rfl, _, SqL.of g1⟩, _, rfl, .inl ⟨_, rfl, _, _, rfl, rfl, (by show (0 : Int) < 997; decide), p, _, _, rfl, rfl, g1, Nat.lt_of_le_of_lt (show (rs.map V.int).length ≤ 10000 by rw [List.length_map]; omega) (by decide), ?_⟩⟩
      refine ⟨_, rfl, _, _, rfl, rfl, ⟨by decide, by decide⟩, rs ++ [z % 997], z / 997, _, rfl, fun b u e => ?_, by rw [upd_same, map_snoc], by rw [List.length_append]; simp; omega, ap_nn z1 (Int.emod_nonneg _ (by decide)), Int.ediv_nonneg hz (by decide)⟩
      rw [upd_ne (ne_of_none e np)]
      exact s1 b u e
    · exact ⟨rs, z, _, rfl, s1, g1, by omega, z1, hz⟩
  · rintro σ G ⟨rs, z, v7, rfl, s1, g1, l1, z1, hz⟩
    exact fin rs z v7 G s1 g1 (by omega) z1
theorem run_l_draws (h : sp_l_draws K vs H Q E) : t_l_draws K E (DQ Q) (start ns_l_draws vs) H := by
  obtain ⟨a, ns, rfl, hS, hl, q⟩ := h
  refine ⟨(by show 0 ≤ sizeLine; decide), fun p np => ?_⟩
  have small : ∀ n, n ≤ 10000 → n < sizeLine := fun n h => Nat.lt_of_le_of_lt h (by decide)
  have mo : ∀ (rs : List Int) (z : Int), rs.map V.int ++ [V.int z] = (rs ++ [z]).map V.int := fun rs z => map_snoc rs z
  have nn : ∀ (rs : List Int) (z : Int), (∀ n ∈ rs, 0 ≤ n) → 0 ≤ z → ∀ n ∈ rs ++ [z], 0 ≤ n := fun rs z h hz n hn => by
    rcases List.mem_append.mp hn with hn | hn
    · exact h n hn
    · rw [List.mem_singleton.mp hn]; exact hz
  refine ⟨_, rfl, _, _, rfl, .inl ⟨_, (same_upd np).seq hS, rfl⟩, ?_⟩
  rw [List.length_map]
  refine ⟨(ns.length : Int), rfl, by omega, by omega, ?_⟩
  rw [Int.toNat_natCast]
  refine for_range (lo := 0) (n := ns.length) (fun i σ G => ∃ (rs : List Int) (mx : Int) (v4 v5 v6 v7 : Option V), σ = [some (.ref a), some (.int 400), some (.ref p), some (.int mx), v4, v5, v6, v7] ∧ Same H G ∧ G p = some (.lst (rs.map V.int)) ∧ rs.length ≤ 62 * i ∧ (∀ n ∈ rs, 0 ≤ n) ∧ 0 ≤ mx ∧ mx < 65537)
    ⟨[], 7, none, none, none, none, rfl, same_upd np, upd_same, Nat.zero_le _, (fun n hn => by cases hn), by decide, by decide⟩ ?_ ?_
  · rintro i σ G hi ⟨rs, mx, v4, v5, v6, v7, rfl, s1, g1, l1, z1, m0, m1⟩
    have hz : (ns.map V.int)[i]? = some (.int ns[i]) := by rw [List.getElem?_map, List.getElem?_eq_getElem hi]; rfl
    have hz0 : atI (ns.map V.int) (0 + (i : Int)) = some (.int ns[i]) := at_of (j := i) (by simp) hz
    have stay : ∀ {G' : Hp} {o : HO}, Same H G' → Same H (upd G' p o) := fun {G' o} s b u e => by
      rw [upd_ne (ne_of_none e np)]
      exact s b u e
    refine ⟨_, rfl, _, rfl, a, ns.map V.int, _, .int ns[i], rfl, rfl, s1.seq hS, hz0, .inl ⟨_, rfl, _, rfl, ?_⟩⟩
    generalize hc : (if ns[i] < 0 then -ns[i] else ns[i]) = c
    have c0 : 0 ≤ c := by
      rw [← hc]
      split <;> omega
    have b1 : 0 ≤ c % 1000003 := Int.emod_nonneg _ (by decide)
    refine ⟨_, rfl, _, _, rfl, rfl, .inl ⟨by omega, by omega⟩, _, rfl, _, _, rfl, rfl, (by show (0 : Int) < 1000003; decide), _, _, rfl, rfl, _, rfl, _, _, rfl, rfl, .inl ⟨_, rfl, _, _, rfl, rfl, (by show (0 : Int) < 65537; decide), ?_⟩⟩
    obtain ⟨mx2, hm⟩ : ∃ z, z = (mx * 48271 + c % 1000003 + (0 + (i : Int))) % 65537 := ⟨_, rfl⟩
    show gName 3 (V.int ((mx * 48271 + c % 1000003 + (0 + (i : Int))) % 65537)) _ _ _
    rw [← hm]
    have m2 : 0 ≤ mx2 := by rw [hm]; exact Int.emod_nonneg _ (by decide)
    have m3 : mx2 < 65537 := by rw [hm]; exact Int.emod_lt_of_pos _ (by decide)
    have fin : ∀ (rs : List Int) (z : Int) (v7 : Option V) (G : Hp), Same H G → G p = some (.lst (rs.map V.int)) → rs.length ≤ 62 * i + 62 → (∀ n ∈ rs, 0 ≤ n) → ∃ (rs' : List Int) (mx : Int) (w4 w5 w6 w7 : Option V), [some (V.ref a), some (V.int 400), some (V.ref p), some (V.int mx2), some (V.int (0 + (i : Int))), some (V.int c), some (V.int z), v7] = [some (V.ref a), some (V.int 400), some (V.ref p), some (V.int mx), w4, w5, w6, w7] ∧ Same H G ∧ G p = some (.lst (rs'.map V.int)) ∧ rs'.length ≤ 62 * (i + 1) ∧ (∀ n ∈ rs', 0 ≤ n) ∧ 0 ≤ mx ∧ mx < 65537 := fun rs z v7 G s1 g1 l1 z1 => ⟨rs, mx2, _, _, _, _, rfl, s1, g1, by omega, z1, m2, m3⟩
    refine ⟨_, rfl, _, _, rfl, rfl, ⟨by decide, by decide, by decide⟩, _, _, rfl, rfl, _, rfl, ite2 (fun _ => ?_) (fun _ => ?_)⟩
    · exact ⟨_, rfl, draw_rest (B := 62 * i) (C := 62 * i + 62) np s1 g1 (by omega) (by omega) z1 c0 fin⟩
    · refine ⟨_, rfl, .inl ⟨rfl, _, SqL.of g1⟩, _, rfl, _, _, rfl, rfl, (by show (0 : Int) < 997; decide), p, _, _, rfl, rfl, g1, small _ (by rw [List.length_map]; omega), ?_⟩
      refine ⟨_, rfl, .inl ⟨rfl, _, SqL.of upd_same⟩, _, rfl, _, _, rfl, rfl, .inl ⟨by omega, by omega⟩, _, _, rfl, rfl, .inl ⟨_, rfl, _, _, rfl, rfl, (by show (0 : Int) < 65521; decide), _, _, rfl, rfl, (by show (0 : Int) < 997; decide), p, _, _, rfl, rfl, upd_same, small _ (by rw [List.length_append, List.length_map]; simp; omega), ?_⟩⟩
      refine draw_rest (rs := rs ++ [c % 997] ++ [(mx2 * 69621 + 5) % 65521 % 997]) (B := 62 * i + 2) (C := 62 * i + 62) np (stay (stay s1)) ?_ (by simp; omega) (by omega) (nn _ _ (nn _ _ z1 (Int.emod_nonneg _ (by decide))) (Int.emod_nonneg _ (by decide))) (Int.le_refl _) fin
      rw [upd_same, mo, mo]
  · rintro σ G ⟨rs, mx, v4, v5, v6, v7, rfl, s1, g1, l1, z1, m0, m1⟩
    refine ⟨_, rfl, 400, rfl, by decide, by decide, ?_⟩
    have l0 : rs.length ≤ 5000 := by omega
    refine for_range (lo := 0) (n := 400) (fun i σ G => ∃ (rs : List Int) (mx : Int) (v4 v5 v6 v7 : Option V), σ = [some (.ref a), some (.int 400), some (.ref p), some (.int mx), v4, v5, v6, v7] ∧ Same H G ∧ G p = some (.lst (rs.map V.int)) ∧ i ≤ rs.length ∧ rs.length ≤ 5000 + i ∧ (∀ n ∈ rs, 0 ≤ n) ∧ 0 ≤ mx ∧ mx < 65537)
      ⟨rs, mx, _, _, _, _, rfl, s1, g1, Nat.zero_le _, l0, z1, m0, m1⟩ ?_ ?_
    · rintro i σ G hi ⟨rs, mx, v4, v5, v6, v7, rfl, s1, g1, l2, l3, z1, m0, m1⟩
      refine ⟨_, rfl, _, _, rfl, rfl, .inl ⟨by omega, by omega⟩, _, rfl, _, _, rfl, rfl, _, _, rfl, rfl, .inl ⟨_, rfl, _, _, rfl, rfl, (by show (0 : Int) < 65537; decide), ?_⟩⟩
      obtain ⟨mx2, hm⟩ : ∃ z, z = (mx * 16807 + (0 + (i : Int)) + 1) % 65537 := ⟨_, rfl⟩
      show gName 3 (V.int ((mx * 16807 + (0 + (i : Int)) + 1) % 65537)) _ _ _
      rw [← hm]
      have m2 : 0 ≤ mx2 := by rw [hm]; exact Int.emod_nonneg _ (by decide)
      have m3 : mx2 < 65537 := by rw [hm]; exact Int.emod_lt_of_pos _ (by decide)
      refine ⟨_, rfl, .inl ⟨rfl, _, SqL.of g1⟩, _, rfl, .inl ⟨_, rfl, _, _, rfl, rfl, (by show (0 : Int) < 997; decide), p, _, _, rfl, rfl, g1, small _ (by rw [List.length_map]; omega), ?_⟩⟩
      refine ⟨rs ++ [mx2 % 997], mx2, _, _, _, _, rfl, fun b u e => ?_, by rw [upd_same, mo], by simp; omega, by simp; omega, nn _ _ z1 (Int.emod_nonneg _ (by decide)), m2, m3⟩
      rw [upd_ne (ne_of_none e np)]
      exact s1 b u e
    · rintro σ G ⟨rs, mx, v4, v5, v6, v7, rfl, s1, g1, l2, l3, z1, m0, m1⟩
      refine ⟨_, rfl, _, rfl, _, rfl, p, _, rfl, SqL.of g1, fun l nl => ?_⟩
      have s2 := same_upd (o := .lst (cutV (rs.map V.int) none (some 400))) nl
      refine q l _ (rs.take 400) (s1.trans s2) (Same.free s1 nl) ?_ (by rw [List.length_take]; omega) (fun n hn => z1 n (List.mem_of_mem_take hn))
      rw [upd_same]
      have := cut_take (rs.map V.int) 400
      rw [show ((400 : Nat) : Int) = 400 from rfl] at this
      rw [this, List.map_take]
theorem run_l_start (h : sp_l_start K vs H Q E) : t_l_start K E (DQ Q) (start ns_l_start vs) H := by
  obtain ⟨a, ns, rfl, hS, hl, q⟩ := h
  intro d nd
  have s1 := same_upd (o := .dK []) nd
  refine ⟨_, rfl, a, ns, rfl, s1.seq hS, hl, fun p H1 rs s2 np hp l4 z1 => ?_⟩
  have hd := s2 _ _ (upd_same (H := H) (a := d) (o := .dK []))
  have npd : p ≠ d := fun z => by
    rw [z, upd_same] at np
    cases np
  refine ⟨hd, dr2 p 0, rfl, (by show 2 ≤ 15; decide), ?_⟩
  rw [dr2_merge]
  refine q d p _ (fun b o e => ?_) nd ?_ ⟨0, rs, upd_same, ?_, Int.le_refl _, l4, z1⟩
  · rw [upd_ne (ne_of_none e nd)]
    exact s2 b o (s1 b o e)
  · rw [upd_ne npd] at np
    exact np
  · rw [upd_ne npd]
    exact hp
theorem take_mod {j m : Int} (h : 0 < m) : 0 ≤ j % m ∧ j % m < m := ⟨Int.emod_nonneg _ (by omega), Int.emod_lt_of_pos _ h⟩
theorem run_l_kind (h : sp_l_kind K vs H Q E) : t_l_kind K E (DQ Q) (start ns_l_kind vs) H := by
  obtain ⟨d, rfl, r, hD, q⟩ := h
  refine ⟨(by show 7 ≤ sizeLine; decide), fun p np => ?_⟩
  refine ⟨_, rfl, d, rfl, r, hD.fresh np, fun j H1 j0 D1 M1 => ⟨_, _, rfl, rfl, (by show (0 : Int) < 7; decide), ?_⟩⟩
  have hp : H1 p = some (.lst (kindM.map mS)) := (M1 p (Ne.symm (hD.neD np))).trans upd_same
  obtain ⟨s, hs, e⟩ := menu_s (ss := kindM) (j := j % 7) (take_mod (by decide)).1 (take_mod (by decide)).2
  exact ⟨p, _, _, _, rfl, rfl, SqL.of hp, e, q s _ (((Kept.refl d H).put np).trans (Kept.of_moved M1)) D1 hs⟩
theorem run_l_name (h : sp_l_name K vs H Q E) : t_l_name K E (DQ Q) (start ns_l_name vs) H := by
  obtain ⟨d, rfl, r, hD, q⟩ := h
  refine ⟨(by show 6 ≤ sizeLine; decide), fun p np => ?_⟩
  refine ⟨_, rfl, d, rfl, r, hD.fresh np, fun j H1 j0 D1 M1 => ⟨_, _, rfl, rfl, (by show (0 : Int) < 6; decide), ?_⟩⟩
  have hp : H1 p = some (.lst (nameM.map mS)) := (M1 p (Ne.symm (hD.neD np))).trans upd_same
  obtain ⟨s, hs, e⟩ := menu_s (ss := nameM) (j := j % 6) (take_mod (by decide)).1 (take_mod (by decide)).2
  exact ⟨p, _, _, _, rfl, rfl, SqL.of hp, e, q s _ (((Kept.refl d H).put np).trans (Kept.of_moved M1)) D1 hs⟩
theorem vn_two {m i : Int} {w : Str} (hs : PyData.strOk w = true) (h : w = ("ref" : Str) → 0 ≤ i ∧ i < max 1 m) : VN m (.tuple [.str w, .int i]) := by
  refine ⟨⟨rfl, by simp [PyData.canLay0, PyData.canLayAll0, hs], by simp [PyData.depth, PyData.depthAll], by simp [nk, nkAll, NestedKey.depth, NestedKey.depthAll]⟩, ⟨w, _, rfl, fun _ => ⟨i, _, rfl⟩⟩, fun j e => ?_⟩
  have e : (if w = ("ref" : Str) then some i else none) = some j := e
  split at e
  · rename_i c
    cases e
    exact h c
  · cases e
theorem vn_one {m : Int} {w : Str} (hs : PyData.strOk w = true) (h : w ≠ ("ref" : Str)) : VN m (.tuple [.str w]) :=
  ⟨⟨rfl, by simp [PyData.canLay0, PyData.canLayAll0, hs], by simp [PyData.depth, PyData.depthAll], by simp [nk, nkAll, NestedKey.depth, NestedKey.depthAll]⟩, ⟨w, _, rfl, fun e => absurd e h⟩, fun j e => by cases e⟩
/-- a value of two parts -/
theorem val2 {d r : Addr} {w : Str} {i m : Int} {G : Hp} {Q : VK} (k : Kept d H G) (D : Dr G d r) (hs : PyData.strOk w = true) (h : w = ("ref" : Str) → 0 ≤ i ∧ i < max 1 m) (q : ∀ (v : V) (D : PyData) (H' : Hp), Kept d H H' → Dr H' d r → Tr H' v D → VN m D → Q v H') :
    [V.str w, V.int i].length ≤ sizeLine ∧ ∀ p, G p = none → Q (.ref p) (upd G p (.tup [V.str w, V.int i])) :=
  ⟨(by show 2 ≤ sizeLine; decide), fun p np => q _ (.tuple [.str w, .int i]) _ (Dr.kp k D np) (D.fresh np) (.tup upd_same (.cons (.str _) (.cons (.int _) .nil))) (vn_two hs h)⟩
theorem wd_ok : ∀ w ∈ [("ref" : Str), ("num" : Str), ("true" : Str), ("false" : Str), ("nothing" : Str), ("method" : Str), ("block" : Str)], PyData.strOk w = true := by decide +kernel
theorem wd_nr : ∀ w ∈ [("num" : Str), ("true" : Str), ("false" : Str), ("nothing" : Str), ("method" : Str), ("block" : Str)], w ≠ ("ref" : Str) := by decide +kernel
theorem menu_i {ns : List Int} {j : Int} (h0 : 0 ≤ j) (h1 : j < (ns.length : Int)) : ∃ z, atI (ns.map V.int) j = some (.int z) := by
  obtain ⟨n, rfl⟩ : ∃ n : Nat, j = (n : Int) := ⟨j.toNat, by omega⟩
  have hn : n < ns.length := by omega
  refine ⟨ns[n], atI_nat ?_⟩
  rw [List.getElem?_map, List.getElem?_eq_getElem hn]
  rfl
theorem menu_r {as : List Addr} {j : Int} (h0 : 0 ≤ j) (h1 : j < (as.length : Int)) : ∃ a ∈ as, atI (as.map V.ref) j = some (.ref a) := by
  obtain ⟨n, rfl⟩ : ∃ n : Nat, j = (n : Int) := ⟨j.toNat, by omega⟩
  have hn : n < as.length := by omega
  refine ⟨as[n], List.getElem_mem hn, atI_nat ?_⟩
  rw [List.getElem?_map, List.getElem?_eq_getElem hn]
  rfl
theorem run_l_value (h : sp_l_value K vs H Q E) : t_l_value K E (DQ Q) (start ns_l_value vs) H := by
  obtain ⟨d, m, rfl, r, hD, q⟩ := h
  refine ⟨_, rfl, d, rfl, r, hD, fun j H1 j0 D1 M1 => ⟨_, _, rfl, rfl, (by show (0 : Int) < 8; decide), ?_⟩⟩
  have K1 : Kept d H H1 := Kept.of_moved M1
  refine ⟨_, rfl, _, _, rfl, rfl, _, rfl, ite2 (fun _ => ?_) (fun _ => ?_)⟩
  · refine ⟨_, rfl, d, rfl, r, D1, fun k H2 k0 D2 M2 => ?_⟩
    refine ⟨_, rfl, _, _, rfl, ?_⟩
    have e : (if m > 1 then m else 1) = max 1 m := by split <;> omega
    rw [e]
    have t := take_mod (j := k) (m := max 1 m) (by omega)
    exact ⟨_, _, rfl, rfl, (by show (0 : Int) < max 1 m; omega), val2 (K1.trans (Kept.of_moved M2)) D2 (wd_ok _ (by decide +kernel)) (fun _ => t) q⟩
  refine ⟨_, rfl, rfl, _, rfl, ite2 (fun _ => ?_) (fun _ => ?_)⟩
  · refine ⟨_, rfl, _, _, rfl, rfl, ⟨by decide, by decide, by decide⟩, (by show 6 ≤ sizeLine; decide), fun p np => ?_⟩
    refine ⟨_, rfl, d, rfl, r, D1.fresh np, fun k H2 k0 D2 M2 => ⟨_, _, rfl, rfl, (by show (0 : Int) < 6; decide), ?_⟩⟩
    have hp : H2 p = some (.lst ([0, 1, 2, 7, -1, 10 ^ 15].map V.int)) := (M2 p (Ne.symm (D1.neD np))).trans upd_same
    obtain ⟨z, e⟩ := menu_i (ns := [0, 1, 2, 7, -1, 10 ^ 15]) (take_mod (j := k) (m := 6) (by decide)).1 (take_mod (by decide)).2
    exact ⟨p, _, _, _, rfl, rfl, SqL.of hp, e, val2 ((Dr.kp K1 D1 np).trans (Kept.of_moved M2)) D2 (wd_ok _ (by decide +kernel)) (fun z => absurd z (wd_nr _ (by decide +kernel))) q⟩
  refine ⟨_, rfl, rfl, _, rfl, ite2 (fun _ => ?_) (fun _ => ?_)⟩
  · refine ⟨(by show 1 ≤ sizeLine; decide), fun p1 n1 => ⟨(by show 1 ≤ sizeLine; decide), fun p2 n2 => ⟨(by show 1 ≤ sizeLine; decide), fun p3 n3 => ⟨(by show 3 ≤ sizeLine; decide), fun pl nl => ?_⟩⟩⟩⟩
    have A1 := D1.fresh (o := .tup [V.str ("true" : Str)]) n1
    have A2 := A1.fresh (o := .tup [V.str ("false" : Str)]) n2
    have A3 := A2.fresh (o := .tup [V.str ("nothing" : Str)]) n3
    have A4 := A3.fresh (o := .lst ([p1, p2, p3].map V.ref)) nl
    have K2 := Dr.kp (o := .tup [V.str ("true" : Str)]) K1 D1 n1
    have K3 := Dr.kp (o := .tup [V.str ("false" : Str)]) K2 A1 n2
    have K4 := Dr.kp (o := .tup [V.str ("nothing" : Str)]) K3 A2 n3
    have K5 := Dr.kp (o := .lst ([p1, p2, p3].map V.ref)) K4 A3 nl
    refine ⟨_, rfl, d, rfl, r, A4, fun k H2 k0 D2 M2 => ⟨_, _, rfl, rfl, (by show (0 : Int) < 3; decide), ?_⟩⟩
    have hp : H2 pl = some (.lst ([p1, p2, p3].map V.ref)) := (M2 pl (Ne.symm (A3.neD nl))).trans upd_same
    obtain ⟨z, hz, e⟩ := menu_r (as := [p1, p2, p3]) (take_mod (j := k) (m := 3) (by decide)).1 (take_mod (by decide)).2
    have t5 := A4.tk (Kept.of_moved M2)
    have t4 := (TK.new (o := .lst ([p1, p2, p3].map V.ref)) nl).trans t5
    have t3 := (TK.new (o := .tup [V.str ("nothing" : Str)]) n3).trans t4
    have t2 := (TK.new (o := .tup [V.str ("false" : Str)]) n2).trans t3
    have one : ∀ w : Str, w ∈ [("num" : Str), ("true" : Str), ("false" : Str), ("nothing" : Str), ("method" : Str), ("block" : Str)] → ∀ p, H2 p = some (.tup [V.str w]) → Q (.ref p) H2 := fun w hw p hp => q _ _ _ (K5.trans (Kept.of_moved M2)) D2 (.tup hp (.cons (.str _) .nil)) (vn_one (wd_ok _ (List.mem_cons_of_mem _ hw)) (wd_nr _ hw))
    refine ⟨pl, _, _, _, rfl, rfl, SqL.of hp, e, ?_⟩
    simp only [List.mem_cons, List.not_mem_nil, or_false] at hz
    rcases hz with rfl | rfl | rfl
    · exact one ("true" : Str) (by decide +kernel) _ (t2 _ _ upd_same)
    · exact one ("false" : Str) (by decide +kernel) _ (t3 _ _ upd_same)
    · exact one ("nothing" : Str) (by decide +kernel) _ (t4 _ _ upd_same)
  refine ⟨_, rfl, rfl, _, rfl, ite2 (fun _ => ?_) (fun _ => ?_)⟩
  · refine ⟨_, rfl, d, rfl, r, D1, fun k H2 k0 D2 M2 => ⟨_, _, rfl, rfl, (by show (0 : Int) < 3; decide), ?_⟩⟩
    exact val2 (K1.trans (Kept.of_moved M2)) D2 (wd_ok _ (by decide +kernel)) (fun z => absurd z (wd_nr _ (by decide +kernel))) q
  · exact ⟨(by show 1 ≤ sizeLine; decide), fun p np => q _ (.tuple [.str ("nothing" : Str)]) _ (Dr.kp K1 D1 np) (D1.fresh np) (.tup upd_same (.cons (.str _) .nil)) (vn_one (wd_ok _ (by decide +kernel)) (wd_nr _ (by decide +kernel)))⟩
/-! ### tuples cut and joined -/
theorem slA_ok {a : Addr} {us : List V} {lo hi : Option Int} {G : Hp} {Y : VK} (h : G a = some (.tup us)) (y : ∀ q G', Same G G' → G' q = some (.tup (cutV us lo hi)) → Y (.ref q) G') : rSlA K (.ref a) lo hi G Y := by
  refine ⟨a, us, rfl, SqT.of h, fun ⟨c1, c2⟩ => ?_, fun c p np => ?_⟩
  · refine y a G (fun _ _ z => z) ?_
    rw [h]
    unfold cutV
    rw [c1, c2, List.drop_zero, Nat.sub_zero, List.take_length]
  · exact y p _ (same_upd np) upd_same
theorem sl_from {a : Addr} {us : List V} {k : Int} {i : Nat} {te : TE} {σ : L2.St} {G : Hp} {Y : VK} (h : G a = some (.tup us)) (hi : σ[i]? = some (some (.ref a))) (ht : ∀ Z : VK, Z (.int k) G → te σ G Z) (y : ∀ q G', Same G G' → G' q = some (.tup (cutV us (some k) none)) → Y (.ref q) G') :
    (tSl (rSlA K) (tVar i) (oSome te) oNone) σ G Y := by
  refine ⟨_, hi, ht _ ⟨_, rfl, ?_⟩⟩
  show rSlA K (.ref a) (some k) none G Y
  exact slA_ok h y
theorem sl_to {a : Addr} {us : List V} {k : Int} {i : Nat} {te : TE} {σ : L2.St} {G : Hp} {Y : VK} (h : G a = some (.tup us)) (hi : σ[i]? = some (some (.ref a))) (ht : ∀ Z : VK, Z (.int k) G → te σ G Z) (y : ∀ q G', Same G G' → G' q = some (.tup (cutV us none (some k))) → Y (.ref q) G') :
    (tSl (rSlA K) (tVar i) oNone (oSome te)) σ G Y := by
  refine ⟨_, hi, ht _ ⟨_, rfl, ?_⟩⟩
  show rSlA K (.ref a) none (some k) G Y
  exact slA_ok h y
theorem catA_ok {a b : Addr} {xs ys : List V} {G : Hp} {Y : VK} (ha : G a = some (.tup xs)) (hb : G b = some (.tup ys)) (hl : xs.length + ys.length ≤ sizeLine) (y : ∀ q G', Same G G' → G' q = some (.tup (xs ++ ys)) → Y (.ref q) G') : rCatA K (.ref a) (.ref b) G Y := by
  refine ⟨a, b, xs, ys, rfl, rfl, SqT.of ha, SqT.of hb, hl, fun e => ?_, fun e1 e2 => ?_, fun _ _ p np => y p _ (same_upd np) upd_same⟩
  · subst e
    exact y b G (fun _ _ z => z) hb
  · subst e2
    exact y a G (fun _ _ z => z) (by rw [List.append_nil]; exact ha)
theorem putS_at : ∀ {ts : List Sl} {k : Nat} {s n : Sl}, ts[k]? = some s → s.name = n.name → (∀ j < k, ∀ t, ts[j]? = some t → t.name ≠ n.name) → putS ts n = ts.take k ++ [n] ++ ts.drop (k + 1)
  | [], k, s, n, h, _, _ => by simp at h
  | t :: ts, 0, s, n, h, e, _ => by
    cases h
    unfold putS
    rw [if_pos e]
    rfl
  | t :: ts, k + 1, s, n, h, e, hn => by
    have h0 := hn 0 (by omega) t rfl
    unfold putS
    rw [if_neg h0, putS_at (ts := ts) (k := k) (by simpa using h) e fun j hj u hu => hn (j + 1) (by omega) u (by simpa using hu)]
    rfl
theorem putS_end : ∀ {ts : List Sl} {n : Sl}, (∀ t ∈ ts, t.name ≠ n.name) → putS ts n = ts ++ [n]
  | [], n, _ => rfl
  | t :: ts, n, h => by
    unfold putS
    rw [if_neg (h t List.mem_cons_self), putS_end fun u hu => h u (List.mem_cons_of_mem _ hu)]
    rfl
theorem TrpR.app {us us' : List V} {ts ts' : List Sl} (h : TrpR H us ts) (h' : TrpR H us' ts') : TrpR H (us ++ us') (ts ++ ts') := by
  induction h with
  | nil => exact h'
  | cons h1 t1 r ih => exact .cons h1 t1 ih
theorem TrpR.tak {us : List V} {ts : List Sl} (h : TrpR H us ts) : ∀ k, TrpR H (us.take k) (ts.take k) := by
  induction h with
  | nil => intro k; simp; exact .nil
  | cons h1 t1 r ih =>
    intro k
    cases k with
    | zero => exact .nil
    | succ k => exact .cons h1 t1 (ih k)
theorem TrpR.drp {us : List V} {ts : List Sl} (h : TrpR H us ts) : ∀ k, TrpR H (us.drop k) (ts.drop k) := by
  induction h with
  | nil => intro k; simp; exact .nil
  | cons h1 t1 r ih =>
    intro k
    cases k with
    | zero => exact .cons h1 t1 r
    | succ k => exact ih k
theorem small_s {n : Nat} (h : n ≤ 5000) : n ≤ sizeLine := Nat.le_of_lt (Nat.lt_of_le_of_lt h (by decide))
theorem run_l_put (h : sp_l_put K vs H Q E) : t_l_put K E (DQ Q) (start ns_l_put vs) H := by
  obtain ⟨a, x, k, v, D, ts, rfl, t, tv, hl, q⟩ := h
  obtain ⟨us, hu, tr⟩ := sls_open t
  have lu := tr.len
  refine ⟨_, rfl, _, _, rfl, .inr ⟨_, SqT.of hu, rfl⟩, ?_⟩
  refine ⟨(us.length : Int), rfl, by omega, by omega, ?_⟩
  rw [Int.toNat_natCast]
  refine for_range (lo := 0) (n := us.length) (fun i σ G => ∃ v4 : Option V, σ = [some (.ref a), some (.str x), some (.str k), some v, v4] ∧ G = H ∧ ∀ j < i, ∀ t, ts[j]? = some t → t.name ≠ x) ⟨none, rfl, rfl, fun j hj => absurd hj (Nat.not_lt_zero _)⟩ ?_ ?_
  · rintro i σ G hi ⟨v4, rfl, rfl, hn⟩
    have hx : us[i]? = some us[i] := List.getElem?_eq_getElem hi
    obtain ⟨s, t1, v1, es, e1, ht, _⟩ := tr.at_ i hx
    have hx2 : atI us (0 + (i : Int)) = some (.ref t1) := at_of (j := i) (by simp) (hx.trans (congrArg some e1))
    refine ⟨_, rfl, _, rfl, a, _, _, _, rfl, rfl, SqT.of hu, hx2, t1, _, _, _, rfl, rfl, SqT.of ht, atI_nat (j := 0) rfl, _, rfl, rfl, _, rfl, ite2 (fun c => ?_) (fun c => ?_)⟩
    · have c : s.name = x := V.str.inj (of_decide_eq_true c)
      refine ⟨_, rfl, _, rfl, _, rfl, slA_ok hu fun q1 G1 s1 g1 => ?_⟩
      refine ⟨_, rfl, _, rfl, _, rfl, (by show 3 ≤ sizeLine; decide), fun p1 n1 => ⟨(by show 1 ≤ sizeLine; decide), fun p2 n2 => ?_⟩⟩
      have s2 := same_upd (o := .tup [V.str x, V.str k, v]) n1
      have s3 := same_upd (o := .tup [V.ref p1]) n2
      have e0 : (0 : Int) + (i : Int) = ((i : Nat) : Int) := by omega
      rw [e0, cut_take] at g1
      refine catA_ok (s3 _ _ (s2 _ _ g1)) upd_same (small_s (by rw [List.length_take]; simp; omega)) fun q4 G4 s4 g4 => ?_
      have S4 := ((s1.trans s2).trans s3).trans s4
      refine sl_from (k := (0 : Int) + (i : Int) + 1) (S4 _ _ hu) rfl (fun Z z => ⟨_, rfl, _, _, rfl, rfl, z⟩) fun q5 G5 s5 g5 => ?_
      have e2 : (0 : Int) + (i : Int) + 1 = ((i + 1 : Nat) : Int) := by omega
      rw [e2, cut_drop] at g5
      refine catA_ok (s5 _ _ g4) g5 (small_s (by rw [List.length_append, List.length_take, List.length_drop]; simp; omega)) fun q6 G6 s6 g6 => ?_
      have S6 := (S4.trans s5).trans s6
      refine q q6 G6 S6 (sls_make g6 ?_)
      rw [putS_at (k := i) es c hn]
      have r1 : TrpR G6 us ts := tr.keep fun b xs e => S6 b _ e
      refine TrpR.app (TrpR.app (TrpR.tak r1 i) ?_) (TrpR.drp r1 (i + 1))
      exact .cons (s6 _ _ (s5 _ _ (s4 _ _ (s3 _ _ upd_same)))) (tv.keep fun b xs e => S6 b _ e) .nil
    · refine ⟨_, rfl, rfl, fun j hj t ht => ?_⟩
      by_cases e : j = i
      · subst e
        rw [es] at ht
        cases ht
        exact fun z => c (decide_eq_true (congrArg V.str z))
      · exact hn j (by omega) t ht
  · rintro σ G ⟨v4, rfl, rfl, hn⟩
    have hno : ∀ t ∈ ts, t.name ≠ x := fun t ht => by
      obtain ⟨j, hj⟩ := List.mem_iff_getElem?.mp ht
      exact hn j (by have := (List.getElem?_eq_some_iff.mp hj).1; omega) t hj
    refine ⟨_, rfl, _, rfl, _, rfl, _, rfl, (by show 3 ≤ sizeLine; decide), fun p1 n1 => ⟨(by show 1 ≤ sizeLine; decide), fun p2 n2 => ?_⟩⟩
    have s2 := same_upd (o := .tup [V.str x, V.str k, v]) n1
    have s3 := same_upd (o := .tup [V.ref p1]) n2
    refine catA_ok (s3 _ _ (s2 _ _ hu)) upd_same (small_s (by simp; omega)) fun q4 G4 s4 g4 => ?_
    have S4 := (s2.trans s3).trans s4
    refine q q4 G4 S4 (sls_make g4 ?_)
    rw [putS_end (n := ⟨x, k, D⟩) hno]
    exact TrpR.snoc (s4 _ _ (s3 _ _ upd_same)) (tv.keep fun b xs e => S4 b _ e) (tr.keep fun b xs e => S4 b _ e)
theorem run_l_slots (h : sp_l_slots K vs H Q E) : t_l_slots K E (DQ Q) (start ns_l_slots vs) H := by
  obtain ⟨d, m, rfl, r, hD, q⟩ := h
  refine ⟨(by show 0 ≤ sizeLine; decide), fun p np => ?_⟩
  refine ⟨_, rfl, d, rfl, r, hD.fresh np, fun j H1 j0 D1 M1 => ⟨_, _, rfl, rfl, (by show (0 : Int) < 5; decide), ?_⟩⟩
  have t := take_mod (j := j) (m := 5) (by decide)
  obtain ⟨n, hn⟩ : ∃ n : Nat, j % 5 = (n : Int) := ⟨(j % 5).toNat, by omega⟩
  have hp : H1 p = some (.tup []) := (M1 p (Ne.symm (hD.neD np))).trans upd_same
  refine ⟨j % 5, rfl, by omega, by omega, ?_⟩
  rw [hn, Int.toNat_natCast]
  refine for_range (lo := 0) (n := n) (fun i σ G => ∃ (a : Addr) (ts : List Sl) (v3 : Option V), σ = [some (.ref d), some (.int m), some (.ref a), v3] ∧ Kept d H G ∧ Dr G d r ∧ Tr G (.ref a) (slsT ts) ∧ (∀ s ∈ ts, SN m s) ∧ NdS ts ∧ ts.length ≤ i)
    ⟨p, [], none, rfl, ((Kept.refl d H).put np).trans (Kept.of_moved M1), D1, .tup hp .nil, (fun s hs => by cases hs), List.nodup_nil, Nat.le_refl _⟩ ?_ ?_
  · rintro i σ G hi ⟨a, ts, v3, rfl, kp, D2, ta, sn, nd, l⟩
    refine ⟨_, rfl, _, rfl, d, rfl, r, D2, fun s1 G1 K1 A1 h1 => ?_⟩
    refine ⟨_, rfl, d, rfl, r, A1, fun s2 G2 K2 A2 h2 => ?_⟩
    refine ⟨_, rfl, _, rfl, d, m, rfl, r, A2, fun v D G3 K3 A3 tv vn => ?_⟩
    have K123 := (K1.trans K2).trans K3
    have tk := D2.tk K123
    refine ⟨a, Str.ofString s1, Str.ofString s2, v, D, ts, rfl, ta.keep tk, tv, by omega, fun q4 G4 s4 t4 => ?_⟩
    refine ⟨q4, _, _, rfl, (kp.trans K123).trans (Kept.of_same s4), A3.same s4, t4, fun s hs => ?_, putS_nd _ nd, Nat.le_trans (putS_len ts _) (by omega)⟩
    rcases putS_mem hs with hs | rfl
    · exact sn s hs
    · exact ⟨⟨s1, h1, rfl⟩, ⟨s2, h2, rfl⟩, vn⟩
  · rintro σ G ⟨a, ts, v3, rfl, kp, D2, ta, sn, nd, l⟩
    exact ⟨_, rfl, q a ts G kp D2 ta sn nd (by omega)⟩
theorem fix_kind : ∀ k ∈ kindM, (inV (.str (Str.ofString k)) ([V.str ("var" : Str), V.str ("varparent" : Str)])) = !isFix (Str.ofString k) := by decide +kernel
theorem run_l_row (h : sp_l_row K vs H Q E) : t_l_row K E (DQ Q) (start ns_l_row vs) H := by
  obtain ⟨a, ts, rfl, t, hk, hl, q⟩ := h
  obtain ⟨us, hu, tr⟩ := sls_open t
  have lu := tr.len
  refine ⟨(by show 0 ≤ sizeLine; decide), fun p np => ?_⟩
  refine ⟨_, rfl, a, rfl, ⟨_, SqT.of (same_upd np _ _ hu)⟩, ?_⟩
  refine for_it (walk_tup (xs := us)) (fun i σ G => ∃ (acc : List V) (v2 v3 v4 : Option V), σ = [some (.ref a), some (.ref p), v2, v3, v4] ∧ Same H G ∧ G p = some (.lst acc) ∧ TrpR G acc ((ts.take i).map rwS)) ⟨[], none, none, none, rfl, same_upd np, upd_same, .nil⟩ (fun i σ G _ ⟨_, _, _, _, _, s1, _⟩ => SqT.of (s1 _ _ hu)) ?_ ?_
  · rintro i x σ G G' hi ⟨acc, v2, v3, v4, rfl, s1, g1, r1⟩ ⟨rfl, hx⟩
    obtain ⟨s, t1, v, es, rfl, ht, tv⟩ := tr.at_ i hx
    have ht1 := s1 _ _ ht
    have la := r1.len
    rw [List.length_map, List.length_take] at la
    refine ⟨t1, _, rfl, SqT.of ht1, rfl, _, _, rfl, _, _, rfl, _, _, rfl, rfl, ?_⟩
    refine ⟨_, rfl, (by show 2 ≤ sizeLine; decide), fun p2 n2 => ?_⟩
    refine ⟨_, _, rfl, .inr (SqT.of upd_same), rfl, (by decide +kernel), _, rfl, ?_⟩
    obtain ⟨kx, hkx, ekx⟩ := hk s (List.mem_of_getElem? es)
    have eK : inV (.str s.kind) ([V.str ("var" : Str), V.str ("varparent" : Str)]) = !isFix s.kind := by
      rw [ekx]
      exact fix_kind kx hkx
    show (if inV (.str s.kind) ([V.str ("var" : Str), V.str ("varparent" : Str)]) = true then _ else _)
    rw [eK]
    have s2 := same_upd (o := .tup [V.str ("var" : Str), V.str ("varparent" : Str)]) n2
    have fin : ∀ (fv : V), Tr G' fv (fixV s.kind s.val) → ∀ p3, (upd G' p2 (.tup [V.str ("var" : Str), V.str ("varparent" : Str)])) p3 = none →
        (upd (upd (upd G' p2 (.tup [V.str ("var" : Str), V.str ("varparent" : Str)])) p3 (.tup [.str s.name, .str s.kind, fv])) p (.lst (acc ++ [.ref p3]))) = (upd (upd (upd G' p2 (.tup [V.str ("var" : Str), V.str ("varparent" : Str)])) p3 (.tup [.str s.name, .str s.kind, fv])) p (.lst (acc ++ [.ref p3]))) ∧
        (upd (upd G' p2 (.tup [V.str ("var" : Str), V.str ("varparent" : Str)])) p3 (.tup [.str s.name, .str s.kind, fv])) p = some (.lst acc) ∧ Same H (upd (upd (upd G' p2 (.tup [V.str ("var" : Str), V.str ("varparent" : Str)])) p3 (.tup [.str s.name, .str s.kind, fv])) p (.lst (acc ++ [.ref p3]))) ∧ TrpR (upd (upd (upd G' p2 (.tup [V.str ("var" : Str), V.str ("varparent" : Str)])) p3 (.tup [.str s.name, .str s.kind, fv])) p (.lst (acc ++ [.ref p3]))) (acc ++ [.ref p3]) ((ts.take (i + 1)).map rwS) := fun fv tf p3 n3 => by
      have s3 := same_upd (o := .tup [V.str s.name, V.str s.kind, fv]) n3
      have g3 := s3 _ _ (s2 _ _ g1)
      refine ⟨rfl, g3, fun b o e => ?_, ?_⟩
      · rw [upd_ne (ne_of_none e np)]
        exact s3 b o (s2 b o (s1 b o e))
      · rw [rowD_take es]
        have tk : TK (upd (upd G' p2 (.tup [V.str ("var" : Str), V.str ("varparent" : Str)])) p3 (.tup [.str s.name, .str s.kind, fv])) (upd (upd (upd G' p2 (.tup [V.str ("var" : Str), V.str ("varparent" : Str)])) p3 (.tup [.str s.name, .str s.kind, fv])) p (.lst (acc ++ [.ref p3]))) := fun b xs e => by
          rw [upd_ne (ne_of e g3 (by intro z; cases z))]
          exact e
        exact TrpR.snoc (tk _ _ upd_same) ((tf.keep fun b xs e => s3 b _ (s2 b _ e)).keep tk) ((r1.keep fun b xs e => s3 b _ (s2 b _ e)).keep tk)
    have lacc : acc.length < sizeLine := Nat.lt_of_le_of_lt (show acc.length ≤ 1000 by omega) (by decide)
    cases c : isFix s.kind with
    | false =>
      have fx : fixV s.kind s.val = .none := by unfold fixV; rw [c]; rfl
      refine iteT ⟨_, rfl, .inl ⟨rfl, _, SqL.of (s2 _ _ g1)⟩, _, rfl, _, rfl, (by show 3 ≤ sizeLine; decide), fun p3 n3 => ?_⟩
      obtain ⟨_, g3, s4, r4⟩ := fin .non (by rw [fx]; exact .non) p3 n3
      exact ⟨p, _, _, rfl, rfl, g3, lacc, _, _, _, _, rfl, s4, upd_same, r4⟩
    | true =>
      have fx : fixV s.kind s.val = s.val := by unfold fixV; rw [c]; rfl
      refine iteF ⟨_, rfl, .inl ⟨rfl, _, SqL.of (s2 _ _ g1)⟩, _, rfl, _, rfl, _, rfl, (by show 3 ≤ sizeLine; decide), fun p3 n3 => ?_⟩
      obtain ⟨_, g3, s4, r4⟩ := fin v (by rw [fx]; exact tv.keep fun b xs e => s1 b _ e) p3 n3
      exact ⟨p, _, _, rfl, rfl, g3, lacc, _, _, _, _, rfl, s4, upd_same, r4⟩
  · rintro σ G ⟨acc, v2, v3, v4, rfl, s1, g1, r1⟩
    rw [List.take_of_length_le (by omega)] at r1
    refine ⟨_, rfl, p, acc, rfl, .inl ⟨SqL.of g1, fun l nl => ?_⟩⟩
    have s2 := same_upd (o := .tup acc) nl
    exact q l _ (s1.trans s2) (Same.free s1 nl) (sls_make upd_same (r1.keep fun b xs e => s2 b _ e))
theorem run_l_is (h : sp_l_is K vs H Q E) : t_l_is K E (DQ Q) (start ns_l_is vs) H := by
  obtain ⟨i, j, rfl, q⟩ := h
  refine ⟨_, rfl, _, _, .type "int", .type "int", true, rfl, .ty "int", .base (.int i), kit_ty (by decide +kernel), _, rfl, iteT ?_⟩
  refine ⟨_, rfl, _, _, .type "int", .type "bool", false, rfl, .ty "bool", .base (.int i), kit_ty (by decide +kernel), _, rfl, _, rfl, iteT ?_⟩
  refine ⟨_, rfl, _, rfl, .int i, .int j, .int i, .int j, rfl, rfl, ?_⟩
  have e : PyData.eqv (.int i) (.int j) = decide (i = j) := by
    simp [PyData.eqv]
    rfl
  rw [e]
  exact q
end
end Rm.U

/-! U3: ways from shape to shape: promises, readings (by gen.py), runs. -/
namespace Rm.U
open PySem PySem.Spec PyProof.Rows L2
open Rm.Q (plD plAll eqv_eq eqvAll_eq tr_pl trs_pl)
inductive Way
  | drop (x : Str)
  | put (s : Sl)
def wayD : Way → PyData
  | .drop x => .tuple [.str ("drop" : Str), .str x]
  | .put s => .tuple [.str ("put" : Str), slT s]
def chF : Way → List Sl → List Sl
  | .drop x, ts => dropS ts x
  | .put s, ts => putS ts s
def keyD (j : Nat) (W : Way) : PyData := .tuple [.int (j : Int), wayD W]
/-- what a way may hold -/
def WG : Way → Prop
  | .drop x => PyData.strOk x = true
  | .put s => SG s ∧ rwS s = s
/-- rows without what may be assigned -/
def Red (ts : List Sl) : Prop := ∀ s ∈ ts, rwS s = s
/-- what the ways say is so -/
def WV (Rs : List PyData) (ws : List NEnt) : Prop := ∀ e ∈ ws, ∃ (j : Nat) (W : Way) (ts : List Sl) (i : Nat), e.1 = nk (keyD j W) ∧ WG W ∧ Rs[j]? = some (slsT ts) ∧ e.2.2 = .int (i : Int) ∧ Rs[i]? = some (slsT (chF W ts))
/-- what stays while a Shapes is used -/
def KP (p lr nr wr : Addr) (H H' : Hp) : Prop := ∀ b o, b ≠ p → b ≠ lr → b ≠ nr → b ≠ wr → H b = some o → H' b = some o
def sp_Shapes_changed_row (K : PySem.W.Frag) (w : World) : Sp := fun vs H Q _ => ∃ (p dx lr nr wr : Addr) (u : Int) (as : List Addr) (Rs : List PyData) (ws : List NEnt) (j : Nat) (b : Addr) (W : Way) (ts : List Sl), vs = [.ref p, .int (j : Int), .ref b] ∧ Sh K w H p dx lr nr wr u as Rs ws ∧ Rs[j]? = some (slsT ts) ∧ ts.length ≤ 1000 ∧ (∀ s ∈ ts, PyData.strOk s.name = true) ∧ Tr H (.ref b) (wayD W) ∧ WG W ∧
  ∀ q H', Same H H' → Tr H' (.ref q) (slsT (chF W ts)) → Q (.ref q) H'
/-- the promise of behind, put and drop: from the shape j, by the way W -/
def Went (K : PySem.W.Frag) (w : World) (H : Hp) (Q : VK) (p dx lr nr wr : Addr) (u : Int) (as : List Addr) (Rs : List PyData) (ws : List NEnt) (j : Nat) (W : Way) (ts : List Sl) : Prop :=
  (∀ (i : Nat) H', valN ws (nk (keyD j W)) ≠ none → KP p lr nr wr H H' → Sh K w H' p dx lr nr wr (u + 1) as Rs ws → Rs[i]? = some (slsT (chF W ts)) → Q (.int (i : Int)) H') ∧
  (∀ (i : Nat) (as' : List Addr) (Rs' : List PyData) (a : Addr) H', valN ws (nk (keyD j W)) = none → KP p lr nr wr H H' → Sh K w H' p dx lr nr wr u as' Rs' (ws ++ [(nk (keyD j W), a, .int (i : Int))]) → WV Rs' (ws ++ [(nk (keyD j W), a, .int (i : Int))]) → Ext Rs (slsT (chF W ts)) Rs' → Rs'[i]? = some (slsT (chF W ts)) → Q (.int (i : Int)) H')
def sp_Shapes_behind (K : PySem.W.Frag) (w : World) : Sp := fun vs H Q _ => ∃ (p dx lr nr wr : Addr) (u : Int) (as : List Addr) (Rs : List PyData) (ws : List NEnt) (j : Nat) (b : Addr) (W : Way) (ts : List Sl), vs = [.ref p, .int (j : Int), .ref b] ∧ Sh K w H p dx lr nr wr u as Rs ws ∧ WV Rs ws ∧ Rs[j]? = some (slsT ts) ∧ SlG ts ∧ Red ts ∧ (chF W ts).length ≤ 1000 ∧ Tr H (.ref b) (wayD W) ∧ WG W ∧ Rs.length ≤ 100000 ∧ ws.length ≤ 100000 ∧
  Went K w H Q p dx lr nr wr u as Rs ws j W ts
def sp_Shapes_put (K : PySem.W.Frag) (w : World) : Sp := fun vs H Q _ => ∃ (p dx lr nr wr : Addr) (u : Int) (as : List Addr) (Rs : List PyData) (ws : List NEnt) (j : Nat) (s : Sl) (v : V) (ts : List Sl), vs = [.ref p, .int (j : Int), .str s.name, .str s.kind, v] ∧ Tr H v s.val ∧ SG s ∧ Sh K w H p dx lr nr wr u as Rs ws ∧ WV Rs ws ∧ Rs[j]? = some (slsT ts) ∧ SlG ts ∧ Red ts ∧ ts.length < 1000 ∧ Rs.length ≤ 100000 ∧ ws.length ≤ 100000 ∧
  Went K w H Q p dx lr nr wr u as Rs ws j (.put (rwS s)) ts
def sp_Shapes_drop (K : PySem.W.Frag) (w : World) : Sp := fun vs H Q _ => ∃ (p dx lr nr wr : Addr) (u : Int) (as : List Addr) (Rs : List PyData) (ws : List NEnt) (j : Nat) (x : Str) (ts : List Sl), vs = [.ref p, .int (j : Int), .str x] ∧ PyData.strOk x = true ∧ Sh K w H p dx lr nr wr u as Rs ws ∧ WV Rs ws ∧ Rs[j]? = some (slsT ts) ∧ SlG ts ∧ Red ts ∧ Rs.length ≤ 100000 ∧ ws.length ≤ 100000 ∧
  ((∀ s ∈ ts, s.name ≠ x) → ∀ H', Same H H' → Q (.int (j : Int)) H') ∧ ((∃ s ∈ ts, s.name = x) → Went K w H Q p dx lr nr wr u as Rs ws j (.drop x) ts)
/-! ### readings -/

def ns_Shapes_changed_row : List Str := ["self", "shape", "way", "row", "word", "what", "slot", "at"]
def t_Shapes_changed_row (K : PySem.W.Frag) (w : World) (E : XK) : TS :=
  (tSeq (tAsg (tOp (rIxL K) (tFld K (tVar 0) ("rows" : Str)) (tVar 1)) (gName 3))
    (tSeq (tAsg (tVar 2) (gTup K 2 (gCons (gName 4) (gCons (gName 5) gNil))))
    (tSeq (tIfS (tTest (tOp rEq (tVar 4) (tC (.str ("drop" : Str)))))
      (tRet (tCB (rTupleOf K) (tCons (tLc (iTup K (tVar 3)) (gName 6) (tTest (tOp (rNeD K) (tOp (rIxT K) (tVar 6) (tC (.int 0))) (tVar 5))) (tVar 6) [6]) tNil)))
      tNext)
    (tSeq (tAsg (tMeth (He.ga K ("Shapes" : Str)) ("place" : Str) (sp_Shapes_place K w) [] E (tVar 0) (tCons (tVar 1) (tCons (tOp (rIxT K) (tVar 5) (tC (.int 0))) tNil))) (gName 7))
    (tSeq (tIfS (tTest (tOp rEq (tVar 7) (tUn rNegI (tC (.int 1)))))
      (tRet (tTup (StX.tStar K (tVar 3) (tCons (tVar 5) tNil))))
      tNext)
    (tRet (tTup (StX.tStar K (tSl (rSlA K) (tVar 3) oNone (oSome (tVar 7))) (tCons (tVar 5) (StX.tStar K (tSl (rSlA K) (tVar 3) (oSome (tOp rAddI (tVar 7) (tC (.int 1)))) oNone) tNil))))))))))

def ns_Shapes_behind : List Str := ["self", "shape", "way", "key"]
def t_Shapes_behind (K : PySem.W.Frag) (w : World) (E : XK) : TS :=
  (tSeq (tAsg (tTup (tCons (tVar 1) (tCons (tVar 2) tNil))) (gName 3))
    (tSeq (tIfS (tB (tNIn w (tVar 3) (tFld K (tVar 0) ("ways" : Str))))
      (sFldAug K (tVar 0) (tC (.int 1)) rAdd ("ways_used" : Str))
      (sNPut w (tFld K (tVar 0) ("ways" : Str)) (tVar 3) (tMeth (He.ga K ("Shapes" : Str)) ("number_of" : Str) (sp_Shapes_number_of K w) [] E (tVar 0) (tCons (tMeth (He.ga K ("Shapes" : Str)) ("changed_row" : Str) (sp_Shapes_changed_row K w) [] E (tVar 0) (tCons (tVar 1) (tCons (tVar 2) tNil))) tNil))))
    (tRet (tNGet w (tFld K (tVar 0) ("ways" : Str)) (tVar 3)))))

def ns_Shapes_put : List Str := ["self", "shape", "name", "kind", "value", "slot"]
def t_Shapes_put (K : PySem.W.Frag) (w : World) (E : XK) : TS :=
  (tSeq (tAsg (tTup (tCons (tVar 2) (tCons (tVar 3) (tCons (tCall (sp_fixed_value K) [] E (tCons (tVar 3) (tCons (tVar 4) tNil))) tNil)))) (gName 5))
    (tRet (tMeth (He.ga K ("Shapes" : Str)) ("behind" : Str) (sp_Shapes_behind K w) [] E (tVar 0) (tCons (tVar 1) (tCons (tTup (tCons (tC (.str ("put" : Str))) (tCons (tVar 5) tNil))) tNil)))))

def ns_Shapes_drop : List Str := ["self", "shape", "name"]
def t_Shapes_drop (K : PySem.W.Frag) (w : World) (E : XK) : TS :=
  (tSeq (tIfS (tTest (tOp rEq (tMeth (He.ga K ("Shapes" : Str)) ("place" : Str) (sp_Shapes_place K w) [] E (tVar 0) (tCons (tVar 1) (tCons (tVar 2) tNil))) (tUn rNegI (tC (.int 1)))))
      (tRet (tVar 1))
      tNext)
    (tRet (tMeth (He.ga K ("Shapes" : Str)) ("behind" : Str) (sp_Shapes_behind K w) [] E (tVar 0) (tCons (tVar 1) (tCons (tTup (tCons (tC (.str ("drop" : Str))) (tCons (tVar 2) tNil))) tNil)))))

section
variable {K : PySem.W.Frag} {w : World} {vs : List V} {H : Hp} {Q : VK} {E : XK}
theorem nd_at {Rs : List PyData} (nd : Rs.Nodup) {i j : Nat} {D : PyData} (h1 : Rs[i]? = some D) (h2 : Rs[j]? = some D) : i = j := by
  obtain ⟨a, b⟩ := List.getElem?_eq_some_iff.mp h1
  exact (List.getElem?_inj a nd).mp (h1.trans h2.symm)
theorem fix_fix (k : Str) (d : PyData) : fixV k (fixV k d) = fixV k d := by
  unfold fixV
  split
  · rfl
  · rfl
theorem rw_rw (s : Sl) : rwS (rwS s) = rwS s := by
  unfold rwS
  simp only [fix_fix]
theorem rw_red (ts : List Sl) : Red (ts.map rwS) := fun s hs => by
  obtain ⟨t, _, rfl⟩ := List.mem_map.mp hs
  exact rw_rw t
theorem red_row {ts : List Sl} (h : Red ts) : rowD ts = slsT ts := by
  unfold rowD
  congr 1
  conv => rhs; rw [← List.map_id ts]
  exact List.map_congr_left fun s hs => h s hs
theorem red_ch {W : Way} {ts : List Sl} (h : Red ts) (g : WG W) : Red (chF W ts) := by
  cases W with
  | drop x => exact fun s hs => h s (List.mem_filter.mp hs).1
  | put n =>
    intro s hs
    rcases putS_mem hs with hs | rfl
    · exact h s hs
    · exact g.2
theorem sg_ch {W : Way} {ts : List Sl} (h : ∀ s ∈ ts, SG s) (g : WG W) : ∀ s ∈ chF W ts, SG s := by
  cases W with
  | drop x => exact fun s hs => h s (List.mem_filter.mp hs).1
  | put n =>
    intro s hs
    rcases putS_mem hs with hs | rfl
    · exact h s hs
    · exact g.1
theorem slT_inj {s t : Sl} (h : slT s = slT t) : s = t := by
  unfold slT at h
  injection h with h
  injection h with h1 h
  injection h with h2 h
  injection h with h3 h
  injection h1 with h1
  injection h2 with h2
  cases s
  cases t
  simp_all
theorem sls_inj : ∀ {a b : List Sl}, slsT a = slsT b → a = b := by
  intro a b h
  unfold slsT at h
  injection h with h
  induction a generalizing b with
  | nil =>
    cases b with
    | nil => rfl
    | cons t b => simp at h
  | cons s a ih =>
    cases b with
    | nil => simp at h
    | cons t b =>
      simp only [List.map_cons, List.cons.injEq] at h
      rw [slT_inj h.1, ih h.2]
theorem dn_pt : ("drop" : Str) ≠ ("put" : Str) := by decide +kernel
theorem way_inj {A B : Way} (h : wayD A = wayD B) : A = B := by
  cases A with
  | drop x =>
    cases B with
    | drop y =>
      unfold wayD at h
      injection h with h
      injection h with _ h
      injection h with h _
      injection h with h
      rw [h]
    | put s =>
      unfold wayD at h
      injection h with h
      injection h with h _
      injection h with h
      exact absurd h dn_pt
  | put s =>
    cases B with
    | drop y =>
      unfold wayD at h
      injection h with h
      injection h with h _
      injection h with h
      exact absurd h.symm dn_pt
    | put t =>
      unfold wayD at h
      injection h with h
      injection h with _ h
      injection h with h _
      rw [slT_inj h]
theorem key_inj {i j : Nat} {A B : Way} (h : keyD i A = keyD j B) : i = j ∧ A = B := by
  unfold keyD at h
  injection h with h
  injection h with h1 h
  injection h with h2 _
  injection h1 with h1
  exact ⟨by omega, way_inj h2⟩
theorem way_pl {W : Way} (g : WG W) : plD (wayD W) = true := by
  cases W with
  | drop x => rfl
  | put s => simp [wayD, plD, plAll, slT_pl g.1]
theorem key_pl {j : Nat} {W : Way} (g : WG W) : plD (keyD j W) = true := by simp [keyD, plD, plAll, way_pl g]
theorem key_dp {j : Nat} {W : Way} (g : WG W) : (nk (keyD j W)).depth ≤ 8 := by
  cases W with
  | drop x => simp [keyD, wayD, nk, nkAll, NestedKey.depth, NestedKey.depthAll]
  | put s =>
    have := slT_nd g.1
    simp [keyD, wayD, nk, nkAll, NestedKey.depth, NestedKey.depthAll]
    omega
theorem Ext.at {Rs Rs' : List PyData} {D E : PyData} {i : Nat} (x : Ext Rs D Rs') (h : Rs[i]? = some E) : Rs'[i]? = some E := by
  rcases x with ⟨_, rfl⟩ | ⟨_, rfl⟩
  · exact h
  · rw [List.getElem?_append_left (List.getElem?_eq_some_iff.mp h).1]
    exact h
theorem Ext.len {Rs Rs' : List PyData} {D : PyData} (x : Ext Rs D Rs') : Rs'.length ≤ Rs.length + 1 := by
  rcases x with ⟨_, rfl⟩ | ⟨_, rfl⟩
  · omega
  · simp
theorem WV.ext {Rs Rs' : List PyData} {D : PyData} {ws : List NEnt} (h : WV Rs ws) (x : Ext Rs D Rs') : WV Rs' ws := fun e he => by
  obtain ⟨j, W, ts, i, a, b, c, d, f⟩ := h e he
  exact ⟨j, W, ts, i, a, b, x.at c, d, x.at f⟩
/-- what a remembered way says -/
theorem way_at {Rs : List PyData} {ws : List NEnt} {j : Nat} {W : Way} {ts : List Sl} {v : V} (h : WV Rs ws) (g : WG W) (hj : Rs[j]? = some (slsT ts)) (hv : valN ws (nk (keyD j W)) = some v) : ∃ i : Nat, v = .int (i : Int) ∧ Rs[i]? = some (slsT (chF W ts)) := by
  unfold valN at hv
  obtain ⟨e, he, rfl⟩ := Option.map_eq_some_iff.mp hv
  have hm := List.mem_of_find?_eq_some he
  have hk : e.1 = nk (keyD j W) := by
    have z := List.find?_some he
    simpa using z
  obtain ⟨j', W', ts', i, a, b, c, d, f⟩ := h e hm
  rw [a] at hk
  obtain ⟨e1, e2⟩ := key_inj (nk_inj _ _ (key_pl b) (key_pl g) hk)
  subst e1 e2
  rw [hj] at c
  have := sls_inj (Option.some.inj c)
  subst this
  exact ⟨i, d, f⟩
theorem way_two {b : Addr} {A B : PyData} (h : Tr H (.ref b) (.tuple [A, B])) : ∃ x y, H b = some (.tup [x, y]) ∧ Tr H x A ∧ Tr H y B := by
  cases h with
  | tup h r =>
    cases r with
    | cons a r =>
      cases r with
      | cons c r =>
        cases r
        exact ⟨_, _, h, a, c⟩
theorem str_sh {x : Str} (h : PyData.strOk x = true) : SeqAt.shaped (.str x) = true := by simp [SeqAt.shaped, PyData.canLay0, PyData.depth, h]
theorem take_filter {f : Sl → Bool} {ts : List Sl} {i : Nat} {s : Sl} (h : ts[i]? = some s) : (ts.take (i + 1)).filter f = (ts.take i).filter f ++ (if f s = true then [s] else []) := by
  rw [List.take_add_one, h, List.filter_append]
  show _ = _ ++ _
  congr 1
  cases c : f s with
  | true => simp [List.filter, c]
  | false => simp [List.filter, c]
theorem place_spec : ∀ {ts : List Sl} {x : Str} {i : Nat}, (∃ k s, ts[k]? = some s ∧ s.name = x ∧ (∀ j < k, ∀ t, ts[j]? = some t → t.name ≠ x) ∧ placeF ts x (i : Int) = ((i + k : Nat) : Int)) ∨ ((∀ s ∈ ts, s.name ≠ x) ∧ placeF ts x (i : Int) = -1)
  | [], x, i => .inr ⟨(fun s hs => by cases hs), rfl⟩
  | t :: ts, x, i => by
    by_cases c : t.name = x
    · refine .inl ⟨0, t, rfl, c, fun j hj => absurd hj (Nat.not_lt_zero _), ?_⟩
      unfold placeF
      rw [if_pos c]
      rfl
    · have e : placeF (t :: ts) x (i : Int) = placeF ts x ((i + 1 : Nat) : Int) := by
        show (if t.name = x then _ else _) = _
        rw [if_neg c]
        rfl
      rcases place_spec (ts := ts) (x := x) (i := i + 1) with ⟨k, s, h1, h2, h3, h4⟩ | ⟨h1, h2⟩
      · refine .inl ⟨k + 1, s, by simpa using h1, h2, fun j hj u hu => ?_, ?_⟩
        · cases j with
          | zero =>
            cases hu
            exact c
          | succ j => exact h3 j (by omega) u (by simpa using hu)
        · rw [e, h4]
          congr 1
          omega
      · refine .inr ⟨fun s hs => ?_, by rw [e, h2]⟩
        rcases List.mem_cons.mp hs with rfl | hs
        · exact c
        · exact h1 s hs
theorem run_Shapes_changed_row (C : ShK K) (h : sp_Shapes_changed_row K w vs H Q E) : t_Shapes_changed_row K w E (DQ Q) (start ns_Shapes_changed_row vs) H := by
  obtain ⟨p, dx, lr, nr, wr, u, as, Rs, ws, j, b, W, ts, rfl, S, hj, hl, hnm, tb, g, q⟩ := h
  obtain ⟨a, ha, ta⟩ := S.row_at hj
  obtain ⟨us, hu, tr⟩ := sls_open ta
  have lu := tr.len
  refine ⟨_, rfl, p, _, dx, _, _, rfl, S.ins, C.cl, C.nr, shF_r, _, rfl, lr, _, _, _, rfl, rfl, SqL.of S.rows, atI_nat ha, ?_⟩
  cases W with
  | drop x =>
    obtain ⟨y1, y2, hb, t1, t2⟩ := way_two tb
    cases t1
    cases t2
    refine ⟨_, rfl, b, _, rfl, SqT.of hb, rfl, _, _, rfl, _, _, rfl, rfl, ?_⟩
    refine ⟨_, rfl, rfl, _, rfl, iteT ?_⟩
    refine ⟨_, rfl, a, rfl, ⟨_, SqT.of hu⟩, fun D nD => ?_⟩
    refine lc_it (walk_tup (xs := us)) (fun i G => ∃ acc, Same H G ∧ G D = some (.lst acc) ∧ TrpR G acc ((ts.take i).filter fun s => decide (s.name ≠ x))) ⟨[], same_upd nD, upd_same, .nil⟩ (fun i G _ ⟨_, s1, _⟩ => SqT.of (s1 _ _ hu)) ?_ ?_
    · rintro i y G G' hi ⟨acc, s1, g1, r1⟩ ⟨rfl, hx⟩
      obtain ⟨s, t1, v, es, rfl, ht, tv⟩ := tr.at_ i hx
      have ht1 := s1 _ _ ht
      refine ⟨rfl, ?_⟩
      have nmS := str_sh (hnm s (List.mem_of_getElem? es))
      refine ⟨_, rfl, t1, _, _, _, rfl, rfl, SqT.of ht1, atI_nat (j := 0) rfl, _, rfl, .str s.name, .str x, .str _, .str _, nmS, str_sh g, _, rfl, ?_⟩
      have ef := take_filter (f := fun s => decide (s.name ≠ x)) es
      have ee : (!PyData.eqv (.str s.name) (.str x)) = decide (s.name ≠ x) := by
        rw [Bool.eq_iff_iff]
        simp [PyData.eqv]
      rw [ee]
      have la := r1.len
      have lf : ((ts.take i).filter fun s => decide (s.name ≠ x)).length ≤ 1000 := Nat.le_trans (List.length_filter_le _ _) (by rw [List.length_take]; omega)
      cases c : decide (s.name ≠ x) with
      | true =>
        rw [c] at ef
        refine iteT ⟨_, rfl, acc, g1, Nat.lt_of_le_of_lt (show acc.length ≤ 1000 by omega) (by decide), acc ++ [.ref t1], fun b o e => ?_, upd_same, ?_⟩
        · rw [upd_ne (ne_of_none e nD)]
          exact s1 b o e
        · rw [ef]
          have tk : TK G' (upd G' D (.lst (acc ++ [.ref t1]))) := fun b xs e => by
            rw [upd_ne (ne_of e g1 (by intro z; cases z))]
            exact e
          exact TrpR.snoc (tk _ _ ht1) ((tv.keep fun b xs e => s1 b _ e).keep tk) (r1.keep tk)
      | false =>
        rw [c] at ef
        refine iteF ⟨acc, s1, g1, ?_⟩
        rw [ef, show (if false = true then [s] else ([] : List Sl)) = [] from rfl, List.append_nil]
        exact r1
    · rintro G ⟨acc, s1, g1, r1⟩
      rw [List.take_of_length_le (by omega)] at r1
      refine ⟨D, acc, rfl, .inl ⟨SqL.of g1, fun l nl => ?_⟩⟩
      have s2 := same_upd (o := .tup acc) nl
      exact q l _ (s1.trans s2) (sls_make upd_same (r1.keep fun b xs e => s2 b _ e))
  | put n =>
    obtain ⟨y1, y2, hb, t1, t2⟩ := way_two tb
    cases t1
    cases t2 with
    | tup hc rc =>
    rename_i c xs
    cases rc with | cons c1 rc => ?_
    cases rc with | cons c2 rc => ?_
    cases rc with | cons c3 rc => ?_
    cases rc
    cases c1
    cases c2
    rename_i v
    refine ⟨_, rfl, b, _, rfl, SqT.of hb, rfl, _, _, rfl, _, _, rfl, rfl, ?_⟩
    refine ⟨_, rfl, rfl, _, rfl, ?_⟩
    rw [decide_eq_false (show ¬ V.str ("put" : Str) = V.str ("drop" : Str) from fun z => dn_pt (V.str.inj z).symm)]
    refine iteF ?_
    refine ⟨_, rfl, p, dx, _, rfl, S.ins, shF_no (by decide +kernel) (by decide +kernel) (by decide +kernel) (by decide +kernel), _, rfl, _, rfl, c, _, _, _, rfl, rfl, SqT.of hc, atI_nat (j := 0) rfl, ?_⟩
    refine ⟨p, dx, lr, nr, wr, u, as, Rs, ws, j, n.name, ts, rfl, S, hj, fun G1 s1 => ?_⟩
    have hu1 := s1 _ _ hu
    have hc1 := s1 _ _ hc
    rcases place_spec (ts := ts) (x := n.name) (i := 0) with ⟨k, s, h1, h2, h3, h4⟩ | ⟨h1, h2⟩
    · have e0 : placeF ts n.name 0 = (k : Int) := by
        have := h4
        rw [Nat.zero_add] at this
        exact this
      rw [e0]
      refine ⟨_, rfl, _, rfl, rfl, _, rfl, ?_⟩
      rw [decide_eq_false (show ¬ V.int (k : Int) = V.int (-1) from fun z => by have := V.int.inj z; omega)]
      refine iteF ?_
      have hk : k < us.length := by have := (List.getElem?_eq_some_iff.mp h1).1; omega
      refine sl_to (k := (k : Int)) hu1 rfl (fun Z z => ⟨_, rfl, z⟩) fun q1 G2 s2 g2 => ?_
      rw [cut_take] at g2
      refine ⟨q1, _, rfl, .inl (SqT.of g2), _, rfl, ?_⟩
      have ek : (k : Int) + 1 = ((k + 1 : Nat) : Int) := by omega
      refine sl_from (k := (k : Int) + 1) (s2 _ _ hu1) rfl (fun Z z => ⟨_, rfl, _, _, rfl, rfl, z⟩) fun q2 G3 s3 g3 => ?_
      rw [ek, cut_drop] at g3
      refine ⟨q2, _, rfl, .inl (SqT.of g3), ?_⟩
      refine ⟨small_s (by simp; omega), fun q3 n3 => ?_⟩
      have s4 := same_upd (o := .tup (us.take k ++ V.ref c :: (us.drop (k + 1) ++ []))) n3
      have S4 := ((s1.trans s2).trans s3).trans s4
      have r4 := tr.keep (H' := upd G3 q3 (.tup (us.take k ++ V.ref c :: (us.drop (k + 1) ++ [])))) fun b xs e => S4 b _ e
      refine q q3 _ S4 ?_
      have ec : chF (.put n) ts = ts.take k ++ [n] ++ ts.drop (k + 1) := putS_at h1 h2 h3
      rw [ec]
      refine sls_make (us := us.take k ++ V.ref c :: (us.drop (k + 1) ++ [])) upd_same ?_
      have el : us.take k ++ V.ref c :: (us.drop (k + 1) ++ []) = us.take k ++ (V.ref c :: us.drop (k + 1)) := by rw [List.append_nil]
      rw [List.append_assoc]
      refine Eq.subst (motive := fun l => TrpR (upd G3 q3 (.tup (us.take k ++ V.ref c :: (us.drop (k + 1) ++ [])))) l (ts.take k ++ ([n] ++ ts.drop (k + 1)))) el.symm ?_
      exact TrpR.app (TrpR.tak r4 k) (.cons (S4 _ _ hc) (c3.keep fun b xs e => S4 b _ e) (TrpR.drp r4 (k + 1)))
    · have e0 : placeF ts n.name 0 = -1 := h2
      rw [e0]
      refine ⟨_, rfl, _, rfl, rfl, _, rfl, iteT ?_⟩
      refine ⟨_, rfl, a, _, rfl, .inl (SqT.of hu1), _, rfl, small_s (by simp; omega), fun q3 n3 => ?_⟩
      have s4 := same_upd (o := .tup (us ++ [V.ref c])) n3
      have S4 := s1.trans s4
      have r4 := tr.keep (H' := upd G1 q3 (.tup (us ++ [V.ref c]))) fun b xs e => S4 b _ e
      refine q q3 _ S4 ?_
      have ec : chF (.put n) ts = ts ++ [n] := putS_end h1
      rw [ec]
      exact sls_make upd_same (TrpR.snoc (S4 _ _ hc) (c3.keep fun b xs e => S4 b _ e) r4)
section
variable {p dx lr nr wr : Addr} {u : Int} {as : List Addr} {Rs : List PyData} {ws : List NEnt} {H' : Hp}
theorem KP.of_same {H H' : Hp} (s : Same H H') : KP p lr nr wr H H' := fun b o _ _ _ _ z => s b o z
theorem KP.of_ks {H H' : Hp} (k : KS lr nr H H') : KP p lr nr wr H H' := fun b o _ h2 h3 _ z => k b o h2 h3 z
theorem KP.trans {H H1 H2 : Hp} (a : KP p lr nr wr H H1) (b : KP p lr nr wr H1 H2) : KP p lr nr wr H H2 := fun c o h1 h2 h3 h4 z => b c o h1 h2 h3 h4 (a c o h1 h2 h3 h4 z)
theorem Sh.kp (h : Sh K w H p dx lr nr wr u as Rs ws) (k : KP p lr nr wr H H') : TK H H' := fun a xs e =>
  k a _ (ne_of e h.ins (by intro z; cases z)) (ne_of e h.rows (by intro z; cases z)) (dn_ne h.num e (by intro φ z; cases z)) (dn_ne h.way e (by intro φ z; cases z)) e
end
theorem run_Shapes_behind (C : ShK K) (h : sp_Shapes_behind K w vs H Q E) : t_Shapes_behind K w E (DQ Q) (start ns_Shapes_behind vs) H := by
  obtain ⟨p, dx, lr, nr, wr, u, as, Rs, ws, j, b, W, ts, rfl, S, V0, hj, sg, rd, l2, tb, g, lR, lW, q1, q2⟩ := h
  refine ⟨_, rfl, _, rfl, (by show 2 ≤ sizeLine; decide), fun kq nk' => ?_⟩
  have s1 := same_upd (o := .tup [V.int (j : Int), V.ref b]) nk'
  have S1 := S.same s1
  have tk1 : Tr (upd H kq (.tup [V.int (j : Int), V.ref b])) (.ref kq) (keyD j W) := .tup upd_same (.cons (.int _) (.cons (tb.keep fun b xs e => s1 b _ e) .nil))
  have dp := key_dp (j := j) g
  refine ⟨_, rfl, _, rfl, p, _, dx, _, _, rfl, S1.ins, C.cl, C.nw, shF_w, wr, _, rfl, ⟨_, keyD j W, kq, S1.way, S1.wk, rfl, tk1, dp, rfl⟩, _, rfl, ?_⟩
  generalize (upd H kq (.tup [V.int (j : Int), V.ref b])) = H1 at s1 S1 tk1
  cases hv : valN ws (nk (keyD j W)) with
  | some v =>
    obtain ⟨i, rfl, hi⟩ := way_at V0 g hj hv
    refine iteT ?_
    refine ⟨_, rfl, p, _, dx, _, _, rfl, S1.ins, C.cl, C.nu, shF_u, _, _, rfl, rfl, dx, _, S1.ins, (by show 4 < 1000; decide), ?_⟩
    rw [shF_put]
    have st : ∀ c, c ≠ p → (upd H1 p (.ins (ShC K) dx (shF lr nr wr (u + 1)))) c = H1 c := fun c n => upd_ne n
    have tk2 : TK H1 (upd H1 p (.ins (ShC K) dx (shF lr nr wr (u + 1)))) := fun c xs e => (st c (ne_of e S1.ins (by intro z; cases z))).trans e
    have S2 : Sh K w (upd H1 p (.ins (ShC K) dx (shF lr nr wr (u + 1)))) p dx lr nr wr (u + 1) as Rs ws :=
      ⟨upd_same, (st _ (ne_of S1.rows S1.ins (by intro z; cases z))).trans S1.rows, S1.dat.keep tk2, (st _ (Ne.symm (dn_ne S1.num S1.ins (by intro φ z; cases z)))).trans S1.num, (st _ (Ne.symm (dn_ne S1.way S1.ins (by intro φ z; cases z)))).trans S1.way, S1.wk.keep tk2, S1.ne, S1.rk, S1.nd⟩
    refine ⟨_, rfl, p, _, dx, _, _, rfl, S2.ins, C.cl, C.nw, shF_w, _, rfl, wr, _, rfl, ⟨_, keyD j W, kq, S2.way, S2.wk, rfl, tk1.keep tk2, dp, hv.symm⟩, ?_⟩
    exact q1 i _ (by rw [hv]; intro z; cases z) (fun c o n1 n2 n3 n4 z => (st c n1).trans (s1 c o z)) S2 hi
  | none =>
    refine iteF ?_
    refine ⟨_, rfl, p, dx, _, rfl, S1.ins, shF_no (by decide +kernel) (by decide +kernel) (by decide +kernel) (by decide +kernel), ?_⟩
    refine ⟨_, rfl, p, dx, _, rfl, S1.ins, shF_no (by decide +kernel) (by decide +kernel) (by decide +kernel) (by decide +kernel), _, rfl, _, rfl, ?_⟩
    refine ⟨p, dx, lr, nr, wr, u, as, Rs, ws, j, b, W, ts, rfl, S1, hj, sg.len, (fun s hs => (sg.all s hs).nm), tb.keep (fun b xs e => s1 b _ e), g, fun qr H2 s2 tq => ?_⟩
    have rd2 := red_ch rd g
    have sg2 : SlG (chF W ts) := ⟨sg_ch sg.all g, l2⟩
    have er := red_row rd2
    rw [← er] at tq
    refine ⟨p, dx, lr, nr, wr, u, as, Rs, ws, qr, chF W ts, rfl, S1.same s2, tq, sg2, lR, fun as' Rs' i H3 e3 S3 x3 hi => ?_⟩
    rw [er] at x3 hi
    have ks3 : KS lr nr H H3 := ((KS.of_same s1).trans (KS.of_same s2)).trans (KS.of_eq e3)
    have tk3 : TK H1 H3 := (show TK H1 H2 from fun b xs e => s2 b _ e).trans ((S1.same s2).tk e3)
    have tkq := tk1.keep tk3
    refine ⟨_, rfl, p, _, dx, _, _, rfl, S3.ins, C.cl, C.nw, shF_w, _, rfl, wr, _, rfl, ⟨_, keyD j W, kq, S3.way, S3.wk, rfl, tkq, dp, hv, Nat.lt_of_le_of_lt lW (by decide), rfl⟩, ?_⟩
    have st : ∀ c, c ≠ wr → (upd H3 wr (dnO w wr (ws ++ [(nk (keyD j W), kq, V.int (i : Int))]))) c = H3 c := fun c n => upd_ne n
    have tk4 : TK H3 (upd H3 wr (dnO w wr (ws ++ [(nk (keyD j W), kq, V.int (i : Int))]))) := fun c xs e => (st c (dn_ne S3.way e (by intro φ z; cases z))).trans e
    have S4 : Sh K w (upd H3 wr (dnO w wr (ws ++ [(nk (keyD j W), kq, V.int (i : Int))]))) p dx lr nr wr u as' Rs' (ws ++ [(nk (keyD j W), kq, V.int (i : Int))]) :=
      ⟨(st _ (dn_ne S3.way S3.ins (by intro φ z; cases z))).trans S3.ins, (st _ (dn_ne S3.way S3.rows (by intro φ z; cases z))).trans S3.rows, S3.dat.keep tk4, (st _ S3.ne).trans S3.num, upd_same, (S3.wk.keep tk4).snoc (tkq.keep tk4) dp, S3.ne, S3.rk, S3.nd⟩
    have hv2 : valN (ws ++ [(nk (keyD j W), kq, V.int (i : Int))]) (nk (keyD j W)) = some (.int (i : Int)) := by
      rw [valN_snoc, hv, if_pos rfl]
      rfl
    refine ⟨_, rfl, p, _, dx, _, _, rfl, S4.ins, C.cl, C.nw, shF_w, _, rfl, wr, _, rfl, ⟨_, keyD j W, kq, S4.way, S4.wk, rfl, tkq.keep tk4, dp, hv2.symm⟩, ?_⟩
    refine q2 i as' Rs' kq _ hv (fun c o n1 n2 n3 n4 z => (st c n4).trans (ks3 c o n2 n3 z)) S4 (fun e he => ?_) x3 hi
    rcases List.mem_append.mp he with he | he
    · exact (V0.ext x3) e he
    · rw [List.mem_singleton.mp he]
      exact ⟨j, W, ts, i, rfl, g, x3.at hj, rfl, hi⟩
theorem Went.same {p dx lr nr wr : Addr} {u : Int} {as : List Addr} {Rs : List PyData} {ws : List NEnt} {j : Nat} {W : Way} {ts : List Sl} {H1 : Hp} (s : Same H H1) (h : Went K w H Q p dx lr nr wr u as Rs ws j W ts) : Went K w H1 Q p dx lr nr wr u as Rs ws j W ts :=
  ⟨fun i H' a b c d => h.1 i H' a ((KP.of_same s).trans b) c d, fun i as' Rs' a H' b c d e f g => h.2 i as' Rs' a H' b ((KP.of_same s).trans c) d e f g⟩
theorem rw_wg {s : Sl} (h : SG s) : WG (.put (rwS s)) := ⟨rw_sg h, rw_rw s⟩
theorem run_Shapes_put (C : ShK K) (h : sp_Shapes_put K w vs H Q E) : t_Shapes_put K w E (DQ Q) (start ns_Shapes_put vs) H := by
  obtain ⟨p, dx, lr, nr, wr, u, as, Rs, ws, j, s, v, ts, rfl, tv, gs, S, V0, hj, sg, rd, lt, lR, lW, q⟩ := h
  refine ⟨_, rfl, _, rfl, _, rfl, _, rfl, s.kind, v, rfl, ?_⟩
  have tf : Tr H (if isFix s.kind = true then v else .non) (fixV s.kind s.val) := by
    unfold fixV
    by_cases c : isFix s.kind = true
    · rw [if_pos c, if_pos c]
      exact tv
    · rw [if_neg c, if_neg c]
      exact .non
  revert tf
  generalize (if isFix s.kind = true then v else V.non) = fv
  intro tf
  refine ⟨(by show 3 ≤ sizeLine; decide), fun p1 n1 => ?_⟩
  have s1 := same_upd (o := .tup [V.str s.name, V.str s.kind, fv]) n1
  refine ⟨_, rfl, p, dx, _, rfl, (S.same s1).ins, shF_no (by decide +kernel) (by decide +kernel) (by decide +kernel) (by decide +kernel), _, rfl, _, rfl, (by show 2 ≤ sizeLine; decide), fun p2 n2 => ?_⟩
  have s2 := same_upd (o := .tup [V.str ("put" : Str), V.ref p1]) n2
  refine ⟨p, dx, lr, nr, wr, u, as, Rs, ws, j, p2, .put (rwS s), ts, rfl, (S.same s1).same s2, V0, hj, sg, rd, Nat.le_trans (putS_len ts _) lt, ?_, rw_wg gs, lR, lW, q.same (s1.trans s2)⟩
  exact .tup upd_same (.cons (.str _) (.cons (.tup (s2 _ _ upd_same) (.cons (.str _) (.cons (.str _) (.cons (tf.keep fun b xs e => s2 b _ (s1 b _ e)) .nil)))) .nil))
theorem run_Shapes_drop (C : ShK K) (h : sp_Shapes_drop K w vs H Q E) : t_Shapes_drop K w E (DQ Q) (start ns_Shapes_drop vs) H := by
  obtain ⟨p, dx, lr, nr, wr, u, as, Rs, ws, j, x, ts, rfl, hx, S, V0, hj, sg, rd, lR, lW, q1, q2⟩ := h
  refine ⟨_, rfl, p, dx, _, rfl, S.ins, shF_no (by decide +kernel) (by decide +kernel) (by decide +kernel) (by decide +kernel), _, rfl, _, rfl, ?_⟩
  refine ⟨p, dx, lr, nr, wr, u, as, Rs, ws, j, x, ts, rfl, S, hj, fun H1 s1 => ?_⟩
  rcases place_spec (ts := ts) (x := x) (i := 0) with ⟨k, s, h1, h2, h3, h4⟩ | ⟨h1, h2⟩
  · have e0 : placeF ts x 0 = (k : Int) := by
      have := h4
      rw [Nat.zero_add] at this
      exact this
    rw [e0]
    refine ⟨_, rfl, rfl, _, rfl, ?_⟩
    rw [decide_eq_false (show ¬ V.int (k : Int) = V.int (-1) from fun z => by have := V.int.inj z; omega)]
    refine iteF ?_
    refine ⟨_, rfl, p, dx, _, rfl, (S.same s1).ins, shF_no (by decide +kernel) (by decide +kernel) (by decide +kernel) (by decide +kernel), _, rfl, _, rfl, (by show 2 ≤ sizeLine; decide), fun p2 n2 => ?_⟩
    have s2 := same_upd (o := .tup [V.str ("drop" : Str), V.str x]) n2
    exact ⟨p, dx, lr, nr, wr, u, as, Rs, ws, j, p2, .drop x, ts, rfl, (S.same s1).same s2, V0, hj, sg, rd, Nat.le_trans (List.length_filter_le _ _) sg.len, .tup upd_same (.cons (.str _) (.cons (.str _) .nil)), hx, lR, lW, (q2 ⟨s, List.mem_of_getElem? h1, h2⟩).same (s1.trans s2)⟩
  · have e0 : placeF ts x 0 = -1 := h2
    rw [e0]
    exact ⟨_, rfl, rfl, _, rfl, iteT ⟨_, rfl, q1 h1 _ s1⟩⟩
end
end Rm.U

/-! U41: ways from shape to shape: the law's own defs: promises, readings (by gen.py), runs. -/
namespace Rm.U
open PySem PySem.Spec PyProof.Rows L2
open Rm.Q (plD plAll eqv_eq eqvAll_eq tr_pl trs_pl)
def sp_l_drop (K : PySem.W.Frag) : Sp := fun vs H Q _ => ∃ (a : Addr) (x : Str) (ts : List Sl), vs = [.ref a, .str x] ∧ Tr H (.ref a) (slsT ts) ∧ ts.length ≤ 1000 ∧ ∀ q H', Same H H' → Tr H' (.ref q) (slsT (dropS ts x)) → Q (.ref q) H'
def sp_l_number (K : PySem.W.Frag) : Sp := fun vs H Q _ => ∃ (lw q : Addr) (rws : List V) (Rl : List PyData) (D : PyData), vs = [.ref lw, .ref q] ∧ H lw = some (.lst rws) ∧ Trs H rws Rl ∧ Rl.Nodup ∧ Rl.length ≤ 100000 ∧ (∀ e ∈ Rl, plD e = true) ∧ SeqAt.shaped (.list Rl) = true ∧ Tr H (.ref q) D ∧ plD D = true ∧ SeqAt.shaped D = true ∧ D.depth ≤ 10 ∧
  ∀ (rws' : List V) (Rl' : List PyData) (j : Nat) H', (∀ b, b ≠ lw → H' b = H b) → H' lw = some (.lst rws') → Trs H' rws' Rl' → Ext Rl D Rl' → Rl'[j]? = some D → Q (.int (j : Int)) H'
namespace K41
def sp_law (K : PySem.W.Frag) : Sp := fun vs H Q _ => ∃ (a : Addr) (ns : List Int), vs = [.ref a] ∧ SqL K H a (ns.map V.int) ∧ ns.length ≤ 63 ∧ ∀ H', Q (.bl true) H'
end K41
/-! ### readings -/

def ns_l_drop : List Str := ["slots", "name", "slot"]
def t_l_drop (K : PySem.W.Frag) (E : XK) : TS :=
  (tRet (tCB (rTupleOf K) (tCons (tLc (iTup K (tVar 0)) (gName 2) (tTest (tOp rNe (tOp (rIxT K) (tVar 2) (tC (.int 0))) (tVar 1))) (tVar 2) [2]) tNil)))

def ns_l_number : List Str := ["rows", "row"]
def t_l_number (K : PySem.W.Frag) (E : XK) : TS :=
  (tSeq (tIfS (tTest (tOp (rNotInD K) (tVar 1) (tVar 0)))
      (tDrop (tBM K "list" rAppend (tVar 0) (tCons (tVar 1) tNil)))
      tNext)
    (tRet (tBM K "list" (rIndexD K) (tVar 0) (tCons (tVar 1) tNil))))

namespace K41
def ns_law : List Str := ["script", "d", "shapes", "other", "rows", "ways", "used", "k", "shape", "name", "way", "due", "told", "counts", "kind", "value", "entry"]
def t_law (K : PySem.W.Frag) (w : World) (E : XK) : TS :=
  (tSeq (tAsg (tCall (sp_l_start K) [] E (tCons (tVar 0) tNil)) (gName 1))
    (tSeq (tAsg (tMake (He.ga K ("Shapes" : Str)) (sp_Shapes_init K w) [] E tNil) (gName 2))
    (tSeq (tAsg (tMake (He.ga K ("Shapes" : Str)) (sp_Shapes_init K w) [] E tNil) (gName 3))
    (tSeq (tAsg (tLst (tCons (tTup tNil) tNil)) (gName 4))
    (tSeq (tAsg (tLst tNil) (gName 5))
    (tSeq (tAsg (tC (.int 0)) (gName 6))
    (tSeq (tFor (iRng1 (tCons (tOp rAddI (tC (.int 1)) (tOp rModI (tCall (sp_l_take K) [] E (tCons (tVar 1) tNil)) (tC (.int 90)))) tNil)) (gName 7)
      (tSeq (tAsg (tOp rModI (tCall (sp_l_take K) [] E (tCons (tVar 1) tNil)) (tCB (rLen K) (tCons (tVar 4) tNil))) (gName 8))
    (tSeq (tIfS (tTest (tOp rEq (tOp rModI (tVar 7) (tC (.int 3))) (tC (.int 0))))
      (tAsg (tOp rSubI (tCB (rLen K) (tCons (tVar 4) tNil)) (tC (.int 1))) (gName 8))
      tNext)
    (tSeq (tAsg (tCall (sp_l_name K) [] E (tCons (tVar 1) tNil)) (gName 9))
    (tSeq (tIfS (tTest (tOp rEq (tOp rModI (tCall (sp_l_take K) [] E (tCons (tVar 1) tNil)) (tC (.int 4))) (tC (.int 0))))
      (tSeq (tAsg (tTup (tCons (tVar 8) (tCons (tVar 9) tNil))) (gName 10))
    (tSeq (tAsg (tCall (sp_l_drop K) [] E (tCons (tOp (rIxL K) (tVar 4) (tVar 8)) (tCons (tVar 9) tNil))) (gName 11))
    (tSeq (tAsg (tMeth (He.ga K ("Shapes" : Str)) ("drop" : Str) (sp_Shapes_drop K w) [] E (tVar 2) (tCons (tVar 8) (tCons (tVar 9) tNil))) (gName 12))
    (tAsg (tOp (rNeD K) (tVar 11) (tOp (rIxL K) (tVar 4) (tVar 8))) (gName 13)))))
      (tSeq (tAsg (tCall (sp_l_kind K) [] E (tCons (tVar 1) tNil)) (gName 14))
    (tSeq (tAsg (tOp (rIxL K) (tLst (tCons (tTup (tCons (tC (.str ("num" : Str))) (tCons (tC (.int 1)) tNil))) (tCons (tTup (tCons (tC (.str ("nothing" : Str))) tNil)) (tCons (tTup (tCons (tC (.str ("ref" : Str))) (tCons (tC (.int 2)) tNil))) (tCons (tTup (tCons (tC (.str ("method" : Str))) (tCons (tC (.int 1)) tNil))) tNil))))) (tOp rModI (tCall (sp_l_take K) [] E (tCons (tVar 1) tNil)) (tC (.int 4)))) (gName 15))
    (tSeq (tAsg (tOp (rIxT K) (tCall (sp_l_row K) [] E (tCons (tTup (tCons (tTup (tCons (tVar 9) (tCons (tVar 14) (tCons (tVar 15) tNil)))) tNil)) tNil)) (tC (.int 0))) (gName 16))
    (tSeq (tAsg (tTup (tCons (tVar 8) (tCons (tVar 16) tNil))) (gName 10))
    (tSeq (tAsg (tCall (sp_l_put K) [] E (tCons (tOp (rIxL K) (tVar 4) (tVar 8)) (tCons (tOp (rIxT K) (tVar 16) (tC (.int 0))) (tCons (tOp (rIxT K) (tVar 16) (tC (.int 1))) (tCons (tOp (rIxT K) (tVar 16) (tC (.int 2))) tNil))))) (gName 11))
    (tSeq (tAsg (tMeth (He.ga K ("Shapes" : Str)) ("put" : Str) (sp_Shapes_put K w) [] E (tVar 2) (tCons (tVar 8) (tCons (tVar 9) (tCons (tVar 14) (tCons (tVar 15) tNil))))) (gName 12))
    (tAsg (tC (.bl true)) (gName 13)))))))))
    (tSeq (tIfS (tTest (tOp (rInD K) (tVar 10) (tVar 5)))
      (tAsg (tOp rAddI (tVar 6) (tC (.int 1))) (gName 6))
      (tIfS (tB (tVar 13))
      (tDrop (tBM K "list" rAppend (tVar 5) (tCons (tVar 10) tNil)))
      tNext))
    (tSeq (tIfS (tOr (tNot (tB (tCall (sp_l_is K) [] E (tCons (tVar 12) (tCons (tCall (sp_l_number K) [] E (tCons (tVar 4) (tCons (tVar 11) tNil))) tNil))))) (tTest (tOp (rNeD K) (tMeth (He.ga K ("Shapes" : Str)) ("row" : Str) (sp_Shapes_row K w) [] E (tVar 2) (tCons (tVar 12) tNil)) (tVar 11))))
      (tRet (tC (.bl false)))
      tNext)
    (tIfS (tOr (tNot (tB (tCall (sp_l_is K) [] E (tCons (tFld K (tVar 2) ("ways_used" : Str)) (tCons (tVar 6) tNil))))) (tNot (tB (tCall (sp_l_is K) [] E (tCons (tMeth (He.ga K ("Shapes" : Str)) ("count" : Str) (sp_Shapes_count K w) [] E (tVar 2) tNil) (tCons (tCB (rLen K) (tCons (tVar 4) tNil)) tNil))))))
      (tRet (tC (.bl false)))
      tNext))))))))
    (tRet (tAndV (tOp rEq (tMeth (He.ga K ("Shapes" : Str)) ("count" : Str) (sp_Shapes_count K w) [] E (tVar 3) tNil) (tC (.int 1))) (tAndV (tOp rEq (tFld K (tVar 3) ("ways_used" : Str)) (tC (.int 0))) (tOp rEq (tMeth (He.ga K ("Shapes" : Str)) ("shape_of" : Str) (sp_Shapes_shape_of K w) [] E (tVar 3) (tCons (tTup (tCons (tTup (tCons (tC (.str ("x" : Str))) (tCons (tC (.str ("var" : Str))) (tCons (tTup (tCons (tC (.str ("num" : Str))) (tCons (tC (.int 1)) tNil))) tNil)))) tNil)) tNil)) (tC (.int 1)))))))))))))
end K41
section
variable {K : PySem.W.Frag} {w : World} {vs : List V} {H : Hp} {Q : VK} {E : XK}
theorem any_mem {Rs : List PyData} {D : PyData} (hp : plD D = true) (hl : SeqAt.shaped D = true) (h : ∀ e ∈ Rs, plD e = true) : (Rs.any fun z => PyData.eqv z D) = true ↔ D ∈ Rs := by
  rw [List.any_eq_true]
  constructor
  · rintro ⟨e, he, q⟩
    rw [← eqv_eq e D (h e he) hp q]
    exact he
  · intro hD
    exact ⟨D, hD, SeqAt.eqv_refl _ (SeqAt.canLay_of_shaped hl)⟩
theorem any_no {Rs : List PyData} {D : PyData} (hp : plD D = true) (hl : SeqAt.shaped D = true) (h : ∀ e ∈ Rs, plD e = true) (n : D ∉ Rs) : (Rs.any fun z => PyData.eqv z D) = false := by
  cases z : (Rs.any fun z => PyData.eqv z D) with
  | false => rfl
  | true => exact absurd ((any_mem hp hl h).mp z) n
/-- rows.index(row) -/
theorem index_ok {lw q : Addr} {rws : List V} {Rl : List PyData} {D : PyData} {j i1 i2 : Nat} {σ : L2.St} {G : Hp} {Y : VK} (hw : G lw = some (.lst rws)) (tw : Trs G rws Rl) (nd : Rl.Nodup) (pl : ∀ e ∈ Rl, plD e = true) (sh : SeqAt.shaped (.list Rl) = true) (tq : Tr G (.ref q) D) (sD : SeqAt.shaped D = true) (hj : Rl[j]? = some D)
    (h1 : σ[i1]? = some (some (.ref lw))) (h2 : σ[i2]? = some (some (.ref q))) (y : Y (.int (j : Int)) G) : (tBM K "list" (rIndexD K) (tVar i1) (tCons (tVar i2) tNil)) σ G Y := by
  refine ⟨_, h1, .inl ⟨rfl, _, SqL.of hw⟩, _, h2, lw, .ref q, D, Rl, j, D, rfl, rfl, .lst (SqL.of hw) tw.dp, tq.dp, sh, sD, hj, SeqAt.eqv_refl _ (SeqAt.canLay_of_shaped sD), fun m z hm hz => ?_, y⟩
  cases c : PyData.eqv z D with
  | false => rfl
  | true =>
    have e := eqv_eq z D (pl z (List.mem_of_getElem? hz)) (pl D (List.mem_of_getElem? hj)) c
    subst e
    have := nd_at nd hz hj
    omega
theorem list_sh {Rl : List PyData} {D : PyData} (h : SeqAt.shaped (.list Rl) = true) (d : SeqAt.shaped D = true) (dd : D.depth ≤ 63) : SeqAt.shaped (.list (Rl ++ [D])) = true := by
  have : ∀ L : List PyData, PyData.canLayAll0 (L ++ [D]) = (PyData.canLayAll0 L && PyData.canLay0 D) ∧ PyData.depthAll (L ++ [D]) = max (PyData.depthAll L) D.depth := by
    intro L
    induction L with
    | nil => simp [PyData.canLayAll0, PyData.depthAll]
    | cons e L ih => simp [PyData.canLayAll0, PyData.depthAll, ih.1, ih.2, Bool.and_assoc, Nat.max_assoc]
  obtain ⟨a, b⟩ := this Rl
  have c1 := SeqAt.canLay_of_shaped h
  have c2 := SeqAt.canLay_of_shaped d
  have c3 := SeqAt.depth_of_shaped h
  simp only [PyData.canLay0] at c1
  simp only [PyData.depth] at c3
  simp [SeqAt.shaped, PyData.canLay0, PyData.depth, a, b, c1, c2]
  omega
theorem run_l_number (h : sp_l_number K vs H Q E) : t_l_number K E (DQ Q) (start ns_l_number vs) H := by
  obtain ⟨lw, q, rws, Rl, D, rfl, hw, tw, nd, lR, pl, sh, tq, pD, sD, dD, fin⟩ := h
  refine ⟨_, rfl, _, rfl, D, Rl, tq.dp, .lst (SqL.of hw) tw.dp, sD, sh, _, rfl, ?_⟩
  by_cases c : D ∈ Rl
  · rw [(any_mem pD sD pl).mpr c]
    refine iteF ?_
    obtain ⟨j, hj⟩ := List.mem_iff_getElem?.mp c
    exact index_ok hw tw nd pl sh tq sD hj rfl rfl (fin rws Rl j H (fun _ _ => rfl) hw tw (.inl ⟨c, rfl⟩) hj)
  · rw [any_no pD sD pl c]
    refine iteT ?_
    refine ⟨_, rfl, .inl ⟨rfl, _, SqL.of hw⟩, _, rfl, lw, _, _, rfl, rfl, hw, Nat.lt_of_le_of_lt (show rws.length ≤ 100000 by rw [Trs.len tw]; exact lR) (by decide), ?_⟩
    have tk : TK H (upd H lw (.lst (rws ++ [.ref q]))) := fun b xs e => by
      rw [upd_ne (ne_of e hw (by intro z; cases z))]
      exact e
    have nd2 : (Rl ++ [D]).Nodup := by
      rw [List.nodup_append]
      exact ⟨nd, by simp, fun x hx y hy z => c (by rw [List.mem_singleton.mp hy] at z; rw [← z]; exact hx)⟩
    have hj : (Rl ++ [D])[Rl.length]? = some D := by simp
    have pl2 : ∀ e ∈ Rl ++ [D], plD e = true := fun e he => by
      rcases List.mem_append.mp he with he | he
      · exact pl e he
      · rw [List.mem_singleton.mp he]
        exact pD
    have tw2 := Trs.snoc (tq.keep tk) (tw.keep tk)
    refine index_ok upd_same tw2 nd2 pl2 (list_sh sh sD (by omega)) (tq.keep tk) sD hj rfl rfl ?_
    exact fin _ _ _ _ (fun b n => upd_ne n) upd_same tw2 (.inr ⟨c, rfl⟩) hj
theorem run_l_drop (h : sp_l_drop K vs H Q E) : t_l_drop K E (DQ Q) (start ns_l_drop vs) H := by
  obtain ⟨a, x, ts, rfl, ta, hl, q⟩ := h
  obtain ⟨us, hu, tr⟩ := sls_open ta
  have lu := tr.len
  refine ⟨_, rfl, a, rfl, ⟨_, SqT.of hu⟩, fun D nD => ?_⟩
  refine lc_it (walk_tup (xs := us)) (fun i G => ∃ acc, Same H G ∧ G D = some (.lst acc) ∧ TrpR G acc ((ts.take i).filter fun s => decide (s.name ≠ x))) ⟨[], same_upd nD, upd_same, .nil⟩ (fun i G _ ⟨_, s1, _⟩ => SqT.of (s1 _ _ hu)) ?_ ?_
  · rintro i y G G' hi ⟨acc, s1, g1, r1⟩ ⟨rfl, hx⟩
    obtain ⟨s, t1, v, es, rfl, ht, tv⟩ := tr.at_ i hx
    have ht1 := s1 _ _ ht
    refine ⟨rfl, ?_⟩
    refine ⟨_, rfl, t1, _, _, _, rfl, rfl, SqT.of ht1, atI_nat (j := 0) rfl, _, rfl, rfl, _, rfl, ?_⟩
    have ef := take_filter (f := fun s => decide (s.name ≠ x)) es
    have ee : (!decide (V.str s.name = V.str x)) = decide (s.name ≠ x) := by
      rw [Bool.eq_iff_iff]
      simp
    rw [ee]
    have la := r1.len
    have lf : ((ts.take i).filter fun s => decide (s.name ≠ x)).length ≤ 1000 := Nat.le_trans (List.length_filter_le _ _) (by rw [List.length_take]; omega)
    cases c : decide (s.name ≠ x) with
    | true =>
      rw [c] at ef
      refine iteT ⟨_, rfl, acc, g1, Nat.lt_of_le_of_lt (show acc.length ≤ 1000 by omega) (by decide), acc ++ [.ref t1], fun b o e => ?_, upd_same, ?_⟩
      · rw [upd_ne (ne_of_none e nD)]
        exact s1 b o e
      · rw [ef]
        have tk : TK G' (upd G' D (.lst (acc ++ [.ref t1]))) := fun b xs e => by
          rw [upd_ne (ne_of e g1 (by intro z; cases z))]
          exact e
        exact TrpR.snoc (tk _ _ ht1) ((tv.keep fun b xs e => s1 b _ e).keep tk) (r1.keep tk)
    | false =>
      rw [c] at ef
      refine iteF ⟨acc, s1, g1, ?_⟩
      rw [ef, show (if false = true then [s] else ([] : List Sl)) = [] from rfl, List.append_nil]
      exact r1
  · rintro G ⟨acc, s1, g1, r1⟩
    rw [List.take_of_length_le (by omega)] at r1
    refine ⟨D, acc, rfl, .inl ⟨SqL.of g1, fun l nl => ?_⟩⟩
    have s2 := same_upd (o := .tup acc) nl
    exact q l _ (s1.trans s2) (sls_make upd_same (r1.keep fun b xs e => s2 b _ e))
/-! ### the law's ways -/
def lkD (x : Nat × Way) : PyData := match x.2 with
  | .drop y => .tuple [.int (x.1 : Int), .str y]
  | .put s => .tuple [.int (x.1 : Int), slT s]
theorem lk_inj {x y : Nat × Way} (h : lkD x = lkD y) : x = y := by
  obtain ⟨i, A⟩ := x
  obtain ⟨j, B⟩ := y
  unfold lkD at h
  cases A with
  | drop a =>
    cases B with
    | drop b =>
      simp only at h
      injection h with h
      injection h with h1 h
      injection h with h2 _
      injection h1 with h1
      injection h2 with h2
      rw [h2, show i = j by omega]
    | put s =>
      simp only [slT] at h
      injection h with h
      injection h with h1 h
      injection h with h2 _
      cases h2
  | put s =>
    cases B with
    | drop b =>
      simp only [slT] at h
      injection h with h
      injection h with h1 h
      injection h with h2 _
      cases h2
    | put t =>
      simp only at h
      injection h with h
      injection h with h1 h
      injection h with h2 _
      injection h1 with h1
      rw [slT_inj h2, show i = j by omega]
theorem lk_pl {x : Nat × Way} (g : WG x.2) : plD (lkD x) = true := by
  obtain ⟨i, A⟩ := x
  cases A with
  | drop a => rfl
  | put s => simp [lkD, plD, plAll, slT_pl g.1]
theorem lk_lay {x : Nat × Way} (g : WG x.2) : PyData.canLay0 (lkD x) = true := by
  obtain ⟨i, A⟩ := x
  cases A with
  | drop a =>
    have g : PyData.strOk a = true := g
    simp [lkD, PyData.canLay0, PyData.canLayAll0, g]
  | put s => simp [lkD, PyData.canLay0, PyData.canLayAll0, slT_lay g.1]
theorem lk_dep {x : Nat × Way} (g : WG x.2) : PyData.depth (lkD x) ≤ 3 := by
  obtain ⟨i, A⟩ := x
  cases A with
  | drop a => simp [lkD, PyData.depth, PyData.depthAll]
  | put s =>
    have := slT_dep g.1
    simp [lkD, PyData.depth, PyData.depthAll]
    omega
theorem lk_sh {x : Nat × Way} (g : WG x.2) : SeqAt.shaped (lkD x) = true := by
  have := lk_dep g
  simp [SeqAt.shaped, lk_lay g]
  omega
theorem lks_sh {KL : List (Nat × Way)} (h : ∀ x ∈ KL, WG x.2) : SeqAt.shaped (.list (KL.map lkD)) = true := by
  have : PyData.canLayAll0 (KL.map lkD) = true ∧ PyData.depthAll (KL.map lkD) ≤ 3 := by
    induction KL with
    | nil => exact ⟨rfl, Nat.zero_le _⟩
    | cons x KL ih =>
      obtain ⟨a, b⟩ := ih fun y hy => h y (List.mem_cons_of_mem _ hy)
      have g := h x List.mem_cons_self
      have := lk_dep g
      simp [PyData.canLayAll0, PyData.depthAll, lk_lay g, a]
      omega
  simp [SeqAt.shaped, PyData.canLay0, PyData.depth, this.1]
  omega
theorem lks_mem {KL : List (Nat × Way)} {x : Nat × Way} : lkD x ∈ KL.map lkD ↔ x ∈ KL := by
  rw [List.mem_map]
  constructor
  · rintro ⟨y, hy, e⟩
    rw [← lk_inj e]
    exact hy
  · intro h
    exact ⟨x, h, rfl⟩
theorem ways_mem {ws : List NEnt} {KL : List (Nat × Way)} {x : Nat × Way} (kk : ws.map (·.1) = KL.map fun y => nk (keyD y.1 y.2)) (kg : ∀ y ∈ KL, WG y.2) (g : WG x.2) : valN ws (nk (keyD x.1 x.2)) ≠ none ↔ x ∈ KL := by
  unfold valN
  rw [ne_eq, Option.map_eq_none_iff, List.find?_eq_none]
  constructor
  · intro h
    have h : ¬ ∀ e ∈ ws, ¬ (decide (e.1 = nk (keyD x.1 x.2)) = true) := h
    have : ∃ e ∈ ws, e.1 = nk (keyD x.1 x.2) := by
      refine Classical.byContradiction fun z => h fun e he y => z ⟨e, he, of_decide_eq_true y⟩
    obtain ⟨e, he, ee⟩ := this
    have m : e.1 ∈ ws.map (·.1) := List.mem_map.mpr ⟨e, he, rfl⟩
    rw [kk] at m
    obtain ⟨y, hy, ey⟩ := List.mem_map.mp m
    have := key_inj (nk_inj _ _ (key_pl (kg y hy)) (key_pl g) (ey.trans ee))
    have : y = x := Prod.ext this.1 this.2
    rw [← this]
    exact hy
  · intro h z
    have m : nk (keyD x.1 x.2) ∈ ws.map (·.1) := by
      rw [kk]
      exact List.mem_map.mpr ⟨x, h, rfl⟩
    obtain ⟨e, he, ee⟩ := List.mem_map.mp m
    exact z e he (decide_eq_true ee)
/-- rows that may come: good, without what may be assigned, short -/
def RowOk (n : Nat) (D : PyData) : Prop := ∃ ts, D = slsT ts ∧ Red ts ∧ SlG ts ∧ ts.length ≤ n
theorem RowOk.mono {m n : Nat} {D : PyData} (h : RowOk m D) (l : m ≤ n) : RowOk n D := let ⟨ts, a, b, c, d⟩ := h; ⟨ts, a, b, c, by omega⟩
theorem RowOk.pl {n : Nat} {D : PyData} (h : RowOk n D) : plD D = true := by
  obtain ⟨ts, rfl, _, g, _⟩ := h
  exact sls_pl g.all
theorem RowOk.dep {n : Nat} {D : PyData} (h : RowOk n D) : D.depth ≤ 3 := by
  obtain ⟨ts, rfl, _, g, _⟩ := h
  obtain ⟨_, _, c, _⟩ := sls_all g.all
  simp [slsT, PyData.depth]
  omega
theorem rows_sh {n : Nat} {Rs : List PyData} (h : ∀ D ∈ Rs, RowOk n D) : SeqAt.shaped (.list Rs) = true := by
  have : PyData.canLayAll0 Rs = true ∧ PyData.depthAll Rs ≤ 3 := by
    induction Rs with
    | nil => exact ⟨rfl, Nat.zero_le _⟩
    | cons D Rs ih =>
      obtain ⟨a, b⟩ := ih fun D hD => h D (List.mem_cons_of_mem _ hD)
      have hD := h D List.mem_cons_self
      have dp := hD.dep
      obtain ⟨ts, rfl, _, g, _⟩ := hD
      have e1 := SeqAt.canLay_of_shaped (sls_sh g.all)
      simp [PyData.canLayAll0, PyData.depthAll, e1, a]
      omega
  simp [SeqAt.shaped, PyData.canLay0, PyData.depth, this.1]
  omega
theorem Sh.upto {X : Addr → Prop} {p dx lr nr wr : Addr} {u : Int} {as : List Addr} {Rs : List PyData} {ws : List NEnt} {H' : Hp} (S : Sh K w H p dx lr nr wr u as Rs ws) (k : ∀ b o, ¬ X b → H b = some o → H' b = some o) (n1 : ¬ X p) (n2 : ¬ X lr) (n3 : ¬ X nr) (n4 : ¬ X wr) (tk : TK H H') : Sh K w H' p dx lr nr wr u as Rs ws :=
  ⟨k _ _ n1 S.ins, k _ _ n2 S.rows, S.dat.keep tk, k _ _ n3 S.num, k _ _ n4 S.way, S.wk.keep tk, S.ne, S.rk, S.nd⟩
theorem Ext.fn {Rs A B : List PyData} {D : PyData} (a : Ext Rs D A) (b : Ext Rs D B) : A = B := by
  rcases a with ⟨h1, h2⟩ | ⟨h1, h2⟩
  · rcases b with ⟨g1, g2⟩ | ⟨g1, g2⟩
    · rw [h2, g2]
    · exact absurd h1 g1
  · rcases b with ⟨g1, g2⟩ | ⟨g1, g2⟩
    · exact absurd g1 h1
    · rw [h2, g2]
theorem Ext.mem {Rs A : List PyData} {D e : PyData} (a : Ext Rs D A) (h : e ∈ A) : e ∈ Rs ∨ e = D := by
  rcases a with ⟨h1, rfl⟩ | ⟨h1, rfl⟩
  · exact .inl h
  · rcases List.mem_append.mp h with h | h
    · exact .inl h
    · exact .inr (List.mem_singleton.mp h)
namespace K41
/-- the law's world -/
structure W5 (K : PySem.W.Frag) (w : World) (G : Hp) (d r p dx lr nr wr p2 dx2 lr2 nr2 wr2 lw ly : Addr) (u : Int) (as : List Addr) (Rs : List PyData) (ws : List NEnt) (a2 : Addr) (rws : List V) (Rl : List PyData) (wvs : List V) (KL : List (Nat × Way)) : Prop where
  dr : Dr G d r
  sh : Sh K w G p dx lr nr wr u as Rs ws
  s2 : Sh K w G p2 dx2 lr2 nr2 wr2 0 [a2] [rowD []] []
  hw : G lw = some (.lst rws)
  tw : Trs G rws Rl
  hy : G ly = some (.lst wvs)
  ty : Trs G wvs (KL.map lkD)
  nl : [r, lr, lr2, lw, ly].Nodup
  nx : [nr, wr, nr2, wr2].Nodup
  np : p ≠ p2
structure Pf (n : Nat) (Rs : List PyData) (ws : List NEnt) (KL : List (Nat × Way)) : Prop where
  wv : WV Rs ws
  kk : ws.map (·.1) = KL.map fun y => nk (keyD y.1 y.2)
  kg : ∀ x ∈ KL, WG x.2
  kd : ∀ x ∈ KL, ∀ y, x.2 = .drop y → ∃ ts, Rs[x.1]? = some (slsT ts) ∧ ∃ s ∈ ts, s.name = y
  rk : ∀ D ∈ Rs, RowOk n D
  lR : Rs.length ≤ n + 1
  lK : KL.length ≤ n
  po : 0 < Rs.length
section
variable {G G' : Hp} {d r p dx lr nr wr p2 dx2 lr2 nr2 wr2 lw ly : Addr} {u : Int} {as : List Addr} {Rs : List PyData} {ws : List NEnt} {a2 : Addr} {rws : List V} {Rl : List PyData} {wvs : List V} {KL : List (Nat × Way)}
theorem W5.kept (W : W5 K w G d r p dx lr nr wr p2 dx2 lr2 nr2 wr2 lw ly u as Rs ws a2 rws Rl wvs KL) (k : Kept d G G') (D : Dr G' d r) : W5 K w G' d r p dx lr nr wr p2 dx2 lr2 nr2 wr2 lw ly u as Rs ws a2 rws Rl wvs KL := by
  have tk := W.dr.tk k
  obtain ⟨i, ns, h1, _⟩ := id W.dr
  have f : ∀ b o, G b = some o → (∀ z, o ≠ .dK z) → b ≠ d := fun b o e n => ne_of e h1 (fun z => n _ z)
  have f2 : ∀ b o, G b = some o → (∀ z, o ≠ .dK z) → G' b = some o := fun b o e n => k b o (f b o e n) e
  exact ⟨D, W.sh.upto (X := fun b => b = d) k (f _ _ W.sh.ins (by intro z y; cases y)) (f _ _ W.sh.rows (by intro z y; cases y)) (f _ _ W.sh.num (by intro z y; cases y)) (f _ _ W.sh.way (by intro z y; cases y)) tk,
    W.s2.upto (X := fun b => b = d) k (f _ _ W.s2.ins (by intro z y; cases y)) (f _ _ W.s2.rows (by intro z y; cases y)) (f _ _ W.s2.num (by intro z y; cases y)) (f _ _ W.s2.way (by intro z y; cases y)) tk,
    f2 _ _ W.hw (by intro z y; cases y), W.tw.keep tk, f2 _ _ W.hy (by intro z y; cases y), W.ty.keep tk, W.nl, W.nx, W.np⟩
theorem W5.same (W : W5 K w G d r p dx lr nr wr p2 dx2 lr2 nr2 wr2 lw ly u as Rs ws a2 rws Rl wvs KL) (s : Same G G') : W5 K w G' d r p dx lr nr wr p2 dx2 lr2 nr2 wr2 lw ly u as Rs ws a2 rws Rl wvs KL :=
  ⟨W.dr.same s, W.sh.same s, W.s2.same s, s _ _ W.hw, W.tw.keep fun b xs e => s b _ e, s _ _ W.hy, W.ty.keep fun b xs e => s b _ e, W.nl, W.nx, W.np⟩
theorem W5.shape {u' : Int} {as' : List Addr} {Rs' : List PyData} {ws' : List NEnt} (W : W5 K w G d r p dx lr nr wr p2 dx2 lr2 nr2 wr2 lw ly u as Rs ws a2 rws Rl wvs KL) (k : KP p lr nr wr G G') (S : Sh K w G' p dx lr nr wr u' as' Rs' ws') : W5 K w G' d r p dx lr nr wr p2 dx2 lr2 nr2 wr2 lw ly u' as' Rs' ws' a2 rws Rl wvs KL := by
  have tk := W.sh.kp k
  have nl := W.nl
  have nx := W.nx
  simp only [List.nodup_cons, List.mem_cons, List.not_mem_nil, or_false, not_or, List.nodup_nil, and_true, not_false_eq_true] at nl nx
  obtain ⟨⟨l1, l2, l3, l4⟩, ⟨l5, l6, l7⟩, ⟨l8, l9⟩, l10⟩ := nl
  obtain ⟨⟨x1, x2, x3⟩, ⟨x4, x5⟩, x6⟩ := nx
  have lst : ∀ b xs, G b = some (.lst xs) → b ≠ lr → G' b = some (.lst xs) := fun b xs e n => k b _ (ne_of e W.sh.ins (by intro z; cases z)) n (dn_ne W.sh.num e (by intro φ z; cases z)) (dn_ne W.sh.way e (by intro φ z; cases z)) e
  refine ⟨W.dr.keep fun b o h e => ?_, S, W.s2.upto (X := fun b => b = p ∨ b = lr ∨ b = nr ∨ b = wr) (fun b o n e => ?_) ?_ ?_ ?_ ?_ tk, lst _ _ W.hw (Ne.symm l6), W.tw.keep tk, lst _ _ W.hy (Ne.symm l7), W.ty.keep tk, W.nl, W.nx, W.np⟩
  · obtain ⟨i, ns, h1, h2, _⟩ := id W.dr
    rcases h with rfl | rfl
    · rw [h1] at e
      cases e
      exact k _ _ (ne_of h1 W.sh.ins (by intro z; cases z)) (ne_of h1 W.sh.rows (by intro z; cases z)) (dn_ne W.sh.num h1 (by intro φ z; cases z)) (dn_ne W.sh.way h1 (by intro φ z; cases z)) h1
    · rw [h2] at e
      cases e
      exact lst _ _ h2 l1
  · exact k b o (fun z => n (.inl z)) (fun z => n (.inr (.inl z))) (fun z => n (.inr (.inr (.inl z)))) (fun z => n (.inr (.inr (.inr z)))) e
  · rintro (z | z | z | z)
    · exact W.np z.symm
    · exact ne_of W.s2.ins W.sh.rows (by intro z; cases z) z
    · exact dn_ne W.sh.num W.s2.ins (by intro φ z; cases z) z
    · exact dn_ne W.sh.way W.s2.ins (by intro φ z; cases z) z
  · rintro (z | z | z | z)
    · exact ne_of W.s2.rows W.sh.ins (by intro z; cases z) z
    · exact l5 z.symm
    · exact dn_ne W.sh.num W.s2.rows (by intro φ z; cases z) z
    · exact dn_ne W.sh.way W.s2.rows (by intro φ z; cases z) z
  · rintro (z | z | z | z)
    · exact dn_ne W.s2.num W.sh.ins (by intro φ z; cases z) z.symm
    · exact dn_ne W.s2.num W.sh.rows (by intro φ z; cases z) z.symm
    · exact x2 z.symm
    · exact x4 z.symm
  · rintro (z | z | z | z)
    · exact dn_ne W.s2.way W.sh.ins (by intro φ z; cases z) z.symm
    · exact dn_ne W.s2.way W.sh.rows (by intro φ z; cases z) z.symm
    · exact x3 z.symm
    · exact x5 z.symm
/-- a list of the law's own is another -/
theorem W5.lst {l : Addr} {ys zs : List V} (W : W5 K w G d r p dx lr nr wr p2 dx2 lr2 nr2 wr2 lw ly u as Rs ws a2 rws Rl wvs KL) (hl : G l = some (.lst ys)) (n1 : l ≠ r) (n2 : l ≠ lr) (n3 : l ≠ lr2) (k : ∀ b, b ≠ l → G' b = G b) : TK G G' ∧ Dr G' d r ∧ Sh K w G' p dx lr nr wr u as Rs ws ∧ Sh K w G' p2 dx2 lr2 nr2 wr2 0 [a2] [rowD []] [] := by
  have tk : TK G G' := fun b xs e => (k b (ne_of e hl (by intro z; cases z))).trans e
  have f : ∀ b o, ¬ b = l → G b = some o → G' b = some o := fun b o n e => (k b n).trans e
  obtain ⟨i, ns, h1, h2, h3⟩ := id W.dr
  exact ⟨tk, ⟨i, ns, f _ _ (ne_of h1 hl (by intro z; cases z)) h1, f _ _ (Ne.symm n1) h2, h3⟩,
    W.sh.upto (X := fun b => b = l) f (ne_of W.sh.ins hl (by intro z; cases z)) (Ne.symm n2) (Ne.symm (dn_ne W.sh.num hl (by intro φ z; cases z))) (Ne.symm (dn_ne W.sh.way hl (by intro φ z; cases z))) tk,
    W.s2.upto (X := fun b => b = l) f (ne_of W.s2.ins hl (by intro z; cases z)) (Ne.symm n3) (Ne.symm (dn_ne W.s2.num hl (by intro φ z; cases z))) (Ne.symm (dn_ne W.s2.way hl (by intro φ z; cases z))) tk⟩
theorem W5.rows {rws' : List V} {Rl' : List PyData} (W : W5 K w G d r p dx lr nr wr p2 dx2 lr2 nr2 wr2 lw ly u as Rs ws a2 rws Rl wvs KL) (k : ∀ b, b ≠ lw → G' b = G b) (h : G' lw = some (.lst rws')) (t : Trs G' rws' Rl') : W5 K w G' d r p dx lr nr wr p2 dx2 lr2 nr2 wr2 lw ly u as Rs ws a2 rws' Rl' wvs KL ∧ TK G G' := by
  have nl := W.nl
  simp only [List.nodup_cons, List.mem_cons, List.not_mem_nil, or_false, not_or, List.nodup_nil, and_true, not_false_eq_true] at nl
  obtain ⟨⟨l1, l2, l3, l4⟩, ⟨l5, l6, l7⟩, ⟨l8, l9⟩, l10⟩ := nl
  obtain ⟨tk, D, S, S2⟩ := W.lst (zs := []) W.hw (Ne.symm l3) (Ne.symm l6) (Ne.symm l8) k
  exact ⟨⟨D, S, S2, h, t, (k _ (Ne.symm l10)).trans W.hy, W.ty.keep tk, W.nl, W.nx, W.np⟩, tk⟩
theorem W5.ways {q : Addr} {x : Nat × Way} (W : W5 K w G d r p dx lr nr wr p2 dx2 lr2 nr2 wr2 lw ly u as Rs ws a2 rws Rl wvs KL) (t : Tr G (.ref q) (lkD x)) : W5 K w (upd G ly (.lst (wvs ++ [.ref q]))) d r p dx lr nr wr p2 dx2 lr2 nr2 wr2 lw ly u as Rs ws a2 rws Rl (wvs ++ [.ref q]) (KL ++ [x]) ∧ TK G (upd G ly (.lst (wvs ++ [.ref q]))) := by
  have nl := W.nl
  simp only [List.nodup_cons, List.mem_cons, List.not_mem_nil, or_false, not_or, List.nodup_nil, and_true, not_false_eq_true] at nl
  obtain ⟨⟨l1, l2, l3, l4⟩, ⟨l5, l6, l7⟩, ⟨l8, l9⟩, l10⟩ := nl
  have k : ∀ b, b ≠ ly → (upd G ly (.lst (wvs ++ [.ref q]))) b = G b := fun b n => upd_ne n
  obtain ⟨tk, D, S, S2⟩ := W.lst (zs := []) W.hy (Ne.symm l4) (Ne.symm l7) (Ne.symm l9) k
  refine ⟨⟨D, S, S2, (k _ l10).trans W.hw, W.tw.keep tk, upd_same, ?_, W.nl, W.nx, W.np⟩, tk⟩
  rw [List.map_append]
  exact Trs.snoc (t.keep tk) (W.ty.keep tk)
end
theorem W5.pos {n : Nat} {G : Hp} {d r p dx lr nr wr p2 dx2 lr2 nr2 wr2 lw ly : Addr} {u : Int} {as : List Addr} {Rs : List PyData} {ws : List NEnt} {a2 : Addr} {rws : List V} {Rl : List PyData} {wvs : List V} {KL : List (Nat × Way)} (W : W5 K w G d r p dx lr nr wr p2 dx2 lr2 nr2 wr2 lw ly u as Rs ws a2 rws Rl wvs KL) (P : Pf n Rs ws KL) : 0 < Rs.length := P.po
/-- the end of a turn -/
def tTail (K : PySem.W.Frag) (w : World) (E : XK) : TS :=
  (tSeq (tIfS (tTest (tOp (rInD K) (tVar 10) (tVar 5)))
      (tAsg (tOp rAddI (tVar 6) (tC (.int 1))) (gName 6))
      (tIfS (tB (tVar 13))
      (tDrop (tBM K "list" rAppend (tVar 5) (tCons (tVar 10) tNil)))
      tNext))
    (tSeq (tIfS (tOr (tNot (tB (tCall (sp_l_is K) [] E (tCons (tVar 12) (tCons (tCall (sp_l_number K) [] E (tCons (tVar 4) (tCons (tVar 11) tNil))) tNil))))) (tTest (tOp (rNeD K) (tMeth (He.ga K ("Shapes" : Str)) ("row" : Str) (sp_Shapes_row K w) [] E (tVar 2) (tCons (tVar 12) tNil)) (tVar 11))))
      (tRet (tC (.bl false)))
      tNext)
    (tIfS (tOr (tNot (tB (tCall (sp_l_is K) [] E (tCons (tFld K (tVar 2) ("ways_used" : Str)) (tCons (tVar 6) tNil))))) (tNot (tB (tCall (sp_l_is K) [] E (tCons (tMeth (He.ga K ("Shapes" : Str)) ("count" : Str) (sp_Shapes_count K w) [] E (tVar 2) tNil) (tCons (tCB (rLen K) (tCons (tVar 4) tNil)) tNil))))))
      (tRet (tC (.bl false)))
      tNext)))
theorem tail_ok {G : Hp} {d r p dx lr nr wr p2 dx2 lr2 nr2 wr2 lw ly : Addr} {u u0 : Int} {as : List Addr} {Rs Rs0 : List PyData} {ws ws0 : List NEnt} {a2 : Addr} {rws : List V} {wvs : List V} {KL : List (Nat × Way)} {n j i : Nat} {Wy : Way} {q10 q11 : Addr} {due : List Sl} {c : Bool} {D : Ends} {v0 v7 v8 v9 v14 v15 v16 : Option V} (C : ShK K)
    (W : W5 K w G d r p dx lr nr wr p2 dx2 lr2 nr2 wr2 lw ly u as Rs ws a2 rws Rs0 wvs KL) (F : Pf n Rs0 ws0 KL) (hn : n ≤ 95) (nd0 : Rs0.Nodup) (g : WG Wy) (t10 : Tr G (.ref q10) (lkD (j, Wy))) (t11 : Tr G (.ref q11) (slsT due)) (ok : RowOk (n + 1) (slsT due)) (x : Ext Rs0 (slsT due) Rs) (hi : Rs[i]? = some (slsT due))
    (cs : ((j, Wy) ∈ KL ∧ u = u0 + 1 ∧ ws = ws0) ∨ ((j, Wy) ∉ KL ∧ u = u0 ∧ c = true ∧ (∃ a, ws = ws0 ++ [(nk (keyD j Wy), a, V.int (i : Int))]) ∧ WV Rs ws ∧ ∀ y, Wy = .drop y → ∃ ts, Rs0[j]? = some (slsT ts) ∧ ∃ s ∈ ts, s.name = y) ∨ ((j, Wy) ∉ KL ∧ u = u0 ∧ c = false ∧ ws = ws0))
    (fin : ∀ (rws wvs : List V) (KL : List (Nat × Way)) (G : Hp), W5 K w G d r p dx lr nr wr p2 dx2 lr2 nr2 wr2 lw ly u as Rs ws a2 rws Rs wvs KL → Pf (n + 1) Rs ws KL → D.nx [v0, some (.ref d), some (.ref p), some (.ref p2), some (.ref lw), some (.ref ly), some (.int u), v7, v8, v9, some (.ref q10), some (.ref q11), some (.int (i : Int)), some (.bl c), v14, v15, v16] G) :
    tTail K w E D [v0, some (.ref d), some (.ref p), some (.ref p2), some (.ref lw), some (.ref ly), some (.int u0), v7, v8, v9, some (.ref q10), some (.ref q11), some (.int (i : Int)), some (.bl c), v14, v15, v16] G := by
  have lksh := lks_sh F.kg
  have mem := any_mem (Rs := KL.map lkD) (D := lkD (j, Wy)) (lk_pl g) (lk_sh g) (fun e he => by
    obtain ⟨y, hy, rfl⟩ := List.mem_map.mp he
    exact lk_pl (F.kg y hy))
  rw [lks_mem] at mem
  have no : (j, Wy) ∉ KL → (List.any (KL.map lkD) fun z => PyData.eqv z (lkD (j, Wy))) = false := fun m => by
    cases z : (List.any (KL.map lkD) fun z => PyData.eqv z (lkD (j, Wy))) with
    | false => rfl
    | true => exact absurd (mem.mp z) m
  have rk2 : ∀ e ∈ Rs, RowOk (n + 1) e := fun e he => by
    rcases x.mem he with he | rfl
    · exact (F.rk e he).mono (by omega)
    · exact ok
  -- behind the first if
  have rest : ∀ (wvs : List V) (KL : List (Nat × Way)) (G : Hp), W5 K w G d r p dx lr nr wr p2 dx2 lr2 nr2 wr2 lw ly u as Rs ws a2 rws Rs0 wvs KL → Pf (n + 1) Rs ws KL → Tr G (.ref q11) (slsT due) →
      (tSeq (tIfS (tOr (tNot (tB (tCall (sp_l_is K) [] E (tCons (tVar 12) (tCons (tCall (sp_l_number K) [] E (tCons (tVar 4) (tCons (tVar 11) tNil))) tNil))))) (tTest (tOp (rNeD K) (tMeth (He.ga K ("Shapes" : Str)) ("row" : Str) (sp_Shapes_row K w) [] E (tVar 2) (tCons (tVar 12) tNil)) (tVar 11))))
      (tRet (tC (.bl false)))
      tNext)
    (tIfS (tOr (tNot (tB (tCall (sp_l_is K) [] E (tCons (tFld K (tVar 2) ("ways_used" : Str)) (tCons (tVar 6) tNil))))) (tNot (tB (tCall (sp_l_is K) [] E (tCons (tMeth (He.ga K ("Shapes" : Str)) ("count" : Str) (sp_Shapes_count K w) [] E (tVar 2) tNil) (tCons (tCB (rLen K) (tCons (tVar 4) tNil)) tNil))))))
      (tRet (tC (.bl false)))
      tNext)) D [v0, some (.ref d), some (.ref p), some (.ref p2), some (.ref lw), some (.ref ly), some (.int u), v7, v8, v9, some (.ref q10), some (.ref q11), some (.int (i : Int)), some (.bl c), v14, v15, v16] G := by
    intro wvs KL G W P t11
    obtain ⟨ts, ets, _, sg, _⟩ := id ok
    have sD : SeqAt.shaped (slsT due) = true := by
      rw [ets]
      exact sls_sh sg.all
    refine ⟨_, rfl, _, rfl, _, rfl, lw, q11, rws, Rs0, slsT due, rfl, W.hw, W.tw, nd0, Nat.le_trans F.lR (by omega), (fun e he => (F.rk e he).pl), rows_sh F.rk, t11, ok.pl, sD, Nat.le_trans ok.dep (by decide), fun rws' Rl' j' G1 k1 h1 t1 x1 hj1 => ?_⟩
    have eR := Ext.fn x1 x
    subst eR
    obtain ⟨W1, tk1⟩ := W.rows k1 h1 t1
    have ej : j' = i := nd_at W.sh.nd hj1 hi
    subst ej
    refine ⟨_, _, rfl, _, rfl, ?_⟩
    rw [decide_eq_true rfl]
    refine iteF ?_
    refine ⟨_, rfl, p, dx, _, rfl, W1.sh.ins, shF_no (by decide +kernel) (by decide +kernel) (by decide +kernel) (by decide +kernel), _, rfl, ?_⟩
    refine ⟨p, dx, lr, nr, wr, u, as, Rl', ws, j', slsT due, rfl, W1.sh, hi, fun a3 t3 => ?_⟩
    refine ⟨_, rfl, slsT due, slsT due, t3.dp, (t11.keep tk1).dp, sD, sD, _, rfl, ?_⟩
    rw [SeqAt.eqv_refl _ (SeqAt.canLay_of_shaped sD)]
    refine iteF ?_
    refine ⟨_, rfl, p, _, dx, _, _, rfl, W1.sh.ins, C.cl, C.nu, shF_u, _, rfl, _, _, rfl, _, rfl, ?_⟩
    rw [decide_eq_true rfl]
    refine iteF ?_
    refine ⟨_, rfl, p, dx, _, rfl, W1.sh.ins, shF_no (by decide +kernel) (by decide +kernel) (by decide +kernel) (by decide +kernel), ?_⟩
    refine ⟨p, dx, lr, nr, wr, u, as, Rl', ws, rfl, W1.sh, ?_⟩
    refine ⟨_, rfl, _, _, rfl, .inl ⟨_, SqL.of W1.hw, rfl⟩, _, _, rfl, _, rfl, ?_⟩
    rw [Trs.len W1.tw, decide_eq_true rfl]
    exact iteF (fin rws' wvs KL G1 W1 P)
  have mono : ∀ (KL' : List (Nat × Way)) (ws' : List NEnt), (∀ y ∈ KL', y ∈ KL ∨ (y = (j, Wy) ∧ ∀ z, Wy = .drop z → ∃ ts, Rs0[j]? = some (slsT ts) ∧ ∃ s ∈ ts, s.name = z)) → ws'.map (·.1) = KL'.map (fun y => nk (keyD y.1 y.2)) → WV Rs ws' → KL'.length ≤ n + 1 → Pf (n + 1) Rs ws' KL' := fun KL' ws' hK kk wv lK => by
    refine ⟨wv, kk, fun y hy => ?_, fun y hy z hz => ?_, rk2, Nat.le_trans x.len (by have := F.lR; omega), lK, (List.getElem?_eq_some_iff.mp hi).1 |> Nat.lt_of_le_of_lt (Nat.zero_le _)⟩
    · rcases hK y hy with h | ⟨rfl, _⟩
      · exact F.kg y h
      · exact g
    · rcases hK y hy with h | ⟨rfl, h⟩
      · obtain ⟨ts, a, b⟩ := F.kd y h z hz
        exact ⟨ts, x.at a, b⟩
      · obtain ⟨ts, a, b⟩ := h z hz
        exact ⟨ts, x.at a, b⟩
  refine ⟨_, rfl, _, rfl, lkD (j, Wy), KL.map lkD, t10.dp, .lst (SqL.of W.hy) W.ty.dp, lk_sh g, lksh, _, rfl, ?_⟩
  rcases cs with ⟨m, rfl, rfl⟩ | ⟨m, rfl, rfl, ⟨a, rfl⟩, wv, kd⟩ | ⟨m, rfl, rfl, rfl⟩
  · rw [mem.mpr m]
    refine iteT ⟨_, rfl, _, _, rfl, rfl, ?_⟩
    exact rest wvs KL G W (mono KL ws (fun y hy => .inl hy) F.kk (F.wv.ext x) (by have := F.lK; omega)) t11
  · rw [no m]
    refine iteF ⟨_, rfl, _, rfl, iteT ?_⟩
    have lwv : wvs.length ≤ 100 := by
      have := Trs.len W.ty
      rw [List.length_map] at this
      have := F.lK
      omega
    refine ⟨_, rfl, .inl ⟨rfl, _, SqL.of W.hy⟩, _, rfl, ly, _, _, rfl, rfl, W.hy, Nat.lt_of_le_of_lt lwv (by decide), ?_⟩
    obtain ⟨W2, tk2⟩ := W.ways t10
    refine rest _ _ _ W2 (mono (KL ++ [(j, Wy)]) _ (fun y hy => ?_) ?_ wv (by have := F.lK; simp; omega)) (t11.keep tk2)
    · rcases List.mem_append.mp hy with hy | hy
      · exact .inl hy
      · exact .inr ⟨List.mem_singleton.mp hy, kd⟩
    · rw [List.map_append, List.map_append, F.kk]
      rfl
  · rw [no m]
    refine iteF ⟨_, rfl, _, rfl, iteF ?_⟩
    exact rest wvs KL G W (mono KL ws (fun y hy => .inl hy) F.kk (F.wv.ext x) (by have := F.lK; omega)) t11
/-- a turn from the choice of the name on -/
def tTurn (K : PySem.W.Frag) (w : World) (E : XK) : TS :=
    (tSeq (tAsg (tCall (sp_l_name K) [] E (tCons (tVar 1) tNil)) (gName 9))
    (tSeq (tIfS (tTest (tOp rEq (tOp rModI (tCall (sp_l_take K) [] E (tCons (tVar 1) tNil)) (tC (.int 4))) (tC (.int 0))))
      (tSeq (tAsg (tTup (tCons (tVar 8) (tCons (tVar 9) tNil))) (gName 10))
    (tSeq (tAsg (tCall (sp_l_drop K) [] E (tCons (tOp (rIxL K) (tVar 4) (tVar 8)) (tCons (tVar 9) tNil))) (gName 11))
    (tSeq (tAsg (tMeth (He.ga K ("Shapes" : Str)) ("drop" : Str) (sp_Shapes_drop K w) [] E (tVar 2) (tCons (tVar 8) (tCons (tVar 9) tNil))) (gName 12))
    (tAsg (tOp (rNeD K) (tVar 11) (tOp (rIxL K) (tVar 4) (tVar 8))) (gName 13)))))
      (tSeq (tAsg (tCall (sp_l_kind K) [] E (tCons (tVar 1) tNil)) (gName 14))
    (tSeq (tAsg (tOp (rIxL K) (tLst (tCons (tTup (tCons (tC (.str ("num" : Str))) (tCons (tC (.int 1)) tNil))) (tCons (tTup (tCons (tC (.str ("nothing" : Str))) tNil)) (tCons (tTup (tCons (tC (.str ("ref" : Str))) (tCons (tC (.int 2)) tNil))) (tCons (tTup (tCons (tC (.str ("method" : Str))) (tCons (tC (.int 1)) tNil))) tNil))))) (tOp rModI (tCall (sp_l_take K) [] E (tCons (tVar 1) tNil)) (tC (.int 4)))) (gName 15))
    (tSeq (tAsg (tOp (rIxT K) (tCall (sp_l_row K) [] E (tCons (tTup (tCons (tTup (tCons (tVar 9) (tCons (tVar 14) (tCons (tVar 15) tNil)))) tNil)) tNil)) (tC (.int 0))) (gName 16))
    (tSeq (tAsg (tTup (tCons (tVar 8) (tCons (tVar 16) tNil))) (gName 10))
    (tSeq (tAsg (tCall (sp_l_put K) [] E (tCons (tOp (rIxL K) (tVar 4) (tVar 8)) (tCons (tOp (rIxT K) (tVar 16) (tC (.int 0))) (tCons (tOp (rIxT K) (tVar 16) (tC (.int 1))) (tCons (tOp (rIxT K) (tVar 16) (tC (.int 2))) tNil))))) (gName 11))
    (tSeq (tAsg (tMeth (He.ga K ("Shapes" : Str)) ("put" : Str) (sp_Shapes_put K w) [] E (tVar 2) (tCons (tVar 8) (tCons (tVar 9) (tCons (tVar 14) (tCons (tVar 15) tNil))))) (gName 12))
    (tAsg (tC (.bl true)) (gName 13)))))))))
    (tTail K w E)))
theorem drop_same {ts : List Sl} {x : Str} (h : ∀ s ∈ ts, s.name ≠ x) : dropS ts x = ts := by
  unfold dropS
  rw [List.filter_eq_self]
  exact fun s hs => decide_eq_true (h s hs)
theorem drop_less {ts : List Sl} {x : Str} (h : ∃ s ∈ ts, s.name = x) : dropS ts x ≠ ts := fun e => by
  obtain ⟨s, hs, en⟩ := h
  rw [← e] at hs
  have := (List.mem_filter.mp hs).2
  exact (of_decide_eq_true this) en
theorem name_ok : ∀ x ∈ nameM, PyData.strOk (Str.ofString x) = true := by decide +kernel
theorem kind_ok : ∀ x ∈ kindM, PyData.strOk (Str.ofString x) = true := by decide +kernel
theorem turn_ok {G : Hp} {d r p dx lr nr wr p2 dx2 lr2 nr2 wr2 lw ly : Addr} {u : Int} {as : List Addr} {Rs : List PyData} {ws : List NEnt} {a2 : Addr} {rws : List V} {wvs : List V} {KL : List (Nat × Way)} {n j : Nat} {D : Ends} {v0 v7 v9 v10 v11 v12 v13 v14 v15 v16 : Option V} (C : ShK K)
    (W : W5 K w G d r p dx lr nr wr p2 dx2 lr2 nr2 wr2 lw ly u as Rs ws a2 rws Rs wvs KL) (F : Pf n Rs ws KL) (hn : n ≤ 95) (hjl : j < Rs.length)
    (fin : ∀ (u : Int) (as : List Addr) (Rs : List PyData) (ws : List NEnt) (rws wvs : List V) (KL : List (Nat × Way)) (G : Hp) (v8 v9 v10 v11 v12 v13 v14 v15 v16 : Option V), W5 K w G d r p dx lr nr wr p2 dx2 lr2 nr2 wr2 lw ly u as Rs ws a2 rws Rs wvs KL → Pf (n + 1) Rs ws KL → D.nx [v0, some (.ref d), some (.ref p), some (.ref p2), some (.ref lw), some (.ref ly), some (.int u), v7, v8, v9, v10, v11, v12, v13, v14, v15, v16] G) :
    tTurn K w E D [v0, some (.ref d), some (.ref p), some (.ref p2), some (.ref lw), some (.ref ly), some (.int u), v7, some (.int (j : Int)), v9, v10, v11, v12, v13, v14, v15, v16] G := by
  have hj0 : Rs[j]? = some Rs[j] := List.getElem?_eq_getElem hjl
  obtain ⟨ts, ets, rd, sg, lts⟩ := F.rk Rs[j] (List.getElem_mem hjl)
  rw [ets] at hj0
  have hj : Rs[j]? = some (slsT ts) := hj0
  clear hj0
  have lW : ws.length ≤ 100000 := by
    have := congrArg List.length F.kk
    rw [List.length_map, List.length_map] at this
    have := F.lK
    omega
  have lR : Rs.length ≤ 100000 := by have := F.lR; omega
  refine ⟨_, rfl, d, rfl, r, W.dr, fun x G1 K1 A1 hx => ?_⟩
  have W1 := W.kept K1 A1
  have xo := name_ok x hx
  refine ⟨_, rfl, d, rfl, r, A1, fun z G2 z0 A2 M2 => ⟨_, _, rfl, rfl, (by show (0 : Int) < 4; decide), rfl, _, rfl, ite2 (fun _ => ?_) (fun _ => ?_)⟩⟩
  · -- drop
    have W2 := W1.kept (Kept.of_moved M2) A2
    refine ⟨_, rfl, _, rfl, (by show 2 ≤ sizeLine; decide), fun q10 n10 => ?_⟩
    have s3 := same_upd (o := .tup [V.int (j : Int), mS x]) n10
    have W3 := W2.same s3
    have t10 : Tr (upd G2 q10 (.tup [V.int (j : Int), mS x])) (.ref q10) (lkD (j, .drop (Str.ofString x))) := .tup upd_same (.cons (.int _) (.cons (.str _) .nil))
    generalize (upd G2 q10 (.tup [V.int (j : Int), mS x])) = G3 at W3 t10
    obtain ⟨v, hv, tv⟩ := Trs.at_ j W3.tw hj
    obtain ⟨av, rfl⟩ : ∃ av, v = .ref av := by
      cases tv with
      | tup h _ => exact ⟨_, rfl⟩
    refine ⟨_, rfl, _, rfl, lw, _, _, _, rfl, rfl, SqL.of W3.hw, atI_nat hv, _, rfl, ?_⟩
    refine ⟨av, Str.ofString x, ts, rfl, tv, sg.len, fun q11 G4 s4 t11 => ?_⟩
    have W4 := W3.same s4
    have t10' := t10.keep fun b xs e => s4 b _ e
    have dsl : (dropS ts (Str.ofString x)).length ≤ n + 1 := Nat.le_trans (List.length_filter_le _ _) (by omega)
    have okd : RowOk (n + 1) (slsT (dropS ts (Str.ofString x))) := ⟨_, rfl, red_ch (W := .drop (Str.ofString x)) rd xo, ⟨sg_ch (W := .drop (Str.ofString x)) sg.all xo, by omega⟩, dsl⟩
    have sD : SeqAt.shaped (slsT (dropS ts (Str.ofString x))) = true := sls_sh (sg_ch (W := .drop (Str.ofString x)) sg.all xo)
    have sT : SeqAt.shaped (slsT ts) = true := sls_sh sg.all
    -- counts
    have cnt : ∀ (G : Hp) {u' : Int} {as' : List Addr} {Rs' : List PyData} {ws' : List NEnt} {D : Ends} {σ : L2.St} {c : Bool}, W5 K w G d r p dx lr nr wr p2 dx2 lr2 nr2 wr2 lw ly u' as' Rs' ws' a2 rws Rs wvs KL → Tr G (.ref q11) (slsT (dropS ts (Str.ofString x))) → σ[4]? = some (some (.ref lw)) → σ[8]? = some (some (.int (j : Int))) → σ[11]? = some (some (.ref q11)) → (!PyData.eqv (slsT (dropS ts (Str.ofString x))) (slsT ts)) = c → D.nx (σ.set 13 (some (.bl c))) G →
        (tAsg (tOp (rNeD K) (tVar 11) (tOp (rIxL K) (tVar 4) (tVar 8))) (gName 13)) D σ G := by
      intro G u' as' Rs' ws' D σ c W t11 h4 h8 h11 hc q
      obtain ⟨v, hv, tv⟩ := Trs.at_ j W.tw hj
      refine ⟨_, h11, _, h4, _, h8, lw, _, _, _, rfl, rfl, SqL.of W.hw, atI_nat hv, _, _, t11.dp, tv.dp, sD, sT, ?_⟩
      rw [hc]
      exact q
    refine ⟨_, rfl, p, dx, _, rfl, W4.sh.ins, shF_no (by decide +kernel) (by decide +kernel) (by decide +kernel) (by decide +kernel), _, rfl, _, rfl, ?_⟩
    refine ⟨p, dx, lr, nr, wr, u, as, Rs, ws, j, Str.ofString x, ts, rfl, xo, W4.sh, F.wv, hj, sg, rd, lR, lW, fun hno G5 s5 => ?_, fun hyes => ⟨fun i G5 hv5 k5 S5 hi => ?_, fun i as' Rs' a5 G5 hv5 k5 S5 wv5 x5 hi => ?_⟩⟩
    · have W5' := W4.same s5
      have es := drop_same hno
      refine cnt G5 W5' (t11.keep fun b xs e => s5 b _ e) rfl rfl rfl (c := false) ?_ ?_
      · rw [es, SeqAt.eqv_refl _ (SeqAt.canLay_of_shaped sT)]
        rfl
      · rw [es] at okd t11
        refine tail_ok (u := u) (u0 := u) (ws0 := ws) (due := ts) (Wy := .drop (Str.ofString x)) (j := j) C W5' F hn W5'.sh.nd xo (t10'.keep fun b xs e => s5 b _ e) (t11.keep fun b xs e => s5 b _ e) okd (.inl ⟨List.mem_of_getElem? hj, rfl⟩) hj (.inr (.inr ⟨fun m => ?_, rfl, rfl, rfl⟩)) (fun rws wvs KL G W P => fin u as Rs ws rws wvs KL G _ _ _ _ _ _ _ _ _ W P)
        obtain ⟨ts', h1, s', hs', en⟩ := F.kd _ m _ rfl
        rw [hj] at h1
        rw [← sls_inj (Option.some.inj h1)] at hs'
        exact hno s' hs' en
    · have W5' := W4.shape k5 S5
      have tk5 := W4.sh.kp k5
      refine cnt G5 W5' (t11.keep tk5) rfl rfl rfl (c := true) ?_ ?_
      · cases e : PyData.eqv (slsT (dropS ts (Str.ofString x))) (slsT ts) with
        | false => rfl
        | true => exact absurd (sls_inj (eqv_eq _ _ okd.pl (sls_pl sg.all) e)) (drop_less hyes)
      · refine tail_ok (u := u + 1) (u0 := u) (ws0 := ws) (Wy := .drop (Str.ofString x)) (j := j) C W5' F hn W4.sh.nd xo (t10'.keep tk5) (t11.keep tk5) okd (.inl ⟨List.mem_of_getElem? hi, rfl⟩) hi (.inl ⟨(ways_mem F.kk F.kg (x := (j, Way.drop (Str.ofString x))) xo).mp hv5, rfl, rfl⟩) (fun rws wvs KL G W P => fin _ as Rs ws rws wvs KL G _ _ _ _ _ _ _ _ _ W P)
    · have W5' := W4.shape k5 S5
      have tk5 := W4.sh.kp k5
      refine cnt G5 W5' (t11.keep tk5) rfl rfl rfl (c := true) ?_ ?_
      · cases e : PyData.eqv (slsT (dropS ts (Str.ofString x))) (slsT ts) with
        | false => rfl
        | true => exact absurd (sls_inj (eqv_eq _ _ okd.pl (sls_pl sg.all) e)) (drop_less hyes)
      · refine tail_ok (u := u) (u0 := u) (ws0 := ws) (Wy := .drop (Str.ofString x)) (j := j) C W5' F hn W4.sh.nd xo (t10'.keep tk5) (t11.keep tk5) okd x5 hi (.inr (.inl ⟨fun m => (ways_mem F.kk F.kg (x := (j, Way.drop (Str.ofString x))) xo).mpr m hv5, rfl, rfl, ⟨a5, rfl⟩, wv5, fun y hy => ?_⟩)) (fun rws wvs KL G W P => fin _ as' Rs' _ rws wvs KL G _ _ _ _ _ _ _ _ _ W P)
        cases hy
        exact ⟨ts, hj, hyes⟩
  · -- put
    have W2 := W1.kept (Kept.of_moved M2) A2
    refine ⟨_, rfl, d, rfl, r, A2, fun kx G3 K3 A3 hkx => ?_⟩
    have W3 := W2.kept K3 A3
    have ko := kind_ok kx hkx
    refine ⟨(by show 2 ≤ sizeLine; decide), fun p1 n1 => ⟨(by show 1 ≤ sizeLine; decide), fun p2' n2 => ⟨(by show 2 ≤ sizeLine; decide), fun p3 n3 => ⟨(by show 2 ≤ sizeLine; decide), fun p4 n4 => ⟨(by show 4 ≤ sizeLine; decide), fun pl nl => ?_⟩⟩⟩⟩⟩
    have s1 := same_upd (o := .tup [V.str ("num" : Str), V.int 1]) n1
    have s2 := same_upd (o := .tup [V.str ("nothing" : Str)]) n2
    have s3 := same_upd (o := .tup [V.str ("ref" : Str), V.int 2]) n3
    have s4 := same_upd (o := .tup [V.str ("method" : Str), V.int 1]) n4
    have s5 := same_upd (o := .lst ([p1, p2', p3, p4].map V.ref)) nl
    have W4 := ((((W3.same s1).same s2).same s3).same s4).same s5
    refine ⟨_, rfl, d, rfl, r, W4.dr, fun k4 G4 k40 A4 M4 => ⟨_, _, rfl, rfl, (by show (0 : Int) < 4; decide), ?_⟩⟩
    have W5' := W4.kept (Kept.of_moved M4) A4
    have hp : G4 pl = some (.lst ([p1, p2', p3, p4].map V.ref)) := (M4 pl (Ne.symm (((((W3.same s1).same s2).same s3).same s4).dr.neD nl))).trans upd_same
    obtain ⟨ad, had, e4⟩ := menu_r (as := [p1, p2', p3, p4]) (take_mod (j := k4) (m := 4) (by decide)).1 (take_mod (by decide)).2
    have t5 := W4.dr.tk (Kept.of_moved M4)
    obtain ⟨Vd, tV, vg⟩ : ∃ Vd, Tr G4 (.ref ad) Vd ∧ VG Vd := by
      simp only [List.mem_cons, List.not_mem_nil, or_false] at had
      rcases had with rfl | rfl | rfl | rfl
      · exact ⟨.tuple [.str ("num" : Str), .int 1], .tup (t5 _ _ (s5 _ _ (s4 _ _ (s3 _ _ (s2 _ _ upd_same))))) (.cons (.str _) (.cons (.int _) .nil)), (vn_two (m := 1) (wd_ok _ (by decide +kernel)) (fun z => absurd z (wd_nr _ (by decide +kernel)))).g⟩
      · exact ⟨.tuple [.str ("nothing" : Str)], .tup (t5 _ _ (s5 _ _ (s4 _ _ (s3 _ _ upd_same)))) (.cons (.str _) .nil), (vn_one (m := 1) (wd_ok _ (by decide +kernel)) (wd_nr _ (by decide +kernel))).g⟩
      · exact ⟨.tuple [.str ("ref" : Str), .int 2], .tup (t5 _ _ (s5 _ _ (s4 _ _ upd_same))) (.cons (.str _) (.cons (.int _) .nil)), (vn_two (m := 3) (wd_ok _ (by decide +kernel)) (fun z => ⟨by decide, by decide⟩)).g⟩
      · exact ⟨.tuple [.str ("method" : Str), .int 1], .tup (t5 _ _ (s5 _ _ upd_same)) (.cons (.str _) (.cons (.int _) .nil)), (vn_two (m := 1) (wd_ok _ (by decide +kernel)) (fun z => absurd z (wd_nr _ (by decide +kernel)))).g⟩
    refine ⟨pl, _, _, _, rfl, rfl, SqL.of hp, e4, ?_⟩
    -- entry
    refine ⟨_, rfl, _, rfl, _, rfl, (by show 3 ≤ sizeLine; decide), fun q1 m1 => ⟨(by show 1 ≤ sizeLine; decide), fun q2 m2 => ?_⟩⟩
    have s6 := same_upd (o := .tup [mS x, mS kx, V.ref ad]) m1
    have s7 := same_upd (o := .tup [V.ref q1]) m2
    have W6 := (W5'.same s6).same s7
    have tV6 := tV.keep (H' := upd (upd G4 q1 (.tup [mS x, mS kx, V.ref ad])) q2 (.tup [V.ref q1])) fun b xs e => s7 b _ (s6 b _ e)
    have gs : SG (⟨Str.ofString x, Str.ofString kx, Vd⟩ : Sl) := ⟨xo, ko, vg⟩
    have tl : Tr (upd (upd G4 q1 (.tup [mS x, mS kx, V.ref ad])) q2 (.tup [V.ref q1])) (.ref q2) (slsT [⟨Str.ofString x, Str.ofString kx, Vd⟩]) := sls_make upd_same (.cons (s7 _ _ upd_same) tV6 .nil)
    refine ⟨q2, _, rfl, tl, (fun s hs => by rw [List.mem_singleton.mp hs]; exact ⟨kx, hkx, rfl⟩), (by show 1 ≤ 1000; decide), fun qr G7 s8 _ tr7 => ?_⟩
    have W7 := W6.same s8
    obtain ⟨us7, hu7, tp7⟩ := sls_open tr7
    obtain ⟨s', te, fv, es', eu', hte, tfv⟩ : ∃ s' te fv, some s' = some (rwS ⟨Str.ofString x, Str.ofString kx, Vd⟩) ∧ us7[0]? = some (.ref te) ∧ G7 te = some (.tup [.str (Str.ofString x), .str (Str.ofString kx), fv]) ∧ Tr G7 fv (rwS ⟨Str.ofString x, Str.ofString kx, Vd⟩).val := by
      cases tp7 with
      | cons h t r => exact ⟨_, _, _, rfl, rfl, h, t⟩
    refine ⟨qr, _, _, _, rfl, rfl, SqT.of hu7, atI_nat eu', ?_⟩
    -- way
    refine ⟨_, rfl, _, rfl, (by show 2 ≤ sizeLine; decide), fun q10 n10 => ?_⟩
    have s9 := same_upd (o := .tup [V.int (j : Int), V.ref te]) n10
    have W8 := W7.same s9
    have gW : WG (.put (rwS ⟨Str.ofString x, Str.ofString kx, Vd⟩)) := rw_wg gs
    have t10 : Tr (upd G7 q10 (.tup [V.int (j : Int), V.ref te])) (.ref q10) (lkD (j, .put (rwS ⟨Str.ofString x, Str.ofString kx, Vd⟩))) := .tup upd_same (.cons (.int _) (.cons (.tup (s9 _ _ hte) (.cons (.str _) (.cons (.str _) (.cons (tfv.keep fun b xs e => s9 b _ e) .nil)))) .nil))
    have hte8 := s9 _ _ hte
    have tfv8 := tfv.keep fun b xs e => s9 b _ e
    have tV8 : Tr (upd G7 q10 (.tup [V.int (j : Int), V.ref te])) (.ref ad) Vd := tV6.keep fun b xs e => s9 b _ (s8 b _ e)
    generalize (upd G7 q10 (.tup [V.int (j : Int), V.ref te])) = G8 at W8 t10 hte8 tfv8 tV8
    obtain ⟨v, hv, tv⟩ := Trs.at_ j W8.tw hj
    obtain ⟨av, rfl⟩ : ∃ av, v = .ref av := by
      cases tv with
      | tup h _ => exact ⟨_, rfl⟩
    refine ⟨_, rfl, _, rfl, lw, _, _, _, rfl, rfl, SqL.of W8.hw, atI_nat hv, ?_⟩
    refine ⟨_, rfl, te, _, _, _, rfl, rfl, SqT.of hte8, atI_nat (j := 0) rfl, _, rfl, te, _, _, _, rfl, rfl, SqT.of hte8, atI_nat (j := 1) rfl, _, rfl, te, _, _, _, rfl, rfl, SqT.of hte8, atI_nat (j := 2) rfl, ?_⟩
    refine ⟨av, Str.ofString x, Str.ofString kx, fv, _, ts, rfl, tv, tfv8, sg.len, fun q11 G9 s10 t11 => ?_⟩
    have W9 := W8.same s10
    have t10' := t10.keep fun b xs e => s10 b _ e
    have dl : (chF (.put (rwS ⟨Str.ofString x, Str.ofString kx, Vd⟩)) ts).length ≤ n + 1 := Nat.le_trans (putS_len ts _) (by omega)
    have okd : RowOk (n + 1) (slsT (chF (.put (rwS ⟨Str.ofString x, Str.ofString kx, Vd⟩)) ts)) := ⟨_, rfl, red_ch rd gW, ⟨sg_ch sg.all gW, by omega⟩, dl⟩
    refine ⟨_, rfl, p, dx, _, rfl, W9.sh.ins, shF_no (by decide +kernel) (by decide +kernel) (by decide +kernel) (by decide +kernel), _, rfl, _, rfl, _, rfl, _, rfl, ?_⟩
    refine ⟨p, dx, lr, nr, wr, u, as, Rs, ws, j, ⟨Str.ofString x, Str.ofString kx, Vd⟩, .ref ad, ts, rfl, tV8.keep (fun b xs e => s10 b _ e), gs, W9.sh, F.wv, hj, sg, rd, by omega, lR, lW, fun i G5 hv5 k5 S5 hi => ?_, fun i as' Rs' a5 G5 hv5 k5 S5 wv5 x5 hi => ?_⟩
    · have W10 := W9.shape k5 S5
      have tk5 := W9.sh.kp k5
      refine tail_ok (u := u + 1) (u0 := u) (ws0 := ws) (Wy := .put (rwS ⟨Str.ofString x, Str.ofString kx, Vd⟩)) (j := j) C W10 F hn W9.sh.nd gW (t10'.keep tk5) (t11.keep tk5) okd (.inl ⟨List.mem_of_getElem? hi, rfl⟩) hi (.inl ⟨(ways_mem F.kk F.kg (x := (j, Way.put (rwS ⟨Str.ofString x, Str.ofString kx, Vd⟩))) gW).mp hv5, rfl, rfl⟩) (fun rws wvs KL G W P => fin _ as Rs ws rws wvs KL G _ _ _ _ _ _ _ _ _ W P)
    · have W10 := W9.shape k5 S5
      have tk5 := W9.sh.kp k5
      refine tail_ok (u := u) (u0 := u) (ws0 := ws) (Wy := .put (rwS ⟨Str.ofString x, Str.ofString kx, Vd⟩)) (j := j) C W10 F hn W9.sh.nd gW (t10'.keep tk5) (t11.keep tk5) okd x5 hi (.inr (.inl ⟨fun m => (ways_mem F.kk F.kg (x := (j, Way.put (rwS ⟨Str.ofString x, Str.ofString kx, Vd⟩))) gW).mpr m hv5, rfl, rfl, ⟨a5, rfl⟩, wv5, fun y hy => (by cases hy)⟩)) (fun rws wvs KL G W P => fin _ as' Rs' _ rws wvs KL G _ _ _ _ _ _ _ _ _ W P)
theorem run_law (C : ShK K) (h : sp_law K vs H Q E) : t_law K w E (DQ Q) (start ns_law vs) H := by
  obtain ⟨a, ns, rfl, hS, hl, q⟩ := h
  refine ⟨_, rfl, a, ns, rfl, hS, hl, fun d r H1 s1 nd nr0 D1 => ?_⟩
  intro p dx np ndx nxp
  have S1 : Same H1 (upd (upd H1 dx (.own p)) p (.ins (ShC K) dx [])) := fun b u z => by
    rw [upd_ne (ne_of_none z np), upd_ne (ne_of_none z ndx)]
    exact z
  have D1' := D1.same S1
  have dp : d ≠ p := D1.neD np
  have rp : r ≠ p := D1.neR np
  refine ⟨p, dx, rfl, upd_same, fun lr nr wr q0 H2 k2 nlr nnr nwr Sa => ⟨rfl, ?_⟩⟩
  have D2 : Dr H2 d r := D1'.keep fun b o h e => k2 b o (by rcases h with rfl | rfl; exact dp; exact rp) e
  have rlr : r ≠ lr := D1'.neR nlr
  intro p2 dx2 np2 ndx2 nxp2
  have S2 : Same H2 (upd (upd H2 dx2 (.own p2)) p2 (.ins (ShC K) dx2 [])) := fun b u z => by
    rw [upd_ne (ne_of_none z np2), upd_ne (ne_of_none z ndx2)]
    exact z
  have D2' := D2.same S2
  have Sb := Sa.same S2
  have dp2 : d ≠ p2 := D2.neD np2
  have rp2 : r ≠ p2 := D2.neR np2
  have pp2 : p ≠ p2 := ne_of_none Sa.ins np2
  refine ⟨p2, dx2, rfl, upd_same, fun lr2 nr2 wr2 q02 H3 k3 nlr2 nnr2 nwr2 Sc => ⟨rfl, ?_⟩⟩
  have D3 : Dr H3 d r := D2'.keep fun b o h e => k3 b o (by rcases h with rfl | rfl; exact dp2; exact rp2) e
  have tk3 : TK (upd (upd H2 dx2 (.own p2)) p2 (.ins (ShC K) dx2 [])) H3 := fun b xs e => k3 b _ (ne_of e upd_same (by intro z; cases z)) e
  have Sd := Sb.upto (X := fun b => b = p2) k3 pp2 (ne_of_none Sa.rows np2) (ne_of_none Sa.num np2) (ne_of_none Sa.way np2) tk3
  have rlr2 : r ≠ lr2 := D2'.neR nlr2
  have l2 : lr ≠ lr2 := ne_of_none Sb.rows nlr2
  have x1 : nr ≠ nr2 := ne_of_none Sb.num nnr2
  have x2 : nr ≠ wr2 := ne_of_none Sb.num nwr2
  have x3 : wr ≠ nr2 := ne_of_none Sb.way nnr2
  have x4 : wr ≠ wr2 := ne_of_none Sb.way nwr2
  refine ⟨(by show 0 ≤ sizeLine; decide), fun e1 ne1 => ⟨(by show 1 ≤ sizeLine; decide), fun lw nlw => ?_⟩⟩
  have s3 := same_upd (o := .tup []) ne1
  have s4 := same_upd (o := .lst [.ref e1]) nlw
  refine ⟨(by show 0 ≤ sizeLine; decide), fun ly nly => ?_⟩
  have s5 := same_upd (o := .lst []) nly
  have n1 : r ≠ lw := (D3.same s3).neR nlw
  have n2 : lr ≠ lw := ne_of_none (Sd.same s3).rows nlw
  have n3 : lr2 ≠ lw := ne_of_none (Sc.same s3).rows nlw
  have n4 : r ≠ ly := ((D3.same s3).same s4).neR nly
  have n5 : lr ≠ ly := ne_of_none ((Sd.same s3).same s4).rows nly
  have n6 : lr2 ≠ ly := ne_of_none ((Sc.same s3).same s4).rows nly
  have n7 : lw ≠ ly := ne_of_none upd_same nly
  have sg0 : SlG [] := ⟨(fun x hx => by cases hx), Nat.zero_le _⟩
  have W : W5 K w _ d r p dx lr nr wr p2 dx2 lr2 nr2 wr2 lw ly 0 [q0] [rowD []] [] q02 [.ref e1] [rowD []] [] [] := ⟨((D3.same s3).same s4).same s5, ((Sd.same s3).same s4).same s5, ((Sc.same s3).same s4).same s5, s5 _ _ upd_same, .cons (.tup (s5 _ _ (s4 _ _ upd_same)) .nil) .nil, upd_same, .nil,
    (by simp [rlr, rlr2, n1, n4, l2, n2, n5, n3, n6, n7]), (by simp [Sa.ne, Sc.ne, x1, x2, x3, x4]), pp2⟩
  have P : Pf 0 [rowD []] [] [] := ⟨(fun e he => by cases he), rfl, (fun x hx => by cases hx), (fun x hx => by cases hx), (fun D hD => by rw [List.mem_singleton.mp hD]; exact ⟨[], rfl, (fun s hs => by cases hs), sg0, Nat.le_refl _⟩), Nat.le_refl _, Nat.le_refl _, by show 0 < 1; decide⟩
  generalize (upd (upd (upd H3 e1 _) lw _) ly _) = G at W
  refine ⟨_, rfl, d, rfl, r, W.dr, fun j Ha j0 Da Ma => ⟨_, _, rfl, rfl, (by show (0 : Int) < 90; decide), _, _, rfl, rfl, ?_⟩⟩
  have Wa := W.kept (Kept.of_moved Ma) Da
  have tm := take_mod (j := j) (m := 90) (by decide)
  obtain ⟨n, hn⟩ : ∃ n : Nat, 1 + j % 90 = (n : Int) := ⟨(1 + j % 90).toNat, by omega⟩
  refine ⟨1 + j % 90, rfl, by omega, by omega, ?_⟩
  rw [hn, Int.toNat_natCast]
  refine for_range (lo := 0) (n := n) (fun k σ G => ∃ (u : Int) (as : List Addr) (Rs : List PyData) (ws : List NEnt) (rws wvs : List V) (KL : List (Nat × Way)) (v7 v8 v9 v10 v11 v12 v13 v14 v15 v16 : Option V), σ = [some (.ref a), some (.ref d), some (.ref p), some (.ref p2), some (.ref lw), some (.ref ly), some (.int u), v7, v8, v9, v10, v11, v12, v13, v14, v15, v16] ∧ W5 K w G d r p dx lr nr wr p2 dx2 lr2 nr2 wr2 lw ly u as Rs ws q02 rws Rs wvs KL ∧ Pf k Rs ws KL ∧ 0 < Rs.length)
    ⟨0, _, _, _, _, _, _, none, none, none, none, none, none, none, none, none, none, rfl, Wa, P, by show 0 < 1; decide⟩ ?_ ?_
  · rintro k σ G hk ⟨u, as, Rs, ws, rws, wvs, KL, v7, v8, v9, v10, v11, v12, v13, v14, v15, v16, rfl, W, P, hR⟩
    have lrw := Trs.len W.tw
    refine ⟨_, rfl, d, rfl, r, W.dr, fun j2 G2 j20 D2 M2 => ?_⟩
    have W2 := W.kept (Kept.of_moved M2) D2
    refine ⟨_, rfl, _, _, rfl, .inl ⟨_, SqL.of W2.hw, rfl⟩, _, _, rfl, rfl, (by show (0 : Int) < (rws.length : Int); omega), ?_⟩
    have tm2 := take_mod (j := j2) (m := (rws.length : Int)) (by omega)
    obtain ⟨i, hi⟩ : ∃ i : Nat, j2 % (rws.length : Int) = (i : Int) := ⟨(j2 % (rws.length : Int)).toNat, by omega⟩
    show gName 8 (V.int (j2 % (rws.length : Int))) _ _ _
    rw [hi]
    refine ⟨_, rfl, _, _, rfl, rfl, (by show (0 : Int) < 3; decide), rfl, _, rfl, ite2 (fun _ => ?_) (fun _ => ?_)⟩
    · refine ⟨_, rfl, _, _, rfl, .inl ⟨_, SqL.of W2.hw, rfl⟩, _, _, rfl, rfl, ?_⟩
      have e : ((rws.length : Nat) : Int) - 1 = ((rws.length - 1 : Nat) : Int) := by omega
      show gName 8 (V.int (((rws.length : Nat) : Int) - 1)) _ _ _
      rw [e]
      exact turn_ok C W2 P (by omega) (by omega) fun u as Rs ws rws wvs KL G v8 v9 v10 v11 v12 v13 v14 v15 v16 W P => ⟨u, as, Rs, ws, rws, wvs, KL, _, _, _, _, _, _, _, _, _, _, rfl, W, P, W.pos P⟩
    · exact turn_ok C W2 P (by omega) (by omega) fun u as Rs ws rws wvs KL G v8 v9 v10 v11 v12 v13 v14 v15 v16 W P => ⟨u, as, Rs, ws, rws, wvs, KL, _, _, _, _, _, _, _, _, _, _, rfl, W, P, W.pos P⟩
  · rintro σ G ⟨u, as, Rs, ws, rws, wvs, KL, v7, v8, v9, v10, v11, v12, v13, v14, v15, v16, rfl, W, P, hR⟩
    refine ⟨_, rfl, p2, dx2, _, rfl, W.s2.ins, shF_no (by decide +kernel) (by decide +kernel) (by decide +kernel) (by decide +kernel), ?_⟩
    refine ⟨p2, dx2, lr2, nr2, wr2, 0, _, _, _, rfl, W.s2, rfl, _, rfl, ?_⟩
    refine iteT ?_
    refine ⟨_, rfl, p2, _, dx2, _, _, rfl, W.s2.ins, C.cl, C.nu, shF_u, rfl, _, rfl, iteT ?_⟩
    refine ⟨_, rfl, p2, dx2, _, rfl, W.s2.ins, shF_no (by decide +kernel) (by decide +kernel) (by decide +kernel) (by decide +kernel), ?_⟩
    refine ⟨(by show 2 ≤ sizeLine; decide), fun t1 m1 => ⟨(by show 3 ≤ sizeLine; decide), fun t2 m2 => ⟨(by show 1 ≤ sizeLine; decide), fun t3 m3 => ?_⟩⟩⟩
    have s1 := same_upd (o := .tup [V.str ("num" : Str), V.int 1]) m1
    have s2 := same_upd (o := .tup [V.str ("x" : Str), V.str ("var" : Str), V.ref t1]) m2
    have s3 := same_upd (o := .tup [V.ref t2]) m3
    have Sx := ((W.s2.same s1).same s2).same s3
    have gx : SG (⟨("x" : Str), ("var" : Str), .tuple [.str ("num" : Str), .int 1]⟩ : Sl) := ⟨by decide +kernel, by decide +kernel, (vn_two (m := 1) (wd_ok _ (by decide +kernel)) (fun z => absurd z (wd_nr _ (by decide +kernel)))).g⟩
    refine ⟨p2, dx2, lr2, nr2, wr2, 0, _, _, _, t3, [⟨("x" : Str), ("var" : Str), .tuple [.str ("num" : Str), .int 1]⟩], rfl, Sx, sls_make upd_same (.cons (s3 _ _ upd_same) (.tup (s3 _ _ (s2 _ _ upd_same)) (.cons (.str _) (.cons (.int _) .nil))) .nil), ⟨(fun s hs => by rw [List.mem_singleton.mp hs]; exact gx), by decide⟩, (by show 1 ≤ 100000; decide), fun as' Rs' j H9 k9 S9 x9 hj => ?_⟩
    have ne : rowD [⟨("x" : Str), ("var" : Str), .tuple [.str ("num" : Str), .int 1]⟩] ≠ rowD [] := fun z => by
      have := congrArg List.length (sls_inj z)
      simp at this
    have ej : j = 1 := by
      rcases x9 with ⟨m, _⟩ | ⟨_, rfl⟩
      · exact absurd (List.mem_singleton.mp m) ne
      · have h1 : ([rowD []] ++ [rowD [⟨("x" : Str), ("var" : Str), .tuple [.str ("num" : Str), .int 1]⟩]])[1]? = some (rowD [⟨("x" : Str), ("var" : Str), .tuple [.str ("num" : Str), .int 1]⟩]) := rfl
        exact nd_at S9.nd hj h1
    subst ej
    exact ⟨rfl, q H9⟩
end K41
end
end Rm.U

/-! U42: whole objects and their shapes: Objects.slots, the law's own defs: promises, readings (by gen.py), runs. -/
namespace Rm.U
open PySem PySem.Spec PyProof.Rows L2
open Rm.Q (plD plAll eqv_eq eqvAll_eq tr_pl trs_pl)
def sp_Objects_slots (K : PySem.W.Frag) : Sp := fun vs H Q _ => ∃ (p dx tb : Addr) (tab : List En) (nx : Nat) (e : En), vs = [.ref p, .int (e.id : Int)] ∧ Ob K H p dx tb tab nx ∧ e ∈ tab ∧ e.sl.length ≤ 1000000 ∧
  ∀ q H', Same H H' → Tr H' (.ref q) (slsT e.sl) → Q (.ref q) H'
namespace K42
/-- a slot of an object, here -/
structure SOk (s : Sl) : Prop where
  g : SG s
  kd : ∃ x ∈ kindM, s.kind = Str.ofString x
/-- objects and shapes, side by side -/
structure W6 (K : PySem.W.Frag) (w : World) (G : Hp) (d r po dxo tb p dx lr nr wr li lf : Addr) (tab : List En) (nx : Nat) (u : Int) (as : List Addr) (Rs : List PyData) (ws : List NEnt) (is fs : List Int) (B : Nat) : Prop where
  dr : Dr G d r
  ob : Ob K G po dxo tb tab nx
  sh : Sh K w G p dx lr nr wr u as Rs ws
  hi : G li = some (.lst (is.map V.int))
  hf : G lf = some (.lst (fs.map V.int))
  og : ∀ e ∈ tab, ∀ s ∈ e.sl, SOk s
  le : ∀ e ∈ tab, e.sl.length ≤ B
  wv : WV Rs ws
  lR : Rs.length ≤ B
  lW : ws.length ≤ B
  lT : tab.length ≤ B
  nt : d ≠ tb
  na : ∀ e ∈ tab, d ≠ e.at_
  np : po ≠ p
  nl : [r, lr, li, lf].Nodup
def Mono (Rs Rs' : List PyData) : Prop := ∀ (k : Nat) D, Rs[k]? = some D → Rs'[k]? = some D
def sp_l_change (K : PySem.W.Frag) (w : World) : Sp := fun vs H Q _ => ∃ (d r po dxo tb p dx lr nr wr li lf : Addr) (tab : List En) (nx : Nat) (u : Int) (as : List Addr) (Rs : List PyData) (ws : List NEnt) (is fs : List Int) (B : Nat) (e : En) (m : Nat), vs = [.ref d, .ref po, .ref p, .int (e.id : Int), .int (m : Int)] ∧
  W6 K w H d r po dxo tb p dx lr nr wr li lf tab nx u as Rs ws is fs B ∧ e ∈ tab ∧ Rs[m]? = some (rowD e.sl) ∧ B ≤ 900 ∧
  ∀ (sl : List Sl) (u' : Int) (as' : List Addr) (Rs' : List PyData) (ws' : List NEnt) (i : Nat) H', W6 K w H' d r po dxo tb p dx lr nr wr li lf (setE tab e.id sl) nx u' as' Rs' ws' is fs (B + 1) → Mono Rs Rs' → Rs'[i]? = some (rowD sl) → Q (.int (i : Int)) H'
def sp_law (K : PySem.W.Frag) : Sp := fun vs H Q _ => ∃ (a : Addr) (ns : List Int), vs = [.ref a] ∧ SqL K H a (ns.map V.int) ∧ ns.length ≤ 63 ∧ ∀ H', Q (.bl true) H'
end K42
/-! ### readings -/

def ns_Objects_slots : List Str := ["self", "object_id", "pairs", "name", "kind", "value"]
def t_Objects_slots (K : PySem.W.Frag) (E : XK) : TS :=
  (tSeq (tAsg (tDGet (tFld K (tVar 0) ("table" : Str)) (tVar 1)) (gName 2))
    (tRet (tCB (rTupleOf K) (tCons (tLockE (tLc (iItems (tVar 2)) (gTup K 2 (gCons (gName 3) (gCons (gTup K 2 (gCons (gName 4) (gCons (gName 5) gNil))) gNil))) tYes (tTup (tCons (tVar 3) (tCons (tVar 4) (tCons (tVar 5) tNil)))) [3, 4, 5])) tNil))))

namespace K42
def ns_l_change : List Str := ["d", "objects", "shapes", "one", "shape", "name", "turn", "slot", "kind", "value"]
def t_l_change (K : PySem.W.Frag) (w : World) (E : XK) : TS :=
  (tSeq (tAsg (tCall (sp_l_name K) [] E (tCons (tVar 0) tNil)) (gName 5))
    (tSeq (tAsg (tOp rModI (tCall (sp_l_take K) [] E (tCons (tVar 0) tNil)) (tC (.int 6))) (gName 6))
    (tSeq (tAsg (tMeth (He.ga K ("Objects" : Str)) ("slot" : Str) (sp_Objects_slot K) [] E (tVar 1) (tCons (tVar 3) (tCons (tVar 5) tNil))) (gName 7))
    (tSeq (tIfS (tTest (tOp rEq (tVar 6) (tC (.int 0))))
      (tSeq (tDrop (tMeth (He.ga K ("Objects" : Str)) ("drop" : Str) (sp_Objects_drop K) [] E (tVar 1) (tCons (tVar 3) (tCons (tVar 5) tNil))))
    (tRet (tMeth (He.ga K ("Shapes" : Str)) ("drop" : Str) (sp_Shapes_drop K w) [] E (tVar 2) (tCons (tVar 4) (tCons (tVar 5) tNil)))))
      tNext)
    (tSeq (tIfS (tAnd (tTest (tOp rLtI (tVar 6) (tC (.int 3)))) (tAnd (tTest (tOp rNotN (tVar 7) (tC .non))) (tTest (tOp (rIn K false) (tOp (rIxT K) (tVar 7) (tC (.int 0))) (tTup (tCons (tC (.str ("var" : Str))) (tCons (tC (.str ("varparent" : Str))) tNil)))))))
      (tSeq (tDrop (tMeth (He.ga K ("Objects" : Str)) ("assign" : Str) (sp_Objects_assign K) [] E (tVar 1) (tCons (tVar 3) (tCons (tVar 5) (tCons (tCall (sp_l_value K) [] E (tCons (tVar 0) (tCons (tC (.int 5)) tNil))) tNil)))))
    (tRet (tVar 4)))
      tNext)
    (tSeq (tAsg (tCall (sp_l_kind K) [] E (tCons (tVar 0) tNil)) (gName 8))
    (tSeq (tAsg (tCall (sp_l_value K) [] E (tCons (tVar 0) (tCons (tC (.int 5)) tNil))) (gName 9))
    (tSeq (tDrop (tMeth (He.ga K ("Objects" : Str)) ("put" : Str) (sp_Objects_put K) [] E (tVar 1) (tCons (tVar 3) (tCons (tVar 5) (tCons (tVar 8) (tCons (tVar 9) tNil))))))
    (tRet (tMeth (He.ga K ("Shapes" : Str)) ("put" : Str) (sp_Shapes_put K w) [] E (tVar 2) (tCons (tVar 4) (tCons (tVar 5) (tCons (tVar 8) (tCons (tVar 9) tNil))))))))))))))

def ns_law : List Str := ["script", "d", "objects", "shapes", "ids", "found", "k", "slots", "at", "other", "j", "same"]
def t_law (K : PySem.W.Frag) (w : World) (E : XK) : TS :=
  (tSeq (tAsg (tCall (sp_l_start K) [] E (tCons (tVar 0) tNil)) (gName 1))
    (tSeq (tAsg (tMake (He.ga K ("Objects" : Str)) (sp_Objects_init K) [] E tNil) (gName 2))
    (tSeq (tAsg (tMake (He.ga K ("Shapes" : Str)) (sp_Shapes_init K w) [] E tNil) (gName 3))
    (tSeq (tAsg (tLst (tCons (tC (.int 0)) tNil)) (gName 4))
    (tSeq (tAsg (tLst (tCons (tMeth (He.ga K ("Shapes" : Str)) ("shape_of" : Str) (sp_Shapes_shape_of K w) [] E (tVar 3) (tCons (tMeth (He.ga K ("Objects" : Str)) ("slots" : Str) (sp_Objects_slots K) [] E (tVar 2) (tCons (tC (.int 0)) tNil)) tNil)) tNil)) (gName 5))
    (tSeq (tFor (iRng1 (tCons (tC (.int 4)) tNil)) (gName 6)
      (tSeq (tAsg (tCall (sp_l_slots K) [] E (tCons (tVar 1) (tCons (tC (.int 5)) tNil))) (gName 7))
    (tSeq (tDrop (tBM K "list" rAppend (tVar 4) (tCons (tMeth (He.ga K ("Objects" : Str)) ("make" : Str) (sp_Objects_make K) [] E (tVar 2) (tCons (tVar 7) tNil)) tNil)))
    (tDrop (tBM K "list" rAppend (tVar 5) (tCons (tMeth (He.ga K ("Shapes" : Str)) ("shape_of" : Str) (sp_Shapes_shape_of K w) [] E (tVar 3) (tCons (tVar 7) tNil)) tNil))))))
    (tSeq (tFor (iRng1 (tCons (tOp rAddI (tC (.int 1)) (tOp rModI (tCall (sp_l_take K) [] E (tCons (tVar 1) tNil)) (tC (.int 70)))) tNil)) (gName 6)
      (tSeq (tAsg (tOp rModI (tCall (sp_l_take K) [] E (tCons (tVar 1) tNil)) (tCB (rLen K) (tCons (tVar 4) tNil))) (gName 8))
    (tSeq (tIfS (tTest (tOp rEq (tOp rModI (tCall (sp_l_take K) [] E (tCons (tVar 1) tNil)) (tC (.int 12))) (tC (.int 0))))
      (tSeq (tAsg (tOp rModI (tCall (sp_l_take K) [] E (tCons (tVar 1) tNil)) (tCB (rLen K) (tCons (tVar 4) tNil))) (gName 9))
    (tSeq (tAsg (tMeth (He.ga K ("Objects" : Str)) ("slots" : Str) (sp_Objects_slots K) [] E (tVar 2) (tCons (tOp (rIxL K) (tVar 4) (tVar 9)) tNil)) (gName 7))
    (tSeq (tAsg (tOp (rIxL K) (tVar 5) (tVar 9)) (gSub (tVar 5) (tVar 8) rSetL))
    (tAsg (tMeth (He.ga K ("Objects" : Str)) ("make" : Str) (sp_Objects_make K) [] E (tVar 2) (tCons (tVar 7) tNil)) (gSub (tVar 4) (tVar 8) rSetL)))))
      (tAsg (tCall (sp_l_change K w) [] E (tCons (tVar 1) (tCons (tVar 2) (tCons (tVar 3) (tCons (tOp (rIxL K) (tVar 4) (tVar 8)) (tCons (tOp (rIxL K) (tVar 5) (tVar 8)) tNil)))))) (gSub (tVar 5) (tVar 8) rSetL)))
    (tSeq (tIfS (tTest (tOp rNe (tOp (rIxL K) (tVar 5) (tVar 8)) (tMeth (He.ga K ("Shapes" : Str)) ("shape_of" : Str) (sp_Shapes_shape_of K w) [] E (tVar 3) (tCons (tMeth (He.ga K ("Objects" : Str)) ("slots" : Str) (sp_Objects_slots K) [] E (tVar 2) (tCons (tOp (rIxL K) (tVar 4) (tVar 8)) tNil)) tNil))))
      (tRet (tC (.bl false)))
      tNext)
    (tFor (iRng1 (tCons (tCB (rLen K) (tCons (tVar 4) tNil)) tNil)) (gName 10)
      (tSeq (tAsg (tOp (rEqD K) (tCall (sp_l_row K) [] E (tCons (tMeth (He.ga K ("Objects" : Str)) ("slots" : Str) (sp_Objects_slots K) [] E (tVar 2) (tCons (tOp (rIxL K) (tVar 4) (tVar 10)) tNil)) tNil)) (tCall (sp_l_row K) [] E (tCons (tMeth (He.ga K ("Objects" : Str)) ("slots" : Str) (sp_Objects_slots K) [] E (tVar 2) (tCons (tOp (rIxL K) (tVar 4) (tVar 8)) tNil)) tNil))) (gName 11))
    (tIfS (tTest (tOp rNe (tOp rEq (tOp (rIxL K) (tVar 5) (tVar 10)) (tOp (rIxL K) (tVar 5) (tVar 8))) (tVar 11)))
      (tRet (tC (.bl false)))
      tNext)))))))
    (tRet (tC (.bl true))))))))))
end K42
section
variable {K : PySem.W.Frag} {w : World} {vs : List V} {H : Hp} {Q : VK} {E : XK}
theorem tk_put {u : Addr} {G : Hp} {xs ys : List V} (h : G u = some (.lst xs)) : TK G (upd G u (.lst ys)) := fun b zs e => by
  rw [upd_ne (ne_of e h (by intro z; cases z))]
  exact e
theorem SlR.kv {H : Hp} : ∀ {kvs : List (Key × V)} {sl : List Sl} (i : Nat) {k : Key} {x : V}, SlR H kvs sl → kvs[i]? = some (k, x) → ∃ s q v, sl[i]? = some s ∧ k = Sum.inr s.name ∧ x = .ref q ∧ H q = some (.tup [.str s.kind, v]) ∧ Tr H v s.val
  | _, _, _, _, _, .nil, e => by simp at e
  | _, _, 0, _, _, .cons h t r, e => by
    cases e
    exact ⟨_, _, _, rfl, rfl, rfl, h, t⟩
  | _, _, i + 1, _, _, .cons h t r, e => SlR.kv i r e
theorem take_snoc {α : Type} {l : List α} {i : Nat} {a : α} (h : l[i]? = some a) : l.take (i + 1) = l.take i ++ [a] := by
  rw [List.take_add_one, h]
  rfl
theorem run_Objects_slots (S : ObC K) (h : sp_Objects_slots K vs H Q E) : t_Objects_slots K E (DQ Q) (start ns_Objects_slots vs) H := by
  obtain ⟨p, dx, tb, tab, nx, e, rfl, O, he, hl, q⟩ := h
  obtain ⟨kvs, hk, r⟩ := O.ent e he
  refine ⟨_, rfl, p, _, dx, _, _, rfl, O.ins, S.cl, S.nt, obF_t, _, rfl, tb, _, rfl, O.get he, ?_⟩
  refine ⟨e.at_, .dK kvs, hk, trivial, fun od => ?_⟩
  have lk : kvs.length = e.sl.length := r.len
  have tkF : TK H (upd H e.at_ (.frz od (.dK kvs))) := fun a xs z => by
    rw [upd_ne (ne_of z hk (by intro z; cases z))]
    exact z
  have rF := r.keep tkF
  have fF : (upd H e.at_ (.frz od (.dK kvs))) e.at_ = some (.frz od (.dK kvs)) := upd_same
  refine ⟨_, rfl, e.at_, od, kvs, rfl, fF, fun D nD => ?_⟩
  have oth : ∀ b u, b ≠ e.at_ → H b = some u → (upd H e.at_ (.frz od (.dK kvs))) b = some u := fun b u n z => (upd_ne n).trans z
  generalize upd H e.at_ (.frz od (.dK kvs)) = F at nD tkF rF fF oth ⊢
  have nDe : D ≠ e.at_ := fun z => by
    rw [z, fF] at nD
    cases nD
  refine lc_it walk_items (fun i G => ∃ vs : List V, Same F G ∧ G D = some (.lst vs) ∧ Trs G vs ((e.sl.take i).map slT) ∧ vs.length = i) ⟨[], same_upd nD, upd_same, .nil, rfl⟩ (fun i G _ z => by
    obtain ⟨vs, sm, _⟩ := z
    exact sm _ _ fF) ?_ ?_
  · rintro i x G G' hi ⟨vs, sm, gD, tr, lv⟩ ⟨T, y1, y2, rfl, nT, rfl, h1, h2⟩
    obtain ⟨kv, hkv⟩ : ∃ kv, kvs[i]? = some kv := ⟨kvs[i], List.getElem?_eq_getElem hi⟩
    obtain ⟨k, y⟩ := kv
    obtain ⟨s, qa, v, es, rfl, rfl, hq, tv⟩ := SlR.kv i rF hkv
    dsimp only at h1 h2
    rw [hkv] at h1 h2
    cases h1
    cases h2
    have sT := same_upd (o := .tup [V.str s.name, V.ref qa]) nT
    refine ⟨T, _, rfl, SqT.of upd_same, rfl, _, _, rfl, _, _, rfl, ⟨qa, _, rfl, SqT.of (sT _ _ (sm _ _ hq)), rfl, _, _, rfl, _, _, rfl, rfl, rfl, rfl, ?_⟩⟩
    refine ⟨_, rfl, _, rfl, _, rfl, (by show 3 ≤ sizeLine; decide), fun q1 n1 => ?_⟩
    have s1 := same_upd (o := .tup [V.str s.name, V.str s.kind, v]) n1
    have s01 := sT.trans s1
    have g1 := s01 _ _ gD
    have tk2 := tk_put (ys := vs ++ [V.ref q1]) g1
    refine ⟨_, g1, Nat.lt_of_le_of_lt (show vs.length ≤ 1000000 by omega) (by decide), vs ++ [.ref q1], fun b u z => ?_, upd_same, ?_, by rw [List.length_append, lv]; rfl⟩
    · rw [upd_ne (ne_of_none z nD)]
      exact s01 b u (sm b u z)
    · rw [take_snoc es, List.map_append]
      refine Trs.snoc (.tup (tk2 _ _ upd_same) (.cons (.str _) (.cons (.str _) (.cons ?_ .nil)))) ((tr.keep fun a xs z => s01 a _ z).keep tk2)
      exact (tv.keep fun a xs z => s01 a _ (sm a _ z)).keep tk2
  · rintro G ⟨vs, sm, gD, tr, lv⟩
    refine ⟨sm _ _ fF, ?_⟩
    rw [lk, List.take_length] at tr
    have gD2 : (upd G e.at_ (.dK kvs)) D = some (.lst vs) := (upd_ne nDe).trans gD
    have sH : Same H (upd G e.at_ (.dK kvs)) := fun b u z => by
      by_cases c : b = e.at_
      · rw [c] at z ⊢
        rw [upd_same, ← hk, z]
      · rw [upd_ne c]
        exact sm b u (oth b u c z)
    have tkU : TK G (upd G e.at_ (.dK kvs)) := fun a xs z => by
      rw [upd_ne (ne_of z (sm _ _ fF) (by intro z; cases z))]
      exact z
    refine ⟨D, vs, rfl, .inl ⟨SqL.of gD2, fun l nl => ?_⟩⟩
    have s5 := same_upd (o := .tup vs) nl
    exact q l _ (sH.trans s5) (.tup upd_same ((tr.keep tkU).keep fun a xs z => s5 a _ z))
/-! ### slots and rows -/
theorem put_rw (n : Sl) : ∀ ts : List Sl, putS (ts.map rwS) (rwS n) = (putS ts n).map rwS
  | [] => rfl
  | t :: ts => by
    by_cases c : t.name = n.name
    · have c' : (rwS t).name = (rwS n).name := c
      simp only [List.map_cons, putS]
      rw [if_pos c', if_pos c]
      rfl
    · have c' : ¬ (rwS t).name = (rwS n).name := c
      simp only [List.map_cons, putS]
      rw [if_neg c', if_neg c, put_rw n ts]
      rfl
theorem drop_rw (x : Str) (ts : List Sl) : dropS (ts.map rwS) x = (dropS ts x).map rwS := by
  unfold dropS
  rw [List.filter_map]
  rfl
/-- a slot that is not fixed has another value -/
theorem assign_rw {x : Str} {D : PyData} {s : Sl} : ∀ {ts : List Sl}, getS ts x = some s → isFix s.kind = false → (putS ts ⟨x, s.kind, D⟩).map rwS = ts.map rwS
  | [], h, _ => by cases h
  | t :: ts, h, f => by
    unfold getS at h
    split at h
    · rename_i c
      cases h
      unfold putS
      rw [if_pos c]
      simp only [List.map_cons]
      congr 1
      subst c
      unfold rwS fixV
      simp [f]
    · rename_i c
      unfold putS
      rw [if_neg c, List.map_cons, assign_rw h f]
      rfl
theorem rowD_eq (ts : List Sl) : rowD ts = slsT (ts.map rwS) := rfl
theorem getS_some {ts : List Sl} {x : Str} (h : getS ts x ≠ none) : ∃ s ∈ ts.map rwS, s.name = x := by
  cases e : getS ts x with
  | none => exact absurd e h
  | some s =>
    obtain ⟨a, b⟩ := getS_mem e
    exact ⟨rwS s, List.mem_map.mpr ⟨s, a, rfl⟩, b⟩
namespace K42
theorem Mono.refl (Rs : List PyData) : Mono Rs Rs := fun _ _ h => h
theorem Mono.trans {A B C : List PyData} (a : Mono A B) (b : Mono B C) : Mono A C := fun k D h => b k D (a k D h)
theorem Mono.ext {A B : List PyData} {D : PyData} (x : Ext A D B) : Mono A B := fun _ _ h => x.at h
section
variable {G G' : Hp} {d r po dxo tb p dx lr nr wr li lf : Addr} {tab : List En} {nx : Nat} {u : Int} {as : List Addr} {Rs : List PyData} {ws : List NEnt} {is fs : List Int} {B : Nat}
theorem ob_upto {X : Addr → Prop} (O : Ob K G po dxo tb tab nx) (k : ∀ b o, ¬ X b → G b = some o → G' b = some o) (n1 : ¬ X po) (n2 : ¬ X tb) (n3 : ∀ e ∈ tab, ¬ X e.at_) (tk : TK G G') : Ob K G' po dxo tb tab nx :=
  ⟨k _ _ n1 O.ins, k _ _ n2 O.tbl, fun e he => by
    obtain ⟨kvs, e2, r⟩ := O.ent e he
    exact ⟨kvs, k _ _ (n3 e he) e2, r.keep tk⟩, O.nda, O.tbn, O.ord, O.lt, O.nds, O.val⟩
theorem W6.mono {C : Nat} (W : W6 K w G d r po dxo tb p dx lr nr wr li lf tab nx u as Rs ws is fs B) (h : B ≤ C) : W6 K w G d r po dxo tb p dx lr nr wr li lf tab nx u as Rs ws is fs C :=
  ⟨W.dr, W.ob, W.sh, W.hi, W.hf, W.og, fun e he => Nat.le_trans (W.le e he) h, W.wv, Nat.le_trans W.lR h, Nat.le_trans W.lW h, Nat.le_trans W.lT h, W.nt, W.na, W.np, W.nl⟩
theorem W6.same (W : W6 K w G d r po dxo tb p dx lr nr wr li lf tab nx u as Rs ws is fs B) (s : Same G G') : W6 K w G' d r po dxo tb p dx lr nr wr li lf tab nx u as Rs ws is fs B :=
  ⟨W.dr.same s, W.ob.same s, W.sh.same s, s _ _ W.hi, s _ _ W.hf, W.og, W.le, W.wv, W.lR, W.lW, W.lT, W.nt, W.na, W.np, W.nl⟩
theorem W6.kept (W : W6 K w G d r po dxo tb p dx lr nr wr li lf tab nx u as Rs ws is fs B) (k : Kept d G G') (D : Dr G' d r) : W6 K w G' d r po dxo tb p dx lr nr wr li lf tab nx u as Rs ws is fs B := by
  have tk := W.dr.tk k
  obtain ⟨i, ns, h1, _⟩ := id W.dr
  have f : ∀ b o, G b = some o → (∀ z, o ≠ .dK z) → b ≠ d := fun b o e n => ne_of e h1 (fun z => n _ z)
  exact ⟨D, ob_upto (X := fun b => b = d) W.ob k (f _ _ W.ob.ins (by intro z y; cases y)) (Ne.symm W.nt) (fun e he => Ne.symm (W.na e he)) tk,
    W.sh.upto (X := fun b => b = d) k (f _ _ W.sh.ins (by intro z y; cases y)) (f _ _ W.sh.rows (by intro z y; cases y)) (f _ _ W.sh.num (by intro z y; cases y)) (f _ _ W.sh.way (by intro z y; cases y)) tk,
    k _ _ (f _ _ W.hi (by intro z y; cases y)) W.hi, k _ _ (f _ _ W.hf (by intro z y; cases y)) W.hf, W.og, W.le, W.wv, W.lR, W.lW, W.lT, W.nt, W.na, W.np, W.nl⟩
/-- the objects have changed -/
theorem W6.obj {tab' : List En} {nx' C : Nat} (W : W6 K w G d r po dxo tb p dx lr nr wr li lf tab nx u as Rs ws is fs B) (k : KO po tb tab G G') (O : Ob K G' po dxo tb tab' nx') (og : ∀ e ∈ tab', ∀ s ∈ e.sl, SOk s) (le : ∀ e ∈ tab', e.sl.length ≤ C) (lT : tab'.length ≤ C) (na : ∀ e ∈ tab', d ≠ e.at_) (h : B ≤ C) : W6 K w G' d r po dxo tb p dx lr nr wr li lf tab' nx' u as Rs ws is fs C := by
  have tk := W.ob.tk k
  have k' : ∀ b o, ¬ (b = po ∨ b = tb ∨ ∃ e ∈ tab, b = e.at_) → G b = some o → G' b = some o := fun b o n e => k b o (fun z => n (.inl z)) (fun z => n (.inr (.inl z))) (fun e he z => n (.inr (.inr ⟨e, he, z⟩))) e
  have f : ∀ b o, G b = some o → (∀ C dx fs, o ≠ .ins C dx fs) → (∀ z, o ≠ .dK z) → ¬ (b = po ∨ b = tb ∨ ∃ e ∈ tab, b = e.at_) := fun b o e n1 n2 z => by
    rcases z with z | z | ⟨e', he, z⟩
    · exact ne_of e W.ob.ins (n1 _ _ _) z
    · exact ne_of e W.ob.tbl (n2 _) z
    · obtain ⟨kvs, e2, _⟩ := W.ob.ent e' he
      exact ne_of e e2 (n2 _) z
  have fp : ¬ (p = po ∨ p = tb ∨ ∃ e ∈ tab, p = e.at_) := fun z => by
    rcases z with z | z | ⟨e', he, z⟩
    · exact W.np z.symm
    · exact ne_of W.sh.ins W.ob.tbl (by intro y; cases y) z
    · obtain ⟨kvs, e2, _⟩ := W.ob.ent e' he
      exact ne_of W.sh.ins e2 (by intro y; cases y) z
  obtain ⟨i, ns, h1, h2, h3⟩ := id W.dr
  refine ⟨⟨i, ns, k' _ _ (fun z => ?_) h1, k' _ _ (f _ _ h2 (by intro _ _ _ y; cases y) (by intro _ y; cases y)) h2, h3⟩, O,
    W.sh.upto (X := fun b => b = po ∨ b = tb ∨ ∃ e ∈ tab, b = e.at_) k' fp (f _ _ W.sh.rows (by intro _ _ _ y; cases y) (by intro _ y; cases y)) (f _ _ W.sh.num (by intro _ _ _ y; cases y) (by intro _ y; cases y)) (f _ _ W.sh.way (by intro _ _ _ y; cases y) (by intro _ y; cases y)) tk,
    k' _ _ (f _ _ W.hi (by intro _ _ _ y; cases y) (by intro _ y; cases y)) W.hi, k' _ _ (f _ _ W.hf (by intro _ _ _ y; cases y) (by intro _ y; cases y)) W.hf, og, le, W.wv, Nat.le_trans W.lR h, Nat.le_trans W.lW h, lT, W.nt, na, W.np, W.nl⟩
  rcases z with z | z | ⟨e', he, z⟩
  · exact ne_of h1 W.ob.ins (by intro y; cases y) z
  · exact W.nt z
  · exact W.na e' he z
/-- the shapes have changed -/
theorem W6.shp {u' : Int} {as' : List Addr} {Rs' : List PyData} {ws' : List NEnt} {C : Nat} (W : W6 K w G d r po dxo tb p dx lr nr wr li lf tab nx u as Rs ws is fs B) (k : KP p lr nr wr G G') (S : Sh K w G' p dx lr nr wr u' as' Rs' ws') (wv : WV Rs' ws') (lR : Rs'.length ≤ C) (lW : ws'.length ≤ C) (h : B ≤ C) : W6 K w G' d r po dxo tb p dx lr nr wr li lf tab nx u' as' Rs' ws' is fs C := by
  have tk := W.sh.kp k
  have nl := W.nl
  simp only [List.nodup_cons, List.mem_cons, List.not_mem_nil, or_false, not_or, List.nodup_nil, and_true, not_false_eq_true] at nl
  obtain ⟨⟨l1, l2, l3⟩, ⟨l4, l5⟩, l6⟩ := nl
  have k' : ∀ b o, ¬ (b = p ∨ b = lr ∨ b = nr ∨ b = wr) → G b = some o → G' b = some o := fun b o n e => k b o (fun z => n (.inl z)) (fun z => n (.inr (.inl z))) (fun z => n (.inr (.inr (.inl z)))) (fun z => n (.inr (.inr (.inr z)))) e
  have lst : ∀ b xs, G b = some (.lst xs) → b ≠ lr → G' b = some (.lst xs) := fun b xs e n => k b _ (ne_of e W.sh.ins (by intro z; cases z)) n (dn_ne W.sh.num e (by intro φ z; cases z)) (dn_ne W.sh.way e (by intro φ z; cases z)) e
  have dk : ∀ b xs, G b = some (.dK xs) → ¬ (b = p ∨ b = lr ∨ b = nr ∨ b = wr) := fun b xs e z => by
    rcases z with z | z | z | z
    · exact ne_of e W.sh.ins (by intro y; cases y) z
    · exact ne_of e W.sh.rows (by intro y; cases y) z
    · exact dn_ne W.sh.num e (by intro φ y; cases y) z
    · exact dn_ne W.sh.way e (by intro φ y; cases y) z
  obtain ⟨i, ns, h1, h2, h3⟩ := id W.dr
  refine ⟨⟨i, ns, k' _ _ (dk _ _ h1) h1, lst _ _ h2 l1, h3⟩, ob_upto (X := fun b => b = p ∨ b = lr ∨ b = nr ∨ b = wr) W.ob k' (fun z => ?_) (dk _ _ W.ob.tbl) (fun e he => ?_) tk, S, lst _ _ W.hi (Ne.symm l4), lst _ _ W.hf (Ne.symm l5), W.og, fun e he => Nat.le_trans (W.le e he) h, wv, lR, lW, Nat.le_trans W.lT h, W.nt, W.na, W.np, W.nl⟩
  · rcases z with z | z | z | z
    · exact W.np z
    · exact ne_of W.ob.ins W.sh.rows (by intro y; cases y) z
    · exact dn_ne W.sh.num W.ob.ins (by intro φ y; cases y) z
    · exact dn_ne W.sh.way W.ob.ins (by intro φ y; cases y) z
  · obtain ⟨kvs, e2, _⟩ := W.ob.ent e he
    exact dk _ _ e2
theorem W6.sg (W : W6 K w G d r po dxo tb p dx lr nr wr li lf tab nx u as Rs ws is fs B) (hB : B ≤ 1000) {e : En} (he : e ∈ tab) : SlG e.sl := ⟨fun s hs => (W.og e he s hs).g, Nat.le_trans (W.le e he) hB⟩
end
theorem mem_set {tab : List En} {i : Nat} {sl : List Sl} {P : En → Prop} (h : ∀ e ∈ tab, P e) (h2 : ∀ e ∈ tab, e.id = i → P ⟨e.id, e.at_, sl⟩) : ∀ e ∈ setE tab i sl, P e := fun e he => by
  obtain ⟨e0, m0, rfl⟩ := setE_mem he
  split
  · rename_i c
    exact h2 e0 m0 c
  · exact h e0 m0
theorem setE_len (tab : List En) (i : Nat) (sl : List Sl) : (setE tab i sl).length = tab.length := by
  unfold setE
  rw [List.length_map]
theorem setE_self {tab : List En} (o : tab.Pairwise fun a b => a.id < b.id) {e : En} (he : e ∈ tab) : setE tab e.id e.sl = tab := by
  unfold setE
  have z : ∀ a ∈ tab, (fun a : En => if a.id = e.id then (⟨a.id, a.at_, e.sl⟩ : En) else a) a = id a := fun a ha => by
    by_cases c : a.id = e.id
    · have := id_inj o ha he c
      subst this
      exact if_pos rfl
    · exact if_neg c
  rw [List.map_congr_left z, List.map_id]
theorem name_ok : ∀ x ∈ nameM, PyData.strOk (Str.ofString x) = true := by decide +kernel
theorem kind_ok : ∀ x ∈ kindM, PyData.strOk (Str.ofString x) = true := by decide +kernel
theorem free_kind : ∀ k ∈ kindM, (inV (.str (Str.ofString k)) ([V.str ("var" : Str), V.str ("varparent" : Str)])) = !isFix (Str.ofString k) := fix_kind
theorem run_l_change (h : sp_l_change K w vs H Q E) : t_l_change K w E (DQ Q) (start ns_l_change vs) H := by
  obtain ⟨d, r, po, dxo, tb, p, dx, lr, nr, wr, li, lf, tab, nx, u, as, Rs, ws, is, fs, B, e, m, rfl, W, he, hm, hB, q⟩ := h
  have sgE := W.sg (by omega) he
  refine ⟨_, rfl, d, rfl, r, W.dr, fun x G1 K1 A1 hx => ?_⟩
  have W1 := W.kept K1 A1
  have xo := name_ok x hx
  refine ⟨_, rfl, d, rfl, r, A1, fun z G2 z0 A2 M2 => ⟨_, _, rfl, rfl, (by show (0 : Int) < 6; decide), ?_⟩⟩
  have W2 := W1.kept (Kept.of_moved M2) A2
  refine ⟨_, rfl, po, dxo, _, rfl, W2.ob.ins, obF_no (by decide +kernel) (by decide +kernel), _, rfl, _, rfl, ?_⟩
  have lRw : Rs.length ≤ 100000 := by have := W.lR; omega
  have lWw : ws.length ≤ 100000 := by have := W.lW; omega
  have rd := rw_red e.sl
  have sgR := rw_slg sgE
  have hm' : Rs[m]? = some (slsT (e.sl.map rwS)) := hm
  -- the three ways on
  have dropit : ∀ (G : Hp) (v7 v8 v9 : Option V), W6 K w G d r po dxo tb p dx lr nr wr li lf tab nx u as Rs ws is fs B → 
      (tSeq (tDrop (tMeth (He.ga K ("Objects" : Str)) ("drop" : Str) (sp_Objects_drop K) [] E (tVar 1) (tCons (tVar 3) (tCons (tVar 5) tNil))))
    (tRet (tMeth (He.ga K ("Shapes" : Str)) ("drop" : Str) (sp_Shapes_drop K w) [] E (tVar 2) (tCons (tVar 4) (tCons (tVar 5) tNil))))) (DQ Q) [some (.ref d), some (.ref po), some (.ref p), some (.int (e.id : Int)), some (.int (m : Int)), some (mS x), some (.int (z % 6)), v7, v8, v9] G := fun G v7 v8 v9 W => by
    refine ⟨_, rfl, po, dxo, _, rfl, W.ob.ins, obF_no (by decide +kernel) (by decide +kernel), _, rfl, _, rfl, ?_⟩
    -- behind the drop of the slot
    have shp : ∀ (G' : Hp) (sl : List Sl), W6 K w G' d r po dxo tb p dx lr nr wr li lf (setE tab e.id sl) nx u as Rs ws is fs B → sl.map rwS = dropS (e.sl.map rwS) (Str.ofString x) →
        (tRet (tMeth (He.ga K ("Shapes" : Str)) ("drop" : Str) (sp_Shapes_drop K w) [] E (tVar 2) (tCons (tVar 4) (tCons (tVar 5) tNil)))) (DQ Q) [some (.ref d), some (.ref po), some (.ref p), some (.int (e.id : Int)), some (.int (m : Int)), some (mS x), some (.int (z % 6)), v7, v8, v9] G' := fun G' sl W es => by
      refine ⟨_, rfl, p, dx, _, rfl, W.sh.ins, shF_no (by decide +kernel) (by decide +kernel) (by decide +kernel) (by decide +kernel), _, rfl, _, rfl, ?_⟩
      refine ⟨p, dx, lr, nr, wr, u, as, Rs, ws, m, Str.ofString x, e.sl.map rwS, rfl, xo, W.sh, W.wv, hm', sgR, rd, lRw, lWw, fun hno H' s1 => ?_, fun hyes => ⟨fun i H' hv k S hi => ?_, fun i as' Rs' a H' hv k S wv x5 hi => ?_⟩⟩
      · refine q sl u as Rs ws m H' ((W.same s1).mono (by omega)) (Mono.refl _) ?_
        rw [rowD_eq, es, K41.drop_same hno]
        exact hm'
      · refine q sl (u + 1) as Rs ws i H' (W.shp k S W.wv (by have := W.lR; omega) (by have := W.lW; omega) (by omega)) (Mono.refl _) ?_
        rw [rowD_eq, es]
        exact hi
      · refine q sl u as' Rs' _ i H' (W.shp k S wv (Nat.le_trans x5.len (by have := W.lR; omega)) (by have := W.lW; simp; omega) (by omega)) (Mono.ext x5) ?_
        rw [rowD_eq, es]
        exact hi
    refine ⟨po, dxo, tb, tab, nx, e, Str.ofString x, rfl, W.ob, he, fun g => ?_, fun _ H' ko O => ?_⟩
    · refine shp G e.sl (by rw [setE_self W.ob.ord he]; exact W) ?_
      rw [K41.drop_same]
      intro s hs
      obtain ⟨t, ht, rfl⟩ := List.mem_map.mp hs
      exact getS_none g t ht
    · have ls : (dropS e.sl (Str.ofString x)).length ≤ B := Nat.le_trans (List.length_filter_le _ _) (W.le e he)
      refine shp H' (dropS e.sl (Str.ofString x)) (W.obj ko O (mem_set W.og fun e0 m0 _ s hs => W.og e he s (List.mem_filter.mp hs).1) (mem_set W.le fun e0 m0 _ => ls) (by rw [setE_len]; exact W.lT) (mem_set W.na fun e0 m0 _ => W.na e0 m0) (Nat.le_refl _)) ?_
      rw [drop_rw]
  have putit : ∀ (G : Hp) (v7 v8 v9 : Option V), W6 K w G d r po dxo tb p dx lr nr wr li lf tab nx u as Rs ws is fs B → 
      (tSeq (tAsg (tCall (sp_l_kind K) [] E (tCons (tVar 0) tNil)) (gName 8))
    (tSeq (tAsg (tCall (sp_l_value K) [] E (tCons (tVar 0) (tCons (tC (.int 5)) tNil))) (gName 9))
    (tSeq (tDrop (tMeth (He.ga K ("Objects" : Str)) ("put" : Str) (sp_Objects_put K) [] E (tVar 1) (tCons (tVar 3) (tCons (tVar 5) (tCons (tVar 8) (tCons (tVar 9) tNil))))))
    (tRet (tMeth (He.ga K ("Shapes" : Str)) ("put" : Str) (sp_Shapes_put K w) [] E (tVar 2) (tCons (tVar 4) (tCons (tVar 5) (tCons (tVar 8) (tCons (tVar 9) tNil))))))))) (DQ Q) [some (.ref d), some (.ref po), some (.ref p), some (.int (e.id : Int)), some (.int (m : Int)), some (mS x), some (.int (z % 6)), v7, v8, v9] G := fun G v7 v8 v9 W => by
    refine ⟨_, rfl, d, rfl, r, W.dr, fun kx G3 K3 A3 hkx => ?_⟩
    have W3 := W.kept K3 A3
    refine ⟨_, rfl, d, 5, rfl, r, A3, fun v D G4 K4 A4 tv vn => ?_⟩
    have W4 := W3.kept K4 A4
    have gs : SG (⟨Str.ofString x, Str.ofString kx, D⟩ : Sl) := ⟨xo, kind_ok kx hkx, vn.g⟩
    refine ⟨_, rfl, po, dxo, _, rfl, W4.ob.ins, obF_no (by decide +kernel) (by decide +kernel), _, rfl, _, rfl, _, rfl, _, rfl, ?_⟩
    refine ⟨po, dxo, tb, tab, nx, e, Str.ofString x, Str.ofString kx, v, D, rfl, W4.ob, he, tv, vn.ok, by have := W4.le e he; omega, fun G5 ko O => ?_⟩
    have tk5 := W4.ob.tk ko
    have ls : (putS e.sl ⟨Str.ofString x, Str.ofString kx, D⟩).length ≤ B + 1 := Nat.le_trans (putS_len _ _) (by have := W4.le e he; omega)
    have W5 : W6 K w G5 d r po dxo tb p dx lr nr wr li lf (setE tab e.id (putS e.sl ⟨Str.ofString x, Str.ofString kx, D⟩)) nx u as Rs ws is fs (B + 1) :=
      W4.obj ko O (mem_set W4.og fun e0 m0 _ s hs => by
        rcases putS_mem hs with hs | rfl
        · exact W4.og e he s hs
        · exact ⟨gs, kx, hkx, rfl⟩) (mem_set (fun e0 m0 => Nat.le_trans (W4.le e0 m0) (Nat.le_succ B)) fun e0 m0 _ => ls) (by rw [setE_len]; exact Nat.le_trans W4.lT (Nat.le_succ B)) (mem_set W4.na fun e0 m0 _ => W4.na e0 m0) (Nat.le_succ B)
    refine ⟨_, rfl, p, dx, _, rfl, W5.sh.ins, shF_no (by decide +kernel) (by decide +kernel) (by decide +kernel) (by decide +kernel), _, rfl, _, rfl, _, rfl, _, rfl, ?_⟩
    have er : rowD (putS e.sl ⟨Str.ofString x, Str.ofString kx, D⟩) = slsT (chF (.put (rwS ⟨Str.ofString x, Str.ofString kx, D⟩)) (e.sl.map rwS)) := by
      rw [rowD_eq, ← put_rw]
      rfl
    refine ⟨p, dx, lr, nr, wr, u, as, Rs, ws, m, ⟨Str.ofString x, Str.ofString kx, D⟩, v, e.sl.map rwS, rfl, tv.keep tk5, gs, W5.sh, W5.wv, hm', sgR, rd, (by rw [List.length_map]; have := W4.le e he; omega), lRw, lWw, fun i H' hv k S hi => ?_, fun i as' Rs' a H' hv k S wv x5 hi => ?_⟩
    · exact q _ (u + 1) as Rs ws i H' (W5.shp k S W5.wv W5.lR W5.lW (Nat.le_refl _)) (Mono.refl _) (by rw [er]; exact hi)
    · exact q _ u as' Rs' _ i H' (W5.shp k S wv (Nat.le_trans x5.len (by have := W4.lR; omega)) (by have := W4.lW; simp; omega) (Nat.le_refl _)) (Mono.ext x5) (by rw [er]; exact hi)
  refine ⟨po, dxo, tb, tab, nx, e, Str.ofString x, rfl, W2.ob, he, fun g => ?_, fun s0 qa v0 g hq tv0 => ?_⟩
  · refine ⟨_, rfl, rfl, _, rfl, ite2 (fun _ => dropit G2 _ _ _ W2) (fun _ => ?_)⟩
    refine ⟨_, rfl, _, _, rfl, rfl, _, rfl, ite2 (fun _ => ?_) (fun _ => iteF (putit G2 _ _ _ W2))⟩
    refine ⟨_, rfl, rfl, _, rfl, ?_⟩
    exact iteF (iteF (putit G2 _ _ _ W2))
  · refine ⟨_, rfl, rfl, _, rfl, ite2 (fun _ => dropit G2 _ _ _ W2) (fun _ => ?_)⟩
    refine ⟨_, rfl, _, _, rfl, rfl, _, rfl, ite2 (fun _ => ?_) (fun _ => iteF (putit G2 _ _ _ W2))⟩
    refine ⟨_, rfl, rfl, _, rfl, ?_⟩
    refine iteT ?_
    refine ⟨_, rfl, qa, _, _, _, rfl, rfl, SqT.of hq, atI_nat (j := 0) rfl, (by show 2 ≤ sizeLine; decide), fun p2 n2 => ?_⟩
    have s3 := same_upd (o := .tup [V.str ("var" : Str), V.str ("varparent" : Str)]) n2
    have W3 := W2.same s3
    refine ⟨_, _, rfl, .inr (SqT.of upd_same), rfl, (by decide +kernel), _, rfl, ?_⟩
    obtain ⟨kx, hkx, ekx⟩ := (W2.og e he s0 (getS_mem g).1).kd
    have eK : inV (.str s0.kind) ([V.str ("var" : Str), V.str ("varparent" : Str)]) = !isFix s0.kind := by
      rw [ekx]
      exact fix_kind kx hkx
    show (if inV (.str s0.kind) ([V.str ("var" : Str), V.str ("varparent" : Str)]) = true then _ else _)
    rw [eK]
    cases c : isFix s0.kind with
    | true => exact iteF (putit _ _ _ _ W3)
    | false =>
      refine iteT ?_
      refine ⟨_, rfl, po, dxo, _, rfl, W3.ob.ins, obF_no (by decide +kernel) (by decide +kernel), _, rfl, _, rfl, _, rfl, d, 5, rfl, r, W3.dr, fun v D G4 K4 A4 tv vn => ?_⟩
      have W4 := W3.kept K4 A4
      refine ⟨po, dxo, tb, tab, nx, e, Str.ofString x, v, D, s0, rfl, W4.ob, he, tv, vn.ok, by have := W4.le e he; omega, g, fun G5 ko O => ?_⟩
      have ls : (putS e.sl ⟨Str.ofString x, s0.kind, D⟩).length ≤ B + 1 := Nat.le_trans (putS_len _ _) (by have := W4.le e he; omega)
      have W5 : W6 K w G5 d r po dxo tb p dx lr nr wr li lf (setE tab e.id (putS e.sl ⟨Str.ofString x, s0.kind, D⟩)) nx u as Rs ws is fs (B + 1) :=
        W4.obj ko O (mem_set W4.og fun e0 m0 _ s hs => by
          rcases putS_mem hs with hs | rfl
          · exact W4.og e he s hs
          · exact ⟨⟨xo, (W2.og e he s0 (getS_mem g).1).g.kd, vn.g⟩, kx, hkx, ekx⟩) (mem_set (fun e0 m0 => Nat.le_trans (W4.le e0 m0) (Nat.le_succ B)) fun e0 m0 _ => ls) (by rw [setE_len]; exact Nat.le_trans W4.lT (Nat.le_succ B)) (mem_set W4.na fun e0 m0 _ => W4.na e0 m0) (Nat.le_succ B)
      refine ⟨_, rfl, q _ u as Rs ws m G5 W5 (Mono.refl _) ?_⟩
      rw [rowD_eq, assign_rw g c]
      exact hm'
/-! ### the law -/
theorem ix_nat {n j : Nat} (hj : j < n) : ixN n (j : Int) = some j := by
  unfold ixN
  rw [if_pos (by omega), if_pos (by omega), Int.toNat_natCast]
theorem putS_new : ∀ {ts : List Sl} {n : Sl}, n.name ∉ ts.map (·.name) → putS ts n = ts ++ [n]
  | [], _, _ => rfl
  | t :: ts, n, h => by
    unfold putS
    rw [if_neg fun z => h (by rw [List.map_cons, z]; exact List.mem_cons_self), putS_new fun z => h (List.mem_cons_of_mem _ z)]
    rfl
theorem mkS_nd' : ∀ (ts acc : List Sl), ((acc ++ ts).map (·.name)).Nodup → ts.foldl putS acc = acc ++ ts
  | [], acc, _ => by rw [List.append_nil]; rfl
  | t :: ts, acc, h => by
    have n1 : t.name ∉ acc.map (·.name) := by
      rw [List.map_append, List.nodup_append] at h
      exact fun z => h.2.2 _ z _ (by rw [List.map_cons]; exact List.mem_cons_self) rfl
    rw [List.foldl_cons, putS_new n1, mkS_nd' ts (acc ++ [t]) (by rw [List.append_assoc]; exact h), List.append_assoc]
    rfl
theorem mkS_nd {ts : List Sl} (h : NdS ts) : mkS ts = ts := mkS_nd' ts [] h
section
variable {G G' : Hp} {d r po dxo tb p dx lr nr wr li lf : Addr} {tab : List En} {nx : Nat} {u : Int} {as : List Addr} {Rs : List PyData} {ws : List NEnt} {is fs : List Int} {B : Nat}
/-- a list of the law's own is another -/
theorem W6.lst {l : Addr} {ys zs : List V} (W : W6 K w G d r po dxo tb p dx lr nr wr li lf tab nx u as Rs ws is fs B) (hl : G l = some (.lst ys)) (n1 : l ≠ r) (n2 : l ≠ lr) : TK G (upd G l (.lst zs)) ∧ Dr (upd G l (.lst zs)) d r ∧ Ob K (upd G l (.lst zs)) po dxo tb tab nx ∧ Sh K w (upd G l (.lst zs)) p dx lr nr wr u as Rs ws := by
  have k : ∀ b, b ≠ l → (upd G l (.lst zs)) b = G b := fun b n => upd_ne n
  have tk : TK G (upd G l (.lst zs)) := fun b xs e => (k b (ne_of e hl (by intro z; cases z))).trans e
  have f : ∀ b o, ¬ b = l → G b = some o → (upd G l (.lst zs)) b = some o := fun b o n e => (k b n).trans e
  obtain ⟨i, ns, h1, h2, h3⟩ := id W.dr
  exact ⟨tk, ⟨i, ns, f _ _ (ne_of h1 hl (by intro z; cases z)) h1, f _ _ (Ne.symm n1) h2, h3⟩,
    ob_upto (X := fun b => b = l) W.ob f (ne_of W.ob.ins hl (by intro z; cases z)) (ne_of W.ob.tbl hl (by intro z; cases z)) (fun e he => by
      obtain ⟨kvs, e2, _⟩ := W.ob.ent e he
      exact ne_of e2 hl (by intro z; cases z)) tk,
    W.sh.upto (X := fun b => b = l) f (ne_of W.sh.ins hl (by intro z; cases z)) (Ne.symm n2) (Ne.symm (dn_ne W.sh.num hl (by intro φ z; cases z))) (Ne.symm (dn_ne W.sh.way hl (by intro φ z; cases z))) tk⟩
theorem W6.seti {is' : List Int} {zs : List V} (W : W6 K w G d r po dxo tb p dx lr nr wr li lf tab nx u as Rs ws is fs B) (hz : zs = is'.map V.int) : W6 K w (upd G li (.lst zs)) d r po dxo tb p dx lr nr wr li lf tab nx u as Rs ws is' fs B := by
  subst hz
  have nl := W.nl
  simp only [List.nodup_cons, List.mem_cons, List.not_mem_nil, or_false, not_or, List.nodup_nil, and_true, not_false_eq_true] at nl
  obtain ⟨⟨l1, l2, l3⟩, ⟨l4, l5⟩, l6⟩ := nl
  obtain ⟨tk, D, O, S⟩ := W.lst (zs := is'.map V.int) W.hi (Ne.symm l2) (Ne.symm l4)
  exact ⟨D, O, S, upd_same, (upd_ne (Ne.symm l6)).trans W.hf, W.og, W.le, W.wv, W.lR, W.lW, W.lT, W.nt, W.na, W.np, W.nl⟩
theorem W6.setf {fs' : List Int} {zs : List V} (W : W6 K w G d r po dxo tb p dx lr nr wr li lf tab nx u as Rs ws is fs B) (hz : zs = fs'.map V.int) : W6 K w (upd G lf (.lst zs)) d r po dxo tb p dx lr nr wr li lf tab nx u as Rs ws is fs' B := by
  subst hz
  have nl := W.nl
  simp only [List.nodup_cons, List.mem_cons, List.not_mem_nil, or_false, not_or, List.nodup_nil, and_true, not_false_eq_true] at nl
  obtain ⟨⟨l1, l2, l3⟩, ⟨l4, l5⟩, l6⟩ := nl
  obtain ⟨tk, D, O, S⟩ := W.lst (zs := fs'.map V.int) W.hf (Ne.symm l3) (Ne.symm l5)
  exact ⟨D, O, S, (upd_ne l6).trans W.hi, upd_same, W.og, W.le, W.wv, W.lR, W.lW, W.lT, W.nt, W.na, W.np, W.nl⟩
/-- what is found is the shape of what the id names -/
structure Rel (tab : List En) (nx : Nat) (Rs : List PyData) (is fs : List Int) : Prop where
  len : is.length = fs.length
  nd : is.Nodup
  at_ : ∀ (j : Nat) (i f : Int), is[j]? = some i → fs[j]? = some f → ∃ e ∈ tab, i = (e.id : Int) ∧ ∃ m : Nat, f = (m : Int) ∧ Rs[m]? = some (rowD e.sl)
theorem Rel.mono {Rs' : List PyData} (h : Rel tab nx Rs is fs) (m : Mono Rs Rs') : Rel tab nx Rs' is fs := ⟨h.len, h.nd, fun j i f a b => by
  obtain ⟨e, he, ei, k, ef, hk⟩ := h.at_ j i f a b
  exact ⟨e, he, ei, k, ef, m k _ hk⟩⟩
theorem Rel.more {nx' : Nat} {t : List En} (h : Rel tab nx Rs is fs) : Rel (tab ++ t) nx' Rs is fs := ⟨h.len, h.nd, fun j i f a b => by
  obtain ⟨e, he, r⟩ := h.at_ j i f a b
  exact ⟨e, List.mem_append_left _ he, r⟩⟩
theorem Rel.lt (h : Rel tab nx Rs is fs) (lt : ∀ e ∈ tab, e.id < nx) : ∀ i ∈ is, i < (nx : Int) := fun i hi => by
  obtain ⟨j, hj⟩ := List.mem_iff_getElem?.mp hi
  have hl : j < fs.length := by
    have := (List.getElem?_eq_some_iff.mp hj).1
    have := h.len
    omega
  obtain ⟨e, he, ei, _⟩ := h.at_ j i fs[j] hj (List.getElem?_eq_getElem hl)
  have := lt e he
  omega
/-- the shape of an object's slots -/
theorem shape_at {σ : L2.St} {te : TE} {i2 i3 : Nat} {e : En} {Z : VK} (W : W6 K w G d r po dxo tb p dx lr nr wr li lf tab nx u as Rs ws is fs B) (hB : B ≤ 900) (he : e ∈ tab) (h3 : σ[i3]? = some (some (.ref p))) (h2 : σ[i2]? = some (some (.ref po))) (ht : ∀ Z : VK, Z (.int (e.id : Int)) G → te σ G Z)
    (y : ∀ (as' : List Addr) (Rs' : List PyData) (j : Nat) G', W6 K w G' d r po dxo tb p dx lr nr wr li lf tab nx u as' Rs' ws is fs (B + 1) → Mono Rs Rs' → Rs'[j]? = some (rowD e.sl) → Z (.int (j : Int)) G') :
    (tMeth (He.ga K ("Shapes" : Str)) ("shape_of" : Str) (sp_Shapes_shape_of K w) [] E (tVar i3) (tCons (tMeth (He.ga K ("Objects" : Str)) ("slots" : Str) (sp_Objects_slots K) [] E (tVar i2) (tCons te tNil)) tNil)) σ G Z := by
  refine ⟨_, h3, p, dx, _, rfl, W.sh.ins, shF_no (by decide +kernel) (by decide +kernel) (by decide +kernel) (by decide +kernel), ?_⟩
  refine ⟨_, h2, po, dxo, _, rfl, W.ob.ins, obF_no (by decide +kernel) (by decide +kernel), ht _ ?_⟩
  refine ⟨po, dxo, tb, tab, nx, e, rfl, W.ob, he, by have := W.le e he; omega, fun q G1 s1 t1 => ?_⟩
  have W1 := W.same s1
  refine ⟨p, dx, lr, nr, wr, u, as, Rs, ws, q, e.sl, rfl, W1.sh, t1, W.sg (by omega) he, by have := W.lR; omega, fun as' Rs' j G2 k2 S2 x2 hj => ?_⟩
  exact y as' Rs' j G2 (W1.shp (KP.of_ks k2) S2 (W.wv.ext x2) (Nat.le_trans x2.len (by have := W.lR; omega)) (Nat.le_trans W.lW (Nat.le_succ B)) (Nat.le_succ B)) (Mono.ext x2) hj
/-- the row of an object's slots -/
theorem row_at {σ : L2.St} {te : TE} {i2 : Nat} {e : En} {Z : VK} (W : W6 K w G d r po dxo tb p dx lr nr wr li lf tab nx u as Rs ws is fs B) (hB : B ≤ 900) (he : e ∈ tab) (h2 : σ[i2]? = some (some (.ref po))) (ht : ∀ Z : VK, Z (.int (e.id : Int)) G → te σ G Z)
    (y : ∀ q G', Same G G' → Tr G' (.ref q) (rowD e.sl) → Z (.ref q) G') :
    (tCall (sp_l_row K) [] E (tCons (tMeth (He.ga K ("Objects" : Str)) ("slots" : Str) (sp_Objects_slots K) [] E (tVar i2) (tCons te tNil)) tNil)) σ G Z := by
  refine ⟨_, h2, po, dxo, _, rfl, W.ob.ins, obF_no (by decide +kernel) (by decide +kernel), ht _ ?_⟩
  refine ⟨po, dxo, tb, tab, nx, e, rfl, W.ob, he, by have := W.le e he; omega, fun q G1 s1 t1 => ?_⟩
  exact ⟨q, e.sl, rfl, t1, fun s hs => (W.og e he s hs).kd, by have := W.le e he; omega, fun q2 G2 s2 _ t2 => y q2 G2 (s1.trans s2) t2⟩
end
theorem lobby_ok : SOk lobbyS := ⟨⟨by decide +kernel, by decide +kernel, (vn_two (m := 1) (wd_ok _ (by decide +kernel)) (fun _ => ⟨by decide, by decide⟩)).g⟩, "const", by decide, rfl⟩
theorem sn_ok {m : Int} {s : Sl} (h : SN m s) : SOk s := by
  obtain ⟨⟨x, hx, ex⟩, ⟨k, hk, ek⟩, v⟩ := h
  exact ⟨⟨by rw [ex]; exact name_ok x hx, by rw [ek]; exact kind_ok k hk, v.g⟩, k, hk, ek⟩
/-- the end of a turn: the check of all pairs -/
def tPairs2 (K : PySem.W.Frag) (E : XK) : TS :=
    (tFor (iRng1 (tCons (tCB (rLen K) (tCons (tVar 4) tNil)) tNil)) (gName 10)
      (tSeq (tAsg (tOp (rEqD K) (tCall (sp_l_row K) [] E (tCons (tMeth (He.ga K ("Objects" : Str)) ("slots" : Str) (sp_Objects_slots K) [] E (tVar 2) (tCons (tOp (rIxL K) (tVar 4) (tVar 10)) tNil)) tNil)) (tCall (sp_l_row K) [] E (tCons (tMeth (He.ga K ("Objects" : Str)) ("slots" : Str) (sp_Objects_slots K) [] E (tVar 2) (tCons (tOp (rIxL K) (tVar 4) (tVar 8)) tNil)) tNil))) (gName 11))
    (tIfS (tTest (tOp rNe (tOp rEq (tOp (rIxL K) (tVar 5) (tVar 10)) (tOp (rIxL K) (tVar 5) (tVar 8))) (tVar 11)))
      (tRet (tC (.bl false)))
      tNext)))
def tEnd2 (K : PySem.W.Frag) (w : World) (E : XK) : TS :=
    (tSeq (tIfS (tTest (tOp rNe (tOp (rIxL K) (tVar 5) (tVar 8)) (tMeth (He.ga K ("Shapes" : Str)) ("shape_of" : Str) (sp_Shapes_shape_of K w) [] E (tVar 3) (tCons (tMeth (He.ga K ("Objects" : Str)) ("slots" : Str) (sp_Objects_slots K) [] E (tVar 2) (tCons (tOp (rIxL K) (tVar 4) (tVar 8)) tNil)) tNil))))
      (tRet (tC (.bl false)))
      tNext)
    (tPairs2 K E))
theorem end_ok {G : Hp} {d r po dxo tb p dx lr nr wr li lf : Addr} {tab : List En} {nx : Nat} {u : Int} {as : List Addr} {Rs : List PyData} {ws : List NEnt} {is fs : List Int} {B a : Nat} {D : Ends} {v0 v6 v7 v9 v10 v11 : Option V}
    (W : W6 K w G d r po dxo tb p dx lr nr wr li lf tab nx u as Rs ws is fs B) (R : Rel tab nx Rs is fs) (hB : B ≤ 800) (ha : a < is.length) (hl : is.length ≤ 100)
    (fin : ∀ (as : List Addr) (Rs : List PyData) (G : Hp) (v10 v11 : Option V), W6 K w G d r po dxo tb p dx lr nr wr li lf tab nx u as Rs ws is fs (B + 1) → Rel tab nx Rs is fs → D.nx [v0, some (.ref d), some (.ref po), some (.ref p), some (.ref li), some (.ref lf), v6, v7, some (.int (a : Int)), v9, v10, v11] G) :
    tEnd2 K w E D [v0, some (.ref d), some (.ref po), some (.ref p), some (.ref li), some (.ref lf), v6, v7, some (.int (a : Int)), v9, v10, v11] G := by
  have hal : a < fs.length := by have := R.len; omega
  obtain ⟨ea, hea, eia, ma, efa, hma⟩ := R.at_ a is[a] fs[a] (List.getElem?_eq_getElem ha) (List.getElem?_eq_getElem hal)
  have hfa : (fs.map V.int)[a]? = some (.int (ma : Int)) := by rw [List.getElem?_map, List.getElem?_eq_getElem hal, efa]; rfl
  have hia : (is.map V.int)[a]? = some (.int (ea.id : Int)) := by rw [List.getElem?_map, List.getElem?_eq_getElem ha, eia]; rfl
  refine ⟨_, rfl, _, rfl, lf, _, _, _, rfl, rfl, SqL.of W.hf, atI_nat hfa, ?_⟩
  refine shape_at W (by omega) hea rfl rfl (fun Z z => ⟨_, rfl, _, rfl, li, _, _, _, rfl, rfl, SqL.of W.hi, atI_nat hia, z⟩) fun as' Rs' j G1 W1 mo hj => ?_
  have ej : j = ma := nd_at W1.sh.nd hj (mo _ _ hma)
  subst ej
  refine ⟨rfl, _, rfl, ?_⟩
  rw [decide_eq_true rfl]
  refine iteF ?_
  have R1 := R.mono mo
  refine ⟨_, rfl, _, _, rfl, .inl ⟨_, SqL.of W1.hi, rfl⟩, ?_⟩
  rw [List.length_map]
  refine ⟨(is.length : Int), rfl, by omega, by omega, ?_⟩
  rw [Int.toNat_natCast]
  refine for_range (lo := 0) (n := is.length) (fun k σ G => ∃ (v10 v11 : Option V), σ = [v0, some (.ref d), some (.ref po), some (.ref p), some (.ref li), some (.ref lf), v6, v7, some (.int (a : Int)), v9, v10, v11] ∧ W6 K w G d r po dxo tb p dx lr nr wr li lf tab nx u as' Rs' ws is fs (B + 1)) ⟨_, _, rfl, W1⟩ ?_ ?_
  · rintro k σ G2 hk ⟨v10, v11, rfl, W2⟩
    have hkl : k < fs.length := by have := R.len; omega
    obtain ⟨ek, hek, eik, mk, efk, hmk⟩ := R1.at_ k is[k] fs[k] (List.getElem?_eq_getElem hk) (List.getElem?_eq_getElem hkl)
    have hfk : (fs.map V.int)[k]? = some (.int (mk : Int)) := by rw [List.getElem?_map, List.getElem?_eq_getElem hkl, efk]; rfl
    have hik : (is.map V.int)[k]? = some (.int (ek.id : Int)) := by rw [List.getElem?_map, List.getElem?_eq_getElem hk, eik]; rfl
    have e0 : (0 : Int) + (k : Int) = (k : Int) := by omega
    rw [e0]
    refine row_at W2 (by omega) hek rfl (fun Z z => ⟨_, rfl, _, rfl, li, _, _, _, rfl, rfl, SqL.of W2.hi, atI_nat hik, z⟩) fun q1 G3 s3 t3 => ?_
    have W3 := W2.same s3
    refine row_at W3 (by omega) hea rfl (fun Z z => ⟨_, rfl, _, rfl, li, _, _, _, rfl, rfl, SqL.of W3.hi, atI_nat hia, z⟩) fun q2 G4 s4 t4 => ?_
    have W4 := W3.same s4
    have shk := shaped_row (W2.sg (by omega) hek)
    have sha := shaped_row (W2.sg (by omega) hea)
    have plk : plD (rowD ek.sl) = true := sls_pl (rw_slg (W2.sg (by omega) hek)).all
    have pla : plD (rowD ea.sl) = true := sls_pl (rw_slg (W2.sg (by omega) hea)).all
    refine ⟨_, _, (t3.keep fun b xs e => s4 b _ e).dp, t4.dp, shk, sha, ?_⟩
    refine ⟨_, rfl, _, rfl, lf, _, _, _, rfl, rfl, SqL.of W4.hf, atI_nat hfk, _, rfl, _, rfl, lf, _, _, _, rfl, rfl, SqL.of W4.hf, atI_nat hfa, rfl, _, rfl, rfl, _, rfl, ?_⟩
    have eb : decide (V.int (mk : Int) = V.int (j : Int)) = PyData.eqv (rowD ek.sl) (rowD ea.sl) := by
      by_cases c : mk = j
      · subst c
        rw [decide_eq_true rfl]
        have : rowD ek.sl = rowD ea.sl := by
          have h1 := hmk
          rw [hj] at h1
          exact (Option.some.inj h1).symm
        rw [this, SeqAt.eqv_refl _ (SeqAt.canLay_of_shaped sha)]
      · rw [decide_eq_false fun z => c (by have := V.int.inj z; omega)]
        cases z : PyData.eqv (rowD ek.sl) (rowD ea.sl) with
        | false => rfl
        | true =>
          have := eqv_eq _ _ plk pla z
          rw [this] at hmk
          exact absurd (nd_at W4.sh.nd hmk hj) c
    rw [eb]
    rw [decide_eq_true rfl]
    exact iteF ⟨_, _, rfl, W4⟩
  · rintro σ G2 ⟨v10, v11, rfl, W2⟩
    exact fin as' Rs' G2 v10 v11 W2 R1
theorem Rel.snoc {tab : List En} {nx : Nat} {Rs : List PyData} {is fs : List Int} {i m : Nat} {e : En} (h : Rel tab nx Rs is fs) (he : e ∈ tab) (ei : e.id = i) (ni : (i : Int) ∉ is) (hm : Rs[m]? = some (rowD e.sl)) : Rel tab nx Rs (is ++ [(i : Int)]) (fs ++ [(m : Int)]) := by
  refine ⟨by simp [h.len], ?_, fun j a b ha hb => ?_⟩
  · rw [List.nodup_append]
    exact ⟨h.nd, by simp, fun x hx y hy z => ni (by rw [List.mem_singleton.mp hy] at z; rw [← z]; exact hx)⟩
  · by_cases c : j < is.length
    · rw [List.getElem?_append_left c] at ha
      rw [List.getElem?_append_left (by rw [← h.len]; exact c)] at hb
      exact h.at_ j a b ha hb
    · have hj : j = is.length := by
        have := (List.getElem?_eq_some_iff.mp ha).1
        simp at this
        omega
      subst hj
      rw [List.getElem?_append_right (Nat.le_refl _), Nat.sub_self] at ha
      rw [List.getElem?_append_right (by rw [h.len]; exact Nat.le_refl _), h.len, Nat.sub_self] at hb
      cases ha
      cases hb
      exact ⟨e, he, by rw [ei], m, rfl, hm⟩
/-- one of the objects is another, with its shape -/
theorem Rel.set {tab tab' : List En} {nx nx' : Nat} {Rs : List PyData} {is fs : List Int} {a i m : Nat} {e : En} (h : Rel tab nx Rs is fs) (he : e ∈ tab') (ei : e.id = i) (ha : a < is.length) (hm : Rs[m]? = some (rowD e.sl)) (hnd : (is.set a (i : Int)).Nodup)
    (oth : ∀ (j : Nat) (e : En), j ≠ a → e ∈ tab → is[j]? = some (e.id : Int) → ∃ e' ∈ tab', e'.id = e.id ∧ e'.sl = e.sl) : Rel tab' nx' Rs (is.set a (i : Int)) (fs.set a (m : Int)) := by
  refine ⟨by simp [h.len], hnd, fun j x y hx hy => ?_⟩
  by_cases c : j = a
  · subst c
    rw [List.getElem?_set_self ha] at hx
    rw [List.getElem?_set_self (by rw [← h.len]; exact ha)] at hy
    cases hx
    cases hy
    exact ⟨e, he, by rw [ei], m, rfl, hm⟩
  · rw [List.getElem?_set_ne (Ne.symm c)] at hx hy
    obtain ⟨e1, h1, e2, k, e3, hk⟩ := h.at_ j x y hx hy
    rw [e2] at hx
    obtain ⟨e', h', e4, e5⟩ := oth j e1 c h1 hx
    exact ⟨e', h', by rw [e2, e4], k, e3, by rw [e5]; exact hk⟩
theorem run_law (C : ShK K) (h : sp_law K vs H Q E) : t_law K w E (DQ Q) (start ns_law vs) H := by
  obtain ⟨a, ns, rfl, hS, hl, q⟩ := h
  refine ⟨_, rfl, a, ns, rfl, hS, hl, fun d r H1 s1 nd nr0 D1 => ?_⟩
  intro po dxo npo ndxo nxpo
  have S1 : Same H1 (upd (upd H1 dxo (.own po)) po (.ins (OC K) dxo [])) := fun b u z => by
    rw [upd_ne (ne_of_none z npo), upd_ne (ne_of_none z ndxo)]
    exact z
  have D1' := D1.same S1
  have dpo : d ≠ po := D1.neD npo
  have rpo : r ≠ po := D1.neR npo
  refine ⟨po, dxo, rfl, upd_same, fun tb o0 H2 k2 ntb no0 O2 => ⟨rfl, ?_⟩⟩
  have D2 : Dr H2 d r := D1'.keep fun b o h e => k2 b o (by rcases h with rfl | rfl; exact dpo; exact rpo) e
  have dtb : d ≠ tb := D1'.neD ntb
  have do0 : d ≠ o0 := D1'.neD no0
  intro p dx np ndx nxp
  have S2 : Same H2 (upd (upd H2 dx (.own p)) p (.ins (ShC K) dx [])) := fun b u z => by
    rw [upd_ne (ne_of_none z np), upd_ne (ne_of_none z ndx)]
    exact z
  have D2' := D2.same S2
  have O2' := O2.same S2
  have dp : d ≠ p := D2.neD np
  have rp : r ≠ p := D2.neR np
  have pop : po ≠ p := ne_of_none O2.ins np
  refine ⟨p, dx, rfl, upd_same, fun lr nr wr q0 H3 k3 nlr nnr nwr Sc => ⟨rfl, ?_⟩⟩
  have D3 : Dr H3 d r := D2'.keep fun b o h e => k3 b o (by rcases h with rfl | rfl; exact dp; exact rp) e
  have tk3 : TK (upd (upd H2 dx (.own p)) p (.ins (ShC K) dx [])) H3 := fun b xs e => k3 b _ (ne_of e upd_same (by intro z; cases z)) e
  have O3 : Ob K H3 po dxo tb [⟨0, o0, [lobbyS]⟩] 1 := ob_upto (X := fun b => b = p) O2' k3 pop (ne_of_none O2.tbl np) (fun e he => by
    obtain ⟨kvs, e2, _⟩ := O2.ent e he
    exact ne_of_none e2 np) tk3
  have rlr : r ≠ lr := D2'.neR nlr
  -- ids, found
  refine ⟨(by show 1 ≤ sizeLine; decide), fun li nli => ?_⟩
  have s4 := same_upd (o := .lst [V.int 0]) nli
  have rli : r ≠ li := D3.neR nli
  have lli : lr ≠ li := ne_of_none Sc.rows nli
  have D4 := D3.same s4
  have O4 := O3.same s4
  have Sd := Sc.same s4
  have hli : (upd H3 li (.lst [V.int 0])) li = some (.lst [V.int 0]) := upd_same
  generalize (upd H3 li (.lst [V.int 0])) = H4 at D4 O4 Sd hli
  refine ⟨_, rfl, p, dx, _, rfl, Sd.ins, shF_no (by decide +kernel) (by decide +kernel) (by decide +kernel) (by decide +kernel), ?_⟩
  refine ⟨_, rfl, po, dxo, _, rfl, O4.ins, obF_no (by decide +kernel) (by decide +kernel), ?_⟩
  have e0 : (⟨0, o0, [lobbyS]⟩ : En) ∈ [(⟨0, o0, [lobbyS]⟩ : En)] := List.mem_cons_self
  refine ⟨po, dxo, tb, _, 1, ⟨0, o0, [lobbyS]⟩, rfl, O4, e0, (by show 1 ≤ 1000000; decide), fun q1 H5 s5 t5 => ?_⟩
  have sgL : SlG [lobbyS] := ⟨fun s hs => by rw [List.mem_singleton.mp hs]; exact lobby_ok.g, by decide⟩
  refine ⟨p, dx, lr, nr, wr, 0, _, _, _, q1, [lobbyS], rfl, Sd.same s5, t5, sgL, (by show 1 ≤ 100000; decide), fun as6 Rs6 j6 H6 k6 S6 x6 hj6 => ?_⟩
  have Sd5 := Sd.same s5
  have tk6 := Sd5.ks k6
  have kl : ∀ b o, ¬ (b = lr ∨ b = nr) → H5 b = some o → H6 b = some o := fun b o n e => k6 b o (fun z => n (.inl z)) (fun z => n (.inr z)) e
  have nlr2 : ∀ b o, H5 b = some o → (∀ xs, o ≠ .lst xs) → (∀ φ, o ≠ .ext φ) → ¬ (b = lr ∨ b = nr) := fun b o e n1 n2 z => by
    rcases z with z | z
    · exact ne_of e Sd5.rows (n1 _) z
    · exact dn_ne Sd5.num e n2 z
  have O6 : Ob K H6 po dxo tb [⟨0, o0, [lobbyS]⟩] 1 := ob_upto (X := fun b => b = lr ∨ b = nr) (O4.same s5) kl (nlr2 _ _ (O4.same s5).ins (by intro _ z; cases z) (by intro _ z; cases z)) (nlr2 _ _ (O4.same s5).tbl (by intro _ z; cases z) (by intro _ z; cases z)) (fun e he => by
    obtain ⟨kvs, e2, _⟩ := (O4.same s5).ent e he
    exact nlr2 _ _ e2 (by intro _ z; cases z) (by intro _ z; cases z)) tk6
  have hli5 := s5 _ _ hli
  have lst5 : ∀ b xs, H5 b = some (.lst xs) → b ≠ lr → H6 b = some (.lst xs) := fun b xs e n => k6 b _ n (dn_ne Sd5.num e (by intro φ z; cases z)) e
  have D6 : Dr H6 d r := by
    obtain ⟨i, ns, h1, h2, h3⟩ := D4.same s5
    exact ⟨i, ns, kl _ _ (nlr2 _ _ h1 (by intro _ z; cases z) (by intro _ z; cases z)) h1, lst5 _ _ h2 rlr, h3⟩
  have hli6 := lst5 _ _ hli5 (Ne.symm lli)
  refine ⟨(by show 1 ≤ sizeLine; decide), fun lf nlf => ?_⟩
  have s7 := same_upd (o := .lst [V.int (j6 : Int)]) nlf
  have rlf : r ≠ lf := D6.neR nlf
  have llf : lr ≠ lf := ne_of_none S6.rows nlf
  have iilf : li ≠ lf := ne_of_none hli6 nlf
  have W : W6 K w (upd H6 lf (.lst [V.int (j6 : Int)])) d r po dxo tb p dx lr nr wr li lf [⟨0, o0, [lobbyS]⟩] 1 0 as6 Rs6 [] [0] [(j6 : Int)] 5 :=
    ⟨D6.same s7, O6.same s7, S6.same s7, s7 _ _ hli6, upd_same, (fun e he s hs => by rw [List.mem_singleton.mp he] at hs; rw [List.mem_singleton.mp hs]; exact lobby_ok), (fun e he => by rw [List.mem_singleton.mp he]; show 1 ≤ 5; decide), (fun e he => by cases he), Nat.le_trans x6.len (by show 2 ≤ 5; decide), Nat.zero_le _, (by show 1 ≤ 5; decide), dtb, (fun e he => by rw [List.mem_singleton.mp he]; exact do0), pop, (by simp [rlr, rli, rlf, lli, llf, iilf])⟩
  have R : Rel [⟨0, o0, [lobbyS]⟩] 1 Rs6 [0] [(j6 : Int)] := ⟨rfl, by simp, fun j x y hx hy => by
    have hj : j = 0 := by
      have := (List.getElem?_eq_some_iff.mp hx).1
      simpa using this
    subst hj
    cases hx
    cases hy
    exact ⟨_, e0, rfl, j6, rfl, hj6⟩⟩
  generalize (upd H6 lf (.lst [V.int (j6 : Int)])) = H7 at W
  -- four more objects
  refine ⟨4, rfl, by decide, by decide, ?_⟩
  refine for_range (lo := 0) (n := 4) (fun k σ G => ∃ (tab : List En) (nx : Nat) (u : Int) (as : List Addr) (Rs : List PyData) (ws : List NEnt) (is fs : List Int) (v6 v7 : Option V), σ = [some (.ref a), some (.ref d), some (.ref po), some (.ref p), some (.ref li), some (.ref lf), v6, v7, none, none, none, none] ∧ W6 K w G d r po dxo tb p dx lr nr wr li lf tab nx u as Rs ws is fs (5 + k) ∧ Rel tab nx Rs is fs ∧ is.length = k + 1)
    ⟨_, _, _, _, _, _, _, _, none, none, rfl, W, R, rfl⟩ ?_ ?_
  · rintro k σ G hk ⟨tab, nx, u, as, Rs, ws, is, fs, v6, v7, rfl, W, R, li0⟩
    refine ⟨_, rfl, d, 5, rfl, r, W.dr, fun q2 ts G1 K1 A1 t1 sn1 nd1 l1 => ?_⟩
    have W1 := W.kept K1 A1
    obtain ⟨us, hu, tr⟩ := sls_open t1
    refine ⟨_, rfl, .inl ⟨rfl, _, SqL.of W1.hi⟩, _, rfl, po, dxo, _, rfl, W1.ob.ins, obF_no (by decide +kernel) (by decide +kernel), _, rfl, ?_⟩
    refine ⟨po, dxo, tb, tab, nx, q2, us, ts, rfl, W1.ob, hu, tr, (fun s hs => (sn1 s hs).vl.ok), by have := W1.lT; omega, by omega, fun o G2 no ko O2 => ?_⟩
    rw [mkS_nd nd1] at O2
    have tk2 := W1.ob.tk ko
    have W2 : W6 K w G2 d r po dxo tb p dx lr nr wr li lf (tab ++ [⟨nx, o, ts⟩]) (nx + 1) u as Rs ws is fs (5 + k + 1) := W1.obj ko O2 (fun e he s hs => by
      rcases List.mem_append.mp he with he | he
      · exact W1.og e he s hs
      · rw [List.mem_singleton.mp he] at hs
        exact sn_ok (sn1 s hs)) (fun e he => by
      rcases List.mem_append.mp he with he | he
      · exact Nat.le_trans (W1.le e he) (Nat.le_succ _)
      · rw [List.mem_singleton.mp he]
        show ts.length ≤ _
        omega) (by have := W1.lT; simp; omega) (fun e he => by
      rcases List.mem_append.mp he with he | he
      · exact W1.na e he
      · rw [List.mem_singleton.mp he]
        exact W1.dr.neD no) (Nat.le_succ _)
    refine ⟨li, _, _, rfl, rfl, W2.hi, Nat.lt_of_le_of_lt (show (is.map V.int).length ≤ 100 by rw [List.length_map]; omega) (by decide), ?_⟩
    have W3 := W2.seti (is' := is ++ [(nx : Int)]) (zs := is.map V.int ++ [V.int (nx : Int)]) (by rw [List.map_append]; rfl)
    have tk3 := (tk_put (ys := is.map V.int ++ [V.int (nx : Int)]) W2.hi)
    have t3 := (t1.keep tk2).keep tk3
    generalize (upd G2 li (.lst (is.map V.int ++ [V.int (nx : Int)]))) = G3 at W3 t3
    refine ⟨_, rfl, .inl ⟨rfl, _, SqL.of W3.hf⟩, ?_⟩
    refine ⟨_, rfl, p, dx, _, rfl, W3.sh.ins, shF_no (by decide +kernel) (by decide +kernel) (by decide +kernel) (by decide +kernel), _, rfl, ?_⟩
    have sgT : SlG ts := ⟨fun s hs => (sn_ok (sn1 s hs)).g, by omega⟩
    refine ⟨p, dx, lr, nr, wr, u, as, Rs, ws, q2, ts, rfl, W3.sh, t3, sgT, by have := W3.lR; omega, fun as' Rs' j G4 k4 S4 x4 hj => ?_⟩
    have W4 := W3.shp (C := 5 + k + 1) (KP.of_ks k4) S4 (W3.wv.ext x4) (Nat.le_trans x4.len (by have := W.lR; omega)) W3.lW (Nat.le_refl _)
    refine ⟨lf, _, _, rfl, rfl, W4.hf, Nat.lt_of_le_of_lt (show (fs.map V.int).length ≤ 100 by rw [List.length_map, ← R.len]; omega) (by decide), ?_⟩
    have W5 := W4.setf (fs' := fs ++ [(j : Int)]) (zs := fs.map V.int ++ [V.int (j : Int)]) (by rw [List.map_append]; rfl)
    refine ⟨_, _, _, _, _, _, _, _, _, _, rfl, W5, ?_, by simp; omega⟩
    refine Rel.snoc (e := ⟨nx, o, ts⟩) ((R.more (t := [⟨nx, o, ts⟩]) (nx' := nx + 1)).mono (Mono.ext x4)) (List.mem_append_right _ List.mem_cons_self) rfl (fun z => ?_) hj
    have := R.lt W1.ob.lt _ z
    omega
  · rintro σ G ⟨tab, nx, u, as, Rs, ws, is, fs, v6, v7, rfl, W, R, li0⟩
    refine ⟨_, rfl, d, rfl, r, W.dr, fun j G1 j0 A1 M1 => ⟨_, _, rfl, rfl, (by show (0 : Int) < 70; decide), _, _, rfl, rfl, ?_⟩⟩
    have W1 := W.kept (Kept.of_moved M1) A1
    have tm := take_mod (j := j) (m := 70) (by decide)
    obtain ⟨n, hn⟩ : ∃ n : Nat, 1 + j % 70 = (n : Int) := ⟨(1 + j % 70).toNat, by omega⟩
    refine ⟨1 + j % 70, rfl, by omega, by omega, ?_⟩
    rw [hn, Int.toNat_natCast]
    refine for_range (lo := 0) (n := n) (fun k σ G => ∃ (tab : List En) (nx : Nat) (u : Int) (as : List Addr) (Rs : List PyData) (ws : List NEnt) (is fs : List Int) (v6 v7 v8 v9 v10 v11 : Option V), σ = [some (.ref a), some (.ref d), some (.ref po), some (.ref p), some (.ref li), some (.ref lf), v6, v7, v8, v9, v10, v11] ∧ W6 K w G d r po dxo tb p dx lr nr wr li lf tab nx u as Rs ws is fs (10 + 2 * k) ∧ Rel tab nx Rs is fs ∧ is.length = 5)
      ⟨_, _, _, _, _, _, _, _, _, _, _, _, _, _, rfl, W1.mono (by omega), R, li0⟩ ?_ ?_
    · rintro k σ G hk ⟨tab, nx, u, as, Rs, ws, is, fs, v6, v7, v8, v9, v10, v11, rfl, W, R, l5⟩
      refine ⟨_, rfl, d, rfl, r, W.dr, fun j2 G2 j20 A2 M2 => ?_⟩
      have W2 := W.kept (Kept.of_moved M2) A2
      have e5 : (((is.map V.int).length : Nat) : Int) = 5 := by rw [List.length_map, l5]; rfl
      refine ⟨_, rfl, _, _, rfl, .inl ⟨_, SqL.of W2.hi, rfl⟩, ?_⟩
      rw [e5]
      refine ⟨_, _, rfl, rfl, (by show (0 : Int) < 5; decide), ?_⟩
      have tm2 := take_mod (j := j2) (m := 5) (by decide)
      obtain ⟨at', hat⟩ : ∃ i : Nat, j2 % 5 = (i : Int) := ⟨(j2 % 5).toNat, by omega⟩
      show gName 8 (V.int (j2 % 5)) _ _ _
      rw [hat]
      have hai : at' < is.length := by omega
      have haf : at' < fs.length := by have := R.len; omega
      have fin : ∀ (tab : List En) (nx : Nat) (u : Int) (ws : List NEnt) (is fs : List Int) (v6 v7 v8 v9 : Option V), is.length = 5 → ∀ (as : List Addr) (Rs : List PyData) (G : Hp) (v10 v11 : Option V), W6 K w G d r po dxo tb p dx lr nr wr li lf tab nx u as Rs ws is fs (10 + 2 * k + 1 + 1) → Rel tab nx Rs is fs → ∃ (tab : List En) (nx : Nat) (u : Int) (as : List Addr) (Rs : List PyData) (ws : List NEnt) (is fs : List Int) (w6 w7 w8 w9 w10 w11 : Option V), [some (V.ref a), some (V.ref d), some (V.ref po), some (V.ref p), some (V.ref li), some (V.ref lf), v6, v7, v8, v9, v10, v11] = [some (V.ref a), some (V.ref d), some (V.ref po), some (V.ref p), some (V.ref li), some (V.ref lf), w6, w7, w8, w9, w10, w11] ∧ W6 K w G d r po dxo tb p dx lr nr wr li lf tab nx u as Rs ws is fs (10 + 2 * (k + 1)) ∧ Rel tab nx Rs is fs ∧ is.length = 5 :=
        fun tab nx u ws is fs v6 v7 v8 v9 l5 as Rs G v10 v11 W R => ⟨tab, nx, u, as, Rs, ws, is, fs, _, _, _, _, _, _, rfl, W.mono (by omega), R, l5⟩
      obtain ⟨ea, hea, eia, ma, efa, hma⟩ := R.at_ at' is[at'] fs[at'] (List.getElem?_eq_getElem hai) (List.getElem?_eq_getElem haf)
      have hfa : (fs.map V.int)[at']? = some (.int (ma : Int)) := by rw [List.getElem?_map, List.getElem?_eq_getElem haf, efa]; rfl
      have hia : (is.map V.int)[at']? = some (.int (ea.id : Int)) := by rw [List.getElem?_map, List.getElem?_eq_getElem hai, eia]; rfl
      refine ⟨_, rfl, d, rfl, r, W2.dr, fun j3 G3 j30 A3 M3 => ⟨_, _, rfl, rfl, (by show (0 : Int) < 12; decide), rfl, _, rfl, ite2 (fun _ => ?_) (fun _ => ?_)⟩⟩
      · have W3 := W2.kept (Kept.of_moved M3) A3
        refine ⟨_, rfl, d, rfl, r, W3.dr, fun j4 G4 j40 A4 M4 => ?_⟩
        have W4 := W3.kept (Kept.of_moved M4) A4
        refine ⟨_, rfl, _, _, rfl, .inl ⟨_, SqL.of W4.hi, rfl⟩, ?_⟩
        rw [e5]
        refine ⟨_, _, rfl, rfl, (by show (0 : Int) < 5; decide), ?_⟩
        have tm4 := take_mod (j := j4) (m := 5) (by decide)
        obtain ⟨ot, hot⟩ : ∃ i : Nat, j4 % 5 = (i : Int) := ⟨(j4 % 5).toNat, by omega⟩
        show gName 9 (V.int (j4 % 5)) _ _ _
        rw [hot]
        have hoi : ot < is.length := by omega
        have hof : ot < fs.length := by have := R.len; omega
        obtain ⟨eo, heo, eio, mo, efo, hmo⟩ := R.at_ ot is[ot] fs[ot] (List.getElem?_eq_getElem hoi) (List.getElem?_eq_getElem hof)
        have hfo : (fs.map V.int)[ot]? = some (.int (mo : Int)) := by rw [List.getElem?_map, List.getElem?_eq_getElem hof, efo]; rfl
        have hio : (is.map V.int)[ot]? = some (.int (eo.id : Int)) := by rw [List.getElem?_map, List.getElem?_eq_getElem hoi, eio]; rfl
        refine ⟨_, rfl, po, dxo, _, rfl, W4.ob.ins, obF_no (by decide +kernel) (by decide +kernel), _, rfl, _, rfl, li, _, _, _, rfl, rfl, SqL.of W4.hi, atI_nat hio, ?_⟩
        refine ⟨po, dxo, tb, tab, nx, eo, rfl, W4.ob, heo, by have := W4.le eo heo; omega, fun q5 G5 s5 t5 => ?_⟩
        have W5 := W4.same s5
        refine ⟨_, rfl, _, rfl, lf, _, _, _, rfl, rfl, SqL.of W5.hf, atI_nat hfo, ?_⟩
        refine ⟨_, rfl, _, rfl, lf, _, _, _, rfl, rfl, W5.hf, ix_nat (by rw [List.length_map]; exact haf), ?_⟩
        have W6' := W5.setf (fs' := fs.set at' (mo : Int)) (zs := (fs.map V.int).set at' (V.int (mo : Int))) (by rw [List.map_set])
        have tk6 := (tk_put (ys := (fs.map V.int).set at' (V.int (mo : Int))) W5.hf)
        have t6 := t5.keep tk6
        generalize (upd G5 lf (.lst ((fs.map V.int).set at' (V.int (mo : Int))))) = G6 at W6' t6
        obtain ⟨us, hu, tr⟩ := sls_open t6
        refine ⟨_, rfl, po, dxo, _, rfl, W6'.ob.ins, obF_no (by decide +kernel) (by decide +kernel), _, rfl, ?_⟩
        refine ⟨po, dxo, tb, tab, nx, q5, us, eo.sl, rfl, W6'.ob, hu, tr, (fun s hs => W6'.ob.val eo heo s hs), by have := W6'.lT; omega, by have := W6'.le eo heo; omega, fun o G7 no ko O7 => ?_⟩
        rw [mkS_nd (W6'.ob.nds eo heo)] at O7
        have W7 : W6 K w G7 d r po dxo tb p dx lr nr wr li lf (tab ++ [⟨nx, o, eo.sl⟩]) (nx + 1) u as Rs ws is (fs.set at' (mo : Int)) (10 + 2 * k + 1) := W6'.obj ko O7 (fun e he s hs => by
          rcases List.mem_append.mp he with he | he
          · exact W6'.og e he s hs
          · rw [List.mem_singleton.mp he] at hs
            exact W6'.og eo heo s hs) (fun e he => by
          rcases List.mem_append.mp he with he | he
          · exact Nat.le_trans (W6'.le e he) (Nat.le_succ _)
          · rw [List.mem_singleton.mp he]
            exact Nat.le_trans (W6'.le eo heo) (Nat.le_succ _)) (by have := W6'.lT; simp; omega) (fun e he => by
          rcases List.mem_append.mp he with he | he
          · exact W6'.na e he
          · rw [List.mem_singleton.mp he]
            exact W6'.dr.neD no) (Nat.le_succ _)
        refine ⟨_, rfl, _, rfl, li, _, _, _, rfl, rfl, W7.hi, ix_nat (by rw [List.length_map]; exact hai), ?_⟩
        have W8 := W7.seti (is' := is.set at' (nx : Int)) (zs := (is.map V.int).set at' (V.int (nx : Int))) (by rw [List.map_set])
        have nin : (nx : Int) ∉ is := fun z => by
          have := R.lt W.ob.lt _ z
          omega
        have R8 : Rel (tab ++ [⟨nx, o, eo.sl⟩]) (nx + 1) Rs (is.set at' (nx : Int)) (fs.set at' (mo : Int)) := R.set (e := ⟨nx, o, eo.sl⟩) (List.mem_append_right _ List.mem_cons_self) rfl hai hmo (by
          refine List.pairwise_iff_getElem.mpr fun x y hx hy hxy => ?_
          rw [List.length_set] at hx hy
          rw [List.getElem_set, List.getElem_set]
          have nn := (List.pairwise_iff_getElem.mp R.nd) x y hx hy hxy
          split
          · split
            · omega
            · exact fun z => nin (by rw [z]; exact List.getElem_mem hy)
          · split
            · exact fun z => nin (by rw [← z]; exact List.getElem_mem hx)
            · exact nn) fun jj e1 _ h1 _ => ⟨e1, List.mem_append_left _ h1, rfl, rfl⟩
        exact end_ok W8 R8 (by omega) (by rw [List.length_set]; exact hai) (by rw [List.length_set]; omega) (fin _ _ _ _ _ _ _ _ _ _ (by rw [List.length_set]; exact l5))
      · have W3 := W2.kept (Kept.of_moved M3) A3
        refine ⟨_, rfl, _, rfl, _, rfl, _, rfl, _, rfl, li, _, _, _, rfl, rfl, SqL.of W3.hi, atI_nat hia, _, rfl, _, rfl, lf, _, _, _, rfl, rfl, SqL.of W3.hf, atI_nat hfa, ?_⟩
        refine ⟨d, r, po, dxo, tb, p, dx, lr, nr, wr, li, lf, tab, nx, u, as, Rs, ws, is, fs, 10 + 2 * k, ea, ma, rfl, W3, hea, hma, by omega, fun sl u' as' Rs' ws' i G4 W4 mo hi => ?_⟩
        refine ⟨_, rfl, _, rfl, lf, _, _, _, rfl, rfl, W4.hf, ix_nat (by rw [List.length_map]; exact haf), ?_⟩
        have W5 := W4.setf (fs' := fs.set at' (i : Int)) (zs := (fs.map V.int).set at' (V.int (i : Int))) (by rw [List.map_set])
        have es : is.set at' (ea.id : Int) = is := by
          rw [← eia]
          exact List.set_getElem_self hai
        have R5 : Rel (setE tab ea.id sl) nx Rs' (is.set at' (ea.id : Int)) (fs.set at' (i : Int)) := (R.mono mo).set (e := ⟨ea.id, ea.at_, sl⟩) (List.mem_map.mpr ⟨ea, hea, if_pos rfl⟩) rfl hai hi (by rw [es]; exact R.nd) fun jj e1 hj1 h1 hjj => by
          refine ⟨e1, List.mem_map.mpr ⟨e1, h1, if_neg fun z => hj1 ?_⟩, rfl, rfl⟩
          have h0 : is[at']? = some (ea.id : Int) := by rw [List.getElem?_eq_getElem hai, eia]
          rw [z, ← h0] at hjj
          exact ((List.getElem?_inj hai R.nd).mp hjj.symm).symm
        rw [es] at R5
        exact end_ok W5 R5 (by omega) hai (by omega) (fin _ _ _ _ _ _ _ _ _ _ l5)
    · rintro σ G ⟨tab, nx, u, as, Rs, ws, is, fs, v6, v7, v8, v9, v10, v11, rfl, W, R, l5⟩
      exact q G
end K42
end
end Rm.U

/-! U44: equal keys have equal answers: ids, key_of, rests_on, the law's own defs: promises, readings (by gen.py), runs. -/
namespace Rm.U.K44
open PySem PySem.Spec PyProof.Rows L2
open Rm.Q (plD plAll eqv_eq eqvAll_eq tr_pl trs_pl)
open Rm.U.K42 (SOk Mono)
/-! ### plain -/
def stp (tab : List En) (x : Str) : List Int × List Int → List Int × List Int
  | (L, []) => (L, [])
  | (L, i :: w) => if i ∈ L then (L, w) else if hasS tab x i = true then (L ++ [i], w) else (L ++ [i], w ++ parI tab i)
def stpN (tab : List En) (x : Str) : Nat → List Int × List Int → List Int × List Int
  | 0, s => s
  | n + 1, s => stpN tab x n (stp tab x s)
def rchS (tab : List En) (x : Str) (st : List Int) : List Int := srtI (stpN tab x 200 ([], st)).1
def plcI (tab : List En) (x : Str) (i : Int) : Int := match entOf tab i with
  | some e => placeF e.sl x 0
  | none => -1
def thrF (tab : List En) (x : Str) : List Int → PyData
  | [] => .tuple [.str ("none" : Str)]
  | [h] => .tuple [.str ("held" : Str), .int h, .int (plcI tab x h)]
  | _ => .tuple [.str ("several" : Str)]
def thrD (tab : List En) (x : Str) (st : List Int) : PyData := thrF tab x ((rchS tab x st).filter (hasS tab x))
def ansD (tab : List En) (x : Str) (ts : List Sl) : PyData := if placeF ts x 0 ≥ 0 then .tuple [.str ("own" : Str), .int (placeF ts x 0)] else thrD tab x (parS ts)
def rstF (tab : List En) (x : Str) (ts : List Sl) : List Int := match getS ts x with
  | some _ => []
  | none => srtI (srch tab x (parS ts)).1
def vpV (ts : List Sl) : List PyData := (ts.filter isVp).map (·.val)
def keyD (j : Nat) (x : Str) (ts : List Sl) : PyData := match getS ts x with
  | some _ => .tuple [.int (j : Int), .tuple []]
  | none => .tuple [.int (j : Int), .tuple (vpV ts)]
def namesL : List Str := ("lobby" : Str) :: nameM.map Str.ofString
/-- a slot, here: its references are below M -/
structure S4 (M : Nat) (s : Sl) : Prop where
  ok : SOk s
  nm : s.name ∈ namesL
  vo : ValOk s.val
  rf : ∀ i, refOf s.val = some i → 0 ≤ i ∧ i < (M : Int)
/-- objects 0 .. n - 1 -/
structure Gd (tab : List En) (nx M : Nat) : Prop where
  s4 : ∀ e ∈ tab, ∀ s ∈ e.sl, S4 M s
  le : ∀ e ∈ tab, e.sl.length ≤ 7
  ids : tab.map (·.id) = List.range nx
structure W7 (K : PySem.W.Frag) (w : World) (G : Hp) (d r po dxo tb p dx lr nr wr : Addr) (tab : List En) (nx M : Nat) (as : List Addr) (Rs : List PyData) (B : Nat) : Prop where
  dr : Dr G d r
  ob : Ob K G po dxo tb tab nx
  sh : Sh K w G p dx lr nr wr 0 as Rs []
  gd : Gd tab nx M
  lR : Rs.length ≤ B
  nt : d ≠ tb
  na : ∀ e ∈ tab, d ≠ e.at_
  np : po ≠ p
  rl : r ≠ lr
/-! ### promises -/
def sp_Objects_ids (K : PySem.W.Frag) : Sp := fun vs H Q _ => ∃ (p dx tb : Addr) (tab : List En) (nx : Nat), vs = [.ref p] ∧ Ob K H p dx tb tab nx ∧
  ∀ q H', Same H H' → H q = none → H' q = some (.lst (tab.map fun e => V.int (e.id : Int))) → Q (.ref q) H'
def sp_rests_on (K : PySem.W.Frag) : Sp := fun vs H Q _ => ∃ (p dx tb : Addr) (tab : List En) (nx : Nat) (e : En) (x : Str), vs = [.ref p, .str x, .int (e.id : Int)] ∧ Ob K H p dx tb tab nx ∧ e ∈ tab ∧ Gd tab nx nx ∧ nx ≤ 20 ∧
  ∀ q H', Same H H' → H' q = some (.lst ((rstF tab x e.sl).map V.int)) → Q (.ref q) H'
def sp_l_parents (K : PySem.W.Frag) : Sp := fun vs H Q _ => ∃ (p dx tb : Addr) (tab : List En) (nx M : Nat) (e : En), vs = [.ref p, .int (e.id : Int)] ∧ Ob K H p dx tb tab nx ∧ e ∈ tab ∧ Gd tab nx M ∧
  ∀ q H', Same H H' → H q = none → H' q = some (.lst ((parS e.sl).map V.int)) → Q (.ref q) H'
def sp_l_place (K : PySem.W.Frag) : Sp := fun vs H Q _ => ∃ (p dx tb : Addr) (tab : List En) (nx : Nat) (e : En) (x : Str), vs = [.ref p, .int (e.id : Int), .str x] ∧ Ob K H p dx tb tab nx ∧ e ∈ tab ∧ e.sl.length ≤ 1000 ∧
  ∀ H', Same H H' → Q (.int (placeF e.sl x 0)) H'
def sp_l_reach (K : PySem.W.Frag) : Sp := fun vs H Q _ => ∃ (p dx tb : Addr) (tab : List En) (nx : Nat) (a : Addr) (st : List Int) (x : Str), vs = [.ref p, .ref a, .str x] ∧ Ob K H p dx tb tab nx ∧ H a = some (.lst (st.map V.int)) ∧ (∀ i ∈ st, isId tab i) ∧ Gd tab nx nx ∧ st.length ≤ 7 ∧
  ∀ q H', Same H H' → H q = none → H' q = some (.lst ((rchS tab x st).map V.int)) → Q (.ref q) H'
def sp_l_through (K : PySem.W.Frag) : Sp := fun vs H Q _ => ∃ (p dx tb : Addr) (tab : List En) (nx : Nat) (a : Addr) (st : List Int) (x : Str), vs = [.ref p, .ref a, .str x] ∧ Ob K H p dx tb tab nx ∧ H a = some (.lst (st.map V.int)) ∧ (∀ i ∈ st, isId tab i) ∧ Gd tab nx nx ∧ st.length ≤ 7 ∧
  ∀ q H', Same H H' → Tr H' (.ref q) (thrD tab x st) → Q (.ref q) H'
def sp_l_answer (K : PySem.W.Frag) : Sp := fun vs H Q _ => ∃ (p dx tb : Addr) (tab : List En) (nx : Nat) (e : En) (x : Str), vs = [.ref p, .int (e.id : Int), .str x] ∧ Ob K H p dx tb tab nx ∧ e ∈ tab ∧ Gd tab nx nx ∧
  ∀ q H', Same H H' → Tr H' (.ref q) (ansD tab x e.sl) → Q (.ref q) H'
def sp_key_of (K : PySem.W.Frag) (w : World) : Sp := fun vs H Q _ => ∃ (d r po dxo tb p dx lr nr wr : Addr) (tab : List En) (nx M : Nat) (as : List Addr) (Rs : List PyData) (B : Nat) (e : En) (x : Str), vs = [.ref po, .ref p, .str x, .int (e.id : Int)] ∧
  W7 K w H d r po dxo tb p dx lr nr wr tab nx M as Rs B ∧ e ∈ tab ∧ B ≤ 5000 ∧
  ∀ (as' : List Addr) (Rs' : List PyData) (j : Nat) q H', KS lr nr H H' → W7 K w H' d r po dxo tb p dx lr nr wr tab nx M as' Rs' (B + 1) → Mono Rs Rs' → Rs'[j]? = some (rowD e.sl) → Tr H' (.ref q) (keyD j x e.sl) → Q (.ref q) H'
def sp_l_world (K : PySem.W.Frag) (w : World) : Sp := fun vs H Q _ => ∃ (d r po dxo tb p dx lr nr wr : Addr) (tab : List En) (m M : Nat) (as : List Addr) (Rs : List PyData) (B : Nat), vs = [.ref d, .ref po, .int (m : Int)] ∧
  W7 K w H d r po dxo tb p dx lr nr wr tab 1 M as Rs B ∧ M = m + 1 ∧ m ≤ 15 ∧ ∀ (tab' : List En) H', W7 K w H' d r po dxo tb p dx lr nr wr tab' (m + 1) (m + 1) as Rs B → Q .non H'
def sp_l_like (K : PySem.W.Frag) (w : World) : Sp := fun vs H Q _ => ∃ (d r po dxo tb p dx lr nr wr l : Addr) (tab : List En) (nx : Nat) (as : List Addr) (Rs : List PyData) (B : Nat), vs = [.ref d, .ref po, .ref l] ∧
  W7 K w H d r po dxo tb p dx lr nr wr tab nx nx as Rs B ∧ H l = some (.lst (tab.map fun e => V.int (e.id : Int))) ∧ 1 ≤ nx ∧ nx ≤ 20 ∧ l ≠ r ∧
  ∀ (tab' : List En) H', W7 K w H' d r po dxo tb p dx lr nr wr tab' (nx + 1) (nx + 1) as Rs B → Q (.int (nx : Int)) H'
def sp_l_change (K : PySem.W.Frag) (w : World) : Sp := fun vs H Q _ => ∃ (d r po dxo tb p dx lr nr wr l : Addr) (tab : List En) (nx : Nat) (as : List Addr) (Rs : List PyData) (B : Nat), vs = [.ref d, .ref po, .ref l] ∧
  W7 K w H d r po dxo tb p dx lr nr wr tab nx nx as Rs B ∧ H l = some (.lst (tab.map fun e => V.int (e.id : Int))) ∧ 1 ≤ nx ∧ nx ≤ 20 ∧ l ≠ r ∧
  ∀ (tab' : List En) (e : En) (b : Bool) q H', W7 K w H' d r po dxo tb p dx lr nr wr tab' nx nx as Rs B → e ∈ tab' → H' q = some (.tup [.int (e.id : Int), .bl b]) → H' l = some (.lst (tab.map fun e => V.int (e.id : Int))) → Q (.ref q) H'
def sp_l_equal (K : PySem.W.Frag) (w : World) : Sp := fun vs H Q _ => ∃ (d r po dxo tb p dx lr nr wr : Addr) (tab : List En) (nx : Nat) (as : List Addr) (Rs : List PyData) (B : Nat), vs = [.ref po, .ref p] ∧
  W7 K w H d r po dxo tb p dx lr nr wr tab nx nx as Rs B ∧ 1 ≤ nx ∧ nx ≤ 20 ∧ B ≤ 1000 ∧ ∀ (as' : List Addr) (Rs' : List PyData) H', W7 K w H' d r po dxo tb p dx lr nr wr tab nx nx as' Rs' (B + 120) → Q (.bl true) H'
def sp_law (K : PySem.W.Frag) : Sp := fun vs H Q _ => ∃ (a : Addr) (ns : List Int), vs = [.ref a] ∧ SqL K H a (ns.map V.int) ∧ ns.length ≤ 63 ∧ ∀ H', Q (.bl true) H'
/-! ### readings -/

def ns_Objects_ids : List Str := ["self"]
def t_Objects_ids (K : PySem.W.Frag) (E : XK) : TS :=
  (tRet (tCB (rListD K) (tCons (tFld K (tVar 0) ("table" : Str)) tNil)))

def ns_key_of : List Str := ["objects", "shapes", "name", "object_id", "slots", "shape", "at"]
def t_key_of (K : PySem.W.Frag) (w : World) (E : XK) : TS :=
  (tSeq (tAsg (tMeth (He.ga K ("Objects" : Str)) ("slots" : Str) (sp_Objects_slots K) [] E (tVar 0) (tCons (tVar 3) tNil)) (gName 4))
    (tSeq (tAsg (tMeth (He.ga K ("Shapes" : Str)) ("shape_of" : Str) (sp_Shapes_shape_of K w) [] E (tVar 1) (tCons (tVar 4) tNil)) (gName 5))
    (tSeq (tIfS (tTest (tOp rNotN (tMeth (He.ga K ("Objects" : Str)) ("slot" : Str) (sp_Objects_slot K) [] E (tVar 0) (tCons (tVar 3) (tCons (tVar 2) tNil))) (tC .non)))
      (tRet (tTup (tCons (tVar 5) (tCons (tTup tNil) tNil))))
      tNext)
    (tRet (tTup (tCons (tVar 5) (tCons (tCB (rTupleOf K) (tCons (tLc (iTup K (tMeth (He.ga K ("Shapes" : Str)) ("free_parents" : Str) (sp_Shapes_free_parents K w) [] E (tVar 1) (tCons (tVar 5) tNil))) (gName 6) tYes (tOp (rIxT K) (tOp (rIxT K) (tVar 4) (tVar 6)) (tC (.int 2))) [6]) tNil)) tNil)))))))

def ns_rests_on : List Str := ["objects", "name", "object_id", "_", "looked"]
def t_rests_on (K : PySem.W.Frag) (E : XK) : TS :=
  (tSeq (tIfS (tTest (tOp rNotN (tMeth (He.ga K ("Objects" : Str)) ("slot" : Str) (sp_Objects_slot K) [] E (tVar 0) (tCons (tVar 2) (tCons (tVar 1) tNil))) (tC .non)))
      (tRet (tLst tNil))
      tNext)
    (tSeq (tAsg (tCall (sp_search K) [] E (tCons (tVar 0) (tCons (tMeth (He.ga K ("Objects" : Str)) ("parents" : Str) (sp_Objects_parents K) [] E (tVar 0) (tCons (tVar 2) tNil)) (tCons (tVar 1) tNil)))) (gTup K 2 (gCons (gName 3) (gCons (gName 4) gNil))))
    (tRet (tCB (rSortedT K) (tCons (tVar 4) tNil)))))

def ns_l_world : List Str := ["d", "objects", "many", "k"]
def t_l_world (K : PySem.W.Frag) (w : World) (E : XK) : TS :=
  (tFor (iRng1 (tCons (tVar 2) tNil)) (gName 3)
      (tDrop (tMeth (He.ga K ("Objects" : Str)) ("make" : Str) (sp_Objects_make K) [] E (tVar 1) (tCons (tCall (sp_l_slots K) [] E (tCons (tVar 0) (tCons (tOp rAddI (tVar 2) (tC (.int 1))) tNil))) tNil))))

def ns_l_parents : List Str := ["objects", "one", "found", "name", "kind", "value"]
def t_l_parents (K : PySem.W.Frag) (E : XK) : TS :=
  (tSeq (tAsg (tLst tNil) (gName 2))
    (tSeq (tFor (iTup K (tMeth (He.ga K ("Objects" : Str)) ("slots" : Str) (sp_Objects_slots K) [] E (tVar 0) (tCons (tVar 1) tNil))) (gTup K 3 (gCons (gName 3) (gCons (gName 4) (gCons (gName 5) gNil))))
      (tIfS (tAnd (tTest (tOp (rIn K false) (tVar 4) (tTup (tCons (tC (.str ("parent" : Str))) (tCons (tC (.str ("varparent" : Str))) tNil))))) (tTest (tOp rEq (tOp (rIxT K) (tVar 5) (tC (.int 0))) (tC (.str ("ref" : Str))))))
      (tDrop (tBM K "list" rAppend (tVar 2) (tCons (tOp (rIxT K) (tVar 5) (tC (.int 1))) tNil)))
      tNext))
    (tRet (tVar 2))))

def ns_l_place : List Str := ["objects", "one", "name", "slots", "k"]
def t_l_place (K : PySem.W.Frag) (E : XK) : TS :=
  (tSeq (tAsg (tMeth (He.ga K ("Objects" : Str)) ("slots" : Str) (sp_Objects_slots K) [] E (tVar 0) (tCons (tVar 1) tNil)) (gName 3))
    (tSeq (tFor (iRng1 (tCons (tCB (rLen K) (tCons (tVar 3) tNil)) tNil)) (gName 4)
      (tIfS (tTest (tOp rEq (tOp (rIxT K) (tOp (rIxT K) (tVar 3) (tVar 4)) (tC (.int 0))) (tVar 2)))
      (tRet (tVar 4))
      tNext))
    (tRet (tUn rNegI (tC (.int 1))))))

def ns_l_reach : List Str := ["objects", "starts", "name", "looked", "waiting", "turn", "one"]
def t_l_reach (K : PySem.W.Frag) (E : XK) : TS :=
  (tSeq (tAsg (tLst tNil) (gName 3))
    (tSeq (tAsg (tCB (rListOf K) (tCons (tVar 1) tNil)) (gName 4))
    (tSeq (tFor (iRng1 (tCons (tC (.int 200)) tNil)) (gName 5)
      (tIfS (tTest (tOp (rNeD K) (tVar 4) (tLst tNil)))
      (tSeq (tAsg (tBM K "list" rPopAt (tVar 4) (tCons (tC (.int 0)) tNil)) (gName 6))
    (tIfS (tTest (tOp (rIn K true) (tVar 6) (tVar 3)))
      (tSeq (tDrop (tBM K "list" rAppend (tVar 3) (tCons (tVar 6) tNil)))
    (tIfS (tTest (tOp rLtI (tCall (sp_l_place K) [] E (tCons (tVar 0) (tCons (tVar 6) (tCons (tVar 2) tNil)))) (tC (.int 0))))
      (tAsg (tOp rCat (tVar 4) (tCall (sp_l_parents K) [] E (tCons (tVar 0) (tCons (tVar 6) tNil)))) (gName 4))
      tNext))
      tNext))
      tNext))
    (tRet (tCB (rSortedI K) (tCons (tVar 3) tNil))))))

def ns_l_through : List Str := ["objects", "starts", "name", "one", "holders"]
def t_l_through (K : PySem.W.Frag) (E : XK) : TS :=
  (tSeq (tAsg (tLc (iList K (tCall (sp_l_reach K) [] E (tCons (tVar 0) (tCons (tVar 1) (tCons (tVar 2) tNil))))) (gName 3) (tTest (tOp rGeI (tCall (sp_l_place K) [] E0 (tCons (tVar 0) (tCons (tVar 3) (tCons (tVar 2) tNil)))) (tC (.int 0)))) (tVar 3) [3]) (gName 4))
    (tSeq (tIfS (tTest (tOp (rEqD K) (tVar 4) (tLst tNil)))
      (tRet (tTup (tCons (tC (.str ("none" : Str))) tNil)))
      tNext)
    (tSeq (tIfS (tTest (tOp rGtI (tCB (rLen K) (tCons (tVar 4) tNil)) (tC (.int 1))))
      (tRet (tTup (tCons (tC (.str ("several" : Str))) tNil)))
      tNext)
    (tRet (tTup (tCons (tC (.str ("held" : Str))) (tCons (tOp (rIxL K) (tVar 4) (tC (.int 0))) (tCons (tCall (sp_l_place K) [] E (tCons (tVar 0) (tCons (tOp (rIxL K) (tVar 4) (tC (.int 0))) (tCons (tVar 2) tNil)))) tNil))))))))

def ns_l_answer : List Str := ["objects", "one", "name", "place"]
def t_l_answer (K : PySem.W.Frag) (E : XK) : TS :=
  (tSeq (tAsg (tCall (sp_l_place K) [] E (tCons (tVar 0) (tCons (tVar 1) (tCons (tVar 2) tNil)))) (gName 3))
    (tSeq (tIfS (tTest (tOp rGeI (tVar 3) (tC (.int 0))))
      (tRet (tTup (tCons (tC (.str ("own" : Str))) (tCons (tVar 3) tNil))))
      tNext)
    (tRet (tCall (sp_l_through K) [] E (tCons (tVar 0) (tCons (tCall (sp_l_parents K) [] E (tCons (tVar 0) (tCons (tVar 1) tNil))) (tCons (tVar 2) tNil)))))))

def ns_l_change : List Str := ["d", "objects", "ids", "one", "name", "slot", "turn"]
def t_l_change (K : PySem.W.Frag) (w : World) (E : XK) : TS :=
  (tSeq (tAsg (tOp (rIxL K) (tVar 2) (tOp rModI (tCall (sp_l_take K) [] E (tCons (tVar 0) tNil)) (tCB (rLen K) (tCons (tVar 2) tNil)))) (gName 3))
    (tSeq (tAsg (tCall (sp_l_name K) [] E (tCons (tVar 0) tNil)) (gName 4))
    (tSeq (tAsg (tMeth (He.ga K ("Objects" : Str)) ("slot" : Str) (sp_Objects_slot K) [] E (tVar 1) (tCons (tVar 3) (tCons (tVar 4) tNil))) (gName 5))
    (tSeq (tAsg (tOp rModI (tCall (sp_l_take K) [] E (tCons (tVar 0) tNil)) (tC (.int 6))) (gName 6))
    (tSeq (tIfS (tTest (tOp rEq (tVar 6) (tC (.int 0))))
      (tSeq (tDrop (tMeth (He.ga K ("Objects" : Str)) ("drop" : Str) (sp_Objects_drop K) [] E (tVar 1) (tCons (tVar 3) (tCons (tVar 4) tNil))))
    (tRet (tTup (tCons (tVar 3) (tCons (tOp rNotN (tVar 5) (tC .non)) tNil)))))
      tNext)
    (tSeq (tIfS (tAnd (tTest (tOp rLtI (tVar 6) (tC (.int 3)))) (tAnd (tTest (tOp rNotN (tVar 5) (tC .non))) (tTest (tOp (rIn K false) (tOp (rIxT K) (tVar 5) (tC (.int 0))) (tTup (tCons (tC (.str ("var" : Str))) (tCons (tC (.str ("varparent" : Str))) tNil)))))))
      (tSeq (tDrop (tMeth (He.ga K ("Objects" : Str)) ("assign" : Str) (sp_Objects_assign K) [] E (tVar 1) (tCons (tVar 3) (tCons (tVar 4) (tCons (tCall (sp_l_value K) [] E (tCons (tVar 0) (tCons (tCB (rLen K) (tCons (tVar 2) tNil)) tNil))) tNil)))))
    (tRet (tTup (tCons (tVar 3) (tCons (tOp rEq (tOp (rIxT K) (tVar 5) (tC (.int 0))) (tC (.str ("varparent" : Str)))) tNil)))))
      tNext)
    (tSeq (tDrop (tMeth (He.ga K ("Objects" : Str)) ("put" : Str) (sp_Objects_put K) [] E (tVar 1) (tCons (tVar 3) (tCons (tVar 4) (tCons (tCall (sp_l_kind K) [] E (tCons (tVar 0) tNil)) (tCons (tCall (sp_l_value K) [] E (tCons (tVar 0) (tCons (tCB (rLen K) (tCons (tVar 2) tNil)) tNil))) tNil))))))
    (tRet (tTup (tCons (tVar 3) (tCons (tC (.bl true)) tNil)))))))))))

def ns_l_like : List Str := ["d", "objects", "ids", "slots", "at"]
def t_l_like (K : PySem.W.Frag) (w : World) (E : XK) : TS :=
  (tSeq (tAsg (tMeth (He.ga K ("Objects" : Str)) ("slots" : Str) (sp_Objects_slots K) [] E (tVar 1) (tCons (tOp (rIxL K) (tVar 2) (tOp rModI (tCall (sp_l_take K) [] E (tCons (tVar 0) tNil)) (tCB (rLen K) (tCons (tVar 2) tNil)))) tNil)) (gName 3))
    (tSeq (tIfS (tAnd (tTest (tOp (rNeD K) (tVar 3) (tTup tNil))) (tTest (tOp rEq (tOp rModI (tCall (sp_l_take K) [] E (tCons (tVar 0) tNil)) (tC (.int 2))) (tC (.int 0)))))
      (tSeq (tAsg (tOp rModI (tCall (sp_l_take K) [] E (tCons (tVar 0) tNil)) (tCB (rLen K) (tCons (tVar 3) tNil))) (gName 4))
    (tAsg (tOp (rCatA K) (tOp (rCatA K) (tSl (rSlA K) (tVar 3) oNone (oSome (tVar 4))) (tTup (tCons (tTup (tCons (tOp (rIxT K) (tOp (rIxT K) (tVar 3) (tVar 4)) (tC (.int 0))) (tCons (tOp (rIxT K) (tOp (rIxT K) (tVar 3) (tVar 4)) (tC (.int 1))) (tCons (tCall (sp_l_value K) [] E (tCons (tVar 0) (tCons (tOp rAddI (tCB (rLen K) (tCons (tVar 2) tNil)) (tC (.int 1))) tNil))) tNil)))) tNil))) (tSl (rSlA K) (tVar 3) (oSome (tOp rAddI (tVar 4) (tC (.int 1)))) oNone)) (gName 3)))
      tNext)
    (tRet (tMeth (He.ga K ("Objects" : Str)) ("make" : Str) (sp_Objects_make K) [] E (tVar 1) (tCons (tVar 3) tNil)))))

def ns_l_equal : List Str := ["objects", "shapes", "ids", "name", "one", "keys", "k", "j"]
def t_l_equal (K : PySem.W.Frag) (w : World) (E : XK) : TS :=
  (tSeq (tAsg (tMeth (He.ga K ("Objects" : Str)) ("ids" : Str) (sp_Objects_ids K) [] E (tVar 0) tNil) (gName 2))
    (tSeq (tFor (iList K (tLst (tMenu (["x", "y", "p", "q", "long", "x1"].map mS)))) (gName 3)
      (tSeq (tAsg (tLc (iList K (tVar 2)) (gName 4) tYes (tCall (sp_key_of K w) [] E0 (tCons (tVar 0) (tCons (tVar 1) (tCons (tVar 3) (tCons (tVar 4) tNil))))) [4]) (gName 5))
    (tFor (iRng1 (tCons (tCB (rLen K) (tCons (tVar 2) tNil)) tNil)) (gName 6)
      (tFor (iRng1 (tCons (tVar 6) tNil)) (gName 7)
      (tIfS (tTest (tOp (rEqD K) (tOp (rIxL K) (tVar 5) (tVar 7)) (tOp (rIxL K) (tVar 5) (tVar 6))))
      (tSeq (tIfS (tTest (tOp (rNeD K) (tCall (sp_l_answer K) [] E (tCons (tVar 0) (tCons (tOp (rIxL K) (tVar 2) (tVar 7)) (tCons (tVar 3) tNil)))) (tCall (sp_l_answer K) [] E (tCons (tVar 0) (tCons (tOp (rIxL K) (tVar 2) (tVar 6)) (tCons (tVar 3) tNil))))))
      (tRet (tC (.bl false)))
      tNext)
    (tIfS (tTest (tOp (rNeD K) (tCall (sp_rests_on K) [] E (tCons (tVar 0) (tCons (tVar 3) (tCons (tOp (rIxL K) (tVar 2) (tVar 7)) tNil)))) (tCall (sp_rests_on K) [] E (tCons (tVar 0) (tCons (tVar 3) (tCons (tOp (rIxL K) (tVar 2) (tVar 6)) tNil))))))
      (tRet (tC (.bl false)))
      tNext))
      tNext)))))
    (tRet (tC (.bl true)))))

def ns_law : List Str := ["script", "d", "objects", "shapes", "k", "turn", "one", "matters", "name", "kind", "value"]
def t_law (K : PySem.W.Frag) (w : World) (E : XK) : TS :=
  (tSeq (tAsg (tCall (sp_l_start K) [] E (tCons (tVar 0) tNil)) (gName 1))
    (tSeq (tAsg (tMake (He.ga K ("Objects" : Str)) (sp_Objects_init K) [] E tNil) (gName 2))
    (tSeq (tAsg (tMake (He.ga K ("Shapes" : Str)) (sp_Shapes_init K w) [] E tNil) (gName 3))
    (tSeq (tDrop (tCall (sp_l_world K w) [] E (tCons (tVar 1) (tCons (tVar 2) (tCons (tOp rAddI (tC (.int 2)) (tOp rModI (tCall (sp_l_take K) [] E (tCons (tVar 1) tNil)) (tC (.int 3)))) tNil)))))
    (tSeq (tFor (iRng1 (tCons (tOp rModI (tCall (sp_l_take K) [] E (tCons (tVar 1) tNil)) (tC (.int 6))) tNil)) (gName 4)
      (tDrop (tCall (sp_l_like K w) [] E (tCons (tVar 1) (tCons (tVar 2) (tCons (tMeth (He.ga K ("Objects" : Str)) ("ids" : Str) (sp_Objects_ids K) [] E (tVar 2) tNil) tNil))))))
    (tSeq (tFor (iRng1 (tCons (tC (.int 4)) tNil)) (gName 5)
      (tSeq (tIfS (tNot (tB (tCall (sp_l_equal K w) [] E (tCons (tVar 2) (tCons (tVar 3) tNil)))))
      (tRet (tC (.bl false)))
      tNext)
    (tFor (iRng1 (tCons (tC (.int 3)) tNil)) (gName 4)
      (tSeq (tAsg (tCall (sp_l_change K w) [] E (tCons (tVar 1) (tCons (tVar 2) (tCons (tMeth (He.ga K ("Objects" : Str)) ("ids" : Str) (sp_Objects_ids K) [] E (tVar 2) tNil) tNil)))) (gTup K 2 (gCons (gName 6) (gCons (gName 7) gNil))))
    (tIfS (tTest (tOp rEq (tOp rModI (tCall (sp_l_take K) [] E (tCons (tVar 1) tNil)) (tC (.int 2))) (tC (.int 0))))
      (tFor (iTup K (tMeth (He.ga K ("Objects" : Str)) ("slots" : Str) (sp_Objects_slots K) [] E (tVar 2) (tCons (tVar 6) tNil))) (gTup K 3 (gCons (gName 8) (gCons (gName 9) (gCons (gName 10) gNil))))
      (tDrop (tMeth (He.ga K ("Objects" : Str)) ("put" : Str) (sp_Objects_put K) [] E (tVar 2) (tCons (tOp (rIxL K) (tMeth (He.ga K ("Objects" : Str)) ("ids" : Str) (sp_Objects_ids K) [] E (tVar 2) tNil) (tUn rNegI (tC (.int 1)))) (tCons (tVar 8) (tCons (tVar 9) (tCons (tVar 10) tNil)))))))
      tNext)))))
    (tRet (tCall (sp_l_equal K w) [] E (tCons (tVar 2) (tCons (tVar 3) tNil))))))))))

section
variable {K : PySem.W.Frag} {w : World} {vs : List V} {H : Hp} {Q : VK} {E : XK}
/-! ### plain facts -/
theorem place_none : ∀ {ts : List Sl} {x : Str} {i : Int}, getS ts x = none → placeF ts x i = -1
  | [], _, _, _ => rfl
  | s :: ts, x, i, h => by
    unfold getS at h
    unfold placeF
    split at h
    · cases h
    · rename_i c
      rw [if_neg c]
      exact place_none h
theorem place_some : ∀ {ts : List Sl} {x : Str} {i : Int} {s : Sl}, 0 ≤ i → getS ts x = some s → 0 ≤ placeF ts x i
  | [], _, _, _, _, h => by cases h
  | t :: ts, x, i, s, h0, h => by
    unfold getS at h
    unfold placeF
    split at h
    · rename_i c
      rw [if_pos c]
      exact h0
    · rename_i c
      rw [if_neg c]
      exact place_some (by omega) h
theorem place_ge (ts : List Sl) (x : Str) : decide (placeF ts x 0 ≥ 0) = (getS ts x).isSome := by
  cases e : getS ts x with
  | none => rw [place_none e]; rfl
  | some s => exact decide_eq_true (place_some (by omega) e)
theorem place_lt (ts : List Sl) (x : Str) : decide (placeF ts x 0 < 0) = !(getS ts x).isSome := by
  cases e : getS ts x with
  | none => rw [place_none e]; rfl
  | some s =>
    have := place_some (i := 0) (by omega) e
    exact decide_eq_false (by omega)
theorem place_hit : ∀ {ts : List Sl} {x : Str} {k : Nat} {s : Sl} (i : Int), ts[k]? = some s → s.name = x → (∀ j < k, ∀ t, ts[j]? = some t → t.name ≠ x) → placeF ts x i = i + (k : Int)
  | [], _, _, _, _, h, _, _ => by simp at h
  | t :: ts, x, 0, s, i, h, e, _ => by
    cases h
    unfold placeF
    rw [if_pos e]
    simp
  | t :: ts, x, k + 1, s, i, h, e, n => by
    unfold placeF
    rw [if_neg (n 0 (by omega) t rfl), place_hit (i + 1) (k := k) h e fun j hj u hu => n (j + 1) (by omega) u hu]
    push_cast
    omega
theorem place_miss {ts : List Sl} {x : Str} (h : ∀ t ∈ ts, t.name ≠ x) : placeF ts x 0 = -1 := by
  refine place_none ?_
  cases e : getS ts x with
  | none => rfl
  | some s =>
    obtain ⟨a, b⟩ := getS_mem e
    exact absurd b (h s a)
theorem nd_len [DecidableEq α] : ∀ {a b : List α}, a.Nodup → (∀ x ∈ a, x ∈ b) → a.length ≤ b.length
  | [], _, _, _ => Nat.zero_le _
  | x :: a, b, h, s => by
    obtain ⟨h1, h2⟩ := List.nodup_cons.mp h
    have hb := s x List.mem_cons_self
    have := nd_len (b := b.erase x) h2 fun y hy => (List.mem_erase_of_ne (fun z => h1 (by rw [← z]; exact hy))).mpr (s y (List.mem_cons_of_mem _ hy))
    rw [List.length_erase_of_mem hb] at this
    have := List.length_pos_of_mem hb
    simp only [List.length_cons]
    omega
theorem le7 {ts : List Sl} (n : NdS ts) (h : ∀ s ∈ ts, s.name ∈ namesL) : ts.length ≤ 7 := by
  have := nd_len (b := namesL) n fun x hx => by
    obtain ⟨s, hs, rfl⟩ := List.mem_map.mp hx
    exact h s hs
  rw [List.length_map] at this
  exact this
theorem Gd.isId {tab : List En} {nx M : Nat} (g : Gd tab nx M) {i : Int} (h : 0 ≤ i ∧ i < (nx : Int)) : isId tab i := by
  have : i.toNat ∈ tab.map (·.id) := by
    rw [g.ids, List.mem_range]
    omega
  obtain ⟨e, he, ee⟩ := List.mem_map.mp this
  exact ⟨e, he, by rw [ee]; omega⟩
theorem Gd.len {tab : List En} {nx M : Nat} (g : Gd tab nx M) : tab.length = nx := by
  have := congrArg List.length g.ids
  rw [List.length_map, List.length_range] at this
  exact this
theorem Gd.closed {tab : List En} {nx : Nat} (g : Gd tab nx nx) : Closed tab := fun e he i hi => by
  obtain ⟨s, hs, e1⟩ := List.mem_filterMap.mp hi
  unfold parOf at e1
  split at e1
  · exact g.isId ((g.s4 e he s hs).rf i e1)
  · cases e1
theorem parS_le (ts : List Sl) : (parS ts).length ≤ ts.length := List.length_filterMap_le _ _
/-! ### the program's -/
theorem run_Objects_ids (S : ObC K) (h : sp_Objects_ids K vs H Q E) : t_Objects_ids K E (DQ Q) (start ns_Objects_ids vs) H := by
  obtain ⟨p, dx, tb, tab, nx, rfl, O, q⟩ := h
  refine ⟨_, rfl, p, _, dx, _, _, rfl, O.ins, S.cl, S.nt, obF_t, tb, tabK tab, rfl, .inl O.tbl, fun r nr => ?_⟩
  refine q r _ (same_upd nr) nr ?_
  rw [upd_same]
  unfold tabK
  rw [List.map_map]
  rfl
theorem run_l_place (h : sp_l_place K vs H Q E) : t_l_place K E (DQ Q) (start ns_l_place vs) H := by
  obtain ⟨p, dx, tb, tab, nx, e, x, rfl, O, he, hl, q⟩ := h
  refine ⟨_, rfl, p, dx, _, rfl, O.ins, obF_no (by decide +kernel) (by decide +kernel), _, rfl, ?_⟩
  refine ⟨p, dx, tb, tab, nx, e, rfl, O, he, by omega, fun a H1 s1 t1 => ?_⟩
  obtain ⟨us, hu, tr⟩ := sls_open t1
  have lu := tr.len
  refine ⟨_, rfl, _, _, rfl, .inr ⟨_, SqT.of hu, rfl⟩, ?_⟩
  refine ⟨(us.length : Int), rfl, by omega, by omega, ?_⟩
  rw [Int.toNat_natCast]
  refine for_range (lo := 0) (n := us.length) (fun i σ G => ∃ v4 : Option V, σ = [some (.ref p), some (.int (e.id : Int)), some (.str x), some (.ref a), v4] ∧ G = H1 ∧ ∀ j < i, ∀ t, e.sl[j]? = some t → t.name ≠ x) ⟨none, rfl, rfl, fun j hj => absurd hj (Nat.not_lt_zero _)⟩ ?_ ?_
  · rintro i σ G hi ⟨v4, rfl, rfl, hn⟩
    have hx : us[i]? = some us[i] := List.getElem?_eq_getElem hi
    obtain ⟨s, t1, v1, es, e1, ht, _⟩ := tr.at_ i hx
    have hx2 : atI us (0 + (i : Int)) = some (.ref t1) := at_of (j := i) (by simp) (hx.trans (congrArg some e1))
    refine ⟨_, rfl, _, rfl, a, _, _, _, rfl, rfl, SqT.of hu, hx2, t1, _, _, _, rfl, rfl, SqT.of ht, atI_nat (j := 0) rfl, _, rfl, rfl, _, rfl, ite2 (fun c => ?_) (fun c => ?_)⟩
    · have c : s.name = x := V.str.inj (of_decide_eq_true c)
      refine ⟨_, rfl, ?_⟩
      have := q G s1
      rw [place_hit 0 es c hn] at this
      exact this
    · refine ⟨_, rfl, rfl, fun j hj t ht => ?_⟩
      by_cases e : j = i
      · subst e
        rw [es] at ht
        cases ht
        exact fun z => c (decide_eq_true (congrArg V.str z))
      · exact hn j (by omega) t ht
  · rintro σ G ⟨v4, rfl, rfl, hn⟩
    have := q G s1
    rw [place_miss fun t ht => by
      obtain ⟨j, hj⟩ := List.mem_iff_getElem?.mp ht
      exact hn j (by have := (List.getElem?_eq_some_iff.mp hj).1; omega) t hj] at this
    exact ⟨_, rfl, this⟩
theorem kind_par : ∀ k ∈ kindM, (inV (.str (Str.ofString k)) ([V.str ("parent" : Str), V.str ("varparent" : Str)])) = isPar (Str.ofString k) := by decide +kernel
theorem run_l_parents (h : sp_l_parents K vs H Q E) : t_l_parents K E (DQ Q) (start ns_l_parents vs) H := by
  obtain ⟨p, dx, tb, tab, nx, M, e, rfl, O, he, gd, q⟩ := h
  have hl := gd.le e he
  refine ⟨(by show 0 ≤ sizeLine; decide), fun f nf => ?_⟩
  have s0 := same_upd (o := .lst []) nf
  have O0 := O.same s0
  have f0 : (upd H f (.lst [])) f = some (.lst []) := upd_same
  generalize (upd H f (.lst [])) = H0 at s0 O0 f0
  refine ⟨_, rfl, p, dx, _, rfl, O0.ins, obF_no (by decide +kernel) (by decide +kernel), _, rfl, ?_⟩
  refine ⟨p, dx, tb, tab, nx, e, rfl, O0, he, by omega, fun a H1 s1 t1 => ?_⟩
  obtain ⟨us, hu, tr⟩ := sls_open t1
  have lu := tr.len
  refine ⟨a, rfl, ⟨_, SqT.of hu⟩, ?_⟩
  have nfa : ∀ b xs, H1 b = some (.tup xs) → b ≠ f := fun b xs z => ne_of z (s1 _ _ f0) (by intro y; cases y)
  refine for_it (walk_tup (xs := us)) (fun i σ G => ∃ (v3 v4 v5 : Option V) , σ = [some (.ref p), some (.int (e.id : Int)), some (.ref f), v3, v4, v5] ∧ G f = some (.lst ((parS (e.sl.take i)).map V.int)) ∧ (∀ b xs, H1 b = some (.tup xs) → G b = some (.tup xs)) ∧ ∀ b o, H b = some o → G b = some o) ⟨none, none, none, rfl, s1 _ _ f0, fun _ _ z => z, fun b o z => s1 _ _ (s0 _ _ z)⟩ (fun i σ G _ ⟨_, _, _, _, _, k1, _⟩ => SqT.of (k1 _ _ hu)) ?_ ?_
  · rintro i x σ G G' hi ⟨v3, v4, v5, rfl, gf, k1, k2⟩ ⟨rfl, hx⟩
    obtain ⟨s, t1, v, es, rfl, ht, tv⟩ := tr.at_ i hx
    have et : e.sl.take (i + 1) = e.sl.take i ++ [s] := by rw [List.take_add_one, es]; rfl
    refine ⟨t1, _, rfl, SqT.of (k1 _ _ ht), rfl, _, _, rfl, _, _, rfl, _, _, rfl, rfl, ?_⟩
    refine ⟨_, rfl, (by show 2 ≤ sizeLine; decide), fun p2 n2 => ?_⟩
    have s2 := same_upd (o := .tup [V.str ("parent" : Str), V.str ("varparent" : Str)]) n2
    refine ⟨_, _, rfl, .inr (SqT.of upd_same), rfl, (by decide +kernel), _, rfl, ?_⟩
    have gf2 := s2 _ _ gf
    have k1' := fun b xs z => s2 _ _ (k1 b xs z)
    have k2' := fun b o z => s2 _ _ (k2 b o z)
    generalize (upd G' p2 (.tup [V.str ("parent" : Str), V.str ("varparent" : Str)])) = G at gf2 k1' k2'
    show (if inV (.str s.kind) ([V.str ("parent" : Str), V.str ("varparent" : Str)]) = true then _ else _)
    have hs := List.mem_of_getElem? es
    obtain ⟨kx, hkx, ekx⟩ := (gd.s4 e he s hs).ok.kd
    have eK : inV (.str s.kind) ([V.str ("parent" : Str), V.str ("varparent" : Str)]) = isPar s.kind := by
      rw [ekx]
      exact kind_par kx hkx
    rw [eK]
    obtain ⟨w, rs, ev, hw⟩ := O.val e he s hs
    have keep : parOf s = none → G f = some (.lst ((parS (e.sl.take (i + 1))).map V.int)) := fun z => by
      rw [et, parS_snoc, z, gf2]
      simp
    refine ite2 (fun c => ?_) (fun c => ?_)
    · rw [ev] at tv
      cases tv with
      | @tup a2 xs ds ha rt =>
        cases rt with
        | @cons v0 vs0 d0 ds0 t0 rt =>
          cases t0
          refine ⟨_, rfl, a2, _, _, _, rfl, rfl, SqT.of (k1' _ _ ha), atI_nat (j := 0) rfl, rfl, _, rfl, ?_⟩
          refine ite2 (fun cw => ?_) (fun cw => ?_)
          · have cw : w = ("ref" : Str) := V.str.inj (of_decide_eq_true cw)
            obtain ⟨j, r', er⟩ := hw cw
            subst er
            cases rt with
            | @cons v1 vs1 d1 ds1 t1 rt =>
              cases t1
              have ep : parOf s = some j := by
                unfold parOf
                rw [if_pos c, ev]
                show (if w = ("ref" : Str) then some j else none) = _
                rw [if_pos cw]
              refine ⟨_, rfl, .inl ⟨rfl, _, SqL.of gf2⟩, _, rfl, a2, _, _, _, rfl, rfl, SqT.of (k1' _ _ ha), atI_nat (j := 1) rfl, f, _, _, rfl, rfl, gf2, ?_, ?_⟩
              · rw [List.length_map]
                refine Nat.lt_of_le_of_lt (parS_le _) (Nat.lt_of_le_of_lt (List.length_take_le _ _) (Nat.lt_of_le_of_lt (show i ≤ 100 by omega) (by decide)))
              · refine ⟨_, _, _, rfl, ?_, fun b xs z => (upd_ne (nfa b xs z)).trans (k1' b xs z), fun b o z => (upd_ne (ne_of_none z nf)).trans (k2' b o z)⟩
                rw [upd_same, et, parS_snoc, ep, List.map_append]
                rfl
          · have cw : ¬ w = ("ref" : Str) := fun z => cw (decide_eq_true (by rw [z]))
            have ep : parOf s = none := by
              unfold parOf
              rw [if_pos c, ev]
              unfold refOf
              split
              · rename_i w2 j2 r2 e2
                injection e2 with e2
                injection e2 with e2 e3
                injection e2 with e2
                subst e2
                rw [if_neg cw]
              · rfl
            exact ⟨_, _, _, rfl, keep ep, k1', k2'⟩
    · have ep : parOf s = none := by
        unfold parOf
        rw [if_neg c]
      exact ⟨_, _, _, rfl, keep ep, k1', k2'⟩
  · rintro σ G ⟨v3, v4, v5, rfl, gf, k1, k2⟩
    rw [List.take_of_length_le (by omega)] at gf
    exact ⟨_, rfl, q f G k2 nf gf⟩
/-! ### lists of numbers -/
theorem ints_dpA : ∀ L : List Int, DpAll K H (L.map V.int) (L.map PyData.int)
  | [] => .nil
  | i :: L => .cons (.int i) (ints_dpA L)
theorem ints_dp {a : Addr} {L : List Int} (h : H a = some (.lst (L.map V.int))) : Dp K H (.ref a) (.list (L.map PyData.int)) := .lst (SqL.of h) (ints_dpA L)
theorem ints_sh (L : List Int) : SeqAt.shaped (.list (L.map PyData.int)) = true := by
  have : PyData.canLayAll0 (L.map PyData.int) = true ∧ PyData.depthAll (L.map PyData.int) ≤ 3 := by
    induction L with
    | nil => exact ⟨rfl, Nat.zero_le _⟩
    | cons i L ih =>
      obtain ⟨a, b⟩ := ih
      simp [PyData.canLayAll0, PyData.depthAll, PyData.canLay0, PyData.depth, a]
      omega
  simp [SeqAt.shaped, PyData.canLay0, PyData.depth, this.1]
  omega
theorem ints_eqvA : ∀ L M : List Int, PyData.eqvAll (L.map PyData.int) (M.map PyData.int) = decide (L = M)
  | [], [] => rfl
  | [], _ :: _ => rfl
  | _ :: _, [] => rfl
  | i :: L, j :: M => by
    show PyData.eqvAll (.int i :: L.map PyData.int) (.int j :: M.map PyData.int) = _
    rw [PyData.eqvAll, ints_eqvA L M, PyData.eqv]
    have : (i == j) = decide (i = j) := by
      rw [Bool.eq_iff_iff]
      simp
    rw [this]
    simp
theorem ints_eqv (L M : List Int) : PyData.eqv (.list (L.map PyData.int)) (.list (M.map PyData.int)) = decide (L = M) := by
  rw [PyData.eqv]
  exact ints_eqvA L M
theorem inV_ints (i : Int) (L : List Int) : inV (.int i) (L.map V.int) = decide (i ∈ L) := by
  induction L with
  | nil => rfl
  | cons j L ih =>
    show (eqV (.int j) (.int i) || inV (.int i) (L.map V.int)) = _
    rw [ih]
    have : eqV (.int j) (.int i) = decide (i = j) := by
      rw [Bool.eq_iff_iff]
      simp [eqV]
      exact eq_comm
    rw [this]
    simp
theorem flat_ints (L : List Int) : (L.map V.int).all flatV = true := by
  rw [List.all_eq_true]
  intro v hv
  obtain ⟨i, _, rfl⟩ := List.mem_map.mp hv
  rfl
theorem hasS_mem {tab : List En} (o : tab.Pairwise fun a b => a.id < b.id) {e : En} (he : e ∈ tab) (x : Str) : hasS tab x (e.id : Int) = (getS e.sl x).isSome := by
  unfold hasS slotOf
  rw [entOf_mem o he]
  rfl
theorem ix0 {n : Nat} (h : 0 < n) : seqIndex? 0 n = some 0 := by
  unfold seqIndex?
  simp [h]
theorem run_l_reach (h : sp_l_reach K vs H Q E) : t_l_reach K E (DQ Q) (start ns_l_reach vs) H := by
  obtain ⟨p, dx, tb, tab, nx, a, st, x, rfl, O, ha, hid, gd, hl, q⟩ := h
  refine ⟨(by show 0 ≤ sizeLine; decide), fun lk nk => ?_⟩
  have s1 := same_upd (o := .lst []) nk
  refine ⟨_, rfl, a, _, rfl, .inl (SqL.of (s1 _ _ ha)), fun wt nw => ?_⟩
  have s2 := same_upd (o := .lst (st.map V.int)) nw
  refine ⟨200, rfl, by decide, by decide, ?_⟩
  refine for_range (lo := 0) (n := 200) (fun k σ G => ∃ (wt : Addr) (v5 v6 : Option V) (L W : List Int), σ = [some (.ref p), some (.ref a), some (.str x), some (.ref lk), some (.ref wt), v5, v6] ∧ Same H G ∧ G lk = some (.lst (L.map V.int)) ∧ G wt = some (.lst (W.map V.int)) ∧ lk ≠ wt ∧ H wt = none ∧
    stpN tab x (200 - k) (L, W) = stpN tab x 200 ([], st) ∧ (∀ i ∈ W, isId tab i) ∧ W.length ≤ 7 + 7 * k ∧ L.length ≤ k) ⟨wt, none, none, [], st, rfl, s1.trans s2, s2 _ _ upd_same, upd_same, ne_of_none upd_same nw, Same.free s1 nw, rfl, hid, by omega, Nat.le_refl _⟩ ?_ ?_
  · rintro k σ G hk ⟨wt, v5, v6, L, W, rfl, sm, gl, gw, nlw, nwt, es, hW, lW, lL⟩
    have e200 : 200 - k = (200 - (k + 1)) + 1 := by omega
    rw [e200, stpN] at es
    refine ⟨_, rfl, (by show 0 ≤ sizeLine; decide), fun e1 n1 => ?_⟩
    have s3 := same_upd (o := .lst []) n1
    refine ⟨_, _, ints_dp (s3 _ _ gw), ints_dp (L := []) upd_same, ints_sh W, ints_sh [], _, rfl, ?_⟩
    rw [ints_eqv]
    have gl2 := s3 _ _ gl
    have gw2 := s3 _ _ gw
    have sm2 := sm.trans s3
    generalize (upd G e1 (.lst [])) = G2 at gl2 gw2 sm2
    cases W with
    | nil =>
      refine iteF ⟨wt, _, _, L, [], rfl, sm2, gl2, gw2, nlw, nwt, es, hW, Nat.zero_le _, by omega⟩
    | cons i W =>
      refine iteT ?_
      refine ⟨_, rfl, .inl ⟨rfl, _, SqL.of gw2⟩, wt, _, 0, 0, _, rfl, rfl, gw2, by decide, by decide, ix0 (by simp), rfl, ?_⟩
      show gName 6 (.int i) _ (upd G2 wt (.lst (W.map V.int))) _
      have gl3 : (upd G2 wt (.lst (W.map V.int))) lk = _ := (upd_ne nlw).trans gl2
      have gw3 : (upd G2 wt (.lst (W.map V.int))) wt = _ := upd_same
      have sm3 : Same H (upd G2 wt (.lst (W.map V.int))) := fun b o z => (upd_ne (ne_of_none z nwt)).trans (sm2 b o z)
      generalize (upd G2 wt (.lst (W.map V.int))) = G3 at gl3 gw3 sm3
      have lW' : W.length ≤ 7 + 7 * k := by simp at lW; omega
      have hW' : ∀ j ∈ W, isId tab j := fun j hj => hW j (List.mem_cons_of_mem _ hj)
      refine ⟨_, rfl, _, rfl, lk, _, rfl, .inl (SqL.of gl3), rfl, flat_ints L, _, rfl, ?_⟩
      show (if (!inV (.int i) (L.map V.int)) = true then _ else _)
      rw [inV_ints]
      by_cases c : i ∈ L
      · rw [decide_eq_true c]
        refine iteF ⟨wt, _, _, L, W, rfl, sm3, gl3, gw3, nlw, nwt, ?_, hW', by omega, by omega⟩
        rw [← es, stp, if_pos c]
      · rw [decide_eq_false c]
        refine iteT ?_
        refine ⟨_, rfl, .inl ⟨rfl, _, SqL.of gl3⟩, _, rfl, lk, _, _, rfl, rfl, gl3, Nat.lt_of_le_of_lt (show (L.map V.int).length ≤ 1000 by rw [List.length_map]; omega) (by decide), ?_⟩
        have gl4 : (upd G3 lk (.lst (L.map V.int ++ [.int i]))) lk = some (.lst ((L ++ [i]).map V.int)) := by
          rw [List.map_append]
          exact upd_same
        have gw4 : (upd G3 lk (.lst (L.map V.int ++ [.int i]))) wt = _ := (upd_ne (Ne.symm nlw)).trans gw3
        have sm4 : Same H (upd G3 lk (.lst (L.map V.int ++ [.int i]))) := fun b o z => (upd_ne (ne_of_none z nk)).trans (sm3 b o z)
        generalize (upd G3 lk (.lst (L.map V.int ++ [.int i]))) = G4 at gl4 gw4 sm4
        obtain ⟨e, he, ei⟩ := hW i List.mem_cons_self
        subst ei
        refine ⟨_, rfl, _, rfl, _, rfl, p, dx, tb, tab, nx, e, x, rfl, O.same sm4, he, by have := gd.le e he; omega, fun G5 s5 => ⟨_, _, rfl, rfl, _, rfl, ?_⟩⟩
        rw [place_lt]
        have hs := hasS_mem O.ord he x
        have sm5 := sm4.trans s5
        cases g : (getS e.sl x).isSome with
        | true =>
          rw [g] at hs
          refine iteF ⟨wt, _, _, L ++ [(e.id : Int)], W, rfl, sm5, s5 _ _ gl4, s5 _ _ gw4, nlw, nwt, ?_, hW', by omega, by simp; omega⟩
          rw [← es, stp, if_neg c, if_pos hs]
        | false =>
          rw [g] at hs
          refine iteT ?_
          refine ⟨_, rfl, _, rfl, _, rfl, p, dx, tb, tab, nx, nx, e, rfl, O.same sm5, he, gd, fun pq G6 s6 n6 g6 => ?_⟩
          have lp : (parS e.sl).length ≤ 7 := Nat.le_trans (parS_le _) (gd.le e he)
          refine ⟨wt, pq, _, _, rfl, rfl, s6 _ _ (s5 _ _ gw4), g6, small_s (by rw [List.length_map, List.length_map]; omega), fun wt2 n2 => ?_⟩
          have s7 := same_upd (o := .lst (W.map V.int ++ (parS e.sl).map V.int)) n2
          have S := (s5.trans s6).trans s7
          refine ⟨wt2, _, _, L ++ [(e.id : Int)], W ++ parS e.sl, rfl, sm4.trans S, S _ _ gl4, ?_, ne_of_none ((s5.trans s6) _ _ gl4) n2, Same.free (sm5.trans s6) n2, ?_, ?_, by simp; omega, by simp; omega⟩
          · rw [List.map_append]
            exact upd_same
          · rw [← es, stp, if_neg c, if_neg (by rw [hs]; exact Bool.false_ne_true), parI_mem O.ord he]
          · intro j hj
            rcases List.mem_append.mp hj with hj | hj
            · exact hW' j hj
            · exact gd.closed e he j hj
  · rintro σ G ⟨wt, v5, v6, L, W, rfl, sm, gl, gw, nlw, nwt, es, hW, lW, lL⟩
    refine ⟨_, rfl, lk, L, rfl, SqL.of gl, fun ns' r p1 p2 nr => ?_⟩
    have e : ns' = rchS tab x st := by
      unfold rchS
      rw [← es]
      exact srtI_eq p1 p2
    subst e
    exact q r _ (sm.trans (same_upd nr)) (Same.free sm nr) upd_same
/-! ### answers -/
theorem stp_ok {tab : List En} {x : Str} (cl : Closed tab) (o : tab.Pairwise fun a b => a.id < b.id) : ∀ {s : List Int × List Int}, ((∀ i ∈ s.1, isId tab i) ∧ ∀ i ∈ s.2, isId tab i) → ((∀ i ∈ (stp tab x s).1, isId tab i) ∧ ∀ i ∈ (stp tab x s).2, isId tab i) ∧ (stp tab x s).1.length ≤ s.1.length + 1
  | (L, []), h => ⟨h, Nat.le_succ _⟩
  | (L, i :: w), h => by
    have hi := h.2 i List.mem_cons_self
    have hw : ∀ j ∈ w, isId tab j := fun j hj => h.2 j (List.mem_cons_of_mem _ hj)
    have hL : ∀ j ∈ L ++ [i], isId tab j := fun j hj => by
      rcases List.mem_append.mp hj with hj | hj
      · exact h.1 j hj
      · rw [List.mem_singleton.mp hj]
        exact hi
    rw [stp]
    by_cases c1 : i ∈ L
    · rw [if_pos c1]
      exact ⟨⟨h.1, hw⟩, Nat.le_succ _⟩
    · rw [if_neg c1]
      split
      · exact ⟨⟨hL, hw⟩, by simp⟩
      · refine ⟨⟨hL, fun j hj => ?_⟩, by simp⟩
        rcases List.mem_append.mp hj with hj | hj
        · exact hw j hj
        · obtain ⟨e, he, ei⟩ := hi
          rw [← ei, parI_mem o he] at hj
          exact cl e he j hj
theorem stpN_ok {tab : List En} {x : Str} (cl : Closed tab) (o : tab.Pairwise fun a b => a.id < b.id) : ∀ (n : Nat) {s : List Int × List Int}, ((∀ i ∈ s.1, isId tab i) ∧ ∀ i ∈ s.2, isId tab i) → (∀ i ∈ (stpN tab x n s).1, isId tab i) ∧ (stpN tab x n s).1.length ≤ s.1.length + n
  | 0, s, h => ⟨h.1, Nat.le_refl _⟩
  | n + 1, s, h => by
    obtain ⟨a, b⟩ := stp_ok (x := x) cl o h
    obtain ⟨c, d⟩ := stpN_ok cl o n a
    exact ⟨c, by rw [stpN]; omega⟩
theorem rchS_ok {tab : List En} {x : Str} {st : List Int} (cl : Closed tab) (o : tab.Pairwise fun a b => a.id < b.id) (h : ∀ i ∈ st, isId tab i) : (∀ i ∈ rchS tab x st, isId tab i) ∧ (rchS tab x st).length ≤ 200 := by
  obtain ⟨a, b⟩ := stpN_ok (x := x) cl o 200 (s := ([], st)) ⟨(fun i hi => by cases hi), h⟩
  have p : (rchS tab x st).Perm _ := List.mergeSort_perm _ _
  refine ⟨fun i hi => a i (p.mem_iff.mp hi), ?_⟩
  rw [p.length_eq]
  simpa using b
theorem plcI_mem {tab : List En} (o : tab.Pairwise fun a b => a.id < b.id) {e : En} (he : e ∈ tab) (x : Str) : plcI tab x (e.id : Int) = placeF e.sl x 0 := by
  unfold plcI
  rw [entOf_mem o he]
theorem run_l_through (h : sp_l_through K vs H Q E) : t_l_through K E (DQ Q) (start ns_l_through vs) H := by
  obtain ⟨p, dx, tb, tab, nx, a, st, x, rfl, O, ha, hid, gd, hl, q⟩ := h
  refine ⟨_, rfl, _, rfl, _, rfl, p, dx, tb, tab, nx, a, st, x, rfl, O, ha, hid, gd, hl, fun q1 H1 s1 n1 g1 => ?_⟩
  obtain ⟨rid, rle⟩ := rchS_ok (x := x) gd.closed O.ord hid
  refine ⟨q1, rfl, ⟨_, SqL.of g1⟩, ?_⟩
  intro D nD
  refine lc_list (xs := (rchS tab x st).map V.int) (fun i G => ∃ acc : List Int, Same H1 G ∧ G D = some (.lst (acc.map V.int)) ∧ acc = ((rchS tab x st).take i).filter (hasS tab x)) ⟨[], same_upd nD, upd_same, rfl⟩ (fun i G _ z => by
    obtain ⟨acc, s, _⟩ := z
    exact SqL.of (s _ _ g1)) ?_ ?_
  · rintro k y G hy ⟨acc, sG, gD, ea⟩
    rw [List.getElem?_map] at hy
    obtain ⟨i, hi, rfl⟩ := Option.map_eq_some_iff.mp hy
    obtain ⟨e, he, ei⟩ := rid i (List.mem_of_getElem? hi)
    subst ei
    have lacc : acc.length ≤ 200 := by
      rw [ea]
      exact Nat.le_trans (List.length_filter_le _ _) (Nat.le_trans (List.length_take_le _ _) (by
        have := (List.getElem?_eq_some_iff.mp hi).1
        omega))
    refine ⟨rfl, ?_⟩
    refine ⟨_, rfl, _, rfl, _, rfl, p, dx, tb, tab, nx, e, x, rfl, O.same (s1.trans sG), he, by have := gd.le e he; omega, fun G2 s2 => ⟨_, _, rfl, rfl, _, rfl, ?_⟩⟩
    rw [place_ge]
    have hs := hasS_mem O.ord he x
    cases g : (getS e.sl x).isSome with
    | false =>
      rw [g] at hs
      refine iteF ⟨acc, sG.trans s2, s2 _ _ gD, ?_⟩
      rw [take_snoc hi, List.filter_append, ← ea, List.filter_cons, if_neg (by rw [hs]; exact Bool.false_ne_true)]
      exact (List.append_nil acc).symm
    | true =>
      rw [g] at hs
      refine iteT ⟨_, rfl, _, s2 _ _ gD, Nat.lt_of_le_of_lt (show (acc.map V.int).length ≤ 200 by rw [List.length_map]; exact lacc) (by decide), acc ++ [(e.id : Int)], fun b u z => ?_, by rw [upd_same, List.map_append]; rfl, ?_⟩
      · rw [upd_ne (ne_of_none z nD)]
        exact s2 b u (sG b u z)
      · rw [take_snoc hi, List.filter_append, ← ea, List.filter_cons, if_pos hs]
        rfl
  · rintro G ⟨hs1, sG, gD, ea⟩
    rw [List.length_map, List.take_length] at ea
    have lhs : hs1.length ≤ 200 := by
      rw [ea]
      exact Nat.le_trans (List.length_filter_le _ _) rle
    have mhs : ∀ i ∈ hs1, isId tab i := fun i hi => rid i (by rw [ea] at hi; exact (List.mem_filter.mp hi).1)
    have S := s1.trans sG
    have et : thrD tab x st = thrF tab x hs1 := by
      unfold thrD
      rw [ea]
    rw [et] at q
    refine ⟨_, rfl, (by show 0 ≤ sizeLine; decide), fun e1 m1 => ?_⟩
    have s3 := same_upd (o := .lst []) m1
    refine ⟨_, _, ints_dp (s3 _ _ gD), ints_dp (L := []) upd_same, ints_sh hs1, ints_sh [], _, rfl, ?_⟩
    rw [ints_eqv]
    have gD2 := s3 _ _ gD
    have S2 := S.trans s3
    generalize (upd G e1 (.lst [])) = G2 at gD2 S2
    cases hs1 with
    | nil => exact iteT ⟨(by show 1 ≤ sizeLine; decide), fun p1 n1 => q p1 _ (S2.trans (same_upd n1)) (.tup upd_same (.cons (.str _) .nil))⟩
    | cons i hs1 =>
      refine iteF ?_
      refine ⟨_, rfl, _, _, rfl, .inl ⟨_, SqL.of gD2, rfl⟩, _, _, rfl, rfl, _, rfl, ?_⟩
      cases hs1 with
      | cons j hs1 =>
        refine ite2 (fun _ => ?_) (fun c => absurd (decide_eq_true (by simp; omega)) c)
        · exact ⟨(by show 1 ≤ sizeLine; decide), fun p1 n1 => q p1 _ (S2.trans (same_upd n1)) (.tup upd_same (.cons (.str _) .nil))⟩
      | nil =>
        refine iteF ?_
        obtain ⟨e, he, ei⟩ := mhs i List.mem_cons_self
        subst ei
        refine ⟨_, rfl, D, _, _, _, rfl, rfl, SqL.of gD2, atI_nat (j := 0) rfl, ?_⟩
        refine ⟨_, rfl, _, rfl, D, _, _, _, rfl, rfl, SqL.of gD2, atI_nat (j := 0) rfl, _, rfl, p, dx, tb, tab, nx, e, x, rfl, O.same S2, he, by have := gd.le e he; omega, fun G3 s4 => ⟨(by show 3 ≤ sizeLine; decide), fun p1 n1 => ?_⟩⟩
        refine q p1 _ ((S2.trans s4).trans (same_upd n1)) ?_
        rw [thrF, plcI_mem O.ord he]
        exact .tup upd_same (.cons (.str _) (.cons (.int _) (.cons (.int _) .nil)))
theorem ifD {A B : Prop} {p : Prop} [Decidable p] (h1 : p → A) (h2 : ¬ p → B) : if decide p = true then A else B := by
  by_cases h : p
  · rw [decide_eq_true h]
    exact iteT (h1 h)
  · rw [decide_eq_false h]
    exact iteF (h2 h)
theorem par_ids {tab : List En} {nx : Nat} (gd : Gd tab nx nx) {e : En} (he : e ∈ tab) : ∀ i ∈ parS e.sl, isId tab i := gd.closed e he
theorem run_l_answer (h : sp_l_answer K vs H Q E) : t_l_answer K E (DQ Q) (start ns_l_answer vs) H := by
  obtain ⟨p, dx, tb, tab, nx, e, x, rfl, O, he, gd, q⟩ := h
  have l7 := gd.le e he
  refine ⟨_, rfl, _, rfl, _, rfl, p, dx, tb, tab, nx, e, x, rfl, O, he, by omega, fun H1 s1 => ?_⟩
  refine ⟨_, rfl, _, _, rfl, rfl, _, rfl, ?_⟩
  refine ifD (fun c => ?_) (fun c => ?_)
  · refine ⟨_, rfl, (by show 2 ≤ sizeLine; decide), fun p1 n1 => q p1 _ (s1.trans (same_upd n1)) ?_⟩
    unfold ansD
    rw [if_pos c]
    exact .tup upd_same (.cons (.str _) (.cons (.int _) .nil))
  · refine ⟨_, rfl, _, rfl, _, rfl, p, dx, tb, tab, nx, nx, e, rfl, O.same s1, he, gd, fun q2 G2 s2 n2 g2 => ?_⟩
    refine ⟨_, rfl, p, dx, tb, tab, nx, q2, parS e.sl, x, rfl, (O.same s1).same s2, g2, par_ids gd he, gd, Nat.le_trans (parS_le _) l7, fun q3 G3 s3 t3 => q q3 G3 ((s1.trans s2).trans s3) ?_⟩
    unfold ansD
    rw [if_neg c]
    exact t3
/-! ### rests_on -/
theorem trs_ints : ∀ {vs : List V} {L : List Int}, Trs H vs (L.map PyData.int) → vs = L.map V.int
  | _, [], .nil => rfl
  | _, i :: L, .cons t r => by
    cases t
    rw [trs_ints r]
    rfl
theorem bd_le : ∀ {tab : List En}, (∀ e ∈ tab, e.sl.length ≤ 7) → bdS tab ≤ 7 * tab.length
  | [], _ => Nat.le_refl _
  | e :: tab, h => by
    have a := bd_le (tab := tab) fun e he => h e (List.mem_cons_of_mem _ he)
    have b := Nat.le_trans (parS_le e.sl) (h e List.mem_cons_self)
    unfold bdS at *
    simp only [List.map_cons, List.sum_cons, List.length_cons]
    omega
theorem fuel_le {tab : List En} {nx M : Nat} (g : Gd tab nx M) (h : nx ≤ 20) {st : List Int} (hs : st.length ≤ 7) : fuel tab st ≤ 10000000 := by
  have a := bd_le g.le
  rw [g.len] at a
  unfold fuel
  rw [g.len]
  have b : bdS tab + 1 ≤ 141 := by omega
  have c := Nat.mul_le_mul h b
  omega
theorem run_rests_on (h : sp_rests_on K vs H Q E) : t_rests_on K E (DQ Q) (start ns_rests_on vs) H := by
  obtain ⟨p, dx, tb, tab, nx, e, x, rfl, O, he, gd, hn, q⟩ := h
  have l7 := gd.le e he
  refine ⟨_, rfl, p, dx, _, rfl, O.ins, obF_no (by decide +kernel) (by decide +kernel), _, rfl, _, rfl, ?_⟩
  refine ⟨p, dx, tb, tab, nx, e, x, rfl, O, he, fun g => ⟨rfl, _, rfl, ?_⟩, fun s qa v g hq tv => ⟨rfl, _, rfl, ?_⟩⟩
  · rw [decide_eq_true (show V.non = V.non from rfl)]
    refine iteF ?_
    refine ⟨_, rfl, _, rfl, p, dx, _, rfl, O.ins, obF_no (by decide +kernel) (by decide +kernel), _, rfl, p, dx, tb, tab, nx, e, rfl, O, he, by omega, fun q2 G2 s2 n2 g2 => ?_⟩
    refine ⟨_, rfl, p, dx, tb, tab, nx, q2, parS e.sl, x, rfl, O.same s2, g2, par_ids gd he, gd.closed, (fun e he => by have := gd.le e he; omega), fuel_le gd hn (Nat.le_trans (parS_le _) l7), fun q3 G3 s3 t3 => ?_⟩
    cases t3 with
    | tup h3 r3 =>
      cases r3 with
      | cons t0 r3 =>
        cases r3 with
        | cons t1 r3 =>
          cases r3
          cases t1 with
          | @tup a1 xs1 ds1 h4 r4 =>
            have e4 := trs_ints r4
            subst e4
            refine ⟨q3, _, rfl, SqT.of h3, rfl, _, _, rfl, _, _, rfl, rfl, ?_⟩
            refine ⟨_, rfl, a1, _, rfl, SqT.of h4, fun ns' r p1 p2 nr => ?_⟩
            refine q r _ ((s2.trans s3).trans (same_upd nr)) ?_
            rw [upd_same, srtI_eq p1 p2]
            unfold rstF
            rw [g]
  · rw [decide_eq_false (show ¬ V.ref qa = V.non by intro z; cases z)]
    refine iteT ⟨(by show 0 ≤ sizeLine; decide), fun p1 n1 => q p1 _ (same_upd n1) ?_⟩
    unfold rstF
    rw [g]
    exact upd_same
/-! ### the world -/
section
variable {G G' : Hp} {d r po dxo tb p dx lr nr wr : Addr} {tab : List En} {nx M : Nat} {as : List Addr} {Rs : List PyData} {B : Nat}
theorem W7.mono {C : Nat} (W : W7 K w G d r po dxo tb p dx lr nr wr tab nx M as Rs B) (h : B ≤ C) : W7 K w G d r po dxo tb p dx lr nr wr tab nx M as Rs C :=
  ⟨W.dr, W.ob, W.sh, W.gd, Nat.le_trans W.lR h, W.nt, W.na, W.np, W.rl⟩
theorem W7.same (W : W7 K w G d r po dxo tb p dx lr nr wr tab nx M as Rs B) (s : Same G G') : W7 K w G' d r po dxo tb p dx lr nr wr tab nx M as Rs B :=
  ⟨W.dr.same s, W.ob.same s, W.sh.same s, W.gd, W.lR, W.nt, W.na, W.np, W.rl⟩
theorem W7.kept (W : W7 K w G d r po dxo tb p dx lr nr wr tab nx M as Rs B) (k : Kept d G G') (D : Dr G' d r) : W7 K w G' d r po dxo tb p dx lr nr wr tab nx M as Rs B := by
  have tk := W.dr.tk k
  obtain ⟨i, ns, h1, _⟩ := id W.dr
  have f : ∀ b o, G b = some o → (∀ z, o ≠ .dK z) → b ≠ d := fun b o e n => ne_of e h1 (fun z => n _ z)
  exact ⟨D, K42.ob_upto (X := fun b => b = d) W.ob k (f _ _ W.ob.ins (by intro z y; cases y)) (Ne.symm W.nt) (fun e he => Ne.symm (W.na e he)) tk,
    W.sh.upto (X := fun b => b = d) k (f _ _ W.sh.ins (by intro z y; cases y)) (f _ _ W.sh.rows (by intro z y; cases y)) (f _ _ W.sh.num (by intro z y; cases y)) (f _ _ W.sh.way (by intro z y; cases y)) tk,
    W.gd, W.lR, W.nt, W.na, W.np, W.rl⟩
/-- the objects have changed -/
theorem W7.obj {tab' : List En} {nx' M' : Nat} (W : W7 K w G d r po dxo tb p dx lr nr wr tab nx M as Rs B) (k : KO po tb tab G G') (O : Ob K G' po dxo tb tab' nx') (gd : Gd tab' nx' M') (na : ∀ e ∈ tab', d ≠ e.at_) : W7 K w G' d r po dxo tb p dx lr nr wr tab' nx' M' as Rs B := by
  have tk := W.ob.tk k
  have k' : ∀ b o, ¬ (b = po ∨ b = tb ∨ ∃ e ∈ tab, b = e.at_) → G b = some o → G' b = some o := fun b o n e => k b o (fun z => n (.inl z)) (fun z => n (.inr (.inl z))) (fun e he z => n (.inr (.inr ⟨e, he, z⟩))) e
  have f : ∀ b o, G b = some o → (∀ C dx fs, o ≠ .ins C dx fs) → (∀ z, o ≠ .dK z) → ¬ (b = po ∨ b = tb ∨ ∃ e ∈ tab, b = e.at_) := fun b o e n1 n2 z => by
    rcases z with z | z | ⟨e', he, z⟩
    · exact ne_of e W.ob.ins (n1 _ _ _) z
    · exact ne_of e W.ob.tbl (n2 _) z
    · obtain ⟨kvs, e2, _⟩ := W.ob.ent e' he
      exact ne_of e e2 (n2 _) z
  have fp : ¬ (p = po ∨ p = tb ∨ ∃ e ∈ tab, p = e.at_) := fun z => by
    rcases z with z | z | ⟨e', he, z⟩
    · exact W.np z.symm
    · exact ne_of W.sh.ins W.ob.tbl (by intro y; cases y) z
    · obtain ⟨kvs, e2, _⟩ := W.ob.ent e' he
      exact ne_of W.sh.ins e2 (by intro y; cases y) z
  obtain ⟨i, ns, h1, h2, h3⟩ := id W.dr
  refine ⟨⟨i, ns, k' _ _ (fun z => ?_) h1, k' _ _ (f _ _ h2 (by intro _ _ _ y; cases y) (by intro _ y; cases y)) h2, h3⟩, O,
    W.sh.upto (X := fun b => b = po ∨ b = tb ∨ ∃ e ∈ tab, b = e.at_) k' fp (f _ _ W.sh.rows (by intro _ _ _ y; cases y) (by intro _ y; cases y)) (f _ _ W.sh.num (by intro _ _ _ y; cases y) (by intro _ y; cases y)) (f _ _ W.sh.way (by intro _ _ _ y; cases y) (by intro _ y; cases y)) tk,
    gd, W.lR, W.nt, na, W.np, W.rl⟩
  rcases z with z | z | ⟨e', he, z⟩
  · exact ne_of h1 W.ob.ins (by intro y; cases y) z
  · exact W.nt z
  · exact W.na e' he z
/-- the shapes have more rows -/
theorem W7.shp {as' : List Addr} {Rs' : List PyData} {C : Nat} (W : W7 K w G d r po dxo tb p dx lr nr wr tab nx M as Rs B) (k : KS lr nr G G') (S : Sh K w G' p dx lr nr wr 0 as' Rs' []) (lR : Rs'.length ≤ C) : W7 K w G' d r po dxo tb p dx lr nr wr tab nx M as' Rs' C := by
  have tk := W.sh.ks k
  have k' : ∀ b o, ¬ (b = lr ∨ b = nr) → G b = some o → G' b = some o := fun b o n e => k b o (fun z => n (.inl z)) (fun z => n (.inr z)) e
  have oth : ∀ b o, G b = some o → (∀ xs, o ≠ .lst xs) → (∀ φ, o ≠ .ext φ) → ¬ (b = lr ∨ b = nr) := fun b o e n1 n2 z => by
    rcases z with z | z
    · exact ne_of e W.sh.rows (n1 _) z
    · exact dn_ne W.sh.num e n2 z
  obtain ⟨i, ns, h1, h2, h3⟩ := id W.dr
  refine ⟨⟨i, ns, k' _ _ (oth _ _ h1 (by intro _ y; cases y) (by intro _ y; cases y)) h1, k' _ _ (fun z => ?_) h2, h3⟩, K42.ob_upto (X := fun b => b = lr ∨ b = nr) W.ob k' (oth _ _ W.ob.ins (by intro _ y; cases y) (by intro _ y; cases y)) (oth _ _ W.ob.tbl (by intro _ y; cases y) (by intro _ y; cases y)) (fun e he => ?_) tk, S, W.gd, lR, W.nt, W.na, W.np, W.rl⟩
  · rcases z with z | z
    · exact W.rl z
    · exact dn_ne W.sh.num h2 (by intro _ y; cases y) z
  · obtain ⟨kvs, e2, _⟩ := W.ob.ent e he
    exact oth _ _ e2 (by intro _ y; cases y) (by intro _ y; cases y)
theorem W7.sg (W : W7 K w G d r po dxo tb p dx lr nr wr tab nx M as Rs B) {e : En} (he : e ∈ tab) : SlG e.sl := ⟨fun s hs => (W.gd.s4 e he s hs).ok.g, by have := W.gd.le e he; omega⟩
end
/-! ### key_of -/
theorem ixF_at (f : Sl → Bool) : ∀ (ts : List Sl) (n k : Nat) {z : Int}, (ixF f ts n)[k]? = some z → ∃ (m : Nat) (s : Sl), z = ((n + m : Nat) : Int) ∧ ts[m]? = some s ∧ (ts.filter f)[k]? = some s
  | [], n, k, z, h => by simp [ixF] at h
  | s :: ts, n, k, z, h => by
    unfold ixF at h
    split at h
    · rename_i c
      cases k with
      | zero =>
        cases h
        exact ⟨0, s, rfl, rfl, by rw [List.filter_cons, if_pos c]; rfl⟩
      | succ k =>
        obtain ⟨m, t, a, b, e⟩ := ixF_at f ts (n + 1) k h
        exact ⟨m + 1, t, by rw [a]; congr 1; omega, b, by rw [List.filter_cons, if_pos c]; exact e⟩
    · rename_i c
      obtain ⟨m, t, a, b, e⟩ := ixF_at f ts (n + 1) k h
      exact ⟨m + 1, t, by rw [a]; congr 1; omega, b, by rw [List.filter_cons, if_neg c]; exact e⟩
theorem ixF_len (f : Sl → Bool) : ∀ (ts : List Sl) (n : Nat), (ixF f ts n).length = (ts.filter f).length
  | [], _ => rfl
  | s :: ts, n => by
    unfold ixF
    rw [List.filter_cons]
    split <;> simp [ixF_len f ts (n + 1)]
theorem ixF_rw : ∀ (ts : List Sl) (n : Nat), ixF isVp (ts.map rwS) n = ixF isVp ts n
  | [], _ => rfl
  | s :: ts, n => by
    rw [List.map_cons, ixF, ixF, ixF_rw ts (n + 1)]
    rfl
theorem run_key_of (h : sp_key_of K w vs H Q E) : t_key_of K w E (DQ Q) (start ns_key_of vs) H := by
  obtain ⟨d, r, po, dxo, tb, p, dx, lr, nr, wr, tab, nx, M, as, Rs, B, e, x, rfl, W, he, hB, q⟩ := h
  have l7 := W.gd.le e he
  refine ⟨_, rfl, po, dxo, _, rfl, W.ob.ins, obF_no (by decide +kernel) (by decide +kernel), _, rfl, po, dxo, tb, tab, nx, e, rfl, W.ob, he, by omega, fun a G1 s1 t1 => ?_⟩
  have W1 := W.same s1
  refine ⟨_, rfl, p, dx, _, rfl, W1.sh.ins, shF_no (by decide +kernel) (by decide +kernel) (by decide +kernel) (by decide +kernel), _, rfl, p, dx, lr, nr, wr, 0, as, Rs, [], a, e.sl, rfl, W1.sh, t1, W1.sg he, by have := W.lR; omega, fun as' Rs' j G2 k2 S2 x2 hj => ?_⟩
  have W2 := W1.shp (C := B + 1) k2 S2 (Nat.le_trans x2.len (by have := W.lR; omega))
  have mo := Mono.ext x2
  have t2 := t1.keep (W1.sh.ks k2)
  have ks2 : KS lr nr H G2 := fun b o n1 n2 z => k2 b o n1 n2 (s1 b o z)
  have wrap : ∀ G3, Same G2 G3 → KS lr nr H G3 := fun G3 s b o n1 n2 z => s b o (ks2 b o n1 n2 z)
  refine ⟨_, rfl, po, dxo, _, rfl, W2.ob.ins, obF_no (by decide +kernel) (by decide +kernel), _, rfl, _, rfl, ?_⟩
  refine ⟨po, dxo, tb, tab, nx, e, x, rfl, W2.ob, he, fun g => ⟨rfl, _, rfl, ?_⟩, fun s qa v g hq tv => ⟨rfl, _, rfl, ?_⟩⟩
  · rw [decide_eq_true (show V.non = V.non from rfl)]
    refine iteF ?_
    refine ⟨_, rfl, _, rfl, p, dx, _, rfl, W2.sh.ins, shF_no (by decide +kernel) (by decide +kernel) (by decide +kernel) (by decide +kernel), _, rfl, p, dx, lr, nr, wr, 0, as', Rs', [], j, e.sl.map rwS, rfl, W2.sh, hj, by rw [List.length_map]; omega, fun q3 G3 s3 n3 g3 => ?_⟩
    rw [ixF_rw] at g3
    refine ⟨q3, rfl, ⟨_, SqT.of g3⟩, ?_⟩
    have t3 := t2.keep fun b xs z => s3 b _ z
    obtain ⟨us, hu, tr⟩ := sls_open t3
    intro D nD
    have lx := ixF_len isVp e.sl 0
    refine lc_tup (xs := (ixF isVp e.sl 0).map V.int) (fun i G => ∃ vs : List V, Same G3 G ∧ G D = some (.lst vs) ∧ Trs G vs ((vpV e.sl).take i) ∧ vs.length = i) ⟨[], same_upd nD, upd_same, .nil, rfl⟩ (fun i G _ z => by
      obtain ⟨vs, s, _⟩ := z
      exact SqT.of (s _ _ g3)) ?_ ?_
    · rintro k y G hy ⟨vs, sG, gD, tv, lv⟩
      rw [List.getElem?_map] at hy
      obtain ⟨i, hi, rfl⟩ := Option.map_eq_some_iff.mp hy
      obtain ⟨m, s, rfl, hm, hf⟩ := ixF_at isVp e.sl 0 k hi
      have hml : m < us.length := by
        have := (List.getElem?_eq_some_iff.mp hm).1
        have := tr.len
        omega
      obtain ⟨s', t9, v9, es, e9, ht9, tv9⟩ := tr.at_ m (List.getElem?_eq_getElem hml)
      rw [hm] at es
      cases es
      have hx2 : atI us (((0 + m : Nat) : Int)) = some (.ref t9) := at_of (j := m) (by simp) ((List.getElem?_eq_getElem hml).trans (congrArg some e9))
      have kl : k < e.sl.length := by
        have a1 := (List.getElem?_eq_some_iff.mp hf).1
        have a2 : (e.sl.filter isVp).length ≤ e.sl.length := List.length_filter_le _ _
        omega
      refine ⟨rfl, ?_⟩
      refine ⟨_, rfl, _, rfl, a, _, _, _, rfl, rfl, SqT.of (sG _ _ hu), hx2, t9, _, _, _, rfl, rfl, SqT.of (sG _ _ ht9), atI_nat (j := 2) rfl, _, gD, Nat.lt_of_le_of_lt (show vs.length ≤ 100 by omega) (by decide), vs ++ [v9], fun b u z => ?_, upd_same, ?_, by simp; omega⟩
      · rw [upd_ne (ne_of_none z nD)]
        exact sG b u z
      · have hv : (vpV e.sl)[k]? = some s.val := by
          unfold vpV
          rw [List.getElem?_map, hf]
          rfl
        rw [take_snoc hv]
        have tk := tk_put (ys := vs ++ [v9]) gD
        exact (tv.keep tk).snoc ((tv9.keep fun b xs z => sG b _ z).keep tk)
    · rintro G ⟨vs, sG, gD, tv, lv⟩
      have le : (vpV e.sl).length = ((ixF isVp e.sl 0).map V.int).length := by
        unfold vpV
        rw [List.length_map, List.length_map, lx]
      rw [List.take_of_length_le (by omega)] at tv
      refine ⟨D, vs, rfl, .inl ⟨SqL.of gD, fun l nl => ?_⟩⟩
      have s5 := same_upd (o := .tup vs) nl
      refine ⟨(by show 2 ≤ sizeLine; decide), fun p1 n1 => ?_⟩
      have s6 := same_upd (o := .tup [V.int (j : Int), V.ref l]) n1
      have S := ((s3.trans sG).trans s5).trans s6
      refine q as' Rs' j p1 _ (wrap _ S) (W2.same S) mo hj ?_
      unfold keyD
      rw [g]
      exact .tup upd_same (.cons (.int _) (.cons (.tup (s6 _ _ upd_same) (tv.keep fun b xs z => s6 b _ (s5 b _ z))) .nil))
  · rw [decide_eq_false (show ¬ V.ref qa = V.non by intro z; cases z)]
    refine iteT ⟨_, rfl, (by show 0 ≤ sizeLine; decide), fun p1 n1 => ⟨(by show 2 ≤ sizeLine; decide), fun p2 n2 => ?_⟩⟩
    have s5 := same_upd (o := .tup []) n1
    have s6 := same_upd (o := .tup [V.int (j : Int), V.ref p1]) n2
    have S := s5.trans s6
    refine q as' Rs' j p2 _ (wrap _ S) (W2.same S) mo hj ?_
    unfold keyD
    rw [g]
    exact .tup upd_same (.cons (.int _) (.cons (.tup (s6 _ _ upd_same) .nil) .nil))
/-! ### equal keys -/
theorem map_inj {α β : Type} {f : α → β} (h : ∀ a b, f a = f b → a = b) : ∀ {l m : List α}, l.map f = m.map f → l = m
  | [], [], _ => rfl
  | [], _ :: _, e => by cases e
  | _ :: _, [], e => by cases e
  | a :: l, b :: m, e => by
    rw [List.map_cons, List.map_cons] at e
    injection e with e1 e2
    rw [h a b e1, map_inj h e2]
theorem row_inj {ts us : List Sl} (h : rowD ts = rowD us) : ts.map rwS = us.map rwS := by
  have h : PyData.tuple ((ts.map rwS).map slT) = PyData.tuple ((us.map rwS).map slT) := h
  injection h with h
  exact map_inj (fun a b e => slT_inj e) h
theorem place_rw : ∀ {ts us : List Sl} (x : Str) (i : Int), ts.map rwS = us.map rwS → placeF ts x i = placeF us x i ∧ (getS ts x).isSome = (getS us x).isSome
  | [], [], _, _, _ => ⟨rfl, rfl⟩
  | [], _ :: _, _, _, e => by cases e
  | _ :: _, [], _, _, e => by cases e
  | s :: ts, t :: us, x, i, e => by
    rw [List.map_cons, List.map_cons] at e
    injection e with e1 e2
    have hn : (rwS s).name = (rwS t).name := congrArg Sl.name e1
    have hn : s.name = t.name := hn
    obtain ⟨a, b⟩ := place_rw (ts := ts) (us := us) x (i + 1) e2
    unfold placeF getS
    rw [hn, a]
    refine ⟨rfl, ?_⟩
    split
    · rfl
    · exact b
theorem vp_kinds : isPar ("varparent" : Str) = true ∧ isFix ("varparent" : Str) = false := by decide +kernel
theorem par_fix {k : Str} (h : isPar k = true) (n : k ≠ ("varparent" : Str)) : isFix k = true := by
  unfold isPar at h
  unfold isFix
  simp only [Bool.or_eq_true, decide_eq_true_eq] at h ⊢
  rcases h with h | h
  · exact .inr h
  · exact absurd h n
theorem par_rw : ∀ {ts us : List Sl}, ts.map rwS = us.map rwS → vpV ts = vpV us → parS ts = parS us
  | [], [], _, _ => rfl
  | [], _ :: _, e, _ => by cases e
  | _ :: _, [], e, _ => by cases e
  | s :: ts, t :: us, e, v => by
    rw [List.map_cons, List.map_cons] at e
    injection e with e1 e2
    have hk : (rwS s).kind = (rwS t).kind := congrArg Sl.kind e1
    have hk : s.kind = t.kind := hk
    have hf : (rwS s).val = (rwS t).val := congrArg Sl.val e1
    have hf : fixV s.kind s.val = fixV t.kind t.val := hf
    unfold vpV at v
    unfold parS
    rw [List.filterMap_cons, List.filterMap_cons]
    by_cases c : s.kind = ("varparent" : Str)
    · have cs : isVp s = true := decide_eq_true c
      have ct : isVp t = true := decide_eq_true (hk ▸ c)
      rw [List.filter_cons, if_pos cs, List.filter_cons, if_pos ct, List.map_cons, List.map_cons] at v
      injection v with v1 v2
      have ih := par_rw (ts := ts) (us := us) e2 v2
      unfold parS at ih
      have ep : parOf s = parOf t := by
        unfold parOf
        rw [hk, v1]
      rw [ep, ih]
    · have cs : ¬ isVp s = true := fun z => c (of_decide_eq_true z)
      have ct : ¬ isVp t = true := fun z => c (by rw [hk]; exact of_decide_eq_true z)
      rw [List.filter_cons, if_neg cs, List.filter_cons, if_neg ct] at v
      have ih := par_rw (ts := ts) (us := us) e2 v
      unfold parS at ih
      have ep : parOf s = parOf t := by
        unfold parOf
        rw [hk] at hf ⊢
        by_cases z : isPar t.kind = true
        · have fx := par_fix z (by rw [← hk]; exact c)
          unfold fixV at hf
          rw [if_pos fx, if_pos fx] at hf
          rw [hf]
        · rw [if_neg z, if_neg z]
      rw [ep, ih]
theorem keys_eq {tab : List En} {Rs : List PyData} {ts us : List Sl} {j k : Nat} {x : Str} (hj : Rs[j]? = some (rowD ts)) (hk : Rs[k]? = some (rowD us)) (h : keyD j x ts = keyD k x us) : ansD tab x ts = ansD tab x us ∧ rstF tab x ts = rstF tab x us := by
  have e1 : j = k := by
    unfold keyD at h
    split at h <;> split at h <;> (injection h with h; injection h with h _; injection h with h; omega)
  subst e1
  rw [hj] at hk
  have er := row_inj (Option.some.inj hk)
  obtain ⟨p1, p2⟩ := place_rw x 0 er
  cases g : getS ts x with
  | some s =>
    rw [g] at p2
    obtain ⟨t, g2⟩ := Option.isSome_iff_exists.mp p2.symm
    have h0 := place_some (i := 0) (by omega) g
    refine ⟨?_, ?_⟩
    · unfold ansD
      rw [← p1, if_pos h0, if_pos h0]
    · unfold rstF
      rw [g, g2]
  | none =>
    rw [g] at p2
    have g2 : getS us x = none := by
      cases z : getS us x with
      | none => rfl
      | some s => rw [z] at p2; cases p2
    unfold keyD at h
    rw [g, g2] at h
    injection h with h
    injection h with _ h
    injection h with h _
    injection h with h
    have ep := par_rw er h
    refine ⟨?_, ?_⟩
    · unfold ansD
      rw [← p1, ep]
    · unfold rstF
      rw [g, g2, ep]
/-! ### the shape of keys and answers -/
theorem vp_all {ts : List Sl} (h : ∀ s ∈ ts, SG s) : plAll (vpV ts) = true ∧ PyData.canLayAll0 (vpV ts) = true ∧ PyData.depthAll (vpV ts) ≤ 2 := by
  unfold vpV
  induction ts with
  | nil => exact ⟨rfl, rfl, Nat.zero_le _⟩
  | cons s ts ih =>
    obtain ⟨a, b, c⟩ := ih fun t ht => h t (List.mem_cons_of_mem _ ht)
    have g := (h s List.mem_cons_self).vl
    rw [List.filter_cons]
    split
    · rw [List.map_cons]
      refine ⟨by rw [Rm.Q.plAll, g.pl, a]; rfl, by rw [PyData.canLayAll0, g.lay, b]; rfl, ?_⟩
      have := g.dep
      rw [PyData.depthAll]
      omega
    · exact ⟨a, b, c⟩
theorem key_ok {ts : List Sl} (h : ∀ s ∈ ts, SG s) (j : Nat) (x : Str) : plD (keyD j x ts) = true ∧ SeqAt.shaped (keyD j x ts) = true := by
  obtain ⟨a, b, c⟩ := vp_all h
  unfold keyD
  split
  · exact ⟨rfl, by simp [SeqAt.shaped, PyData.canLay0, PyData.canLayAll0, PyData.depth, PyData.depthAll]⟩
  · refine ⟨by simp [plD, plAll, a], ?_⟩
    simp [SeqAt.shaped, PyData.canLay0, PyData.canLayAll0, PyData.depth, PyData.depthAll, b]
    omega
theorem words_ok : PyData.strOk ("own" : Str) = true ∧ PyData.strOk ("none" : Str) = true ∧ PyData.strOk ("held" : Str) = true ∧ PyData.strOk ("several" : Str) = true := by decide +kernel
theorem ans_sh (tab : List En) (x : Str) (ts : List Sl) : SeqAt.shaped (ansD tab x ts) = true := by
  obtain ⟨a, b, c, d⟩ := words_ok
  unfold ansD
  split
  · simp [SeqAt.shaped, PyData.canLay0, PyData.canLayAll0, PyData.depth, PyData.depthAll, a]
  · unfold thrD
    unfold thrF
    split <;> simp [SeqAt.shaped, PyData.canLay0, PyData.canLayAll0, PyData.depth, PyData.depthAll, b, c, d]
theorem W7.lst {G : Hp} {d r po dxo tb p dx lr nr wr l : Addr} {tab : List En} {nx M : Nat} {as : List Addr} {Rs : List PyData} {B : Nat} {ys zs : List V} (W : W7 K w G d r po dxo tb p dx lr nr wr tab nx M as Rs B) (hl : G l = some (.lst ys)) (n1 : l ≠ r) (n2 : l ≠ lr) : W7 K w (upd G l (.lst zs)) d r po dxo tb p dx lr nr wr tab nx M as Rs B := by
  have f : ∀ b o, ¬ b = l → G b = some o → (upd G l (.lst zs)) b = some o := fun b o n e => (upd_ne n).trans e
  have tk : TK G (upd G l (.lst zs)) := tk_put hl
  obtain ⟨i, ns, h1, h2, h3⟩ := id W.dr
  exact ⟨⟨i, ns, f _ _ (ne_of h1 hl (by intro z; cases z)) h1, f _ _ (Ne.symm n1) h2, h3⟩,
    K42.ob_upto (X := fun b => b = l) W.ob f (ne_of W.ob.ins hl (by intro z; cases z)) (ne_of W.ob.tbl hl (by intro z; cases z)) (fun e he => by
      obtain ⟨kvs, e2, _⟩ := W.ob.ent e he
      exact ne_of e2 hl (by intro z; cases z)) tk,
    W.sh.upto (X := fun b => b = l) f (ne_of W.sh.ins hl (by intro z; cases z)) (Ne.symm n2) (Ne.symm (dn_ne W.sh.num hl (by intro φ z; cases z))) (Ne.symm (dn_ne W.sh.way hl (by intro φ z; cases z))) tk, W.gd, W.lR, W.nt, W.na, W.np, W.rl⟩
theorem none_nr {G : Hp} {d r po dxo tb p dx lr nr wr a : Addr} {tab : List En} {nx M : Nat} {as : List Addr} {Rs : List PyData} {B : Nat} (W : W7 K w G d r po dxo tb p dx lr nr wr tab nx M as Rs B) (n : G a = none) : a ≠ lr ∧ a ≠ nr ∧ a ≠ r :=
  ⟨Ne.symm (ne_of_none W.sh.rows n), Ne.symm (ne_of_none W.sh.num n), Ne.symm (W.dr.neR n)⟩
/-- the keys of the first i objects, at vs -/
def KeysI (G : Hp) (tab : List En) (Rs : List PyData) (x : Str) (vs : List V) (i : Nat) : Prop := vs.length = i ∧ ∀ k < i, ∃ e j q, tab[k]? = some e ∧ vs[k]? = some (.ref q) ∧ Rs[j]? = some (rowD e.sl) ∧ Tr G (.ref q) (keyD j x e.sl)
theorem KeysI.keep {G G' : Hp} {tab : List En} {Rs Rs' : List PyData} {x : Str} {vs : List V} {i : Nat} (h : KeysI G tab Rs x vs i) (tk : TK G G') (mo : Mono Rs Rs') : KeysI G' tab Rs' x vs i := ⟨h.1, fun k hk => by
  obtain ⟨e, j, q, a, b, c, d⟩ := h.2 k hk
  exact ⟨e, j, q, a, b, mo j _ c, d.keep tk⟩⟩
theorem run_l_equal (h : sp_l_equal K w vs H Q E) : t_l_equal K w E (DQ Q) (start ns_l_equal vs) H := by
  obtain ⟨d, r, po, dxo, tb, p, dx, lr, nr, wr, tab, nx, as, Rs, B, rfl, W, h1, h20, hB, q⟩ := h
  have ltab := W.gd.len
  refine ⟨_, rfl, po, dxo, _, rfl, W.ob.ins, obF_no (by decide +kernel) (by decide +kernel), po, dxo, tb, tab, nx, rfl, W.ob, fun l G1 s1 n1 g1 => ?_⟩
  have W1 := W.same s1
  obtain ⟨l1, l2, l3⟩ := none_nr W n1
  refine ⟨(by show 6 ≤ sizeLine; decide), fun m nm => ⟨m, rfl, ⟨_, SqL.of upd_same⟩, ?_⟩⟩
  obtain ⟨m1, m2, m3⟩ := none_nr W1 nm
  have s2 := same_upd (o := .lst (nameM.map mS)) nm
  refine for_it (walk_list (xs := nameM.map mS)) (fun i σ G => ∃ (v3 v4 v5 v6 v7 : Option V) (as : List Addr) (Rs : List PyData), σ = [some (.ref po), some (.ref p), some (.ref l), v3, v4, v5, v6, v7] ∧ W7 K w G d r po dxo tb p dx lr nr wr tab nx nx as Rs (B + 20 * i) ∧ G l = some (.lst (tab.map fun e => V.int (e.id : Int))) ∧ G m = some (.lst (nameM.map mS)))
    ⟨_, _, _, _, _, _, _, rfl, W1.same s2, s2 _ _ g1, upd_same⟩ (fun i σ G _ ⟨_, _, _, _, _, _, _, _, _, _, g⟩ => SqL.of g) ?_ ?_
  · rintro i y σ G G' hi ⟨v3, v4, v5, v6, v7, as, Rs, rfl, W, gl, gm⟩ ⟨rfl, hx⟩
    have hi6 : i < 6 := hi
    obtain ⟨nm', hnm, rfl⟩ : ∃ nm ∈ nameM, y = mS nm := by
      have := List.mem_of_getElem? hx
      obtain ⟨nm, h1, h2⟩ := List.mem_map.mp this
      exact ⟨nm, h1, h2.symm⟩
    refine ⟨_, rfl, l, rfl, ⟨_, SqL.of gl⟩, ?_⟩
    intro D nD
    obtain ⟨d1, d2, d3⟩ := none_nr W nD
    have nlD : l ≠ D := ne_of_none gl nD
    have nmD : m ≠ D := ne_of_none gm nD
    have sD := same_upd (o := .lst []) nD
    refine lc_list (xs := tab.map fun e => V.int (e.id : Int)) (fun k G => ∃ (as : List Addr) (Rs : List PyData) (vs : List V), W7 K w G d r po dxo tb p dx lr nr wr tab nx nx as Rs (B + 20 * i + k) ∧ G l = some (.lst (tab.map fun e => V.int (e.id : Int))) ∧ G m = some (.lst (nameM.map mS)) ∧ G D = some (.lst vs) ∧ KeysI G tab Rs (Str.ofString nm') vs k)
      ⟨as, Rs, [], W.same sD, sD _ _ gl, sD _ _ gm, upd_same, rfl, fun k hk => absurd hk (Nat.not_lt_zero _)⟩ (fun k G _ z => by
        obtain ⟨_, _, _, _, g, _⟩ := z
        exact SqL.of g) ?_ ?_
    · rintro k y G hy ⟨as, Rs, vs, W, gl, gm, gD, kI⟩
      rw [List.getElem?_map] at hy
      obtain ⟨e, he, rfl⟩ := Option.map_eq_some_iff.mp hy
      have kl := (List.getElem?_eq_some_iff.mp he).1
      refine ⟨rfl, ?_⟩
      refine ⟨_, rfl, _, rfl, _, rfl, _, rfl, d, r, po, dxo, tb, p, dx, lr, nr, wr, tab, nx, nx, as, Rs, B + 20 * i + k, e, Str.ofString nm', rfl, W, List.mem_of_getElem? he, by omega, fun as' Rs' j q2 G2 k2 W2 mo hj t2 => ?_⟩
      have gD2 := k2 _ _ d1 d2 gD
      have lv := kI.1
      refine ⟨_, gD2, Nat.lt_of_le_of_lt (show vs.length ≤ 100 by omega) (by decide), as', Rs', vs ++ [.ref q2], W2.lst gD2 d3 d1, (upd_ne nlD).trans (k2 _ _ l1 l2 gl), (upd_ne nmD).trans (k2 _ _ m1 m2 gm), upd_same, by simp; omega, fun k' hk' => ?_⟩
      have tk := tk_put (ys := vs ++ [.ref q2]) gD2
      by_cases c : k' = k
      · subst c
        exact ⟨e, j, q2, he, by rw [List.getElem?_append_right (by omega), lv, Nat.sub_self]; rfl, hj, t2.keep tk⟩
      · obtain ⟨e', j', q', a1, a2, a3, a4⟩ := kI.2 k' (by omega)
        exact ⟨e', j', q', a1, by rw [List.getElem?_append_left (by omega)]; exact a2, mo _ _ a3, (a4.keep (W.sh.ks k2)).keep tk⟩
    · rintro G ⟨as, Rs, vs, W, gl, gm, gD, kI⟩
      rw [List.length_map] at W kI
      have W := W.mono (C := B + 20 * (i + 1)) (by omega)
      have lv := kI.1
      refine ⟨_, rfl, _, _, rfl, .inl ⟨_, SqL.of gl, rfl⟩, ?_⟩
      rw [List.length_map]
      refine ⟨(tab.length : Int), rfl, by omega, by omega, ?_⟩
      rw [Int.toNat_natCast]
      refine for_range (lo := 0) (n := tab.length) (fun k σ G2 => ∃ (v6 v7 : Option V), σ = [some (.ref po), some (.ref p), some (.ref l), some (mS nm'), v4, some (.ref D), v6, v7] ∧ Same G G2) ⟨_, _, rfl, fun _ _ z => z⟩ ?_ ?_
      · rintro k σ G2 hk ⟨v6, v7, rfl, sm⟩
        have e0 : (0 : Int) + (k : Int) = (k : Int) := by omega
        rw [e0]
        refine ⟨_, rfl, (k : Int), rfl, by omega, by omega, ?_⟩
        rw [Int.toNat_natCast]
        refine for_range (lo := 0) (n := k) (fun j σ G2 => ∃ (v7 : Option V), σ = [some (.ref po), some (.ref p), some (.ref l), some (mS nm'), v4, some (.ref D), some (.int (k : Int)), v7] ∧ Same G G2) ⟨_, rfl, sm⟩ ?_ ?_
        · rintro j σ G3 hj ⟨v7, rfl, sm3⟩
          have e1 : (0 : Int) + (j : Int) = (j : Int) := by omega
          rw [e1]
          have W3 := W.same sm3
          obtain ⟨ea, ja, qa, a1, a2, a3, a4⟩ := kI.2 j (by omega)
          obtain ⟨eb, jb, qb, b1, b2, b3, b4⟩ := kI.2 k (by omega)
          have hea := List.mem_of_getElem? a1
          have heb := List.mem_of_getElem? b1
          have ka := key_ok (fun s hs => (W.gd.s4 ea hea s hs).ok.g) ja (Str.ofString nm')
          have kb := key_ok (fun s hs => (W.gd.s4 eb heb s hs).ok.g) jb (Str.ofString nm')
          have ia : ∀ {G4 : Hp}, Same G G4 → G4 l = some (.lst (tab.map fun e => V.int (e.id : Int))) := fun s => s _ _ gl
          have xa : (tab.map fun e => V.int (e.id : Int))[j]? = some (.int (ea.id : Int)) := by rw [List.getElem?_map, a1]; rfl
          have xb : (tab.map fun e => V.int (e.id : Int))[k]? = some (.int (eb.id : Int)) := by rw [List.getElem?_map, b1]; rfl
          refine ⟨_, rfl, _, rfl, D, _, _, _, rfl, rfl, SqL.of (sm3 _ _ gD), atI_nat a2, _, rfl, _, rfl, D, _, _, _, rfl, rfl, SqL.of (sm3 _ _ gD), atI_nat b2, ?_⟩
          refine ⟨_, _, (a4.keep fun b xs z => sm3 b _ z).dp, (b4.keep fun b xs z => sm3 b _ z).dp, ka.2, kb.2, _, rfl, ite2 (fun c => ?_) (fun _ => ⟨_, rfl, sm3⟩)⟩
          have ek := eqv_eq _ _ ka.1 kb.1 c
          obtain ⟨z1, z2⟩ := keys_eq (tab := tab) a3 b3 ek
          refine ⟨_, rfl, _, rfl, _, rfl, l, _, _, _, rfl, rfl, SqL.of (ia sm3), atI_nat xa, _, rfl, po, dxo, tb, tab, nx, ea, Str.ofString nm', rfl, W3.ob, hea, W.gd, fun q4 G4 s4 t4 => ?_⟩
          have sm4 := sm3.trans s4
          refine ⟨_, rfl, _, rfl, _, rfl, l, _, _, _, rfl, rfl, SqL.of (ia sm4), atI_nat xb, _, rfl, po, dxo, tb, tab, nx, eb, Str.ofString nm', rfl, (W.same sm4).ob, heb, W.gd, fun q5 G5 s5 t5 => ?_⟩
          have sm5 := sm4.trans s5
          refine ⟨_, _, (t4.keep fun b xs z => s5 b _ z).dp, t5.dp, ans_sh _ _ _, ans_sh _ _ _, _, rfl, ?_⟩
          rw [z1, SeqAt.eqv_refl _ (SeqAt.canLay_of_shaped (ans_sh _ _ _))]
          refine iteF ?_
          refine ⟨_, rfl, _, rfl, _, rfl, _, rfl, l, _, _, _, rfl, rfl, SqL.of (ia sm5), atI_nat xa, po, dxo, tb, tab, nx, ea, Str.ofString nm', rfl, (W.same sm5).ob, hea, W.gd, h20, fun q6 G6 s6 g6 => ?_⟩
          have sm6 := sm5.trans s6
          refine ⟨_, rfl, _, rfl, _, rfl, _, rfl, l, _, _, _, rfl, rfl, SqL.of (ia sm6), atI_nat xb, po, dxo, tb, tab, nx, eb, Str.ofString nm', rfl, (W.same sm6).ob, heb, W.gd, h20, fun q7 G7 s7 g7 => ?_⟩
          have sm7 := sm6.trans s7
          refine ⟨_, _, ints_dp (s7 _ _ g6), ints_dp g7, ints_sh _, ints_sh _, _, rfl, ?_⟩
          rw [ints_eqv, z2, decide_eq_true rfl]
          exact iteF ⟨_, rfl, sm7⟩
        · rintro σ G3 ⟨v7, rfl, sm3⟩
          exact ⟨_, _, rfl, sm3⟩
      · rintro σ G2 ⟨v6, v7, rfl, sm⟩
        exact ⟨_, _, _, _, _, as, Rs, rfl, W.same sm, sm _ _ gl, sm _ _ gm⟩
  · rintro σ G ⟨v3, v4, v5, v6, v7, as, Rs, rfl, W, gl, gm⟩
    exact q as Rs G W
/-! ### how the world is made -/
theorem S4.mono {M M' : Nat} {s : Sl} (h : S4 M s) (l : M ≤ M') : S4 M' s := ⟨h.ok, h.nm, h.vo, fun i e => by
  have := h.rf i e
  omega⟩
theorem vn_rf {M : Nat} {m : Int} {D : PyData} (h : VN m D) (hm : m = (M : Int)) (h1 : 1 ≤ M) : ∀ i, refOf D = some i → 0 ≤ i ∧ i < (M : Int) := fun i e => by
  have := h.ref i e
  omega
theorem sn_s4 {M : Nat} {m : Int} {s : Sl} (h : SN m s) (hm : m = (M : Int)) (h1 : 1 ≤ M) : S4 M s := by
  obtain ⟨x, hx, ex⟩ := h.nm
  exact ⟨K42.sn_ok h, List.mem_cons_of_mem _ (List.mem_map.mpr ⟨x, hx, ex.symm⟩), h.vl.ok, vn_rf h.vl hm h1⟩
theorem Gd.add {tab : List En} {nx M M' : Nat} {o : Addr} {ts : List Sl} (g : Gd tab nx M) (h : ∀ s ∈ ts, S4 M' s) (nd : NdS ts) (l : M ≤ M') : Gd (tab ++ [⟨nx, o, ts⟩]) (nx + 1) M' := by
  refine ⟨fun e he s hs => ?_, fun e he => ?_, ?_⟩
  · rcases List.mem_append.mp he with he | he
    · exact (g.s4 e he s hs).mono l
    · rw [List.mem_singleton.mp he] at hs
      exact h s hs
  · rcases List.mem_append.mp he with he | he
    · exact g.le e he
    · rw [List.mem_singleton.mp he]
      exact le7 nd fun s hs => (h s hs).nm
  · rw [List.map_append, g.ids, List.range_succ]
    rfl
theorem Gd.set {tab : List En} {nx M i : Nat} {sl : List Sl} (g : Gd tab nx M) (h : ∀ s ∈ sl, S4 M s) (nd : NdS sl) : Gd (setE tab i sl) nx M := by
  refine ⟨K42.mem_set g.s4 fun _ _ _ => h, K42.mem_set g.le fun _ _ _ => le7 nd fun s hs => (h s hs).nm, ?_⟩
  rw [setE_id]
  exact g.ids
theorem run_l_world (h : sp_l_world K w vs H Q E) : t_l_world K w E (DQ Q) (start ns_l_world vs) H := by
  obtain ⟨d, r, po, dxo, tb, p, dx, lr, nr, wr, tab, m, M, as, Rs, B, rfl, W, rfl, hm, q⟩ := h
  refine ⟨_, rfl, (m : Int), rfl, by omega, by omega, ?_⟩
  rw [Int.toNat_natCast]
  refine for_range (lo := 0) (n := m) (fun k σ G => ∃ (v3 : Option V) (tab : List En), σ = [some (.ref d), some (.ref po), some (.int (m : Int)), v3] ∧ W7 K w G d r po dxo tb p dx lr nr wr tab (k + 1) (m + 1) as Rs B) ⟨_, _, rfl, W⟩ ?_ ?_
  · rintro k σ G hk ⟨v3, tab, rfl, W⟩
    refine ⟨_, rfl, po, dxo, _, rfl, W.ob.ins, obF_no (by decide +kernel) (by decide +kernel), _, rfl, _, rfl, _, _, rfl, rfl, d, (m : Int) + 1, rfl, r, W.dr, fun a ts G1 K1 A1 t1 sn1 nd1 l1 => ?_⟩
    have W1 := W.kept K1 A1
    obtain ⟨us, hu, tr⟩ := sls_open t1
    have lt := W1.gd.len
    refine ⟨po, dxo, tb, tab, k + 1, a, us, ts, rfl, W1.ob, hu, tr, (fun s hs => (sn1 s hs).vl.ok), by omega, by omega, fun o G2 no ko O2 => ?_⟩
    rw [K42.mkS_nd nd1] at O2
    refine ⟨_, _, rfl, W1.obj ko O2 (W1.gd.add (fun s hs => sn_s4 (sn1 s hs) (by omega) (by omega)) nd1 (Nat.le_refl _)) fun e he => ?_⟩
    rcases List.mem_append.mp he with he | he
    · exact W1.na e he
    · rw [List.mem_singleton.mp he]
      exact W1.dr.neD no
  · rintro σ G ⟨v3, tab, rfl, W⟩
    exact q tab G W
theorem nil_eqv (ts : List Sl) : PyData.eqv (slsT ts) (.tuple []) = decide (ts = []) := by
  cases ts with
  | nil => rfl
  | cons s ts => rfl
theorem set_nm {ts : List Sl} {n : Nat} {s t : Sl} (h : ts[n]? = some s) (e : t.name = s.name) : (ts.take n ++ [t] ++ ts.drop (n + 1)).map (·.name) = ts.map (·.name) := by
  obtain ⟨hl, hs⟩ := List.getElem?_eq_some_iff.mp h
  have : ts.map (·.name) = (ts.take n ++ [s] ++ ts.drop (n + 1)).map (·.name) := by
    congr 1
    rw [← hs, List.append_assoc]
    exact (by rw [List.singleton_append, ← List.drop_eq_getElem_cons hl, List.take_append_drop])
  rw [this]
  simp [e]
theorem run_l_like (h : sp_l_like K w vs H Q E) : t_l_like K w E (DQ Q) (start ns_l_like vs) H := by
  obtain ⟨d, r, po, dxo, tb, p, dx, lr, nr, wr, l, tab, nx, as, Rs, B, rfl, W, hl, h1, h20, nlr, q⟩ := h
  have lt := W.gd.len
  have ltm : (tab.map fun e => V.int (e.id : Int)).length = nx := by rw [List.length_map, lt]
  refine ⟨_, rfl, po, dxo, _, rfl, W.ob.ins, obF_no (by decide +kernel) (by decide +kernel), _, rfl, _, rfl, d, rfl, r, W.dr, fun j G1 j0 D1 M1 => ?_⟩
  have W1 := W.kept (Kept.of_moved M1) D1
  have hd : l ≠ d := by
    obtain ⟨_, _, e, _⟩ := id W.dr
    exact ne_of hl e (by intro z; cases z)
  have hl1 : G1 l = some (.lst (tab.map fun e => V.int (e.id : Int))) := (M1 l hd).trans hl
  refine ⟨_, rfl, _, _, rfl, .inl ⟨_, SqL.of hl1, rfl⟩, ?_⟩
  rw [ltm]
  refine ⟨_, _, rfl, rfl, (by show (0 : Int) < (nx : Int); omega), ?_⟩
  have tm := take_mod (j := j) (m := (nx : Int)) (by omega)
  obtain ⟨n, hn⟩ : ∃ n : Nat, j % (nx : Int) = (n : Int) := ⟨(j % (nx : Int)).toNat, by omega⟩
  have hnl : n < tab.length := by omega
  have hx : (tab.map fun e => V.int (e.id : Int))[n]? = some (.int (tab[n].id : Int)) := by rw [List.getElem?_map, List.getElem?_eq_getElem hnl]; rfl
  refine ⟨l, _, j % (nx : Int), _, rfl, rfl, SqL.of hl1, (by rw [hn]; exact atI_nat hx), ?_⟩
  have he : tab[n] ∈ tab := List.getElem_mem hnl
  generalize tab[n] = e at he hx ⊢
  have l7 := W.gd.le e he
  refine ⟨po, dxo, tb, tab, nx, e, rfl, W1.ob, he, by omega, fun a G2 s2 t2 => ?_⟩
  have W2 := W1.same s2
  have hl2 := s2 _ _ hl1
  have sg := W2.sg he
  have nd := W.ob.nds e he
  -- the end: make
  have fin : ∀ (G : Hp) (a : Addr) (ts : List Sl) (v4 : Option V), W7 K w G d r po dxo tb p dx lr nr wr tab nx nx as Rs B → Tr G (.ref a) (slsT ts) → NdS ts → (∀ s ∈ ts, S4 (nx + 1) s) →
      (tRet (tMeth (He.ga K ("Objects" : Str)) ("make" : Str) (sp_Objects_make K) [] E (tVar 1) (tCons (tVar 3) tNil))) (DQ Q) [some (.ref d), some (.ref po), some (.ref l), some (.ref a), v4] G := fun G a ts v4 W t nd hs => by
    obtain ⟨us, hu, tr⟩ := sls_open t
    have l7 := le7 nd fun s h => (hs s h).nm
    refine ⟨_, rfl, po, dxo, _, rfl, W.ob.ins, obF_no (by decide +kernel) (by decide +kernel), _, rfl, po, dxo, tb, tab, nx, a, us, ts, rfl, W.ob, hu, tr, (fun s h => (hs s h).vo), by omega, by omega, fun o G2 no ko O2 => ?_⟩
    rw [K42.mkS_nd nd] at O2
    refine q _ G2 (W.obj ko O2 (W.gd.add hs nd (Nat.le_succ _)) fun e he => ?_)
    rcases List.mem_append.mp he with he | he
    · exact W.na e he
    · rw [List.mem_singleton.mp he]
      exact W.dr.neD no
  have s4e : ∀ s ∈ e.sl, S4 (nx + 1) s := fun s hs => (W.gd.s4 e he s hs).mono (Nat.le_succ _)
  refine ⟨_, rfl, (by show 0 ≤ sizeLine; decide), fun e0 ne => ?_⟩
  have s0 := same_upd (o := .tup []) ne
  have t3 := t2.keep fun b xs z => s0 b _ z
  have W3 := W2.same s0
  have hl3 := s0 _ _ hl2
  refine ⟨slsT e.sl, .tuple [], t3.dp, (Tr.tup upd_same .nil).dp, sls_sh sg.all, (by rfl), _, rfl, ?_⟩
  rw [nil_eqv]
  generalize (upd G2 e0 (.tup [])) = G3 at t3 W3 hl3
  by_cases c : e.sl = []
  · rw [decide_eq_true c]
    exact iteF (iteF (fin G3 a e.sl _ W3 t3 nd s4e))
  rw [decide_eq_false c]
  refine iteT ?_
  refine ⟨_, rfl, d, rfl, r, W3.dr, fun j2 G4 j20 D4 M4 => ⟨_, _, rfl, rfl, (by show (0 : Int) < 2; decide), rfl, _, rfl, ?_⟩⟩
  have W4 := W3.kept (Kept.of_moved M4) D4
  have t4 := t3.keep (W3.dr.tk (Kept.of_moved M4))
  have hl4 : G4 l = some (.lst (tab.map fun e => V.int (e.id : Int))) := (M4 l hd).trans hl3
  refine ite2 (fun _ => ?_) (fun _ => fin G4 a e.sl _ W4 t4 nd s4e)
  obtain ⟨us, hu, tr⟩ := sls_open t4
  have lu := tr.len
  have hne : 0 < e.sl.length := List.length_pos_iff.mpr c
  refine ⟨_, rfl, d, rfl, r, D4, fun j3 G5 j30 D5 M5 => ?_⟩
  have W5 := W4.kept (Kept.of_moved M5) D5
  have tk5 := D4.tk (Kept.of_moved M5)
  have hl5 : G5 l = some (.lst (tab.map fun e => V.int (e.id : Int))) := (M5 l hd).trans hl4
  refine ⟨_, rfl, _, _, rfl, .inr ⟨_, SqT.of (tk5 _ _ hu), rfl⟩, _, _, rfl, rfl, (by show (0 : Int) < (us.length : Int); omega), ?_⟩
  have tm := take_mod (j := j3) (m := (us.length : Int)) (by omega)
  obtain ⟨k, hk⟩ : ∃ n : Nat, j3 % (us.length : Int) = (n : Int) := ⟨(j3 % (us.length : Int)).toNat, by omega⟩
  show gName 4 (V.int (j3 % (us.length : Int))) _ _ _
  rw [hk]
  have hkl : k < us.length := by omega
  have hx : us[k]? = some us[k] := List.getElem?_eq_getElem hkl
  obtain ⟨s, t9, v, es, e9, ht, tv⟩ := tr.at_ k hx
  have hx2 : atI us (k : Int) = some (.ref t9) := atI_nat (hx.trans (congrArg some e9))
  have hss := List.mem_of_getElem? es
  have en : (k : Int) + 1 = ((k + 1 : Nat) : Int) := by omega
  have hu5 := tk5 _ _ hu
  have ht5 := tk5 _ _ ht
  have tr5 := tr.keep tk5
  refine sl_to (k := (k : Int)) hu5 rfl (fun Z z => ⟨_, rfl, z⟩) fun q1 G6 s6 g6 => ?_
  rw [cut_take] at g6
  have W6 := W5.same s6
  refine ⟨_, rfl, _, rfl, a, _, _, _, rfl, rfl, SqT.of (s6 _ _ hu5), hx2, t9, _, _, _, rfl, rfl, SqT.of (s6 _ _ ht5), atI_nat (j := 0) rfl, ?_⟩
  refine ⟨_, rfl, _, rfl, a, _, _, _, rfl, rfl, SqT.of (s6 _ _ hu5), hx2, t9, _, _, _, rfl, rfl, SqT.of (s6 _ _ ht5), atI_nat (j := 1) rfl, ?_⟩
  refine ⟨_, rfl, _, rfl, _, _, rfl, .inl ⟨_, SqL.of (s6 _ _ hl5), rfl⟩, ?_⟩
  rw [ltm]
  refine ⟨_, _, rfl, rfl, d, (nx : Int) + 1, rfl, r, W6.dr, fun v' D G7 K7 A7 tv' vn => ?_⟩
  refine ⟨(by show 3 ≤ sizeLine; decide), fun p1 n1 => ⟨(by show 1 ≤ sizeLine; decide), fun p2 n2 => ?_⟩⟩
  have s8 := same_upd (o := .tup [V.str s.name, V.str s.kind, v']) n1
  have s9 := same_upd (o := .tup [V.ref p1]) n2
  have tk7 := W6.dr.tk K7
  have W8 := ((W6.kept K7 A7).same s8).same s9
  refine catA_ok (s9 _ _ (s8 _ _ (tk7 _ _ g6))) upd_same (small_s (by rw [List.length_take]; simp; omega)) fun q4 G8 s10 g8 => ?_
  have tk8 : TK G5 G8 := ((((show TK G5 G6 from fun b xs e => s6 b _ e).trans tk7).trans fun b xs e => s8 b _ e).trans fun b xs e => s9 b _ e).trans fun b xs e => s10 b _ e
  refine sl_from (k := (k : Int) + 1) (tk8 _ _ hu5) rfl (fun Z z => ⟨_, rfl, _, _, rfl, rfl, z⟩) fun q5 G9 s11 g9 => ?_
  rw [en, cut_drop] at g9
  refine catA_ok (s11 _ _ g8) g9 (small_s (by rw [List.length_append, List.length_take, List.length_drop]; simp; omega)) fun q6 G10 s12 g10 => ?_
  have r10 : TrpR G10 us e.sl := (tr5.keep tk8).keep fun b xs e => s12 b _ (s11 b _ e)
  have S810 : ∀ b o, (upd (upd G7 p1 (.tup [V.str s.name, V.str s.kind, v'])) p2 (.tup [V.ref p1])) b = some o → G10 b = some o := fun b o e => s12 b o (s11 b o (s10 b o e))
  have sS := s4e s hss
  refine fin G10 q6 (e.sl.take k ++ [⟨s.name, s.kind, D⟩] ++ e.sl.drop (k + 1)) _ (((W8.same s10).same s11).same s12) (sls_make g10 (TrpR.app (TrpR.app (TrpR.tak r10 k) (.cons (S810 _ _ (s9 _ _ upd_same)) (tv'.keep fun b xs e => S810 b _ (s9 b _ (s8 b _ e))) .nil)) (TrpR.drp r10 (k + 1)))) ?_ fun x hx => ?_
  · unfold NdS
    rw [set_nm (t := ⟨s.name, s.kind, D⟩) es rfl]
    exact nd
  · rcases List.mem_append.mp hx with hx | hx
    · rcases List.mem_append.mp hx with hx | hx
      · exact s4e x (List.mem_of_mem_take hx)
      · rw [List.mem_singleton.mp hx]
        exact ⟨⟨⟨sS.ok.g.nm, sS.ok.g.kd, vn.g⟩, sS.ok.kd⟩, sS.nm, vn.ok, vn_rf vn (by omega) (by omega)⟩
    · exact s4e x (List.mem_of_mem_drop hx)
/-! ### changes -/
theorem W7.setE {G G' : Hp} {d r po dxo tb p dx lr nr wr : Addr} {tab : List En} {nx M : Nat} {as : List Addr} {Rs : List PyData} {B : Nat} {e : En} {sl : List Sl} (W : W7 K w G d r po dxo tb p dx lr nr wr tab nx M as Rs B) (k : KO po tb tab G G') (O : Ob K G' po dxo tb (setE tab e.id sl) nx) (hs : ∀ s ∈ sl, S4 M s) (nd : NdS sl) : W7 K w G' d r po dxo tb p dx lr nr wr (setE tab e.id sl) nx M as Rs B :=
  W.obj k O (W.gd.set hs nd) (K42.mem_set W.na fun e0 m0 _ => W.na e0 m0)
theorem W7.ob_lst {G G' : Hp} {d r po dxo tb p dx lr nr wr l : Addr} {tab : List En} {nx M : Nat} {as : List Addr} {Rs : List PyData} {B : Nat} {xs : List V} (W : W7 K w G d r po dxo tb p dx lr nr wr tab nx M as Rs B) (k : KO po tb tab G G') (h : G l = some (.lst xs)) : G' l = some (.lst xs) :=
  k l _ (ne_of h W.ob.ins (by intro z; cases z)) (ne_of h W.ob.tbl (by intro z; cases z)) (fun e he => by
    obtain ⟨kvs, e2, _⟩ := W.ob.ent e he
    exact ne_of h e2 (by intro z; cases z)) h
theorem mem_setE {tab : List En} {e : En} (he : e ∈ tab) (sl : List Sl) : (⟨e.id, e.at_, sl⟩ : En) ∈ setE tab e.id sl := List.mem_map.mpr ⟨e, he, if_pos rfl⟩
theorem run_l_change (h : sp_l_change K w vs H Q E) : t_l_change K w E (DQ Q) (start ns_l_change vs) H := by
  obtain ⟨d, r, po, dxo, tb, p, dx, lr, nr, wr, l, tab, nx, as, Rs, B, rfl, W, hl, h1, h20, nlr, q⟩ := h
  have lt := W.gd.len
  have ltm : (tab.map fun e => V.int (e.id : Int)).length = nx := by rw [List.length_map, lt]
  have hd : l ≠ d := by
    obtain ⟨_, _, e, _⟩ := id W.dr
    exact ne_of hl e (by intro z; cases z)
  refine ⟨_, rfl, _, rfl, d, rfl, r, W.dr, fun j G1 j0 D1 M1 => ?_⟩
  have W1 := W.kept (Kept.of_moved M1) D1
  have hl1 : G1 l = some (.lst (tab.map fun e => V.int (e.id : Int))) := (M1 l hd).trans hl
  refine ⟨_, rfl, _, _, rfl, .inl ⟨_, SqL.of hl1, rfl⟩, ?_⟩
  rw [ltm]
  refine ⟨_, _, rfl, rfl, (by show (0 : Int) < (nx : Int); omega), ?_⟩
  have tm := take_mod (j := j) (m := (nx : Int)) (by omega)
  obtain ⟨n, hn⟩ : ∃ n : Nat, j % (nx : Int) = (n : Int) := ⟨(j % (nx : Int)).toNat, by omega⟩
  have hnl : n < tab.length := by omega
  have hx0 : (tab.map fun e => V.int (e.id : Int))[n]? = some (.int (tab[n].id : Int)) := by rw [List.getElem?_map, List.getElem?_eq_getElem hnl]; rfl
  refine ⟨l, _, j % (nx : Int), _, rfl, rfl, SqL.of hl1, (by rw [hn]; exact atI_nat hx0), ?_⟩
  have he : tab[n] ∈ tab := List.getElem_mem hnl
  generalize tab[n] = e at he hx0 ⊢
  have l7 := W.gd.le e he
  have nd := W.ob.nds e he
  have s4e : ∀ s ∈ e.sl, S4 nx s := W.gd.s4 e he
  refine ⟨_, rfl, d, rfl, r, D1, fun x G2 K2 A2 hx => ?_⟩
  have W2 := W1.kept K2 A2
  have hl2 := K2 _ _ hd hl1
  have xo := K42.name_ok x hx
  have xn : Str.ofString x ∈ namesL := List.mem_cons_of_mem _ (List.mem_map.mpr ⟨x, hx, rfl⟩)
  refine ⟨_, rfl, po, dxo, _, rfl, W2.ob.ins, obF_no (by decide +kernel) (by decide +kernel), _, rfl, _, rfl, ?_⟩
  -- the ways on
  have dropit : ∀ (G : Hp) (v5 : V) (v6 : Option V), W7 K w G d r po dxo tb p dx lr nr wr tab nx nx as Rs B →
      G l = some (.lst (tab.map fun e => V.int (e.id : Int))) →
      (tSeq (tDrop (tMeth (He.ga K ("Objects" : Str)) ("drop" : Str) (sp_Objects_drop K) [] E (tVar 1) (tCons (tVar 3) (tCons (tVar 4) tNil))))
    (tRet (tTup (tCons (tVar 3) (tCons (tOp rNotN (tVar 5) (tC .non)) tNil))))) (DQ Q) [some (.ref d), some (.ref po), some (.ref l), some (.int (e.id : Int)), some (mS x), some v5, v6] G := fun G v5 v6 W hl => by
    refine ⟨_, rfl, po, dxo, _, rfl, W.ob.ins, obF_no (by decide +kernel) (by decide +kernel), _, rfl, _, rfl, ?_⟩
    refine ⟨po, dxo, tb, tab, nx, e, Str.ofString x, rfl, W.ob, he, fun g => ?_, fun _ G' ko O => ?_⟩
    · exact ⟨_, rfl, _, rfl, rfl, (by show 2 ≤ sizeLine; decide), fun p1 n1 => q tab e _ p1 _ (W.same (same_upd n1)) he upd_same (same_upd n1 _ _ hl)⟩
    · have W' := W.setE ko O (fun s hs => s4e s (List.mem_filter.mp hs).1) (dropS_nd _ nd)
      exact ⟨_, rfl, _, rfl, rfl, (by show 2 ≤ sizeLine; decide), fun p1 n1 => q _ ⟨e.id, e.at_, dropS e.sl (Str.ofString x)⟩ _ p1 _ (W'.same (same_upd n1)) (mem_setE he _) upd_same (same_upd n1 _ _ (W.ob_lst ko hl))⟩
  have putit : ∀ (G : Hp) (v5 : V) (v6 : Option V), W7 K w G d r po dxo tb p dx lr nr wr tab nx nx as Rs B → G l = some (.lst (tab.map fun e => V.int (e.id : Int))) →
      (tSeq (tDrop (tMeth (He.ga K ("Objects" : Str)) ("put" : Str) (sp_Objects_put K) [] E (tVar 1) (tCons (tVar 3) (tCons (tVar 4) (tCons (tCall (sp_l_kind K) [] E (tCons (tVar 0) tNil)) (tCons (tCall (sp_l_value K) [] E (tCons (tVar 0) (tCons (tCB (rLen K) (tCons (tVar 2) tNil)) tNil))) tNil))))))
    (tRet (tTup (tCons (tVar 3) (tCons (tC (.bl true)) tNil))))) (DQ Q) [some (.ref d), some (.ref po), some (.ref l), some (.int (e.id : Int)), some (mS x), some v5, v6] G := fun G v5 v6 W hl => by
    refine ⟨_, rfl, po, dxo, _, rfl, W.ob.ins, obF_no (by decide +kernel) (by decide +kernel), _, rfl, _, rfl, _, rfl, d, rfl, r, W.dr, fun kx G3 K3 A3 hkx => ?_⟩
    have W3 := W.kept K3 A3
    refine ⟨_, rfl, _, rfl, _, _, rfl, .inl ⟨_, SqL.of (K3 _ _ hd hl), rfl⟩, ?_⟩
    rw [ltm]
    refine ⟨d, (nx : Int), rfl, r, A3, fun v D G4 K4 A4 tv vn => ?_⟩
    have W4 := W3.kept K4 A4
    refine ⟨po, dxo, tb, tab, nx, e, Str.ofString x, Str.ofString kx, v, D, rfl, W4.ob, he, tv, vn.ok, by omega, fun G5 ko O => ?_⟩
    have W5 := W4.setE ko O (fun s hs => by
      rcases putS_mem hs with hs | rfl
      · exact s4e s hs
      · exact ⟨⟨⟨xo, K42.kind_ok kx hkx, vn.g⟩, kx, hkx, rfl⟩, xn, vn.ok, vn_rf vn rfl h1⟩) (putS_nd _ nd)
    exact ⟨_, rfl, (by show 2 ≤ sizeLine; decide), fun p1 n1 => q _ ⟨e.id, e.at_, _⟩ _ p1 _ (W5.same (same_upd n1)) (mem_setE he _) upd_same (same_upd n1 _ _ (W4.ob_lst ko (K4 _ _ hd (K3 _ _ hd hl))))⟩
  refine ⟨po, dxo, tb, tab, nx, e, Str.ofString x, rfl, W2.ob, he, fun g => ?_, fun s0 qa v0 g hq tv0 => ?_⟩
  · refine ⟨_, rfl, d, rfl, r, A2, fun z G3 z0 A3 M3 => ⟨_, _, rfl, rfl, (by show (0 : Int) < 6; decide), ?_⟩⟩
    have W3 := W2.kept (Kept.of_moved M3) A3
    have hl3 : G3 l = some (.lst (tab.map fun e => V.int (e.id : Int))) := (M3 l hd).trans hl2
    refine ⟨_, rfl, rfl, _, rfl, ite2 (fun _ => dropit G3 _ _ W3 hl3) (fun _ => ?_)⟩
    refine ⟨_, rfl, _, _, rfl, rfl, _, rfl, ite2 (fun _ => ?_) (fun _ => iteF (putit G3 _ _ W3 hl3))⟩
    refine ⟨_, rfl, rfl, _, rfl, ?_⟩
    exact iteF (iteF (putit G3 _ _ W3 hl3))
  · refine ⟨_, rfl, d, rfl, r, A2, fun z G3 z0 A3 M3 => ⟨_, _, rfl, rfl, (by show (0 : Int) < 6; decide), ?_⟩⟩
    have W3 := W2.kept (Kept.of_moved M3) A3
    have hl3 : G3 l = some (.lst (tab.map fun e => V.int (e.id : Int))) := (M3 l hd).trans hl2
    have hq3 := W2.dr.tk (Kept.of_moved M3) _ _ hq
    refine ⟨_, rfl, rfl, _, rfl, ite2 (fun _ => dropit G3 _ _ W3 hl3) (fun _ => ?_)⟩
    refine ⟨_, rfl, _, _, rfl, rfl, _, rfl, ite2 (fun _ => ?_) (fun _ => iteF (putit G3 _ _ W3 hl3))⟩
    refine ⟨_, rfl, rfl, _, rfl, ?_⟩
    refine iteT ?_
    refine ⟨_, rfl, qa, _, _, _, rfl, rfl, SqT.of hq3, atI_nat (j := 0) rfl, (by show 2 ≤ sizeLine; decide), fun p2 n2 => ?_⟩
    have s3 := same_upd (o := .tup [V.str ("var" : Str), V.str ("varparent" : Str)]) n2
    have W4 := W3.same s3
    have hl4 := s3 _ _ hl3
    have hq4 := s3 _ _ hq3
    refine ⟨_, _, rfl, .inr (SqT.of upd_same), rfl, (by decide +kernel), _, rfl, ?_⟩
    show (if inV (.str s0.kind) ([V.str ("var" : Str), V.str ("varparent" : Str)]) = true then _ else _)
    generalize (upd G3 p2 (.tup [V.str ("var" : Str), V.str ("varparent" : Str)])) = G4 at W4 hl4 hq4
    cases inV (.str s0.kind) ([V.str ("var" : Str), V.str ("varparent" : Str)]) with
    | false => exact iteF (putit _ _ _ W4 hl4)
    | true =>
      refine iteT ?_
      refine ⟨_, rfl, po, dxo, _, rfl, W4.ob.ins, obF_no (by decide +kernel) (by decide +kernel), _, rfl, _, rfl, _, rfl, _, rfl, _, _, rfl, .inl ⟨_, SqL.of hl4, rfl⟩, ?_⟩
      rw [ltm]
      refine ⟨d, (nx : Int), rfl, r, W4.dr, fun v D G5 K5 A5 tv vn => ?_⟩
      have W5 := W4.kept K5 A5
      have hq5 := W4.dr.tk K5 _ _ hq4
      have sS := s4e s0 (getS_mem g).1
      refine ⟨po, dxo, tb, tab, nx, e, Str.ofString x, v, D, s0, rfl, W5.ob, he, tv, vn.ok, by omega, g, fun G6 ko O => ?_⟩
      have W6 := W5.setE ko O (fun s hs => by
        rcases putS_mem hs with hs | rfl
        · exact s4e s hs
        · exact ⟨⟨⟨xo, sS.ok.g.kd, vn.g⟩, sS.ok.kd⟩, xn, vn.ok, vn_rf vn rfl h1⟩) (putS_nd _ nd)
      have hq6 := W5.ob.tk ko _ _ hq5
      exact ⟨_, rfl, _, rfl, qa, _, _, _, rfl, rfl, SqT.of hq6, atI_nat (j := 0) rfl, rfl, (by show 2 ≤ sizeLine; decide), fun p1 n1 => q _ ⟨e.id, e.at_, _⟩ _ p1 _ (W6.same (same_upd n1)) (mem_setE he _) upd_same (same_upd n1 _ _ (W5.ob_lst ko (K5 _ _ hd hl4)))⟩
/-! ### the law -/
theorem lobby_s4 {M : Nat} (h : 1 ≤ M) : S4 M lobbyS := ⟨K42.lobby_ok, List.mem_cons_self, ⟨_, _, rfl, fun _ => ⟨0, [], rfl⟩⟩, fun i e => by
  have e : (if ("ref" : Str) = ("ref" : Str) then some (0 : Int) else none) = some i := e
  rw [if_pos rfl] at e
  cases e
  omega⟩
theorem run_law (C : ShK K) (h : sp_law K vs H Q E) : t_law K w E (DQ Q) (start ns_law vs) H := by
  obtain ⟨a, ns, rfl, hS, hl, q⟩ := h
  refine ⟨_, rfl, a, ns, rfl, hS, hl, fun d r H1 s1 nd nr0 D1 => ?_⟩
  intro po dxo npo ndxo nxpo
  have S1 : Same H1 (upd (upd H1 dxo (.own po)) po (.ins (OC K) dxo [])) := fun b u z => by
    rw [upd_ne (ne_of_none z npo), upd_ne (ne_of_none z ndxo)]
    exact z
  have D1' := D1.same S1
  have dpo : d ≠ po := D1.neD npo
  have rpo : r ≠ po := D1.neR npo
  refine ⟨po, dxo, rfl, upd_same, fun tb o0 H2 k2 ntb no0 O2 => ⟨rfl, ?_⟩⟩
  have D2 : Dr H2 d r := D1'.keep fun b o h e => k2 b o (by rcases h with rfl | rfl; exact dpo; exact rpo) e
  have dtb : d ≠ tb := D1'.neD ntb
  have do0 : d ≠ o0 := D1'.neD no0
  intro p dx np ndx nxp
  have S2 : Same H2 (upd (upd H2 dx (.own p)) p (.ins (ShC K) dx [])) := fun b u z => by
    rw [upd_ne (ne_of_none z np), upd_ne (ne_of_none z ndx)]
    exact z
  have D2' := D2.same S2
  have O2' := O2.same S2
  have dp : d ≠ p := D2.neD np
  have rp : r ≠ p := D2.neR np
  have pop : po ≠ p := ne_of_none O2.ins np
  refine ⟨p, dx, rfl, upd_same, fun lr nr wr q0 H3 k3 nlr nnr nwr Sc => ⟨rfl, ?_⟩⟩
  have D3 : Dr H3 d r := D2'.keep fun b o h e => k3 b o (by rcases h with rfl | rfl; exact dp; exact rp) e
  have tk3 : TK (upd (upd H2 dx (.own p)) p (.ins (ShC K) dx [])) H3 := fun b xs e => k3 b _ (ne_of e upd_same (by intro z; cases z)) e
  have O3 : Ob K H3 po dxo tb [⟨0, o0, [lobbyS]⟩] 1 := K42.ob_upto (X := fun b => b = p) O2' k3 pop (ne_of_none O2.tbl np) (fun e he => by
    obtain ⟨kvs, e2, _⟩ := O2.ent e he
    exact ne_of_none e2 np) tk3
  have rlr : r ≠ lr := D2'.neR nlr
  -- the world
  refine ⟨_, rfl, _, rfl, _, rfl, d, rfl, r, D3, fun j H4 j0 D4 M4 => ⟨_, _, rfl, rfl, (by show (0 : Int) < 3; decide), _, _, rfl, rfl, ?_⟩⟩
  have tm := take_mod (j := j) (m := 3) (by decide)
  obtain ⟨m, hm⟩ : ∃ n : Nat, 2 + j % 3 = (n : Int) := ⟨(2 + j % 3).toNat, by omega⟩
  have gd0 : Gd [⟨0, o0, [lobbyS]⟩] 1 (m + 1) := ⟨fun e he s hs => by
    rw [List.mem_singleton.mp he] at hs
    rw [List.mem_singleton.mp hs]
    exact lobby_s4 (by omega), fun e he => by
    rw [List.mem_singleton.mp he]
    show 1 ≤ 7
    decide, rfl⟩
  have W3 : W7 K w H3 d r po dxo tb p dx lr nr wr [⟨0, o0, [lobbyS]⟩] 1 (m + 1) [q0] [rowD []] 1 := ⟨D3, O3, Sc, gd0, Nat.le_refl _, dtb, (fun e he => by rw [List.mem_singleton.mp he]; exact do0), pop, rlr⟩
  have W4 := W3.kept (Kept.of_moved M4) D4
  refine ⟨d, r, po, dxo, tb, p, dx, lr, nr, wr, _, m, m + 1, _, _, 1, (by show [V.ref d, V.ref po, V.int (2 + j % 3)] = _; rw [hm]), W4, rfl, by omega, fun tab5 H5 W5 => ?_⟩
  -- more like them
  refine ⟨_, rfl, d, rfl, r, W5.dr, fun j6 H6 j60 D6 M6 => ⟨_, _, rfl, rfl, (by show (0 : Int) < 6; decide), j6 % 6, rfl, ?_⟩⟩
  have tm6 := take_mod (j := j6) (m := 6) (by decide)
  refine ⟨by omega, by omega, ?_⟩
  obtain ⟨n6, hn6⟩ : ∃ n : Nat, j6 % 6 = (n : Int) := ⟨(j6 % 6).toNat, by omega⟩
  rw [hn6, Int.toNat_natCast]
  have W6 := W5.kept (Kept.of_moved M6) D6
  refine for_range (lo := 0) (n := n6) (fun k σ G => ∃ (v4 : Option V) (tab : List En) (nx : Nat), σ = [some (.ref a), some (.ref d), some (.ref po), some (.ref p), v4, none, none, none, none, none, none] ∧ W7 K w G d r po dxo tb p dx lr nr wr tab nx nx [q0] [rowD []] 1 ∧ 1 ≤ nx ∧ nx ≤ 5 + k) ⟨_, _, _, rfl, W6, by omega, by omega⟩ ?_ ?_
  · rintro k σ G hk ⟨v4, tab, nx, rfl, W, h1, h2⟩
    refine ⟨_, rfl, _, rfl, _, rfl, po, dxo, _, rfl, W.ob.ins, obF_no (by decide +kernel) (by decide +kernel), po, dxo, tb, tab, nx, rfl, W.ob, fun l G1 s1 n1 g1 => ?_⟩
    obtain ⟨l1, l2, l3⟩ := none_nr W n1
    exact ⟨d, r, po, dxo, tb, p, dx, lr, nr, wr, l, tab, nx, _, _, 1, rfl, W.same s1, g1, h1, by omega, l3, fun tab2 G2 W2 => ⟨_, tab2, nx + 1, rfl, W2, by omega, by omega⟩⟩
  · rintro σ G ⟨v4, tab, nx, rfl, W, h1, h2⟩
    have h10 : nx ≤ 10 := by omega
    refine ⟨4, rfl, by decide, by decide, ?_⟩
    refine for_range (lo := 0) (n := 4) (fun k σ G => ∃ (v4 v5 v6 v7 v8 v9 v10 : Option V) (tab : List En) (as : List Addr) (Rs : List PyData), σ = [some (.ref a), some (.ref d), some (.ref po), some (.ref p), v4, v5, v6, v7, v8, v9, v10] ∧ W7 K w G d r po dxo tb p dx lr nr wr tab nx nx as Rs (1 + 120 * k)) ⟨_, _, _, _, _, _, _, _, _, _, rfl, W⟩ ?_ ?_
    · rintro k σ G hk ⟨v4, v5, v6, v7, v8, v9, v10, tab, as, Rs, rfl, W⟩
      refine ⟨_, rfl, _, rfl, d, r, po, dxo, tb, p, dx, lr, nr, wr, tab, nx, as, Rs, 1 + 120 * k, rfl, W, h1, by omega, by omega, fun as2 Rs2 G2 W2 => ⟨_, rfl, iteF ?_⟩⟩
      have W2 := W2.mono (C := 1 + 120 * (k + 1)) (by omega)
      refine ⟨3, rfl, by decide, by decide, ?_⟩
      refine for_range (lo := 0) (n := 3) (fun k2 σ G => ∃ (v4 v6 v7 v8 v9 v10 : Option V) (tab : List En), σ = [some (.ref a), some (.ref d), some (.ref po), some (.ref p), v4, some (.int (0 + (k : Int))), v6, v7, v8, v9, v10] ∧ W7 K w G d r po dxo tb p dx lr nr wr tab nx nx as2 Rs2 (1 + 120 * (k + 1))) ⟨_, _, _, _, _, _, _, rfl, W2⟩ ?_ ?_
      · rintro k2 σ G hk2 ⟨v4, v6, v7, v8, v9, v10, tab, rfl, W⟩
        refine ⟨_, rfl, _, rfl, _, rfl, po, dxo, _, rfl, W.ob.ins, obF_no (by decide +kernel) (by decide +kernel), po, dxo, tb, tab, nx, rfl, W.ob, fun l G1 s1 n1 g1 => ?_⟩
        obtain ⟨l1, l2, l3⟩ := none_nr W n1
        refine ⟨d, r, po, dxo, tb, p, dx, lr, nr, wr, l, tab, nx, _, _, _, rfl, W.same s1, g1, h1, by omega, l3, fun tab3 e b q3 G3 W3 he g3 _ => ?_⟩
        refine ⟨q3, _, rfl, SqT.of g3, rfl, _, _, rfl, _, _, rfl, rfl, ?_⟩
        refine ⟨_, rfl, d, rfl, r, W3.dr, fun j4 G4 j40 D4 M4 => ⟨_, _, rfl, rfl, (by show (0 : Int) < 2; decide), rfl, _, rfl, ?_⟩⟩
        have W4 := W3.kept (Kept.of_moved M4) D4
        refine ite2 (fun _ => ?_) (fun _ => ⟨_, _, _, _, _, _, tab3, rfl, W4⟩)
        have l7 := W4.gd.le e he
        refine ⟨_, rfl, po, dxo, _, rfl, W4.ob.ins, obF_no (by decide +kernel) (by decide +kernel), _, rfl, po, dxo, tb, tab3, nx, e, rfl, W4.ob, he, by omega, fun a5 G5 s5 t5 => ?_⟩
        have W5 := W4.same s5
        obtain ⟨us, hu, tr⟩ := sls_open t5
        have lu := tr.len
        refine ⟨a5, rfl, ⟨_, SqT.of hu⟩, ?_⟩
        refine for_it (walk_tup (xs := us)) (fun i σ G => ∃ (v8 v9 v10 : Option V) (tab : List En), σ = [some (.ref a), some (.ref d), some (.ref po), some (.ref p), some (.int (0 + (k2 : Int))), some (.int (0 + (k : Int))), some (.int (e.id : Int)), some (.bl b), v8, v9, v10] ∧ W7 K w G d r po dxo tb p dx lr nr wr tab nx nx as2 Rs2 (1 + 120 * (k + 1)) ∧ TK G5 G) ⟨_, _, _, _, rfl, W5, fun _ _ z => z⟩ (fun i σ G _ ⟨_, _, _, _, _, _, k1⟩ => SqT.of (k1 _ _ hu)) ?_ ?_
        · rintro i x σ G G' hi ⟨v8, v9, v10, tab, rfl, W, tk⟩ ⟨rfl, hx⟩
          obtain ⟨s, t1, v, es, rfl, ht, tv⟩ := tr.at_ i hx
          have hs := W4.gd.s4 e he s (List.mem_of_getElem? es)
          refine ⟨t1, _, rfl, SqT.of (tk _ _ ht), rfl, _, _, rfl, _, _, rfl, _, _, rfl, rfl, ?_⟩
          refine ⟨_, rfl, po, dxo, _, rfl, W.ob.ins, obF_no (by decide +kernel) (by decide +kernel), ?_⟩
          refine ⟨_, rfl, po, dxo, _, rfl, W.ob.ins, obF_no (by decide +kernel) (by decide +kernel), po, dxo, tb, tab, nx, rfl, W.ob, fun l G6 s6 n6 g6 => ?_⟩
          have W6 := W.same s6
          have lt := W.gd.len
          obtain ⟨eL, heL, ea⟩ : ∃ eL ∈ tab, atI (tab.map fun e => V.int (e.id : Int)) (-1) = some (.int (eL.id : Int)) := by
            have hne : tab ≠ [] := fun z => by rw [z] at lt; simp at lt; omega
            refine ⟨tab.getLast hne, List.getLast_mem hne, ?_⟩
            have : tab.map (fun e => V.int (e.id : Int)) = tab.dropLast.map (fun e => V.int (e.id : Int)) ++ [V.int ((tab.getLast hne).id : Int)] := by
              conv => lhs; rw [← List.dropLast_concat_getLast hne]
              rw [List.map_append]
              rfl
            rw [this]
            exact atI_last _ _
          refine ⟨_, rfl, l, _, _, _, rfl, rfl, SqL.of g6, ea, _, rfl, _, rfl, _, rfl, ?_⟩
          have l7' := W.gd.le eL heL
          refine ⟨po, dxo, tb, tab, nx, eL, s.name, s.kind, v, s.val, rfl, W6.ob, heL, (tv.keep tk).keep fun b xs z => s6 b _ z, hs.vo, by omega, fun G7 ko O => ?_⟩
          refine ⟨_, _, _, _, rfl, W6.setE ko O (fun s' hs' => ?_) (putS_nd _ (W.ob.nds eL heL)), fun b xs z => W6.ob.tk ko _ _ (s6 _ _ (tk b xs z))⟩
          rcases putS_mem hs' with hs' | rfl
          · exact W.gd.s4 eL heL s' hs'
          · exact hs
        · rintro σ G ⟨v8, v9, v10, tab, rfl, W, _⟩
          exact ⟨_, _, _, _, _, _, tab, rfl, W⟩
      · rintro σ G ⟨v4, v6, v7, v8, v9, v10, tab, rfl, W⟩
        exact ⟨_, _, _, _, _, _, _, tab, _, _, rfl, W⟩
    · rintro σ G ⟨v4, v5, v6, v7, v8, v9, v10, tab, as, Rs, rfl, W⟩
      exact ⟨_, rfl, _, rfl, d, r, po, dxo, tb, p, dx, lr, nr, wr, tab, nx, as, Rs, _, rfl, W, h1, by omega, by omega, fun as2 Rs2 G2 W2 => q G2⟩
end
end Rm.U.K44

/-! U43: keys and what answers rest on: a walk in the order of the waiting and a search look at the same objects; the law's own defs. -/
namespace Rm.U.K44.K43
open PySem PySem.Spec PyProof.Rows L2
open Rm.Q (plD plAll eqv_eq wks wk sr_wk wks_all wks_least LI Done WkOk)
open Rm.U.K42 (SOk Mono)

/-! ### plain -/
section
variable {tab : List En} {x : Str}
structure BI (tab : List En) (x : Str) (st : List Int) (s : List Int × List Int) : Prop where
  li : LI tab s.1
  ids : ∀ i ∈ s.2, isId tab i
  cov : ∀ i ∈ st, i ∈ s.1 ∨ i ∈ s.2
  dn : ∀ i ∈ s.1, hasS tab x i = true ∨ ∀ k ∈ parI tab i, k ∈ s.1 ∨ k ∈ s.2
  least : ∀ C : Int → Prop, (∀ i, C i → hasS tab x i = true ∨ ∀ k ∈ parI tab i, C k) → (∀ i ∈ st, C i) → ∀ i, i ∈ s.1 ∨ i ∈ s.2 → C i
def mu (tab : List En) (s : List Int × List Int) : Nat := s.2.length + 7 * (tab.length - s.1.length)
theorem stp_bi (o : tab.Pairwise fun a b => a.id < b.id) (cl : Closed tab) (l7 : ∀ e ∈ tab, e.sl.length ≤ 7) {st : List Int} : ∀ {s : List Int × List Int}, BI tab x st s → BI tab x st (stp tab x s) ∧ (s.2 = [] ∨ mu tab (stp tab x s) < mu tab s)
  | (L, []), h => ⟨h, .inl rfl⟩
  | (L, i :: w), h => by
    have hi : isId tab i := h.ids i List.mem_cons_self
    have hw : ∀ j ∈ w, isId tab j := fun j hj => h.ids j (List.mem_cons_of_mem _ hj)
    have up : ∀ (L' w' : List Int), (∀ j ∈ L, j ∈ L') → (i ∈ L') → (∀ j ∈ w, j ∈ w') → ∀ j, j ∈ L ∨ j ∈ i :: w → j ∈ L' ∨ j ∈ w' := fun L' w' a b c j hj => by
      rcases hj with hj | hj
      · exact .inl (a j hj)
      · rcases List.mem_cons.mp hj with rfl | hj
        · exact .inl b
        · exact .inr (c j hj)
    rw [stp]
    by_cases c : i ∈ L
    · rw [if_pos c]
      have u := up L w (fun _ z => z) c (fun _ z => z)
      exact ⟨⟨h.li, hw, fun j hj => u j (h.cov j hj), fun j hj => (h.dn j hj).imp id fun z k hk => u k (z k hk), fun C a b j hj => h.least C a b j (hj.imp id (List.mem_cons_of_mem _))⟩, .inr (by unfold mu; simp)⟩
    · rw [if_neg c]
      have li := h.li.snoc hi c
      have len := li.len
      rw [List.length_append] at len
      have len : L.length + 1 ≤ tab.length := len
      have inc : ∀ j ∈ L, j ∈ L ++ [i] := fun j hj => List.mem_append_left _ hj
      have ini : i ∈ L ++ [i] := List.mem_append_right _ List.mem_cons_self
      by_cases hs : hasS tab x i = true
      · rw [if_pos hs]
        have u := up (L ++ [i]) w inc ini (fun _ z => z)
        refine ⟨⟨li, hw, fun j hj => u j (h.cov j hj), fun j hj => ?_, fun C a b j hj => h.least C a b j ?_⟩, .inr (by unfold mu; simp; omega)⟩
        · rcases List.mem_append.mp hj with hj | hj
          · exact (h.dn j hj).imp id fun z k hk => u k (z k hk)
          · rw [List.mem_singleton.mp hj]
            exact .inl hs
        · rcases hj with hj | hj
          · rcases List.mem_append.mp hj with hj | hj
            · exact .inl hj
            · rw [List.mem_singleton.mp hj]
              exact .inr List.mem_cons_self
          · exact .inr (List.mem_cons_of_mem _ hj)
      · rw [if_neg hs]
        have u := up (L ++ [i]) (w ++ parI tab i) inc ini (fun _ z => List.mem_append_left _ z)
        have lp : (parI tab i).length ≤ 7 := by
          obtain ⟨e, he, ei⟩ := hi
          rw [← ei, parI_mem o he]
          exact Nat.le_trans (parS_le _) (l7 e he)
        refine ⟨⟨li, fun j hj => ?_, fun j hj => u j (h.cov j hj), fun j hj => ?_, fun C a b j hj => ?_⟩, .inr (by unfold mu; simp; omega)⟩
        · rcases List.mem_append.mp hj with hj | hj
          · exact hw j hj
          · obtain ⟨e, he, ei⟩ := hi
            rw [← ei, parI_mem o he] at hj
            exact cl e he j hj
        · rcases List.mem_append.mp hj with hj | hj
          · exact (h.dn j hj).imp id fun z k hk => u k (z k hk)
          · rw [List.mem_singleton.mp hj]
            exact .inr fun k hk => .inr (List.mem_append_right _ hk)
        · have ci := h.least C a b i (.inr List.mem_cons_self)
          rcases hj with hj | hj
          · rcases List.mem_append.mp hj with hj | hj
            · exact h.least C a b j (.inl hj)
            · rw [List.mem_singleton.mp hj]
              exact ci
          · rcases List.mem_append.mp hj with hj | hj
            · exact h.least C a b j (.inr (List.mem_cons_of_mem _ hj))
            · rcases a i ci with z | z
              · exact absurd z hs
              · exact z j hj
theorem stpN_nil : ∀ (n : Nat) (L : List Int), stpN tab x n (L, []) = (L, [])
  | 0, _ => rfl
  | n + 1, L => by
    rw [stpN, stp]
    exact stpN_nil n L
theorem stpN_bi (o : tab.Pairwise fun a b => a.id < b.id) (cl : Closed tab) (l7 : ∀ e ∈ tab, e.sl.length ≤ 7) {st : List Int} : ∀ (n : Nat) {s : List Int × List Int}, BI tab x st s → mu tab s ≤ n → BI tab x st (stpN tab x n s) ∧ (stpN tab x n s).2 = []
  | 0, s, h, m => ⟨h, by
    unfold mu at m
    exact List.length_eq_zero_iff.mp (by show s.2.length = 0; omega)⟩
  | n + 1, s, h, m => by
    obtain ⟨a, b⟩ := stp_bi o cl l7 h
    rcases b with b | b
    · obtain ⟨L, w⟩ := s
      have b : w = [] := b
      subst b
      rw [stpN_nil]
      exact ⟨h, rfl⟩
    · rw [stpN]
      exact stpN_bi o cl l7 n a (by omega)
theorem srtI_perm (ns : List Int) : (srtI ns).Perm ns := List.mergeSort_perm _ _
theorem srtI_srt (ns : List Int) : (srtI ns).Pairwise (· ≤ ·) := by
  have := List.pairwise_mergeSort (le := fun (a b : Int) => decide (a ≤ b)) (fun a b c h1 h2 => by simp at *; omega) (fun a b => by simp; omega) ns
  exact this.imp fun h => of_decide_eq_true h
theorem reach_rest {nx : Nat} (o : tab.Pairwise fun a b => a.id < b.id) (gd : Gd tab nx nx) (h20 : nx ≤ 20) {st : List Int} (hst : ∀ i ∈ st, isId tab i) (hl : st.length ≤ 7) : rchS tab x st = srtI (srch tab x st).1 := by
  have cl := gd.closed
  have hn := gd.len
  obtain ⟨F, F2⟩ := stpN_bi (x := x) o cl gd.le 200 (s := ([], st)) (st := st) ⟨LI.nil, hst, fun i hi => .inr hi, (fun i hi => by cases hi), fun C a b i hi => by
    rcases hi with hi | hi
    · cases hi
    · exact b i hi⟩ (by unfold mu; simp; omega)
  have W := wks_all (x := x) o cl (n := tab.length + 1) LI.nil hst (by simp)
  have e : (srch tab x st).1 = wks tab x (tab.length + 1) st [] := by
    unfold srch
    refine sr_wk o cl _ _ _ _ _ LI.nil hst ?_ (by simp)
    unfold fuel
    simp
  rw [e]
  refine srtI_eq ((srtI_perm _).trans ?_) (srtI_srt _)
  refine (List.perm_ext_iff_of_nodup F.li.nd W.inv.nd).mpr fun i => ⟨fun hi => ?_, fun hi => ?_⟩
  · exact F.least (· ∈ wks tab x (tab.length + 1) st []) (fun j hj => by
      rcases W.cls j hj with z | z
      · cases z
      · exact z) W.mem i (.inl hi)
  · refine wks_least (C := (· ∈ (stpN tab x 200 ([], st)).1)) (fun j hj => ?_) _ _ _ (fun j hj => ?_) (fun j hj => by cases hj) i hi
    · refine (F.dn j hj).imp id fun z k hk => ?_
      rcases z k hk with z | z
      · exact z
      · rw [F2] at z
        cases z
    · rcases F.cov j hj with z | z
      · exact z
      · rw [F2] at z
        cases z
end
def sp_l_key (K : PySem.W.Frag) (w : World) : Sp := fun vs H Q _ => ∃ (d r po dxo tb p dx lr nr wr : Addr) (tab : List En) (nx M : Nat) (as : List Addr) (Rs : List PyData) (B : Nat) (e : En) (x : Str), vs = [.ref po, .ref p, .int (e.id : Int), .str x] ∧
  W7 K w H d r po dxo tb p dx lr nr wr tab nx M as Rs B ∧ e ∈ tab ∧ B ≤ 5000 ∧
  ∀ (as' : List Addr) (Rs' : List PyData) (j : Nat) q H', KS lr nr H H' → W7 K w H' d r po dxo tb p dx lr nr wr tab nx M as' Rs' (B + 1) → Mono Rs Rs' → Rs'[j]? = some (rowD e.sl) → Tr H' (.ref q) (K44.keyD j x e.sl) → Q (.ref q) H'
def sp_law (K : PySem.W.Frag) : Sp := fun vs H Q _ => ∃ (a : Addr) (ns : List Int), vs = [.ref a] ∧ SqL K H a (ns.map V.int) ∧ ns.length ≤ 63 ∧ ∀ H', Q (.bl true) H'
def names43 : List String := ["x", "y", "p", "q", "long", "x1", "lobby"]
/-! ### readings -/

def ns_l_key : List Str := ["objects", "shapes", "one", "name", "shape", "slot"]
def t_l_key (K : PySem.W.Frag) (w : World) (E : XK) : TS :=
  (tSeq (tAsg (tMeth (He.ga K ("Shapes" : Str)) ("shape_of" : Str) (sp_Shapes_shape_of K w) [] E (tVar 1) (tCons (tMeth (He.ga K ("Objects" : Str)) ("slots" : Str) (sp_Objects_slots K) [] E (tVar 0) (tCons (tVar 2) tNil)) tNil)) (gName 4))
    (tSeq (tIfS (tTest (tOp rGeI (tCall (sp_l_place K) [] E (tCons (tVar 0) (tCons (tVar 2) (tCons (tVar 3) tNil)))) (tC (.int 0))))
      (tRet (tTup (tCons (tVar 4) (tCons (tTup tNil) tNil))))
      tNext)
    (tRet (tTup (tCons (tVar 4) (tCons (tCB (rTupleOf K) (tCons (tLc (iTup K (tMeth (He.ga K ("Objects" : Str)) ("slots" : Str) (sp_Objects_slots K) [] E (tVar 0) (tCons (tVar 2) tNil))) (gName 5) (tTest (tOp rEq (tOp (rIxT K) (tVar 5) (tC (.int 1))) (tC (.str ("varparent" : Str))))) (tOp (rIxT K) (tVar 5) (tC (.int 2))) [5]) tNil)) tNil))))))

def ns_law : List Str := ["script", "d", "objects", "shapes", "ids", "turn", "one", "name", "told", "due", "rests", "k"]
def t_law (K : PySem.W.Frag) (w : World) (E : XK) : TS :=
  (tSeq (tAsg (tCall (sp_l_start K) [] E (tCons (tVar 0) tNil)) (gName 1))
    (tSeq (tAsg (tMake (He.ga K ("Objects" : Str)) (sp_Objects_init K) [] E tNil) (gName 2))
    (tSeq (tAsg (tMake (He.ga K ("Shapes" : Str)) (sp_Shapes_init K w) [] E tNil) (gName 3))
    (tSeq (tDrop (tCall (sp_l_world K w) [] E (tCons (tVar 1) (tCons (tVar 2) (tCons (tOp rAddI (tC (.int 1)) (tOp rModI (tCall (sp_l_take K) [] E (tCons (tVar 1) tNil)) (tC (.int 9)))) tNil)))))
    (tSeq (tAsg (tMeth (He.ga K ("Objects" : Str)) ("ids" : Str) (sp_Objects_ids K) [] E (tVar 2) tNil) (gName 4))
    (tSeq (tFor (iRng1 (tCons (tC (.int 3)) tNil)) (gName 5)
      (tSeq (tFor (iList K (tVar 4)) (gName 6)
      (tFor (iList K (tLst (tMenu (["x", "y", "p", "q", "long", "x1", "lobby"].map mS)))) (gName 7)
      (tSeq (tAsg (tCall (sp_key_of K w) [] E (tCons (tVar 2) (tCons (tVar 3) (tCons (tVar 7) (tCons (tVar 6) tNil))))) (gName 8))
    (tSeq (tIfS (tOr (tNot (tB (tCB (rIsi K) (tCons (tVar 8) (tCons (tC (.ty "tuple")) tNil))))) (tTest (tOp (rNeD K) (tVar 8) (tCall (sp_l_key K w) [] E (tCons (tVar 2) (tCons (tVar 3) (tCons (tVar 6) (tCons (tVar 7) tNil))))))))
      (tRet (tC (.bl false)))
      tNext)
    (tSeq (tAsg (tLst tNil) (gName 9))
    (tSeq (tIfS (tTest (tOp rLtI (tCall (sp_l_place K) [] E (tCons (tVar 2) (tCons (tVar 6) (tCons (tVar 7) tNil)))) (tC (.int 0))))
      (tAsg (tCall (sp_l_reach K) [] E (tCons (tVar 2) (tCons (tCall (sp_l_parents K) [] E (tCons (tVar 2) (tCons (tVar 6) tNil))) (tCons (tVar 7) tNil)))) (gName 9))
      tNext)
    (tSeq (tAsg (tCall (sp_rests_on K) [] E (tCons (tVar 2) (tCons (tVar 7) (tCons (tVar 6) tNil)))) (gName 10))
    (tIfS (tOr (tNot (tB (tCB (rIsi K) (tCons (tVar 10) (tCons (tC (.ty "list")) tNil))))) (tTest (tOp (rNeD K) (tVar 10) (tVar 9))))
      (tRet (tC (.bl false)))
      tNext))))))))
    (tFor (iRng1 (tCons (tC (.int 4)) tNil)) (gName 11)
      (tDrop (tCall (sp_l_change K w) [] E (tCons (tVar 1) (tCons (tVar 2) (tCons (tVar 4) tNil))))))))
    (tRet (tC (.bl true)))))))))

section
variable {K : PySem.W.Frag} {w : World} {vs : List V} {H : Hp} {Q : VK} {E : XK}
theorem run_l_key (h : sp_l_key K w vs H Q E) : t_l_key K w E (DQ Q) (start ns_l_key vs) H := by
  obtain ⟨d, r, po, dxo, tb, p, dx, lr, nr, wr, tab, nx, M, as, Rs, B, e, x, rfl, W, he, hB, q⟩ := h
  have l7 := W.gd.le e he
  refine ⟨_, rfl, p, dx, _, rfl, W.sh.ins, shF_no (by decide +kernel) (by decide +kernel) (by decide +kernel) (by decide +kernel), ?_⟩
  refine ⟨_, rfl, po, dxo, _, rfl, W.ob.ins, obF_no (by decide +kernel) (by decide +kernel), _, rfl, po, dxo, tb, tab, nx, e, rfl, W.ob, he, by omega, fun a G1 s1 t1 => ?_⟩
  have W1 := W.same s1
  refine ⟨p, dx, lr, nr, wr, 0, as, Rs, [], a, e.sl, rfl, W1.sh, t1, W1.sg he, by have := W.lR; omega, fun as' Rs' j G2 k2 S2 x2 hj => ?_⟩
  have W2 := W1.shp (C := B + 1) k2 S2 (Nat.le_trans x2.len (by have := W.lR; omega))
  have mo := Mono.ext x2
  have ks2 : KS lr nr H G2 := fun b o n1 n2 z => k2 b o n1 n2 (s1 b o z)
  have wrap : ∀ G3, Same G2 G3 → KS lr nr H G3 := fun G3 s b o n1 n2 z => s b o (ks2 b o n1 n2 z)
  refine ⟨_, rfl, _, rfl, _, rfl, po, dxo, tb, tab, nx, e, x, rfl, W2.ob, he, by omega, fun G3 s3 => ⟨_, _, rfl, rfl, _, rfl, ?_⟩⟩
  rw [place_ge]
  have W3 := W2.same s3
  cases g : getS e.sl x with
  | some s0 =>
    refine iteT ⟨_, rfl, (by show 0 ≤ sizeLine; decide), fun p1 n1 => ⟨(by show 2 ≤ sizeLine; decide), fun p2 n2 => ?_⟩⟩
    have s5 := same_upd (o := .tup []) n1
    have s6 := same_upd (o := .tup [V.int (j : Int), V.ref p1]) n2
    have S := s5.trans s6
    refine q as' Rs' j p2 _ (wrap _ (s3.trans S)) (W3.same S) mo hj ?_
    unfold K44.keyD
    rw [g]
    exact .tup upd_same (.cons (.int _) (.cons (.tup (s6 _ _ upd_same) .nil) .nil))
  | none =>
    refine iteF ?_
    refine ⟨_, rfl, _, rfl, po, dxo, _, rfl, W3.ob.ins, obF_no (by decide +kernel) (by decide +kernel), _, rfl, po, dxo, tb, tab, nx, e, rfl, W3.ob, he, by omega, fun a4 G4 s4 t4 => ?_⟩
    obtain ⟨us, hu, tr⟩ := sls_open t4
    have lu := tr.len
    refine ⟨a4, rfl, ⟨_, SqT.of hu⟩, ?_⟩
    intro D nD
    refine lc_tup (xs := us) (fun i G => ∃ vs : List V, Same G4 G ∧ G D = some (.lst vs) ∧ Trs G vs (vpV (e.sl.take i)) ∧ vs.length ≤ i) ⟨[], same_upd nD, upd_same, .nil, Nat.zero_le _⟩ (fun i G _ z => by
      obtain ⟨vs, s, _⟩ := z
      exact SqT.of (s _ _ hu)) ?_ ?_
    · rintro k y G hy ⟨vs, sG, gD, tv, lv⟩
      obtain ⟨s, t9, v9, es, rfl, ht9, tv9⟩ := tr.at_ k hy
      have kl := (List.getElem?_eq_some_iff.mp es).1
      have et : e.sl.take (k + 1) = e.sl.take k ++ [s] := by rw [List.take_add_one, es]; rfl
      refine ⟨rfl, ?_⟩
      refine ⟨_, rfl, t9, _, _, _, rfl, rfl, SqT.of (sG _ _ ht9), atI_nat (j := 1) rfl, rfl, _, rfl, ?_⟩
      by_cases c : s.kind = ("varparent" : Str)
      · rw [decide_eq_true (congrArg V.str c)]
        refine iteT ⟨_, rfl, t9, _, _, _, rfl, rfl, SqT.of (sG _ _ ht9), atI_nat (j := 2) rfl, _, gD, Nat.lt_of_le_of_lt (show vs.length ≤ 100 by omega) (by decide), vs ++ [v9], fun b u z => ?_, upd_same, ?_, by simp; omega⟩
        · rw [upd_ne (ne_of_none z nD)]
          exact sG b u z
        · have ev : vpV (e.sl.take (k + 1)) = vpV (e.sl.take k) ++ [s.val] := by
            unfold vpV
            rw [et, List.filter_append, List.filter_cons, if_pos (show isVp s = true from decide_eq_true c), List.map_append]
            rfl
          rw [ev]
          have tk := tk_put (ys := vs ++ [v9]) gD
          exact (tv.keep tk).snoc ((tv9.keep fun b xs z => sG b _ z).keep tk)
      · rw [decide_eq_false (fun z => c (V.str.inj z))]
        refine iteF ⟨vs, sG, gD, ?_, by omega⟩
        have ev : vpV (e.sl.take (k + 1)) = vpV (e.sl.take k) := by
          unfold vpV
          rw [et, List.filter_append, List.filter_cons, if_neg (show ¬ isVp s = true from fun z => c (of_decide_eq_true z))]
          simp
        rw [ev]
        exact tv
    · rintro G ⟨vs, sG, gD, tv, lv⟩
      rw [List.take_of_length_le (by omega)] at tv
      refine ⟨D, vs, rfl, .inl ⟨SqL.of gD, fun l nl => ?_⟩⟩
      have s5 := same_upd (o := .tup vs) nl
      refine ⟨(by show 2 ≤ sizeLine; decide), fun p1 n1 => ?_⟩
      have s6 := same_upd (o := .tup [V.int (j : Int), V.ref l]) n1
      have S := (((s3.trans s4).trans sG).trans s5).trans s6
      refine q as' Rs' j p1 _ (wrap _ S) (W2.same S) mo hj ?_
      unfold K44.keyD
      rw [g]
      exact .tup upd_same (.cons (.int _) (.cons (.tup (s6 _ _ upd_same) (tv.keep fun b xs z => s6 b _ (s5 b _ z))) .nil))
theorem ids_map {tab : List En} {nx M : Nat} (g : Gd tab nx M) : tab.map (fun e => V.int (e.id : Int)) = (List.range nx).map fun (i : Nat) => V.int (i : Int) := by
  rw [← g.ids, List.map_map]
  rfl
def tTail (K : PySem.W.Frag) (E : XK) : TS :=
    (tSeq (tAsg (tCall (sp_rests_on K) [] E (tCons (tVar 2) (tCons (tVar 7) (tCons (tVar 6) tNil)))) (gName 10))
    (tIfS (tOr (tNot (tB (tCB (rIsi K) (tCons (tVar 10) (tCons (tC (.ty "list")) tNil))))) (tTest (tOp (rNeD K) (tVar 10) (tVar 9))))
      (tRet (tC (.bl false)))
      tNext))
theorem tail_ok {G : Hp} {po dxo tb dl : Addr} {tab : List En} {nx : Nat} {e : En} {x : Str} {D : Ends} {v0 v1 v3 v4 v5 v8 v10 v11 : Option V} (O : Ob K G po dxo tb tab nx) (he : e ∈ tab) (gd : Gd tab nx nx) (h20 : nx ≤ 20) {L : List Int} (gl : G dl = some (.lst (L.map V.int))) (hL : L = rstF tab x e.sl)
    (fin : ∀ G' v10, Same G G' → D.nx [v0, v1, some (.ref po), v3, v4, v5, some (.int (e.id : Int)), some (.str x), v8, some (.ref dl), v10, v11] G') : tTail K E D [v0, v1, some (.ref po), v3, v4, v5, some (.int (e.id : Int)), some (.str x), v8, some (.ref dl), v10, v11] G := by
  refine ⟨_, rfl, _, rfl, _, rfl, po, dxo, tb, tab, nx, e, x, rfl, O, he, gd, h20, fun q6 G6 s6 g6 => ?_⟩
  refine ⟨_, rfl, _, _, .type "list", .type "list", true, rfl, .ty "list", .base (.lst g6), kit_ty (by decide +kernel), _, rfl, iteF ?_⟩
  refine ⟨_, rfl, _, rfl, _, _, ints_dp g6, ints_dp (s6 _ _ gl), ints_sh _, ints_sh _, _, rfl, ?_⟩
  rw [ints_eqv, hL, decide_eq_true rfl]
  exact iteF (fin _ _ s6)
theorem run_law (C : ShK K) (h : sp_law K vs H Q E) : t_law K w E (DQ Q) (start ns_law vs) H := by
  obtain ⟨a, ns, rfl, hS, hl, q⟩ := h
  refine ⟨_, rfl, a, ns, rfl, hS, hl, fun d r H1 s1 nd nr0 D1 => ?_⟩
  intro po dxo npo ndxo nxpo
  have S1 : Same H1 (upd (upd H1 dxo (.own po)) po (.ins (OC K) dxo [])) := fun b u z => by
    rw [upd_ne (ne_of_none z npo), upd_ne (ne_of_none z ndxo)]
    exact z
  have D1' := D1.same S1
  have dpo : d ≠ po := D1.neD npo
  have rpo : r ≠ po := D1.neR npo
  refine ⟨po, dxo, rfl, upd_same, fun tb o0 H2 k2 ntb no0 O2 => ⟨rfl, ?_⟩⟩
  have D2 : Dr H2 d r := D1'.keep fun b o h e => k2 b o (by rcases h with rfl | rfl; exact dpo; exact rpo) e
  have dtb : d ≠ tb := D1'.neD ntb
  have do0 : d ≠ o0 := D1'.neD no0
  intro p dx np ndx nxp
  have S2 : Same H2 (upd (upd H2 dx (.own p)) p (.ins (ShC K) dx [])) := fun b u z => by
    rw [upd_ne (ne_of_none z np), upd_ne (ne_of_none z ndx)]
    exact z
  have D2' := D2.same S2
  have O2' := O2.same S2
  have dp : d ≠ p := D2.neD np
  have rp : r ≠ p := D2.neR np
  have pop : po ≠ p := ne_of_none O2.ins np
  refine ⟨p, dx, rfl, upd_same, fun lr nr wr q0 H3 k3 nlr nnr nwr Sc => ⟨rfl, ?_⟩⟩
  have D3 : Dr H3 d r := D2'.keep fun b o h e => k3 b o (by rcases h with rfl | rfl; exact dp; exact rp) e
  have tk3 : TK (upd (upd H2 dx (.own p)) p (.ins (ShC K) dx [])) H3 := fun b xs e => k3 b _ (ne_of e upd_same (by intro z; cases z)) e
  have O3 : Ob K H3 po dxo tb [⟨0, o0, [lobbyS]⟩] 1 := K42.ob_upto (X := fun b => b = p) O2' k3 pop (ne_of_none O2.tbl np) (fun e he => by
    obtain ⟨kvs, e2, _⟩ := O2.ent e he
    exact ne_of_none e2 np) tk3
  have rlr : r ≠ lr := D2'.neR nlr
  -- the world
  refine ⟨_, rfl, _, rfl, _, rfl, d, rfl, r, D3, fun j H4 j0 D4 M4 => ⟨_, _, rfl, rfl, (by show (0 : Int) < 9; decide), _, _, rfl, rfl, ?_⟩⟩
  have tm := take_mod (j := j) (m := 9) (by decide)
  obtain ⟨m, hm⟩ : ∃ n : Nat, 1 + j % 9 = (n : Int) := ⟨(1 + j % 9).toNat, by omega⟩
  have gd0 : Gd [⟨0, o0, [lobbyS]⟩] 1 (m + 1) := ⟨fun e he s hs => by
    rw [List.mem_singleton.mp he] at hs
    rw [List.mem_singleton.mp hs]
    exact lobby_s4 (by omega), fun e he => by
    rw [List.mem_singleton.mp he]
    show 1 ≤ 7
    decide, rfl⟩
  have W3 : W7 K w H3 d r po dxo tb p dx lr nr wr [⟨0, o0, [lobbyS]⟩] 1 (m + 1) [q0] [rowD []] 1 := ⟨D3, O3, Sc, gd0, Nat.le_refl _, dtb, (fun e he => by rw [List.mem_singleton.mp he]; exact do0), pop, rlr⟩
  have W4 := W3.kept (Kept.of_moved M4) D4
  refine ⟨d, r, po, dxo, tb, p, dx, lr, nr, wr, _, m, m + 1, _, _, 1, (by show [V.ref d, V.ref po, V.int (1 + j % 9)] = _; rw [hm]), W4, rfl, by omega, fun tab5 H5 W5 => ?_⟩
  have h1 : 1 ≤ m + 1 := by omega
  have h20 : m + 1 ≤ 10 := by omega
  generalize m + 1 = nx at W5 h1 h20
  refine ⟨_, rfl, po, dxo, _, rfl, W5.ob.ins, obF_no (by decide +kernel) (by decide +kernel), po, dxo, tb, tab5, nx, rfl, W5.ob, fun l H6 s6 n6 g6 => ?_⟩
  obtain ⟨l1, l2, l3⟩ := none_nr W5 n6
  rw [ids_map W5.gd] at g6
  refine ⟨3, rfl, by decide, by decide, ?_⟩
  refine for_range (lo := 0) (n := 3) (fun k σ G => ∃ (v5 v6 v7 v8 v9 v10 v11 : Option V) (tab : List En) (as : List Addr) (Rs : List PyData), σ = [some (.ref a), some (.ref d), some (.ref po), some (.ref p), some (.ref l), v5, v6, v7, v8, v9, v10, v11] ∧ W7 K w G d r po dxo tb p dx lr nr wr tab nx nx as Rs (1 + 500 * k) ∧ G l = some (.lst ((List.range nx).map fun (i : Nat) => V.int (i : Int)))) ⟨_, _, _, _, _, _, _, _, _, _, rfl, W5.same s6, g6⟩ ?_ ?_
  · rintro k σ G hk ⟨v5, v6, v7, v8, v9, v10, v11, tab, as, Rs, rfl, W, gl⟩
    refine ⟨_, rfl, l, rfl, ⟨_, SqL.of gl⟩, ?_⟩
    refine for_it (walk_list (xs := (List.range nx).map fun (i : Nat) => V.int (i : Int))) (fun i σ G => ∃ (v6 v7 v8 v9 v10 v11 : Option V) (as : List Addr) (Rs : List PyData), σ = [some (.ref a), some (.ref d), some (.ref po), some (.ref p), some (.ref l), some (.int (0 + (k : Int))), v6, v7, v8, v9, v10, v11] ∧ W7 K w G d r po dxo tb p dx lr nr wr tab nx nx as Rs (1 + 500 * k + 20 * i) ∧ G l = some (.lst ((List.range nx).map fun (i : Nat) => V.int (i : Int)))) ⟨_, _, _, _, _, _, _, _, rfl, W, gl⟩ (fun i σ G _ ⟨_, _, _, _, _, _, _, _, _, _, g⟩ => SqL.of g) ?_ ?_
    · rintro i y σ G G' hi ⟨v6, v7, v8, v9, v10, v11, as, Rs, rfl, W, gl⟩ ⟨rfl, hx⟩
      have hin : i < nx := by simpa using hi
      rw [← ids_map W.gd, List.getElem?_map] at hx
      obtain ⟨e, hee, rfl⟩ := Option.map_eq_some_iff.mp hx
      have he := List.mem_of_getElem? hee
      have l7 := W.gd.le e he
      refine ⟨(by show 7 ≤ sizeLine; decide), fun mm nm => ⟨mm, rfl, ⟨_, SqL.of upd_same⟩, ?_⟩⟩
      obtain ⟨m1, m2, m3⟩ := none_nr W nm
      have s2 := same_upd (o := .lst (names43.map mS)) nm
      refine for_it (walk_list (xs := names43.map mS)) (fun i2 σ G => ∃ (v7 v8 v9 v10 v11 : Option V) (as : List Addr) (Rs : List PyData), σ = [some (.ref a), some (.ref d), some (.ref po), some (.ref p), some (.ref l), some (.int (0 + (k : Int))), some (.int (e.id : Int)), v7, v8, v9, v10, v11] ∧ W7 K w G d r po dxo tb p dx lr nr wr tab nx nx as Rs (1 + 500 * k + 20 * i + 2 * i2) ∧ G l = some (.lst ((List.range nx).map fun (i : Nat) => V.int (i : Int))) ∧ G mm = some (.lst (names43.map mS))) ⟨_, _, _, _, _, _, _, rfl, W.same s2, s2 _ _ gl, upd_same⟩ (fun i σ G _ ⟨_, _, _, _, _, _, _, _, _, _, g⟩ => SqL.of g) ?_ ?_
      · rintro i2 y σ G G' hi2 ⟨v7, v8, v9, v10, v11, as, Rs, rfl, W, gl, gm⟩ ⟨rfl, hx⟩
        have hi7 : i2 < 7 := hi2
        obtain ⟨nm', hnm, rfl⟩ : ∃ nm ∈ names43, y = mS nm := by
          have := List.mem_of_getElem? hx
          obtain ⟨nm, h1, h2⟩ := List.mem_map.mp this
          exact ⟨nm, h1, h2.symm⟩
        refine ⟨_, rfl, _, rfl, _, rfl, _, rfl, d, r, po, dxo, tb, p, dx, lr, nr, wr, tab, nx, nx, as, Rs, _, e, Str.ofString nm', rfl, W, he, by omega, fun as1 Rs1 j1 q1 G1 k1 W1 mo1 hj1 t1 => ?_⟩
        have htup : ∃ xs, G1 q1 = some (.tup xs) := by
          unfold K44.keyD at t1
          split at t1
          · cases t1 with
            | tup h _ => exact ⟨_, h⟩
          · cases t1 with
            | tup h _ => exact ⟨_, h⟩
        obtain ⟨xs, hxs⟩ := htup
        refine ⟨_, rfl, _, _, .type "tuple", .type "tuple", true, rfl, .ty "tuple", .base (.tup hxs), kit_ty (by decide +kernel), _, rfl, iteF ?_⟩
        refine ⟨_, rfl, _, rfl, _, rfl, _, rfl, _, rfl, d, r, po, dxo, tb, p, dx, lr, nr, wr, tab, nx, nx, as1, Rs1, _, e, Str.ofString nm', rfl, W1, he, by omega, fun as2 Rs2 j2 q2 G2 k2 W2 mo2 hj2 t2 => ?_⟩
        have ej : j1 = j2 := nd_at W2.sh.nd (mo2 _ _ hj1) hj2
        subst ej
        have sh := (key_ok (fun s hs => (W.gd.s4 e he s hs).ok.g) j1 (Str.ofString nm')).2
        refine ⟨_, _, (t1.keep (W1.sh.ks k2)).dp, t2.dp, sh, sh, _, rfl, ?_⟩
        rw [SeqAt.eqv_refl _ (SeqAt.canLay_of_shaped sh)]
        refine iteF ?_
        have gl2 := k2 _ _ l1 l2 (k1 _ _ l1 l2 gl)
        have gm2 := k2 _ _ m1 m2 (k1 _ _ m1 m2 gm)
        refine ⟨(by show 0 ≤ sizeLine; decide), fun p9 n9 => ?_⟩
        have s9 := same_upd (o := .lst []) n9
        have g9 : (upd G2 p9 (.lst [])) p9 = some (.lst []) := upd_same
        have W3 := (W2.same s9).mono (C := 1 + 500 * k + 20 * i + 2 * (i2 + 1)) (by omega)
        have gl3 := s9 _ _ gl2
        have gm3 := s9 _ _ gm2
        generalize (upd G2 p9 (.lst [])) = G3 at g9 W3 gl3 gm3
        refine ⟨_, rfl, _, rfl, _, rfl, po, dxo, tb, tab, nx, e, Str.ofString nm', rfl, W3.ob, he, by omega, fun G4 s4 => ⟨_, _, rfl, rfl, _, rfl, ?_⟩⟩
        rw [K44.place_lt]
        have W4 := W3.same s4
        cases g : getS e.sl (Str.ofString nm') with
        | some s0 =>
          refine iteF ?_
          refine tail_ok (L := []) W4.ob he W4.gd (by omega) (s4 _ _ g9) (by unfold rstF; rw [g]) fun G5 w10 s5 => ?_
          exact ⟨_, _, _, _, _, as2, Rs2, rfl, W4.same s5, s5 _ _ (s4 _ _ gl3), s5 _ _ (s4 _ _ gm3)⟩
        | none =>
          refine iteT ?_
          refine ⟨_, rfl, _, rfl, _, rfl, po, dxo, tb, tab, nx, nx, e, rfl, W4.ob, he, W4.gd, fun pq G5 s5 n5 g5 => ?_⟩
          have W5 := W4.same s5
          have idp := K44.par_ids W5.gd he
          have lp := Nat.le_trans (parS_le e.sl) l7
          refine ⟨_, rfl, po, dxo, tb, tab, nx, pq, parS e.sl, Str.ofString nm', rfl, W5.ob, g5, idp, W5.gd, lp, fun q6 G6 s6 n6 g6 => ?_⟩
          have W6 := W5.same s6
          have S := (s4.trans s5).trans s6
          refine tail_ok (L := rchS tab (Str.ofString nm') (parS e.sl)) W6.ob he W6.gd (by omega) g6 (by
            unfold rstF
            rw [g]
            exact reach_rest W6.ob.ord W6.gd (by omega) idp lp) fun G7 w10 s7 => ?_
          exact ⟨_, _, _, _, _, as2, Rs2, rfl, W6.same s7, s7 _ _ (S _ _ gl3), s7 _ _ (S _ _ gm3)⟩
      · rintro σ G ⟨v7, v8, v9, v10, v11, as, Rs, rfl, W, gl, gm⟩
        have W : W7 K w G d r po dxo tb p dx lr nr wr tab nx nx as Rs (1 + 500 * k + 20 * i + 2 * 7) := W
        exact ⟨_, _, _, _, _, _, as, Rs, rfl, W.mono (by omega), gl⟩
    · rintro σ G ⟨v6, v7, v8, v9, v10, v11, as, Rs, rfl, W, gl⟩
      rw [List.length_map, List.length_range] at W
      have W := W.mono (C := 1 + 500 * (k + 1)) (by omega)
      refine ⟨4, rfl, by decide, by decide, ?_⟩
      refine for_range (lo := 0) (n := 4) (fun k2 σ G => ∃ (v11 : Option V) (tab : List En), σ = [some (.ref a), some (.ref d), some (.ref po), some (.ref p), some (.ref l), some (.int (0 + (k : Int))), v6, v7, v8, v9, v10, v11] ∧ W7 K w G d r po dxo tb p dx lr nr wr tab nx nx as Rs (1 + 500 * (k + 1)) ∧ G l = some (.lst ((List.range nx).map fun (i : Nat) => V.int (i : Int)))) ⟨_, tab, rfl, W, gl⟩ ?_ ?_
      · rintro k2 σ G hk2 ⟨v11, tab, rfl, W, gl⟩
        rw [← ids_map W.gd] at gl
        refine ⟨_, rfl, _, rfl, _, rfl, d, r, po, dxo, tb, p, dx, lr, nr, wr, l, tab, nx, as, Rs, _, rfl, W, gl, h1, by omega, l3, fun tab' e b q3 G3 W3 he g3 gl3 => ?_⟩
        rw [ids_map W.gd] at gl3
        exact ⟨_, tab', rfl, W3, gl3⟩
      · rintro σ G ⟨v11, tab, rfl, W, gl⟩
        exact ⟨_, _, _, _, _, _, _, tab, as, Rs, rfl, W, gl⟩
  · rintro σ G ⟨v5, v6, v7, v8, v9, v10, v11, tab, as, Rs, rfl, W, gl⟩
    exact q G
end
end Rm.U.K44.K43

/-! U45: only what is rested on matters: the law's own defs. -/
namespace Rm.U.K44.K45
open PySem PySem.Spec PyProof.Rows L2
open Rm.Q (plD plAll eqv_eq)
open Rm.U.K42 (SOk Mono)
open Rm.U.K44.K43 (reach_rest stpN_nil srtI_perm)
/-! ### plain -/
/-- a slot but for the value of a "var" -/
def vz (s : Sl) : Sl := ⟨s.name, s.kind, if s.kind = ("var" : Str) then .none else s.val⟩
theorem place_vz : ∀ {ts us : List Sl} (x : Str) (i : Int), ts.map vz = us.map vz → placeF ts x i = placeF us x i ∧ (getS ts x).isSome = (getS us x).isSome
  | [], [], _, _, _ => ⟨rfl, rfl⟩
  | [], _ :: _, _, _, e => by cases e
  | _ :: _, [], _, _, e => by cases e
  | s :: ts, t :: us, x, i, e => by
    rw [List.map_cons, List.map_cons] at e
    injection e with e1 e2
    have hn : (vz s).name = (vz t).name := congrArg Sl.name e1
    have hn : s.name = t.name := hn
    obtain ⟨a, b⟩ := place_vz (ts := ts) (us := us) x (i + 1) e2
    unfold placeF getS
    rw [hn, a]
    refine ⟨rfl, ?_⟩
    split
    · rfl
    · exact b
theorem var_par : isPar ("var" : Str) = false := by decide +kernel
theorem par_vz : ∀ {ts us : List Sl}, ts.map vz = us.map vz → parS ts = parS us
  | [], [], _ => rfl
  | [], _ :: _, e => by cases e
  | _ :: _, [], e => by cases e
  | s :: ts, t :: us, e => by
    rw [List.map_cons, List.map_cons] at e
    injection e with e1 e2
    have hk : (vz s).kind = (vz t).kind := congrArg Sl.kind e1
    have hk : s.kind = t.kind := hk
    have hv : (vz s).val = (vz t).val := congrArg Sl.val e1
    have hv : (if s.kind = ("var" : Str) then PyData.none else s.val) = (if t.kind = ("var" : Str) then PyData.none else t.val) := hv
    have ih := par_vz (ts := ts) (us := us) e2
    unfold parS at ih ⊢
    rw [List.filterMap_cons, List.filterMap_cons, ih]
    have ep : parOf s = parOf t := by
      unfold parOf
      rw [hk] at hv ⊢
      by_cases c : t.kind = ("var" : Str)
      · rw [c, var_par]
        rfl
      · rw [if_neg c, if_neg c] at hv
        rw [hv]
    rw [ep]
theorem put_vz {x : Str} {D : PyData} {s : Sl} : ∀ {ts : List Sl}, getS ts x = some s → s.kind = ("var" : Str) → (putS ts ⟨x, s.kind, D⟩).map vz = ts.map vz
  | [], h, _ => by cases h
  | t :: ts, h, f => by
    unfold getS at h
    split at h
    · rename_i c
      cases h
      unfold putS
      rw [if_pos c]
      simp only [List.map_cons]
      congr 1
      subst c
      unfold vz
      simp [f]
    · rename_i c
      unfold putS
      rw [if_neg c, List.map_cons, put_vz h f]
      rfl
theorem get_vz : ∀ {ts us : List Sl} {x : Str} {s : Sl}, ts.map vz = us.map vz → getS ts x = some s → ∃ t, getS us x = some t ∧ t.kind = s.kind
  | [], _, _, _, _, h => by cases h
  | _ :: _, [], _, _, e, _ => by cases e
  | s :: ts, t :: us, x, s', e, h => by
    rw [List.map_cons, List.map_cons] at e
    injection e with e1 e2
    have hn : (vz s).name = (vz t).name := congrArg Sl.name e1
    have hn : s.name = t.name := hn
    have hk : (vz s).kind = (vz t).kind := congrArg Sl.kind e1
    have hk : s.kind = t.kind := hk
    unfold getS at h ⊢
    rw [hn] at h
    split at h
    · rename_i c
      cases h
      rw [if_pos c]
      exact ⟨t, rfl, hk.symm⟩
    · rename_i c
      rw [if_neg c]
      exact get_vz e2 h
theorem getS_at : ∀ {ts : List Sl} {s : Sl}, NdS ts → s ∈ ts → getS ts s.name = some s
  | [], _, _, h => by cases h
  | t :: ts, s, nd, h => by
    obtain ⟨n1, n2⟩ := List.nodup_cons.mp nd
    unfold getS
    rcases List.mem_cons.mp h with rfl | h
    · rw [if_pos rfl]
    · rw [if_neg fun z => n1 (by show t.name ∈ _; rw [z]; exact List.mem_map.mpr ⟨s, h, rfl⟩)]
      exact getS_at n2 h
theorem setE_setE (tab : List En) (i : Nat) (a b : List Sl) : setE (setE tab i a) i b = setE tab i b := by
  unfold setE
  rw [List.map_map]
  refine List.map_congr_left fun e _ => ?_
  show (if (if e.id = i then (⟨e.id, e.at_, a⟩ : En) else e).id = i then (⟨(if e.id = i then (⟨e.id, e.at_, a⟩ : En) else e).id, (if e.id = i then (⟨e.id, e.at_, a⟩ : En) else e).at_, b⟩ : En) else (if e.id = i then (⟨e.id, e.at_, a⟩ : En) else e)) = _
  by_cases c : e.id = i
  · simp only [if_pos c]
  · simp only [if_neg c]
/-- two tables agree at an id: what a search sees of it -/
structure Agr (tab tab' : List En) (x : Str) (i : Int) : Prop where
  has : hasS tab' x i = hasS tab x i
  plc : plcI tab' x i = plcI tab x i
  par : parI tab' i = parI tab i
theorem Agr.refl (tab : List En) (x : Str) (i : Int) : Agr tab tab x i := ⟨rfl, rfl, rfl⟩
theorem Agr.trans {t1 t2 t3 : List En} {x : Str} {i : Int} (a : Agr t1 t2 x i) (b : Agr t2 t3 x i) : Agr t1 t3 x i := ⟨b.has.trans a.has, b.plc.trans a.plc, b.par.trans a.par⟩
/-- what a walk has looked at stays -/
theorem stp_sub (tab : List En) (x : Str) : ∀ (s : List Int × List Int), ∀ i ∈ s.1, i ∈ (stp tab x s).1
  | (L, []), i, h => h
  | (L, j :: w), i, h => by
    rw [stp]
    split
    · exact h
    · split
      · exact List.mem_append_left _ h
      · exact List.mem_append_left _ h
theorem stpN_sub (tab : List En) (x : Str) : ∀ (n : Nat) (s : List Int × List Int), ∀ i ∈ s.1, i ∈ (stpN tab x n s).1
  | 0, _, _, h => h
  | n + 1, s, i, h => stpN_sub tab x n _ i (stp_sub tab x s i h)
theorem stp_congr {tab tab' : List En} {x : Str} : ∀ {s : List Int × List Int}, (∀ i ∈ (stp tab x s).1, Agr tab tab' x i) → stp tab' x s = stp tab x s
  | (L, []), _ => rfl
  | (L, j :: w), h => by
    rw [stp, stp]
    rw [stp] at h
    by_cases c : j ∈ L
    · rw [if_pos c, if_pos c]
    · rw [if_neg c] at h
      rw [if_neg c, if_neg c]
      have a : Agr tab tab' x j := by
        refine h j ?_
        split
        · exact List.mem_append_right _ List.mem_cons_self
        · exact List.mem_append_right _ List.mem_cons_self
      rw [a.has, a.par]
theorem stpN_congr {tab tab' : List En} {x : Str} : ∀ (n : Nat) {s : List Int × List Int}, (∀ i ∈ (stpN tab x n s).1, Agr tab tab' x i) → stpN tab' x n s = stpN tab x n s
  | 0, _, _ => rfl
  | n + 1, s, h => by
    rw [stpN, stpN, stp_congr fun i hi => h i (stpN_sub tab x n _ i hi)]
    exact stpN_congr n h
theorem thr_congr {tab tab' : List En} {x : Str} {st : List Int} (h : ∀ i ∈ rchS tab x st, Agr tab tab' x i) : thrD tab' x st = thrD tab x st := by
  have e : rchS tab' x st = rchS tab x st := by
    unfold rchS
    rw [stpN_congr 200 fun i hi => h i ((srtI_perm _).mem_iff.mpr hi)]
  unfold thrD
  rw [e]
  have f : (rchS tab x st).filter (hasS tab' x) = (rchS tab x st).filter (hasS tab x) := List.filter_congr fun i hi => (h i hi).has
  rw [f]
  have m : ∀ i ∈ (rchS tab x st).filter (hasS tab x), plcI tab' x i = plcI tab x i := fun i hi => (h i (List.mem_filter.mp hi).1).plc
  generalize (rchS tab x st).filter (hasS tab x) = L at m
  match L, m with
  | [], _ => rfl
  | [i], m => rw [thrF, thrF, m i List.mem_cons_self]
  | _ :: _ :: _, _ => rfl
theorem ent_set {tab : List En} {i : Nat} {sl : List Sl} {j : Int} (h : j ≠ (i : Int)) : entOf (setE tab i sl) j = entOf tab j := by
  unfold entOf setE
  induction tab with
  | nil => rfl
  | cons e tab ih =>
    rw [List.map_cons, List.find?_cons, List.find?_cons, ih]
    by_cases c : e.id = i
    · rw [if_pos c]
      have n : ¬ (e.id : Int) = j := fun z => h (by rw [← z, c])
      simp only [decide_eq_false n]
    · rw [if_neg c]
theorem agr_other {tab : List En} {x : Str} {i : Nat} {sl : List Sl} {j : Int} (h : j ≠ (i : Int)) : Agr tab (setE tab i sl) x j := by
  have e := ent_set (tab := tab) (sl := sl) h
  refine ⟨?_, ?_, ?_⟩
  · unfold hasS slotOf
    rw [e]
  · unfold plcI
    rw [e]
  · unfold parI
    rw [e]
theorem setE_ord {tab : List En} {i : Nat} {sl : List Sl} (o : tab.Pairwise fun a b => a.id < b.id) : (setE tab i sl).Pairwise fun a b => a.id < b.id := by
  have h : ((setE tab i sl).map (·.id)).Pairwise (· < ·) := by
    rw [setE_id]
    exact List.pairwise_map.mpr o
  exact List.pairwise_map.mp h
theorem agr_var {tab : List En} {x : Str} {e : En} {sl : List Sl} (o : tab.Pairwise fun a b => a.id < b.id) (he : e ∈ tab) (hv : sl.map vz = e.sl.map vz) (j : Int) : Agr tab (setE tab e.id sl) x j := by
  by_cases c : j = (e.id : Int)
  · subst c
    have h2 := mem_setE he sl
    have o2 := setE_ord (i := e.id) (sl := sl) o
    have a := entOf_mem o he
    have b : entOf (setE tab e.id sl) (e.id : Int) = some ⟨e.id, e.at_, sl⟩ := entOf_mem o2 h2
    obtain ⟨p1, p2⟩ := place_vz x 0 hv
    refine ⟨?_, ?_, ?_⟩
    · unfold hasS slotOf
      rw [a, b]
      exact p2
    · unfold plcI
      rw [a, b]
      exact p1
    · unfold parI
      rw [a, b]
      exact par_vz hv
  · exact agr_other c
/-! ### the heap -/
/-- tuples and lists stay -/
def TLK (H H' : Hp) : Prop := (∀ b xs, H b = some (.tup xs) → H' b = some (.tup xs)) ∧ ∀ b xs, H b = some (.lst xs) → H' b = some (.lst xs)
theorem TLK.refl (H : Hp) : TLK H H := ⟨fun _ _ h => h, fun _ _ h => h⟩
theorem TLK.trans {A B C : Hp} (a : TLK A B) (b : TLK B C) : TLK A C := ⟨fun c xs e => b.1 c xs (a.1 c xs e), fun c xs e => b.2 c xs (a.2 c xs e)⟩
theorem TLK.same {H H' : Hp} (s : Same H H') : TLK H H' := ⟨fun b _ e => s b _ e, fun b _ e => s b _ e⟩
theorem TLK.kept {H H' : Hp} {d r : Addr} (D : Dr H d r) (k : Kept d H H') : TLK H H' := by
  obtain ⟨_, _, h1, _⟩ := id D
  exact ⟨fun b xs e => k _ _ (ne_of e h1 (by intro z; cases z)) e, fun b xs e => k _ _ (ne_of e h1 (by intro z; cases z)) e⟩
theorem tl_ko {K : PySem.W.Frag} {w : World} {G G' : Hp} {d r po dxo tb p dx lr nr wr : Addr} {tab : List En} {nx M : Nat} {as : List Addr} {Rs : List PyData} {B : Nat} (W : W7 K w G d r po dxo tb p dx lr nr wr tab nx M as Rs B) (k : KO po tb tab G G') : TLK G G' := ⟨fun b xs e => W.ob.tk k b xs e, fun b xs e => W.ob_lst k e⟩
/-! ### promises -/
def sp_l_change (K : PySem.W.Frag) (w : World) : Sp := fun vs H Q _ => ∃ (d r po dxo tb p dx lr nr wr l : Addr) (tab : List En) (nx : Nat) (as : List Addr) (Rs : List PyData) (B : Nat) (is : List En), vs = [.ref d, .ref po, .ref l] ∧
  W7 K w H d r po dxo tb p dx lr nr wr tab nx nx as Rs B ∧ H l = some (.lst (is.map fun e => V.int (e.id : Int))) ∧ (∀ e ∈ is, e ∈ tab) ∧ 1 ≤ is.length ∧ is.length ≤ nx ∧ nx ≤ 20 ∧
  ∀ (e : En) (sl : List Sl) (b : Bool) q H', e ∈ is → W7 K w H' d r po dxo tb p dx lr nr wr (setE tab e.id sl) nx nx as Rs B → H' q = some (.tup [.int (e.id : Int), .bl b]) → TLK H H' → Q (.ref q) H'
def sp_l_var (K : PySem.W.Frag) (w : World) : Sp := fun vs H Q _ => ∃ (d r po dxo tb p dx lr nr wr l : Addr) (tab : List En) (nx : Nat) (as : List Addr) (Rs : List PyData) (B : Nat), vs = [.ref d, .ref po, .ref l] ∧
  W7 K w H d r po dxo tb p dx lr nr wr tab nx nx as Rs B ∧ H l = some (.lst (tab.map fun e => V.int (e.id : Int))) ∧ 1 ≤ nx ∧ nx ≤ 20 ∧
  ∀ (e : En) (sl : List Sl) H', e ∈ tab → sl.map vz = e.sl.map vz → W7 K w H' d r po dxo tb p dx lr nr wr (setE tab e.id sl) nx nx as Rs B → TLK H H' → Q .non H'
def sp_l_question (K : PySem.W.Frag) (w : World) : Sp := fun vs H Q _ => ∃ (d r po dxo tb p dx lr nr wr : Addr) (tab : List En) (nx : Nat) (as : List Addr) (Rs : List PyData) (B : Nat), vs = [.ref d, .ref po, .ref p] ∧
  W7 K w H d r po dxo tb p dx lr nr wr tab nx nx as Rs B ∧ 1 ≤ nx ∧ nx ≤ 20 ∧ B ≤ 2000 ∧ ∀ (tab' : List En) (as' : List Addr) (Rs' : List PyData) H', W7 K w H' d r po dxo tb p dx lr nr wr tab' nx nx as' Rs' (B + 400) → Q (.bl true) H'
def sp_law (K : PySem.W.Frag) : Sp := fun vs H Q _ => ∃ (a : Addr) (ns : List Int), vs = [.ref a] ∧ SqL K H a (ns.map V.int) ∧ ns.length ≤ 63 ∧ ∀ H', Q (.bl true) H'
/-! ### readings -/

def ns_l_var : List Str := ["d", "objects", "ids", "one", "name", "kind", "value"]
def t_l_var (K : PySem.W.Frag) (w : World) (E : XK) : TS :=
  (tSeq (tAsg (tOp (rIxL K) (tVar 2) (tOp rModI (tCall (sp_l_take K) [] E (tCons (tVar 0) tNil)) (tCB (rLen K) (tCons (tVar 2) tNil)))) (gName 3))
    (tFor (iTup K (tMeth (He.ga K ("Objects" : Str)) ("slots" : Str) (sp_Objects_slots K) [] E (tVar 1) (tCons (tVar 3) tNil))) (gTup K 3 (gCons (gName 4) (gCons (gName 5) (gCons (gName 6) gNil))))
      (tIfS (tTest (tOp rEq (tVar 5) (tC (.str ("var" : Str)))))
      (tDrop (tMeth (He.ga K ("Objects" : Str)) ("assign" : Str) (sp_Objects_assign K) [] E (tVar 1) (tCons (tVar 3) (tCons (tVar 4) (tCons (tCall (sp_l_value K) [] E (tCons (tVar 0) (tCons (tCB (rLen K) (tCons (tVar 2) tNil)) tNil))) tNil)))))
      tNext)))

def ns_l_question : List Str := ["d", "objects", "shapes", "ids", "asked", "name", "key", "answer", "rests", "one", "others", "k"]
def t_l_question (K : PySem.W.Frag) (w : World) (E : XK) : TS :=
  (tSeq (tAsg (tMeth (He.ga K ("Objects" : Str)) ("ids" : Str) (sp_Objects_ids K) [] E (tVar 1) tNil) (gName 3))
    (tSeq (tAsg (tOp (rIxL K) (tVar 3) (tOp rModI (tCall (sp_l_take K) [] E (tCons (tVar 0) tNil)) (tCB (rLen K) (tCons (tVar 3) tNil)))) (gName 4))
    (tSeq (tAsg (tCall (sp_l_name K) [] E (tCons (tVar 0) tNil)) (gName 5))
    (tSeq (tAsg (tCall (sp_key_of K w) [] E (tCons (tVar 1) (tCons (tVar 2) (tCons (tVar 5) (tCons (tVar 4) tNil))))) (gName 6))
    (tSeq (tAsg (tCall (sp_l_answer K) [] E (tCons (tVar 1) (tCons (tVar 4) (tCons (tVar 5) tNil)))) (gName 7))
    (tSeq (tAsg (tCall (sp_rests_on K) [] E (tCons (tVar 1) (tCons (tVar 5) (tCons (tVar 4) tNil)))) (gName 8))
    (tSeq (tAsg (tLc (iList K (tVar 3)) (gName 9) (tTest (tOp (rIn K true) (tVar 9) (tVar 8))) (tVar 9) [9]) (gName 10))
    (tSeq (tFor (iRng1 (tCons (tC (.int 8)) tNil)) (gName 11)
      (tSeq (tIfS (tOr (tTest (tOp (rEqD K) (tVar 10) (tLst tNil))) (tTest (tOp rEq (tOp rModI (tCall (sp_l_take K) [] E (tCons (tVar 0) tNil)) (tC (.int 4))) (tC (.int 0)))))
      (tDrop (tCall (sp_l_var K w) [] E (tCons (tVar 0) (tCons (tVar 1) (tCons (tVar 3) tNil)))))
      (tDrop (tCall (sp_l_change K w) [] E (tCons (tVar 0) (tCons (tVar 1) (tCons (tVar 10) tNil))))))
    (tFor (iList K (tVar 3)) (gName 9)
      (tIfS (tAnd (tTest (tOp (rEqD K) (tCall (sp_key_of K w) [] E (tCons (tVar 1) (tCons (tVar 2) (tCons (tVar 5) (tCons (tVar 9) tNil))))) (tVar 6))) (tTest (tOp (rNeD K) (tCall (sp_l_answer K) [] E (tCons (tVar 1) (tCons (tVar 9) (tCons (tVar 5) tNil)))) (tVar 7))))
      (tRet (tC (.bl false)))
      tNext))))
    (tRet (tC (.bl true)))))))))))

def ns_law : List Str := ["script", "d", "turn", "objects", "shapes", "k"]
def t_law (K : PySem.W.Frag) (w : World) (E : XK) : TS :=
  (tSeq (tAsg (tCall (sp_l_start K) [] E (tCons (tVar 0) tNil)) (gName 1))
    (tSeq (tFor (iRng1 (tCons (tC (.int 3)) tNil)) (gName 2)
      (tSeq (tAsg (tMake (He.ga K ("Objects" : Str)) (sp_Objects_init K) [] E tNil) (gName 3))
    (tSeq (tAsg (tMake (He.ga K ("Shapes" : Str)) (sp_Shapes_init K w) [] E tNil) (gName 4))
    (tSeq (tDrop (tCall (sp_l_world K w) [] E (tCons (tVar 1) (tCons (tVar 3) (tCons (tOp rAddI (tC (.int 2)) (tOp rModI (tCall (sp_l_take K) [] E (tCons (tVar 1) tNil)) (tC (.int 7)))) tNil)))))
    (tFor (iRng1 (tCons (tC (.int 3)) tNil)) (gName 5)
      (tIfS (tNot (tB (tCall (sp_l_question K w) [] E (tCons (tVar 1) (tCons (tVar 3) (tCons (tVar 4) tNil))))))
      (tRet (tC (.bl false)))
      tNext))))))
    (tRet (tC (.bl true)))))

section
variable {K : PySem.W.Frag} {w : World} {vs : List V} {H : Hp} {Q : VK} {E : XK}
theorem vn_rf2 {M n : Nat} {D : PyData} (h : VN (n : Int) D) (hn : n ≤ M) (h1 : 1 ≤ M) : ∀ i, refOf D = some i → 0 ≤ i ∧ i < (M : Int) := fun i e => by
  have := h.ref i e
  omega
theorem run_l_change (h : sp_l_change K w vs H Q E) : t_l_change K w E (DQ Q) (start ns_l_change vs) H := by
  obtain ⟨d, r, po, dxo, tb, p, dx, lr, nr, wr, l, tab, nx, as, Rs, B, is, rfl, W, hl, hsub, hpos, hlen, h20, q⟩ := h
  have h1 : 1 ≤ nx := by omega
  have ltm : (is.map fun e => V.int (e.id : Int)).length = is.length := List.length_map _
  have hd : l ≠ d := by
    obtain ⟨_, _, e, _⟩ := id W.dr
    exact ne_of hl e (by intro z; cases z)
  refine ⟨_, rfl, _, rfl, d, rfl, r, W.dr, fun j G1 j0 D1 M1 => ?_⟩
  have W1 := W.kept (Kept.of_moved M1) D1
  have hl1 : G1 l = some (.lst (is.map fun e => V.int (e.id : Int))) := (M1 l hd).trans hl
  refine ⟨_, rfl, _, _, rfl, .inl ⟨_, SqL.of hl1, rfl⟩, ?_⟩
  rw [ltm]
  refine ⟨_, _, rfl, rfl, (by show (0 : Int) < (is.length : Int); omega), ?_⟩
  have tm := take_mod (j := j) (m := (is.length : Int)) (by omega)
  obtain ⟨n, hn⟩ : ∃ n : Nat, j % (is.length : Int) = (n : Int) := ⟨(j % (is.length : Int)).toNat, by omega⟩
  have hnl : n < is.length := by omega
  have hx0 : (is.map fun e => V.int (e.id : Int))[n]? = some (.int (is[n].id : Int)) := by rw [List.getElem?_map, List.getElem?_eq_getElem hnl]; rfl
  refine ⟨l, _, j % (is.length : Int), _, rfl, rfl, SqL.of hl1, (by rw [hn]; exact atI_nat hx0), ?_⟩
  have hei : is[n] ∈ is := List.getElem_mem hnl
  generalize is[n] = e at hei hx0 ⊢
  have he := hsub e hei
  have tl1 : TLK H G1 := TLK.kept W.dr (Kept.of_moved M1)
  have l7 := W.gd.le e he
  have nd := W.ob.nds e he
  have s4e : ∀ s ∈ e.sl, S4 nx s := W.gd.s4 e he
  refine ⟨_, rfl, d, rfl, r, D1, fun x G2 K2 A2 hx => ?_⟩
  have W2 := W1.kept K2 A2
  have tl2 := tl1.trans (TLK.kept D1 K2)
  have xo := K42.name_ok x hx
  have xn : Str.ofString x ∈ namesL := List.mem_cons_of_mem _ (List.mem_map.mpr ⟨x, hx, rfl⟩)
  refine ⟨_, rfl, po, dxo, _, rfl, W2.ob.ins, obF_no (by decide +kernel) (by decide +kernel), _, rfl, _, rfl, ?_⟩
  -- the ways on
  have dropit : ∀ (G : Hp) (v5 : V) (v6 : Option V), W7 K w G d r po dxo tb p dx lr nr wr tab nx nx as Rs B →
      TLK H G →
      (tSeq (tDrop (tMeth (He.ga K ("Objects" : Str)) ("drop" : Str) (sp_Objects_drop K) [] E (tVar 1) (tCons (tVar 3) (tCons (tVar 4) tNil))))
    (tRet (tTup (tCons (tVar 3) (tCons (tOp rNotN (tVar 5) (tC .non)) tNil))))) (DQ Q) [some (.ref d), some (.ref po), some (.ref l), some (.int (e.id : Int)), some (mS x), some v5, v6] G := fun G v5 v6 W tl => by
    refine ⟨_, rfl, po, dxo, _, rfl, W.ob.ins, obF_no (by decide +kernel) (by decide +kernel), _, rfl, _, rfl, ?_⟩
    refine ⟨po, dxo, tb, tab, nx, e, Str.ofString x, rfl, W.ob, he, fun g => ?_, fun _ G' ko O => ?_⟩
    · exact ⟨_, rfl, _, rfl, rfl, (by show 2 ≤ sizeLine; decide), fun p1 n1 => q e e.sl _ p1 _ hei (by rw [K42.setE_self W.ob.ord he]; exact W.same (same_upd n1)) upd_same (tl.trans (TLK.same (same_upd n1)))⟩
    · have W' := W.setE ko O (fun s hs => s4e s (List.mem_filter.mp hs).1) (dropS_nd _ nd)
      exact ⟨_, rfl, _, rfl, rfl, (by show 2 ≤ sizeLine; decide), fun p1 n1 => q e _ _ p1 _ hei (W'.same (same_upd n1)) upd_same ((tl.trans (tl_ko W ko)).trans (TLK.same (same_upd n1)))⟩
  have putit : ∀ (G : Hp) (v5 : V) (v6 : Option V), W7 K w G d r po dxo tb p dx lr nr wr tab nx nx as Rs B → TLK H G →
      (tSeq (tDrop (tMeth (He.ga K ("Objects" : Str)) ("put" : Str) (sp_Objects_put K) [] E (tVar 1) (tCons (tVar 3) (tCons (tVar 4) (tCons (tCall (sp_l_kind K) [] E (tCons (tVar 0) tNil)) (tCons (tCall (sp_l_value K) [] E (tCons (tVar 0) (tCons (tCB (rLen K) (tCons (tVar 2) tNil)) tNil))) tNil))))))
    (tRet (tTup (tCons (tVar 3) (tCons (tC (.bl true)) tNil))))) (DQ Q) [some (.ref d), some (.ref po), some (.ref l), some (.int (e.id : Int)), some (mS x), some v5, v6] G := fun G v5 v6 W tl => by
    have hl := tl.2 _ _ hl
    refine ⟨_, rfl, po, dxo, _, rfl, W.ob.ins, obF_no (by decide +kernel) (by decide +kernel), _, rfl, _, rfl, _, rfl, d, rfl, r, W.dr, fun kx G3 K3 A3 hkx => ?_⟩
    have W3 := W.kept K3 A3
    refine ⟨_, rfl, _, rfl, _, _, rfl, .inl ⟨_, SqL.of (K3 _ _ hd hl), rfl⟩, ?_⟩
    rw [ltm]
    refine ⟨d, (is.length : Int), rfl, r, A3, fun v D G4 K4 A4 tv vn => ?_⟩
    have W4 := W3.kept K4 A4
    refine ⟨po, dxo, tb, tab, nx, e, Str.ofString x, Str.ofString kx, v, D, rfl, W4.ob, he, tv, vn.ok, by omega, fun G5 ko O => ?_⟩
    have W5 := W4.setE ko O (fun s hs => by
      rcases putS_mem hs with hs | rfl
      · exact s4e s hs
      · exact ⟨⟨⟨xo, K42.kind_ok kx hkx, vn.g⟩, kx, hkx, rfl⟩, xn, vn.ok, vn_rf2 vn hlen h1⟩) (putS_nd _ nd)
    exact ⟨_, rfl, (by show 2 ≤ sizeLine; decide), fun p1 n1 => q e _ _ p1 _ hei (W5.same (same_upd n1)) upd_same ((((tl.trans (TLK.kept W.dr K3)).trans (TLK.kept A3 K4)).trans (tl_ko W4 ko)).trans (TLK.same (same_upd n1)))⟩
  refine ⟨po, dxo, tb, tab, nx, e, Str.ofString x, rfl, W2.ob, he, fun g => ?_, fun s0 qa v0 g hq tv0 => ?_⟩
  · refine ⟨_, rfl, d, rfl, r, A2, fun z G3 z0 A3 M3 => ⟨_, _, rfl, rfl, (by show (0 : Int) < 6; decide), ?_⟩⟩
    have W3 := W2.kept (Kept.of_moved M3) A3
    have tl3 := tl2.trans (TLK.kept A2 (Kept.of_moved M3))
    refine ⟨_, rfl, rfl, _, rfl, ite2 (fun _ => dropit G3 _ _ W3 tl3) (fun _ => ?_)⟩
    refine ⟨_, rfl, _, _, rfl, rfl, _, rfl, ite2 (fun _ => ?_) (fun _ => iteF (putit G3 _ _ W3 tl3))⟩
    refine ⟨_, rfl, rfl, _, rfl, ?_⟩
    exact iteF (iteF (putit G3 _ _ W3 tl3))
  · refine ⟨_, rfl, d, rfl, r, A2, fun z G3 z0 A3 M3 => ⟨_, _, rfl, rfl, (by show (0 : Int) < 6; decide), ?_⟩⟩
    have W3 := W2.kept (Kept.of_moved M3) A3
    have tl3 := tl2.trans (TLK.kept A2 (Kept.of_moved M3))
    have hq3 := W2.dr.tk (Kept.of_moved M3) _ _ hq
    refine ⟨_, rfl, rfl, _, rfl, ite2 (fun _ => dropit G3 _ _ W3 tl3) (fun _ => ?_)⟩
    refine ⟨_, rfl, _, _, rfl, rfl, _, rfl, ite2 (fun _ => ?_) (fun _ => iteF (putit G3 _ _ W3 tl3))⟩
    refine ⟨_, rfl, rfl, _, rfl, ?_⟩
    refine iteT ?_
    refine ⟨_, rfl, qa, _, _, _, rfl, rfl, SqT.of hq3, atI_nat (j := 0) rfl, (by show 2 ≤ sizeLine; decide), fun p2 n2 => ?_⟩
    have s3 := same_upd (o := .tup [V.str ("var" : Str), V.str ("varparent" : Str)]) n2
    have W4 := W3.same s3
    have tl4 := tl3.trans (TLK.same s3)
    have hq4 := s3 _ _ hq3
    refine ⟨_, _, rfl, .inr (SqT.of upd_same), rfl, (by decide +kernel), _, rfl, ?_⟩
    show (if inV (.str s0.kind) ([V.str ("var" : Str), V.str ("varparent" : Str)]) = true then _ else _)
    generalize (upd G3 p2 (.tup [V.str ("var" : Str), V.str ("varparent" : Str)])) = G4 at W4 tl4 hq4
    cases inV (.str s0.kind) ([V.str ("var" : Str), V.str ("varparent" : Str)]) with
    | false => exact iteF (putit _ _ _ W4 tl4)
    | true =>
      refine iteT ?_
      refine ⟨_, rfl, po, dxo, _, rfl, W4.ob.ins, obF_no (by decide +kernel) (by decide +kernel), _, rfl, _, rfl, _, rfl, _, rfl, _, _, rfl, .inl ⟨_, SqL.of (tl4.2 _ _ hl), rfl⟩, ?_⟩
      rw [ltm]
      refine ⟨d, (is.length : Int), rfl, r, W4.dr, fun v D G5 K5 A5 tv vn => ?_⟩
      have W5 := W4.kept K5 A5
      have hq5 := W4.dr.tk K5 _ _ hq4
      have sS := s4e s0 (getS_mem g).1
      refine ⟨po, dxo, tb, tab, nx, e, Str.ofString x, v, D, s0, rfl, W5.ob, he, tv, vn.ok, by omega, g, fun G6 ko O => ?_⟩
      have W6 := W5.setE ko O (fun s hs => by
        rcases putS_mem hs with hs | rfl
        · exact s4e s hs
        · exact ⟨⟨⟨xo, sS.ok.g.kd, vn.g⟩, sS.ok.kd⟩, xn, vn.ok, vn_rf2 vn hlen h1⟩) (putS_nd _ nd)
      have hq6 := W5.ob.tk ko _ _ hq5
      exact ⟨_, rfl, _, rfl, qa, _, _, _, rfl, rfl, SqT.of hq6, atI_nat (j := 0) rfl, rfl, (by show 2 ≤ sizeLine; decide), fun p1 n1 => q e _ _ p1 _ hei (W6.same (same_upd n1)) upd_same (((tl4.trans (TLK.kept W4.dr K5)).trans (tl_ko W5 ko)).trans (TLK.same (same_upd n1)))⟩
theorem run_l_var (h : sp_l_var K w vs H Q E) : t_l_var K w E (DQ Q) (start ns_l_var vs) H := by
  obtain ⟨d, r, po, dxo, tb, p, dx, lr, nr, wr, l, tab, nx, as, Rs, B, rfl, W, hl, h1, h20, q⟩ := h
  have lt := W.gd.len
  have ltm : (tab.map fun e => V.int (e.id : Int)).length = nx := by rw [List.length_map, lt]
  refine ⟨_, rfl, _, rfl, d, rfl, r, W.dr, fun j G1 j0 D1 M1 => ?_⟩
  have W1 := W.kept (Kept.of_moved M1) D1
  have tl1 : TLK H G1 := TLK.kept W.dr (Kept.of_moved M1)
  have hl1 := tl1.2 _ _ hl
  refine ⟨_, rfl, _, _, rfl, .inl ⟨_, SqL.of hl1, rfl⟩, ?_⟩
  rw [ltm]
  refine ⟨_, _, rfl, rfl, (by show (0 : Int) < (nx : Int); omega), ?_⟩
  have tm := take_mod (j := j) (m := (nx : Int)) (by omega)
  obtain ⟨n, hn⟩ : ∃ n : Nat, j % (nx : Int) = (n : Int) := ⟨(j % (nx : Int)).toNat, by omega⟩
  have hnl : n < tab.length := by omega
  have hx0 : (tab.map fun e => V.int (e.id : Int))[n]? = some (.int (tab[n].id : Int)) := by rw [List.getElem?_map, List.getElem?_eq_getElem hnl]; rfl
  refine ⟨l, _, j % (nx : Int), _, rfl, rfl, SqL.of hl1, (by rw [hn]; exact atI_nat hx0), ?_⟩
  have he : tab[n] ∈ tab := List.getElem_mem hnl
  generalize tab[n] = e at he hx0 ⊢
  have l7 := W.gd.le e he
  have nd := W.ob.nds e he
  have s4e : ∀ s ∈ e.sl, S4 nx s := W.gd.s4 e he
  refine ⟨_, rfl, po, dxo, _, rfl, W1.ob.ins, obF_no (by decide +kernel) (by decide +kernel), _, rfl, po, dxo, tb, tab, nx, e, rfl, W1.ob, he, by omega, fun a G2 s2 t2 => ?_⟩
  have W2 := W1.same s2
  have tl2 := tl1.trans (TLK.same s2)
  obtain ⟨us, hu, tr⟩ := sls_open t2
  have lu := tr.len
  refine ⟨a, rfl, ⟨_, SqT.of hu⟩, ?_⟩
  refine for_it (walk_tup (xs := us)) (fun i σ G => ∃ (v4 v5 v6 : Option V) (sl : List Sl), σ = [some (.ref d), some (.ref po), some (.ref l), some (.int (e.id : Int)), v4, v5, v6] ∧ W7 K w G d r po dxo tb p dx lr nr wr (setE tab e.id sl) nx nx as Rs B ∧ sl.map vz = e.sl.map vz ∧ TLK G2 G) ⟨_, _, _, e.sl, rfl, (by rw [K42.setE_self W2.ob.ord he]; exact W2), rfl, TLK.refl _⟩ (fun i σ G _ ⟨_, _, _, _, _, _, _, k1⟩ => SqT.of (k1.1 _ _ hu)) ?_ ?_
  · rintro i x σ G G' hi ⟨v4, v5, v6, sl, rfl, W, hv, tl⟩ ⟨rfl, hx⟩
    obtain ⟨s, t1, v, es, rfl, ht, tv⟩ := tr.at_ i hx
    have hs := List.mem_of_getElem? es
    refine ⟨t1, _, rfl, SqT.of (tl.1 _ _ ht), rfl, _, _, rfl, _, _, rfl, _, _, rfl, rfl, ?_⟩
    refine ⟨_, rfl, rfl, _, rfl, ite2 (fun c => ?_) (fun _ => ⟨_, _, _, sl, rfl, W, hv, tl⟩)⟩
    have c : s.kind = ("var" : Str) := V.str.inj (of_decide_eq_true c)
    obtain ⟨s', g, gk⟩ := get_vz hv.symm (getS_at nd hs)
    have hl3 := tl.2 _ _ (tl2.2 _ _ hl)
    refine ⟨_, rfl, po, dxo, _, rfl, W.ob.ins, obF_no (by decide +kernel) (by decide +kernel), _, rfl, _, rfl, _, rfl, _, rfl, _, _, rfl, .inl ⟨_, SqL.of hl3, rfl⟩, ?_⟩
    rw [ltm]
    refine ⟨d, (nx : Int), rfl, r, W.dr, fun v' D G4 K4 A4 tv' vn => ?_⟩
    have W4 := W.kept K4 A4
    have hm := mem_setE he sl
    have l7' := W4.gd.le _ hm
    have sS := W4.gd.s4 _ hm s' (getS_mem g).1
    have sn := s4e s hs
    refine ⟨po, dxo, tb, setE tab e.id sl, nx, ⟨e.id, e.at_, sl⟩, s.name, v', D, s', rfl, W4.ob, hm, tv', vn.ok, (by show sl.length ≤ 1000000; have : sl.length ≤ 7 := l7'; omega), g, fun G5 ko O => ?_⟩
    have W5 := W4.setE (e := ⟨e.id, e.at_, sl⟩) ko O (fun t ht => by
      rcases putS_mem ht with ht | rfl
      · exact W4.gd.s4 _ hm t ht
      · exact ⟨⟨⟨sn.ok.g.nm, sS.ok.g.kd, vn.g⟩, sS.ok.kd⟩, sn.nm, vn.ok, vn_rf vn rfl h1⟩) (putS_nd _ (W4.ob.nds _ hm))
    rw [show (⟨e.id, e.at_, sl⟩ : En).id = e.id from rfl, setE_setE] at W5
    exact ⟨_, _, _, _, rfl, W5, (put_vz g (gk.trans c)).trans hv, (tl.trans (TLK.kept W.dr K4)).trans (tl_ko W4 ko)⟩
  · rintro σ G ⟨v4, v5, v6, sl, rfl, W, hv, tl⟩
    exact q e sl G he hv W (tl2.trans tl)
theorem ids_map {tab : List En} {nx M : Nat} (g : Gd tab nx M) : tab.map (fun e => V.int (e.id : Int)) = (List.range nx).map fun (i : Nat) => V.int (i : Int) := by
  rw [← g.ids, List.map_map]
  rfl
theorem pick_ids {tab : List En} : ∀ {L : List Int}, (∀ i ∈ L, isId tab i) → ∃ is : List En, (∀ e ∈ is, e ∈ tab) ∧ is.map (fun e => V.int (e.id : Int)) = L.map V.int ∧ is.length = L.length ∧ ∀ e ∈ is, (e.id : Int) ∈ L
  | [], _ => ⟨[], (fun e he => by cases he), rfl, rfl, fun e he => by cases he⟩
  | i :: L, h => by
    obtain ⟨e, he, ei⟩ := h i List.mem_cons_self
    obtain ⟨is, a, b, c, d⟩ := pick_ids fun j hj => h j (List.mem_cons_of_mem _ hj)
    refine ⟨e :: is, fun z hz => ?_, by rw [List.map_cons, List.map_cons, b, ei], by simp [c], fun z hz => ?_⟩
    · rcases List.mem_cons.mp hz with rfl | hz
      · exact he
      · exact a z hz
    · rcases List.mem_cons.mp hz with rfl | hz
      · rw [ei]
        exact List.mem_cons_self
      · exact List.mem_cons_of_mem _ (d z hz)
theorem ans_agr {tab tab' : List En} {nx : Nat} {x : Str} {e : En} (o : tab.Pairwise fun a b => a.id < b.id) (gd : Gd tab nx nx) (h20 : nx ≤ 20) (he : e ∈ tab) (h : ∀ i ∈ rstF tab x e.sl, Agr tab tab' x i) : ansD tab' x e.sl = ansD tab x e.sl := by
  unfold ansD
  by_cases c : placeF e.sl x 0 ≥ 0
  · rw [if_pos c, if_pos c]
  · rw [if_neg c, if_neg c]
    have g : getS e.sl x = none := by
      cases z : getS e.sl x with
      | none => rfl
      | some s => exact absurd (place_some (by omega) z) c
    refine thr_congr fun i hi => h i ?_
    unfold rstF
    rw [g]
    rw [reach_rest o gd h20 (K44.par_ids gd he) (Nat.le_trans (parS_le _) (gd.le e he))] at hi
    exact hi
/-- what is known of the question while the objects change -/
structure Qs (K : PySem.W.Frag) (w : World) (G : Hp) (d r po dxo tb p dx lr nr wr l D qk qa : Addr) (tab0 tab : List En) (nx : Nat) (as : List Addr) (Rs : List PyData) (B : Nat) (ja : Nat) (x : Str) (ea : En) (oi : List Int) : Prop where
  W : W7 K w G d r po dxo tb p dx lr nr wr tab nx nx as Rs B
  hl : G l = some (.lst ((List.range nx).map fun (i : Nat) => V.int (i : Int)))
  hD : G D = some (.lst (oi.map V.int))
  key : Tr G (.ref qk) (K44.keyD ja x ea.sl)
  ans : Tr G (.ref qa) (ansD tab0 x ea.sl)
  row : Rs[ja]? = some (rowD ea.sl)
  agr : ∀ i ∈ rstF tab0 x ea.sl, Agr tab0 tab x i
  nl : l ≠ lr ∧ l ≠ nr
  nD : D ≠ lr ∧ D ≠ nr
theorem Qs.tl {G G' : Hp} {d r po dxo tb p dx lr nr wr l D qk qa : Addr} {tab0 tab tab' : List En} {nx : Nat} {as : List Addr} {Rs : List PyData} {B ja : Nat} {x : Str} {ea : En} {oi : List Int} (S : Qs K w G d r po dxo tb p dx lr nr wr l D qk qa tab0 tab nx as Rs B ja x ea oi) (t : TLK G G') (W : W7 K w G' d r po dxo tb p dx lr nr wr tab' nx nx as Rs B) (ag : ∀ i ∈ rstF tab0 x ea.sl, Agr tab tab' x i) : Qs K w G' d r po dxo tb p dx lr nr wr l D qk qa tab0 tab' nx as Rs B ja x ea oi :=
  ⟨W, t.2 _ _ S.hl, t.2 _ _ S.hD, S.key.keep t.1, S.ans.keep t.1, S.row, fun i hi => (S.agr i hi).trans (ag i hi), S.nl, S.nD⟩
theorem Qs.shp {G G' : Hp} {d r po dxo tb p dx lr nr wr l D qk qa : Addr} {tab0 tab : List En} {nx : Nat} {as as' : List Addr} {Rs Rs' : List PyData} {B B' ja : Nat} {x : Str} {ea : En} {oi : List Int} (S : Qs K w G d r po dxo tb p dx lr nr wr l D qk qa tab0 tab nx as Rs B ja x ea oi) (k : KS lr nr G G') (W : W7 K w G' d r po dxo tb p dx lr nr wr tab nx nx as' Rs' B') (mo : Mono Rs Rs') : Qs K w G' d r po dxo tb p dx lr nr wr l D qk qa tab0 tab nx as' Rs' B' ja x ea oi :=
  ⟨W, k _ _ S.nl.1 S.nl.2 S.hl, k _ _ S.nD.1 S.nD.2 S.hD, S.key.keep (S.W.sh.ks k), S.ans.keep (S.W.sh.ks k), mo _ _ S.row, S.agr, S.nl, S.nD⟩
theorem Qs.mono {G : Hp} {d r po dxo tb p dx lr nr wr l D qk qa : Addr} {tab0 tab : List En} {nx : Nat} {as : List Addr} {Rs : List PyData} {B C ja : Nat} {x : Str} {ea : En} {oi : List Int} (S : Qs K w G d r po dxo tb p dx lr nr wr l D qk qa tab0 tab nx as Rs B ja x ea oi) (h : B ≤ C) : Qs K w G d r po dxo tb p dx lr nr wr l D qk qa tab0 tab nx as Rs C ja x ea oi :=
  ⟨S.W.mono h, S.hl, S.hD, S.key, S.ans, S.row, S.agr, S.nl, S.nD⟩
theorem Qs.same {G G' : Hp} {d r po dxo tb p dx lr nr wr l D qk qa : Addr} {tab0 tab : List En} {nx : Nat} {as : List Addr} {Rs : List PyData} {B ja : Nat} {x : Str} {ea : En} {oi : List Int} (S : Qs K w G d r po dxo tb p dx lr nr wr l D qk qa tab0 tab nx as Rs B ja x ea oi) (s : Same G G') : Qs K w G' d r po dxo tb p dx lr nr wr l D qk qa tab0 tab nx as Rs B ja x ea oi :=
  S.tl (TLK.same s) (S.W.same s) fun i _ => Agr.refl _ _ i
def tChk (K : PySem.W.Frag) (w : World) (E : XK) : TS :=
    (tFor (iList K (tVar 3)) (gName 9)
      (tIfS (tAnd (tTest (tOp (rEqD K) (tCall (sp_key_of K w) [] E (tCons (tVar 1) (tCons (tVar 2) (tCons (tVar 5) (tCons (tVar 9) tNil))))) (tVar 6))) (tTest (tOp (rNeD K) (tCall (sp_l_answer K) [] E (tCons (tVar 1) (tCons (tVar 9) (tCons (tVar 5) tNil)))) (tVar 7))))
      (tRet (tC (.bl false)))
      tNext))
theorem chk_ok {G : Hp} {d r po dxo tb p dx lr nr wr l D qk qa : Addr} {tab0 tab : List En} {nx : Nat} {as : List Addr} {Rs : List PyData} {B ja : Nat} {x : Str} {ea : En} {oi : List Int} {Dn : Ends} {v0 v4 v8 v9 v10 v11 : Option V} (S : Qs K w G d r po dxo tb p dx lr nr wr l D qk qa tab0 tab nx as Rs B ja x ea oi) (h20 : nx ≤ 20) (hB : B ≤ 4000)
    (o0 : tab0.Pairwise fun a b => a.id < b.id) (gd0 : Gd tab0 nx nx) (hea : ea ∈ tab0)
    (fin : ∀ (as : List Addr) (Rs : List PyData) (G : Hp) (v9 : Option V), Qs K w G d r po dxo tb p dx lr nr wr l D qk qa tab0 tab nx as Rs (B + 20) ja x ea oi → Dn.nx [v0, some (.ref po), some (.ref p), some (.ref l), v4, some (.str x), some (.ref qk), some (.ref qa), v8, v9, v10, v11] G) :
    tChk K w E Dn [v0, some (.ref po), some (.ref p), some (.ref l), v4, some (.str x), some (.ref qk), some (.ref qa), v8, v9, v10, v11] G := by
  have za : ∀ s ∈ ea.sl, SG s := fun s hs => (gd0.s4 ea hea s hs).ok.g
  refine ⟨_, rfl, l, rfl, ⟨_, SqL.of S.hl⟩, ?_⟩
  refine for_it (walk_list (xs := (List.range nx).map fun (i : Nat) => V.int (i : Int))) (fun i σ G => ∃ (v9 : Option V) (as : List Addr) (Rs : List PyData), σ = [v0, some (.ref po), some (.ref p), some (.ref l), v4, some (.str x), some (.ref qk), some (.ref qa), v8, v9, v10, v11] ∧ Qs K w G d r po dxo tb p dx lr nr wr l D qk qa tab0 tab nx as Rs (B + i) ja x ea oi) ⟨_, _, _, rfl, S⟩ (fun i σ G _ ⟨_, _, _, _, g⟩ => SqL.of g.hl) ?_ ?_
  · rintro i y σ G G' hi ⟨v9, as, Rs, rfl, S⟩ ⟨rfl, hx⟩
    have hin : i < nx := by simpa using hi
    rw [← ids_map S.W.gd, List.getElem?_map] at hx
    obtain ⟨e, hee, rfl⟩ := Option.map_eq_some_iff.mp hx
    have he := List.mem_of_getElem? hee
    refine ⟨_, rfl, _, rfl, _, rfl, _, rfl, d, r, po, dxo, tb, p, dx, lr, nr, wr, tab, nx, nx, as, Rs, B + i, e, x, rfl, S.W, he, by omega, fun as2 Rs2 j2 q2 G2 k2 W2 mo2 hj2 t2 => ?_⟩
    have S2 := S.shp k2 W2 mo2
    have ka := key_ok (fun s hs => (S.W.gd.s4 e he s hs).ok.g) j2 x
    have kb := key_ok za ja x
    refine ⟨_, rfl, _, _, t2.dp, S2.key.dp, ka.2, kb.2, _, rfl, ite2 (fun c => ?_) (fun _ => iteF ⟨_, as2, Rs2, rfl, S2⟩)⟩
    have ek := eqv_eq _ _ ka.1 kb.1 c
    have z1 := (keys_eq (tab := tab) hj2 S2.row ek).1
    have z2 := ans_agr o0 gd0 h20 hea S2.agr
    refine ⟨_, rfl, _, rfl, _, rfl, po, dxo, tb, tab, nx, e, x, rfl, S2.W.ob, he, S2.W.gd, fun q3 G3 s3 t3 => ?_⟩
    have S3 := S2.same s3
    refine ⟨_, rfl, _, _, t3.dp, S3.ans.dp, ans_sh _ _ _, ans_sh _ _ _, _, rfl, ?_⟩
    rw [z1, z2, SeqAt.eqv_refl _ (SeqAt.canLay_of_shaped (ans_sh _ _ _))]
    exact iteF ⟨_, as2, Rs2, rfl, S3⟩
  · rintro σ G ⟨v9, as, Rs, rfl, S⟩
    rw [List.length_map, List.length_range] at S
    exact fin as Rs G v9 (S.mono (by omega))
theorem run_l_question (h : sp_l_question K w vs H Q E) : t_l_question K w E (DQ Q) (start ns_l_question vs) H := by
  obtain ⟨d, r, po, dxo, tb, p, dx, lr, nr, wr, tab, nx, as, Rs, B, rfl, W, h1, h20, hB, q⟩ := h
  have lt := W.gd.len
  have ltm : (tab.map fun e => V.int (e.id : Int)).length = nx := by rw [List.length_map, lt]
  refine ⟨_, rfl, po, dxo, _, rfl, W.ob.ins, obF_no (by decide +kernel) (by decide +kernel), po, dxo, tb, tab, nx, rfl, W.ob, fun l G1 s1 n1 g1 => ?_⟩
  obtain ⟨l1, l2, l3⟩ := none_nr W n1
  have W1 := W.same s1
  refine ⟨_, rfl, _, rfl, d, rfl, r, W1.dr, fun j G2 j0 D2 M2 => ?_⟩
  have W2 := W1.kept (Kept.of_moved M2) D2
  have g2 := (TLK.kept W1.dr (Kept.of_moved M2)).2 _ _ g1
  refine ⟨_, rfl, _, _, rfl, .inl ⟨_, SqL.of g2, rfl⟩, ?_⟩
  rw [ltm]
  refine ⟨_, _, rfl, rfl, (by show (0 : Int) < (nx : Int); omega), ?_⟩
  have tm := take_mod (j := j) (m := (nx : Int)) (by omega)
  obtain ⟨n, hn⟩ : ∃ n : Nat, j % (nx : Int) = (n : Int) := ⟨(j % (nx : Int)).toNat, by omega⟩
  have hnl : n < tab.length := by omega
  have hx0 : (tab.map fun e => V.int (e.id : Int))[n]? = some (.int (tab[n].id : Int)) := by rw [List.getElem?_map, List.getElem?_eq_getElem hnl]; rfl
  refine ⟨l, _, j % (nx : Int), _, rfl, rfl, SqL.of g2, (by rw [hn]; exact atI_nat hx0), ?_⟩
  have hea : tab[n] ∈ tab := List.getElem_mem hnl
  generalize tab[n] = ea at hea hx0 ⊢
  refine ⟨_, rfl, d, rfl, r, D2, fun xn G3 K3 A3 hxn => ?_⟩
  have W3 := W2.kept K3 A3
  have g3 := (TLK.kept D2 K3).2 _ _ g2
  show _
  have ex : mS xn = V.str (Str.ofString xn) := rfl
  refine ⟨_, rfl, _, rfl, _, rfl, _, rfl, d, r, po, dxo, tb, p, dx, lr, nr, wr, tab, nx, nx, as, Rs, B, ea, Str.ofString xn, rfl, W3, hea, by omega, fun as4 Rs4 ja qk G4 k4 W4 mo4 hja tk4 => ?_⟩
  have g4 := k4 _ _ l1 l2 g3
  refine ⟨_, rfl, _, rfl, _, rfl, po, dxo, tb, tab, nx, ea, Str.ofString xn, rfl, W4.ob, hea, W4.gd, fun qa G5 s5 ta => ?_⟩
  have W5 := W4.same s5
  refine ⟨_, rfl, _, rfl, _, rfl, po, dxo, tb, tab, nx, ea, Str.ofString xn, rfl, W5.ob, hea, W5.gd, h20, fun qr G6 s6 gr => ?_⟩
  have W6 := W5.same s6
  have g6 := s6 _ _ (s5 _ _ g4)
  have tk6 := (tk4.keep fun b xs z => s5 b _ z).keep fun b xs z => s6 b _ z
  have ta6 := ta.keep fun b xs z => s6 b _ z
  refine ⟨_, rfl, l, rfl, ⟨_, SqL.of g6⟩, ?_⟩
  intro D nD
  obtain ⟨d1, d2, d3⟩ := none_nr W6 nD
  have rs : ∃ rs, rs = rstF tab (Str.ofString xn) ea.sl := ⟨_, rfl⟩
  refine lc_list (xs := tab.map fun e => V.int (e.id : Int)) (fun k G => ∃ oi : List Int, Same G6 G ∧ G D = some (.lst (oi.map V.int)) ∧ oi.length ≤ k ∧ ∀ i ∈ oi, isId tab i ∧ i ∉ rstF tab (Str.ofString xn) ea.sl) ⟨[], same_upd nD, upd_same, Nat.le_refl _, fun i hi => by cases hi⟩ (fun i G _ z => by
    obtain ⟨_, s, _⟩ := z
    exact SqL.of (s _ _ g6)) ?_ ?_
  · rintro k y G hy ⟨oi, sG, gD, lo, ho⟩
    rw [List.getElem?_map] at hy
    obtain ⟨e, he, rfl⟩ := Option.map_eq_some_iff.mp hy
    have kl := (List.getElem?_eq_some_iff.mp he).1
    refine ⟨rfl, _, rfl, _, rfl, qr, _, rfl, .inl (SqL.of (sG _ _ gr)), rfl, flat_ints _, _, rfl, ?_⟩
    show (if (!inV (.int (e.id : Int)) ((rstF tab (Str.ofString xn) ea.sl).map V.int)) = true then _ else _)
    rw [inV_ints]
    by_cases c : (e.id : Int) ∈ rstF tab (Str.ofString xn) ea.sl
    · rw [decide_eq_true c]
      exact iteF ⟨oi, sG, gD, by omega, ho⟩
    · rw [decide_eq_false c]
      refine iteT ⟨_, rfl, _, gD, Nat.lt_of_le_of_lt (show (oi.map V.int).length ≤ 100 by rw [List.length_map]; omega) (by decide), oi ++ [(e.id : Int)], fun b u z => ?_, by rw [upd_same, List.map_append]; rfl, by simp; omega, fun i hi => ?_⟩
      · rw [upd_ne (ne_of_none z nD)]
        exact sG b u z
      · rcases List.mem_append.mp hi with hi | hi
        · exact ho i hi
        · rw [List.mem_singleton.mp hi]
          exact ⟨⟨e, List.mem_of_getElem? he, rfl⟩, c⟩
  · rintro G ⟨oi, sG, gD, lo, ho⟩
    rw [ltm] at lo
    have W7' := W6.same sG
    have S0 : Qs K w G d r po dxo tb p dx lr nr wr l D qk qa tab tab nx as4 Rs4 (B + 1) ja (Str.ofString xn) ea oi := ⟨W7', (by rw [← ids_map W.gd]; exact sG _ _ g6), gD, tk6.keep fun b xs z => sG b _ z, ta6.keep fun b xs z => sG b _ z, hja, fun i _ => Agr.refl _ _ i, ⟨l1, l2⟩, ⟨d1, d2⟩⟩
    refine ⟨8, rfl, by decide, by decide, ?_⟩
    refine for_range (lo := 0) (n := 8) (fun k σ G => ∃ (v9 v11 : Option V) (tab' : List En) (as : List Addr) (Rs : List PyData), σ = [some (.ref d), some (.ref po), some (.ref p), some (.ref l), some (.int (ea.id : Int)), some (.str (Str.ofString xn)), some (.ref qk), some (.ref qa), some (.ref qr), v9, some (.ref D), v11] ∧ Qs K w G d r po dxo tb p dx lr nr wr l D qk qa tab tab' nx as Rs (B + 1 + 20 * k) ja (Str.ofString xn) ea oi) ⟨_, _, _, _, _, rfl, S0⟩ ?_ ?_
    · rintro k σ G hk ⟨v9, v11, tab', as, Rs, rfl, S⟩
      refine ⟨_, rfl, (by show 0 ≤ sizeLine; decide), fun e1 n1 => ?_⟩
      have s3 := same_upd (o := .lst []) n1
      refine ⟨_, _, ints_dp (s3 _ _ S.hD), ints_dp (L := []) upd_same, ints_sh oi, ints_sh [], _, rfl, ?_⟩
      rw [ints_eqv]
      have S1 := S.same s3
      generalize (upd G e1 (.lst [])) = G2 at S1
      -- behind the change
      have aft : ∀ (G : Hp) (tab' : List En) (as : List Addr) (Rs : List PyData) (v9 v11 : Option V) (Dn : Ends), Qs K w G d r po dxo tb p dx lr nr wr l D qk qa tab tab' nx as Rs (B + 1 + 20 * k) ja (Str.ofString xn) ea oi →
          (∀ (as : List Addr) (Rs : List PyData) (G : Hp) (v9 : Option V), Qs K w G d r po dxo tb p dx lr nr wr l D qk qa tab tab' nx as Rs (B + 1 + 20 * (k + 1)) ja (Str.ofString xn) ea oi → Dn.nx [some (.ref d), some (.ref po), some (.ref p), some (.ref l), some (.int (ea.id : Int)), some (.str (Str.ofString xn)), some (.ref qk), some (.ref qa), some (.ref qr), v9, some (.ref D), v11] G) →
          tChk K w E Dn [some (.ref d), some (.ref po), some (.ref p), some (.ref l), some (.int (ea.id : Int)), some (.str (Str.ofString xn)), some (.ref qk), some (.ref qa), some (.ref qr), v9, some (.ref D), v11] G := fun G tab' as Rs v9 v11 Dn S f =>
        chk_ok S h20 (by omega) W.ob.ord W.gd hea fun as Rs G v9 S => f as Rs G v9 (S.mono (by omega))
      by_cases c : oi = []
      · rw [decide_eq_true c]
        refine iteT (iteT ?_)
        refine ⟨_, rfl, _, rfl, _, rfl, d, r, po, dxo, tb, p, dx, lr, nr, wr, l, tab', nx, as, Rs, _, rfl, S1.W, (by rw [ids_map S1.W.gd]; exact S1.hl), h1, h20, fun e sl G3 he hv W3 tl => ?_⟩
        exact aft _ _ _ _ _ _ _ (S1.tl tl W3 fun i _ => agr_var S1.W.ob.ord he hv i) fun as Rs G v9 S => ⟨_, _, _, _, _, rfl, S⟩
      · rw [decide_eq_false c]
        refine iteF ?_
        refine ⟨_, rfl, d, rfl, r, S1.W.dr, fun j G3 j0 D3 M3 => ⟨_, _, rfl, rfl, (by show (0 : Int) < 4; decide), rfl, _, rfl, ?_⟩⟩
        have S2 := S1.tl (TLK.kept S1.W.dr (Kept.of_moved M3)) (S1.W.kept (Kept.of_moved M3) D3) fun i _ => Agr.refl _ _ i
        refine ite2 (fun _ => ?_) (fun _ => ?_)
        · refine ⟨_, rfl, _, rfl, _, rfl, d, r, po, dxo, tb, p, dx, lr, nr, wr, l, tab', nx, as, Rs, _, rfl, S2.W, (by rw [ids_map S2.W.gd]; exact S2.hl), h1, h20, fun e sl G4 he hv W4 tl => ?_⟩
          exact aft _ _ _ _ _ _ _ (S2.tl tl W4 fun i _ => agr_var S2.W.ob.ord he hv i) fun as Rs G v9 S => ⟨_, _, _, _, _, rfl, S⟩
        · have idt : ∀ i ∈ oi, isId tab' i := fun i hi => by
            obtain ⟨e, he, ei⟩ := (ho i hi).1
            have a : e.id ∈ tab.map (·.id) := List.mem_map.mpr ⟨e, he, rfl⟩
            rw [W.gd.ids, ← S2.W.gd.ids] at a
            obtain ⟨e', h', ee⟩ := List.mem_map.mp a
            exact ⟨e', h', by rw [← ei, ee]⟩
          obtain ⟨is, i1, i2, i3, i4⟩ := pick_ids idt
          have hpos : 1 ≤ oi.length := List.length_pos_iff.mpr c
          refine ⟨_, rfl, _, rfl, _, rfl, d, r, po, dxo, tb, p, dx, lr, nr, wr, D, tab', nx, as, Rs, _, is, rfl, S2.W, (by rw [i2]; exact S2.hD), i1, by omega, by omega, h20, fun e sl b q4 G4 hei W4 _ tl => ?_⟩
          refine aft _ _ _ _ _ _ _ (S2.tl tl W4 fun i hi => agr_other fun z => ?_) fun as Rs G v9 S => ⟨_, _, _, _, _, rfl, S⟩
          rw [z] at hi
          exact (ho _ (i4 e hei)).2 hi
    · rintro σ G ⟨v9, v11, tab', as, Rs, rfl, S⟩
      exact q tab' as Rs G (S.W.mono (by omega))
theorem run_law (C : ShK K) (h : sp_law K vs H Q E) : t_law K w E (DQ Q) (start ns_law vs) H := by
  obtain ⟨a, ns, rfl, hS, hl, q⟩ := h
  refine ⟨_, rfl, a, ns, rfl, hS, hl, fun d r H0 s0 nd0 nr0 D0 => ?_⟩
  refine ⟨3, rfl, by decide, by decide, ?_⟩
  refine for_range (lo := 0) (n := 3) (fun k0 σ G => ∃ (v2 v3 v4 v5 : Option V), σ = [some (.ref a), some (.ref d), v2, v3, v4, v5] ∧ Dr G d r) ⟨_, _, _, _, rfl, D0⟩ ?_ ?_
  · rintro k0 σ H1 hk0 ⟨v2, v3, v4, v5, rfl, D1⟩
    intro po dxo npo ndxo nxpo
    have S1 : Same H1 (upd (upd H1 dxo (.own po)) po (.ins (OC K) dxo [])) := fun b u z => by
      rw [upd_ne (ne_of_none z npo), upd_ne (ne_of_none z ndxo)]
      exact z
    have D1' := D1.same S1
    have dpo : d ≠ po := D1.neD npo
    have rpo : r ≠ po := D1.neR npo
    refine ⟨po, dxo, rfl, upd_same, fun tb o0 H2 k2 ntb no0 O2 => ⟨rfl, ?_⟩⟩
    have D2 : Dr H2 d r := D1'.keep fun b o h e => k2 b o (by rcases h with rfl | rfl; exact dpo; exact rpo) e
    have dtb : d ≠ tb := D1'.neD ntb
    have do0 : d ≠ o0 := D1'.neD no0
    intro p dx np ndx nxp
    have S2 : Same H2 (upd (upd H2 dx (.own p)) p (.ins (ShC K) dx [])) := fun b u z => by
      rw [upd_ne (ne_of_none z np), upd_ne (ne_of_none z ndx)]
      exact z
    have D2' := D2.same S2
    have O2' := O2.same S2
    have dp : d ≠ p := D2.neD np
    have rp : r ≠ p := D2.neR np
    have pop : po ≠ p := ne_of_none O2.ins np
    refine ⟨p, dx, rfl, upd_same, fun lr nr wr q0 H3 k3 nlr nnr nwr Sc => ⟨rfl, ?_⟩⟩
    have D3 : Dr H3 d r := D2'.keep fun b o h e => k3 b o (by rcases h with rfl | rfl; exact dp; exact rp) e
    have tk3 : TK (upd (upd H2 dx (.own p)) p (.ins (ShC K) dx [])) H3 := fun b xs e => k3 b _ (ne_of e upd_same (by intro z; cases z)) e
    have O3 : Ob K H3 po dxo tb [⟨0, o0, [lobbyS]⟩] 1 := K42.ob_upto (X := fun b => b = p) O2' k3 pop (ne_of_none O2.tbl np) (fun e he => by
      obtain ⟨kvs, e2, _⟩ := O2.ent e he
      exact ne_of_none e2 np) tk3
    have rlr : r ≠ lr := D2'.neR nlr
    -- the world
    refine ⟨_, rfl, _, rfl, _, rfl, d, rfl, r, D3, fun j H4 j0 D4 M4 => ⟨_, _, rfl, rfl, (by show (0 : Int) < 7; decide), _, _, rfl, rfl, ?_⟩⟩
    have tm := take_mod (j := j) (m := 7) (by decide)
    obtain ⟨m, hm⟩ : ∃ n : Nat, 2 + j % 7 = (n : Int) := ⟨(2 + j % 7).toNat, by omega⟩
    have gd0 : Gd [⟨0, o0, [lobbyS]⟩] 1 (m + 1) := ⟨fun e he s hs => by
      rw [List.mem_singleton.mp he] at hs
      rw [List.mem_singleton.mp hs]
      exact lobby_s4 (by omega), fun e he => by
      rw [List.mem_singleton.mp he]
      show 1 ≤ 7
      decide, rfl⟩
    have W3 : W7 K w H3 d r po dxo tb p dx lr nr wr [⟨0, o0, [lobbyS]⟩] 1 (m + 1) [q0] [rowD []] 1 := ⟨D3, O3, Sc, gd0, Nat.le_refl _, dtb, (fun e he => by rw [List.mem_singleton.mp he]; exact do0), pop, rlr⟩
    have W4 := W3.kept (Kept.of_moved M4) D4
    refine ⟨d, r, po, dxo, tb, p, dx, lr, nr, wr, _, m, m + 1, _, _, 1, (by show [V.ref d, V.ref po, V.int (2 + j % 7)] = _; rw [hm]), W4, rfl, by omega, fun tab5 H5 W5 => ?_⟩
    have h1 : 1 ≤ m + 1 := by omega
    have h20 : m + 1 ≤ 20 := by omega
    generalize m + 1 = nx at W5 h1 h20
    refine ⟨3, rfl, by decide, by decide, ?_⟩
    refine for_range (lo := 0) (n := 3) (fun k σ G => ∃ (v5 : Option V) (tab : List En) (as : List Addr) (Rs : List PyData), σ = [some (.ref a), some (.ref d), some (.int (0 + (k0 : Int))), some (.ref po), some (.ref p), v5] ∧ W7 K w G d r po dxo tb p dx lr nr wr tab nx nx as Rs (1 + 400 * k)) ⟨_, _, _, _, rfl, W5⟩ ?_ ?_
    · rintro k σ G hk ⟨v5, tab, as, Rs, rfl, W⟩
      exact ⟨_, rfl, _, rfl, _, rfl, d, r, po, dxo, tb, p, dx, lr, nr, wr, tab, nx, as, Rs, _, rfl, W, h1, h20, by omega, fun tab2 as2 Rs2 G2 W2 => ⟨_, rfl, iteF ⟨_, tab2, as2, Rs2, rfl, W2.mono (by omega)⟩⟩⟩
    · rintro σ G ⟨v5, tab, as, Rs, rfl, W⟩
      exact ⟨_, _, _, _, rfl, W.dr⟩
  · rintro σ G ⟨v2, v3, v4, v5, rfl, _⟩
    exact q G
end
end Rm.U.K44.K45

namespace Rm.U.K44.K45.W45
open PySem PySem.Spec PyProof.Rows L2 Rm
def top (i : Nat) : Stmt := PySem.Challenge.pw_reaimed_k45_only_what_is_rested_on_matte.main.body.getD i (.Pass ⟨0, 0, 0, 0⟩)
abbrev s_fixed_value : Stmt := top 15
theorem sc_fixed_value : FnScope ns_fixed_value ["kind", "value"] (defScope s_fixed_value) := ⟨rfl, rfl, rfl, by decide +kernel, rfl, by decide +kernel, by decide +kernel⟩
abbrev s_row_of : Stmt := top 14
theorem sc_row_of : FnScope ns_row_of ["slots"] (defScope s_row_of) := ⟨rfl, rfl, rfl, by decide +kernel, rfl, by decide +kernel, by decide +kernel⟩
abbrev s_Shapes_number_of : Stmt := inClass (top 16) 2
theorem sc_Shapes_number_of : FnScope ns_Shapes_number_of ["self", "row"] (defScope s_Shapes_number_of) := ⟨rfl, rfl, rfl, by decide +kernel, rfl, by decide +kernel, by decide +kernel⟩
abbrev s_Shapes_init : Stmt := inClass (top 16) 0
theorem sc_Shapes_init : FnScope ns_Shapes_init ["self"] (defScope s_Shapes_init) := ⟨rfl, rfl, rfl, by decide +kernel, rfl, by decide +kernel, by decide +kernel⟩
abbrev s_Shapes_shape_of : Stmt := inClass (top 16) 1
theorem sc_Shapes_shape_of : FnScope ns_Shapes_shape_of ["self", "slots"] (defScope s_Shapes_shape_of) := ⟨rfl, rfl, rfl, by decide +kernel, rfl, by decide +kernel, by decide +kernel⟩
abbrev s_Shapes_free_parents : Stmt := inClass (top 16) 11
theorem sc_Shapes_free_parents : FnScope ns_Shapes_free_parents ["self", "shape"] (defScope s_Shapes_free_parents) := ⟨rfl, rfl, rfl, by decide +kernel, rfl, by decide +kernel, by decide +kernel⟩
abbrev s_Objects_slot : Stmt := inClass (top 10) 5
theorem sc_Objects_slot : FnScope ns_Objects_slot ["self", "object_id", "name"] (defScope s_Objects_slot) := ⟨rfl, rfl, rfl, by decide +kernel, rfl, by decide +kernel, by decide +kernel⟩
abbrev s_Objects_put : Stmt := inClass (top 10) 6
theorem sc_Objects_put : FnScope ns_Objects_put ["self", "object_id", "name", "kind", "value"] (defScope s_Objects_put) := ⟨rfl, rfl, rfl, by decide +kernel, rfl, by decide +kernel, by decide +kernel⟩
abbrev s_Objects_drop : Stmt := inClass (top 10) 7
theorem sc_Objects_drop : FnScope ns_Objects_drop ["self", "object_id", "name"] (defScope s_Objects_drop) := ⟨rfl, rfl, rfl, by decide +kernel, rfl, by decide +kernel, by decide +kernel⟩
abbrev s_Objects_assign : Stmt := inClass (top 10) 8
theorem sc_Objects_assign : FnScope ns_Objects_assign ["self", "object_id", "name", "value"] (defScope s_Objects_assign) := ⟨rfl, rfl, rfl, by decide +kernel, rfl, by decide +kernel, by decide +kernel⟩
abbrev s_Objects_parents : Stmt := inClass (top 10) 9
theorem sc_Objects_parents : FnScope ns_Objects_parents ["self", "object_id"] (defScope s_Objects_parents) := ⟨rfl, rfl, rfl, by decide +kernel, rfl, by decide +kernel, by decide +kernel⟩
abbrev s_Objects_make : Stmt := inClass (top 10) 1
theorem sc_Objects_make : FnScope ns_Objects_make ["self", "slots"] (defScope s_Objects_make) := ⟨rfl, rfl, rfl, by decide +kernel, rfl, by decide +kernel, by decide +kernel⟩
abbrev s_Objects_init : Stmt := inClass (top 10) 0
theorem sc_Objects_init : FnScope ns_Objects_init ["self"] (defScope s_Objects_init) := ⟨rfl, rfl, rfl, by decide +kernel, rfl, by decide +kernel, by decide +kernel⟩
abbrev s_Objects_slots : Stmt := inClass (top 10) 4
theorem sc_Objects_slots : FnScope ns_Objects_slots ["self", "object_id"] (defScope s_Objects_slots) := ⟨rfl, rfl, rfl, by decide +kernel, rfl, by decide +kernel, by decide +kernel⟩
abbrev s_Objects_ids : Stmt := inClass (top 10) 2
theorem sc_Objects_ids : FnScope ns_Objects_ids ["self"] (defScope s_Objects_ids) := ⟨rfl, rfl, rfl, by decide +kernel, rfl, by decide +kernel, by decide +kernel⟩
abbrev s_outcome_of : Stmt := top 3
theorem sc_outcome_of : FnScope ns_outcome_of ["objects", "holders", "name"] (defScope s_outcome_of) := ⟨rfl, rfl, rfl, by decide +kernel, rfl, by decide +kernel, by decide +kernel⟩
abbrev s_search : Stmt := top 2
theorem sc_search : FnScope ns_search ["objects", "starts", "name"] (defScope s_search) := ⟨rfl, rfl, rfl, by decide +kernel, rfl, by decide +kernel, by decide +kernel⟩
abbrev s_key_of : Stmt := top 5
theorem sc_key_of : FnScope ns_key_of ["objects", "shapes", "name", "object_id"] (defScope s_key_of) := ⟨rfl, rfl, rfl, by decide +kernel, rfl, by decide +kernel, by decide +kernel⟩
abbrev s_rests_on : Stmt := top 6
theorem sc_rests_on : FnScope ns_rests_on ["objects", "name", "object_id"] (defScope s_rests_on) := ⟨rfl, rfl, rfl, by decide +kernel, rfl, by decide +kernel, by decide +kernel⟩
abbrev s_l_draws : Stmt := top 18
theorem sc_l_draws : FnScope ns_l_draws ["script", "many"] (defScope s_l_draws) := ⟨rfl, rfl, rfl, by decide +kernel, rfl, by decide +kernel, by decide +kernel⟩
abbrev s_l_take : Stmt := top 19
theorem sc_l_take : FnScope ns_l_take ["d"] (defScope s_l_take) := ⟨rfl, rfl, rfl, by decide +kernel, rfl, by decide +kernel, by decide +kernel⟩
abbrev s_l_start : Stmt := top 20
theorem sc_l_start : FnScope ns_l_start ["script"] (defScope s_l_start) := ⟨rfl, rfl, rfl, by decide +kernel, rfl, by decide +kernel, by decide +kernel⟩
abbrev s_l_value : Stmt := top 21
theorem sc_l_value : FnScope ns_l_value ["d", "many"] (defScope s_l_value) := ⟨rfl, rfl, rfl, by decide +kernel, rfl, by decide +kernel, by decide +kernel⟩
abbrev s_l_name : Stmt := top 22
theorem sc_l_name : FnScope ns_l_name ["d"] (defScope s_l_name) := ⟨rfl, rfl, rfl, by decide +kernel, rfl, by decide +kernel, by decide +kernel⟩
abbrev s_l_kind : Stmt := top 23
theorem sc_l_kind : FnScope ns_l_kind ["d"] (defScope s_l_kind) := ⟨rfl, rfl, rfl, by decide +kernel, rfl, by decide +kernel, by decide +kernel⟩
abbrev s_l_put : Stmt := top 24
theorem sc_l_put : FnScope ns_l_put ["slots", "name", "kind", "value"] (defScope s_l_put) := ⟨rfl, rfl, rfl, by decide +kernel, rfl, by decide +kernel, by decide +kernel⟩
abbrev s_l_slots : Stmt := top 26
theorem sc_l_slots : FnScope ns_l_slots ["d", "many"] (defScope s_l_slots) := ⟨rfl, rfl, rfl, by decide +kernel, rfl, by decide +kernel, by decide +kernel⟩
abbrev s_l_world : Stmt := top 27
theorem sc_l_world : FnScope ns_l_world ["d", "objects", "many"] (defScope s_l_world) := ⟨rfl, rfl, rfl, by decide +kernel, rfl, by decide +kernel, by decide +kernel⟩
abbrev s_l_parents : Stmt := top 28
theorem sc_l_parents : FnScope ns_l_parents ["objects", "one"] (defScope s_l_parents) := ⟨rfl, rfl, rfl, by decide +kernel, rfl, by decide +kernel, by decide +kernel⟩
abbrev s_l_place : Stmt := top 29
theorem sc_l_place : FnScope ns_l_place ["objects", "one", "name"] (defScope s_l_place) := ⟨rfl, rfl, rfl, by decide +kernel, rfl, by decide +kernel, by decide +kernel⟩
abbrev s_l_reach : Stmt := top 30
theorem sc_l_reach : FnScope ns_l_reach ["objects", "starts", "name"] (defScope s_l_reach) := ⟨rfl, rfl, rfl, by decide +kernel, rfl, by decide +kernel, by decide +kernel⟩
abbrev s_l_through : Stmt := top 31
theorem sc_l_through : FnScope ns_l_through ["objects", "starts", "name"] (defScope s_l_through) := ⟨rfl, rfl, rfl, by decide +kernel, rfl, by decide +kernel, by decide +kernel⟩
abbrev s_l_answer : Stmt := top 32
theorem sc_l_answer : FnScope ns_l_answer ["objects", "one", "name"] (defScope s_l_answer) := ⟨rfl, rfl, rfl, by decide +kernel, rfl, by decide +kernel, by decide +kernel⟩
abbrev s_l_change : Stmt := top 33
theorem sc_l_change : FnScope ns_l_change ["d", "objects", "ids"] (defScope s_l_change) := ⟨rfl, rfl, rfl, by decide +kernel, rfl, by decide +kernel, by decide +kernel⟩
abbrev s_l_var : Stmt := top 34
theorem sc_l_var : FnScope ns_l_var ["d", "objects", "ids"] (defScope s_l_var) := ⟨rfl, rfl, rfl, by decide +kernel, rfl, by decide +kernel, by decide +kernel⟩
abbrev s_l_question : Stmt := top 35
theorem sc_l_question : FnScope ns_l_question ["d", "objects", "shapes"] (defScope s_l_question) := ⟨rfl, rfl, rfl, by decide +kernel, rfl, by decide +kernel, by decide +kernel⟩
abbrev s_law : Stmt := top 36
theorem sc_law : FnScope ns_law ["script"] (defScope s_law) := ⟨rfl, rfl, rfl, by decide +kernel, rfl, by decide +kernel, by decide +kernel⟩
structure Txt (P : Program) (w : World) (K : PySem.W.Frag) (mg : Str → Option Value) : Prop where
  glo_FIXED : mg ("FIXED" : Str) = some (.ref (He.ga K ("FIXED" : Str)))
  free_tuple : mg ("tuple" : Str) = none
  glo_fixed_value : mg ("fixed_value" : Str) = some (.ref (He.ga K ("fixed_value" : Str)))
  free_len : mg ("len" : Str) = none
  cls_Shapes : Cls K (He.ga K ("Shapes" : Str))
  meth_Shapes_number_of : Meth K (He.ga K ("Shapes" : Str)) ("number_of" : Str) (He.ma K (He.ga K ("Shapes" : Str)) ("number_of" : Str))
  glo_row_of : mg ("row_of" : Str) = some (.ref (He.ga K ("row_of" : Str)))
  free_enumerate : mg ("enumerate" : Str) = none
  str_FREE_PARENT : ∃ t, mg ("FREE_PARENT" : Str) = some (.str ("varparent" : Str) t)
  glo_PARENT_KINDS : mg ("PARENT_KINDS" : Str) = some (.ref (He.ga K ("PARENT_KINDS" : Str)))
  cls_Objects : Cls K (He.ga K ("Objects" : Str))
  meth_Objects_put : Meth K (He.ga K ("Objects" : Str)) ("put" : Str) (He.ma K (He.ga K ("Objects" : Str)) ("put" : Str))
  int_LOBBY : ∃ t, mg ("LOBBY" : Str) = some (.int 0 t)
  meth_Objects_make : Meth K (He.ga K ("Objects" : Str)) ("make" : Str) (He.ma K (He.ga K ("Objects" : Str)) ("make" : Str))
  free_list : mg ("list" : Str) = none
  meth_Objects_slot : Meth K (He.ga K ("Objects" : Str)) ("slot" : Str) (He.ma K (He.ga K ("Objects" : Str)) ("slot" : Str))
  meth_Objects_parents : Meth K (He.ga K ("Objects" : Str)) ("parents" : Str) (He.ma K (He.ga K ("Objects" : Str)) ("parents" : Str))
  glo_outcome_of : mg ("outcome_of" : Str) = some (.ref (He.ga K ("outcome_of" : Str)))
  meth_Objects_slots : Meth K (He.ga K ("Objects" : Str)) ("slots" : Str) (He.ma K (He.ga K ("Objects" : Str)) ("slots" : Str))
  meth_Shapes_shape_of : Meth K (He.ga K ("Shapes" : Str)) ("shape_of" : Str) (He.ma K (He.ga K ("Shapes" : Str)) ("shape_of" : Str))
  meth_Shapes_free_parents : Meth K (He.ga K ("Shapes" : Str)) ("free_parents" : Str) (He.ma K (He.ga K ("Shapes" : Str)) ("free_parents" : Str))
  glo_search : mg ("search" : Str) = some (.ref (He.ga K ("search" : Str)))
  free_sorted : mg ("sorted" : Str) = none
  free_range : mg ("range" : Str) = none
  free_abs : mg ("abs" : Str) = none
  free_int : mg ("int" : Str) = none
  glo__law_draws : mg ("_law_draws" : Str) = some (.ref (He.ga K ("_law_draws" : Str)))
  glo__law_take : mg ("_law_take" : Str) = some (.ref (He.ga K ("_law_take" : Str)))
  free_max : mg ("max" : Str) = none
  glo__law_name : mg ("_law_name" : Str) = some (.ref (He.ga K ("_law_name" : Str)))
  glo__law_kind : mg ("_law_kind" : Str) = some (.ref (He.ga K ("_law_kind" : Str)))
  glo__law_value : mg ("_law_value" : Str) = some (.ref (He.ga K ("_law_value" : Str)))
  glo__law_put : mg ("_law_put" : Str) = some (.ref (He.ga K ("_law_put" : Str)))
  glo__law_slots : mg ("_law_slots" : Str) = some (.ref (He.ga K ("_law_slots" : Str)))
  glo__law_place : mg ("_law_place" : Str) = some (.ref (He.ga K ("_law_place" : Str)))
  glo__law_parents : mg ("_law_parents" : Str) = some (.ref (He.ga K ("_law_parents" : Str)))
  glo__law_reach : mg ("_law_reach" : Str) = some (.ref (He.ga K ("_law_reach" : Str)))
  glo__law_through : mg ("_law_through" : Str) = some (.ref (He.ga K ("_law_through" : Str)))
  meth_Objects_drop : Meth K (He.ga K ("Objects" : Str)) ("drop" : Str) (He.ma K (He.ga K ("Objects" : Str)) ("drop" : Str))
  meth_Objects_assign : Meth K (He.ga K ("Objects" : Str)) ("assign" : Str) (He.ma K (He.ga K ("Objects" : Str)) ("assign" : Str))
  meth_Objects_ids : Meth K (He.ga K ("Objects" : Str)) ("ids" : Str) (He.ma K (He.ga K ("Objects" : Str)) ("ids" : Str))
  glo_key_of : mg ("key_of" : Str) = some (.ref (He.ga K ("key_of" : Str)))
  glo__law_answer : mg ("_law_answer" : Str) = some (.ref (He.ga K ("_law_answer" : Str)))
  glo_rests_on : mg ("rests_on" : Str) = some (.ref (He.ga K ("rests_on" : Str)))
  glo__law_var : mg ("_law_var" : Str) = some (.ref (He.ga K ("_law_var" : Str)))
  glo__law_change : mg ("_law_change" : Str) = some (.ref (He.ga K ("_law_change" : Str)))
  glo__law_start : mg ("_law_start" : Str) = some (.ref (He.ga K ("_law_start" : Str)))
  glo_Objects : mg ("Objects" : Str) = some (.ref (He.ga K ("Objects" : Str)))
  mkr_Objects : Mk K (He.ga K ("Objects" : Str)) (He.ma K (He.ga K ("Objects" : Str)) "__init__")
  glo_Shapes : mg ("Shapes" : Str) = some (.ref (He.ga K ("Shapes" : Str)))
  mkr_Shapes : Mk K (He.ga K ("Shapes" : Str)) (He.ma K (He.ga K ("Shapes" : Str)) "__init__")
  glo__law_world : mg ("_law_world" : Str) = some (.ref (He.ga K ("_law_world" : Str)))
  glo__law_question : mg ("_law_question" : Str) = some (.ref (He.ga K ("_law_question" : Str)))
  glo_law : mg ("law" : Str) = some (.ref (He.ga K ("law" : Str)))
  noat_Shapes_ways_used : NoAttr K (He.ga K ("Shapes" : Str)) ("ways_used" : Str)
  noat_Shapes_rows : NoAttr K (He.ga K ("Shapes" : Str)) ("rows" : Str)
  noat_Shapes_numbers : NoAttr K (He.ga K ("Shapes" : Str)) ("numbers" : Str)
  noat_Shapes_ways : NoAttr K (He.ga K ("Shapes" : Str)) ("ways" : Str)
  noat_Objects_table : NoAttr K (He.ga K ("Objects" : Str)) ("table" : Str)
  noat_Objects_next_id : NoAttr K (He.ga K ("Objects" : Str)) ("next_id" : Str)
  d_fixed_value : ∃ fd, FunD K ("fixed_value" : Str) ("fixed_value" : Str) (defArgs s_fixed_value) (defBody s_fixed_value) (defScope s_fixed_value) [] [] (He.ga K ("fixed_value" : Str)) fd
  d_row_of : ∃ fd, FunD K ("row_of" : Str) ("row_of" : Str) (defArgs s_row_of) (defBody s_row_of) (defScope s_row_of) [] [] (He.ga K ("row_of" : Str)) fd
  d_Shapes_number_of : ∃ fd, FunD K ("number_of" : Str) ("Shapes.number_of" : Str) (defArgs s_Shapes_number_of) (defBody s_Shapes_number_of) (defScope s_Shapes_number_of) [] [] (He.ma K (He.ga K ("Shapes" : Str)) ("number_of" : Str)) fd
  d_Shapes_init : ∃ fd, FunD K ("__init__" : Str) ("Shapes.__init__" : Str) (defArgs s_Shapes_init) (defBody s_Shapes_init) (defScope s_Shapes_init) [] [] (He.ma K (He.ga K ("Shapes" : Str)) ("__init__" : Str)) fd
  d_Shapes_shape_of : ∃ fd, FunD K ("shape_of" : Str) ("Shapes.shape_of" : Str) (defArgs s_Shapes_shape_of) (defBody s_Shapes_shape_of) (defScope s_Shapes_shape_of) [] [] (He.ma K (He.ga K ("Shapes" : Str)) ("shape_of" : Str)) fd
  d_Shapes_free_parents : ∃ fd, FunD K ("free_parents" : Str) ("Shapes.free_parents" : Str) (defArgs s_Shapes_free_parents) (defBody s_Shapes_free_parents) (defScope s_Shapes_free_parents) [] [] (He.ma K (He.ga K ("Shapes" : Str)) ("free_parents" : Str)) fd
  d_Objects_slot : ∃ fd, FunD K ("slot" : Str) ("Objects.slot" : Str) (defArgs s_Objects_slot) (defBody s_Objects_slot) (defScope s_Objects_slot) [] [] (He.ma K (He.ga K ("Objects" : Str)) ("slot" : Str)) fd
  d_Objects_put : ∃ fd, FunD K ("put" : Str) ("Objects.put" : Str) (defArgs s_Objects_put) (defBody s_Objects_put) (defScope s_Objects_put) [] [] (He.ma K (He.ga K ("Objects" : Str)) ("put" : Str)) fd
  d_Objects_drop : ∃ fd, FunD K ("drop" : Str) ("Objects.drop" : Str) (defArgs s_Objects_drop) (defBody s_Objects_drop) (defScope s_Objects_drop) [] [] (He.ma K (He.ga K ("Objects" : Str)) ("drop" : Str)) fd
  d_Objects_assign : ∃ fd, FunD K ("assign" : Str) ("Objects.assign" : Str) (defArgs s_Objects_assign) (defBody s_Objects_assign) (defScope s_Objects_assign) [] [] (He.ma K (He.ga K ("Objects" : Str)) ("assign" : Str)) fd
  d_Objects_parents : ∃ fd, FunD K ("parents" : Str) ("Objects.parents" : Str) (defArgs s_Objects_parents) (defBody s_Objects_parents) (defScope s_Objects_parents) [] [] (He.ma K (He.ga K ("Objects" : Str)) ("parents" : Str)) fd
  d_Objects_make : ∃ fd, FunD K ("make" : Str) ("Objects.make" : Str) (defArgs s_Objects_make) (defBody s_Objects_make) (defScope s_Objects_make) [] [] (He.ma K (He.ga K ("Objects" : Str)) ("make" : Str)) fd
  d_Objects_init : ∃ fd, FunD K ("__init__" : Str) ("Objects.__init__" : Str) (defArgs s_Objects_init) (defBody s_Objects_init) (defScope s_Objects_init) [] [] (He.ma K (He.ga K ("Objects" : Str)) ("__init__" : Str)) fd
  d_Objects_slots : ∃ fd, FunD K ("slots" : Str) ("Objects.slots" : Str) (defArgs s_Objects_slots) (defBody s_Objects_slots) (defScope s_Objects_slots) [] [] (He.ma K (He.ga K ("Objects" : Str)) ("slots" : Str)) fd
  d_Objects_ids : ∃ fd, FunD K ("ids" : Str) ("Objects.ids" : Str) (defArgs s_Objects_ids) (defBody s_Objects_ids) (defScope s_Objects_ids) [] [] (He.ma K (He.ga K ("Objects" : Str)) ("ids" : Str)) fd
  d_outcome_of : ∃ fd, FunD K ("outcome_of" : Str) ("outcome_of" : Str) (defArgs s_outcome_of) (defBody s_outcome_of) (defScope s_outcome_of) [] [] (He.ga K ("outcome_of" : Str)) fd
  d_search : ∃ fd, FunD K ("search" : Str) ("search" : Str) (defArgs s_search) (defBody s_search) (defScope s_search) [] [] (He.ga K ("search" : Str)) fd
  d_key_of : ∃ fd, FunD K ("key_of" : Str) ("key_of" : Str) (defArgs s_key_of) (defBody s_key_of) (defScope s_key_of) [] [] (He.ga K ("key_of" : Str)) fd
  d_rests_on : ∃ fd, FunD K ("rests_on" : Str) ("rests_on" : Str) (defArgs s_rests_on) (defBody s_rests_on) (defScope s_rests_on) [] [] (He.ga K ("rests_on" : Str)) fd
  d_l_draws : ∃ fd, FunD K ("_law_draws" : Str) ("_law_draws" : Str) (defArgs s_l_draws) (defBody s_l_draws) (defScope s_l_draws) [] [] (He.ga K ("_law_draws" : Str)) fd
  d_l_take : ∃ fd, FunD K ("_law_take" : Str) ("_law_take" : Str) (defArgs s_l_take) (defBody s_l_take) (defScope s_l_take) [] [] (He.ga K ("_law_take" : Str)) fd
  d_l_start : ∃ fd, FunD K ("_law_start" : Str) ("_law_start" : Str) (defArgs s_l_start) (defBody s_l_start) (defScope s_l_start) [] [] (He.ga K ("_law_start" : Str)) fd
  d_l_value : ∃ fd, FunD K ("_law_value" : Str) ("_law_value" : Str) (defArgs s_l_value) (defBody s_l_value) (defScope s_l_value) [] [] (He.ga K ("_law_value" : Str)) fd
  d_l_name : ∃ fd, FunD K ("_law_name" : Str) ("_law_name" : Str) (defArgs s_l_name) (defBody s_l_name) (defScope s_l_name) [] [] (He.ga K ("_law_name" : Str)) fd
  d_l_kind : ∃ fd, FunD K ("_law_kind" : Str) ("_law_kind" : Str) (defArgs s_l_kind) (defBody s_l_kind) (defScope s_l_kind) [] [] (He.ga K ("_law_kind" : Str)) fd
  d_l_put : ∃ fd, FunD K ("_law_put" : Str) ("_law_put" : Str) (defArgs s_l_put) (defBody s_l_put) (defScope s_l_put) [] [] (He.ga K ("_law_put" : Str)) fd
  d_l_slots : ∃ fd, FunD K ("_law_slots" : Str) ("_law_slots" : Str) (defArgs s_l_slots) (defBody s_l_slots) (defScope s_l_slots) [] [] (He.ga K ("_law_slots" : Str)) fd
  d_l_world : ∃ fd, FunD K ("_law_world" : Str) ("_law_world" : Str) (defArgs s_l_world) (defBody s_l_world) (defScope s_l_world) [] [] (He.ga K ("_law_world" : Str)) fd
  d_l_parents : ∃ fd, FunD K ("_law_parents" : Str) ("_law_parents" : Str) (defArgs s_l_parents) (defBody s_l_parents) (defScope s_l_parents) [] [] (He.ga K ("_law_parents" : Str)) fd
  d_l_place : ∃ fd, FunD K ("_law_place" : Str) ("_law_place" : Str) (defArgs s_l_place) (defBody s_l_place) (defScope s_l_place) [] [] (He.ga K ("_law_place" : Str)) fd
  d_l_reach : ∃ fd, FunD K ("_law_reach" : Str) ("_law_reach" : Str) (defArgs s_l_reach) (defBody s_l_reach) (defScope s_l_reach) [] [] (He.ga K ("_law_reach" : Str)) fd
  d_l_through : ∃ fd, FunD K ("_law_through" : Str) ("_law_through" : Str) (defArgs s_l_through) (defBody s_l_through) (defScope s_l_through) [] [] (He.ga K ("_law_through" : Str)) fd
  d_l_answer : ∃ fd, FunD K ("_law_answer" : Str) ("_law_answer" : Str) (defArgs s_l_answer) (defBody s_l_answer) (defScope s_l_answer) [] [] (He.ga K ("_law_answer" : Str)) fd
  d_l_change : ∃ fd, FunD K ("_law_change" : Str) ("_law_change" : Str) (defArgs s_l_change) (defBody s_l_change) (defScope s_l_change) [] [] (He.ga K ("_law_change" : Str)) fd
  d_l_var : ∃ fd, FunD K ("_law_var" : Str) ("_law_var" : Str) (defArgs s_l_var) (defBody s_l_var) (defScope s_l_var) [] [] (He.ga K ("_law_var" : Str)) fd
  d_l_question : ∃ fd, FunD K ("_law_question" : Str) ("_law_question" : Str) (defArgs s_l_question) (defBody s_l_question) (defScope s_l_question) [] [] (He.ga K ("_law_question" : Str)) fd
  d_law : ∃ fd, FunD K ("law" : Str) ("law" : Str) (defArgs s_law) (defBody s_law) (defScope s_law) [] [] (He.ga K ("law" : Str)) fd
  fx : ∀ H, SqT K H (He.ga K ("FIXED" : Str)) (fixM.map mS)
  pk : ∀ H, SqT K H (He.ga K ("PARENT_KINDS" : Str)) (["parent", "varparent"].map mS)
theorem Txt.sk {P : Program} {w : World} {K : PySem.W.Frag} {mg : Str → Option Value} (T : Txt P w K mg) : ShK K := ⟨T.cls_Shapes, T.noat_Shapes_ways_used, T.noat_Shapes_rows, T.noat_Shapes_numbers, T.noat_Shapes_ways⟩
theorem Txt.ob {P : Program} {w : World} {K : PySem.W.Frag} {mg : Str → Option Value} (T : Txt P w K mg) : ObC K := ⟨T.cls_Objects, T.noat_Objects_table, T.noat_Objects_next_id⟩
section
variable {P : Program} {w : World} {K : PySem.W.Frag} {mg : Str → Option Value} {base : Heap}
theorem ok_fixed_value (T : Txt P w K mg) {fd : FuncData} (F : FunD K ("fixed_value" : Str) ("fixed_value" : Str) (defArgs s_fixed_value) (defBody s_fixed_value) (defScope s_fixed_value) [] [] (He.ga K ("fixed_value" : Str)) fd) : Def P w K mg base 1 (He.ga K ("fixed_value" : Str)) fd ["kind", "value"] (sp_fixed_value K) := by
  refine ⟨F.ok (CX := L2.CX P w) sc_fixed_value (fun vs H Q E h => ?_) (fun cdv A outer s H vs Q E hr h => ⟨t_fixed_value K E, ?_, run_fixed_value T.fx h⟩), F.bindsN fun _ _ _ _ _ _ us hl => match us, hl with | [_, _], _ => rfl, F.kp⟩
  · obtain ⟨_, _, rfl, _⟩ := h
    rfl
  · exact (pss_one (ps_ret (pe_ifExp (pt_cmpR op_in_seq (pv 0) (pe_glob rfl T.glo_FIXED rfl) (by with_unfolding_all rfl)) (pv 1) pe_non)))
theorem ok_row_of (T : Txt P w K mg) {fd : FuncData} (F : FunD K ("row_of" : Str) ("row_of" : Str) (defArgs s_row_of) (defBody s_row_of) (defScope s_row_of) [] [] (He.ga K ("row_of" : Str)) fd) : Def P w K mg base 2 (He.ga K ("row_of" : Str)) fd ["slots"] (sp_row_of K) := by
  obtain ⟨fd_fixed_value, F_fixed_value⟩ := T.d_fixed_value
  have G_fixed_value := ok_fixed_value (P := P) (w := w) (base := base) T F_fixed_value
  refine ⟨F.ok (CX := L2.CX P w) sc_row_of (fun vs H Q E h => ?_) (fun cdv A outer s H vs Q E hr h => ⟨t_row_of K E, ?_, run_row_of h⟩), F.bindsN fun _ _ _ _ _ _ us hl => match us, hl with | [_], _ => rfl, F.kp⟩
  · obtain ⟨_, _, rfl, _⟩ := h
    rfl
  · exact (pss_one (ps_ret (pe_callTy call_tuple_of (by rfl) T.free_tuple (by decide +kernel) (pa_cons (pe_lc (own := [("name", 1), ("kind", 2), ("value", 3)]) (g := (gTup K 3 (gCons (gName 1) (gCons (gName 2) (gCons (gName 3) gNil))))) (tt := tYes) rfl sc_row_of.nd (pi_tup (pv 0)) (blkOk_by (N := ns_row_of) (sc := defScope s_row_of) (by decide +kernel)) (fun _ _ _ _ _ => (pg_tup rfl (pgs_cons (pg_name (i := 1) sc_row_of.nd rfl (Or.inl rfl)) (pgs_cons (pg_name (i := 2) sc_row_of.nd rfl (Or.inl rfl)) (pgs_cons (pg_name (i := 3) sc_row_of.nd rfl (Or.inl rfl)) pgs_nil))))) (fun _ _ _ _ _ => pts_nil) (fun _ _ _ _ _ => (pe_tup (pa_cons (pv 1) (pa_cons (pv 2) (pa_cons (pe_call G_fixed_value.fn (hr.mono (by decide)) rfl T.glo_fixed_value G_fixed_value.kp G_fixed_value.bd .nil (passes_call takes0 fun _ _ _ _ h => h) (pa_cons (pv 2) (pa_cons (pv 3) pa_nil))) pa_nil)))))) pa_nil))))
theorem ok_Shapes_number_of (T : Txt P w K mg) {fd : FuncData} (F : FunD K ("number_of" : Str) ("Shapes.number_of" : Str) (defArgs s_Shapes_number_of) (defBody s_Shapes_number_of) (defScope s_Shapes_number_of) [] [] (He.ma K (He.ga K ("Shapes" : Str)) ("number_of" : Str)) fd) : Def P w K mg base 1 (He.ma K (He.ga K ("Shapes" : Str)) ("number_of" : Str)) fd ["self", "row"] (sp_Shapes_number_of K w) := by
  refine ⟨F.ok (CX := L2.CX P w) sc_Shapes_number_of (fun vs H Q E h => ?_) (fun cdv A outer s H vs Q E hr h => ⟨t_Shapes_number_of K w E, ?_, run_Shapes_number_of T.sk h⟩), F.bindsN fun _ _ _ _ _ _ us hl => match us, hl with | [_, _], _ => rfl, F.kp⟩
  · obtain ⟨_, _, _, _, _, _, _, _, _, _, _, rfl, _⟩ := h
    rfl
  · exact (pss_cons (ps_if (pt_cmp (pc_nnotin hr.units (pv 1) (pe_fld (pv 0) rfl))) (pss_cons (ps_nput hr.units (pe_fld (pv 0) rfl) (pv 1) (pe_callB call_len (by rfl) T.free_len (by decide +kernel) (pa_cons (pe_fld (pv 0) rfl) pa_nil)) rfl)
      (pss_one (ps_expr (pe_bm PySem.F.plainAttrs_list PySem.F.slot_list_append PySem.F.type_list_append mt_append (pe_fld (pv 0) rfl) (pa_cons (pv 1) pa_nil))))) pss_nil)
      (pss_one (ps_ret (pe_nget hr.units (pe_fld (pv 0) rfl) (pv 1) (fun _ _ => rfl)))))
theorem ok_Shapes_init (T : Txt P w K mg) {fd : FuncData} (F : FunD K ("__init__" : Str) ("Shapes.__init__" : Str) (defArgs s_Shapes_init) (defBody s_Shapes_init) (defScope s_Shapes_init) [] [] (He.ma K (He.ga K ("Shapes" : Str)) ("__init__" : Str)) fd) : Def P w K mg base 2 (He.ma K (He.ga K ("Shapes" : Str)) ("__init__" : Str)) fd ["self"] (sp_Shapes_init K w) := by
  obtain ⟨fd_Shapes_number_of, F_Shapes_number_of⟩ := T.d_Shapes_number_of
  have G_Shapes_number_of := ok_Shapes_number_of (P := P) (w := w) (base := base) T F_Shapes_number_of
  refine ⟨F.ok (CX := L2.CX P w) sc_Shapes_init (fun vs H Q E h => ?_) (fun cdv A outer s H vs Q E hr h => ⟨t_Shapes_init K w E, ?_, run_Shapes_init T.sk h⟩), F.bindsN fun _ _ _ _ _ _ us hl => match us, hl with | [_], _ => rfl, F.kp⟩
  · obtain ⟨_, _, rfl, _⟩ := h
    rfl
  · exact (pss_cons (ps_fld (pv 0) pe_int rfl)
      (pss_cons (ps_fld (pv 0) (pe_lst pa_nil) rfl)
      (pss_cons (ps_fld (pv 0) pe_dnewN rfl)
      (pss_cons (ps_fld (pv 0) pe_dnewN rfl)
      (pss_one (ps_expr (pe_meth (pv 0) T.cls_Shapes T.meth_Shapes_number_of G_Shapes_number_of.fn (hr.mono (by decide)) G_Shapes_number_of.bd .nil (passE (takes_of rfl rfl rfl rfl)) (pa_cons (pe_tup pa_nil) pa_nil))))))))
theorem ok_Shapes_shape_of (T : Txt P w K mg) {fd : FuncData} (F : FunD K ("shape_of" : Str) ("Shapes.shape_of" : Str) (defArgs s_Shapes_shape_of) (defBody s_Shapes_shape_of) (defScope s_Shapes_shape_of) [] [] (He.ma K (He.ga K ("Shapes" : Str)) ("shape_of" : Str)) fd) : Def P w K mg base 3 (He.ma K (He.ga K ("Shapes" : Str)) ("shape_of" : Str)) fd ["self", "slots"] (sp_Shapes_shape_of K w) := by
  obtain ⟨fd_Shapes_number_of, F_Shapes_number_of⟩ := T.d_Shapes_number_of
  have G_Shapes_number_of := ok_Shapes_number_of (P := P) (w := w) (base := base) T F_Shapes_number_of
  obtain ⟨fd_row_of, F_row_of⟩ := T.d_row_of
  have G_row_of := ok_row_of (P := P) (w := w) (base := base) T F_row_of
  refine ⟨F.ok (CX := L2.CX P w) sc_Shapes_shape_of (fun vs H Q E h => ?_) (fun cdv A outer s H vs Q E hr h => ⟨t_Shapes_shape_of K w E, ?_, run_Shapes_shape_of T.sk h⟩), F.bindsN fun _ _ _ _ _ _ us hl => match us, hl with | [_, _], _ => rfl, F.kp⟩
  · obtain ⟨_, _, _, _, _, _, _, _, _, _, _, rfl, _⟩ := h
    rfl
  · exact (pss_one (ps_ret (pe_meth (pv 0) T.cls_Shapes T.meth_Shapes_number_of G_Shapes_number_of.fn (hr.mono (by decide)) G_Shapes_number_of.bd .nil (passE (takes_of rfl rfl rfl rfl)) (pa_cons (pe_call G_row_of.fn (hr.mono (by decide)) rfl T.glo_row_of G_row_of.kp G_row_of.bd .nil (passE (takes_of rfl rfl rfl rfl)) (pa_cons (pv 1) pa_nil)) pa_nil))))
theorem ok_Shapes_free_parents (T : Txt P w K mg) {fd : FuncData} (F : FunD K ("free_parents" : Str) ("Shapes.free_parents" : Str) (defArgs s_Shapes_free_parents) (defBody s_Shapes_free_parents) (defScope s_Shapes_free_parents) [] [] (He.ma K (He.ga K ("Shapes" : Str)) ("free_parents" : Str)) fd) : Def P w K mg base 1 (He.ma K (He.ga K ("Shapes" : Str)) ("free_parents" : Str)) fd ["self", "shape"] (sp_Shapes_free_parents K w) := by
  obtain ⟨tk_FREE_PARENT, i_FREE_PARENT⟩ := T.str_FREE_PARENT
  refine ⟨F.ok (CX := L2.CX P w) sc_Shapes_free_parents (fun vs H Q E h => ?_) (fun cdv A outer s H vs Q E hr h => ⟨t_Shapes_free_parents K w E, ?_, run_Shapes_free_parents T.sk h⟩), F.bindsN fun _ _ _ _ _ _ us hl => match us, hl with | [_, _], _ => rfl, F.kp⟩
  · obtain ⟨_, _, _, _, _, _, _, _, _, _, _, rfl, _⟩ := h
    rfl
  · exact (pss_one (ps_ret (pe_callTy call_tuple_of (by rfl) T.free_tuple (by decide +kernel) (pa_cons (pe_lc (own := [("at", 2), ("slot", 3)]) (g := (gTup K 2 (gCons (gName 2) (gCons (gName 3) gNil)))) (tt := (tTest (tOp rEq (tOp (rIxT K) (tVar 3) (tC (.int 1))) (tC (.str ("varparent" : Str)))))) rfl sc_Shapes_free_parents.nd (pi_enumT (by rfl) T.free_enumerate (pa_cons (pe_ix ix_list (pe_fld (pv 0) rfl) (pv 1) (fun _ _ => rfl)) pa_nil)) (blkOk_by (N := ns_Shapes_free_parents) (sc := defScope s_Shapes_free_parents) (by decide +kernel)) (fun _ _ _ _ _ => (pg_tup rfl (pgs_cons (pg_name (i := 2) sc_Shapes_free_parents.nd rfl (Or.inl rfl)) (pgs_cons (pg_name (i := 3) sc_Shapes_free_parents.nd rfl (Or.inl rfl)) pgs_nil)))) (fun _ _ _ _ _ => (pts_one (pt_cmpR op_eq (pe_ix ix_tup (pv 3) pe_int (fun _ _ => rfl)) (pe_glob rfl i_FREE_PARENT ⟨_, rfl⟩) (nomark _)))) (fun _ _ _ _ _ => (pv 2))) pa_nil))))
theorem ok_Objects_slot (T : Txt P w K mg) {fd : FuncData} (F : FunD K ("slot" : Str) ("Objects.slot" : Str) (defArgs s_Objects_slot) (defBody s_Objects_slot) (defScope s_Objects_slot) [] [] (He.ma K (He.ga K ("Objects" : Str)) ("slot" : Str)) fd) : Def P w K mg base 1 (He.ma K (He.ga K ("Objects" : Str)) ("slot" : Str)) fd ["self", "object_id", "name"] (sp_Objects_slot K) := by
  refine ⟨F.ok (CX := L2.CX P w) sc_Objects_slot (fun vs H Q E h => ?_) (fun cdv A outer s H vs Q E hr h => ⟨t_Objects_slot K E, ?_, run_Objects_slot T.ob h⟩), F.bindsN fun _ _ _ _ _ _ us hl => match us, hl with | [_, _, _], _ => rfl, F.kp⟩
  · obtain ⟨_, _, _, _, _, _, _, rfl, _⟩ := h
    rfl
  · have hu := hu_of hr
    exact (pss_one (ps_ret (pe_dget1 hu (pe_dget hu (pe_fld (pv 0) rfl) (pv 1) (fun _ _ => rfl)) (pv 2) ⟨rfl, rfl, rfl, rfl⟩)))
theorem ok_Objects_put (T : Txt P w K mg) {fd : FuncData} (F : FunD K ("put" : Str) ("Objects.put" : Str) (defArgs s_Objects_put) (defBody s_Objects_put) (defScope s_Objects_put) [] [] (He.ma K (He.ga K ("Objects" : Str)) ("put" : Str)) fd) : Def P w K mg base 1 (He.ma K (He.ga K ("Objects" : Str)) ("put" : Str)) fd ["self", "object_id", "name", "kind", "value"] (sp_Objects_put K) := by
  refine ⟨F.ok (CX := L2.CX P w) sc_Objects_put (fun vs H Q E h => ?_) (fun cdv A outer s H vs Q E hr h => ⟨t_Objects_put K E, ?_, run_Objects_put T.ob h⟩), F.bindsN fun _ _ _ _ _ _ us hl => match us, hl with | [_, _, _, _, _], _ => rfl, F.kp⟩
  · obtain ⟨_, _, _, _, _, _, _, _, _, _, rfl, _⟩ := h
    rfl
  · have hu := hu_of hr
    exact (pss_one (ps_dput hu (pe_dget hu (pe_fld (pv 0) rfl) (pv 1) (fun _ _ => rfl)) (pv 2) (pe_tup (pa_cons (pv 3) (pa_cons (pv 4) pa_nil))) rfl))
theorem ok_Objects_drop (T : Txt P w K mg) {fd : FuncData} (F : FunD K ("drop" : Str) ("Objects.drop" : Str) (defArgs s_Objects_drop) (defBody s_Objects_drop) (defScope s_Objects_drop) [] [] (He.ma K (He.ga K ("Objects" : Str)) ("drop" : Str)) fd) : Def P w K mg base 1 (He.ma K (He.ga K ("Objects" : Str)) ("drop" : Str)) fd ["self", "object_id", "name"] (sp_Objects_drop K) := by
  refine ⟨F.ok (CX := L2.CX P w) sc_Objects_drop (fun vs H Q E h => ?_) (fun cdv A outer s H vs Q E hr h => ⟨t_Objects_drop K E, ?_, run_Objects_drop T.ob h⟩), F.bindsN fun _ _ _ _ _ _ us hl => match us, hl with | [_, _, _], _ => rfl, F.kp⟩
  · obtain ⟨_, _, _, _, _, _, _, rfl, _⟩ := h
    rfl
  · have hu := hu_of hr
    exact (pss_cons (ps_if (pt_cmp (pc_dnotin hu (pv 2) (pe_dget hu (pe_fld (pv 0) rfl) (pv 1) (fun _ _ => rfl)))) (pss_one (ps_ret pe_bl)) pss_nil)
      (pss_cons (ps_ddel (pe_dget hu (pe_fld (pv 0) rfl) (pv 1) (fun _ _ => rfl)) (pv 2))
      (pss_one (ps_ret pe_bl))))
theorem ok_Objects_assign (T : Txt P w K mg) {fd : FuncData} (F : FunD K ("assign" : Str) ("Objects.assign" : Str) (defArgs s_Objects_assign) (defBody s_Objects_assign) (defScope s_Objects_assign) [] [] (He.ma K (He.ga K ("Objects" : Str)) ("assign" : Str)) fd) : Def P w K mg base 1 (He.ma K (He.ga K ("Objects" : Str)) ("assign" : Str)) fd ["self", "object_id", "name", "value"] (sp_Objects_assign K) := by
  refine ⟨F.ok (CX := L2.CX P w) sc_Objects_assign (fun vs H Q E h => ?_) (fun cdv A outer s H vs Q E hr h => ⟨t_Objects_assign K E, ?_, run_Objects_assign T.ob h⟩), F.bindsN fun _ _ _ _ _ _ us hl => match us, hl with | [_, _, _, _], _ => rfl, F.kp⟩
  · obtain ⟨_, _, _, _, _, _, _, _, _, _, rfl, _⟩ := h
    rfl
  · have hu := hu_of hr
    exact (pss_cons (ps_asg (pe_dget hu (pe_dget hu (pe_fld (pv 0) rfl) (pv 1) (fun _ _ => rfl)) (pv 2) (fun _ _ => rfl)) (pg_tup rfl (pgs_cons (pg_name (i := 4) sc_Objects_assign.nd rfl (Or.inl rfl)) (pgs_cons (pg_name (i := 5) sc_Objects_assign.nd rfl (Or.inl rfl)) pgs_nil))))
      (pss_one (ps_dput hu (pe_dget hu (pe_fld (pv 0) rfl) (pv 1) (fun _ _ => rfl)) (pv 2) (pe_tup (pa_cons (pv 4) (pa_cons (pv 3) pa_nil))) rfl)))
theorem ok_Objects_parents (T : Txt P w K mg) {fd : FuncData} (F : FunD K ("parents" : Str) ("Objects.parents" : Str) (defArgs s_Objects_parents) (defBody s_Objects_parents) (defScope s_Objects_parents) [] [] (He.ma K (He.ga K ("Objects" : Str)) ("parents" : Str)) fd) : Def P w K mg base 1 (He.ma K (He.ga K ("Objects" : Str)) ("parents" : Str)) fd ["self", "object_id"] (sp_Objects_parents K) := by
  refine ⟨F.ok (CX := L2.CX P w) sc_Objects_parents (fun vs H Q E h => ?_) (fun cdv A outer s H vs Q E hr h => ⟨t_Objects_parents K E, ?_, run_Objects_parents T.ob T.pk h⟩), F.bindsN fun _ _ _ _ _ _ us hl => match us, hl with | [_, _], _ => rfl, F.kp⟩
  · obtain ⟨_, _, _, _, _, _, rfl, _⟩ := h
    rfl
  · have hu := hu_of hr
    exact (pss_cons (ps_set (i := 2) sc_Objects_parents.nd rfl (Or.inl rfl) (pe_lst pa_nil))
      (pss_cons (ps_lock (ps_for (passes_of rfl) rfl (pi_values (pe_dget hu (pe_fld (pv 0) rfl) (pv 1) (fun _ _ => rfl))) (pg_tup rfl (pgs_cons (pg_name (i := 3) sc_Objects_parents.nd rfl (Or.inl rfl)) (pgs_cons (pg_name (i := 4) sc_Objects_parents.nd rfl (Or.inl rfl)) pgs_nil))) (pss_one (ps_if (PW.pt (pw_and (pt_cmpR op_in_seq (pv 3) (pe_glob rfl T.glo_PARENT_KINDS rfl) (by with_unfolding_all rfl)) (pw_and1 (pt_cmpR op_eq (pe_ix ix_tup (pv 4) pe_int (fun _ _ => rfl)) pe_str (nomark _))))) (pss_one (ps_expr (pe_bm PySem.F.plainAttrs_list PySem.F.slot_list_append PySem.F.type_list_append mt_append (pv 2) (pa_cons (pe_ix ix_tup (pv 4) pe_int (fun _ _ => rfl)) pa_nil)))) pss_nil))))
      (pss_one (ps_ret (pe_callTy call_tuple_of (by rfl) T.free_tuple (by decide +kernel) (pa_cons (pv 2) pa_nil))))))
theorem ok_Objects_make (T : Txt P w K mg) {fd : FuncData} (F : FunD K ("make" : Str) ("Objects.make" : Str) (defArgs s_Objects_make) (defBody s_Objects_make) (defScope s_Objects_make) [] [] (He.ma K (He.ga K ("Objects" : Str)) ("make" : Str)) fd) : Def P w K mg base 2 (He.ma K (He.ga K ("Objects" : Str)) ("make" : Str)) fd ["self", "slots"] (sp_Objects_make K) := by
  obtain ⟨fd_Objects_put, F_Objects_put⟩ := T.d_Objects_put
  have G_Objects_put := ok_Objects_put (P := P) (w := w) (base := base) T F_Objects_put
  refine ⟨F.ok (CX := L2.CX P w) sc_Objects_make (fun vs H Q E h => ?_) (fun cdv A outer s H vs Q E hr h => ⟨t_Objects_make K E, ?_, run_Objects_make T.ob h⟩), F.bindsN fun _ _ _ _ _ _ us hl => match us, hl with | [_, _], _ => rfl, F.kp⟩
  · obtain ⟨_, _, _, _, _, _, _, _, rfl, _⟩ := h
    rfl
  · have hu := hu_of hr
    exact (pss_cons (ps_set (i := 2) sc_Objects_make.nd rfl (Or.inl rfl) (pe_fld (pv 0) rfl))
      (pss_cons (ps_fldaug (pv 0) pe_int in_add)
      (pss_cons (ps_dput hu (pe_fld (pv 0) rfl) (pv 2) pe_dnewK rfl)
      (pss_cons (ps_for (passes_of rfl) rfl (pi_tup (pv 1)) (pg_tup rfl (pgs_cons (pg_name (i := 3) sc_Objects_make.nd rfl (Or.inl rfl)) (pgs_cons (pg_name (i := 4) sc_Objects_make.nd rfl (Or.inl rfl)) (pgs_cons (pg_name (i := 5) sc_Objects_make.nd rfl (Or.inl rfl)) pgs_nil)))) (pss_one (ps_expr (pe_meth (pv 0) T.cls_Objects T.meth_Objects_put G_Objects_put.fn (hr.mono (by decide)) G_Objects_put.bd .nil (passE (takes_of rfl rfl rfl rfl)) (pa_cons (pv 2) (pa_cons (pv 3) (pa_cons (pv 4) (pa_cons (pv 5) pa_nil))))))))
      (pss_one (ps_ret (pv 2)))))))
theorem ok_Objects_init (T : Txt P w K mg) {fd : FuncData} (F : FunD K ("__init__" : Str) ("Objects.__init__" : Str) (defArgs s_Objects_init) (defBody s_Objects_init) (defScope s_Objects_init) [] [] (He.ma K (He.ga K ("Objects" : Str)) ("__init__" : Str)) fd) : Def P w K mg base 3 (He.ma K (He.ga K ("Objects" : Str)) ("__init__" : Str)) fd ["self"] (sp_Objects_init K) := by
  obtain ⟨fd_Objects_make, F_Objects_make⟩ := T.d_Objects_make
  have G_Objects_make := ok_Objects_make (P := P) (w := w) (base := base) T F_Objects_make
  obtain ⟨tk_LOBBY, i_LOBBY⟩ := T.int_LOBBY
  refine ⟨F.ok (CX := L2.CX P w) sc_Objects_init (fun vs H Q E h => ?_) (fun cdv A outer s H vs Q E hr h => ⟨t_Objects_init K E, ?_, run_Objects_init T.ob h⟩), F.bindsN fun _ _ _ _ _ _ us hl => match us, hl with | [_], _ => rfl, F.kp⟩
  · obtain ⟨_, _, rfl, _⟩ := h
    rfl
  · exact (pss_cons (ps_fld (pv 0) pe_dnewK rfl)
      (pss_cons (ps_fld (pv 0) pe_int rfl)
      (pss_one (ps_expr (pe_meth (pv 0) T.cls_Objects T.meth_Objects_make G_Objects_make.fn (hr.mono (by decide)) G_Objects_make.bd .nil (passE (takes_of rfl rfl rfl rfl)) (pa_cons (pe_tup (pa_cons (pe_tup (pa_cons pe_str (pa_cons pe_str (pa_cons (pe_tup (pa_cons pe_str (pa_cons (pe_glob rfl i_LOBBY ⟨_, rfl⟩) pa_nil))) pa_nil)))) pa_nil)) pa_nil))))))
theorem ok_Objects_slots (T : Txt P w K mg) {fd : FuncData} (F : FunD K ("slots" : Str) ("Objects.slots" : Str) (defArgs s_Objects_slots) (defBody s_Objects_slots) (defScope s_Objects_slots) [] [] (He.ma K (He.ga K ("Objects" : Str)) ("slots" : Str)) fd) : Def P w K mg base 1 (He.ma K (He.ga K ("Objects" : Str)) ("slots" : Str)) fd ["self", "object_id"] (sp_Objects_slots K) := by
  refine ⟨F.ok (CX := L2.CX P w) sc_Objects_slots (fun vs H Q E h => ?_) (fun cdv A outer s H vs Q E hr h => ⟨t_Objects_slots K E, ?_, run_Objects_slots T.ob h⟩), F.bindsN fun _ _ _ _ _ _ us hl => match us, hl with | [_, _], _ => rfl, F.kp⟩
  · obtain ⟨_, _, _, _, _, _, rfl, _⟩ := h
    rfl
  · have hu := hu_of hr
    exact (pss_cons (ps_set (i := 2) sc_Objects_slots.nd rfl (Or.inl rfl) (pe_dget hu (pe_fld (pv 0) rfl) (pv 1) (fun _ _ => rfl)))
      (pss_one (ps_ret (pe_callTy call_tuple_of (by rfl) T.free_tuple (by decide +kernel) (pa_cons (pe_lock (pe_lc (own := [("name", 3), ("kind", 4), ("value", 5)]) (g := (gTup K 2 (gCons (gName 3) (gCons (gTup K 2 (gCons (gName 4) (gCons (gName 5) gNil))) gNil)))) (tt := tYes) rfl sc_Objects_slots.nd (pi_items (pv 2)) (blkOk_by (N := ns_Objects_slots) (sc := defScope s_Objects_slots) (by decide +kernel)) (fun _ _ _ _ _ => (pg_tup rfl (pgs_cons (pg_name (i := 3) sc_Objects_slots.nd rfl (Or.inl rfl)) (pgs_cons (pg_tup rfl (pgs_cons (pg_name (i := 4) sc_Objects_slots.nd rfl (Or.inl rfl)) (pgs_cons (pg_name (i := 5) sc_Objects_slots.nd rfl (Or.inl rfl)) pgs_nil))) pgs_nil)))) (fun _ _ _ _ _ => pts_nil) (fun _ _ _ _ _ => (pe_tup (pa_cons (pv 3) (pa_cons (pv 4) (pa_cons (pv 5) pa_nil))))))) pa_nil)))))
theorem ok_Objects_ids (T : Txt P w K mg) {fd : FuncData} (F : FunD K ("ids" : Str) ("Objects.ids" : Str) (defArgs s_Objects_ids) (defBody s_Objects_ids) (defScope s_Objects_ids) [] [] (He.ma K (He.ga K ("Objects" : Str)) ("ids" : Str)) fd) : Def P w K mg base 1 (He.ma K (He.ga K ("Objects" : Str)) ("ids" : Str)) fd ["self"] (sp_Objects_ids K) := by
  refine ⟨F.ok (CX := L2.CX P w) sc_Objects_ids (fun vs H Q E h => ?_) (fun cdv A outer s H vs Q E hr h => ⟨t_Objects_ids K E, ?_, run_Objects_ids T.ob h⟩), F.bindsN fun _ _ _ _ _ _ us hl => match us, hl with | [_], _ => rfl, F.kp⟩
  · obtain ⟨_, _, _, _, _, rfl, _⟩ := h
    rfl
  · exact (pss_one (ps_ret (pe_callTy (call_listD rfl) (by rfl) T.free_list (by decide +kernel) (pa_cons (pe_fld (pv 0) rfl) pa_nil))))
theorem ok_outcome_of (T : Txt P w K mg) {fd : FuncData} (F : FunD K ("outcome_of" : Str) ("outcome_of" : Str) (defArgs s_outcome_of) (defBody s_outcome_of) (defScope s_outcome_of) [] [] (He.ga K ("outcome_of" : Str)) fd) : Def P w K mg base 2 (He.ga K ("outcome_of" : Str)) fd ["objects", "holders", "name"] (sp_outcome_of K) := by
  obtain ⟨fd_Objects_slot, F_Objects_slot⟩ := T.d_Objects_slot
  have G_Objects_slot := ok_Objects_slot (P := P) (w := w) (base := base) T F_Objects_slot
  refine ⟨F.ok (CX := L2.CX P w) sc_outcome_of (fun vs H Q E h => ?_) (fun cdv A outer s H vs Q E hr h => ⟨t_outcome_of K E, ?_, run_outcome_of T.ob h⟩), F.bindsN fun _ _ _ _ _ _ us hl => match us, hl with | [_, _, _], _ => rfl, F.kp⟩
  · obtain ⟨_, _, _, _, _, _, _, _, rfl, _⟩ := h
    rfl
  · exact (pss_cons (ps_if (pt_cmpR op_eq (pe_callB call_len (by rfl) T.free_len (by decide +kernel) (pa_cons (pv 1) pa_nil)) pe_int (nomark _)) (pss_one (ps_ret (pe_tup (pa_cons pe_str pa_nil)))) pss_nil)
      (pss_cons (ps_if (pt_cmpR op_gt (pe_callB call_len (by rfl) T.free_len (by decide +kernel) (pa_cons (pv 1) pa_nil)) pe_int (nomark _)) (pss_one (ps_ret (pe_tup (pa_cons pe_str pa_nil)))) pss_nil)
      (pss_cons (ps_asg (pe_meth (pv 0) T.cls_Objects T.meth_Objects_slot G_Objects_slot.fn (hr.mono (by decide)) G_Objects_slot.bd .nil (passE (takes_of rfl rfl rfl rfl)) (pa_cons (pe_ix ix_list (pv 1) pe_int (fun _ _ => rfl)) (pa_cons (pv 2) pa_nil))) (pg_tup rfl (pgs_cons (pg_name (i := 3) sc_outcome_of.nd rfl (Or.inl rfl)) (pgs_cons (pg_name (i := 4) sc_outcome_of.nd rfl (Or.inl rfl)) pgs_nil))))
      (pss_one (ps_ret (pe_tup (pa_cons pe_str (pa_cons (pe_ix ix_list (pv 1) pe_int (fun _ _ => rfl)) (pa_cons (pv 3) (pa_cons (pv 4) pa_nil))))))))))
theorem ok_search (T : Txt P w K mg) {fd : FuncData} (F : FunD K ("search" : Str) ("search" : Str) (defArgs s_search) (defBody s_search) (defScope s_search) [] [] (He.ga K ("search" : Str)) fd) : Def P w K mg base 3 (He.ga K ("search" : Str)) fd ["objects", "starts", "name"] (sp_search K) := by
  obtain ⟨fd_Objects_slot, F_Objects_slot⟩ := T.d_Objects_slot
  have G_Objects_slot := ok_Objects_slot (P := P) (w := w) (base := base) T F_Objects_slot
  obtain ⟨fd_Objects_parents, F_Objects_parents⟩ := T.d_Objects_parents
  have G_Objects_parents := ok_Objects_parents (P := P) (w := w) (base := base) T F_Objects_parents
  obtain ⟨fd_outcome_of, F_outcome_of⟩ := T.d_outcome_of
  have G_outcome_of := ok_outcome_of (P := P) (w := w) (base := base) T F_outcome_of
  refine ⟨F.ok (CX := L2.CX P w) sc_search (fun vs H Q E h => ?_) (fun cdv A outer s H vs Q E hr h => ⟨t_search K E, ?_, run_search T.ob h⟩), F.bindsN fun _ _ _ _ _ _ us hl => match us, hl with | [_, _, _], _ => rfl, F.kp⟩
  · obtain ⟨_, _, _, _, _, _, _, _, rfl, _⟩ := h
    rfl
  · have hu := hu_of hr
    exact (pss_cons (ps_set (i := 3) sc_search.nd rfl (Or.inl rfl) pe_dnewK)
      (pss_cons (ps_set (i := 4) sc_search.nd rfl (Or.inl rfl) (pe_lst pa_nil))
      (pss_cons (ps_set (i := 5) sc_search.nd rfl (Or.inl rfl) (pe_callTy call_list_of (by rfl) T.free_list (by decide +kernel) (pa_cons (pe_revT (pv 1)) pa_nil)))
      (pss_cons (ps_while (passes_of rfl) (pt_cmpR op_gt (pe_callB call_len (by rfl) T.free_len (by decide +kernel) (pa_cons (pv 5) pa_nil)) pe_int (nomark _)) (pss_cons (ps_set (i := 6) sc_search.nd rfl (Or.inl rfl) (pe_bm0 PySem.F.plainAttrs_list PySem.F.slot_list_pop PySem.F.type_list_pop mt_pop (pv 5)))
      (pss_cons (ps_if (pt_cmp (pc_din hu (pv 6) (pv 3))) (pss_one ps_continue) pss_nil)
      (pss_cons (ps_dput hu (pv 3) (pv 6) pe_bl rfl)
      (pss_one (ps_if (pt_cmpR op_notN (pe_meth (pv 0) T.cls_Objects T.meth_Objects_slot G_Objects_slot.fn (hr.mono (by decide)) G_Objects_slot.bd .nil (passE (takes_of rfl rfl rfl rfl)) (pa_cons (pv 6) (pa_cons (pv 2) pa_nil))) pe_non (nomark _)) (pss_one (ps_expr (pe_bm PySem.F.plainAttrs_list PySem.F.slot_list_append PySem.F.type_list_append mt_append (pv 4) (pa_cons (pv 6) pa_nil)))) (pss_one (ps_expr (pe_bm PySem.F.plainAttrs_list PySem.F.slot_list_extend PySem.F.type_list_extend mt_extendT (pv 5) (pa_cons (pe_revT (pe_meth (pv 0) T.cls_Objects T.meth_Objects_parents G_Objects_parents.fn (hr.mono (by decide)) G_Objects_parents.bd .nil (passE (takes_of rfl rfl rfl rfl)) (pa_cons (pv 6) pa_nil))) pa_nil))))))))))
      (pss_one (ps_ret (pe_tup (pa_cons (pe_call G_outcome_of.fn (hr.mono (by decide)) rfl T.glo_outcome_of G_outcome_of.kp G_outcome_of.bd .nil (passE (takes_of rfl rfl rfl rfl)) (pa_cons (pv 0) (pa_cons (pv 4) (pa_cons (pv 2) pa_nil)))) (pa_cons (pe_callTy (call_tupleD rfl) (by rfl) T.free_tuple (by decide +kernel) (pa_cons (pv 3) pa_nil)) pa_nil)))))))))
theorem ok_key_of (T : Txt P w K mg) {fd : FuncData} (F : FunD K ("key_of" : Str) ("key_of" : Str) (defArgs s_key_of) (defBody s_key_of) (defScope s_key_of) [] [] (He.ga K ("key_of" : Str)) fd) : Def P w K mg base 4 (He.ga K ("key_of" : Str)) fd ["objects", "shapes", "name", "object_id"] (sp_key_of K w) := by
  obtain ⟨fd_Objects_slots, F_Objects_slots⟩ := T.d_Objects_slots
  have G_Objects_slots := ok_Objects_slots (P := P) (w := w) (base := base) T F_Objects_slots
  obtain ⟨fd_Shapes_shape_of, F_Shapes_shape_of⟩ := T.d_Shapes_shape_of
  have G_Shapes_shape_of := ok_Shapes_shape_of (P := P) (w := w) (base := base) T F_Shapes_shape_of
  obtain ⟨fd_Objects_slot, F_Objects_slot⟩ := T.d_Objects_slot
  have G_Objects_slot := ok_Objects_slot (P := P) (w := w) (base := base) T F_Objects_slot
  obtain ⟨fd_Shapes_free_parents, F_Shapes_free_parents⟩ := T.d_Shapes_free_parents
  have G_Shapes_free_parents := ok_Shapes_free_parents (P := P) (w := w) (base := base) T F_Shapes_free_parents
  refine ⟨F.ok (CX := L2.CX P w) sc_key_of (fun vs H Q E h => ?_) (fun cdv A outer s H vs Q E hr h => ⟨t_key_of K w E, ?_, run_key_of h⟩), F.bindsN fun _ _ _ _ _ _ us hl => match us, hl with | [_, _, _, _], _ => rfl, F.kp⟩
  · obtain ⟨_, _, _, _, _, _, _, _, _, _, _, _, _, _, _, _, _, _, rfl, _⟩ := h
    rfl
  · exact (pss_cons (ps_set (i := 4) sc_key_of.nd rfl (Or.inr rfl) (pe_meth (pv 0) T.cls_Objects T.meth_Objects_slots G_Objects_slots.fn (hr.mono (by decide)) G_Objects_slots.bd .nil (passE (takes_of rfl rfl rfl rfl)) (pa_cons (pv 3) pa_nil)))
      (pss_cons (ps_set (i := 5) sc_key_of.nd rfl (Or.inl rfl) (pe_meth (pv 1) T.cls_Shapes T.meth_Shapes_shape_of G_Shapes_shape_of.fn (hr.mono (by decide)) G_Shapes_shape_of.bd .nil (passE (takes_of rfl rfl rfl rfl)) (pa_cons (pv 4) pa_nil)))
      (pss_cons (ps_if (pt_cmpR op_notN (pe_meth (pv 0) T.cls_Objects T.meth_Objects_slot G_Objects_slot.fn (hr.mono (by decide)) G_Objects_slot.bd .nil (passE (takes_of rfl rfl rfl rfl)) (pa_cons (pv 3) (pa_cons (pv 2) pa_nil))) pe_non (nomark _)) (pss_one (ps_ret (pe_tup (pa_cons (pv 5) (pa_cons (pe_tup pa_nil) pa_nil))))) pss_nil)
      (pss_one (ps_ret (pe_tup (pa_cons (pv 5) (pa_cons (pe_callTy call_tuple_of (by rfl) T.free_tuple (by decide +kernel) (pa_cons (pe_lc (own := [("at", 6)]) (g := (gName 6)) (tt := tYes) rfl sc_key_of.nd (pi_tup (pe_meth (pv 1) T.cls_Shapes T.meth_Shapes_free_parents G_Shapes_free_parents.fn (hr.mono (by decide)) G_Shapes_free_parents.bd .nil (passE (takes_of rfl rfl rfl rfl)) (pa_cons (pv 5) pa_nil))) (blkOk_by (N := ns_key_of) (sc := defScope s_key_of) (by decide +kernel)) (fun _ _ _ _ _ => (pg_name (i := 6) sc_key_of.nd rfl (Or.inl rfl))) (fun _ _ _ _ _ => pts_nil) (fun _ _ _ _ _ => (pe_ix ix_tup (pe_ix ix_tup (pv 4) (pv 6) (fun _ _ => rfl)) pe_int (fun _ _ => rfl)))) pa_nil)) pa_nil))))))))
theorem ok_rests_on (T : Txt P w K mg) {fd : FuncData} (F : FunD K ("rests_on" : Str) ("rests_on" : Str) (defArgs s_rests_on) (defBody s_rests_on) (defScope s_rests_on) [] [] (He.ga K ("rests_on" : Str)) fd) : Def P w K mg base 4 (He.ga K ("rests_on" : Str)) fd ["objects", "name", "object_id"] (sp_rests_on K) := by
  obtain ⟨fd_Objects_slot, F_Objects_slot⟩ := T.d_Objects_slot
  have G_Objects_slot := ok_Objects_slot (P := P) (w := w) (base := base) T F_Objects_slot
  obtain ⟨fd_search, F_search⟩ := T.d_search
  have G_search := ok_search (P := P) (w := w) (base := base) T F_search
  obtain ⟨fd_Objects_parents, F_Objects_parents⟩ := T.d_Objects_parents
  have G_Objects_parents := ok_Objects_parents (P := P) (w := w) (base := base) T F_Objects_parents
  refine ⟨F.ok (CX := L2.CX P w) sc_rests_on (fun vs H Q E h => ?_) (fun cdv A outer s H vs Q E hr h => ⟨t_rests_on K E, ?_, run_rests_on h⟩), F.bindsN fun _ _ _ _ _ _ us hl => match us, hl with | [_, _, _], _ => rfl, F.kp⟩
  · obtain ⟨_, _, _, _, _, _, _, rfl, _⟩ := h
    rfl
  · exact (pss_cons (ps_if (pt_cmpR op_notN (pe_meth (pv 0) T.cls_Objects T.meth_Objects_slot G_Objects_slot.fn (hr.mono (by decide)) G_Objects_slot.bd .nil (passE (takes_of rfl rfl rfl rfl)) (pa_cons (pv 2) (pa_cons (pv 1) pa_nil))) pe_non (nomark _)) (pss_one (ps_ret (pe_lst pa_nil))) pss_nil)
      (pss_cons (ps_asg (pe_call G_search.fn (hr.mono (by decide)) rfl T.glo_search G_search.kp G_search.bd .nil (passE (takes_of rfl rfl rfl rfl)) (pa_cons (pv 0) (pa_cons (pe_meth (pv 0) T.cls_Objects T.meth_Objects_parents G_Objects_parents.fn (hr.mono (by decide)) G_Objects_parents.bd .nil (passE (takes_of rfl rfl rfl rfl)) (pa_cons (pv 2) pa_nil)) (pa_cons (pv 1) pa_nil)))) (pg_tup rfl (pgs_cons (pg_name (i := 3) sc_rests_on.nd rfl (Or.inl rfl)) (pgs_cons (pg_name (i := 4) sc_rests_on.nd rfl (Or.inl rfl)) pgs_nil))))
      (pss_one (ps_ret (pe_callB cr_sortedT (by rfl) T.free_sorted (by decide +kernel) (pa_cons (pv 4) pa_nil))))))
theorem ok_l_draws (T : Txt P w K mg) {fd : FuncData} (F : FunD K ("_law_draws" : Str) ("_law_draws" : Str) (defArgs s_l_draws) (defBody s_l_draws) (defScope s_l_draws) [] [] (He.ga K ("_law_draws" : Str)) fd) : Def P w K mg base 1 (He.ga K ("_law_draws" : Str)) fd ["script", "many"] (sp_l_draws K) := by
  refine ⟨F.ok (CX := L2.CX P w) sc_l_draws (fun vs H Q E h => ?_) (fun cdv A outer s H vs Q E hr h => ⟨t_l_draws K E, ?_, run_l_draws h⟩), F.bindsN fun _ _ _ _ _ _ us hl => match us, hl with | [_, _], _ => rfl, F.kp⟩
  · obtain ⟨_, _, rfl, _⟩ := h
    rfl
  · exact (pss_cons (ps_set (i := 2) sc_l_draws.nd rfl (Or.inl rfl) (pe_lst pa_nil))
      (pss_cons (ps_set (i := 3) sc_l_draws.nd rfl (Or.inl rfl) pe_int)
      (pss_cons (ps_for (passes_of rfl) rfl (pi_range1 (by rfl) T.free_range (pa_cons (pe_callB call_len (by rfl) T.free_len (by decide +kernel) (pa_cons (pv 0) pa_nil)) pa_nil)) (pg_name (i := 4) sc_l_draws.nd rfl (Or.inl rfl)) (pss_cons (ps_set (i := 5) sc_l_draws.nd rfl (Or.inl rfl) (pe_callB call_abs (by rfl) T.free_abs (by decide +kernel) (pa_cons (pe_callTy call_int1 (by rfl) T.free_int (by decide +kernel) (pa_cons (pe_ix ix_list (pv 0) (pv 4) (fun _ _ => rfl)) pa_nil)) pa_nil)))
      (pss_cons (ps_set (i := 3) sc_l_draws.nd rfl (Or.inl rfl) (pe_op op_mod (pe_callTy call_int1 (by rfl) T.free_int (by decide +kernel) (pa_cons (pe_op op_add (pe_op op_add (pe_op op_mul (pv 3) pe_int) (pe_op op_mod (pv 5) pe_int)) (pv 4)) pa_nil)) pe_int))
      (pss_cons (ps_set (i := 6) sc_l_draws.nd rfl (Or.inl rfl) pe_int)
      (pss_cons (ps_if (pt_cmpR op_ge (pv 5) (pe_op op_pow pe_int pe_int) (nomark _)) (pss_one (ps_set (i := 6) sc_l_draws.nd rfl (Or.inl rfl) (pv 5))) (pss_cons (ps_expr (pe_bm PySem.F.plainAttrs_list PySem.F.slot_list_append PySem.F.type_list_append mt_append (pv 2) (pa_cons (pe_op op_mod (pv 5) pe_int) pa_nil)))
      (pss_one (ps_expr (pe_bm PySem.F.plainAttrs_list PySem.F.slot_list_append PySem.F.type_list_append mt_append (pv 2) (pa_cons (pe_op op_mod (pe_op op_mod (pe_callTy call_int1 (by rfl) T.free_int (by decide +kernel) (pa_cons (pe_op op_add (pe_op op_mul (pv 3) pe_int) pe_int) pa_nil)) pe_int) pe_int) pa_nil))))))
      (pss_one (ps_for (passes_of rfl) rfl (pi_range1 (by rfl) T.free_range (pa_cons pe_int pa_nil)) (pg_name (i := 7) sc_l_draws.nd rfl (Or.inl rfl)) (pss_one (ps_if (pt_cmpR op_gt (pv 6) pe_int (nomark _)) (pss_cons (ps_expr (pe_bm PySem.F.plainAttrs_list PySem.F.slot_list_append PySem.F.type_list_append mt_append (pv 2) (pa_cons (pe_op op_mod (pe_callTy call_int1 (by rfl) T.free_int (by decide +kernel) (pa_cons (pv 6) pa_nil)) pe_int) pa_nil)))
      (pss_one (ps_set (i := 6) sc_l_draws.nd rfl (Or.inl rfl) (pe_op op_fdiv (pv 6) pe_int)))) pss_nil)))))))))
      (pss_cons (ps_for (passes_of rfl) rfl (pi_range1 (by rfl) T.free_range (pa_cons (pv 1) pa_nil)) (pg_name (i := 4) sc_l_draws.nd rfl (Or.inl rfl)) (pss_cons (ps_set (i := 3) sc_l_draws.nd rfl (Or.inl rfl) (pe_op op_mod (pe_callTy call_int1 (by rfl) T.free_int (by decide +kernel) (pa_cons (pe_op op_add (pe_op op_add (pe_op op_mul (pv 3) pe_int) (pv 4)) pe_int) pa_nil)) pe_int))
      (pss_one (ps_expr (pe_bm PySem.F.plainAttrs_list PySem.F.slot_list_append PySem.F.type_list_append mt_append (pv 2) (pa_cons (pe_op op_mod (pe_callTy call_int1 (by rfl) T.free_int (by decide +kernel) (pa_cons (pv 3) pa_nil)) pe_int) pa_nil))))))
      (pss_one (ps_ret (pe_slice sl_list (pv 2) po_none (po_some (pv 1)))))))))
theorem ok_l_take (T : Txt P w K mg) {fd : FuncData} (F : FunD K ("_law_take" : Str) ("_law_take" : Str) (defArgs s_l_take) (defBody s_l_take) (defScope s_l_take) [] [] (He.ga K ("_law_take" : Str)) fd) : Def P w K mg base 1 (He.ga K ("_law_take" : Str)) fd ["d"] (sp_l_take K) := by
  refine ⟨F.ok (CX := L2.CX P w) sc_l_take (fun vs H Q E h => ?_) (fun cdv A outer s H vs Q E hr h => ⟨t_l_take K E, ?_, run_l_take h⟩), F.bindsN fun _ _ _ _ _ _ us hl => match us, hl with | [_], _ => rfl, F.kp⟩
  · obtain ⟨_, rfl, _⟩ := h
    rfl
  · have hu := hu_of hr
    exact (pss_cons (ps_set (i := 1) sc_l_take.nd rfl (Or.inl rfl) (pe_dget hu (pv 0) pe_str (fun _ _ => rfl)))
      (pss_cons (ps_dput hu (pv 0) pe_str (pe_op op_add (pv 1) pe_int) rfl)
      (pss_one (ps_ret (pe_op op_add (pe_ix ix_list (pe_dget hu (pv 0) pe_str (fun _ _ => rfl)) (pe_op op_mod (pv 1) (pe_callB call_len (by rfl) T.free_len (by decide +kernel) (pa_cons (pe_dget hu (pv 0) pe_str (fun _ _ => rfl)) pa_nil))) (fun _ _ => rfl)) (pe_op op_fdiv (pv 1) (pe_callB call_len (by rfl) T.free_len (by decide +kernel) (pa_cons (pe_dget hu (pv 0) pe_str (fun _ _ => rfl)) pa_nil))))))))
theorem ok_l_start (T : Txt P w K mg) {fd : FuncData} (F : FunD K ("_law_start" : Str) ("_law_start" : Str) (defArgs s_l_start) (defBody s_l_start) (defScope s_l_start) [] [] (He.ga K ("_law_start" : Str)) fd) : Def P w K mg base 2 (He.ga K ("_law_start" : Str)) fd ["script"] (sp_l_start K) := by
  obtain ⟨fd_l_draws, F_l_draws⟩ := T.d_l_draws
  have G_l_draws := ok_l_draws (P := P) (w := w) (base := base) T F_l_draws
  refine ⟨F.ok (CX := L2.CX P w) sc_l_start (fun vs H Q E h => ?_) (fun cdv A outer s H vs Q E hr h => ⟨t_l_start K E, ?_, run_l_start h⟩), F.bindsN fun _ _ _ _ _ _ us hl => match us, hl with | [_], _ => rfl, F.kp⟩
  · obtain ⟨_, _, rfl, _⟩ := h
    rfl
  · exact (pss_one (ps_ret (pe_disp (pps_cons pe_str (pe_call G_l_draws.fn (hr.mono (by decide)) rfl T.glo__law_draws G_l_draws.kp G_l_draws.bd .nil (passE (takes_of rfl rfl rfl rfl)) (pa_cons (pv 0) (pa_cons pe_int pa_nil))) (pps_cons pe_str pe_int pps_nil)) (by rfl) (by rfl) (fun z => by cases z) (by decide))))
theorem ok_l_value (T : Txt P w K mg) {fd : FuncData} (F : FunD K ("_law_value" : Str) ("_law_value" : Str) (defArgs s_l_value) (defBody s_l_value) (defScope s_l_value) [] [] (He.ga K ("_law_value" : Str)) fd) : Def P w K mg base 2 (He.ga K ("_law_value" : Str)) fd ["d", "many"] (sp_l_value K) := by
  obtain ⟨fd_l_take, F_l_take⟩ := T.d_l_take
  have G_l_take := ok_l_take (P := P) (w := w) (base := base) T F_l_take
  refine ⟨F.ok (CX := L2.CX P w) sc_l_value (fun vs H Q E h => ?_) (fun cdv A outer s H vs Q E hr h => ⟨t_l_value K E, ?_, run_l_value h⟩), F.bindsN fun _ _ _ _ _ _ us hl => match us, hl with | [_, _], _ => rfl, F.kp⟩
  · obtain ⟨_, _, rfl, _⟩ := h
    rfl
  · exact (pss_cons (ps_set (i := 2) sc_l_value.nd rfl (Or.inl rfl) (pe_op op_mod (pe_call G_l_take.fn (hr.mono (by decide)) rfl T.glo__law_take G_l_take.kp G_l_take.bd .nil (passE (takes_of rfl rfl rfl rfl)) (pa_cons (pv 0) pa_nil)) pe_int))
      (pss_cons (ps_if (pt_cmpR op_lt (pv 2) pe_int (nomark _)) (pss_one (ps_ret (pe_tup (pa_cons pe_str (pa_cons (pe_op op_mod (pe_call G_l_take.fn (hr.mono (by decide)) rfl T.glo__law_take G_l_take.kp G_l_take.bd .nil (passE (takes_of rfl rfl rfl rfl)) (pa_cons (pv 0) pa_nil)) (pe_callB (call_max2 rfl) (by rfl) T.free_max (by decide +kernel) (pa_cons pe_int (pa_cons (pv 1) pa_nil)))) pa_nil))))) pss_nil)
      (pss_cons (ps_if (pt_cmpR op_eq (pv 2) pe_int (nomark _)) (pss_one (ps_ret (pe_tup (pa_cons pe_str (pa_cons (pe_ix ix_list (pe_lst (pa_cons pe_int (pa_cons pe_int (pa_cons pe_int (pa_cons pe_int (pa_cons (pe_un un_neg pe_int) (pa_cons (pe_op op_pow pe_int pe_int) pa_nil))))))) (pe_op op_mod (pe_call G_l_take.fn (hr.mono (by decide)) rfl T.glo__law_take G_l_take.kp G_l_take.bd .nil (passE (takes_of rfl rfl rfl rfl)) (pa_cons (pv 0) pa_nil)) pe_int) (fun _ _ => rfl)) pa_nil))))) pss_nil)
      (pss_cons (ps_if (pt_cmpR op_eq (pv 2) pe_int (nomark _)) (pss_one (ps_ret (pe_ix ix_list (pe_lst (pa_cons (pe_tup (pa_cons pe_str pa_nil)) (pa_cons (pe_tup (pa_cons pe_str pa_nil)) (pa_cons (pe_tup (pa_cons pe_str pa_nil)) pa_nil)))) (pe_op op_mod (pe_call G_l_take.fn (hr.mono (by decide)) rfl T.glo__law_take G_l_take.kp G_l_take.bd .nil (passE (takes_of rfl rfl rfl rfl)) (pa_cons (pv 0) pa_nil)) pe_int) (fun _ _ => rfl)))) pss_nil)
      (pss_cons (ps_if (pt_cmpR op_eq (pv 2) pe_int (nomark _)) (pss_one (ps_ret (pe_tup (pa_cons pe_str (pa_cons (pe_op op_mod (pe_call G_l_take.fn (hr.mono (by decide)) rfl T.glo__law_take G_l_take.kp G_l_take.bd .nil (passE (takes_of rfl rfl rfl rfl)) (pa_cons (pv 0) pa_nil)) pe_int) pa_nil))))) pss_nil)
      (pss_one (ps_ret (pe_tup (pa_cons pe_str pa_nil)))))))))
theorem ok_l_name (T : Txt P w K mg) {fd : FuncData} (F : FunD K ("_law_name" : Str) ("_law_name" : Str) (defArgs s_l_name) (defBody s_l_name) (defScope s_l_name) [] [] (He.ga K ("_law_name" : Str)) fd) : Def P w K mg base 2 (He.ga K ("_law_name" : Str)) fd ["d"] (sp_l_name K) := by
  obtain ⟨fd_l_take, F_l_take⟩ := T.d_l_take
  have G_l_take := ok_l_take (P := P) (w := w) (base := base) T F_l_take
  refine ⟨F.ok (CX := L2.CX P w) sc_l_name (fun vs H Q E h => ?_) (fun cdv A outer s H vs Q E hr h => ⟨t_l_name K E, ?_, run_l_name h⟩), F.bindsN fun _ _ _ _ _ _ us hl => match us, hl with | [_], _ => rfl, F.kp⟩
  · obtain ⟨_, rfl, _⟩ := h
    rfl
  · exact (pss_one (ps_ret (pe_ix ix_list (pe_lst (pa_cons pe_str (pa_cons pe_str (pa_cons pe_str (pa_cons pe_str (pa_cons pe_str (pa_cons pe_str pa_nil))))))) (pe_op op_mod (pe_call G_l_take.fn (hr.mono (by decide)) rfl T.glo__law_take G_l_take.kp G_l_take.bd .nil (passE (takes_of rfl rfl rfl rfl)) (pa_cons (pv 0) pa_nil)) pe_int) (fun _ _ => rfl))))
theorem ok_l_kind (T : Txt P w K mg) {fd : FuncData} (F : FunD K ("_law_kind" : Str) ("_law_kind" : Str) (defArgs s_l_kind) (defBody s_l_kind) (defScope s_l_kind) [] [] (He.ga K ("_law_kind" : Str)) fd) : Def P w K mg base 2 (He.ga K ("_law_kind" : Str)) fd ["d"] (sp_l_kind K) := by
  obtain ⟨fd_l_take, F_l_take⟩ := T.d_l_take
  have G_l_take := ok_l_take (P := P) (w := w) (base := base) T F_l_take
  refine ⟨F.ok (CX := L2.CX P w) sc_l_kind (fun vs H Q E h => ?_) (fun cdv A outer s H vs Q E hr h => ⟨t_l_kind K E, ?_, run_l_kind h⟩), F.bindsN fun _ _ _ _ _ _ us hl => match us, hl with | [_], _ => rfl, F.kp⟩
  · obtain ⟨_, rfl, _⟩ := h
    rfl
  · exact (pss_one (ps_ret (pe_ix ix_list (pe_lst (pa_cons pe_str (pa_cons pe_str (pa_cons pe_str (pa_cons pe_str (pa_cons pe_str (pa_cons pe_str (pa_cons pe_str pa_nil)))))))) (pe_op op_mod (pe_call G_l_take.fn (hr.mono (by decide)) rfl T.glo__law_take G_l_take.kp G_l_take.bd .nil (passE (takes_of rfl rfl rfl rfl)) (pa_cons (pv 0) pa_nil)) pe_int) (fun _ _ => rfl))))
theorem ok_l_put (T : Txt P w K mg) {fd : FuncData} (F : FunD K ("_law_put" : Str) ("_law_put" : Str) (defArgs s_l_put) (defBody s_l_put) (defScope s_l_put) [] [] (He.ga K ("_law_put" : Str)) fd) : Def P w K mg base 1 (He.ga K ("_law_put" : Str)) fd ["slots", "name", "kind", "value"] (sp_l_put K) := by
  refine ⟨F.ok (CX := L2.CX P w) sc_l_put (fun vs H Q E h => ?_) (fun cdv A outer s H vs Q E hr h => ⟨t_l_put K E, ?_, run_l_put h⟩), F.bindsN fun _ _ _ _ _ _ us hl => match us, hl with | [_, _, _, _], _ => rfl, F.kp⟩
  · obtain ⟨_, _, _, _, _, _, rfl, _⟩ := h
    rfl
  · exact (pss_cons (ps_for (passes_of rfl) rfl (pi_range1 (by rfl) T.free_range (pa_cons (pe_callB call_len (by rfl) T.free_len (by decide +kernel) (pa_cons (pv 0) pa_nil)) pa_nil)) (pg_name (i := 4) sc_l_put.nd rfl (Or.inl rfl)) (pss_one (ps_if (pt_cmpR op_eq (pe_ix ix_tup (pe_ix ix_tup (pv 0) (pv 4) (fun _ _ => rfl)) pe_int (fun _ _ => rfl)) (pv 1) (nomark _)) (pss_one (ps_ret (pe_op op_catA (pe_op op_catA (pe_slice sl_tupA (pv 0) po_none (po_some (pv 4))) (pe_tup (pa_cons (pe_tup (pa_cons (pv 1) (pa_cons (pv 2) (pa_cons (pv 3) pa_nil)))) pa_nil))) (pe_slice sl_tupA (pv 0) (po_some (pe_op op_add (pv 4) pe_int)) po_none)))) pss_nil)))
      (pss_one (ps_ret (pe_op op_catA (pv 0) (pe_tup (pa_cons (pe_tup (pa_cons (pv 1) (pa_cons (pv 2) (pa_cons (pv 3) pa_nil)))) pa_nil))))))
theorem ok_l_slots (T : Txt P w K mg) {fd : FuncData} (F : FunD K ("_law_slots" : Str) ("_law_slots" : Str) (defArgs s_l_slots) (defBody s_l_slots) (defScope s_l_slots) [] [] (He.ga K ("_law_slots" : Str)) fd) : Def P w K mg base 3 (He.ga K ("_law_slots" : Str)) fd ["d", "many"] (sp_l_slots K) := by
  obtain ⟨fd_l_take, F_l_take⟩ := T.d_l_take
  have G_l_take := ok_l_take (P := P) (w := w) (base := base) T F_l_take
  obtain ⟨fd_l_put, F_l_put⟩ := T.d_l_put
  have G_l_put := ok_l_put (P := P) (w := w) (base := base) T F_l_put
  obtain ⟨fd_l_name, F_l_name⟩ := T.d_l_name
  have G_l_name := ok_l_name (P := P) (w := w) (base := base) T F_l_name
  obtain ⟨fd_l_kind, F_l_kind⟩ := T.d_l_kind
  have G_l_kind := ok_l_kind (P := P) (w := w) (base := base) T F_l_kind
  obtain ⟨fd_l_value, F_l_value⟩ := T.d_l_value
  have G_l_value := ok_l_value (P := P) (w := w) (base := base) T F_l_value
  refine ⟨F.ok (CX := L2.CX P w) sc_l_slots (fun vs H Q E h => ?_) (fun cdv A outer s H vs Q E hr h => ⟨t_l_slots K E, ?_, run_l_slots h⟩), F.bindsN fun _ _ _ _ _ _ us hl => match us, hl with | [_, _], _ => rfl, F.kp⟩
  · obtain ⟨_, _, rfl, _⟩ := h
    rfl
  · exact (pss_cons (ps_set (i := 2) sc_l_slots.nd rfl (Or.inl rfl) (pe_tup pa_nil))
      (pss_cons (ps_for (passes_of rfl) rfl (pi_range1 (by rfl) T.free_range (pa_cons (pe_op op_mod (pe_call G_l_take.fn (hr.mono (by decide)) rfl T.glo__law_take G_l_take.kp G_l_take.bd .nil (passE (takes_of rfl rfl rfl rfl)) (pa_cons (pv 0) pa_nil)) pe_int) pa_nil)) (pg_name (i := 3) sc_l_slots.nd rfl (Or.inl rfl)) (pss_one (ps_set (i := 2) sc_l_slots.nd rfl (Or.inl rfl) (pe_call G_l_put.fn (hr.mono (by decide)) rfl T.glo__law_put G_l_put.kp G_l_put.bd .nil (passE (takes_of rfl rfl rfl rfl)) (pa_cons (pv 2) (pa_cons (pe_call G_l_name.fn (hr.mono (by decide)) rfl T.glo__law_name G_l_name.kp G_l_name.bd .nil (passE (takes_of rfl rfl rfl rfl)) (pa_cons (pv 0) pa_nil)) (pa_cons (pe_call G_l_kind.fn (hr.mono (by decide)) rfl T.glo__law_kind G_l_kind.kp G_l_kind.bd .nil (passE (takes_of rfl rfl rfl rfl)) (pa_cons (pv 0) pa_nil)) (pa_cons (pe_call G_l_value.fn (hr.mono (by decide)) rfl T.glo__law_value G_l_value.kp G_l_value.bd .nil (passE (takes_of rfl rfl rfl rfl)) (pa_cons (pv 0) (pa_cons (pv 1) pa_nil))) pa_nil))))))))
      (pss_one (ps_ret (pv 2)))))
theorem ok_l_world (T : Txt P w K mg) {fd : FuncData} (F : FunD K ("_law_world" : Str) ("_law_world" : Str) (defArgs s_l_world) (defBody s_l_world) (defScope s_l_world) [] [] (He.ga K ("_law_world" : Str)) fd) : Def P w K mg base 4 (He.ga K ("_law_world" : Str)) fd ["d", "objects", "many"] (sp_l_world K w) := by
  obtain ⟨fd_Objects_make, F_Objects_make⟩ := T.d_Objects_make
  have G_Objects_make := ok_Objects_make (P := P) (w := w) (base := base) T F_Objects_make
  obtain ⟨fd_l_slots, F_l_slots⟩ := T.d_l_slots
  have G_l_slots := ok_l_slots (P := P) (w := w) (base := base) T F_l_slots
  refine ⟨F.ok (CX := L2.CX P w) sc_l_world (fun vs H Q E h => ?_) (fun cdv A outer s H vs Q E hr h => ⟨t_l_world K w E, ?_, run_l_world h⟩), F.bindsN fun _ _ _ _ _ _ us hl => match us, hl with | [_, _, _], _ => rfl, F.kp⟩
  · obtain ⟨_, _, _, _, _, _, _, _, _, _, _, _, _, _, _, _, rfl, _⟩ := h
    rfl
  · exact (pss_one (ps_for (passes_of rfl) rfl (pi_range1 (by rfl) T.free_range (pa_cons (pv 2) pa_nil)) (pg_name (i := 3) sc_l_world.nd rfl (Or.inl rfl)) (pss_one (ps_expr (pe_meth (pv 1) T.cls_Objects T.meth_Objects_make G_Objects_make.fn (hr.mono (by decide)) G_Objects_make.bd .nil (passE (takes_of rfl rfl rfl rfl)) (pa_cons (pe_call G_l_slots.fn (hr.mono (by decide)) rfl T.glo__law_slots G_l_slots.kp G_l_slots.bd .nil (passE (takes_of rfl rfl rfl rfl)) (pa_cons (pv 0) (pa_cons (pe_op op_add (pv 2) pe_int) pa_nil))) pa_nil))))))
theorem ok_l_parents (T : Txt P w K mg) {fd : FuncData} (F : FunD K ("_law_parents" : Str) ("_law_parents" : Str) (defArgs s_l_parents) (defBody s_l_parents) (defScope s_l_parents) [] [] (He.ga K ("_law_parents" : Str)) fd) : Def P w K mg base 2 (He.ga K ("_law_parents" : Str)) fd ["objects", "one"] (sp_l_parents K) := by
  obtain ⟨fd_Objects_slots, F_Objects_slots⟩ := T.d_Objects_slots
  have G_Objects_slots := ok_Objects_slots (P := P) (w := w) (base := base) T F_Objects_slots
  refine ⟨F.ok (CX := L2.CX P w) sc_l_parents (fun vs H Q E h => ?_) (fun cdv A outer s H vs Q E hr h => ⟨t_l_parents K E, ?_, run_l_parents h⟩), F.bindsN fun _ _ _ _ _ _ us hl => match us, hl with | [_, _], _ => rfl, F.kp⟩
  · obtain ⟨_, _, _, _, _, _, _, rfl, _⟩ := h
    rfl
  · exact (pss_cons (ps_set (i := 2) sc_l_parents.nd rfl (Or.inl rfl) (pe_lst pa_nil))
      (pss_cons (ps_for (passes_of rfl) rfl (pi_tup (pe_meth (pv 0) T.cls_Objects T.meth_Objects_slots G_Objects_slots.fn (hr.mono (by decide)) G_Objects_slots.bd .nil (passE (takes_of rfl rfl rfl rfl)) (pa_cons (pv 1) pa_nil))) (pg_tup rfl (pgs_cons (pg_name (i := 3) sc_l_parents.nd rfl (Or.inl rfl)) (pgs_cons (pg_name (i := 4) sc_l_parents.nd rfl (Or.inl rfl)) (pgs_cons (pg_name (i := 5) sc_l_parents.nd rfl (Or.inl rfl)) pgs_nil)))) (pss_one (ps_if (PW.pt (pw_and (pt_cmpR op_in_seq (pv 4) (pe_tup (pa_cons pe_str (pa_cons pe_str pa_nil))) (by with_unfolding_all rfl)) (pw_and1 (pt_cmpR op_eq (pe_ix ix_tup (pv 5) pe_int (fun _ _ => rfl)) pe_str (nomark _))))) (pss_one (ps_expr (pe_bm PySem.F.plainAttrs_list PySem.F.slot_list_append PySem.F.type_list_append mt_append (pv 2) (pa_cons (pe_ix ix_tup (pv 5) pe_int (fun _ _ => rfl)) pa_nil)))) pss_nil)))
      (pss_one (ps_ret (pv 2)))))
theorem ok_l_place (T : Txt P w K mg) {fd : FuncData} (F : FunD K ("_law_place" : Str) ("_law_place" : Str) (defArgs s_l_place) (defBody s_l_place) (defScope s_l_place) [] [] (He.ga K ("_law_place" : Str)) fd) : Def P w K mg base 2 (He.ga K ("_law_place" : Str)) fd ["objects", "one", "name"] (sp_l_place K) := by
  obtain ⟨fd_Objects_slots, F_Objects_slots⟩ := T.d_Objects_slots
  have G_Objects_slots := ok_Objects_slots (P := P) (w := w) (base := base) T F_Objects_slots
  refine ⟨F.ok (CX := L2.CX P w) sc_l_place (fun vs H Q E h => ?_) (fun cdv A outer s H vs Q E hr h => ⟨t_l_place K E, ?_, run_l_place h⟩), F.bindsN fun _ _ _ _ _ _ us hl => match us, hl with | [_, _, _], _ => rfl, F.kp⟩
  · obtain ⟨_, _, _, _, _, _, _, rfl, _⟩ := h
    rfl
  · exact (pss_cons (ps_set (i := 3) sc_l_place.nd rfl (Or.inl rfl) (pe_meth (pv 0) T.cls_Objects T.meth_Objects_slots G_Objects_slots.fn (hr.mono (by decide)) G_Objects_slots.bd .nil (passE (takes_of rfl rfl rfl rfl)) (pa_cons (pv 1) pa_nil)))
      (pss_cons (ps_for (passes_of rfl) rfl (pi_range1 (by rfl) T.free_range (pa_cons (pe_callB call_len (by rfl) T.free_len (by decide +kernel) (pa_cons (pv 3) pa_nil)) pa_nil)) (pg_name (i := 4) sc_l_place.nd rfl (Or.inl rfl)) (pss_one (ps_if (pt_cmpR op_eq (pe_ix ix_tup (pe_ix ix_tup (pv 3) (pv 4) (fun _ _ => rfl)) pe_int (fun _ _ => rfl)) (pv 2) (nomark _)) (pss_one (ps_ret (pv 4))) pss_nil)))
      (pss_one (ps_ret (pe_un un_neg pe_int)))))
theorem ok_l_reach (T : Txt P w K mg) {fd : FuncData} (F : FunD K ("_law_reach" : Str) ("_law_reach" : Str) (defArgs s_l_reach) (defBody s_l_reach) (defScope s_l_reach) [] [] (He.ga K ("_law_reach" : Str)) fd) : Def P w K mg base 3 (He.ga K ("_law_reach" : Str)) fd ["objects", "starts", "name"] (sp_l_reach K) := by
  obtain ⟨fd_l_place, F_l_place⟩ := T.d_l_place
  have G_l_place := ok_l_place (P := P) (w := w) (base := base) T F_l_place
  obtain ⟨fd_l_parents, F_l_parents⟩ := T.d_l_parents
  have G_l_parents := ok_l_parents (P := P) (w := w) (base := base) T F_l_parents
  refine ⟨F.ok (CX := L2.CX P w) sc_l_reach (fun vs H Q E h => ?_) (fun cdv A outer s H vs Q E hr h => ⟨t_l_reach K E, ?_, run_l_reach h⟩), F.bindsN fun _ _ _ _ _ _ us hl => match us, hl with | [_, _, _], _ => rfl, F.kp⟩
  · obtain ⟨_, _, _, _, _, _, _, _, rfl, _⟩ := h
    rfl
  · exact (pss_cons (ps_set (i := 3) sc_l_reach.nd rfl (Or.inl rfl) (pe_lst pa_nil))
      (pss_cons (ps_set (i := 4) sc_l_reach.nd rfl (Or.inl rfl) (pe_callTy call_list_of (by rfl) T.free_list (by decide +kernel) (pa_cons (pv 1) pa_nil)))
      (pss_cons (ps_for (passes_of rfl) rfl (pi_range1 (by rfl) T.free_range (pa_cons pe_int pa_nil)) (pg_name (i := 5) sc_l_reach.nd rfl (Or.inl rfl)) (pss_one (ps_if (pt_cmpR (op_neD hr.units) (pv 4) (pe_lst pa_nil) (nomark _)) (pss_cons (ps_set (i := 6) sc_l_reach.nd rfl (Or.inl rfl) (pe_bm PySem.F.plainAttrs_list PySem.F.slot_list_pop PySem.F.type_list_pop mt_popAt (pv 4) (pa_cons pe_int pa_nil)))
      (pss_one (ps_if (pt_cmpR op_notIn_seq (pv 6) (pv 3) (by with_unfolding_all rfl)) (pss_cons (ps_expr (pe_bm PySem.F.plainAttrs_list PySem.F.slot_list_append PySem.F.type_list_append mt_append (pv 3) (pa_cons (pv 6) pa_nil)))
      (pss_one (ps_if (pt_cmpR op_lt (pe_call G_l_place.fn (hr.mono (by decide)) rfl T.glo__law_place G_l_place.kp G_l_place.bd .nil (passE (takes_of rfl rfl rfl rfl)) (pa_cons (pv 0) (pa_cons (pv 6) (pa_cons (pv 2) pa_nil)))) pe_int (nomark _)) (pss_one (ps_set (i := 4) sc_l_reach.nd rfl (Or.inl rfl) (pe_op op_cat (pv 4) (pe_call G_l_parents.fn (hr.mono (by decide)) rfl T.glo__law_parents G_l_parents.kp G_l_parents.bd .nil (passE (takes_of rfl rfl rfl rfl)) (pa_cons (pv 0) (pa_cons (pv 6) pa_nil)))))) pss_nil))) pss_nil))) pss_nil)))
      (pss_one (ps_ret (pe_callB cr_sortedI (by rfl) T.free_sorted (by decide +kernel) (pa_cons (pv 3) pa_nil)))))))
theorem ok_l_through (T : Txt P w K mg) {fd : FuncData} (F : FunD K ("_law_through" : Str) ("_law_through" : Str) (defArgs s_l_through) (defBody s_l_through) (defScope s_l_through) [] [] (He.ga K ("_law_through" : Str)) fd) : Def P w K mg base 4 (He.ga K ("_law_through" : Str)) fd ["objects", "starts", "name"] (sp_l_through K) := by
  obtain ⟨fd_l_reach, F_l_reach⟩ := T.d_l_reach
  have G_l_reach := ok_l_reach (P := P) (w := w) (base := base) T F_l_reach
  obtain ⟨fd_l_place, F_l_place⟩ := T.d_l_place
  have G_l_place := ok_l_place (P := P) (w := w) (base := base) T F_l_place
  refine ⟨F.ok (CX := L2.CX P w) sc_l_through (fun vs H Q E h => ?_) (fun cdv A outer s H vs Q E hr h => ⟨t_l_through K E, ?_, run_l_through h⟩), F.bindsN fun _ _ _ _ _ _ us hl => match us, hl with | [_, _, _], _ => rfl, F.kp⟩
  · obtain ⟨_, _, _, _, _, _, _, _, rfl, _⟩ := h
    rfl
  · exact (pss_cons (ps_setLc (i := 4) (own := [("one", 3)]) (g := (gName 3)) (tt := (tTest (tOp rGeI (tCall (sp_l_place K) [] E0 (tCons (tVar 0) (tCons (tVar 3) (tCons (tVar 2) tNil)))) (tC (.int 0))))) rfl sc_l_through.nd rfl rfl (sw_true rfl rfl rfl (by decide +kernel)) (pi_list (pe_call G_l_reach.fn (hr.mono (by decide)) rfl T.glo__law_reach G_l_reach.kp G_l_reach.bd .nil (passE (takes_of rfl rfl rfl rfl)) (pa_cons (pv 0) (pa_cons (pv 1) (pa_cons (pv 2) pa_nil))))) (blkOk_by (N := ns_l_through) (sc := defScope s_l_through) (by decide +kernel)) (fun _ _ _ _ _ => (pg_name (i := 3) sc_l_through.nd rfl (Or.inl rfl))) (fun _ _ _ _ _ => (pts_one (pt_cmpR op_ge (pe_call G_l_place.fn (hr.mono (by decide)) rfl T.glo__law_place G_l_place.kp G_l_place.bd .nil (passes_call takes0 fun _ _ _ _ h => h) (pa_cons (pv 0) (pa_cons (pv 3) (pa_cons (pv 2) pa_nil)))) pe_int (nomark _)))) (fun _ _ _ _ _ => (pv 3)))
      (pss_cons (ps_if (pt_cmpR (op_eqD hr.units) (pv 4) (pe_lst pa_nil) (nomark _)) (pss_one (ps_ret (pe_tup (pa_cons pe_str pa_nil)))) pss_nil)
      (pss_cons (ps_if (pt_cmpR op_gt (pe_callB call_len (by rfl) T.free_len (by decide +kernel) (pa_cons (pv 4) pa_nil)) pe_int (nomark _)) (pss_one (ps_ret (pe_tup (pa_cons pe_str pa_nil)))) pss_nil)
      (pss_one (ps_ret (pe_tup (pa_cons pe_str (pa_cons (pe_ix ix_list (pv 4) pe_int (fun _ _ => rfl)) (pa_cons (pe_call G_l_place.fn (hr.mono (by decide)) rfl T.glo__law_place G_l_place.kp G_l_place.bd .nil (passE (takes_of rfl rfl rfl rfl)) (pa_cons (pv 0) (pa_cons (pe_ix ix_list (pv 4) pe_int (fun _ _ => rfl)) (pa_cons (pv 2) pa_nil)))) pa_nil)))))))))
theorem ok_l_answer (T : Txt P w K mg) {fd : FuncData} (F : FunD K ("_law_answer" : Str) ("_law_answer" : Str) (defArgs s_l_answer) (defBody s_l_answer) (defScope s_l_answer) [] [] (He.ga K ("_law_answer" : Str)) fd) : Def P w K mg base 5 (He.ga K ("_law_answer" : Str)) fd ["objects", "one", "name"] (sp_l_answer K) := by
  obtain ⟨fd_l_place, F_l_place⟩ := T.d_l_place
  have G_l_place := ok_l_place (P := P) (w := w) (base := base) T F_l_place
  obtain ⟨fd_l_through, F_l_through⟩ := T.d_l_through
  have G_l_through := ok_l_through (P := P) (w := w) (base := base) T F_l_through
  obtain ⟨fd_l_parents, F_l_parents⟩ := T.d_l_parents
  have G_l_parents := ok_l_parents (P := P) (w := w) (base := base) T F_l_parents
  refine ⟨F.ok (CX := L2.CX P w) sc_l_answer (fun vs H Q E h => ?_) (fun cdv A outer s H vs Q E hr h => ⟨t_l_answer K E, ?_, run_l_answer h⟩), F.bindsN fun _ _ _ _ _ _ us hl => match us, hl with | [_, _, _], _ => rfl, F.kp⟩
  · obtain ⟨_, _, _, _, _, _, _, rfl, _⟩ := h
    rfl
  · exact (pss_cons (ps_set (i := 3) sc_l_answer.nd rfl (Or.inl rfl) (pe_call G_l_place.fn (hr.mono (by decide)) rfl T.glo__law_place G_l_place.kp G_l_place.bd .nil (passE (takes_of rfl rfl rfl rfl)) (pa_cons (pv 0) (pa_cons (pv 1) (pa_cons (pv 2) pa_nil)))))
      (pss_cons (ps_if (pt_cmpR op_ge (pv 3) pe_int (nomark _)) (pss_one (ps_ret (pe_tup (pa_cons pe_str (pa_cons (pv 3) pa_nil))))) pss_nil)
      (pss_one (ps_ret (pe_call G_l_through.fn (hr.mono (by decide)) rfl T.glo__law_through G_l_through.kp G_l_through.bd .nil (passE (takes_of rfl rfl rfl rfl)) (pa_cons (pv 0) (pa_cons (pe_call G_l_parents.fn (hr.mono (by decide)) rfl T.glo__law_parents G_l_parents.kp G_l_parents.bd .nil (passE (takes_of rfl rfl rfl rfl)) (pa_cons (pv 0) (pa_cons (pv 1) pa_nil))) (pa_cons (pv 2) pa_nil))))))))
theorem ok_l_change (T : Txt P w K mg) {fd : FuncData} (F : FunD K ("_law_change" : Str) ("_law_change" : Str) (defArgs s_l_change) (defBody s_l_change) (defScope s_l_change) [] [] (He.ga K ("_law_change" : Str)) fd) : Def P w K mg base 3 (He.ga K ("_law_change" : Str)) fd ["d", "objects", "ids"] (sp_l_change K w) := by
  obtain ⟨fd_l_take, F_l_take⟩ := T.d_l_take
  have G_l_take := ok_l_take (P := P) (w := w) (base := base) T F_l_take
  obtain ⟨fd_l_name, F_l_name⟩ := T.d_l_name
  have G_l_name := ok_l_name (P := P) (w := w) (base := base) T F_l_name
  obtain ⟨fd_Objects_slot, F_Objects_slot⟩ := T.d_Objects_slot
  have G_Objects_slot := ok_Objects_slot (P := P) (w := w) (base := base) T F_Objects_slot
  obtain ⟨fd_Objects_drop, F_Objects_drop⟩ := T.d_Objects_drop
  have G_Objects_drop := ok_Objects_drop (P := P) (w := w) (base := base) T F_Objects_drop
  obtain ⟨fd_Objects_assign, F_Objects_assign⟩ := T.d_Objects_assign
  have G_Objects_assign := ok_Objects_assign (P := P) (w := w) (base := base) T F_Objects_assign
  obtain ⟨fd_l_value, F_l_value⟩ := T.d_l_value
  have G_l_value := ok_l_value (P := P) (w := w) (base := base) T F_l_value
  obtain ⟨fd_Objects_put, F_Objects_put⟩ := T.d_Objects_put
  have G_Objects_put := ok_Objects_put (P := P) (w := w) (base := base) T F_Objects_put
  obtain ⟨fd_l_kind, F_l_kind⟩ := T.d_l_kind
  have G_l_kind := ok_l_kind (P := P) (w := w) (base := base) T F_l_kind
  refine ⟨F.ok (CX := L2.CX P w) sc_l_change (fun vs H Q E h => ?_) (fun cdv A outer s H vs Q E hr h => ⟨t_l_change K w E, ?_, run_l_change h⟩), F.bindsN fun _ _ _ _ _ _ us hl => match us, hl with | [_, _, _], _ => rfl, F.kp⟩
  · obtain ⟨_, _, _, _, _, _, _, _, _, _, _, _, _, _, _, _, _, rfl, _⟩ := h
    rfl
  · exact (pss_cons (ps_set (i := 3) sc_l_change.nd rfl (Or.inl rfl) (pe_ix ix_list (pv 2) (pe_op op_mod (pe_call G_l_take.fn (hr.mono (by decide)) rfl T.glo__law_take G_l_take.kp G_l_take.bd .nil (passE (takes_of rfl rfl rfl rfl)) (pa_cons (pv 0) pa_nil)) (pe_callB call_len (by rfl) T.free_len (by decide +kernel) (pa_cons (pv 2) pa_nil))) (fun _ _ => rfl)))
      (pss_cons (ps_set (i := 4) sc_l_change.nd rfl (Or.inl rfl) (pe_call G_l_name.fn (hr.mono (by decide)) rfl T.glo__law_name G_l_name.kp G_l_name.bd .nil (passE (takes_of rfl rfl rfl rfl)) (pa_cons (pv 0) pa_nil)))
      (pss_cons (ps_set (i := 5) sc_l_change.nd rfl (Or.inl rfl) (pe_meth (pv 1) T.cls_Objects T.meth_Objects_slot G_Objects_slot.fn (hr.mono (by decide)) G_Objects_slot.bd .nil (passE (takes_of rfl rfl rfl rfl)) (pa_cons (pv 3) (pa_cons (pv 4) pa_nil))))
      (pss_cons (ps_set (i := 6) sc_l_change.nd rfl (Or.inl rfl) (pe_op op_mod (pe_call G_l_take.fn (hr.mono (by decide)) rfl T.glo__law_take G_l_take.kp G_l_take.bd .nil (passE (takes_of rfl rfl rfl rfl)) (pa_cons (pv 0) pa_nil)) pe_int))
      (pss_cons (ps_if (pt_cmpR op_eq (pv 6) pe_int (nomark _)) (pss_cons (ps_expr (pe_meth (pv 1) T.cls_Objects T.meth_Objects_drop G_Objects_drop.fn (hr.mono (by decide)) G_Objects_drop.bd .nil (passE (takes_of rfl rfl rfl rfl)) (pa_cons (pv 3) (pa_cons (pv 4) pa_nil))))
      (pss_one (ps_ret (pe_tup (pa_cons (pv 3) (pa_cons (pe_cmpR op_notN (pv 5) pe_non (nomark _)) pa_nil)))))) pss_nil)
      (pss_cons (ps_if (PW.pt (pw_and (pt_cmpR op_lt (pv 6) pe_int (nomark _)) (pw_and (pt_cmpR op_notN (pv 5) pe_non (nomark _)) (pw_and1 (pt_cmpR op_in_seq (pe_ix ix_tup (pv 5) pe_int (fun _ _ => rfl)) (pe_tup (pa_cons pe_str (pa_cons pe_str pa_nil))) (by with_unfolding_all rfl)))))) (pss_cons (ps_expr (pe_meth (pv 1) T.cls_Objects T.meth_Objects_assign G_Objects_assign.fn (hr.mono (by decide)) G_Objects_assign.bd .nil (passE (takes_of rfl rfl rfl rfl)) (pa_cons (pv 3) (pa_cons (pv 4) (pa_cons (pe_call G_l_value.fn (hr.mono (by decide)) rfl T.glo__law_value G_l_value.kp G_l_value.bd .nil (passE (takes_of rfl rfl rfl rfl)) (pa_cons (pv 0) (pa_cons (pe_callB call_len (by rfl) T.free_len (by decide +kernel) (pa_cons (pv 2) pa_nil)) pa_nil))) pa_nil)))))
      (pss_one (ps_ret (pe_tup (pa_cons (pv 3) (pa_cons (pe_cmpR op_eq (pe_ix ix_tup (pv 5) pe_int (fun _ _ => rfl)) pe_str (nomark _)) pa_nil)))))) pss_nil)
      (pss_cons (ps_expr (pe_meth (pv 1) T.cls_Objects T.meth_Objects_put G_Objects_put.fn (hr.mono (by decide)) G_Objects_put.bd .nil (passE (takes_of rfl rfl rfl rfl)) (pa_cons (pv 3) (pa_cons (pv 4) (pa_cons (pe_call G_l_kind.fn (hr.mono (by decide)) rfl T.glo__law_kind G_l_kind.kp G_l_kind.bd .nil (passE (takes_of rfl rfl rfl rfl)) (pa_cons (pv 0) pa_nil)) (pa_cons (pe_call G_l_value.fn (hr.mono (by decide)) rfl T.glo__law_value G_l_value.kp G_l_value.bd .nil (passE (takes_of rfl rfl rfl rfl)) (pa_cons (pv 0) (pa_cons (pe_callB call_len (by rfl) T.free_len (by decide +kernel) (pa_cons (pv 2) pa_nil)) pa_nil))) pa_nil))))))
      (pss_one (ps_ret (pe_tup (pa_cons (pv 3) (pa_cons pe_bl pa_nil))))))))))))
theorem ok_l_var (T : Txt P w K mg) {fd : FuncData} (F : FunD K ("_law_var" : Str) ("_law_var" : Str) (defArgs s_l_var) (defBody s_l_var) (defScope s_l_var) [] [] (He.ga K ("_law_var" : Str)) fd) : Def P w K mg base 3 (He.ga K ("_law_var" : Str)) fd ["d", "objects", "ids"] (sp_l_var K w) := by
  obtain ⟨fd_l_take, F_l_take⟩ := T.d_l_take
  have G_l_take := ok_l_take (P := P) (w := w) (base := base) T F_l_take
  obtain ⟨fd_Objects_slots, F_Objects_slots⟩ := T.d_Objects_slots
  have G_Objects_slots := ok_Objects_slots (P := P) (w := w) (base := base) T F_Objects_slots
  obtain ⟨fd_Objects_assign, F_Objects_assign⟩ := T.d_Objects_assign
  have G_Objects_assign := ok_Objects_assign (P := P) (w := w) (base := base) T F_Objects_assign
  obtain ⟨fd_l_value, F_l_value⟩ := T.d_l_value
  have G_l_value := ok_l_value (P := P) (w := w) (base := base) T F_l_value
  refine ⟨F.ok (CX := L2.CX P w) sc_l_var (fun vs H Q E h => ?_) (fun cdv A outer s H vs Q E hr h => ⟨t_l_var K w E, ?_, run_l_var h⟩), F.bindsN fun _ _ _ _ _ _ us hl => match us, hl with | [_, _, _], _ => rfl, F.kp⟩
  · obtain ⟨_, _, _, _, _, _, _, _, _, _, _, _, _, _, _, _, rfl, _⟩ := h
    rfl
  · exact (pss_cons (ps_set (i := 3) sc_l_var.nd rfl (Or.inl rfl) (pe_ix ix_list (pv 2) (pe_op op_mod (pe_call G_l_take.fn (hr.mono (by decide)) rfl T.glo__law_take G_l_take.kp G_l_take.bd .nil (passE (takes_of rfl rfl rfl rfl)) (pa_cons (pv 0) pa_nil)) (pe_callB call_len (by rfl) T.free_len (by decide +kernel) (pa_cons (pv 2) pa_nil))) (fun _ _ => rfl)))
      (pss_one (ps_for (passes_of rfl) rfl (pi_tup (pe_meth (pv 1) T.cls_Objects T.meth_Objects_slots G_Objects_slots.fn (hr.mono (by decide)) G_Objects_slots.bd .nil (passE (takes_of rfl rfl rfl rfl)) (pa_cons (pv 3) pa_nil))) (pg_tup rfl (pgs_cons (pg_name (i := 4) sc_l_var.nd rfl (Or.inl rfl)) (pgs_cons (pg_name (i := 5) sc_l_var.nd rfl (Or.inl rfl)) (pgs_cons (pg_name (i := 6) sc_l_var.nd rfl (Or.inl rfl)) pgs_nil)))) (pss_one (ps_if (pt_cmpR op_eq (pv 5) pe_str (nomark _)) (pss_one (ps_expr (pe_meth (pv 1) T.cls_Objects T.meth_Objects_assign G_Objects_assign.fn (hr.mono (by decide)) G_Objects_assign.bd .nil (passE (takes_of rfl rfl rfl rfl)) (pa_cons (pv 3) (pa_cons (pv 4) (pa_cons (pe_call G_l_value.fn (hr.mono (by decide)) rfl T.glo__law_value G_l_value.kp G_l_value.bd .nil (passE (takes_of rfl rfl rfl rfl)) (pa_cons (pv 0) (pa_cons (pe_callB call_len (by rfl) T.free_len (by decide +kernel) (pa_cons (pv 2) pa_nil)) pa_nil))) pa_nil)))))) pss_nil)))))
theorem ok_l_question (T : Txt P w K mg) {fd : FuncData} (F : FunD K ("_law_question" : Str) ("_law_question" : Str) (defArgs s_l_question) (defBody s_l_question) (defScope s_l_question) [] [] (He.ga K ("_law_question" : Str)) fd) : Def P w K mg base 6 (He.ga K ("_law_question" : Str)) fd ["d", "objects", "shapes"] (sp_l_question K w) := by
  obtain ⟨fd_Objects_ids, F_Objects_ids⟩ := T.d_Objects_ids
  have G_Objects_ids := ok_Objects_ids (P := P) (w := w) (base := base) T F_Objects_ids
  obtain ⟨fd_l_take, F_l_take⟩ := T.d_l_take
  have G_l_take := ok_l_take (P := P) (w := w) (base := base) T F_l_take
  obtain ⟨fd_l_name, F_l_name⟩ := T.d_l_name
  have G_l_name := ok_l_name (P := P) (w := w) (base := base) T F_l_name
  obtain ⟨fd_key_of, F_key_of⟩ := T.d_key_of
  have G_key_of := ok_key_of (P := P) (w := w) (base := base) T F_key_of
  obtain ⟨fd_l_answer, F_l_answer⟩ := T.d_l_answer
  have G_l_answer := ok_l_answer (P := P) (w := w) (base := base) T F_l_answer
  obtain ⟨fd_rests_on, F_rests_on⟩ := T.d_rests_on
  have G_rests_on := ok_rests_on (P := P) (w := w) (base := base) T F_rests_on
  obtain ⟨fd_l_var, F_l_var⟩ := T.d_l_var
  have G_l_var := ok_l_var (P := P) (w := w) (base := base) T F_l_var
  obtain ⟨fd_l_change, F_l_change⟩ := T.d_l_change
  have G_l_change := ok_l_change (P := P) (w := w) (base := base) T F_l_change
  refine ⟨F.ok (CX := L2.CX P w) sc_l_question (fun vs H Q E h => ?_) (fun cdv A outer s H vs Q E hr h => ⟨t_l_question K w E, ?_, run_l_question h⟩), F.bindsN fun _ _ _ _ _ _ us hl => match us, hl with | [_, _, _], _ => rfl, F.kp⟩
  · obtain ⟨_, _, _, _, _, _, _, _, _, _, _, _, _, _, _, rfl, _⟩ := h
    rfl
  · exact (pss_cons (ps_set (i := 3) sc_l_question.nd rfl (Or.inl rfl) (pe_meth0 (pv 1) T.cls_Objects T.meth_Objects_ids G_Objects_ids.fn (hr.mono (by decide)) G_Objects_ids.bd .nil (passE (takes_of rfl rfl rfl rfl))))
      (pss_cons (ps_set (i := 4) sc_l_question.nd rfl (Or.inl rfl) (pe_ix ix_list (pv 3) (pe_op op_mod (pe_call G_l_take.fn (hr.mono (by decide)) rfl T.glo__law_take G_l_take.kp G_l_take.bd .nil (passE (takes_of rfl rfl rfl rfl)) (pa_cons (pv 0) pa_nil)) (pe_callB call_len (by rfl) T.free_len (by decide +kernel) (pa_cons (pv 3) pa_nil))) (fun _ _ => rfl)))
      (pss_cons (ps_set (i := 5) sc_l_question.nd rfl (Or.inl rfl) (pe_call G_l_name.fn (hr.mono (by decide)) rfl T.glo__law_name G_l_name.kp G_l_name.bd .nil (passE (takes_of rfl rfl rfl rfl)) (pa_cons (pv 0) pa_nil)))
      (pss_cons (ps_set (i := 6) sc_l_question.nd rfl (Or.inl rfl) (pe_call G_key_of.fn (hr.mono (by decide)) rfl T.glo_key_of G_key_of.kp G_key_of.bd .nil (passE (takes_of rfl rfl rfl rfl)) (pa_cons (pv 1) (pa_cons (pv 2) (pa_cons (pv 5) (pa_cons (pv 4) pa_nil))))))
      (pss_cons (ps_set (i := 7) sc_l_question.nd rfl (Or.inl rfl) (pe_call G_l_answer.fn (hr.mono (by decide)) rfl T.glo__law_answer G_l_answer.kp G_l_answer.bd .nil (passE (takes_of rfl rfl rfl rfl)) (pa_cons (pv 1) (pa_cons (pv 4) (pa_cons (pv 5) pa_nil)))))
      (pss_cons (ps_set (i := 8) sc_l_question.nd rfl (Or.inr rfl) (pe_call G_rests_on.fn (hr.mono (by decide)) rfl T.glo_rests_on G_rests_on.kp G_rests_on.bd .nil (passE (takes_of rfl rfl rfl rfl)) (pa_cons (pv 1) (pa_cons (pv 5) (pa_cons (pv 4) pa_nil)))))
      (pss_cons (ps_setLc (i := 10) (own := [("one", 9)]) (g := (gName 9)) (tt := (tTest (tOp (rIn K true) (tVar 9) (tVar 8)))) rfl sc_l_question.nd rfl rfl (sw_true rfl rfl rfl (by decide +kernel)) (pi_list (pv 3)) (blkOk_by (N := ns_l_question) (sc := defScope s_l_question) (by decide +kernel)) (fun _ _ _ _ _ => (pg_name (i := 9) sc_l_question.nd rfl (Or.inl rfl))) (fun _ _ _ _ _ => (pts_one (pt_cmpR op_notIn_seq (pv 9) (pv 8) (by with_unfolding_all rfl)))) (fun _ _ _ _ _ => (pv 9)))
      (pss_cons (ps_for (passes_of rfl) rfl (pi_range1 (by rfl) T.free_range (pa_cons pe_int pa_nil)) (pg_name (i := 11) sc_l_question.nd rfl (Or.inl rfl)) (pss_cons (ps_if (PW.pt (pw_or (pt_cmpR (op_eqD hr.units) (pv 10) (pe_lst pa_nil) (nomark _)) (pw_or1 (pt_cmpR op_eq (pe_op op_mod (pe_call G_l_take.fn (hr.mono (by decide)) rfl T.glo__law_take G_l_take.kp G_l_take.bd .nil (passE (takes_of rfl rfl rfl rfl)) (pa_cons (pv 0) pa_nil)) pe_int) pe_int (nomark _))))) (pss_one (ps_expr (pe_call G_l_var.fn (hr.mono (by decide)) rfl T.glo__law_var G_l_var.kp G_l_var.bd .nil (passE (takes_of rfl rfl rfl rfl)) (pa_cons (pv 0) (pa_cons (pv 1) (pa_cons (pv 3) pa_nil)))))) (pss_one (ps_expr (pe_call G_l_change.fn (hr.mono (by decide)) rfl T.glo__law_change G_l_change.kp G_l_change.bd .nil (passE (takes_of rfl rfl rfl rfl)) (pa_cons (pv 0) (pa_cons (pv 1) (pa_cons (pv 10) pa_nil)))))))
      (pss_one (ps_for (passes_of rfl) rfl (pi_list (pv 3)) (pg_name (i := 9) sc_l_question.nd rfl (Or.inl rfl)) (pss_one (ps_if (PW.pt (pw_and (pt_cmpR (op_eqD hr.units) (pe_call G_key_of.fn (hr.mono (by decide)) rfl T.glo_key_of G_key_of.kp G_key_of.bd .nil (passE (takes_of rfl rfl rfl rfl)) (pa_cons (pv 1) (pa_cons (pv 2) (pa_cons (pv 5) (pa_cons (pv 9) pa_nil))))) (pv 6) (nomark _)) (pw_and1 (pt_cmpR (op_neD hr.units) (pe_call G_l_answer.fn (hr.mono (by decide)) rfl T.glo__law_answer G_l_answer.kp G_l_answer.bd .nil (passE (takes_of rfl rfl rfl rfl)) (pa_cons (pv 1) (pa_cons (pv 9) (pa_cons (pv 5) pa_nil)))) (pv 7) (nomark _))))) (pss_one (ps_ret pe_bl)) pss_nil))))))
      (pss_one (ps_ret pe_bl))))))))))
theorem ok_law (T : Txt P w K mg) {fd : FuncData} (F : FunD K ("law" : Str) ("law" : Str) (defArgs s_law) (defBody s_law) (defScope s_law) [] [] (He.ga K ("law" : Str)) fd) : Def P w K mg base 7 (He.ga K ("law" : Str)) fd ["script"] (sp_law K) := by
  obtain ⟨fd_l_start, F_l_start⟩ := T.d_l_start
  have G_l_start := ok_l_start (P := P) (w := w) (base := base) T F_l_start
  obtain ⟨fd_Objects_init, F_Objects_init⟩ := T.d_Objects_init
  have G_Objects_init := ok_Objects_init (P := P) (w := w) (base := base) T F_Objects_init
  obtain ⟨fd_Shapes_init, F_Shapes_init⟩ := T.d_Shapes_init
  have G_Shapes_init := ok_Shapes_init (P := P) (w := w) (base := base) T F_Shapes_init
  obtain ⟨fd_l_world, F_l_world⟩ := T.d_l_world
  have G_l_world := ok_l_world (P := P) (w := w) (base := base) T F_l_world
  obtain ⟨fd_l_take, F_l_take⟩ := T.d_l_take
  have G_l_take := ok_l_take (P := P) (w := w) (base := base) T F_l_take
  obtain ⟨fd_l_question, F_l_question⟩ := T.d_l_question
  have G_l_question := ok_l_question (P := P) (w := w) (base := base) T F_l_question
  refine ⟨F.ok (CX := L2.CX P w) sc_law (fun vs H Q E h => ?_) (fun cdv A outer s H vs Q E hr h => ⟨t_law K w E, ?_, run_law T.sk h⟩), F.bindsN fun _ _ _ _ _ _ us hl => match us, hl with | [_], _ => rfl, F.kp⟩
  · obtain ⟨_, _, rfl, _⟩ := h
    rfl
  · exact (pss_cons (ps_set (i := 1) sc_law.nd rfl (Or.inl rfl) (pe_call G_l_start.fn (hr.mono (by decide)) rfl T.glo__law_start G_l_start.kp G_l_start.bd .nil (passE (takes_of rfl rfl rfl rfl)) (pa_cons (pv 0) pa_nil)))
      (pss_cons (ps_for (passes_of rfl) rfl (pi_range1 (by rfl) T.free_range (pa_cons pe_int pa_nil)) (pg_name (i := 2) sc_law.nd rfl (Or.inl rfl)) (pss_cons (ps_set (i := 3) sc_law.nd rfl (Or.inl rfl) (pe_make0 T.mkr_Objects G_Objects_init.fn (hr.mono (by decide)) rfl T.glo_Objects G_Objects_init.bd .nil (passE (takes_of rfl rfl rfl rfl))))
      (pss_cons (ps_set (i := 4) sc_law.nd rfl (Or.inl rfl) (pe_make0 T.mkr_Shapes G_Shapes_init.fn (hr.mono (by decide)) rfl T.glo_Shapes G_Shapes_init.bd .nil (passE (takes_of rfl rfl rfl rfl))))
      (pss_cons (ps_expr (pe_call G_l_world.fn (hr.mono (by decide)) rfl T.glo__law_world G_l_world.kp G_l_world.bd .nil (passE (takes_of rfl rfl rfl rfl)) (pa_cons (pv 1) (pa_cons (pv 3) (pa_cons (pe_op op_add pe_int (pe_op op_mod (pe_call G_l_take.fn (hr.mono (by decide)) rfl T.glo__law_take G_l_take.kp G_l_take.bd .nil (passE (takes_of rfl rfl rfl rfl)) (pa_cons (pv 1) pa_nil)) pe_int)) pa_nil)))))
      (pss_one (ps_for (passes_of rfl) rfl (pi_range1 (by rfl) T.free_range (pa_cons pe_int pa_nil)) (pg_name (i := 5) sc_law.nd rfl (Or.inl rfl)) (pss_one (ps_if (pt_not (pt_val (pe_call G_l_question.fn (hr.mono (by decide)) rfl T.glo__law_question G_l_question.kp G_l_question.bd .nil (passE (takes_of rfl rfl rfl rfl)) (pa_cons (pv 1) (pa_cons (pv 3) (pa_cons (pv 4) pa_nil)))))) (pss_one (ps_ret pe_bl)) pss_nil))))))))
      (pss_one (ps_ret pe_bl))))
end
def fn : List He.DefD := [⟨(("fixed_value" : Str), none), ("fixed_value" : Str), ("fixed_value" : Str), defArgs s_fixed_value, defBody s_fixed_value, defScope s_fixed_value, [], []⟩,
  ⟨(("row_of" : Str), none), ("row_of" : Str), ("row_of" : Str), defArgs s_row_of, defBody s_row_of, defScope s_row_of, [], []⟩,
  ⟨(("Shapes" : Str), some ("number_of" : Str)), ("number_of" : Str), ("Shapes.number_of" : Str), defArgs s_Shapes_number_of, defBody s_Shapes_number_of, defScope s_Shapes_number_of, [], []⟩,
  ⟨(("Shapes" : Str), some ("__init__" : Str)), ("__init__" : Str), ("Shapes.__init__" : Str), defArgs s_Shapes_init, defBody s_Shapes_init, defScope s_Shapes_init, [], []⟩,
  ⟨(("Shapes" : Str), some ("shape_of" : Str)), ("shape_of" : Str), ("Shapes.shape_of" : Str), defArgs s_Shapes_shape_of, defBody s_Shapes_shape_of, defScope s_Shapes_shape_of, [], []⟩,
  ⟨(("Shapes" : Str), some ("free_parents" : Str)), ("free_parents" : Str), ("Shapes.free_parents" : Str), defArgs s_Shapes_free_parents, defBody s_Shapes_free_parents, defScope s_Shapes_free_parents, [], []⟩,
  ⟨(("Objects" : Str), some ("slot" : Str)), ("slot" : Str), ("Objects.slot" : Str), defArgs s_Objects_slot, defBody s_Objects_slot, defScope s_Objects_slot, [], []⟩,
  ⟨(("Objects" : Str), some ("put" : Str)), ("put" : Str), ("Objects.put" : Str), defArgs s_Objects_put, defBody s_Objects_put, defScope s_Objects_put, [], []⟩,
  ⟨(("Objects" : Str), some ("drop" : Str)), ("drop" : Str), ("Objects.drop" : Str), defArgs s_Objects_drop, defBody s_Objects_drop, defScope s_Objects_drop, [], []⟩,
  ⟨(("Objects" : Str), some ("assign" : Str)), ("assign" : Str), ("Objects.assign" : Str), defArgs s_Objects_assign, defBody s_Objects_assign, defScope s_Objects_assign, [], []⟩,
  ⟨(("Objects" : Str), some ("parents" : Str)), ("parents" : Str), ("Objects.parents" : Str), defArgs s_Objects_parents, defBody s_Objects_parents, defScope s_Objects_parents, [], []⟩,
  ⟨(("Objects" : Str), some ("make" : Str)), ("make" : Str), ("Objects.make" : Str), defArgs s_Objects_make, defBody s_Objects_make, defScope s_Objects_make, [], []⟩,
  ⟨(("Objects" : Str), some ("__init__" : Str)), ("__init__" : Str), ("Objects.__init__" : Str), defArgs s_Objects_init, defBody s_Objects_init, defScope s_Objects_init, [], []⟩,
  ⟨(("Objects" : Str), some ("slots" : Str)), ("slots" : Str), ("Objects.slots" : Str), defArgs s_Objects_slots, defBody s_Objects_slots, defScope s_Objects_slots, [], []⟩,
  ⟨(("Objects" : Str), some ("ids" : Str)), ("ids" : Str), ("Objects.ids" : Str), defArgs s_Objects_ids, defBody s_Objects_ids, defScope s_Objects_ids, [], []⟩,
  ⟨(("outcome_of" : Str), none), ("outcome_of" : Str), ("outcome_of" : Str), defArgs s_outcome_of, defBody s_outcome_of, defScope s_outcome_of, [], []⟩,
  ⟨(("search" : Str), none), ("search" : Str), ("search" : Str), defArgs s_search, defBody s_search, defScope s_search, [], []⟩,
  ⟨(("key_of" : Str), none), ("key_of" : Str), ("key_of" : Str), defArgs s_key_of, defBody s_key_of, defScope s_key_of, [], []⟩,
  ⟨(("rests_on" : Str), none), ("rests_on" : Str), ("rests_on" : Str), defArgs s_rests_on, defBody s_rests_on, defScope s_rests_on, [], []⟩,
  ⟨(("_law_draws" : Str), none), ("_law_draws" : Str), ("_law_draws" : Str), defArgs s_l_draws, defBody s_l_draws, defScope s_l_draws, [], []⟩,
  ⟨(("_law_take" : Str), none), ("_law_take" : Str), ("_law_take" : Str), defArgs s_l_take, defBody s_l_take, defScope s_l_take, [], []⟩,
  ⟨(("_law_start" : Str), none), ("_law_start" : Str), ("_law_start" : Str), defArgs s_l_start, defBody s_l_start, defScope s_l_start, [], []⟩,
  ⟨(("_law_value" : Str), none), ("_law_value" : Str), ("_law_value" : Str), defArgs s_l_value, defBody s_l_value, defScope s_l_value, [], []⟩,
  ⟨(("_law_name" : Str), none), ("_law_name" : Str), ("_law_name" : Str), defArgs s_l_name, defBody s_l_name, defScope s_l_name, [], []⟩,
  ⟨(("_law_kind" : Str), none), ("_law_kind" : Str), ("_law_kind" : Str), defArgs s_l_kind, defBody s_l_kind, defScope s_l_kind, [], []⟩,
  ⟨(("_law_put" : Str), none), ("_law_put" : Str), ("_law_put" : Str), defArgs s_l_put, defBody s_l_put, defScope s_l_put, [], []⟩,
  ⟨(("_law_slots" : Str), none), ("_law_slots" : Str), ("_law_slots" : Str), defArgs s_l_slots, defBody s_l_slots, defScope s_l_slots, [], []⟩,
  ⟨(("_law_world" : Str), none), ("_law_world" : Str), ("_law_world" : Str), defArgs s_l_world, defBody s_l_world, defScope s_l_world, [], []⟩,
  ⟨(("_law_parents" : Str), none), ("_law_parents" : Str), ("_law_parents" : Str), defArgs s_l_parents, defBody s_l_parents, defScope s_l_parents, [], []⟩,
  ⟨(("_law_place" : Str), none), ("_law_place" : Str), ("_law_place" : Str), defArgs s_l_place, defBody s_l_place, defScope s_l_place, [], []⟩,
  ⟨(("_law_reach" : Str), none), ("_law_reach" : Str), ("_law_reach" : Str), defArgs s_l_reach, defBody s_l_reach, defScope s_l_reach, [], []⟩,
  ⟨(("_law_through" : Str), none), ("_law_through" : Str), ("_law_through" : Str), defArgs s_l_through, defBody s_l_through, defScope s_l_through, [], []⟩,
  ⟨(("_law_answer" : Str), none), ("_law_answer" : Str), ("_law_answer" : Str), defArgs s_l_answer, defBody s_l_answer, defScope s_l_answer, [], []⟩,
  ⟨(("_law_change" : Str), none), ("_law_change" : Str), ("_law_change" : Str), defArgs s_l_change, defBody s_l_change, defScope s_l_change, [], []⟩,
  ⟨(("_law_var" : Str), none), ("_law_var" : Str), ("_law_var" : Str), defArgs s_l_var, defBody s_l_var, defScope s_l_var, [], []⟩,
  ⟨(("_law_question" : Str), none), ("_law_question" : Str), ("_law_question" : Str), defArgs s_l_question, defBody s_l_question, defScope s_l_question, [], []⟩,
  ⟨(("law" : Str), none), ("law" : Str), ("law" : Str), defArgs s_law, defBody s_law, defScope s_law, [], []⟩]
def fa : List He.Fa := [.glo ("FIXED" : Str),
  .free ("tuple" : Str),
  .glo ("fixed_value" : Str),
  .free ("len" : Str),
  .cls ("Shapes" : Str),
  .meth ("Shapes" : Str) ("number_of" : Str),
  .glo ("row_of" : Str),
  .free ("enumerate" : Str),
  .str ("FREE_PARENT" : Str) ("varparent" : Str),
  .glo ("PARENT_KINDS" : Str),
  .cls ("Objects" : Str),
  .meth ("Objects" : Str) ("put" : Str),
  .int ("LOBBY" : Str) 0,
  .meth ("Objects" : Str) ("make" : Str),
  .free ("list" : Str),
  .meth ("Objects" : Str) ("slot" : Str),
  .meth ("Objects" : Str) ("parents" : Str),
  .glo ("outcome_of" : Str),
  .meth ("Objects" : Str) ("slots" : Str),
  .meth ("Shapes" : Str) ("shape_of" : Str),
  .meth ("Shapes" : Str) ("free_parents" : Str),
  .glo ("search" : Str),
  .free ("sorted" : Str),
  .free ("range" : Str),
  .free ("abs" : Str),
  .free ("int" : Str),
  .glo ("_law_draws" : Str),
  .glo ("_law_take" : Str),
  .free ("max" : Str),
  .glo ("_law_name" : Str),
  .glo ("_law_kind" : Str),
  .glo ("_law_value" : Str),
  .glo ("_law_put" : Str),
  .glo ("_law_slots" : Str),
  .glo ("_law_place" : Str),
  .glo ("_law_parents" : Str),
  .glo ("_law_reach" : Str),
  .glo ("_law_through" : Str),
  .meth ("Objects" : Str) ("drop" : Str),
  .meth ("Objects" : Str) ("assign" : Str),
  .meth ("Objects" : Str) ("ids" : Str),
  .glo ("key_of" : Str),
  .glo ("_law_answer" : Str),
  .glo ("rests_on" : Str),
  .glo ("_law_var" : Str),
  .glo ("_law_change" : Str),
  .glo ("_law_start" : Str),
  .glo ("Objects" : Str),
  .mkr ("Objects" : Str),
  .glo ("Shapes" : Str),
  .mkr ("Shapes" : Str),
  .glo ("_law_world" : Str),
  .glo ("_law_question" : Str),
  .glo ("law" : Str),
  .noat ("Shapes" : Str) ("ways_used" : Str),
  .noat ("Shapes" : Str) ("rows" : Str),
  .noat ("Shapes" : Str) ("numbers" : Str),
  .noat ("Shapes" : Str) ("ways" : Str),
  .noat ("Objects" : Str) ("table" : Str),
  .noat ("Objects" : Str) ("next_id" : Str)]
def dc : DcL := []
def exs : List (PySem.W.Frag → Bool) := [fun K => tupM K "FIXED" fixM, fun K => tupM K "PARENT_KINDS" ["parent", "varparent"]]
abbrev ex : PySem.W.Frag → Bool := allOf exs
def ce : List (Str × CelW) := []
theorem txt_mk {P : Program} {w : World} {K : PySem.W.Frag} {h : Heap} {mg : Str → Option Value} (X : K.In h) (G : h.Ns mainGlobals mg) (c : SaysG fa fn ce dc ex w K) : Txt P w K mg where
  glo_FIXED := He.glo_ok X G (c.fact 0 (f := .glo ("FIXED" : Str)) rfl)
  free_tuple := He.free_ok X G (c.fact 1 (f := .free ("tuple" : Str)) rfl)
  glo_fixed_value := He.glo_ok X G (c.fact 2 (f := .glo ("fixed_value" : Str)) rfl)
  free_len := He.free_ok X G (c.fact 3 (f := .free ("len" : Str)) rfl)
  cls_Shapes := He.cls_ok (c.fact 4 (f := .cls ("Shapes" : Str)) rfl)
  meth_Shapes_number_of := He.meth_ok (c.fact 5 (f := .meth ("Shapes" : Str) ("number_of" : Str)) rfl)
  glo_row_of := He.glo_ok X G (c.fact 6 (f := .glo ("row_of" : Str)) rfl)
  free_enumerate := He.free_ok X G (c.fact 7 (f := .free ("enumerate" : Str)) rfl)
  str_FREE_PARENT := He.str_ok X G (c.fact 8 (f := .str ("FREE_PARENT" : Str) ("varparent" : Str)) rfl)
  glo_PARENT_KINDS := He.glo_ok X G (c.fact 9 (f := .glo ("PARENT_KINDS" : Str)) rfl)
  cls_Objects := He.cls_ok (c.fact 10 (f := .cls ("Objects" : Str)) rfl)
  meth_Objects_put := He.meth_ok (c.fact 11 (f := .meth ("Objects" : Str) ("put" : Str)) rfl)
  int_LOBBY := He.int_ok X G (c.fact 12 (f := .int ("LOBBY" : Str) 0) rfl)
  meth_Objects_make := He.meth_ok (c.fact 13 (f := .meth ("Objects" : Str) ("make" : Str)) rfl)
  free_list := He.free_ok X G (c.fact 14 (f := .free ("list" : Str)) rfl)
  meth_Objects_slot := He.meth_ok (c.fact 15 (f := .meth ("Objects" : Str) ("slot" : Str)) rfl)
  meth_Objects_parents := He.meth_ok (c.fact 16 (f := .meth ("Objects" : Str) ("parents" : Str)) rfl)
  glo_outcome_of := He.glo_ok X G (c.fact 17 (f := .glo ("outcome_of" : Str)) rfl)
  meth_Objects_slots := He.meth_ok (c.fact 18 (f := .meth ("Objects" : Str) ("slots" : Str)) rfl)
  meth_Shapes_shape_of := He.meth_ok (c.fact 19 (f := .meth ("Shapes" : Str) ("shape_of" : Str)) rfl)
  meth_Shapes_free_parents := He.meth_ok (c.fact 20 (f := .meth ("Shapes" : Str) ("free_parents" : Str)) rfl)
  glo_search := He.glo_ok X G (c.fact 21 (f := .glo ("search" : Str)) rfl)
  free_sorted := He.free_ok X G (c.fact 22 (f := .free ("sorted" : Str)) rfl)
  free_range := He.free_ok X G (c.fact 23 (f := .free ("range" : Str)) rfl)
  free_abs := He.free_ok X G (c.fact 24 (f := .free ("abs" : Str)) rfl)
  free_int := He.free_ok X G (c.fact 25 (f := .free ("int" : Str)) rfl)
  glo__law_draws := He.glo_ok X G (c.fact 26 (f := .glo ("_law_draws" : Str)) rfl)
  glo__law_take := He.glo_ok X G (c.fact 27 (f := .glo ("_law_take" : Str)) rfl)
  free_max := He.free_ok X G (c.fact 28 (f := .free ("max" : Str)) rfl)
  glo__law_name := He.glo_ok X G (c.fact 29 (f := .glo ("_law_name" : Str)) rfl)
  glo__law_kind := He.glo_ok X G (c.fact 30 (f := .glo ("_law_kind" : Str)) rfl)
  glo__law_value := He.glo_ok X G (c.fact 31 (f := .glo ("_law_value" : Str)) rfl)
  glo__law_put := He.glo_ok X G (c.fact 32 (f := .glo ("_law_put" : Str)) rfl)
  glo__law_slots := He.glo_ok X G (c.fact 33 (f := .glo ("_law_slots" : Str)) rfl)
  glo__law_place := He.glo_ok X G (c.fact 34 (f := .glo ("_law_place" : Str)) rfl)
  glo__law_parents := He.glo_ok X G (c.fact 35 (f := .glo ("_law_parents" : Str)) rfl)
  glo__law_reach := He.glo_ok X G (c.fact 36 (f := .glo ("_law_reach" : Str)) rfl)
  glo__law_through := He.glo_ok X G (c.fact 37 (f := .glo ("_law_through" : Str)) rfl)
  meth_Objects_drop := He.meth_ok (c.fact 38 (f := .meth ("Objects" : Str) ("drop" : Str)) rfl)
  meth_Objects_assign := He.meth_ok (c.fact 39 (f := .meth ("Objects" : Str) ("assign" : Str)) rfl)
  meth_Objects_ids := He.meth_ok (c.fact 40 (f := .meth ("Objects" : Str) ("ids" : Str)) rfl)
  glo_key_of := He.glo_ok X G (c.fact 41 (f := .glo ("key_of" : Str)) rfl)
  glo__law_answer := He.glo_ok X G (c.fact 42 (f := .glo ("_law_answer" : Str)) rfl)
  glo_rests_on := He.glo_ok X G (c.fact 43 (f := .glo ("rests_on" : Str)) rfl)
  glo__law_var := He.glo_ok X G (c.fact 44 (f := .glo ("_law_var" : Str)) rfl)
  glo__law_change := He.glo_ok X G (c.fact 45 (f := .glo ("_law_change" : Str)) rfl)
  glo__law_start := He.glo_ok X G (c.fact 46 (f := .glo ("_law_start" : Str)) rfl)
  glo_Objects := He.glo_ok X G (c.fact 47 (f := .glo ("Objects" : Str)) rfl)
  mkr_Objects := He.mkr_ok (c.fact 48 (f := .mkr ("Objects" : Str)) rfl)
  glo_Shapes := He.glo_ok X G (c.fact 49 (f := .glo ("Shapes" : Str)) rfl)
  mkr_Shapes := He.mkr_ok (c.fact 50 (f := .mkr ("Shapes" : Str)) rfl)
  glo__law_world := He.glo_ok X G (c.fact 51 (f := .glo ("_law_world" : Str)) rfl)
  glo__law_question := He.glo_ok X G (c.fact 52 (f := .glo ("_law_question" : Str)) rfl)
  glo_law := He.glo_ok X G (c.fact 53 (f := .glo ("law" : Str)) rfl)
  noat_Shapes_ways_used := He.noat_ok (c.fact 54 (f := .noat ("Shapes" : Str) ("ways_used" : Str)) rfl)
  noat_Shapes_rows := He.noat_ok (c.fact 55 (f := .noat ("Shapes" : Str) ("rows" : Str)) rfl)
  noat_Shapes_numbers := He.noat_ok (c.fact 56 (f := .noat ("Shapes" : Str) ("numbers" : Str)) rfl)
  noat_Shapes_ways := He.noat_ok (c.fact 57 (f := .noat ("Shapes" : Str) ("ways" : Str)) rfl)
  noat_Objects_table := He.noat_ok (c.fact 58 (f := .noat ("Objects" : Str) ("table" : Str)) rfl)
  noat_Objects_next_id := He.noat_ok (c.fact 59 (f := .noat ("Objects" : Str) ("next_id" : Str)) rfl)
  d_fixed_value := c.def_ 0 rfl
  d_row_of := c.def_ 1 rfl
  d_Shapes_number_of := c.def_ 2 rfl
  d_Shapes_init := c.def_ 3 rfl
  d_Shapes_shape_of := c.def_ 4 rfl
  d_Shapes_free_parents := c.def_ 5 rfl
  d_Objects_slot := c.def_ 6 rfl
  d_Objects_put := c.def_ 7 rfl
  d_Objects_drop := c.def_ 8 rfl
  d_Objects_assign := c.def_ 9 rfl
  d_Objects_parents := c.def_ 10 rfl
  d_Objects_make := c.def_ 11 rfl
  d_Objects_init := c.def_ 12 rfl
  d_Objects_slots := c.def_ 13 rfl
  d_Objects_ids := c.def_ 14 rfl
  d_outcome_of := c.def_ 15 rfl
  d_search := c.def_ 16 rfl
  d_key_of := c.def_ 17 rfl
  d_rests_on := c.def_ 18 rfl
  d_l_draws := c.def_ 19 rfl
  d_l_take := c.def_ 20 rfl
  d_l_start := c.def_ 21 rfl
  d_l_value := c.def_ 22 rfl
  d_l_name := c.def_ 23 rfl
  d_l_kind := c.def_ 24 rfl
  d_l_put := c.def_ 25 rfl
  d_l_slots := c.def_ 26 rfl
  d_l_world := c.def_ 27 rfl
  d_l_parents := c.def_ 28 rfl
  d_l_place := c.def_ 29 rfl
  d_l_reach := c.def_ 30 rfl
  d_l_through := c.def_ 31 rfl
  d_l_answer := c.def_ 32 rfl
  d_l_change := c.def_ 33 rfl
  d_l_var := c.def_ 34 rfl
  d_l_question := c.def_ 35 rfl
  d_law := c.def_ 36 rfl
  fx := fun H => tupM_ok (allOf_at c.more 0 rfl) H
  pk := fun H => tupM_ok (allOf_at c.more 1 rfl) H
abbrev R : PySem.W.OpenRow := PySem.W.OpenLaw.row PySem.Challenge.rw_reaimed_k45_only_what_is_rested_on_matte
abbrev hk : PySem.W.Hook := hookG 4 fa fn ce dc ex
def ob (s : PySem.W.SharedT) : AlG := obsGG 4 fa fn ce dc ex (HandSHeadRun.getT s)
theorem ob_eq (s : PySem.W.SharedT) : ob s = hk.obs s.abs := obsGG_eq (HandSHeadRun.getT_eq s)
def names : List PySem.Str := [("_wall" : Str), ("search" : Str), ("outcome_of" : Str), ("key_of" : Str), ("rests_on" : Str), ("PARENT_KINDS" : Str), ("LOBBY" : Str), ("Objects" : Str), ("FIXED" : Str), ("FREE_PARENT" : Str), ("row_of" : Str), ("fixed_value" : Str), ("Shapes" : Str), ("_law_draws" : Str), ("_law_take" : Str), ("_law_start" : Str), ("_law_value" : Str), ("_law_name" : Str), ("_law_kind" : Str), ("_law_put" : Str), ("_law_drop" : Str), ("_law_slots" : Str), ("_law_world" : Str), ("_law_parents" : Str), ("_law_place" : Str), ("_law_reach" : Str), ("_law_through" : Str), ("_law_answer" : Str), ("_law_change" : Str), ("_law_var" : Str), ("_law_question" : Str)]
theorem run (w : World) : HandSHeadRun.RunEq R (PySem.W.view R.prog [36]) hk ob 12000 names w := fun _ => by kernel_rfl
theorem facts {P : Program} {w : World} {K : PySem.W.Frag} {h : Heap} {mg : Str → Option Value} {f : Addr} (X : K.In h) (G : h.Ns mainGlobals mg) (hfa : mg ("law" : Str) = some (.ref f)) (c : SaysG fa fn ce dc ex w K) :
    ∃ fd : FuncData, (∀ (s : Shared) (v : Value), BindsTo s fd ⟨[v], []⟩ [("script", v)]) ∧ ∀ base : Heap, K.In base → base.Ns mainGlobals mg → FnOk P w K mg base (L2.CX P w) 7 f fd ["script"] (sp_law K) := by
  have T : Txt P w K mg := txt_mk X G c
  obtain ⟨fd, F⟩ := T.d_law
  have e := hfa.symm.trans (He.glo_ok X G (c.fact 53 (f := .glo "law") rfl))
  cases e
  have b := FunD.bindsA (ps := ["script"]) F fun _ _ _ _ _ _ us hl => match us, hl with | [_], _ => rfl
  refine ⟨fd, fun s v => b s [v] rfl, fun base _ _ => ?_⟩
  exact (ok_law (P := P) (w := w) (base := base) T F).fn
end Rm.U.K44.K45.W45
open PySem PySem.W PySem.Calls PyProof.Rows
theorem PySem.Challenge.cw_reaimed_k45_only_what_is_rested_on_matte_holds : PySem.Challenge.rw_reaimed_k45_only_what_is_rested_on_matte.Holds := by
  w_on
  o_law
  refine HandSHeadRun.head_any (r := OpenLaw.row PySem.Challenge.rw_reaimed_k45_only_what_is_rested_on_matte) (q := view (OpenLaw.row PySem.Challenge.rw_reaimed_k45_only_what_is_rested_on_matte).prog [36]) (H := Rm.U.K44.K45.W45.hk) (ob := Rm.U.K44.K45.W45.ob) (M := 12000)
    (loose := Rm.U.K44.K45.W45.names) (d := HandSHeadRun.topDef (OpenLaw.row PySem.Challenge.rw_reaimed_k45_only_what_is_rested_on_matte).prog 36) (kwd := []) Rm.U.K44.K45.W45.ob_eq (by kernel_rfl) (fun _ => by kernel_rfl) Rm.U.K44.K45.W45.run
    (by kernel_rfl) (by kernel_rfl) (by kernel_rfl) (by rfl) (by first | assumption | decide +kernel) (by decide +kernel) ⟨rfl, rfl, rfl, rfl, rfl, by decide +kernel⟩ ?hw ?hc
  case hw => w_witness2
  case hc =>
    refine Rm.walk_law (l := PySem.Challenge.rw_reaimed_k45_only_what_is_rested_on_matte) (n := 63) (k := 7) (x := "script") rfl (by decide) (by kernel_rfl) ⟨rfl, by decide, by decide⟩ fun w mg fa h Y G hmg0 => ?_
    obtain ⟨K, KX, c⟩ := Y
    have hmg : mg ("law" : PySem.Str) = some (.ref fa) := by
      have e : (HandSHeadRun.topDef (OpenLaw.row PySem.Challenge.rw_reaimed_k45_only_what_is_rested_on_matte).prog 36).name = ("law" : PySem.Str) := by kernel_rfl
      rw [← e]
      exact hmg0
    obtain ⟨fd, hb, hF⟩ := Rm.U.K44.K45.W45.facts (P := (PySem.Challenge.rw_reaimed_k45_only_what_is_rested_on_matte).prog) (w := w) KX G hmg c
    exact ⟨K, fd, _, KX, hb, fun H a ns hl _ hS => ⟨a, ns, rfl, hS, hl, fun _ => rfl⟩, hF⟩
