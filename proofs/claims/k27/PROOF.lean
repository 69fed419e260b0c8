import PyProof.Rows.All
import Wide.All
import OpenK.AllK
import Wide.FinOn
import HandS.ForMost
import HandS.More
import HandS.StrMore
import HandS.IsInst
import HandS.Exc
import HandS.ExcOwn
import HandS.ExcInit
import HandS.TryOnly
import HandS.Defaults
import HandS.LawCells
import HandS.TupAny
import HandS.WordsExc
import HandS.Head0
import HandS.Head1
import HandS.Head2
import HandS.HeadEnd
import HandS.HeadHook1
import HandS.HeadHook2
import KE.KExcSuper
import HandS.FStr
import HandS.HeadWalk
import HandS.ExcField
import HandS.ExcIs
import HandS.TryMany
import KE.KExcIs
import HandS.CallLocal
import HandS.Nested
import HandS.Iter
import HandS.Conv
import HandS.Style
import KE.KDictList
import KE.KeyNested
import HandS.Walk
import KE.GoesMore
import HandS.Deep
import HandS.TupMul
import HandS.Star
import PySem.Challenge.RW_reaimed_k27_long_chains
set_option Elab.async false
set_option linter.all false
set_option maxRecDepth 100000
set_option maxHeartbeats 4000000
/-! B0: readings by short names; a def that keeps a promise; the law's draws. -/
namespace Rm
open PySem PySem.Spec PyProof.Rows L2
/-! ### readings of operations, by short names -/
abbrev rAddI : R2 := rI0 fun i j => .int (i + j)
abbrev rSubI : R2 := rI0 fun i j => .int (i - j)
abbrev rMulI : R2 := rI CMul fun i j => .int (i * j)
abbrev rFdivI : R2 := rI CDiv fun i j => .int (i / j)
abbrev rModI : R2 := rI (fun _ j => 0 < j) fun i j => .int (i % j)
abbrev rPowI : R2 := rI CPow fun i j => .int (i ^ j.toNat)
abbrev rLtI : R2 := rI0 fun i j => .bl (decide (i < j))
abbrev rLeI : R2 := rI0 fun i j => .bl (decide (i ≤ j))
abbrev rGtI : R2 := rI0 fun i j => .bl (decide (j < i))
abbrev rGeI : R2 := rI0 fun i j => .bl (decide (j ≤ i))
abbrev rNegI : V → Hp → VK → Prop := rU fun i => .int (-i)
def rInS : R2 := fun x y H Q => ∃ i j, x = .str i ∧ y = .str j ∧ Q (.bl (!(Builtin.Str.occurrences j i 0 j.length 1).isEmpty)) H
def rNotInS : R2 := fun x y H Q => ∃ i j, x = .str i ∧ y = .str j ∧ Q (.bl (!(!(Builtin.Str.occurrences j i 0 j.length 1).isEmpty))) H
def rInSign : R2 := fun x y H Q => ∃ (c : Nat) (z : Str), x = .str ⟨#[c]⟩ ∧ y = .str z ∧ Q (.bl (decide (c ∈ z.cps.toList))) H
def rNotInSign : R2 := fun x y H Q => ∃ (c : Nat) (z : Str), x = .str ⟨#[c]⟩ ∧ y = .str z ∧ Q (.bl (!decide (c ∈ z.cps.toList))) H
def rIsN : R2 := fun x y H Q => y = .non ∧ Q (.bl (decide (x = .non))) H
def rNotN : R2 := fun x y H Q => y = .non ∧ Q (.bl (!decide (x = .non))) H
abbrev RM := V → List V → Hp → VK → Prop
abbrev RC := List V → Hp → VK → Prop
def rIsascii : RM := fun x xs H Q => ∃ a, x = .str a ∧ xs = [] ∧ True ∧ Q (.bl (Txt.isascii a)) H
def rIsalpha : RM := fun x xs H Q => ∃ a, x = .str a ∧ xs = [] ∧ True ∧ Q (.bl (Txt.isalpha a)) H
def rIsdigit : RM := fun x xs H Q => ∃ a, x = .str a ∧ xs = [] ∧ True ∧ Q (.bl (Txt.isdigit a)) H
def rCount : RM := fun x xs H Q => ∃ a b, x = .str a ∧ xs = [.str b] ∧ Q (.int (Txt.count a b)) H
def rRfind : RM := fun x xs H Q => ∃ a b, x = .str a ∧ xs = [.str b] ∧ Q (.int (Txt.rfind a b)) H
def rFind : RM := fun x xs H Q => ∃ a b, x = .str a ∧ xs = [.str b] ∧ Q (.int (Txt.find a b)) H
def rFind3 : RM := fun x xs H Q => ∃ (a b : Str) (i : Int), x = .str a ∧ xs = [.str b, .int i] ∧ Q (.int (Txt.find3 a b i)) H
def rStartswith : RM := fun x xs H Q => ∃ a b, x = .str a ∧ xs = [.str b] ∧ Q (.bl (Txt.startswith a b)) H
def rEndswith : RM := fun x xs H Q => ∃ a b, x = .str a ∧ xs = [.str b] ∧ Q (.bl (Txt.endswith a b)) H
def rIntS : RC := fun xs H Q => ∃ a n, xs = [.str a] ∧ PySem.intText? a = some n ∧ a.length ≤ 640 ∧ Q (.int n) H
def rInt1 : RC := fun xs H Q => (∃ i, xs = [.int i] ∧ Q (.int i) H) ∨ ∃ k, xs = [.bl k] ∧ Q (.int (if k then 1 else 0)) H
def rMin2 : RC := fun xs H Q => ∃ i j, xs = [.int i, .int j] ∧ Q (.int (if j < i then j else i)) H
def rMax2 : RC := fun xs H Q => ∃ i j, xs = [.int i, .int j] ∧ Q (.int (if j > i then j else i)) H
def rTupleOf (K : PySem.W.Frag) : RC := fun xs H Q => ∃ p ys, xs = [.ref p] ∧ ((SqL K H p ys ∧ ∀ l, H l = none → Q (.ref l) (upd H l (.tup ys))) ∨ (SqT K H p ys ∧ Q (.ref p) H))
def rLenD : RC := fun xs H Q => ∃ a kvs, xs = [V.ref a] ∧ H a = some (.dK kvs) ∧ Q (.int kvs.length) H
abbrev oNone : TO := tNoPart
abbrev oSome (t : TE) : TO := tPart t
/-! ### a def that keeps its promise -/
structure Def (P : Program) (w : World) (K : PySem.W.Frag) (mg : Str → Option Value) (base : Heap) (k : Nat) (f : Addr) (fd : FuncData) (ps : List Str) (sp : Sp) : Prop where
  fn : FnOk P w K mg base (L2.CX P w) k f fd ps sp
  bd : Binds K fd ps []
  kp : PySem.W.keepIn K (.ref f) = true
/-- what a callee may let out, at a caller that wishes the same -/
theorem passE {X : Cx} {E : XK} (tk : Takes X (fun cls d _ H => E cls d H)) : Passes (L2.CX X.prog X.w) X E := passes_call tk fun _ _ _ _ h => h
/-! ### the law's draws: {"row": a list of ints, "at": i, "seed": s} -/
abbrev kRow : Key := Sum.inr ("row" : Str)
abbrev kAt : Key := Sum.inr ("at" : Str)
abbrev kSeed : Key := Sum.inr ("seed" : Str)
def drK (r : Addr) (i s : Int) : List (Key × V) := [(kRow, .ref r), (kAt, .int i), (kSeed, .int s)]
theorem kRA : ¬ kRow = kAt := by decide +kernel
theorem kRS : ¬ kRow = kSeed := by decide +kernel
theorem kAS : ¬ kAt = kSeed := by decide +kernel
theorem kSA : ¬ kSeed = kAt := by decide +kernel
theorem drK_at (r : Addr) (i s : Int) : valV (drK r i s) kAt = some (.int i) := by
  unfold drK
  rw [valV_neg (p := (kRow, V.ref r)) kRA, valV_pos (p := (kAt, V.int i)) rfl]
theorem drK_row (r : Addr) (i s : Int) : valV (drK r i s) kRow = some (.ref r) := by
  unfold drK
  rw [valV_pos (p := (kRow, V.ref r)) rfl]
theorem drK_seed (r : Addr) (i s : Int) : valV (drK r i s) kSeed = some (.int s) := by
  unfold drK
  rw [valV_neg (p := (kRow, V.ref r)) kRS, valV_neg (p := (kAt, V.int i)) kAS, valV_pos (p := (kSeed, V.int s)) rfl]
theorem drK_put (r : Addr) (i j s : Int) : putK (drK r i s) kAt (.int j) = drK r j s := by
  unfold putK
  rw [valV_any, drK_at, if_pos (show (some (V.int i)).isSome = true from rfl)]
  unfold drK
  rw [List.map_cons, List.map_cons, List.map_cons, List.map_nil, if_neg kRA, if_pos rfl, if_neg kSA]
theorem drK_len (r : Addr) (i s : Int) : (drK r i s).length < sizeLine := by
  show 3 < sizeLine
  decide
theorem drK_merge (p : Addr) (i s : Int) : mergeK [] (drK p i s) = drK p i s := by
  have e1 : putK [] kRow (V.ref p) = [(kRow, V.ref p)] := putK_new _ rfl
  have e2 : putK [(kRow, V.ref p)] kAt (V.int i) = [(kRow, V.ref p), (kAt, V.int i)] := putK_new _ (by rw [valV_neg kRA] <;> rfl)
  have e3 : putK [(kRow, V.ref p), (kAt, V.int i)] kSeed (V.int s) = drK p i s := putK_new _ (by rw [valV_neg kRS, valV_neg kAS] <;> rfl)
  show putK (putK (putK [] kRow (V.ref p)) kAt (V.int i)) kSeed (V.int s) = _
  rw [e1, e2, e3]
section
variable {H : Hp} {d r : Addr} {i s : Int}
theorem dget_at (h : H d = some (.dK (drK r i s))) : DGet H d (.str ("at" : Str)) (some (.int i)) := .inl ⟨_, kAt, .inl h, rfl, (drK_at r i s).symm⟩
theorem dget_row (h : H d = some (.dK (drK r i s))) : DGet H d (.str ("row" : Str)) (some (.ref r)) := .inl ⟨_, kRow, .inl h, rfl, (drK_row r i s).symm⟩
theorem dget_seed (h : H d = some (.dK (drK r i s))) : DGet H d (.str ("seed" : Str)) (some (.int s)) := .inl ⟨_, kSeed, .inl h, rfl, (drK_seed r i s).symm⟩
theorem dput_at (h : H d = some (.dK (drK r i s))) (j : Int) : DPut H d (.str ("at" : Str)) (.int j) (upd H d (.dK (drK r j s))) := .inl ⟨_, kAt, h, rfl, drK_len r i s, by rw [drK_put]⟩
end
/-- at d: draws, their row at r -/
def Draws (H : Hp) (d r : Addr) : Prop := ∃ (i s : Int) (ns : List Int), H d = some (.dK (drK r i s)) ∧ H r = some (.lst (ns.map V.int)) ∧ 0 ≤ i
theorem Draws.atD {H : Hp} {d r : Addr} (h : Draws H d r) : ∃ o, H d = some o := let ⟨_, _, _, h, _⟩ := h; ⟨_, h⟩
theorem Draws.atR {H : Hp} {d r : Addr} (h : Draws H d r) : ∃ o, H r = some o := let ⟨_, _, _, _, h, _⟩ := h; ⟨_, h⟩
theorem Draws.ne {H : Hp} {d r : Addr} (h : Draws H d r) : r ≠ d := by
  obtain ⟨i, s, ns, h1, h2, _⟩ := h
  exact ne_of h2 h1 (by intro z; cases z)
theorem Draws.neD {H : Hp} {d r a : Addr} (h : Draws H d r) (n : H a = none) : d ≠ a := let ⟨_, e⟩ := h.atD; ne_of_none e n
theorem Draws.neR {H : Hp} {d r a : Addr} (h : Draws H d r) (n : H a = none) : r ≠ a := let ⟨_, e⟩ := h.atR; ne_of_none e n
theorem same_upd {H : Hp} {a : Addr} {o : HO} (n : H a = none) : Same H (upd H a o) := fun b u e => by
  rw [upd_ne (ne_of_none e n)]
  exact e
theorem Draws.same {H H' : Hp} {d r : Addr} (h : Draws H d r) (s : Same H H') : Draws H' d r := by
  obtain ⟨i, z, ns, h1, h2, h3⟩ := h
  exact ⟨i, z, ns, s _ _ h1, s _ _ h2, h3⟩
theorem Draws.keep {H H' : Hp} {d r : Addr} (h : Draws H d r) (s : ∀ b, (b = d ∨ b = r) → H' b = H b) : Draws H' d r := by
  obtain ⟨i, z, ns, h1, h2, h3⟩ := h
  exact ⟨i, z, ns, (s _ (.inl rfl)).trans h1, (s _ (.inr rfl)).trans h2, h3⟩
theorem Draws.fresh {H : Hp} {d r a : Addr} {o : HO} (h : Draws H d r) (n : H a = none) : Draws (upd H a o) d r := h.same (same_upd n)
theorem Draws.other {H : Hp} {d r a : Addr} {o : HO} (h : Draws H d r) (hd : a ≠ d) (hr : a ≠ r) : Draws (upd H a o) d r := h.keep fun b e => by
  rcases e with rfl | rfl
  · exact upd_ne (Ne.symm hd)
  · exact upd_ne (Ne.symm hr)
/-- the draws may have moved, nothing else has changed -/
def Moved (d : Addr) (H H' : Hp) : Prop := ∀ b, b ≠ d → H' b = H b
theorem Moved.refl (d : Addr) (H : Hp) : Moved d H H := fun _ _ => rfl
theorem Moved.trans {d : Addr} {H H1 H2 : Hp} (a : Moved d H H1) (b : Moved d H1 H2) : Moved d H H2 := fun c n => (b c n).trans (a c n)
/-! ### promises -/
def sp_l_mix (K : PySem.W.Frag) : Sp := fun vs H Q _ => ∃ (c k : Int), vs = [.int c, .int k] ∧ ∀ z : Int, Q (.int z) H
def sp_l_pick (K : PySem.W.Frag) : Sp := fun vs H Q _ => ∃ (d : Addr) (m : Int), vs = [.ref d, .int m] ∧ 0 < m ∧ ∃ r, Draws H d r ∧ ∀ (j : Int) (H' : Hp), 0 ≤ j → j < m → Draws H' d r → Moved d H H' → Q (.int j) H'
def sp_l_stream (K : PySem.W.Frag) : Sp := fun vs H Q _ => ∃ (a : Addr) (ns : List Int) (m : Int), vs = [.ref a, .int m] ∧ SqL K H a (ns.map V.int) ∧ ns.length ≤ 63 ∧ 0 ≤ m ∧ m ≤ 10000 ∧
  ∀ (d : Addr) (H' : Hp) (r : Addr) (s : Int) (rs : List Int), Same H H' → H d = none → H' d = some (.dK (drK r 0 s)) → H' r = some (.lst (rs.map V.int)) → r ≠ d → rs.length ≤ 3780 → (rs.length : Int) ≤ m → Q (.ref d) H'
abbrev DQ (Q : VK) : Ends := { nx := fun _ H' => Q .non H', rt := Q }
theorem lk_ne {a b : Str} {v : V} {r : List (Str × V)} (h : ¬ a = b) : List.lookup a ((b, v) :: r) = List.lookup a r := by
  have e : (a == b) = false := by simpa using h
  simp only [List.lookup, e]
theorem lk_eq {a : Str} {v : V} {r : List (Str × V)} : List.lookup a ((a, v) :: r) = some v := by simp [List.lookup]
theorem pf_ne {a b : Str} {v w : V} {r : List (Str × V)} (h : ¬ b = a) : putF a v ((b, w) :: r) = (b, w) :: putF a v r := by
  show (if b = a then (b, v) :: r else (b, w) :: putF a v r) = _
  rw [if_neg h]
theorem pf_eq {a : Str} {v w : V} {r : List (Str × V)} : putF a v ((a, w) :: r) = (a, v) :: r := by
  show (if a = a then (a, v) :: r else (a, w) :: putF a v r) = _
  rw [if_pos rfl]
theorem pf_nil {a : Str} {v : V} : putF a v [] = [(a, v)] := rfl
end Rm

/-! B1: the law's draws: readings (by gen.py) and that they keep their promises. -/
namespace Rm
open PySem PySem.Spec PyProof.Rows L2

def t_l_mix (K : PySem.W.Frag) (E : XK) : TS :=
  (tSeq (tAsg (tOp rModI (tCB rInt1 (tCons (tOp rAddI (tOp rAddI (tOp rMulI (tVar 0) (tC (.int 48271))) (tOp rMulI (tVar 1) (tC (.int 69621)))) (tC (.int 11))) tNil)) (tC (.int 2147483647))) (gName 2))
    (tRet (tOp rModI (tOp rModI (tCB rInt1 (tCons (tOp rAddI (tOp rAddI (tOp rAddI (tOp rMulI (tVar 2) (tVar 2)) (tOp rMulI (tVar 0) (tC (.int 40692)))) (tOp rMulI (tVar 1) (tC (.int 7)))) (tC (.int 3))) tNil)) (tC (.int 1000003))) (tC (.int 1000)))))
def ns_l_mix : List Str := ["cell", "k", "low"]

def t_l_pick (K : PySem.W.Frag) (E : XK) : TS :=
  (tSeq (tAsg (tDGet (tVar 0) (tC (.str ("at" : Str)))) (gName 2))
    (tSeq (sDPut (tVar 0) (tC (.str ("at" : Str))) (tOp rAddI (tVar 2) (tC (.int 1))))
    (tSeq (tAsg (tCall (sp_l_mix K) [] E (tCons (tDGet (tVar 0) (tC (.str ("seed" : Str)))) (tCons (tVar 2) tNil))) (gName 3))
    (tSeq (tIfS (tTest (tOp rLtI (tVar 2) (tCB (rLen K) (tCons (tDGet (tVar 0) (tC (.str ("row" : Str)))) tNil))))
      (tAsg (tOp (rIxL K) (tDGet (tVar 0) (tC (.str ("row" : Str)))) (tVar 2)) (gName 3))
      tNext)
    (tRet (tOp rModI (tCB rInt1 (tCons (tVar 3) tNil)) (tVar 1)))))))
def ns_l_pick : List Str := ["draws", "many", "at", "number"]

def t_l_stream (K : PySem.W.Frag) (E : XK) : TS :=
  (tSeq (tAsg (tLst tNil) (gName 2))
    (tSeq (tFor (iRng1 (tCons (tCB rMin2 (tCons (tCB (rLen K) (tCons (tVar 0) tNil)) (tCons (tC (.int 63)) tNil))) tNil)) (gName 3)
      (tSeq (tAsg (tOp (rIxL K) (tVar 0) (tVar 3)) (gName 4))
    (tIfS (tTest (tOp rGeI (tVar 4) (tOp rPowI (tC (.int 10)) (tC (.int 18)))))
      (tFor (iRng1 (tCons (tC (.int 60)) tNil)) (gName 5)
      (tIfS (tAnd (tTest (tOp rGtI (tVar 4) (tC (.int 0)))) (tTest (tOp rLtI (tCB (rLen K) (tCons (tVar 2) tNil)) (tVar 1))))
      (tSeq (tDrop (tBM K "list" rAppend (tVar 2) (tCons (tOp rModI (tCB rInt1 (tCons (tVar 4) tNil)) (tC (.int 1000))) tNil)))
    (tAsg (tOp rFdivI (tVar 4) (tC (.int 1000))) (gName 4)))
      tNext))
      (tFor (iRng1 (tCons (tC (.int 3)) tNil)) (gName 5)
      (tIfS (tTest (tOp rLtI (tCB (rLen K) (tCons (tVar 2) tNil)) (tVar 1)))
      (tDrop (tBM K "list" rAppend (tVar 2) (tCons (tCall (sp_l_mix K) [] E (tCons (tVar 4) (tCons (tOp rAddI (tOp rMulI (tC (.int 64)) (tVar 5)) (tVar 3)) tNil))) tNil)))
      tNext)))))
    (tRet (tDisp [((tC (.str ("row" : Str))), (tVar 2)), ((tC (.str ("at" : Str))), (tC (.int 0))), ((tC (.str ("seed" : Str))), (tCB (rLen K) (tCons (tVar 2) tNil)))]))))
def ns_l_stream : List Str := ["script", "most", "row", "k", "rest", "j"]


theorem run_l_mix {K : PySem.W.Frag} {vs : List V} {H : Hp} {Q : VK} {E : XK} (h : sp_l_mix K vs H Q E) : t_l_mix K E { nx := fun _ H' => Q .non H', rt := Q } (start ns_l_mix vs) H := by
  obtain ⟨c, k, rfl, q⟩ := h
  refine ⟨_, rfl, _, _, rfl, rfl, .inr (by decide), _, rfl, _, _, rfl, rfl, .inr (by decide), _, _, rfl, rfl, _, _, rfl, rfl, .inl ⟨_, rfl, ?_⟩⟩
  refine ⟨_, _, rfl, rfl, (by show (0 : Int) < 2147483647; decide), ?_⟩
  have b1 : 0 ≤ (c * 48271 + k * 69621 + 11) % 2147483647 := Int.emod_nonneg _ (by decide)
  have b2 : (c * 48271 + k * 69621 + 11) % 2147483647 < 2147483647 := Int.emod_lt_of_pos _ (by decide)
  refine ⟨_, rfl, _, rfl, _, _, rfl, rfl, .inl ⟨by omega, by omega⟩, _, rfl, _, _, rfl, rfl, .inr (by decide), _, _, rfl, rfl, _, rfl, _, _, rfl, rfl, .inr (by decide), _, _, rfl, rfl, _, _, rfl, rfl, .inl ⟨_, rfl, ?_⟩⟩
  exact ⟨_, _, rfl, rfl, (by show (0 : Int) < 1000003; decide), _, _, rfl, rfl, (by show (0 : Int) < 1000; decide), q _⟩
theorem run_l_pick {K : PySem.W.Frag} {vs : List V} {H : Hp} {Q : VK} {E : XK} (h : sp_l_pick K vs H Q E) : t_l_pick K E { nx := fun _ H' => Q .non H', rt := Q } (start ns_l_pick vs) H := by
  obtain ⟨d, m, rfl, hm, r, hD, q⟩ := h
  obtain ⟨i, s, ns, h1, h2, h3⟩ := id hD
  have nrd : r ≠ d := hD.ne
  -- at = draws["at"]
  refine ⟨_, rfl, d, _, rfl, dget_at h1, ?_⟩
  -- draws["at"] = at + 1
  refine ⟨_, rfl, _, _, rfl, rfl, _, rfl, d, _, rfl, dput_at h1 _, ?_⟩
  have h1' : (upd H d (.dK (drK r (i + 1) s))) d = some (.dK (drK r (i + 1) s)) := upd_same
  have h2' : (upd H d (.dK (drK r (i + 1) s))) r = some (.lst (ns.map V.int)) := by rw [upd_ne nrd]; exact h2
  have D' : Draws (upd H d (.dK (drK r (i + 1) s))) d r := ⟨i + 1, s, ns, h1', h2', by omega⟩
  have M' : Moved d H (upd H d (.dK (drK r (i + 1) s))) := fun b n => upd_ne n
  have fin : ∀ z : Int, Q (.int (z % m)) (upd H d (.dK (drK r (i + 1) s))) := fun z => q _ _ (Int.emod_nonneg _ (by omega)) (Int.emod_lt_of_pos _ hm) D' M'
  -- number = mix(draws["seed"], at)
  refine ⟨_, rfl, d, _, rfl, dget_seed h1', _, rfl, _, _, rfl, fun z => ?_⟩
  -- if at < len(draws["row"])
  refine ⟨_, rfl, _, rfl, d, _, rfl, dget_row h1', _, _, rfl, .inl ⟨_, SqL.of h2', rfl⟩, _, _, rfl, rfl, _, rfl, ?_⟩
  by_cases c : i < ((ns.map V.int).length : Int)
  · rw [decide_eq_true c]
    refine iteT ?_
    rw [List.length_map] at c
    obtain ⟨n, rfl⟩ : ∃ n : Nat, i = (n : Int) := ⟨i.toNat, by omega⟩
    have hn : n < ns.length := by omega
    refine ⟨_, rfl, d, _, rfl, dget_row h1', _, rfl, r, ns.map V.int, (n : Int), .int ns[n], rfl, rfl, SqL.of h2', atI_nat (by rw [List.getElem?_map, List.getElem?_eq_getElem hn]; rfl), ?_⟩
    exact ⟨_, rfl, .inl ⟨_, rfl, _, rfl, _, _, rfl, rfl, hm, fin _⟩⟩
  · rw [decide_eq_false c]
    refine iteF ?_
    exact ⟨_, rfl, .inl ⟨_, rfl, _, rfl, _, _, rfl, rfl, hm, fin _⟩⟩
theorem map_snoc (rs : List Int) (z : Int) : rs.map V.int ++ [V.int z] = (rs ++ [z]).map V.int := by
  rw [List.map_append]
  rfl
theorem run_l_stream {K : PySem.W.Frag} {vs : List V} {H : Hp} {Q : VK} {E : XK} (h : sp_l_stream K vs H Q E) : t_l_stream K E { nx := fun _ H' => Q .non H', rt := Q } (start ns_l_stream vs) H := by
  obtain ⟨a, ns, m, rfl, hS, hl, hm0, hm, q⟩ := h
  refine ⟨(by show 0 ≤ sizeLine; decide), fun p np => ?_⟩
  refine ⟨_, rfl, _, _, rfl, .inl ⟨_, (same_upd np).seq hS, rfl⟩, _, _, rfl, ?_⟩
  have e0 : (if (63 : Int) < ((ns.map V.int).length : Int) then (63 : Int) else ((ns.map V.int).length : Int)) = (ns.length : Int) := by
    rw [List.length_map, if_neg (by omega)]
  rw [e0]
  refine ⟨(ns.length : Int), rfl, by omega, by omega, ?_⟩
  rw [Int.toNat_natCast]
  refine for_range (lo := 0) (n := ns.length) (fun i σ H2 => ∃ (rs : List Int) (kv rv jv : Option V), σ = [some (.ref a), some (.int m), some (.ref p), kv, rv, jv] ∧ Same H H2 ∧ H2 p = some (.lst (rs.map V.int)) ∧ rs.length ≤ 60 * i ∧ (rs.length : Int) ≤ m)
    ⟨[], none, none, none, rfl, same_upd np, upd_same, Nat.zero_le _, hm0⟩ ?_ ?_
  · rintro i σ H2 hi ⟨rs, kv, rv, jv, rfl, s2, hp, h60, hm2⟩
    -- rest = script[k]
    have hz : (ns.map V.int)[i]? = some (.int ns[i]) := by rw [List.getElem?_map, List.getElem?_eq_getElem hi]; rfl
    refine ⟨_, rfl, _, rfl, a, ns.map V.int, _, .int ns[i], rfl, rfl, s2.seq hS, at_of (j := i) (by simp) hz, ?_⟩
    -- if rest >= 10 ** 18
    refine ⟨_, rfl, _, _, rfl, rfl, ⟨by decide, by decide, by decide⟩, _, _, rfl, rfl, _, rfl, ?_⟩
    refine ite2 (fun _ => ?_) (fun _ => ?_)
    · -- for j in range(60)
      refine ⟨60, rfl, by decide, by decide, ?_⟩
      refine for_range (lo := 0) (n := 60) (fun j σ H3 => ∃ (rs : List Int) (kv jv : Option V) (z : Int), σ = [some (.ref a), some (.int m), some (.ref p), kv, some (.int z), jv] ∧ Same H H3 ∧ H3 p = some (.lst (rs.map V.int)) ∧ rs.length ≤ 60 * i + j ∧ (rs.length : Int) ≤ m)
        ⟨rs, _, _, _, rfl, s2, hp, by omega, hm2⟩ ?_ ?_
      · rintro j σ H3 hj ⟨rs, kv, jv, z, rfl, s3, hp, h60, hm2⟩
        refine ⟨_, rfl, _, _, rfl, rfl, _, rfl, ?_⟩
        refine ite2 (fun _ => ?_) (fun _ => ?_)
        · refine ⟨_, rfl, _, _, rfl, .inl ⟨_, SqL.of hp, rfl⟩, _, rfl, _, _, rfl, rfl, _, rfl, ?_⟩
          rw [List.length_map]
          refine ite2 (fun c => ?_) (fun _ => ?_)
          · have c := of_decide_eq_true c
            refine ⟨_, rfl, Or.inl ⟨rfl, _, SqL.of hp⟩, _, rfl, .inl ⟨_, rfl, _, _, rfl, rfl, (by show (0 : Int) < 1000; decide), p, _, _, rfl, rfl, hp, (by rw [List.length_map]; exact Nat.lt_of_lt_of_le (show rs.length < 20000 by omega) (by decide)), ?_⟩⟩
            refine ⟨_, rfl, _, _, rfl, rfl, ⟨by decide, by decide⟩, ?_⟩
            refine ⟨rs ++ [z % 1000], _, _, _, rfl, fun b o e => ?_, ?_, by rw [List.length_append, List.length_singleton]; omega, by rw [List.length_append, List.length_singleton]; omega⟩
            · rw [upd_ne (ne_of_none e np)]
              exact s3 b o e
            · rw [upd_same, map_snoc]
          · exact ⟨rs, _, _, z, rfl, s3, hp, by omega, hm2⟩
        · exact ⟨rs, _, _, z, rfl, s3, hp, by omega, hm2⟩
      · rintro σ H3 ⟨rs, kv, jv, z, rfl, s3, hp, h60, hm2⟩
        exact ⟨rs, _, _, _, rfl, s3, hp, by omega, hm2⟩
    · refine ⟨3, rfl, by decide, by decide, ?_⟩
      refine for_range (lo := 0) (n := 3) (fun j σ H3 => ∃ (rs : List Int) (jv : Option V), σ = [some (.ref a), some (.int m), some (.ref p), some (.int (0 + i)), some (.int ns[i]), jv] ∧ Same H H3 ∧ H3 p = some (.lst (rs.map V.int)) ∧ rs.length ≤ 60 * i + j ∧ (rs.length : Int) ≤ m)
        ⟨rs, _, rfl, s2, hp, by omega, hm2⟩ ?_ ?_
      · rintro j σ H3 hj ⟨rs, jv, rfl, s3, hp, h60, hm2⟩
        refine ⟨_, rfl, _, _, rfl, .inl ⟨_, SqL.of hp, rfl⟩, _, rfl, _, _, rfl, rfl, _, rfl, ?_⟩
        rw [List.length_map]
        refine ite2 (fun c => ?_) (fun _ => ?_)
        · have c := of_decide_eq_true c
          refine ⟨_, rfl, Or.inl ⟨rfl, _, SqL.of hp⟩, _, rfl, _, rfl, _, _, rfl, rfl, .inl ⟨by decide, by decide⟩, _, rfl, _, _, rfl, rfl, _, _, rfl, fun z => ?_⟩
          refine ⟨p, _, _, rfl, rfl, hp, (by rw [List.length_map]; exact Nat.lt_of_lt_of_le (show rs.length < 20000 by omega) (by decide)), ?_⟩
          refine ⟨rs ++ [z], _, rfl, fun b o e => ?_, ?_, by rw [List.length_append, List.length_singleton]; omega, by rw [List.length_append, List.length_singleton]; omega⟩
          · rw [upd_ne (ne_of_none e np)]
            exact s3 b o e
          · rw [upd_same, map_snoc]
        · exact ⟨rs, _, rfl, s3, hp, by omega, hm2⟩
      · rintro σ H3 ⟨rs, jv, rfl, s3, hp, h60, hm2⟩
        exact ⟨rs, _, _, _, rfl, s3, hp, by omega, hm2⟩
  · rintro σ H2 ⟨rs, kv, rv, jv, rfl, s2, hp, h60, hm2⟩
    -- return {..}
    intro d nd
    have npd : p ≠ d := ne_of_none hp nd
    have hp' : (upd H2 d (.dK [])) p = some (.lst (rs.map V.int)) := by rw [upd_ne npd]; exact hp
    refine ⟨_, rfl, _, rfl, _, _, rfl, .inl ⟨_, SqL.of hp', rfl⟩, ?_⟩
    refine ⟨upd_same, drK p 0 (rs.length : Int), ?_, (by show 3 ≤ 15; decide), ?_⟩
    · rw [List.length_map]
      rfl
    · rw [drK_merge, upd_upd]
      refine q d _ p (rs.length : Int) rs (fun b o e => ?_) (s2.free nd) upd_same ?_ npd (by omega) hm2
      · rw [upd_ne (ne_of_none (s2 b o e) nd)]
        exact s2 b o e
      · rw [upd_ne npd]
        exact hp
end Rm

/-! Lx: the tokens of a text as plain functions over codes; no Python here. -/
namespace Lx
def isLet (c : Nat) : Bool := (decide (65 ≤ c) && decide (c ≤ 90)) || (decide (97 ≤ c) && decide (c ≤ 122))
def isDig (c : Nat) : Bool := decide (48 ≤ c) && decide (c ≤ 57)
def isWP (c : Nat) : Bool := isLet c || (isDig c || c == 95)
/-- behind spaces, newlines and comments (true: within a comment) -/
def skip : Bool → List Nat → Int → Int → List Nat × Int × Int
  | _, [], r, c => ([], r, c)
  | true, x :: xs, r, c => if x = 10 then skip false xs (r + 1) 1 else skip true xs r (c + 1)
  | false, x :: xs, r, c => if x = 10 then skip false xs (r + 1) 1 else if x = 32 then skip false xs r (c + 1) else if x = 35 then skip true xs r (c + 1) else (x :: xs, r, c)
inductive Kd where
  | name | number | keyword | sign | fin
  deriving DecidableEq
structure Tk where
  kind : Kd
  text : List Nat
  row : Int
  col : Int
  deriving DecidableEq
inductive Er where
  | char | num
  deriving DecidableEq
abbrev codes (s : String) : List Nat := s.toList.map Char.toNat
def kwL : List (List Nat) := ["method", "main", "object", "const", "var", "parent", "let", "print", "return", "if", "else", "while", "put", "drop", "resend", "fn", "call", "self", "true", "false", "nothing", "div", "mod"].map codes
def longL : List (List Nat) := [":=", "==", "<="].map codes
def shortL : List (List Nat) := ["{", "}", "(", ")", ",", ";", ".", "=", "+", "-", "*", "<"].map codes
def val (l : List Nat) : Nat := l.foldl (fun a c => a * 10 + (c - 48)) 0
def isNum (w : List Nat) : Bool := w.all isDig && (!(decide (1 < w.length) && (w.head? == some 48)) && (decide (w.length ≤ 13) && decide (val w ≤ 1000000000000)))
def word (l : List Nat) : List Nat := l.takeWhile isWP
def kindOf (w : List Nat) : Kd := if w ∈ kwL then .keyword else .name
/-- the token at the beginning of x :: xs, what is behind it, and its place -/
def step (x : Nat) (xs : List Nat) (r c : Int) : Except (Er × Int × Int) (Tk × List Nat × Int × Int) :=
  if isLet x then .ok (⟨kindOf (word (x :: xs)), word (x :: xs), r, c⟩, (x :: xs).drop (word (x :: xs)).length, r, c + (word (x :: xs)).length)
  else if isDig x then
    if isNum (word (x :: xs)) then .ok (⟨.number, word (x :: xs), r, c⟩, (x :: xs).drop (word (x :: xs)).length, r, c + (word (x :: xs)).length) else .error (.num, r, c)
  else if (x :: xs).take 2 ∈ longL then .ok (⟨.sign, (x :: xs).take 2, r, c⟩, (x :: xs).drop 2, r, c + 2)
  else if [x] ∈ shortL then .ok (⟨.sign, [x], r, c⟩, xs, r, c + 1)
  else .error (.char, r, c)
abbrev Out := List Tk × Option (Er × Int × Int)
def lexF : Nat → List Nat → Int → Int → Out
  | 0, _, _, _ => ([], none)
  | n + 1, l, r, c => match skip false l r c with
    | ([], r', c') => ([⟨.fin, [], r', c'⟩], none)
    | (x :: xs, r', c') => match step x xs r' c' with
      | .error e => ([], some e)
      | .ok (t, l', r2, c2) => (t :: (lexF n l' r2 c2).1, (lexF n l' r2 c2).2)
def lex (l : List Nat) (r c : Int) : Out := lexF (l.length + 1) l r c

theorem skip_len : ∀ (b : Bool) (l : List Nat) (r c : Int), (skip b l r c).1.length ≤ l.length
  | _, [], r, c => by simp [skip]
  | true, x :: xs, r, c => by
    unfold skip
    split
    · exact Nat.le_succ_of_le (skip_len false xs _ _)
    · exact Nat.le_succ_of_le (skip_len true xs _ _)
  | false, x :: xs, r, c => by
    unfold skip
    split
    · exact Nat.le_succ_of_le (skip_len false xs _ _)
    · split
      · exact Nat.le_succ_of_le (skip_len false xs _ _)
      · split
        · exact Nat.le_succ_of_le (skip_len true xs _ _)
        · exact Nat.le_refl _
theorem skip_idem : ∀ (b : Bool) (l : List Nat) (r c : Int), skip false (skip b l r c).1 (skip b l r c).2.1 (skip b l r c).2.2 = skip b l r c
  | true, [], r, c => rfl
  | false, [], r, c => rfl
  | true, x :: xs, r, c => by
    by_cases h : x = 10
    · have e : skip true (x :: xs) r c = skip false xs (r + 1) 1 := by rw [skip, if_pos h]
      rw [e]; exact skip_idem false xs _ _
    · have e : skip true (x :: xs) r c = skip true xs r (c + 1) := by rw [skip, if_neg h]
      rw [e]; exact skip_idem true xs _ _
  | false, x :: xs, r, c => by
    by_cases h : x = 10
    · have e : skip false (x :: xs) r c = skip false xs (r + 1) 1 := by rw [skip, if_pos h]
      rw [e]; exact skip_idem false xs _ _
    · by_cases h2 : x = 32
      · have e : skip false (x :: xs) r c = skip false xs r (c + 1) := by rw [skip, if_neg h, if_pos h2]
        rw [e]; exact skip_idem false xs _ _
      · by_cases h3 : x = 35
        · have e : skip false (x :: xs) r c = skip true xs r (c + 1) := by rw [skip, if_neg h, if_neg h2, if_pos h3]
          rw [e]; exact skip_idem true xs _ _
        · have e : skip false (x :: xs) r c = (x :: xs, r, c) := by rw [skip, if_neg h, if_neg h2, if_neg h3]
          rw [e]; exact e
theorem takeWhile_len (p : Nat → Bool) : ∀ l : List Nat, (l.takeWhile p).length ≤ l.length
  | [] => Nat.le_refl _
  | x :: xs => by
    rw [List.takeWhile_cons]
    split
    · exact Nat.succ_le_succ (takeWhile_len p xs)
    · exact Nat.zero_le _
theorem word_pos {x : Nat} {xs : List Nat} (h : isWP x = true) : 0 < (word (x :: xs)).length := by
  unfold word
  rw [List.takeWhile_cons, if_pos h]
  exact Nat.succ_pos _
theorem word_len (l : List Nat) : (word l).length ≤ l.length := takeWhile_len _ l
theorem step_len {x : Nat} {xs : List Nat} {r c : Int} {t : Tk} {l' : List Nat} {r2 c2 : Int} (h : step x xs r c = .ok (t, l', r2, c2)) : l'.length < (x :: xs).length := by
  unfold step at h
  have wl := word_len (x :: xs)
  have drop_lt : ∀ n, 0 < n → n ≤ (x :: xs).length → ((x :: xs).drop n).length < (x :: xs).length := fun n h1 h2 => by rw [List.length_drop]; omega
  split at h
  · rename_i h1
    cases h
    exact drop_lt _ (word_pos (by unfold isWP; rw [h1]; rfl)) wl
  · split at h
    · rename_i h1 h2
      split at h
      · cases h
        exact drop_lt _ (word_pos (by unfold isWP; rw [h2]; simp)) wl
      · cases h
    · split at h
      · rename_i h3
        cases h
        have : 2 ≤ (x :: xs).length := by
          have e : ∀ w ∈ longL, w.length = 2 := by decide +kernel
          have q := e _ h3
          rw [List.length_take] at q
          omega
        exact drop_lt 2 (by decide) this
      · split at h
        · cases h
          exact Nat.lt_succ_self _
        · cases h
theorem lexF_fuel : ∀ (n m : Nat) (l : List Nat) (r c : Int), l.length < n → l.length < m → lexF n l r c = lexF m l r c
  | 0, _, l, _, _, h, _ => absurd h (Nat.not_lt_zero _)
  | _, 0, l, _, _, _, h => absurd h (Nat.not_lt_zero _)
  | n + 1, m + 1, l, r, c, h1, h2 => by
    unfold lexF
    have sl := skip_len false l r c
    rcases e : skip false l r c with ⟨_ | ⟨x, xs⟩, r', c'⟩
    · rfl
    · rw [e] at sl
      simp only
      cases es : step x xs r' c' with
      | error e => rfl
      | ok q =>
        obtain ⟨t, l', r2, c2⟩ := q
        have := step_len es
        have sl' : (x :: xs).length ≤ l.length := sl
        simp only
        rw [lexF_fuel n m l' r2 c2 (by omega) (by omega)]
theorem lex_eq (l : List Nat) (r c : Int) : lex l r c = match skip false l r c with
    | ([], r', c') => ([⟨.fin, [], r', c'⟩], none)
    | (x :: xs, r', c') => match step x xs r' c' with
      | .error e => ([], some e)
      | .ok (t, l', r2, c2) => (t :: (lex l' r2 c2).1, (lex l' r2 c2).2) := by
  unfold lex
  rw [lexF]
  have sl := skip_len false l r c
  rcases e : skip false l r c with ⟨_ | ⟨x, xs⟩, r', c'⟩
  · rfl
  · rw [e] at sl
    simp only
    cases es : step x xs r' c' with
    | error e => rfl
    | ok q =>
      obtain ⟨t, l', r2, c2⟩ := q
      have := step_len es
      have sl' : (x :: xs).length ≤ l.length := sl
      simp only
      rw [lexF_fuel l.length (l'.length + 1) l' r2 c2 (by omega) (by omega)]
/-- what is skipped changes nothing -/
theorem lex_skip {l l2 : List Nat} {r c r2 c2 : Int} (h : skip false l r c = skip false l2 r2 c2) : lex l r c = lex l2 r2 c2 := by
  rw [lex_eq, lex_eq, h]
theorem lex_end {l : List Nat} {r c r' c' : Int} (h : skip false l r c = ([], r', c')) : lex l r c = ([⟨.fin, [], r', c'⟩], none) := by
  rw [lex_eq, h]
theorem lex_tok {l : List Nat} {x : Nat} {xs : List Nat} {r c r' c' : Int} {t : Tk} {l' : List Nat} {r2 c2 : Int} (h : skip false l r c = (x :: xs, r', c')) (hs : step x xs r' c' = .ok (t, l', r2, c2)) :
    lex l r c = (t :: (lex l' r2 c2).1, (lex l' r2 c2).2) := by
  rw [lex_eq, h]
  simp only [hs]
theorem lex_err {l : List Nat} {x : Nat} {xs : List Nat} {r c r' c' : Int} {e : Er × Int × Int} (h : skip false l r c = (x :: xs, r', c')) (hs : step x xs r' c' = .error e) : lex l r c = ([], some e) := by
  rw [lex_eq, h]
  simp only [hs]
theorem skip_here {x : Nat} {xs : List Nat} {r c : Int} (h : x ≠ 10 ∧ x ≠ 32 ∧ x ≠ 35) : skip false (x :: xs) r c = (x :: xs, r, c) := by
  rw [skip, if_neg h.1, if_neg h.2.1, if_neg h.2.2]
/-! ### places -/
def adv : List Nat → Int → Int → Int × Int
  | [], r, c => (r, c)
  | x :: xs, r, c => if x = 10 then adv xs (r + 1) 1 else adv xs r (c + 1)
theorem adv_append : ∀ (a b : List Nat) (r c : Int), adv (a ++ b) r c = adv b (adv a r c).1 (adv a r c).2
  | [], b, r, c => rfl
  | x :: xs, b, r, c => by
    show (if x = 10 then adv (xs ++ b) (r + 1) 1 else adv (xs ++ b) r (c + 1)) = _
    by_cases h : x = 10
    · rw [if_pos h, adv, if_pos h]; exact adv_append xs b _ _
    · rw [if_neg h, adv, if_neg h]; exact adv_append xs b _ _
theorem adv_flat : ∀ (a : List Nat) (r c : Int), 10 ∉ a → adv a r c = (r, c + a.length)
  | [], r, c, _ => by simp [adv]
  | x :: xs, r, c, h => by
    have h1 : x ≠ 10 := fun e => h (by simp [e])
    rw [adv, if_neg h1, adv_flat xs r (c + 1) fun m => h (List.mem_cons_of_mem _ m), List.length_cons]
    congr 1
    omega
/-- gaps: whatever follows, they are skipped whole -/
def Gap (g : List Nat) : Prop := ∀ (rest : List Nat) (r c : Int), skip false (g ++ rest) r c = skip false rest (adv g r c).1 (adv g r c).2
theorem Gap.nil : Gap [] := fun _ _ _ => rfl
theorem Gap.append {a b : List Nat} (h1 : Gap a) (h2 : Gap b) : Gap (a ++ b) := fun rest r c => by
  rw [List.append_assoc, h1, h2, adv_append]
/-- a run of the scanner's skipping over a gap, by computation: the end is not within a comment -/
def gapB : Bool → List Nat → Bool
  | b, [] => !b
  | true, x :: xs => if x = 10 then gapB false xs else gapB true xs
  | false, x :: xs => if x = 10 then gapB false xs else if x = 32 then gapB false xs else if x = 35 then gapB true xs else false
theorem gapB_ok : ∀ (b : Bool) (g : List Nat), gapB b g = true → ∀ (rest : List Nat) (r c : Int), skip b (g ++ rest) r c = skip false rest (adv g r c).1 (adv g r c).2
  | true, [], h, rest, r, c => by cases h
  | false, [], h, rest, r, c => rfl
  | true, x :: xs, h, rest, r, c => by
    show skip true (x :: (xs ++ rest)) r c = _
    rw [skip, adv]
    rw [gapB] at h
    by_cases e : x = 10
    · rw [if_pos e] at h ⊢; rw [if_pos e]; exact gapB_ok false xs h rest _ _
    · rw [if_neg e] at h ⊢; rw [if_neg e]; exact gapB_ok true xs h rest _ _
  | false, x :: xs, h, rest, r, c => by
    show skip false (x :: (xs ++ rest)) r c = _
    rw [skip, adv]
    rw [gapB] at h
    by_cases e : x = 10
    · rw [if_pos e] at h ⊢; rw [if_pos e]; exact gapB_ok false xs h rest _ _
    · rw [if_neg e] at h ⊢; rw [if_neg e]
      by_cases e2 : x = 32
      · rw [if_pos e2] at h ⊢; exact gapB_ok false xs h rest _ _
      · rw [if_neg e2] at h ⊢
        by_cases e3 : x = 35
        · rw [if_pos e3] at h ⊢; exact gapB_ok true xs h rest _ _
        · rw [if_neg e3] at h; cases h
theorem Gap.of {g : List Nat} (h : gapB false g = true) : Gap g := gapB_ok false g h
/-- a comment at the end of the text -/
theorem skip_comment : ∀ (l : List Nat) (r c : Int), 10 ∉ l → skip true l r c = ([], r, c + l.length)
  | [], r, c, _ => by simp [skip]
  | x :: xs, r, c, h => by
    have h1 : x ≠ 10 := fun e => h (by simp [e])
    rw [skip, if_neg h1, skip_comment xs r (c + 1) fun m => h (List.mem_cons_of_mem _ m), List.length_cons]
    congr 2
    omega
end Lx

/-! S0: texts of one newline; the scanner's fields; what the defs of the tokens promise. -/
namespace Rm
open PySem PySem.Spec PyProof.Rows L2 Lx
/-- the text of these codes -/
abbrev Tx (l : List Nat) : Str := ⟨l.toArray⟩
theorem Tx_len (l : List Nat) : (Tx l).length = l.length := rfl
theorem Tx_inj {a b : List Nat} (h : Tx a = Tx b) : a = b := by
  have := congrArg (fun s : Str => s.cps.toList) h
  exact this
theorem Tx_of (s : String) : Str.ofString s = Tx (codes s) := by
  have h := TL.tl_ofString s
  exact TL.ext_tl h
theorem Tx_app (a b : List Nat) : Tx a ++ Tx b = Tx (a ++ b) := TL.ext_tl (by rw [TL.tl_append])
theorem nl1 : ("\n" : Str) = ⟨#[10]⟩ := by decide +kernel
theorem small_len {n : Nat} (h : n ≤ 10000000) : n ≤ sizeLine := Nat.le_trans h (by decide)
/-! ### one letter -/
theorem let_ok : ∀ c < 128, Txt.isalpha ⟨#[c]⟩ = isLet c := by decide +kernel
theorem dig_ok : ∀ c < 128, PySem.Unicode.isDigit c = isDig c := by decide +kernel
theorem ascii1 (c : Nat) : Txt.isascii ⟨#[c]⟩ = decide (c < 128) := by
  show (#[c] : Array Nat).all (fun x => decide (x < 128)) = _
  simp
theorem isLet_lt {c : Nat} (h : isLet c = true) : c < 128 := by
  unfold isLet at h
  simp at h
  omega
theorem isDig_lt {c : Nat} (h : isDig c = true) : c < 128 := by
  unfold isDig at h
  simp at h
  omega
theorem isWP_lt {c : Nat} (h : isWP c = true) : c < 128 := by
  unfold isWP at h
  simp only [Bool.or_eq_true] at h
  rcases h with h | h | h
  · exact isLet_lt h
  · exact isDig_lt h
  · have := beq_iff_eq.mp h
    omega
theorem digits_mem (c : Nat) : decide (c ∈ ("0123456789" : Str).cps.toList) = isDig c := by
  rw [show ("0123456789" : Str).cps.toList = [48, 49, 50, 51, 52, 53, 54, 55, 56, 57] by decide +kernel]
  unfold isDig
  rw [Bool.eq_iff_iff]
  simp
  omega
theorem under1 : ("_" : Str) = ⟨#[95]⟩ := by decide +kernel
theorem dec_one (a b : Nat) : decide (V.str ⟨#[a]⟩ = V.str ⟨#[b]⟩) = decide (a = b) := by
  rw [Bool.eq_iff_iff]
  simp
/-! ### finding newlines -/
theorem find_nl (l : List Nat) (i : Nat) (h : i ≤ l.length) : Txt.find3 (Tx l) ("\n" : Str) (i : Int) = (if i + ((l.drop i).takeWhile (fun c => c != 10)).length = l.length then -1 else ((i + ((l.drop i).takeWhile (fun c => c != 10)).length : Nat) : Int)) := by
  rw [nl1]
  have hf : PySem.fromIndex (Tx l).length (i : Int) = i := by
    unfold PySem.fromIndex
    rw [if_neg (by omega)]
    omega
  have hget : ∀ v, v < l.length → (Tx l).cps.getD v 0 = l.getD v 0 := fun v hv => by simp [Array.getD, hv]
  -- the takeWhile
  have key : ∀ (m : List Nat) (k : Nat), (∀ v, v < k → v < m.length → m.getD v 0 ≠ 10) → k ≤ m.length → (k = m.length ∨ m.getD k 0 = 10) → (m.takeWhile (fun c => c != 10)).length = k := by
    intro m
    induction m with
    | nil =>
      intro k _ hk _
      simp at hk
      simp [hk]
    | cons x xs ih =>
      intro k hv hk he
      cases k with
      | zero =>
        rcases he with he | he
        · simp at he
        · have e : x = 10 := by simpa using he
          simp [e]
      | succ k =>
        have e : x ≠ 10 := by simpa using hv 0 (by omega) (by simp)
        rw [List.takeWhile_cons, if_pos (by simpa using e), List.length_cons]
        refine congrArg Nat.succ (ih k (fun v h1 h2 => ?_) (by simpa using hk) ?_)
        · have q := hv (v + 1) (by omega) (by simpa using h2)
          simpa using q
        · rcases he with he | he
          · exact .inl (by simpa using he)
          · exact .inr (by simpa using he)
  have dropget : ∀ v, (l.drop i).getD v 0 = l.getD (i + v) 0 := fun v => by simp [List.getD_eq_getElem?_getD, List.getElem?_drop]
  rcases StrLaws.find3_spec (Tx l) 10 (i : Int) with ⟨h0, hn⟩ | ⟨k, h0, h1, h2, h3, h4⟩
  · rw [hf] at hn
    have e := key (l.drop i) (l.drop i).length (fun v _ hv => by
      rw [dropget]
      rw [List.length_drop] at hv
      have q := hn (i + v) (by omega) (by show i + v < l.length; omega)
      rw [hget _ (by omega)] at q
      exact q) (Nat.le_refl _) (.inl rfl)
    rw [h0, e, List.length_drop, if_pos (by omega)]
  · rw [hf] at h1 h4
    have h2' : k < l.length := h2
    have e := key (l.drop i) (k - i) (fun v hk hv => by
      rw [dropget]
      have q := h4 (i + v) (by omega) (by omega)
      rw [hget _ (by omega)] at q
      exact q) (by rw [List.length_drop]; omega) (.inr (by rw [dropget, show i + (k - i) = k by omega, ← hget k h2']; exact h3))
    rw [h0, e, show i + (k - i) = k by omega, if_neg (by omega)]
/-! ### the place of a text's end: rows by count, columns by rfind -/
theorem cnt_adv : ∀ (l : List Nat) (r c : Int), (adv l r c).1 = r + PyProof.Rows.cnt 10 l
  | [], r, c => by simp [adv, PyProof.Rows.cnt_nil]
  | x :: xs, r, c => by
    rw [PyProof.Rows.cnt_cons, adv]
    by_cases h : x = 10
    · rw [if_pos h, if_pos h, cnt_adv xs]
      omega
    · rw [if_neg h, if_neg h, cnt_adv xs]
      omega
/-- the column behind a text: counted from its last newline -/
theorem adv_col : ∀ (a b : List Nat) (r c : Int), 10 ∉ b → (adv (a ++ 10 :: b) r c).2 = b.length + 1
  | [], b, r, c, h => by
    show (if (10 : Nat) = 10 then adv b (r + 1) 1 else adv b r (c + 1)).2 = _
    rw [if_pos rfl, adv_flat b _ _ h]
    show (1 : Int) + b.length = _
    omega
  | x :: xs, b, r, c, h => by
    show (if x = 10 then adv (xs ++ 10 :: b) (r + 1) 1 else adv (xs ++ 10 :: b) r (c + 1)).2 = _
    split
    · exact adv_col xs b _ _ h
    · exact adv_col xs b _ _ h
theorem place_ok (l : List Nat) : Txt.count (Tx l) ("\n" : Str) + 1 = (adv l 1 1).1 ∧ ((l.length : Int) - Txt.rfind (Tx l) ("\n" : Str)) = (adv l 1 1).2 := by
  refine ⟨?_, ?_⟩
  · rw [nl1, PyProof.Rows.count_cnt, cnt_adv]
    show cnt 10 l + 1 = 1 + cnt 10 l
    omega
  · rw [nl1]
    unfold Txt.rfind
    rcases StrLaws.last_spec (Tx l) ⟨#[10]⟩ with ⟨h0, hn⟩ | ⟨i, h0, hi, hn⟩
    · rw [h0]
      have hno : 10 ∉ l := fun hm => by
        obtain ⟨v, hv, e⟩ := List.mem_iff_getElem.mp hm
        exact hn v ((StrLaws.subAt_one (Tx l) 10 v).mpr (by show l[v]? = some 10; rw [List.getElem?_eq_getElem hv, e]))
      rw [adv_flat l 1 1 hno]
      show (l.length : Int) - (-1) = 1 + (l.length : Int)
      omega
    · rw [h0]
      have e1 : l[i]? = some 10 := (StrLaws.subAt_one (Tx l) 10 i).mp hi
      obtain ⟨hlt, e2⟩ := List.getElem?_eq_some_iff.mp e1
      have hno : 10 ∉ l.drop (i + 1) := fun hm => by
        obtain ⟨v, hv, e⟩ := List.mem_iff_getElem.mp hm
        rw [List.length_drop] at hv
        refine hn (i + 1 + v) (by omega) ((StrLaws.subAt_one (Tx l) 10 (i + 1 + v)).mpr ?_)
        show l[i + 1 + v]? = some 10
        rw [List.getElem_drop] at e
        rw [List.getElem?_eq_getElem (by omega), e]
      have el : l = l.take i ++ 10 :: l.drop (i + 1) := by
        rw [← e2, ← List.drop_eq_getElem_cons hlt, List.take_append_drop]
      have q := adv_col (l.take i) (l.drop (i + 1)) 1 1 hno
      rw [← el] at q
      rw [q, List.length_drop]
      show (l.length : Int) - (i : Int) = ((l.length - (i + 1) : Nat) : Int) + 1
      omega
end Rm

/-! S1: the tokens' defs: promises, readings (by gen.py), and that the readings keep the promises. -/
namespace Rm
open PySem PySem.Spec PyProof.Rows L2 Lx
/-- what is wanted where an error of the class of this name is raised with a row and a column -/
abbrev EWT := Str → Int → Int → XK → Hp → Prop
def kdS : Kd → Str
  | .name => "name"
  | .number => "number"
  | .keyword => "keyword"
  | .sign => "sign"
  | .fin => "end"
def erS : Er → Str
  | .char => "BadCharacter"
  | .num => "BadNumber"
def tkV (t : Tk) : List V := [.str (kdS t.kind), .str (Tx t.text), .int t.row, .int t.col]
abbrev CS (K : PySem.W.Frag) : Addr := He.ga K ("Scanner" : Str)
def scF (l : List Nat) (i r c : Int) : List (Str × V) := [("text", .str (Tx l)), ("at", .int i), ("row", .int r), ("column", .int c)]
theorem neTA : ¬ (("text" : Str) = "at") := by decide +kernel
theorem neTR : ¬ (("text" : Str) = "row") := by decide +kernel
theorem neTC : ¬ (("text" : Str) = "column") := by decide +kernel
theorem neAR : ¬ (("at" : Str) = "row") := by decide +kernel
theorem neAC : ¬ (("at" : Str) = "column") := by decide +kernel
theorem neRC : ¬ (("row" : Str) = "column") := by decide +kernel
section
variable {l : List Nat} {i r c j : Int}
theorem scF_text : (scF l i r c).lookup ("text" : Str) = some (.str (Tx l)) := lk_eq
theorem scF_at : (scF l i r c).lookup ("at" : Str) = some (.int i) := by
  unfold scF
  rw [lk_ne (Ne.symm neTA), lk_eq]
theorem scF_row : (scF l i r c).lookup ("row" : Str) = some (.int r) := by
  unfold scF
  rw [lk_ne (Ne.symm neTR), lk_ne (Ne.symm neAR), lk_eq]
theorem scF_col : (scF l i r c).lookup ("column" : Str) = some (.int c) := by
  unfold scF
  rw [lk_ne (Ne.symm neTC), lk_ne (Ne.symm neAC), lk_ne (Ne.symm neRC), lk_eq]
theorem scF_no {m : Str} (h1 : ¬ m = "text") (h2 : ¬ m = "at") (h3 : ¬ m = "row") (h4 : ¬ m = "column") : (scF l i r c).lookup m = none := by
  unfold scF
  rw [lk_ne h1, lk_ne h2, lk_ne h3, lk_ne h4]
  rfl
theorem scF_pat : putF ("at" : Str) (.int j) (scF l i r c) = scF l j r c := by
  unfold scF
  rw [pf_ne neTA, pf_eq]
theorem scF_prow : putF ("row" : Str) (.int j) (scF l i r c) = scF l i j c := by
  unfold scF
  rw [pf_ne neTR, pf_ne neAR, pf_eq]
theorem scF_pcol : putF ("column" : Str) (.int j) (scF l i r c) = scF l i r j := by
  unfold scF
  rw [pf_ne neTC, pf_ne neAC, pf_ne neRC, pf_eq]
theorem scF_len : (scF l i r c).length < 1000 := by
  show 4 < 1000
  decide
theorem scF_init : putF ("column" : Str) (.int c) (putF ("row" : Str) (.int r) (putF ("at" : Str) (.int i) (putF ("text" : Str) (.str (Tx l)) []))) = scF l i r c := by
  rw [pf_nil, pf_ne neTA, pf_nil, pf_ne neTR, pf_ne neAR, pf_nil, pf_ne neTC, pf_ne neAC, pf_ne neRC, pf_nil]
  rfl
end
structure ScC (K : PySem.W.Frag) : Prop where
  cl : Cls K (CS K)
  nt : NoAttr K (CS K) "text"
  na : NoAttr K (CS K) "at"
  nr : NoAttr K (CS K) "row"
  nc : NoAttr K (CS K) "column"
theorem upd_self {H : Hp} {a : Addr} {o : HO} (h : H a = some o) : upd H a o = H := by
  funext b
  by_cases e : b = a
  · rw [e, upd_same, h]
  · rw [upd_ne e]
/-! ### promises -/
def sp_is_letter (K : PySem.W.Frag) : Sp := fun vs H Q _ => ∃ c : Nat, vs = [.str ⟨#[c]⟩] ∧ Q (.bl (isLet c)) H
def sp_is_word_part (K : PySem.W.Frag) : Sp := fun vs H Q _ => ∃ c : Nat, vs = [.str ⟨#[c]⟩] ∧ Q (.bl (isWP c)) H
def sp_is_number (K : PySem.W.Frag) : Sp := fun vs H Q _ => ∃ w : List Nat, vs = [.str (Tx w)] ∧ w ≠ [] ∧ w.length ≤ 10000000 ∧ (∀ x ∈ w, isWP x = true) ∧ Q (.bl (isNum w)) H
def sp_word_kind (K : PySem.W.Frag) : Sp := fun vs H Q _ => ∃ w : List Nat, vs = [.str (Tx w)] ∧ Q (.str (kdS (kindOf w))) H
/-- a scanner at p: its text, how far it has read, row and column -/
def Sc (K : PySem.W.Frag) (H : Hp) (p dx : Addr) (l : List Nat) (i : Nat) (r c : Int) : Prop := H p = some (.ins (CS K) dx (scF l (i : Int) r c)) ∧ l.length ≤ 10000000 ∧ i ≤ l.length
abbrev scO (K : PySem.W.Frag) (dx : Addr) (l : List Nat) (i : Nat) (r c : Int) : HO := .ins (CS K) dx (scF l (i : Int) r c)
def sp_Scanner_init (K : PySem.W.Frag) : Sp := fun vs H Q _ => ∃ (p dx : Addr) (l : List Nat), vs = [.ref p, .str (Tx l)] ∧ H p = some (.ins (CS K) dx []) ∧ Q .non (upd H p (scO K dx l 0 1 1))
def sp_Scanner_is_done (K : PySem.W.Frag) : Sp := fun vs H Q _ => ∃ (p dx : Addr) (l : List Nat) (i : Nat) (r c : Int), vs = [.ref p] ∧ Sc K H p dx l i r c ∧ Q (.bl (decide (i = l.length))) H
def sp_Scanner_skip_newline (K : PySem.W.Frag) : Sp := fun vs H Q _ => ∃ (p dx : Addr) (l : List Nat) (i : Nat) (r c : Int), vs = [.ref p] ∧ Sc K H p dx l i r c ∧ Q .non (upd H p (scO K dx l (i + 1) (r + 1) 1))
abbrev rowLen (l : List Nat) : Nat := (l.takeWhile (fun c => c != 10)).length
def sp_Scanner_row_end (K : PySem.W.Frag) : Sp := fun vs H Q _ => ∃ (p dx : Addr) (l : List Nat) (i : Nat) (r c : Int), vs = [.ref p] ∧ Sc K H p dx l i r c ∧ Q (.int ((i + rowLen (l.drop i) : Nat) : Int)) H
def sp_Scanner_word_end (K : PySem.W.Frag) : Sp := fun vs H Q _ => ∃ (p dx : Addr) (l : List Nat) (i : Nat) (r c : Int), vs = [.ref p] ∧ Sc K H p dx l i r c ∧ Q (.int ((i + (word (l.drop i)).length : Nat) : Int)) H
def sp_Scanner_take_to (K : PySem.W.Frag) : Sp := fun vs H Q _ => ∃ (p dx : Addr) (l : List Nat) (i n : Nat) (r c : Int), vs = [.ref p, .int ((i + n : Nat) : Int)] ∧ Sc K H p dx l i r c ∧ i + n ≤ l.length ∧
  Q (.str (Tx ((l.drop i).take n))) (upd H p (scO K dx l (i + n) r (c + n)))
def sp_Scanner_skip_gaps (K : PySem.W.Frag) : Sp := fun vs H Q _ => ∃ (p dx : Addr) (l : List Nat) (i : Nat) (r c : Int), vs = [.ref p] ∧ Sc K H p dx l i r c ∧
  ∀ (j : Nat) (r2 c2 : Int), j ≤ l.length → skip false (l.drop i) r c = (l.drop j, r2, c2) → Q .non (upd H p (scO K dx l j r2 c2))
/-- at a place that is no gap and not the end: a sign -/
def sp_Scanner_take_sign (K : PySem.W.Frag) (EW : EWT) : Sp := fun vs H Q E => ∃ (p dx : Addr) (l : List Nat) (i : Nat) (r c : Int) (x : Nat) (xs : List Nat), vs = [.ref p] ∧ Sc K H p dx l i r c ∧ l.drop i = x :: xs ∧ isLet x = false ∧ isDig x = false ∧
  (∀ t (n : Nat), i + n ≤ l.length → Lx.step x xs r c = .ok (⟨.sign, t, r, c⟩, l.drop (i + n), r, c + n) → Q (.str (Tx t)) (upd H p (scO K dx l (i + n) r (c + n)))) ∧ (Lx.step x xs r c = .error (.char, r, c) → EW "BadCharacter" r c E H)
def sp_Scanner_take_token (K : PySem.W.Frag) (EW : EWT) : Sp := fun vs H Q E => ∃ (p dx : Addr) (l : List Nat) (i : Nat) (r c : Int) (x : Nat) (xs : List Nat), vs = [.ref p] ∧ Sc K H p dx l i r c ∧ l.drop i = x :: xs ∧
  (∀ (t : Tk) (n : Nat) (q : Addr) (H' : Hp), i + n ≤ l.length → Lx.step x xs r c = .ok (t, l.drop (i + n), r, c + n) → H q = none → H' = upd (upd H p (scO K dx l (i + n) r (c + n))) q (.tup (tkV t)) → Q (.ref q) H') ∧
  (∀ (e : Er) (H' : Hp), Lx.step x xs r c = .error (e, r, c) → (H' = H ∨ ∃ n : Nat, H' = upd H p (scO K dx l (i + n) r (c + n))) → EW (erS e) r c E H')
/-- a list of tokens at p: tuples -/
def TksAt (H : Hp) (p : Addr) (ts : List Tk) : Prop := ∃ qs : List Addr, H p = some (.lst (qs.map V.ref)) ∧ qs.length = ts.length ∧ ∀ (k : Nat) (q : Addr) (t : Tk), qs[k]? = some q → ts[k]? = some t → H q = some (.tup (tkV t))
def sp_tokens (K : PySem.W.Frag) (EW : EWT) : Sp := fun vs H Q E => ∃ l : List Nat, vs = [.str (Tx l)] ∧ l.length ≤ 10000000 ∧
  (∀ (ts : List Tk) (p : Addr) (H' : Hp), lex l 1 1 = (ts, none) → H p = none → Same H H' → TksAt H' p ts → Q (.ref p) H') ∧
  (∀ (ts : List Tk) (e : Er) (r c : Int) (H' : Hp), lex l 1 1 = (ts, some (e, r, c)) → Same H H' → EW (erS e) r c E H')
/-! ### readings -/

def ns_is_letter : List Str := ["char"]
def t_is_letter (K : PySem.W.Frag) (E : XK) : TS :=
  (tRet (tAndV (tBM0 K "str" rIsascii (tVar 0)) (tBM0 K "str" rIsalpha (tVar 0))))

def ns_is_word_part : List Str := ["char"]
def t_is_word_part (K : PySem.W.Frag) (E : XK) : TS :=
  (tRet (tOrV (tCall (sp_is_letter K) [] E (tCons (tVar 0) tNil)) (tOrV (tOp rInSign (tVar 0) (tC (.str ("0123456789" : Str)))) (tOp rEq (tVar 0) (tC (.str ("_" : Str)))))))

def ns_is_number : List Str := ["word"]
def t_is_number (K : PySem.W.Frag) (E : XK) : TS :=
  (tSeq (tIfS (tOr (tNot (tB (tBM0 K "str" rIsascii (tVar 0)))) (tNot (tB (tBM0 K "str" rIsdigit (tVar 0)))))
      (tRet (tC (.bl false)))
      tNext)
    (tSeq (tIfS (tAnd (tTest (tOp rGtI (tCB rLenS (tCons (tVar 0) tNil)) (tC (.int 1)))) (tTest (tOp rEq (tOp rIxS (tVar 0) (tC (.int 0))) (tC (.str ("0" : Str))))))
      (tRet (tC (.bl false)))
      tNext)
    (tRet (tAndV (tOp rLeI (tCB rLenS (tCons (tVar 0) tNil)) (tC (.int 13))) (tOp rLeI (tCB rIntS (tCons (tVar 0) tNil)) (tC (.int 1000000000000)))))))

def ns_word_kind : List Str := ["word"]
def t_word_kind (K : PySem.W.Frag) (E : XK) : TS :=
  (tSeq (tIfS (tTest (tOp (rIn K false) (tVar 0) (tC (.ref (He.ga K ("KEYWORDS" : Str))))))
      (tRet (tC (.str ("keyword" : Str))))
      tNext)
    (tRet (tC (.str ("name" : Str)))))

def ns_Scanner_init : List Str := ["self", "text"]
def t_Scanner_init (K : PySem.W.Frag) (E : XK) : TS :=
  (tSeq (sFld K (tVar 0) (tVar 1) ("text" : Str))
    (tSeq (sFld K (tVar 0) (tC (.int 0)) ("at" : Str))
    (tSeq (sFld K (tVar 0) (tC (.int 1)) ("row" : Str))
    (sFld K (tVar 0) (tC (.int 1)) ("column" : Str)))))

def ns_Scanner_is_done : List Str := ["self"]
def t_Scanner_is_done (K : PySem.W.Frag) (E : XK) : TS :=
  (tRet (tOp rEq (tFld K (tVar 0) ("at" : Str)) (tCB rLenS (tCons (tFld K (tVar 0) ("text" : Str)) tNil))))

def ns_Scanner_skip_newline : List Str := ["self"]
def t_Scanner_skip_newline (K : PySem.W.Frag) (E : XK) : TS :=
  (tSeq (sFldAug K (tVar 0) (tC (.int 1)) rAdd ("at" : Str))
    (tSeq (sFldAug K (tVar 0) (tC (.int 1)) rAdd ("row" : Str))
    (sFld K (tVar 0) (tC (.int 1)) ("column" : Str))))

def ns_Scanner_row_end : List Str := ["self", "end"]
def t_Scanner_row_end (K : PySem.W.Frag) (E : XK) : TS :=
  (tSeq (tAsg (tBM K "str" rFind3 (tFld K (tVar 0) ("text" : Str)) (tCons (tC (.str ("\n" : Str))) (tCons (tFld K (tVar 0) ("at" : Str)) tNil))) (gName 1))
    (tSeq (tIfS (tTest (tOp rEq (tVar 1) (tUn rNegI (tC (.int 1)))))
      (tRet (tCB rLenS (tCons (tFld K (tVar 0) ("text" : Str)) tNil)))
      tNext)
    (tRet (tVar 1))))

def ns_Scanner_word_end : List Str := ["self", "end"]
def t_Scanner_word_end (K : PySem.W.Frag) (E : XK) : TS :=
  (tSeq (tAsg (tFld K (tVar 0) ("at" : Str)) (gName 1))
    (tSeq (tWhile (tAnd (tTest (tOp rLtI (tVar 1) (tCB rLenS (tCons (tFld K (tVar 0) ("text" : Str)) tNil)))) (tB (tCall (sp_is_word_part K) [] E (tCons (tOp rIxS (tFld K (tVar 0) ("text" : Str)) (tVar 1)) tNil))))
      (tAug 1 (tC (.int 1)) (ipI fun i j => i + j)))
    (tRet (tVar 1))))

def ns_Scanner_take_to : List Str := ["self", "end", "taken"]
def t_Scanner_take_to (K : PySem.W.Frag) (E : XK) : TS :=
  (tSeq (tAsg (tSl rSlS (tFld K (tVar 0) ("text" : Str)) (oSome (tFld K (tVar 0) ("at" : Str))) (oSome (tVar 1))) (gName 2))
    (tSeq (sFldAug K (tVar 0) (tOp rSubI (tVar 1) (tFld K (tVar 0) ("at" : Str))) rAdd ("column" : Str))
    (tSeq (sFld K (tVar 0) (tVar 1) ("at" : Str))
    (tRet (tVar 2)))))

def ns_Scanner_skip_gaps : List Str := ["self", "char"]
def t_Scanner_skip_gaps (K : PySem.W.Frag) (E : XK) : TS :=
  (tWhile (tNot (tB (tMeth (He.ga K ("Scanner" : Str)) ("is_done" : Str) (sp_Scanner_is_done K) [] E (tVar 0) tNil)))
      (tSeq (tAsg (tOp rIxS (tFld K (tVar 0) ("text" : Str)) (tFld K (tVar 0) ("at" : Str))) (gName 1))
    (tIfS (tTest (tOp rEq (tVar 1) (tC (.str ("\n" : Str)))))
      (tDrop (tMeth (He.ga K ("Scanner" : Str)) ("skip_newline" : Str) (sp_Scanner_skip_newline K) [] E (tVar 0) tNil))
      (tIfS (tTest (tOp rEq (tVar 1) (tC (.str (" " : Str)))))
      (tDrop (tMeth (He.ga K ("Scanner" : Str)) ("take_to" : Str) (sp_Scanner_take_to K) [] E (tVar 0) (tCons (tOp rAddI (tFld K (tVar 0) ("at" : Str)) (tC (.int 1))) tNil)))
      (tIfS (tTest (tOp rEq (tVar 1) (tC (.str ("#" : Str)))))
      (tDrop (tMeth (He.ga K ("Scanner" : Str)) ("take_to" : Str) (sp_Scanner_take_to K) [] E (tVar 0) (tCons (tMeth (He.ga K ("Scanner" : Str)) ("row_end" : Str) (sp_Scanner_row_end K) [] E (tVar 0) tNil) tNil)))
      tRetN)))))

def ns_Scanner_take_sign : List Str := ["self", "pair"]
def t_Scanner_take_sign (K : PySem.W.Frag) (EW : EWT) (E : XK) (rz0 : TS) : TS :=
  (tSeq (tAsg (tSl rSlS (tFld K (tVar 0) ("text" : Str)) (oSome (tFld K (tVar 0) ("at" : Str))) (oSome (tOp rAddI (tFld K (tVar 0) ("at" : Str)) (tC (.int 2))))) (gName 1))
    (tSeq (tIfS (tTest (tOp (rIn K false) (tVar 1) (tC (.ref (He.ga K ("LONG_SIGNS" : Str))))))
      (tRet (tMeth (He.ga K ("Scanner" : Str)) ("take_to" : Str) (sp_Scanner_take_to K) [] E (tVar 0) (tCons (tOp rAddI (tFld K (tVar 0) ("at" : Str)) (tC (.int 2))) tNil)))
      tNext)
    (tSeq (tIfS (tTest (tOp (rIn K false) (tOp rIxS (tFld K (tVar 0) ("text" : Str)) (tFld K (tVar 0) ("at" : Str))) (tC (.ref (He.ga K ("SHORT_SIGNS" : Str))))))
      (tRet (tMeth (He.ga K ("Scanner" : Str)) ("take_to" : Str) (sp_Scanner_take_to K) [] E (tVar 0) (tCons (tOp rAddI (tFld K (tVar 0) ("at" : Str)) (tC (.int 1))) tNil)))
      tNext)
    rz0)))

def ns_Scanner_take_token : List Str := ["self", "row", "column", "char", "word"]
def t_Scanner_take_token (K : PySem.W.Frag) (EW : EWT) (E : XK) (rz0 : TS) : TS :=
  (tSeq (tAsg (tFld K (tVar 0) ("row" : Str)) (gName 1))
    (tSeq (tAsg (tFld K (tVar 0) ("column" : Str)) (gName 2))
    (tSeq (tAsg (tOp rIxS (tFld K (tVar 0) ("text" : Str)) (tFld K (tVar 0) ("at" : Str))) (gName 3))
    (tSeq (tIfS (tB (tCall (sp_is_letter K) [] E (tCons (tVar 3) tNil)))
      (tSeq (tAsg (tMeth (He.ga K ("Scanner" : Str)) ("take_to" : Str) (sp_Scanner_take_to K) [] E (tVar 0) (tCons (tMeth (He.ga K ("Scanner" : Str)) ("word_end" : Str) (sp_Scanner_word_end K) [] E (tVar 0) tNil) tNil)) (gName 4))
    (tRet (tTup (tCons (tCall (sp_word_kind K) [] E (tCons (tVar 4) tNil)) (tCons (tVar 4) (tCons (tVar 1) (tCons (tVar 2) tNil)))))))
      tNext)
    (tSeq (tIfS (tTest (tOp rInSign (tVar 3) (tC (.str ("0123456789" : Str)))))
      (tSeq (tAsg (tMeth (He.ga K ("Scanner" : Str)) ("take_to" : Str) (sp_Scanner_take_to K) [] E (tVar 0) (tCons (tMeth (He.ga K ("Scanner" : Str)) ("word_end" : Str) (sp_Scanner_word_end K) [] E (tVar 0) tNil) tNil)) (gName 4))
    (tSeq (tIfS (tNot (tB (tCall (sp_is_number K) [] E (tCons (tVar 4) tNil))))
      rz0
      tNext)
    (tRet (tTup (tCons (tC (.str ("number" : Str))) (tCons (tVar 4) (tCons (tVar 1) (tCons (tVar 2) tNil))))))))
      tNext)
    (tRet (tTup (tCons (tC (.str ("sign" : Str))) (tCons (tMeth (He.ga K ("Scanner" : Str)) ("take_sign" : Str) (sp_Scanner_take_sign K EW) [] E (tVar 0) tNil) (tCons (tVar 1) (tCons (tVar 2) tNil)))))))))))

def ns_tokens : List Str := ["text", "scanner", "found"]
def t_tokens (K : PySem.W.Frag) (EW : EWT) (E : XK) : TS :=
  (tSeq (tAsg (tMake (He.ga K ("Scanner" : Str)) (sp_Scanner_init K) [] E (tCons (tVar 0) tNil)) (gName 1))
    (tSeq (tAsg (tLst tNil) (gName 2))
    (tSeq (tDrop (tMeth (He.ga K ("Scanner" : Str)) ("skip_gaps" : Str) (sp_Scanner_skip_gaps K) [] E (tVar 1) tNil))
    (tSeq (tWhile (tNot (tB (tMeth (He.ga K ("Scanner" : Str)) ("is_done" : Str) (sp_Scanner_is_done K) [] E (tVar 1) tNil)))
      (tSeq (tDrop (tBM K "list" rAppend (tVar 2) (tCons (tMeth (He.ga K ("Scanner" : Str)) ("take_token" : Str) (sp_Scanner_take_token K EW) [] E (tVar 1) tNil) tNil)))
    (tDrop (tMeth (He.ga K ("Scanner" : Str)) ("skip_gaps" : Str) (sp_Scanner_skip_gaps K) [] E (tVar 1) tNil))))
    (tSeq (tDrop (tBM K "list" rAppend (tVar 2) (tCons (tTup (tCons (tC (.str ("end" : Str))) (tCons (tC (.str ("" : Str))) (tCons (tFld K (tVar 1) ("row" : Str)) (tCons (tFld K (tVar 1) ("column" : Str)) tNil))))) tNil)))
    (tRet (tVar 2)))))))

/-! ### runs -/
theorem _root_.L2.Same.put {H H' : Hp} {a : Addr} {o : HO} (s : Same H H') (n : H a = none) : Same H (upd H' a o) := fun b u e => by
  rw [upd_ne (ne_of_none e n)]
  exact s b u e
theorem bf {b : Bool} (h : ¬ b = true) : b = false := Bool.eq_false_iff.mpr h
section
variable {K : PySem.W.Frag} {vs : List V} {H : Hp} {Q : VK} {E : XK}
theorem run_is_letter (h : sp_is_letter K vs H Q E) : t_is_letter K E (DQ Q) (start ns_is_letter vs) H := by
  obtain ⟨c, rfl, q⟩ := h
  refine ⟨_, rfl, rfl, _, rfl, rfl, trivial, _, rfl, ?_⟩
  rw [ascii1]
  refine ite2 (fun h => ?_) (fun h => ?_)
  · have h := of_decide_eq_true h
    refine ⟨_, rfl, rfl, _, rfl, rfl, trivial, ?_⟩
    rw [let_ok c h]
    exact q
  · have e : isLet c = false := by
      cases e : isLet c with
      | false => rfl
      | true => exact absurd (decide_eq_true (isLet_lt e)) h
    show Q (.bl false) H
    rw [← e]
    exact q
theorem run_is_word_part (h : sp_is_word_part K vs H Q E) : t_is_word_part K E (DQ Q) (start ns_is_word_part vs) H := by
  obtain ⟨c, rfl, q⟩ := h
  refine ⟨_, rfl, c, rfl, _, rfl, ?_⟩
  have e : isWP c = (isLet c || (isDig c || c == 95)) := rfl
  refine ite2 (fun h => ?_) (fun h => ?_)
  · rw [e, h] at q
    exact q
  · have h := bf h
    refine ⟨_, rfl, c, _, rfl, rfl, _, rfl, ?_⟩
    rw [digits_mem]
    refine ite2 (fun h2 => ?_) (fun h2 => ?_)
    · rw [e, h, h2] at q
      exact q
    · have h2 := bf h2
      refine ⟨_, rfl, rfl, ?_⟩
      rw [under1, dec_one]
      rw [e, h, h2] at q
      rw [Bool.false_or, Bool.false_or] at q
      rw [show decide (c = 95) = (c == 95) by rw [Bool.beq_eq_decide_eq]]
      exact q
theorem isdigit_ok {w : List Nat} (hne : w ≠ []) (hw : ∀ x ∈ w, isWP x = true) : Txt.isdigit (Tx w) = w.all isDig := by
  have h1 : (Tx w).length > 0 := List.length_pos_iff.mpr hne
  show (decide ((Tx w).length > 0) && w.toArray.all PySem.Unicode.isDigit) = _
  rw [decide_eq_true h1, Bool.true_and, List.all_toArray]
  rw [Bool.eq_iff_iff, List.all_eq_true, List.all_eq_true]
  exact ⟨fun h x hx => by rw [← dig_ok x (isWP_lt (hw x hx))]; exact h x hx, fun h x hx => by rw [dig_ok x (isWP_lt (hw x hx))]; exact h x hx⟩
theorem isascii_ok {w : List Nat} (hw : ∀ x ∈ w, isWP x = true) : Txt.isascii (Tx w) = true := by
  show w.toArray.all (fun x => decide (x < 128)) = true
  rw [List.all_toArray, List.all_eq_true]
  exact fun x hx => decide_eq_true (isWP_lt (hw x hx))
theorem run_is_number (h : sp_is_number K vs H Q E) : t_is_number K E (DQ Q) (start ns_is_number vs) H := by
  obtain ⟨w, rfl, hne, hl, hw, q⟩ := h
  refine ⟨_, rfl, rfl, _, rfl, rfl, trivial, _, rfl, ?_⟩
  rw [isascii_ok hw]
  refine iteF ?_
  refine ⟨_, rfl, rfl, _, rfl, rfl, trivial, _, rfl, ?_⟩
  rw [isdigit_ok hne hw]
  have e : isNum w = (w.all isDig && (!(decide (1 < w.length) && (w.head? == some 48)) && (decide (w.length ≤ 13) && decide (val w ≤ 1000000000000)))) := rfl
  refine ite2 (fun h => ?_) (fun h => ?_)
  · have h : w.all isDig = false := by simpa using h
    rw [e, h] at q
    exact q
  · have h : w.all isDig = true := by simpa using h
    have hz : (Tx w).length ≤ sizeLine := small_len hl
    have hpos : 0 < w.length := List.length_pos_iff.mpr hne
    refine ⟨_, rfl, _, rfl, hz, _, _, rfl, rfl, _, rfl, ?_⟩
    have e1 : decide ((1 : Int) < ((Tx w).length : Int)) = decide (1 < w.length) := by
      rw [Tx_len]
      exact decide_eq_decide.mpr (by omega)
    rw [e1]
    have tail : (decide (1 < w.length) && (w.head? == some 48)) = false →
        (tRet (tAndV (tOp rLeI (tCB rLenS (tCons (tVar 0) tNil)) (tC (.int 13))) (tOp rLeI (tCB rIntS (tCons (tVar 0) tNil)) (tC (.int 1000000000000))))) (DQ Q) (start ns_is_number [V.str (Tx w)]) H := fun hh => by
      rw [e, h, hh] at q
      rw [Bool.true_and, Bool.not_false, Bool.true_and] at q
      refine ⟨_, rfl, _, rfl, hz, _, _, rfl, rfl, _, rfl, ?_⟩
      have e2 : decide (((Tx w).length : Int) ≤ 13) = decide (w.length ≤ 13) := by
        rw [Tx_len]
        exact decide_eq_decide.mpr (by omega)
      rw [e2]
      refine ite2 (fun h3 => ?_) (fun h3 => ?_)
      · have h3' := of_decide_eq_true h3
        have hd : NumText.AllDigits (Tx w).cps.toList := fun x hx => by
          have q := List.all_eq_true.mp h x hx
          unfold isDig at q
          simp at q
          exact q
        have hi := intText_digits hd (by exact hne) (by show w.length ≤ 4300; omega)
        refine ⟨_, rfl, _, _, rfl, hi, (by show w.length ≤ 640; omega), _, _, rfl, rfl, ?_⟩
        have e3 : decide (((NumText.digitsVal (Tx w).cps.toList : Nat) : Int) ≤ 1000000000000) = decide (val w ≤ 1000000000000) := by
          show decide (((val w : Nat) : Int) ≤ 1000000000000) = _
          exact decide_eq_decide.mpr (by omega)
        show Q (.bl (decide (((NumText.digitsVal (Tx w).cps.toList : Nat) : Int) ≤ 1000000000000))) H
        rw [e3]
        rw [h3, Bool.true_and] at q
        exact q
      · have h3 := bf h3
        rw [h3, Bool.false_and] at q
        exact q
    refine ite2 (fun h2 => ?_) (fun h2 => ?_)
    · obtain ⟨c, cs, rfl⟩ : ∃ c cs, w = c :: cs := by
        cases w with
        | nil => exact absurd rfl hne
        | cons c cs => exact ⟨c, cs, rfl⟩
      refine ⟨_, rfl, _, _, c, rfl, rfl, hz, atI_nat (j := 0) rfl, rfl, _, rfl, ?_⟩
      rw [show ("0" : Str) = ⟨#[48]⟩ by decide +kernel, dec_one]
      refine ite2 (fun h3 => ?_) (fun h3 => ?_)
      · have h3 := of_decide_eq_true h3
        have e4 : (decide (1 < (c :: cs).length) && ((c :: cs).head? == some 48)) = true := by rw [h2, h3]; simp
        rw [e, h, e4] at q
        exact q
      · refine tail ?_
        rw [h2]
        have : ¬ c = 48 := fun z => h3 (decide_eq_true z)
        simp [this]
    · refine iteF (tail ?_)
      rw [bf h2]
      rfl
theorem in_list (L : List (List Nat)) (w : List Nat) : inV (.str (Tx w)) (L.map fun k => V.str (Tx k)) = decide (w ∈ L) := by
  unfold inV
  rw [Bool.eq_iff_iff, List.any_eq_true, decide_eq_true_iff]
  constructor
  · rintro ⟨v, hv, e⟩
    obtain ⟨k, hk, rfl⟩ := List.mem_map.mp hv
    have e : (Tx k == Tx w) = true := e
    have := Tx_inj (beq_iff_eq.mp e)
    rw [← this]
    exact hk
  · intro h
    exact ⟨V.str (Tx w), List.mem_map.mpr ⟨w, h, rfl⟩, by show (Tx w == Tx w) = true; simp⟩
theorem take_word : ∀ l : List Nat, l.take (word l).length = word l
  | [] => rfl
  | x :: xs => by
    unfold word
    rw [List.takeWhile_cons]
    split
    · rw [List.length_cons, List.take_succ_cons]
      exact congrArg (x :: ·) (take_word xs)
    · rfl
theorem word_all : ∀ (l : List Nat), ∀ y ∈ word l, isWP y = true
  | [], y, h => by cases h
  | x :: xs, y, h => by
    unfold word at h
    rw [List.takeWhile_cons] at h
    split at h
    · rename_i hx
      rcases List.mem_cons.mp h with rfl | h
      · exact hx
      · exact word_all xs y h
    · cases h
theorem flat_map (l : List (List Nat)) : (l.map fun k => V.str (Tx k)).all flatV = true := by
  rw [List.all_eq_true]
  intro v hv
  obtain ⟨k, _, rfl⟩ := List.mem_map.mp hv
  rfl
theorem run_word_kind (hK : ∀ H, SqT K H (He.ga K ("KEYWORDS" : Str)) (kwL.map fun k => V.str (Tx k))) (h : sp_word_kind K vs H Q E) : t_word_kind K E (DQ Q) (start ns_word_kind vs) H := by
  obtain ⟨w, rfl, q⟩ := h
  refine ⟨_, rfl, _, _, rfl, .inr (hK H), rfl, flat_map _, _, rfl, ?_⟩
  rw [if_neg Bool.false_ne_true, in_list]
  have e : kindOf w = if w ∈ kwL then .keyword else .name := rfl
  refine ite2 (fun h => ?_) (fun h => ?_)
  · rw [e, if_pos (of_decide_eq_true h)] at q
    exact q
  · rw [e, if_neg (fun z => h (decide_eq_true z))] at q
    exact q
theorem skip_true : ∀ (l : List Nat) (r c : Int), skip true l r c = skip false (l.drop (rowLen l)) r (c + (rowLen l : Nat))
  | [], r, c => by
    show ([], r, c) = ([], r, c + ((0 : Nat) : Int))
    rw [Int.natCast_zero, Int.add_zero]
  | x :: xs, r, c => by
    unfold rowLen
    rw [List.takeWhile_cons]
    by_cases h : x = 10
    · rw [skip, if_pos h, if_neg (by simp [h])]
      show _ = skip false (x :: xs) r _
      rw [skip, if_pos h]
    · rw [skip, if_neg h, if_pos (by simpa using h), skip_true xs r (c + 1), List.length_cons, List.drop_succ_cons]
      congr 1
      unfold rowLen
      omega
theorem cut_any (l : List Nat) (i n : Nat) : cutS (Tx l) (some (i : Int)) (some ((i + n : Nat) : Int)) = Tx ((l.drop i).take n) := by
  unfold cutS
  rw [HT.sIx_nat, HT.sIx_nat, Tx_len]
  refine TL.ext_tl ?_
  show (l.drop (min i l.length)).take (min (i + n) l.length - min i l.length) = (l.drop i).take n
  by_cases h : i ≤ l.length
  · rw [Nat.min_eq_left h]
    by_cases h2 : i + n ≤ l.length
    · rw [Nat.min_eq_left h2, Nat.add_sub_cancel_left]
    · rw [Nat.min_eq_right (by omega), List.take_of_length_le (by rw [List.length_drop]; omega), List.take_of_length_le (by rw [List.length_drop]; omega)]
  · rw [Nat.min_eq_right (show l.length ≤ i by omega), List.drop_eq_nil_of_le (Nat.le_refl _), List.drop_eq_nil_of_le (show l.length ≤ i by omega), List.take_nil, List.take_nil]
theorem cut_ok (l : List Nat) (i n : Nat) (h : i + n ≤ l.length) : cutS (Tx l) (some (i : Int)) (some ((i + n : Nat) : Int)) = Tx ((l.drop i).take n) := by
  unfold cutS
  rw [HT.sIx_nat, HT.sIx_nat, Tx_len, Nat.min_eq_left (show i ≤ l.length by omega), Nat.min_eq_left h, Nat.add_sub_cancel_left]
theorem drop_cons {l : List Nat} {i : Nat} (h : i < l.length) : l.drop i = l[i] :: l.drop (i + 1) := List.drop_eq_getElem_cons h
section
variable (S : ScC K)
include S
theorem run_Scanner_init (h : sp_Scanner_init K vs H Q E) : t_Scanner_init K E (DQ Q) (start ns_Scanner_init vs) H := by
  obtain ⟨p, dx, l, rfl, hp, q⟩ := h
  refine ⟨_, rfl, _, rfl, p, _, dx, _, rfl, hp, S.cl, S.nt, (by show 0 < 1000; decide), ?_⟩
  refine ⟨_, rfl, p, _, dx, _, rfl, upd_same, S.cl, S.na, (by show 1 < 1000; decide), ?_⟩
  rw [upd_upd]
  refine ⟨_, rfl, p, _, dx, _, rfl, upd_same, S.cl, S.nr, (by rw [pf_nil, pf_ne neTA, pf_nil]; show 2 < 1000; decide), ?_⟩
  rw [upd_upd]
  refine ⟨_, rfl, p, _, dx, _, rfl, upd_same, S.cl, S.nc, (by rw [pf_nil, pf_ne neTA, pf_nil, pf_ne neTR, pf_ne neAR, pf_nil]; show 3 < 1000; decide), ?_⟩
  rw [upd_upd, scF_init]
  exact q
theorem run_Scanner_is_done (h : sp_Scanner_is_done K vs H Q E) : t_Scanner_is_done K E (DQ Q) (start ns_Scanner_is_done vs) H := by
  obtain ⟨p, dx, l, i, r, c, rfl, ⟨hp, hl, hi⟩, q⟩ := h
  refine ⟨_, rfl, p, _, dx, _, _, rfl, hp, S.cl, S.na, scF_at, _, rfl, p, _, dx, _, _, rfl, hp, S.cl, S.nt, scF_text, _, rfl, small_len hl, rfl, ?_⟩
  rw [dec_int]
  have e : ((i : Int) == ((Tx l).length : Int)) = decide (i = l.length) := by
    rw [Tx_len, Bool.beq_eq_decide_eq]
    exact decide_eq_decide.mpr (by omega)
  rw [e]
  exact q
theorem run_Scanner_skip_newline (h : sp_Scanner_skip_newline K vs H Q E) : t_Scanner_skip_newline K E (DQ Q) (start ns_Scanner_skip_newline vs) H := by
  obtain ⟨p, dx, l, i, r, c, rfl, ⟨hp, hl, hi⟩, q⟩ := h
  refine ⟨_, rfl, p, _, dx, _, _, rfl, hp, S.cl, S.na, scF_at, _, _, rfl, rfl, dx, _, hp, scF_len, ?_⟩
  rw [scF_pat]
  refine ⟨_, rfl, p, _, dx, _, _, rfl, upd_same, S.cl, S.nr, scF_row, _, _, rfl, rfl, dx, _, upd_same, scF_len, ?_⟩
  rw [upd_upd, scF_prow]
  refine ⟨_, rfl, p, _, dx, _, rfl, upd_same, S.cl, S.nc, scF_len, ?_⟩
  rw [upd_upd, scF_pcol]
  exact q
theorem run_Scanner_row_end (h : sp_Scanner_row_end K vs H Q E) : t_Scanner_row_end K E (DQ Q) (start ns_Scanner_row_end vs) H := by
  obtain ⟨p, dx, l, i, r, c, rfl, ⟨hp, hl, hi⟩, q⟩ := h
  refine ⟨_, rfl, p, _, dx, _, _, rfl, hp, S.cl, S.nt, scF_text, rfl, _, rfl, p, _, dx, _, _, rfl, hp, S.cl, S.na, scF_at, _, _, _, rfl, rfl, ?_⟩
  rw [find_nl l i hi]
  by_cases e : i + ((l.drop i).takeWhile (fun c => c != 10)).length = l.length
  · rw [if_pos e]
    refine ⟨_, rfl, _, rfl, rfl, _, rfl, iteT ?_⟩
    refine ⟨_, rfl, p, _, dx, _, _, rfl, hp, S.cl, S.nt, scF_text, _, rfl, small_len hl, ?_⟩
    rw [Tx_len, ← e]
    exact q
  · rw [if_neg e]
    refine ⟨_, rfl, _, rfl, rfl, _, rfl, ?_⟩
    rw [dec_int, show ((((i + ((l.drop i).takeWhile (fun c => c != 10)).length : Nat) : Int)) == -1) = false by rw [Bool.beq_eq_decide_eq]; exact decide_eq_false (by omega)]
    refine iteF ⟨_, rfl, q⟩
theorem run_Scanner_word_end (h : sp_Scanner_word_end K vs H Q E) : t_Scanner_word_end K E (DQ Q) (start ns_Scanner_word_end vs) H := by
  obtain ⟨p, dx, l, i, r, c, rfl, ⟨hp, hl, hi⟩, q⟩ := h
  refine ⟨_, rfl, p, _, dx, _, _, rfl, hp, S.cl, S.na, scF_at, ?_⟩
  refine ⟨fun m σ H' => H' = H ∧ ∃ j : Nat, m = l.length - j ∧ σ = [some (.ref p), some (.int (j : Int))] ∧ j ≤ l.length ∧ i + (word (l.drop i)).length = j + (word (l.drop j)).length, ⟨_, rfl, i, rfl, rfl, hi, rfl⟩, ?_⟩
  rintro m σ H' ⟨rfl, j, rfl, rfl, hj, e⟩
  refine ⟨_, rfl, _, rfl, p, _, dx, _, _, rfl, hp, S.cl, S.nt, scF_text, _, rfl, small_len hl, _, _, rfl, rfl, _, rfl, ?_⟩
  have fin : (word (l.drop j)).length = 0 → (tRet (tVar 1)) (DQ Q) [some (.ref p), some (.int (j : Int))] H' := fun hz => by
    refine ⟨_, rfl, ?_⟩
    rw [hz, Nat.add_zero] at e
    rw [← e]
    exact q
  by_cases hlt : j < l.length
  · rw [decide_eq_true (show (j : Int) < ((Tx l).length : Int) by rw [Tx_len]; omega)]
    refine iteT ?_
    refine ⟨_, rfl, p, _, dx, _, _, rfl, hp, S.cl, S.nt, scF_text, _, rfl, _, _, l[j], rfl, rfl, small_len hl, atI_nat (j := j) (by rw [List.getElem?_eq_getElem hlt]), l[j], rfl, _, rfl, ?_⟩
    refine ite2 (fun h => ?_) (fun h => ?_)
    · refine ⟨fun σ' H'' => H'' = H' ∧ ∃ j2 : Nat, σ' = [some (.ref p), some (.int (j2 : Int))] ∧ j2 = j + 1, ?_, ?_⟩
      · rintro σ' H'' ⟨rfl, j2, rfl, rfl⟩
        refine ⟨l.length - (j + 1), by omega, rfl, j + 1, rfl, rfl, hlt, ?_⟩
        rw [e, drop_cons hlt]
        unfold word
        rw [List.takeWhile_cons, if_pos h, List.length_cons]
        omega
      · exact ⟨_, rfl, _, _, rfl, rfl, rfl, j + 1, rfl, rfl⟩
    · refine fin ?_
      rw [drop_cons hlt]
      unfold word
      rw [List.takeWhile_cons, if_neg h]
      rfl
  · rw [decide_eq_false (show ¬ (j : Int) < ((Tx l).length : Int) by rw [Tx_len]; omega)]
    refine iteF (fin ?_)
    rw [List.drop_eq_nil_of_le (by omega)]
    rfl
theorem run_Scanner_take_to (h : sp_Scanner_take_to K vs H Q E) : t_Scanner_take_to K E (DQ Q) (start ns_Scanner_take_to vs) H := by
  obtain ⟨p, dx, l, i, n, r, c, rfl, ⟨hp, hl, hi⟩, hn, q⟩ := h
  refine ⟨_, rfl, p, _, dx, _, _, rfl, hp, S.cl, S.nt, scF_text, ?_⟩
  refine ⟨_, rfl, p, _, dx, _, _, rfl, hp, S.cl, S.na, scF_at, _, rfl, _, rfl, _, rfl, _, rfl, small_len hl, ?_⟩
  rw [cut_ok l i n hn]
  refine ⟨_, rfl, p, _, dx, _, _, rfl, hp, S.cl, S.nc, scF_col, _, rfl, _, rfl, p, _, dx, _, _, rfl, hp, S.cl, S.na, scF_at, _, _, rfl, rfl, _, _, rfl, rfl, dx, _, hp, scF_len, ?_⟩
  rw [scF_pcol]
  refine ⟨_, rfl, _, rfl, p, _, dx, _, rfl, upd_same, S.cl, S.na, scF_len, ?_⟩
  rw [upd_upd, scF_pat, show c + (((i + n : Nat) : Int) - (i : Int)) = c + n by omega]
  exact ⟨_, rfl, q⟩
theorem run_Scanner_skip_gaps (h : sp_Scanner_skip_gaps K vs H Q E) : t_Scanner_skip_gaps K E (DQ Q) (start ns_Scanner_skip_gaps vs) H := by
  obtain ⟨p, dx, l, i, r, c, rfl, ⟨hp, hl, hi⟩, q⟩ := h
  refine ⟨fun m σ H' => ∃ (j : Nat) (r2 c2 : Int) (cv : Option V), m = l.length - j ∧ σ = [some (.ref p), cv] ∧ H' = upd H p (scO K dx l j r2 c2) ∧ j ≤ l.length ∧ skip false (l.drop i) r c = skip false (l.drop j) r2 c2,
    ⟨_, i, r, c, none, rfl, rfl, (upd_self hp).symm, hi, rfl⟩, ?_⟩
  rintro m σ H' ⟨j, r2, c2, cv, rfl, rfl, rfl, hj, e⟩
  refine ⟨_, rfl, p, dx, _, rfl, upd_same, scF_no (by decide +kernel) (by decide +kernel) (by decide +kernel) (by decide +kernel), p, dx, l, j, r2, c2, rfl, ⟨upd_same, hl, hj⟩, _, rfl, ?_⟩
  by_cases hlt : j < l.length
  · rw [decide_eq_false (show ¬ j = l.length by omega)]
    refine iteT ⟨fun σ' H'' => ∃ m', m' < l.length - j ∧ ∃ (j2 : Nat) (r3 c3 : Int) (cv : Option V), m' = l.length - j2 ∧ σ' = [some (.ref p), cv] ∧ H'' = upd H p (scO K dx l j2 r3 c3) ∧ j2 ≤ l.length ∧ skip false (l.drop i) r c = skip false (l.drop j2) r3 c3, fun _ _ z => z, ?_⟩
    have ed := drop_cons hlt
    refine ⟨_, rfl, p, _, dx, _, _, rfl, upd_same, S.cl, S.nt, scF_text, _, rfl, p, _, dx, _, _, rfl, upd_same, S.cl, S.na, scF_at, _, _, l[j], rfl, rfl, small_len hl, atI_nat (j := j) (by rw [List.getElem?_eq_getElem hlt]), ?_⟩
    refine ⟨_, rfl, rfl, _, rfl, ?_⟩
    rw [nl1, dec_one]
    refine ite2 (fun h => ?_) (fun h => ?_)
    · have h := of_decide_eq_true h
      refine ⟨_, rfl, p, dx, _, rfl, upd_same, scF_no (by decide +kernel) (by decide +kernel) (by decide +kernel) (by decide +kernel), p, dx, l, j, r2, c2, rfl, ⟨upd_same, hl, hj⟩, ?_⟩
      rw [upd_upd]
      refine ⟨l.length - (j + 1), by omega, j + 1, r2 + 1, 1, _, rfl, rfl, rfl, hlt, ?_⟩
      rw [e, ed, skip, if_pos h]
    · have h : ¬ l[j] = 10 := fun z => h (decide_eq_true z)
      refine ⟨_, rfl, rfl, _, rfl, ?_⟩
      rw [show (" " : Str) = ⟨#[32]⟩ by decide +kernel, dec_one]
      refine ite2 (fun h2 => ?_) (fun h2 => ?_)
      · have h2 := of_decide_eq_true h2
        refine ⟨_, rfl, p, dx, _, rfl, upd_same, scF_no (by decide +kernel) (by decide +kernel) (by decide +kernel) (by decide +kernel), _, rfl, p, _, dx, _, _, rfl, upd_same, S.cl, S.na, scF_at, _, _, rfl, rfl,
          p, dx, l, j, 1, r2, c2, rfl, ⟨upd_same, hl, hj⟩, hlt, ?_⟩
        rw [upd_upd]
        refine ⟨l.length - (j + 1), by omega, j + 1, r2, c2 + 1, _, rfl, rfl, rfl, hlt, ?_⟩
        rw [e, ed, skip, if_neg h, if_pos h2]
      · have h2 : ¬ l[j] = 32 := fun z => h2 (decide_eq_true z)
        refine ⟨_, rfl, rfl, _, rfl, ?_⟩
        rw [show ("#" : Str) = ⟨#[35]⟩ by decide +kernel, dec_one]
        refine ite2 (fun h3 => ?_) (fun h3 => ?_)
        · have h3 := of_decide_eq_true h3
          have hr : rowLen (l.drop j) = rowLen (l.drop (j + 1)) + 1 := by
            rw [ed]
            show (List.takeWhile (fun c => c != 10) (l[j] :: l.drop (j + 1))).length = _
            rw [List.takeWhile_cons, if_pos (by simpa using h)]
            rfl
          have hrl : rowLen (l.drop j) ≤ (l.drop j).length := takeWhile_len _ _
          rw [List.length_drop] at hrl
          refine ⟨_, rfl, p, dx, _, rfl, upd_same, scF_no (by decide +kernel) (by decide +kernel) (by decide +kernel) (by decide +kernel), _, rfl, p, dx, _, rfl, upd_same, scF_no (by decide +kernel) (by decide +kernel) (by decide +kernel) (by decide +kernel),
            p, dx, l, j, r2, c2, rfl, ⟨upd_same, hl, hj⟩, p, dx, l, j, rowLen (l.drop j), r2, c2, rfl, ⟨upd_same, hl, hj⟩, by omega, ?_⟩
          rw [upd_upd]
          refine ⟨l.length - (j + rowLen (l.drop j)), by omega, j + rowLen (l.drop j), r2, c2 + (rowLen (l.drop j) : Nat), _, rfl, rfl, rfl, by omega, ?_⟩
          rw [e, ed, skip, if_neg h, if_neg h2, if_pos h3, skip_true, List.drop_drop, ← ed, hr]
          congr 1
          · congr 1
            omega
          · omega
        · have h3 : ¬ l[j] = 35 := fun z => h3 (decide_eq_true z)
          refine q j r2 c2 hj ?_
          rw [e, ed, skip_here ⟨h, h2, h3⟩]
  · rw [decide_eq_true (show j = l.length by omega)]
    refine iteF (q j r2 c2 hj ?_)
    rw [e, List.drop_eq_nil_of_le (by omega)]
    rfl
theorem run_Scanner_take_sign {EW : EWT} {rz0 : TS} (hLg : ∀ H, SqT K H (He.ga K ("LONG_SIGNS" : Str)) (longL.map fun k => V.str (Tx k))) (hSh : ∀ H, SqT K H (He.ga K ("SHORT_SIGNS" : Str)) (shortL.map fun k => V.str (Tx k)))
    (hz : ∀ (D : Ends) (σ : L2.St) (H : Hp) (p dx : Addr) (l : List Nat) (i : Nat) (r c : Int), σ[0]? = some (some (.ref p)) → Sc K H p dx l i r c → EW "BadCharacter" r c E H → rz0 D σ H)
    (h : sp_Scanner_take_sign K EW vs H Q E) : t_Scanner_take_sign K EW E rz0 (DQ Q) (start ns_Scanner_take_sign vs) H := by
  obtain ⟨p, dx, l, i, r, c, x, xs, rfl, ⟨hp, hl, hi⟩, ed, h1, h2, q, qe⟩ := h
  have hlt : i < l.length := by
    have := congrArg List.length ed
    rw [List.length_drop, List.length_cons] at this
    omega
  have hx : l[i]? = some x := by
    have := congrArg List.head? ed
    rw [List.head?_drop] at this
    exact this
  have est : Lx.step x xs r c = if (x :: xs).take 2 ∈ longL then .ok (⟨.sign, (x :: xs).take 2, r, c⟩, (x :: xs).drop 2, r, c + 2) else if [x] ∈ shortL then .ok (⟨.sign, [x], r, c⟩, xs, r, c + 1) else .error (.char, r, c) := by
    unfold Lx.step
    rw [if_neg (by rw [h1]; exact Bool.false_ne_true), if_neg (by rw [h2]; exact Bool.false_ne_true)]
  refine ⟨_, rfl, p, _, dx, _, _, rfl, hp, S.cl, S.nt, scF_text, _, rfl, p, _, dx, _, _, rfl, hp, S.cl, S.na, scF_at, _, rfl, _, rfl, p, _, dx, _, _, rfl, hp, S.cl, S.na, scF_at, _, _, rfl, rfl, _, rfl, _, rfl, small_len hl, ?_⟩
  rw [show (i : Int) + 2 = ((i + 2 : Nat) : Int) by omega, cut_any, ed]
  refine ⟨_, rfl, _, _, rfl, .inr (hLg H), rfl, flat_map _, _, rfl, ?_⟩
  rw [if_neg Bool.false_ne_true, in_list]
  refine ite2 (fun h3 => ?_) (fun h3 => ?_)
  · have h3 := of_decide_eq_true h3
    have h2l : i + 2 ≤ l.length := by
      have e : ∀ w ∈ longL, w.length = 2 := by decide +kernel
      have q := e _ h3
      rw [← ed, List.length_take, List.length_drop] at q
      omega
    refine ⟨_, rfl, p, dx, _, rfl, hp, scF_no (by decide +kernel) (by decide +kernel) (by decide +kernel) (by decide +kernel), _, rfl, p, _, dx, _, _, rfl, hp, S.cl, S.na, scF_at, _, _, rfl, rfl,
      p, dx, l, i, 2, r, c, rfl, ⟨hp, hl, hi⟩, h2l, ?_⟩
    rw [ed]
    refine q _ 2 h2l ?_
    rw [est, if_pos h3, ← ed, List.drop_drop]
    rfl
  · have h3 : ¬ (x :: xs).take 2 ∈ longL := fun z => h3 (decide_eq_true z)
    rw [if_neg h3] at est
    refine ⟨_, rfl, p, _, dx, _, _, rfl, hp, S.cl, S.nt, scF_text, _, rfl, p, _, dx, _, _, rfl, hp, S.cl, S.na, scF_at, _, _, x, rfl, rfl, small_len hl, atI_nat (j := i) hx, _, _, rfl, .inr (hSh H), rfl, flat_map _, _, rfl, ?_⟩
    rw [if_neg Bool.false_ne_true, show (⟨#[x]⟩ : Str) = Tx [x] from rfl, in_list]
    refine ite2 (fun h4 => ?_) (fun h4 => ?_)
    · have h4 := of_decide_eq_true h4
      refine ⟨_, rfl, p, dx, _, rfl, hp, scF_no (by decide +kernel) (by decide +kernel) (by decide +kernel) (by decide +kernel), _, rfl, p, _, dx, _, _, rfl, hp, S.cl, S.na, scF_at, _, _, rfl, rfl,
        p, dx, l, i, 1, r, c, rfl, ⟨hp, hl, hi⟩, hlt, ?_⟩
      rw [ed]
      refine q _ 1 hlt ?_
      rw [est, if_pos h4, ← List.drop_drop, ed]
      rfl
    · have h4 : ¬ [x] ∈ shortL := fun z => h4 (decide_eq_true z)
      rw [if_neg h4] at est
      exact hz _ _ _ p dx l i r c rfl ⟨hp, hl, hi⟩ (qe est)
theorem run_Scanner_take_token {EW : EWT} {rz0 : TS} (hz : ∀ (D : Ends) (σ : L2.St) (H : Hp) (r c : Int), σ[1]? = some (some (.int r)) → σ[2]? = some (some (.int c)) → EW "BadNumber" r c E H → rz0 D σ H)
    (h : sp_Scanner_take_token K EW vs H Q E) : t_Scanner_take_token K EW E rz0 (DQ Q) (start ns_Scanner_take_token vs) H := by
  obtain ⟨p, dx, l, i, r, c, x, xs, rfl, ⟨hp, hl, hi⟩, ed, q, qe⟩ := h
  have hlt : i < l.length := by
    have := congrArg List.length ed
    rw [List.length_drop, List.length_cons] at this
    omega
  have hx : l[i]? = some x := by
    have := congrArg List.head? ed
    rw [List.head?_drop] at this
    exact this
  have wl := word_len (l.drop i)
  rw [List.length_drop] at wl
  have wd : (l.drop i).take (word (l.drop i)).length = word (l.drop i) := take_word _
  have dw : (x :: xs).drop (word (l.drop i)).length = l.drop (i + (word (l.drop i)).length) := by rw [← ed, List.drop_drop]
  have hn : i + (word (l.drop i)).length ≤ l.length := by omega
  refine ⟨_, rfl, p, _, dx, _, _, rfl, hp, S.cl, S.nr, scF_row, _, rfl, p, _, dx, _, _, rfl, hp, S.cl, S.nc, scF_col, _, rfl, p, _, dx, _, _, rfl, hp, S.cl, S.nt, scF_text, _, rfl, p, _, dx, _, _, rfl, hp, S.cl, S.na, scF_at, _, _, x, rfl, rfl, small_len hl, atI_nat (j := i) hx, ?_⟩
  refine ⟨_, rfl, x, rfl, _, rfl, ?_⟩
  refine ite2 (fun h1 => ?_) (fun h1 => ?_)
  · -- a name or a keyword
    refine ⟨_, rfl, p, dx, _, rfl, hp, scF_no (by decide +kernel) (by decide +kernel) (by decide +kernel) (by decide +kernel), _, rfl, p, dx, _, rfl, hp, scF_no (by decide +kernel) (by decide +kernel) (by decide +kernel) (by decide +kernel),
      p, dx, l, i, r, c, rfl, ⟨hp, hl, hi⟩, p, dx, l, i, (word (l.drop i)).length, r, c, rfl, ⟨hp, hl, hi⟩, hn, ?_⟩
    rw [wd]
    refine ⟨_, rfl, word (l.drop i), rfl, _, rfl, _, rfl, _, rfl, (by show 4 ≤ sizeLine; decide), fun a na => ?_⟩
    have nap : a ≠ p := fun z => by rw [z, upd_same] at na; cases na
    rw [upd_ne nap] at na
    refine q ⟨kindOf (word (l.drop i)), word (l.drop i), r, c⟩ _ a _ hn ?_ na rfl
    unfold Lx.step
    rw [if_pos h1, ← ed, List.drop_drop]
  · have h1 := bf h1
    refine ⟨_, rfl, x, _, rfl, rfl, _, rfl, ?_⟩
    rw [digits_mem]
    refine ite2 (fun h2 => ?_) (fun h2 => ?_)
    · -- what begins with a digit
      have hall : ∀ y ∈ word (l.drop i), isWP y = true := word_all _
      have hne : word (l.drop i) ≠ [] := by
        rw [ed]
        have := word_pos (x := x) (xs := xs) (by unfold isWP; rw [h2]; simp)
        exact List.ne_nil_of_length_pos this
      refine ⟨_, rfl, p, dx, _, rfl, hp, scF_no (by decide +kernel) (by decide +kernel) (by decide +kernel) (by decide +kernel), _, rfl, p, dx, _, rfl, hp, scF_no (by decide +kernel) (by decide +kernel) (by decide +kernel) (by decide +kernel),
        p, dx, l, i, r, c, rfl, ⟨hp, hl, hi⟩, p, dx, l, i, (word (l.drop i)).length, r, c, rfl, ⟨hp, hl, hi⟩, hn, ?_⟩
      rw [wd]
      refine ⟨_, rfl, word (l.drop i), rfl, hne, by omega, hall, _, rfl, ?_⟩
      have est : Lx.step x xs r c = if isNum (word (x :: xs)) then .ok (⟨.number, word (x :: xs), r, c⟩, (x :: xs).drop (word (x :: xs)).length, r, c + (word (x :: xs)).length) else .error (.num, r, c) := by
        unfold Lx.step
        rw [if_neg (by rw [h1]; exact Bool.false_ne_true), if_pos h2]
      rw [← ed] at est
      cases hnum : isNum (word (l.drop i)) with
      | false =>
        refine iteT ?_
        rw [hnum, if_neg Bool.false_ne_true] at est
        exact hz _ _ _ r c rfl rfl (qe .num _ est (.inr ⟨_, rfl⟩))
      | true =>
        refine iteF ?_
        rw [hnum, if_pos rfl, List.drop_drop] at est
        refine ⟨_, rfl, _, rfl, _, rfl, (by show 4 ≤ sizeLine; decide), fun a na => ?_⟩
        have nap : a ≠ p := fun z => by rw [z, upd_same] at na; cases na
        rw [upd_ne nap] at na
        exact q ⟨.number, word (l.drop i), r, c⟩ _ a _ hn est na rfl
    · have h2 := bf h2
      refine ⟨_, rfl, p, dx, _, rfl, hp, scF_no (by decide +kernel) (by decide +kernel) (by decide +kernel) (by decide +kernel), p, dx, l, i, r, c, x, xs, rfl, ⟨hp, hl, hi⟩, ed, h1, h2, fun t n hn est => ?_, fun est => qe .char _ est (.inl rfl)⟩
      refine ⟨_, rfl, _, rfl, (by show 4 ≤ sizeLine; decide), fun a na => ?_⟩
      have nap : a ≠ p := fun z => by rw [z, upd_same] at na; cases na
      rw [upd_ne nap] at na
      exact q ⟨.sign, t, r, c⟩ n a _ hn est na rfl
theorem run_tokens {EW : EWT} (h : sp_tokens K EW vs H Q E) : t_tokens K EW E (DQ Q) (start ns_tokens vs) H := by
  obtain ⟨l, rfl, hl, q, qe⟩ := h
  refine ⟨_, rfl, fun x dx nx ndx nex => ?_⟩
  refine ⟨x, dx, l, rfl, upd_same, rfl, ?_⟩
  rw [upd_upd]
  refine ⟨(by show 0 ≤ sizeLine; decide), fun f nf => ?_⟩
  have nfx : f ≠ x := fun z => by rw [z, upd_same] at nf; cases nf
  have nfd : f ≠ dx := fun z => by rw [z, upd_ne nex, upd_same] at nf; cases nf
  have nfH : H f = none := by rw [upd_ne nfx, upd_ne nfd] at nf; exact nf
  have s0 : Same H (upd (upd (upd H dx (.own x)) x (scO K dx l 0 1 1)) f (.lst [])) := fun b o e => by
    rw [upd_ne (ne_of_none e nfH), upd_ne (ne_of_none e nx), upd_ne (ne_of_none e ndx)]
    exact e
  -- scanner.skip_gaps()
  refine ⟨_, rfl, x, dx, _, rfl, (by rw [upd_ne nfx.symm, upd_same]), scF_no (by decide +kernel) (by decide +kernel) (by decide +kernel) (by decide +kernel), x, dx, l, 0, 1, 1, rfl, ⟨by rw [upd_ne nfx.symm, upd_same], hl, Nat.zero_le _⟩, fun j r c hj es => ?_⟩
  have start1 : lex l 1 1 = lex (l.drop j) r c := lex_skip (by
    have := skip_idem false (l.drop 0) 1 1
    rw [es] at this
    rw [this, ← es]
    rfl)
  refine ⟨fun m σ H' => ∃ (j : Nat) (r c : Int) (ts : List Tk), m = l.length - j ∧ σ = [some (.str (Tx l)), some (.ref x), some (.ref f)] ∧ H' x = some (scO K dx l j r c) ∧ TksAt H' f ts ∧ ts.length ≤ j ∧ j ≤ l.length ∧ skip false (l.drop j) r c = (l.drop j, r, c) ∧
      lex l 1 1 = (ts ++ (lex (l.drop j) r c).1, (lex (l.drop j) r c).2) ∧ Same H H', ⟨_, j, r, c, [], rfl, rfl, upd_same, ⟨[], ?_, rfl, fun k q t e => by simp at e⟩, Nat.zero_le _, hj, ?_, start1, ?_⟩, ?_⟩
  · rw [upd_ne nfx, upd_same]
    rfl
  · have := skip_idem false (l.drop 0) 1 1
    rw [es] at this
    exact this
  · exact s0.put nx
  rintro m σ H' ⟨j, r, c, ts, rfl, rfl, hx, hT, htl, hj, hs, hlx, s1⟩
  have hsc : Sc K H' x dx l j r c := ⟨hx, hl, hj⟩
  refine ⟨_, rfl, x, dx, _, rfl, hx, scF_no (by decide +kernel) (by decide +kernel) (by decide +kernel) (by decide +kernel), x, dx, l, j, r, c, rfl, hsc, _, rfl, ?_⟩
  obtain ⟨qs, hf, hql, hqs⟩ := id hT
  by_cases hlt : j < l.length
  · rw [decide_eq_false (show ¬ j = l.length by omega)]
    refine iteT ⟨fun σ' H'' => ∃ m', m' < l.length - j ∧ ∃ (j : Nat) (r c : Int) (ts : List Tk), m' = l.length - j ∧ σ' = [some (.str (Tx l)), some (.ref x), some (.ref f)] ∧ H'' x = some (scO K dx l j r c) ∧ TksAt H'' f ts ∧ ts.length ≤ j ∧ j ≤ l.length ∧ skip false (l.drop j) r c = (l.drop j, r, c) ∧
      lex l 1 1 = (ts ++ (lex (l.drop j) r c).1, (lex (l.drop j) r c).2) ∧ Same H H'', fun _ _ z => z, ?_⟩
    have ed := drop_cons hlt
    refine ⟨_, rfl, .inl ⟨rfl, _, SqL.of hf⟩, _, rfl, x, dx, _, rfl, hx, scF_no (by decide +kernel) (by decide +kernel) (by decide +kernel) (by decide +kernel), x, dx, l, j, r, c, l[j], l.drop (j + 1), rfl, hsc, ed, fun t n a H2 hn est na eH2 => ?_, fun e H2 est eH2 => ?_⟩
    · subst eH2
      have nax : a ≠ x := fun z => by rw [z, hx] at na; cases na
      have naf : a ≠ f := fun z => by rw [z, hf] at na; cases na
      have nxf : x ≠ f := nfx.symm
      have hf2 : (upd (upd H' x (scO K dx l (j + n) r (c + n))) a (.tup (tkV t))) f = some (.lst (qs.map V.ref)) := by rw [upd_ne naf.symm, upd_ne nfx]; exact hf
      have hlex : lex (l.drop j) r c = (t :: (lex (l.drop (j + n)) r (c + n)).1, (lex (l.drop (j + n)) r (c + n)).2) := lex_tok (by rw [hs, ed]) est
      have hlen := step_len est
      rw [← ed, List.length_drop, List.length_drop] at hlen
      refine ⟨f, _, _, rfl, rfl, hf2, (by rw [List.length_map, hql]; exact Nat.lt_of_le_of_lt htl (Nat.lt_of_lt_of_le hlt (Nat.le_trans hl (by decide)))), ?_⟩
      have hx3 : (upd (upd (upd H' x (scO K dx l (j + n) r (c + n))) a (.tup (tkV t))) f (.lst (qs.map V.ref ++ [V.ref a]))) x = some (scO K dx l (j + n) r (c + n)) := by rw [upd_ne nxf, upd_ne nax.symm, upd_same]
      refine ⟨_, rfl, x, dx, _, rfl, hx3, scF_no (by decide +kernel) (by decide +kernel) (by decide +kernel) (by decide +kernel), x, dx, l, j + n, r, c + n, rfl, ⟨hx3, hl, hn⟩, fun j2 r2 c2 hj2 es2 => ?_⟩
      have sk : skip false (l.drop j2) r2 c2 = (l.drop j2, r2, c2) := by
        have := skip_idem false (l.drop (j + n)) r (c + n)
        rw [es2] at this
        exact this
      have hlen2 := skip_len false (l.drop (j + n)) r (c + n)
      rw [es2] at hlen2
      rw [List.length_drop, List.length_drop] at hlen2
      refine ⟨l.length - j2, by omega, j2, r2, c2, ts ++ [t], rfl, rfl, upd_same, ⟨qs ++ [a], ?_, ?_, fun k qa ta e1 e2 => ?_⟩, ?_, hj2, sk, ?_, ?_⟩
      · rw [upd_ne nfx, upd_same, List.map_append]
        rfl
      · rw [List.length_append, List.length_append, hql]
        rfl
      · by_cases hk : k < qs.length
        · rw [List.getElem?_append_left hk] at e1
          rw [List.getElem?_append_left (by omega)] at e2
          have h0 := hqs k qa ta e1 e2
          have n1 : qa ≠ x := ne_of h0 hx (by intro z; cases z)
          have n2 : qa ≠ f := ne_of h0 hf (by intro z; cases z)
          have n3 : qa ≠ a := ne_of_none h0 na
          rw [upd_ne n1, upd_ne n2, upd_ne n3, upd_ne n1]
          exact h0
        · have hkl : k < (qs ++ [a]).length := (List.getElem?_eq_some_iff.mp e1).1
          rw [List.length_append, List.length_singleton] at hkl
          have ek : k = qs.length := by omega
          subst ek
          rw [List.getElem?_append_right (Nat.le_refl _), Nat.sub_self] at e1
          rw [hql, List.getElem?_append_right (Nat.le_refl _), Nat.sub_self] at e2
          cases e1
          cases e2
          rw [upd_ne nax, upd_ne naf, upd_same]
      · rw [List.length_append, List.length_singleton]
        omega
      · have e3 : lex (l.drop (j + n)) r (c + n) = lex (l.drop j2) r2 c2 := lex_skip (by rw [sk, es2])
        rw [hlx, hlex, e3, List.append_assoc]
        rfl
      · exact (((s1.put nx).put (s1.free na)).put nfH).put nx
    · have s2 : Same H H2 := by
        rcases eH2 with rfl | ⟨n, rfl⟩
        · exact s1
        · exact s1.put nx
      refine qe ts e r c H2 ?_ s2
      rw [hlx, lex_err (by rw [hs, ed]) est, List.append_nil]
  · have ej : j = l.length := by omega
    subst ej
    rw [decide_eq_true rfl]
    refine iteF ?_
    have nxf : x ≠ f := nfx.symm
    refine ⟨_, rfl, .inl ⟨rfl, _, SqL.of hf⟩, _, rfl, x, _, dx, _, _, rfl, hx, S.cl, S.nr, scF_row, _, rfl, x, _, dx, _, _, rfl, hx, S.cl, S.nc, scF_col, (by show 4 ≤ sizeLine; decide), fun a na => ?_⟩
    have nax : a ≠ x := fun z => by rw [z, hx] at na; cases na
    have naf : a ≠ f := fun z => by rw [z, hf] at na; cases na
    have hf2 : (upd H' a (.tup [V.str ("end" : Str), V.str ("" : Str), V.int r, V.int c])) f = some (.lst (qs.map V.ref)) := by rw [upd_ne naf.symm]; exact hf
    refine ⟨f, _, _, rfl, rfl, hf2, (by rw [List.length_map, hql]; exact Nat.lt_of_le_of_lt htl (Nat.lt_of_le_of_lt hl (by decide))), _, rfl, ?_⟩
    have hend : lex (l.drop l.length) r c = ([⟨.fin, [], r, c⟩], none) := by
      refine lex_end ?_
      rw [hs, List.drop_eq_nil_of_le (Nat.le_refl _)]
    refine q (ts ++ [⟨.fin, [], r, c⟩]) f _ ?_ nfH ((s1.put (s1.free na)).put nfH) ⟨qs ++ [a], ?_, ?_, fun k qa ta e1 e2 => ?_⟩
    · rw [hlx, hend]
    · rw [upd_same, List.map_append]
      rfl
    · rw [List.length_append, List.length_append, hql]
      rfl
    · by_cases hk : k < qs.length
      · rw [List.getElem?_append_left hk] at e1
        rw [List.getElem?_append_left (by omega)] at e2
        have h0 := hqs k qa ta e1 e2
        have n2 : qa ≠ f := ne_of h0 hf (by intro z; cases z)
        have n3 : qa ≠ a := ne_of_none h0 na
        rw [upd_ne n2, upd_ne n3]
        exact h0
      · have hkl : k < (qs ++ [a]).length := (List.getElem?_eq_some_iff.mp e1).1
        rw [List.length_append, List.length_singleton] at hkl
        have ek : k = qs.length := by omega
        subst ek
        rw [List.getElem?_append_right (Nat.le_refl _), Nat.sub_self] at e1
        rw [hql, List.getElem?_append_right (Nat.le_refl _), Nat.sub_self] at e2
        cases e1
        cases e2
        rw [upd_ne naf, upd_same]
        rw [show ("" : Str) = Tx [] by decide +kernel]
        rfl
end
end
end Rm

/-! T0: menus; what stays; trees in the heap. -/
namespace Rm
open PySem PySem.Spec PyProof.Rows L2
/-! ### menus -/
abbrev mS (s : String) : V := .str (Str.ofString s)
def tMenu (vs : List V) : TA := fun _ H Q => Q vs H
theorem menu_s {ss : List String} {j : Int} (h0 : 0 ≤ j) (h1 : j < (ss.length : Int)) : ∃ s ∈ ss, atI (ss.map mS) j = some (mS s) := by
  obtain ⟨n, rfl⟩ : ∃ n : Nat, j = (n : Int) := ⟨j.toNat, by omega⟩
  have hn : n < ss.length := by omega
  refine ⟨ss[n], List.getElem_mem hn, atI_nat ?_⟩
  rw [List.getElem?_map, List.getElem?_eq_getElem hn]
  rfl
/-- a written tuple of texts -/
def tupM (K : PySem.W.Frag) (x : Str) (ss : List String) : Bool := He.tupB K x (ss.map fun s => .str (Str.ofString s))
theorem tupM_ok {K : PySem.W.Frag} {x : Str} {ss : List String} (h : tupM K x ss = true) (H : Hp) : SqT K H (He.ga K x) (ss.map mS) := by
  have q := He.tupB_ok h H
  rw [List.map_map] at q
  exact q
theorem in_strs (L : List Str) (x : Str) : inV (.str x) (L.map V.str) = decide (x ∈ L) := by
  unfold inV
  rw [Bool.eq_iff_iff, List.any_eq_true, decide_eq_true_iff]
  constructor
  · rintro ⟨v, hv, e⟩
    obtain ⟨k, hk, rfl⟩ := List.mem_map.mp hv
    have e : (k == x) = true := e
    rw [← beq_iff_eq.mp e]
    exact hk
  · intro h
    exact ⟨V.str x, List.mem_map.mpr ⟨x, h, rfl⟩, by show (x == x) = true; simp⟩
/-- all that was tracked but the draws is as it was -/
def Kept (d : Addr) (H H' : Hp) : Prop := ∀ b o, b ≠ d → H b = some o → H' b = some o
theorem Kept.refl (d : Addr) (H : Hp) : Kept d H H := fun _ _ _ h => h
theorem Kept.trans {d : Addr} {H H1 H2 : Hp} (a : Kept d H H1) (b : Kept d H1 H2) : Kept d H H2 := fun c o n h => b c o n (a c o n h)
theorem Kept.of_moved {d : Addr} {H H' : Hp} (a : Moved d H H') : Kept d H H' := fun b o n h => (a b n).trans h
theorem Kept.of_same {d : Addr} {H H' : Hp} (a : Same H H') : Kept d H H' := fun b o _ h => a b o h
theorem Kept.put {d a : Addr} {H H' : Hp} {o : HO} (s : Kept d H H') (n : H a = none) : Kept d H (upd H' a o) := fun b u e h => by
  rw [upd_ne (ne_of_none h n)]
  exact s b u e h
theorem Kept.free {d a : Addr} {H H' : Hp} (s : Kept d H H') (hd : ∃ o, H' d = some o) (n : H' a = none) : H a = none := by
  cases e : H a with
  | none => rfl
  | some o =>
    by_cases h : a = d
    · obtain ⟨u, hu⟩ := hd
      rw [h, hu] at n
      cases n
    · rw [s a o h e] at n
      cases n
/-! ### trees in the heap: tuples, texts, ints, None -/
mutual
inductive Tr (H : Hp) : V → PyData → Prop
  | non : Tr H .non .none
  | int (i : Int) : Tr H (.int i) (.int i)
  | str (x : Str) : Tr H (.str x) (.str x)
  | tup {a : Addr} {xs : List V} {ds : List PyData} (h : H a = some (.tup xs)) (r : Trs H xs ds) : Tr H (.ref a) (.tuple ds)
inductive Trs (H : Hp) : List V → List PyData → Prop
  | nil : Trs H [] []
  | cons {v : V} {vs : List V} {d : PyData} {ds : List PyData} (h : Tr H v d) (r : Trs H vs ds) : Trs H (v :: vs) (d :: ds)
end
/-- tuples stay -/
def TK (H H' : Hp) : Prop := ∀ a xs, H a = some (.tup xs) → H' a = some (.tup xs)
mutual
theorem Tr.keep {H H' : Hp} (k : TK H H') : ∀ {v : V} {d : PyData}, Tr H v d → Tr H' v d
  | _, _, .non => .non
  | _, _, .int i => .int i
  | _, _, .str x => .str x
  | _, _, .tup h r => .tup (k _ _ h) (r.keep k)
theorem Trs.keep {H H' : Hp} (k : TK H H') : ∀ {vs : List V} {ds : List PyData}, Trs H vs ds → Trs H' vs ds
  | _, _, .nil => .nil
  | _, _, .cons h r => .cons (h.keep k) (r.keep k)
end
mutual
theorem Tr.dp {K : PySem.W.Frag} {H : Hp} : ∀ {v : V} {d : PyData}, Tr H v d → Dp K H v d
  | _, _, .non => .non
  | _, _, .int i => .int i
  | _, _, .str x => .str x
  | _, _, .tup h r => .tup (SqT.of h) r.dp
theorem Trs.dp {K : PySem.W.Frag} {H : Hp} : ∀ {vs : List V} {ds : List PyData}, Trs H vs ds → DpAll K H vs ds
  | _, _, .nil => .nil
  | _, _, .cons h r => .cons h.dp r.dp
end
theorem Trs.snoc {H : Hp} {v : V} {d : PyData} (h : Tr H v d) : ∀ {vs : List V} {ds : List PyData}, Trs H vs ds → Trs H (vs ++ [v]) (ds ++ [d])
  | _, _, .nil => .cons h .nil
  | _, _, .cons h1 r => .cons h1 (r.snoc h)
theorem TK.trans {H H1 H2 : Hp} (a : TK H H1) (b : TK H1 H2) : TK H H2 := fun c xs h => b c xs (a c xs h)
theorem TK.new {a : Addr} {H : Hp} {o : HO} (n : H a = none) : TK H (upd H a o) := fun b xs h => by
  rw [upd_ne (ne_of_none h n)]
  exact h
end Rm

/-! L00: the first law's own defs: promises, readings (by gen.py), runs. -/
namespace Rm
open PySem PySem.Spec PyProof.Rows L2 Lx
/-! ### menus -/
theorem mS_eq (s : String) : mS s = .str (Tx (codes s)) := congrArg V.str (Tx_of s)
theorem menu_at {ss : List String} {j : Int} (h0 : 0 ≤ j) (h1 : j < (ss.length : Int)) : ∃ s ∈ ss, atI (ss.map mS) j = some (.str (Tx (codes s))) := by
  obtain ⟨n, rfl⟩ : ∃ n : Nat, j = (n : Int) := ⟨j.toNat, by omega⟩
  have hn : n < ss.length := by omega
  refine ⟨ss[n], List.getElem_mem hn, atI_nat ?_⟩
  rw [List.getElem?_map, List.getElem?_eq_getElem hn, ← mS_eq]
  rfl
/-! ### good words, and what may follow them -/
def aloneL : List (List Nat) := ["{", "}", "(", ")", ",", ";", ".", "+", "-", "*"].map codes
def aloneW (w : List Nat) : Bool := decide (w ∈ aloneL)
/-- what may stand behind a word that joins: nothing, a gap, a sign that joins with nothing -/
def headOk (l : List Nat) : Bool := match l with
  | [] => true
  | y :: _ => y == 10 || (y == 32 || (y == 35 || aloneW [y]))
def Bd (w rest : List Nat) : Prop := aloneW w = true ∨ headOk rest = true
def goodTok (k : Kd) (w : List Nat) : Bool := match w with
  | [] => false
  | x :: xs => match k with
    | .name => isLet x && ((x :: xs).all isWP && decide (kindOf (x :: xs) = .name))
    | .keyword => isLet x && ((x :: xs).all isWP && decide (kindOf (x :: xs) = .keyword))
    | .number => !isLet x && (isDig x && ((x :: xs).all isWP && isNum (x :: xs)))
    | .sign => !isLet x && (!isDig x && (x != 10 && (x != 32 && (x != 35 && ((decide ((x :: xs) ∈ longL)) || (decide ((x :: xs) ∈ shortL) && (aloneW (x :: xs) || (x == 60 || x == 61))))))))
    | .fin => false
theorem all_takeWhile {p : Nat → Bool} : ∀ {w rest : List Nat}, w.all p = true → (rest = [] ∨ ∃ y ys, rest = y :: ys ∧ p y = false) → (w ++ rest).takeWhile p = w
  | [], rest, _, h => by
    rcases h with rfl | ⟨y, ys, rfl, e⟩
    · rfl
    · show (y :: ys).takeWhile p = []
      rw [List.takeWhile_cons, e]
      rfl
  | x :: xs, rest, hw, h => by
    have hw' := Bool.and_eq_true_iff.mp (show (p x && xs.all p) = true from hw)
    show (x :: (xs ++ rest)).takeWhile p = _
    rw [List.takeWhile_cons, if_pos hw'.1, all_takeWhile hw'.2 h]
theorem headOk_noWP {rest : List Nat} (h : headOk rest = true) : rest = [] ∨ ∃ y ys, rest = y :: ys ∧ isWP y = false := by
  cases rest with
  | nil => exact .inl rfl
  | cons y ys =>
    refine .inr ⟨y, ys, rfl, ?_⟩
    have h : (y == 10 || (y == 32 || (y == 35 || aloneW [y]))) = true := h
    rw [Bool.or_eq_true, Bool.or_eq_true, Bool.or_eq_true, beq_iff_eq, beq_iff_eq, beq_iff_eq] at h
    rcases h with rfl | rfl | rfl | h
    · rfl
    · rfl
    · rfl
    · have e : ∀ w ∈ aloneL, ∀ y, w = [y] → isWP y = false := by
        intro w hw
        have q : ∀ w ∈ aloneL, (w.all fun y => !isWP y) = true := by decide +kernel
        intro y hy
        have := q w hw
        rw [hy] at this
        simpa using this
      exact e _ (of_decide_eq_true h) y rfl
theorem alone_sign {w : List Nat} (h : aloneW w = true) : ∃ x, w = [x] ∧ isWP x = false ∧ x ≠ 60 ∧ x ≠ 61 ∧ x ≠ 58 := by
  have q : ∀ w ∈ aloneL, w.length = 1 ∧ (w.all fun x => !isWP x && (x != 60 && (x != 61 && x != 58))) = true := by decide +kernel
  obtain ⟨h1, h2⟩ := q w (of_decide_eq_true h)
  match w, h1 with
  | [x], _ =>
    refine ⟨x, rfl, ?_⟩
    simpa using h2
theorem long_heads {w : List Nat} (h : w ∈ longL) : ∃ x, w = [x, 61] ∧ (x = 58 ∨ x = 61 ∨ x = 60) := by
  have q : longL = [[58, 61], [61, 61], [60, 61]] := by decide +kernel
  rw [q] at h
  simp only [List.mem_cons, List.not_mem_nil, or_false] at h
  rcases h with rfl | rfl | rfl
  · exact ⟨58, rfl, .inl rfl⟩
  · exact ⟨61, rfl, .inr (.inl rfl)⟩
  · exact ⟨60, rfl, .inr (.inr rfl)⟩
theorem headOk_no61 {rest : List Nat} (h : headOk rest = true) : ∀ x, ¬ (x :: rest).take 2 = [x, 61] := by
  intro x e
  cases rest with
  | nil => cases e
  | cons y ys =>
    have ey : y = 61 := by
      have := congrArg (fun l : List Nat => l[1]?) e
      simpa using this
    subst ey
    have h : ((61 : Nat) == 10 || ((61 : Nat) == 32 || ((61 : Nat) == 35 || aloneW [61]))) = true := h
    exact absurd h (by decide +kernel)
/-- THE STEP: a good word with what may follow is one token -/
theorem tok_step {k : Kd} {w rest : List Nat} (r c : Int) (hg : goodTok k w = true) (hb : Bd w rest) : ∃ x xs, w ++ rest = x :: xs ∧ (x ≠ 10 ∧ x ≠ 32 ∧ x ≠ 35) ∧ Lx.step x xs r c = .ok (⟨k, w, r, c⟩, rest, r, c + w.length) := by
  cases w with
  | nil => cases hg
  | cons x xs =>
    refine ⟨x, xs ++ rest, rfl, ?_⟩
    have wordCase : (x :: xs).all isWP = true → isWP x = true ∧ headOk rest = true ∧ word (x :: (xs ++ rest)) = x :: xs ∧ (x :: (xs ++ rest)).drop (x :: xs).length = rest := fun ha => by
      have hx : isWP x = true := (Bool.and_eq_true_iff.mp (show (isWP x && xs.all isWP) = true from ha)).1
      have hr : headOk rest = true := by
        rcases hb with hb | hb
        · obtain ⟨y, e, e2, _⟩ := alone_sign hb
          cases e
          rw [hx] at e2
          cases e2
        · exact hb
      exact ⟨hx, hr, all_takeWhile (w := x :: xs) ha (headOk_noWP hr), List.drop_left (l₁ := x :: xs)⟩
    have ngap : isWP x = true → x ≠ 10 ∧ x ≠ 32 ∧ x ≠ 35 := fun hx => by
      refine ⟨?_, ?_, ?_⟩ <;> (rintro rfl; revert hx; decide)
    cases k with
    | fin => cases hg
    | name =>
      have hg : (isLet x && ((x :: xs).all isWP && decide (kindOf (x :: xs) = .name))) = true := hg
      rw [Bool.and_eq_true, Bool.and_eq_true] at hg
      obtain ⟨h1, h2, h3⟩ := hg
      obtain ⟨hx, hr, hw, hd⟩ := wordCase h2
      refine ⟨ngap hx, ?_⟩
      unfold Lx.step
      rw [if_pos h1, hw, of_decide_eq_true h3, hd]
    | keyword =>
      have hg : (isLet x && ((x :: xs).all isWP && decide (kindOf (x :: xs) = .keyword))) = true := hg
      rw [Bool.and_eq_true, Bool.and_eq_true] at hg
      obtain ⟨h1, h2, h3⟩ := hg
      obtain ⟨hx, hr, hw, hd⟩ := wordCase h2
      refine ⟨ngap hx, ?_⟩
      unfold Lx.step
      rw [if_pos h1, hw, of_decide_eq_true h3, hd]
    | number =>
      have hg : (!isLet x && (isDig x && ((x :: xs).all isWP && isNum (x :: xs)))) = true := hg
      rw [Bool.and_eq_true, Bool.and_eq_true, Bool.and_eq_true] at hg
      obtain ⟨h1, h2, h3, h4⟩ := hg
      have h1 : isLet x = false := by simpa using h1
      obtain ⟨hx, hr, hw, hd⟩ := wordCase h3
      refine ⟨ngap hx, ?_⟩
      unfold Lx.step
      rw [if_neg (by rw [h1]; exact Bool.false_ne_true), if_pos h2, hw, if_pos h4, hd]
    | sign =>
      have hg : (!isLet x && (!isDig x && (x != 10 && (x != 32 && (x != 35 && ((decide ((x :: xs) ∈ longL)) || (decide ((x :: xs) ∈ shortL) && (aloneW (x :: xs) || (x == 60 || x == 61)))))))) ) = true := hg
      rw [Bool.and_eq_true, Bool.and_eq_true, Bool.and_eq_true, Bool.and_eq_true, Bool.and_eq_true, Bool.or_eq_true, Bool.and_eq_true] at hg
      obtain ⟨h1, h2, g1, g2, g3, h3⟩ := hg
      have h1 : isLet x = false := by simpa using h1
      have h2 : isDig x = false := by simpa using h2
      refine ⟨⟨by simpa using g1, by simpa using g2, by simpa using g3⟩, ?_⟩
      unfold Lx.step
      rw [if_neg (by rw [h1]; exact Bool.false_ne_true), if_neg (by rw [h2]; exact Bool.false_ne_true)]
      rcases h3 with h3 | ⟨h3, h4⟩
      · have h3 := of_decide_eq_true h3
        obtain ⟨y, e, _⟩ := long_heads h3
        cases e
        rw [if_pos (by exact h3)]
        rfl
      · have h3 := of_decide_eq_true h3
        have e1 : xs = [] := by
          have q : ∀ w ∈ shortL, w.length = 1 := by decide +kernel
          have := q _ h3
          exact List.eq_nil_of_length_eq_zero (by simpa using this)
        subst e1
        have nl : ¬ (x :: ([] ++ rest)).take 2 ∈ longL := fun hm => by
          rcases Bool.or_eq_true_iff.mp h4 with h4 | h4
          · obtain ⟨y, e, e2, e3, e4, e5⟩ := alone_sign h4
            cases e
            obtain ⟨z, ez, hz⟩ := long_heads hm
            have : x = z := by
              have := congrArg (fun l : List Nat => l[0]?) ez
              simpa using this
            omega
          · rcases hb with hb | hb
            · obtain ⟨y, e, e2, e3, e4, e5⟩ := alone_sign hb
              cases e
              rw [Bool.or_eq_true, beq_iff_eq, beq_iff_eq] at h4
              omega
            · obtain ⟨z, ez, hz⟩ := long_heads hm
              have ex : x = z := by
                have := congrArg (fun l : List Nat => l[0]?) ez
                simpa using this
              subst ex
              exact headOk_no61 hb x ez
        rw [if_neg nl, if_pos h3]
        rfl
theorem adv_tok {k : Kd} {w : List Nat} (hg : goodTok k w = true) (hn : 10 ∉ w) (r c : Int) : adv w r c = (r, c + w.length) := adv_flat w r c hn
/-- the scanner over a good word with what may follow -/
theorem lex_word {k : Kd} {w rest : List Nat} (r c : Int) (hg : goodTok k w = true) (hb : Bd w rest) : lex (w ++ rest) r c = (⟨k, w, r, c⟩ :: (lex rest r (c + w.length)).1, (lex rest r (c + w.length)).2) := by
  obtain ⟨x, xs, e, hne, hs⟩ := tok_step r c hg hb
  refine lex_tok (x := x) (xs := xs) ?_ hs
  rw [e]
  exact skip_here hne
/-- gaps and perhaps a comment, to the end of the text -/
def endB : Bool → List Nat → Bool
  | _, [] => true
  | true, x :: xs => if x = 10 then endB false xs else endB true xs
  | false, x :: xs => if x = 10 then endB false xs else if x = 32 then endB false xs else if x = 35 then endB true xs else false
theorem endB_ok : ∀ (b : Bool) (g : List Nat), endB b g = true → ∀ (r c : Int), skip b g r c = ([], (adv g r c).1, (adv g r c).2)
  | true, [], h, r, c => rfl
  | false, [], h, r, c => rfl
  | true, x :: xs, h, r, c => by
    rw [skip, adv]
    rw [endB] at h
    by_cases e : x = 10
    · rw [if_pos e] at h ⊢; rw [if_pos e]; exact endB_ok false xs h _ _
    · rw [if_neg e] at h ⊢; rw [if_neg e]; exact endB_ok true xs h _ _
  | false, x :: xs, h, r, c => by
    rw [skip, adv]
    rw [endB] at h
    by_cases e : x = 10
    · rw [if_pos e] at h ⊢; rw [if_pos e]; exact endB_ok false xs h _ _
    · rw [if_neg e] at h ⊢; rw [if_neg e]
      by_cases e2 : x = 32
      · rw [if_pos e2] at h ⊢; exact endB_ok false xs h _ _
      · rw [if_neg e2] at h ⊢
        by_cases e3 : x = 35
        · rw [if_pos e3] at h ⊢; exact endB_ok true xs h _ _
        · rw [if_neg e3] at h; cases h
/-! ### the tokens as data -/
def tkD (t : Tk) : PyData := .tuple [.str (kdS t.kind), .str (Tx t.text), .int t.row, .int t.col]
def okTk (t : Tk) : Bool := PyData.strOk (Tx t.text)
theorem kdS_ok (k : Kd) : PyData.strOk (kdS k) = true := by cases k <;> decide +kernel
theorem tkD_lay {ts : List Tk} (h : ∀ t ∈ ts, okTk t = true) : PyData.canLayAll0 (ts.map tkD) = true := by
  induction ts with
  | nil => rfl
  | cons t ts ih =>
    have h1 : PyData.strOk (Tx t.text) = true := h t List.mem_cons_self
    show (PyData.canLay0 (tkD t) && PyData.canLayAll0 (ts.map tkD)) = true
    rw [ih fun t ht => h t (List.mem_cons_of_mem _ ht), Bool.and_true]
    simp [tkD, PyData.canLay0, PyData.canLayAll0, h1, kdS_ok]
theorem tkD_depth (ts : List Tk) : PyData.depthAll (ts.map tkD) ≤ 1 := by
  induction ts with
  | nil => exact Nat.zero_le _
  | cons t ts ih =>
    show max (PyData.depth (tkD t)) (PyData.depthAll (ts.map tkD)) ≤ 1
    have : PyData.depth (tkD t) = 1 := by simp [tkD, PyData.depth, PyData.depthAll]
    omega
theorem shaped_tks {ts : List Tk} (h : ∀ t ∈ ts, okTk t = true) : SeqAt.shaped (.list (ts.map tkD)) = true := by
  unfold SeqAt.shaped
  have d := tkD_depth ts
  rw [show PyData.canLay0 (.list (ts.map tkD)) = PyData.canLayAll0 (ts.map tkD) by simp [PyData.canLay0], tkD_lay h, Bool.true_and]
  exact decide_eq_true (by simp only [PyData.depth]; omega)
theorem dp_tks {K : PySem.W.Frag} {H : Hp} : ∀ {qs : List Addr} {ts : List Tk}, qs.length = ts.length → (∀ (k : Nat) (q : Addr) (t : Tk), qs[k]? = some q → ts[k]? = some t → H q = some (.tup (tkV t))) → DpAll K H (qs.map V.ref) (ts.map tkD)
  | [], [], _, _ => .nil
  | q :: qs, t :: ts, hl, h => by
    refine .cons (.tup (SqT.of (h 0 q t rfl rfl)) (.cons (.str _) (.cons (.str _) (.cons (.int _) (.cons (.int _) .nil))))) (dp_tks (by simpa using hl) fun k q' t' e1 e2 => h (k + 1) q' t' (by simpa using e1) (by simpa using e2))
  | [], _ :: _, hl, _ => by cases hl
  | _ :: _, [], hl, _ => by cases hl
theorem TksAt.dp {K : PySem.W.Frag} {H : Hp} {p : Addr} {ts : List Tk} (h : TksAt H p ts) : Dp K H (.ref p) (.list (ts.map tkD)) := by
  obtain ⟨qs, h1, h2, h3⟩ := h
  exact .lst (SqL.of h1) (dp_tks h2 h3)
theorem TksAt.kept {H H' : Hp} {p : Addr} {ts : List Tk} (h : TksAt H p ts) (k : ∀ b o, H b = some o → (∀ kvs, o ≠ .dK kvs) → H' b = some o) : TksAt H' p ts := by
  obtain ⟨qs, h1, h2, h3⟩ := h
  exact ⟨qs, k _ _ h1 (fun _ z => by cases z), h2, fun i q t e1 e2 => k _ _ (h3 i q t e1 e2) (fun _ z => by cases z)⟩
/-! ### promises -/
def kwS : List String := ["method", "main", "object", "const", "var", "parent", "let", "print", "return", "if", "else", "while", "put", "drop", "resend", "fn", "call", "self", "true", "false", "nothing", "div", "mod"]
def sp_l_keywords (K : PySem.W.Frag) : Sp := fun vs H Q _ => vs = [] ∧ ∀ (p : Addr) (H' : Hp), Same H H' → H p = none → H' p = some (.lst (kwS.map mS)) → Q (.ref p) H'
def sp_l_word (K : PySem.W.Frag) : Sp := fun vs H Q _ => ∃ (d r : Addr), vs = [.ref d] ∧ Draws H d r ∧ ∀ (q : Addr) (H' : Hp) (k : Kd) (w : List Nat), Kept d H H' → Draws H' d r → H q = none → H' q = some (.tup [.str (kdS k), .str (Tx w)]) →
  goodTok k w = true → 10 ∉ w → w.length ≤ 40 → PyData.strOk (Tx w) = true → Q (.ref q) H'
def sp_l_alone (K : PySem.W.Frag) : Sp := fun vs H Q _ => ∃ w : List Nat, vs = [.str (Tx w)] ∧ ∀ H', Same H H' → Q (.bl (aloneW w)) H'
def sp_l_between (K : PySem.W.Frag) : Sp := fun vs H Q _ => ∃ (d r : Addr), vs = [.ref d] ∧ Draws H d r ∧ ∀ (H' : Hp) (g : List Nat), Kept d H H' → Draws H' d r → gapB false g = true → g ≠ [] → g.length ≤ 40 → headOk g = true → Q (.str (Tx g)) H'
def sp_l_place (K : PySem.W.Frag) : Sp := fun vs H Q _ => ∃ l : List Nat, vs = [.str (Tx l)] ∧ l.length ≤ 10000000 ∧ ∀ (q : Addr) (H' : Hp), Same H H' → H q = none → H' q = some (.tup [.int (adv l 1 1).1, .int (adv l 1 1).2]) → Q (.ref q) H'
/-! ### readings -/

def ns_l_keywords : List Str := ["words"]
def t_l_keywords (K : PySem.W.Frag) (E : XK) : TS :=
  (tSeq (tAsg (tLst (tMenu (["method", "main", "object", "const", "var", "parent", "let", "print", "return", "if", "else", "while"].map mS))) (gName 0))
    (tRet (tOp rCat (tVar 0) (tLst (tMenu (["put", "drop", "resend", "fn", "call", "self", "true", "false", "nothing", "div", "mod"].map mS))))))

def ns_l_word : List Str := ["draws", "pick", "names"]
def t_l_word (K : PySem.W.Frag) (E : XK) : TS :=
  (tSeq (tAsg (tCall (sp_l_pick K) [] E (tCons (tVar 0) (tCons (tC (.int 9)) tNil))) (gName 1))
    (tSeq (tIfS (tTest (tOp rLtI (tVar 1) (tC (.int 2))))
      (tSeq (tAsg (tLst (tMenu (["a", "X1", "go_", "a_b", "ifx", "fn2", "letter", "calls", "z9", "Main", "divide", "truer", "Self"].map mS))) (gName 2))
    (tRet (tTup (tCons (tC (.str ("name" : Str))) (tCons (tOp (rIxL K) (tVar 2) (tCall (sp_l_pick K) [] E (tCons (tVar 0) (tCons (tC (.int 13)) tNil)))) tNil)))))
      tNext)
    (tSeq (tIfS (tTest (tOp rEq (tVar 1) (tC (.int 2))))
      (tRet (tTup (tCons (tC (.str ("number" : Str))) (tCons (tOp (rIxL K) (tLst (tMenu (["0", "7", "10", "1000000000000", "999999999999", "12345", "90"].map mS))) (tCall (sp_l_pick K) [] E (tCons (tVar 0) (tCons (tC (.int 7)) tNil)))) tNil))))
      tNext)
    (tSeq (tIfS (tTest (tOp rLtI (tVar 1) (tC (.int 5))))
      (tRet (tTup (tCons (tC (.str ("keyword" : Str))) (tCons (tOp (rIxL K) (tCall (sp_l_keywords K) [] E tNil) (tCall (sp_l_pick K) [] E (tCons (tVar 0) (tCons (tC (.int 23)) tNil)))) tNil))))
      tNext)
    (tSeq (tIfS (tTest (tOp rLtI (tVar 1) (tC (.int 7))))
      (tRet (tTup (tCons (tC (.str ("sign" : Str))) (tCons (tOp (rIxL K) (tLst (tMenu (["=", ":=", "==", "<", "<="].map mS))) (tCall (sp_l_pick K) [] E (tCons (tVar 0) (tCons (tC (.int 5)) tNil)))) tNil))))
      tNext)
    (tRet (tTup (tCons (tC (.str ("sign" : Str))) (tCons (tOp (rIxL K) (tLst (tMenu (["{", "}", "(", ")", ",", ";", ".", "+", "-", "*"].map mS))) (tCall (sp_l_pick K) [] E (tCons (tVar 0) (tCons (tC (.int 10)) tNil)))) tNil)))))))))

def ns_l_alone : List Str := ["text"]
def t_l_alone (K : PySem.W.Frag) (E : XK) : TS :=
  (tRet (tOp (rIn K false) (tVar 0) (tTup (tMenu (["{", "}", "(", ")", ",", ";", ".", "+", "-", "*"].map mS)))))

def ns_l_between : List Str := ["draws", "first", "more"]
def t_l_between (K : PySem.W.Frag) (E : XK) : TS :=
  (tSeq (tAsg (tOp (rIxL K) (tLst (tMenu ([" ", "\n", "  ", "# a _ comment := main!", " "].map mS))) (tCall (sp_l_pick K) [] E (tCons (tVar 0) (tCons (tC (.int 5)) tNil)))) (gName 1))
    (tSeq (tAsg (tOp (rIxL K) (tLst (tMenu (["", "", "", "\n", "#\n ", "\n   ", "#x\n\n"].map mS))) (tCall (sp_l_pick K) [] E (tCons (tVar 0) (tCons (tC (.int 7)) tNil)))) (gName 2))
    (tSeq (tIfS (tTest (tOp rEq (tOp rIxS (tVar 1) (tC (.int 0))) (tC (.str ("#" : Str)))))
      (tAsg (tC (.str ("\n" : Str))) (gName 2))
      tNext)
    (tRet (tOp rCatS (tVar 1) (tVar 2))))))

def ns_l_place : List Str := ["text"]
def t_l_place (K : PySem.W.Frag) (E : XK) : TS :=
  (tRet (tTup (tCons (tOp rAddI (tBM K "str" rCount (tVar 0) (tCons (tC (.str ("\n" : Str))) tNil)) (tC (.int 1))) (tCons (tOp rSubI (tCB rLenS (tCons (tVar 0) tNil)) (tBM K "str" rRfind (tVar 0) (tCons (tC (.str ("\n" : Str))) tNil))) tNil))))

def ns_law : List Str := ["script", "draws", "text", "due", "last", "k", "kind", "word", "between", "row", "column", "actual"]
def t_law (K : PySem.W.Frag) (EW : EWT) (E : XK) : TS :=
  (tSeq (tAsg (tCall (sp_l_stream K) [] E (tCons (tVar 0) (tCons (tC (.int 300)) tNil))) (gName 1))
    (tSeq (tAsg (tOp (rIxL K) (tLst (tMenu (["", "", " ", "\n", "# begin\n  "].map mS))) (tCall (sp_l_pick K) [] E (tCons (tVar 1) (tCons (tC (.int 5)) tNil)))) (gName 2))
    (tSeq (tAsg (tLst tNil) (gName 3))
    (tSeq (tAsg (tC (.str ("(" : Str))) (gName 4))
    (tSeq (tFor (iRng1 (tCons (tCB rMin2 (tCons (tC (.int 120)) (tCons (tOp rAddI (tC (.int 1)) (tOp rFdivI (tCB (rLen K) (tCons (tDGet (tVar 1) (tC (.str ("row" : Str)))) tNil)) (tC (.int 3)))) tNil))) tNil)) (gName 5)
      (tSeq (tAsg (tCall (sp_l_word K) [] E (tCons (tVar 1) tNil)) (gTup K 2 (gCons (gName 6) (gCons (gName 7) gNil))))
    (tSeq (tIfS (tOr (tNot (tOr (tB (tCall (sp_l_alone K) [] E (tCons (tVar 4) tNil))) (tB (tCall (sp_l_alone K) [] E (tCons (tVar 7) tNil))))) (tTest (tOp rEq (tCall (sp_l_pick K) [] E (tCons (tVar 1) (tCons (tC (.int 3)) tNil))) (tC (.int 0)))))
      (tIfS (tTest (tOp rGtI (tVar 5) (tC (.int 0))))
      (tSeq (tAsg (tCall (sp_l_between K) [] E (tCons (tVar 1) tNil)) (gName 8))
    (tSeq (tAsg (tOp rCatS (tVar 2) (tVar 8)) (gName 2))
    (tIfS (tAnd (tTest (tOp rInSign (tC (.str ("#" : Str))) (tVar 8))) (tTest (tOp (rIn K true) (tOp rIxS (tVar 8) (tUn rNegI (tC (.int 1)))) (tTup (tCons (tC (.str (" " : Str))) (tCons (tC (.str ("\n" : Str))) tNil))))))
      (tAsg (tOp rCatS (tVar 2) (tC (.str ("\n" : Str)))) (gName 2))
      tNext)))
      tNext)
      tNext)
    (tSeq (tAsg (tCall (sp_l_place K) [] E (tCons (tVar 2) tNil)) (gTup K 2 (gCons (gName 9) (gCons (gName 10) gNil))))
    (tSeq (tDrop (tBM K "list" rAppend (tVar 3) (tCons (tTup (tCons (tVar 6) (tCons (tVar 7) (tCons (tVar 9) (tCons (tVar 10) tNil))))) tNil)))
    (tSeq (tAsg (tOp rCatS (tVar 2) (tVar 7)) (gName 2))
    (tAsg (tVar 7) (gName 4))))))))
    (tSeq (tAsg (tOp rCatS (tVar 2) (tOp (rIxL K) (tLst (tMenu (["", " ", "\n", "\n  ", " # the end"].map mS))) (tCall (sp_l_pick K) [] E (tCons (tVar 1) (tCons (tC (.int 5)) tNil))))) (gName 2))
    (tSeq (tAsg (tCall (sp_l_place K) [] E (tCons (tVar 2) tNil)) (gTup K 2 (gCons (gName 9) (gCons (gName 10) gNil))))
    (tSeq (tDrop (tBM K "list" rAppend (tVar 3) (tCons (tTup (tCons (tC (.str ("end" : Str))) (tCons (tC (.str ("" : Str))) (tCons (tVar 9) (tCons (tVar 10) tNil))))) tNil)))
    (tSeq (tAsg (tCall (sp_tokens K EW) [] E (tCons (tVar 2) tNil)) (gName 11))
    (tSeq (tIfS (tOr (tNot (tB (tCB (rIsi K) (tCons (tVar 11) (tCons (tC (.ty "list")) tNil))))) (tTest (tOp (rNeD K) (tVar 11) (tVar 3))))
      (tRet (tC (.bl false)))
      tNext)
    (tRet (tAndV (tOp (rEqD K) (tC (.ref (He.ga K ("KEYWORDS" : Str)))) (tCB (rTupleOf K) (tCons (tCall (sp_l_keywords K) [] E tNil) tNil))) (tOp (rEqD K) (tCall (sp_tokens K EW) [] E (tCons (tC (.str ("" : Str))) tNil)) (tLst (tCons (tTup (tCons (tC (.str ("end" : Str))) (tCons (tC (.str ("" : Str))) (tCons (tC (.int 1)) (tCons (tC (.int 1)) tNil))))) tNil)))))))))))))))

/-! ### runs of the law's own defs -/
section
variable {K : PySem.W.Frag} {vs : List V} {H : Hp} {Q : VK} {E : XK}
theorem run_l_keywords (h : sp_l_keywords K vs H Q E) : t_l_keywords K E (DQ Q) (start ns_l_keywords vs) H := by
  obtain ⟨rfl, q⟩ := h
  refine ⟨(by show 12 ≤ sizeLine; decide), fun p np => ?_⟩
  refine ⟨_, rfl, (by show 11 ≤ sizeLine; decide), fun p2 np2 => ?_⟩
  have n21 : p2 ≠ p := fun z => by rw [z, upd_same] at np2; cases np2
  have np2H : H p2 = none := by rw [upd_ne n21] at np2; exact np2
  refine ⟨p, p2, _, _, rfl, rfl, (by rw [upd_ne n21.symm, upd_same]), upd_same, (by show 23 ≤ sizeLine; decide), fun p3 np3 => ?_⟩
  have n31 : p3 ≠ p := fun z => by rw [z, upd_ne n21.symm, upd_same] at np3; cases np3
  have n32 : p3 ≠ p2 := fun z => by rw [z, upd_same] at np3; cases np3
  have np3H : H p3 = none := by rw [upd_ne n32, upd_ne n31] at np3; exact np3
  exact q p3 _ ((((Same.refl H).put np).put np2H).put np3H) np3H upd_same
theorem run_l_alone (h : sp_l_alone K vs H Q E) : t_l_alone K E (DQ Q) (start ns_l_alone vs) H := by
  obtain ⟨w, rfl, q⟩ := h
  refine ⟨_, rfl, (by show 10 ≤ sizeLine; decide), fun p np => ⟨_, _, rfl, .inr (SqT.of upd_same), rfl, rfl, ?_⟩⟩
  rw [if_neg Bool.false_ne_true, show ["{", "}", "(", ")", ",", ";", ".", "+", "-", "*"].map mS = aloneL.map (fun k => V.str (Tx k)) by unfold aloneL; rw [List.map_map]; exact List.map_congr_left fun s _ => mS_eq s, in_list]
  exact q _ ((Same.refl H).put np)
theorem run_l_place (h : sp_l_place K vs H Q E) : t_l_place K E (DQ Q) (start ns_l_place vs) H := by
  obtain ⟨l, rfl, hl, q⟩ := h
  obtain ⟨e1, e2⟩ := place_ok l
  refine ⟨_, rfl, rfl, _, _, rfl, rfl, _, _, rfl, rfl, _, rfl, _, rfl, small_len hl, _, rfl, rfl, _, _, rfl, rfl, _, _, rfl, rfl, (by show 2 ≤ sizeLine; decide), fun p np => ?_⟩
  refine q p _ ((Same.refl H).put np) np ?_
  rw [upd_same, ← e1, ← e2]
  rfl
/-- one item of a menu, by a draw -/
theorem run_l_word (h : sp_l_word K vs H Q E) : t_l_word K E (DQ Q) (start ns_l_word vs) H := by
  obtain ⟨d, r, rfl, hD, q⟩ := h
  refine ⟨_, rfl, d, 9, rfl, by decide, r, hD, fun j1 H1 j10 j19 D1 M1 => ?_⟩
  have K1 := Kept.of_moved M1
  have fin : ∀ (k : Kd) (ss : List String) (j : Int) (H2 : Hp), Kept d H H2 → Draws H2 d r → (∀ s ∈ ss, goodTok k (codes s) = true ∧ 10 ∉ codes s ∧ (codes s).length ≤ 40 ∧ PyData.strOk (Tx (codes s)) = true) → 0 ≤ j → j < (ss.length : Int) →
      ∃ v, atI (ss.map mS) j = some v ∧ ∀ p, H2 p = none → Q (.ref p) (upd H2 p (.tup [V.str (kdS k), v])) := fun k ss j H2 K2 D2 hs j0 j1 => by
    obtain ⟨s, hm, e⟩ := menu_at j0 j1
    obtain ⟨g1, g2, g3, g4⟩ := hs s hm
    exact ⟨_, e, fun p np => q p _ k (codes s) (K2.put (K2.free D2.atD np)) (D2.fresh np) (K2.free D2.atD np) upd_same g1 g2 g3 g4⟩
  refine ⟨_, rfl, _, _, rfl, rfl, _, rfl, ?_⟩
  refine ite2 (fun _ => ?_) (fun _ => ?_)
  · refine ⟨(by show 13 ≤ sizeLine; decide), fun p np => ?_⟩
    have D2 : Draws (upd H1 p (.lst (["a", "X1", "go_", "a_b", "ifx", "fn2", "letter", "calls", "z9", "Main", "divide", "truer", "Self"].map mS))) d r := D1.fresh np
    refine ⟨_, rfl, _, rfl, d, 13, rfl, by decide, r, D2, fun j H3 j0 j1 D3 M3 => ?_⟩
    have K3 : Kept d H H3 := (K1.put (K1.free D1.atD np)).trans (Kept.of_moved M3)
    have hp : H3 p = some (.lst (["a", "X1", "go_", "a_b", "ifx", "fn2", "letter", "calls", "z9", "Main", "divide", "truer", "Self"].map mS)) := (M3 p (Ne.symm (D1.neD np))).trans upd_same
    obtain ⟨v, e, f⟩ := fin .name ["a", "X1", "go_", "a_b", "ifx", "fn2", "letter", "calls", "z9", "Main", "divide", "truer", "Self"] j H3 K3 D3 (by decide +kernel) j0 j1
    exact ⟨p, _, _, v, rfl, rfl, SqL.of hp, e, (by show 2 ≤ sizeLine; decide), f⟩
  · have menu : ∀ (k : Kd) (ss : List String) (m : Int), m = (ss.length : Int) → ss.length ≤ 100 → 0 < m → (∀ s ∈ ss, goodTok k (codes s) = true ∧ 10 ∉ codes s ∧ (codes s).length ≤ 40 ∧ PyData.strOk (Tx (codes s)) = true) →
        (tRet (tTup (tCons (tC (.str (kdS k))) (tCons (tOp (rIxL K) (tLst (tMenu (ss.map mS))) (tCall (sp_l_pick K) [] E (tCons (tVar 0) (tCons (tC (.int m)) tNil)))) tNil)))) (DQ Q) [some (.ref d), some (.int j1), none] H1 := fun k ss m hm hl hpos hs => by
      refine ⟨?_, fun p np => ?_⟩
      · show (ss.map mS).length ≤ sizeLine
        rw [List.length_map]
        exact Nat.le_trans hl (by decide)
      · have D2 : Draws (upd H1 p (.lst (ss.map mS))) d r := D1.fresh np
        refine ⟨_, rfl, d, m, rfl, hpos, r, D2, fun j H3 j0 j1 D3 M3 => ?_⟩
        have K3 : Kept d H H3 := (K1.put (K1.free D1.atD np)).trans (Kept.of_moved M3)
        have hp : H3 p = some (.lst (ss.map mS)) := (M3 p (Ne.symm (D1.neD np))).trans upd_same
        obtain ⟨v, e, f⟩ := fin k ss j H3 K3 D3 hs j0 (by rw [← hm]; exact j1)
        exact ⟨p, _, _, v, rfl, rfl, SqL.of hp, e, (by show 2 ≤ sizeLine; decide), f⟩
    refine ⟨_, rfl, rfl, _, rfl, ?_⟩
    refine ite2 (fun _ => ?_) (fun _ => ?_)
    · exact menu .number _ 7 rfl (by decide) (by decide) (by decide +kernel)
    · refine ⟨_, rfl, _, _, rfl, rfl, _, rfl, ?_⟩
      refine ite2 (fun _ => ?_) (fun _ => ?_)
      · refine ⟨rfl, fun p H2 s2 np hp => ?_⟩
        have D2 := D1.same s2
        refine ⟨_, rfl, d, 23, rfl, by decide, r, D2, fun j H3 j0 j1 D3 M3 => ?_⟩
        have K3 : Kept d H H3 := (K1.trans (Kept.of_same s2)).trans (Kept.of_moved M3)
        have hp3 : H3 p = some (.lst (kwS.map mS)) := (M3 p (Ne.symm (D1.neD np))).trans hp
        obtain ⟨v, e, f⟩ := fin .keyword kwS j H3 K3 D3 (by decide +kernel) j0 j1
        exact ⟨p, _, _, v, rfl, rfl, SqL.of hp3, e, (by show 2 ≤ sizeLine; decide), f⟩
      · refine ⟨_, rfl, _, _, rfl, rfl, _, rfl, ?_⟩
        refine ite2 (fun _ => ?_) (fun _ => ?_)
        · exact menu .sign _ 5 rfl (by decide) (by decide) (by decide +kernel)
        · exact menu .sign _ 10 rfl (by decide) (by decide) (by decide +kernel)
theorem run_l_between (h : sp_l_between K vs H Q E) : t_l_between K E (DQ Q) (start ns_l_between vs) H := by
  obtain ⟨d, r, rfl, hD, q⟩ := h
  refine ⟨(by show 5 ≤ sizeLine; decide), fun p np => ?_⟩
  refine ⟨_, rfl, d, 5, rfl, by decide, r, hD.fresh np, fun j H1 j0 j1 D1 M1 => ?_⟩
  have K1 : Kept d H H1 := ((Kept.refl d H).put np).trans (Kept.of_moved M1)
  have hp : H1 p = some (.lst ([" ", "\n", "  ", "# a _ comment := main!", " "].map mS)) := (M1 p (Ne.symm (hD.neD np))).trans upd_same
  obtain ⟨s, hs, e⟩ := menu_at (ss := [" ", "\n", "  ", "# a _ comment := main!", " "]) j0 j1
  refine ⟨p, _, _, _, rfl, rfl, SqL.of hp, e, ?_⟩
  refine ⟨(by show 7 ≤ sizeLine; decide), fun p2 np2 => ?_⟩
  refine ⟨_, rfl, d, 7, rfl, by decide, r, D1.fresh np2, fun j2 H2 j20 j21 D2 M2 => ?_⟩
  have K2 : Kept d H H2 := (K1.put (K1.free D1.atD np2)).trans (Kept.of_moved M2)
  have hp2 : H2 p2 = some (.lst (["", "", "", "\n", "#\n ", "\n   ", "#x\n\n"].map mS)) := (M2 p2 (Ne.symm (D1.neD np2))).trans upd_same
  obtain ⟨s2, hs2, e2⟩ := menu_at (ss := ["", "", "", "\n", "#\n ", "\n   ", "#x\n\n"]) j20 j21
  refine ⟨p2, _, _, _, rfl, rfl, SqL.of hp2, e2, ?_⟩
  have first : ∃ c cs, codes s = c :: cs := by
    have z : ∀ s ∈ [" ", "\n", "  ", "# a _ comment := main!", " "], (codes s).isEmpty = false := by decide +kernel
    have := z s hs
    cases hc : codes s with
    | nil => rw [hc] at this; cases this
    | cons c cs => exact ⟨c, cs, rfl⟩
  obtain ⟨c, cs, ec⟩ := first
  have hlen : (codes s).length ≤ 22 := by
    have z : ∀ s ∈ [" ", "\n", "  ", "# a _ comment := main!", " "], (codes s).length ≤ 22 := by decide +kernel
    exact z s hs
  refine ⟨_, rfl, _, _, c, rfl, rfl, small_len (by show (codes s).length ≤ _; omega), atI_nat (j := 0) (by show (codes s)[0]? = _; rw [ec]; rfl), rfl, _, rfl, ?_⟩
  rw [show ("#" : Str) = ⟨#[35]⟩ by decide +kernel, dec_one]
  have good : ∀ (a b : List Nat), a = codes s → (c = 35 → b = [10]) → (c ≠ 35 → b ∈ ["", "", "", "\n", "#\n ", "\n   ", "#x\n\n"].map codes) → gapB false (a ++ b) = true ∧ (a ++ b) ≠ [] ∧ (a ++ b).length ≤ 40 ∧ headOk (a ++ b) = true := fun a b ea h1 h2 => by
    subst ea
    have z : ∀ s ∈ [" ", "\n", "  ", "# a _ comment := main!", " "], ((codes s).head? = some 35 → (gapB false (codes s ++ [10]) = true ∧ (codes s ++ [10]) ≠ [] ∧ (codes s ++ [10]).length ≤ 40 ∧ headOk (codes s ++ [10]) = true)) ∧
        ((codes s).head? ≠ some 35 → ∀ b ∈ ["", "", "", "\n", "#\n ", "\n   ", "#x\n\n"].map codes, gapB false (codes s ++ b) = true ∧ (codes s ++ b) ≠ [] ∧ (codes s ++ b).length ≤ 40 ∧ headOk (codes s ++ b) = true) := by decide +kernel
    obtain ⟨z1, z2⟩ := z s hs
    rw [ec] at z1 z2
    rw [ec]
    by_cases hc : c = 35
    · rw [h1 hc]
      exact z1 (by rw [hc]; rfl)
    · exact z2 (fun e => hc (by simpa using e)) b (h2 hc)
  refine ite2 (fun h3 => ?_) (fun h3 => ?_)
  · have h3 := of_decide_eq_true h3
    obtain ⟨g1, g2, g3, g4⟩ := good (codes s) [10] rfl (fun _ => rfl) (fun z => absurd h3 z)
    refine ⟨_, rfl, _, rfl, _, _, rfl, rfl, ?_, ?_⟩
    · rw [nl1]
      show (codes s).length + 1 ≤ sizeLine
      exact small_len (by omega)
    · rw [nl1, show (⟨#[10]⟩ : Str) = Tx [10] from rfl, Tx_app]
      exact q H2 _ K2 D2 g1 g2 g3 g4
  · have h3 : ¬ c = 35 := fun z => h3 (decide_eq_true z)
    have hm : codes s2 ∈ ["", "", "", "\n", "#\n ", "\n   ", "#x\n\n"].map codes := List.mem_map.mpr ⟨s2, hs2, rfl⟩
    obtain ⟨g1, g2, g3, g4⟩ := good (codes s) (codes s2) rfl (fun z => absurd z h3) (fun _ => hm)
    refine ⟨_, rfl, _, rfl, _, _, rfl, rfl, ?_, ?_⟩
    · show (codes s).length + (codes s2).length ≤ sizeLine
      rw [List.length_append] at g3
      exact small_len (by omega)
    · rw [Tx_app]
      exact q H2 _ K2 D2 g1 g2 g3 g4
end

/-! ### the law -/
def sp_law (K : PySem.W.Frag) : Sp := fun vs H Q _ => ∃ (a : Addr) (ns : List Int), vs = [.ref a] ∧ SqL K H a (ns.map V.int) ∧ ns.length ≤ 63 ∧ ∀ H', Q (.bl true) H'
def PreL (t : List Nat) (ts : List Tk) (last : List Nat) : Prop := ∀ rest, Bd last rest → lex (t ++ rest) 1 1 = (ts ++ (lex rest (adv t 1 1).1 (adv t 1 1).2).1, (lex rest (adv t 1 1).1 (adv t 1 1).2).2)
def FreeW (t : List Nat) (ts : List Tk) (w : List Nat) : Prop := ∀ rest, lex (t ++ (w ++ rest)) 1 1 = (ts ++ (lex (w ++ rest) (adv t 1 1).1 (adv t 1 1).2).1, (lex (w ++ rest) (adv t 1 1).1 (adv t 1 1).2).2)
theorem PreL.first {g : List Nat} (h : gapB false g = true) (last : List Nat) : PreL g [] last := fun rest _ => by
  rw [List.nil_append]
  have e := gapB_ok false g h rest 1 1
  rw [lex_skip (l := g ++ rest) (l2 := rest) e]
theorem PreL.gap {t g : List Nat} {ts : List Tk} {last : List Nat} (h : PreL t ts last) (hg : gapB false g = true) (ho : headOk g = true) (hne : g ≠ []) (w : List Nat) : FreeW (t ++ g) ts w := fun rest => by
  rw [List.append_assoc, h (g ++ (w ++ rest)) (.inr ?_), adv_append]
  · have e := gapB_ok false g hg (w ++ rest) (adv t 1 1).1 (adv t 1 1).2
    rw [lex_skip (l := g ++ (w ++ rest)) (l2 := w ++ rest) e]
  · cases g with
    | nil => exact absurd rfl hne
    | cons y ys => exact ho
theorem PreL.direct {t : List Nat} {ts : List Tk} {last w : List Nat} (h : PreL t ts last) (hw : aloneW last = true ∨ aloneW w = true) : FreeW t ts w := fun rest => by
  refine h (w ++ rest) ?_
  rcases hw with hw | hw
  · exact .inl hw
  · obtain ⟨x, rfl, _⟩ := alone_sign hw
    refine .inr ?_
    show (x == 10 || (x == 32 || (x == 35 || aloneW [x]))) = true
    rw [hw, Bool.or_true, Bool.or_true, Bool.or_true]
theorem FreeW.word {t : List Nat} {ts : List Tk} {k : Kd} {w : List Nat} (h : FreeW t ts w) (hg : goodTok k w = true) (hn : 10 ∉ w) : PreL (t ++ w) (ts ++ [⟨k, w, (adv t 1 1).1, (adv t 1 1).2⟩]) w := fun rest hb => by
  rw [List.append_assoc, h rest, lex_word _ _ hg hb, adv_append, adv_flat w _ _ hn, List.append_assoc]
  rfl
theorem TksAt.keptD {H H' : Hp} {p d r : Addr} {ts : List Tk} (h : TksAt H p ts) (hD : Draws H d r) (k : Kept d H H') : TksAt H' p ts := h.kept fun b o e n => k b o (fun z => by
  obtain ⟨i, s, ns, h1, _⟩ := hD
  rw [z, h1] at e
  exact n _ (Option.some.inj e).symm) e
theorem TksAt.same {H H' : Hp} {p : Addr} {ts : List Tk} (h : TksAt H p ts) (s : Same H H') : TksAt H' p ts := h.kept fun b o e _ => s b o e
theorem Draws.kept_ne {H : Hp} {p d r : Addr} {ts : List Tk} (h : TksAt H p ts) (hD : Draws H d r) : p ≠ d := by
  obtain ⟨qs, h1, _⟩ := h
  obtain ⟨i, s, ns, h2, _⟩ := hD
  exact ne_of h1 h2 (by intro z; cases z)
/-- a token is appended -/
theorem TksAt.snoc {H : Hp} {p q : Addr} {ts : List Tk} {t : Tk} (h : TksAt H p ts) (hq : H q = some (.tup (tkV t))) : ∃ xs, H p = some (.lst xs) ∧ xs.length = ts.length ∧ TksAt (upd H p (.lst (xs ++ [.ref q]))) p (ts ++ [t]) := by
  obtain ⟨qs, h1, h2, h3⟩ := h
  refine ⟨_, h1, by rw [List.length_map, h2], qs ++ [q], by rw [upd_same, List.map_append]; rfl, by rw [List.length_append, List.length_append, h2]; rfl, fun k q' t' e1 e2 => ?_⟩
  have nq : q ≠ p := ne_of hq h1 (by intro z; cases z)
  by_cases hk : k < qs.length
  · rw [List.getElem?_append_left hk] at e1
    rw [List.getElem?_append_left (by omega)] at e2
    have h0 := h3 k q' t' e1 e2
    rw [upd_ne (ne_of h0 h1 (by intro z; cases z))]
    exact h0
  · have hkl : k < (qs ++ [q]).length := (List.getElem?_eq_some_iff.mp e1).1
    rw [List.length_append, List.length_singleton] at hkl
    have ek : k = qs.length := by omega
    subst ek
    rw [List.getElem?_append_right (Nat.le_refl _), Nat.sub_self] at e1
    rw [h2, List.getElem?_append_right (Nat.le_refl _), Nat.sub_self] at e2
    cases e1
    cases e2
    rw [upd_ne nq]
    exact hq
theorem kwS_eq : kwS.map mS = kwL.map (fun k => V.str (Tx k)) := by
  unfold kwL kwS
  rw [List.map_map]
  exact List.map_congr_left fun s _ => mS_eq s
theorem dp_strs {K : PySem.W.Frag} {H : Hp} : ∀ L : List (List Nat), DpAll K H (L.map fun k => V.str (Tx k)) (L.map fun k => PyData.str (Tx k))
  | [] => .nil
  | k :: L => .cons (.str _) (dp_strs L)
theorem kw_shaped : SeqAt.shaped (.tuple (kwL.map fun k => PyData.str (Tx k))) = true := by decide +kernel
theorem gapB_app : ∀ (b : Bool) (g h : List Nat), gapB b g = true → gapB b (g ++ h) = gapB false h
  | true, [], h, e => by cases e
  | false, [], h, e => rfl
  | true, x :: xs, h, e => by
    show gapB true (x :: (xs ++ h)) = _
    rw [gapB] at e ⊢
    split at e
    · rename_i hx; rw [if_pos hx]; exact gapB_app false xs h e
    · rename_i hx; rw [if_neg hx]; exact gapB_app true xs h e
  | false, x :: xs, h, e => by
    show gapB false (x :: (xs ++ h)) = _
    rw [gapB] at e ⊢
    split at e
    · rename_i hx; rw [if_pos hx]; exact gapB_app false xs h e
    · rename_i hx
      rw [if_neg hx]
      split at e
      · rename_i hx; rw [if_pos hx]; exact gapB_app false xs h e
      · rename_i hx
        rw [if_neg hx]
        split at e
        · rename_i hx; rw [if_pos hx]; exact gapB_app true xs h e
        · cases e
theorem gapB_nl {g : List Nat} (h : gapB false g = true) : gapB false (g ++ [10]) = true := by
  rw [gapB_app false g [10] h]
  rfl
theorem headOk_app {g h : List Nat} (hne : g ≠ []) (hg : headOk g = true) : headOk (g ++ h) = true := by
  cases g with
  | nil => exact absurd rfl hne
  | cons y ys => exact hg
section
variable {K : PySem.W.Frag} {vs : List V} {H : Hp} {Q : VK} {E : XK}
def LInv (a d r u : Addr) (k : Nat) (σ : L2.St) (H4 : Hp) : Prop := ∃ (t last : List Nat) (ts : List Tk) (v5 v6 v7 v8 v9 v10 v11 : Option V), σ = [some (.ref a), some (.ref d), some (.str (Tx t)), some (.ref u), some (.str (Tx last)), v5, v6, v7, v8, v9, v10, v11] ∧ Draws H4 d r ∧ TksAt H4 u ts ∧
  PreL t ts last ∧ (k = 0 → aloneW last = true) ∧ t.length ≤ 100 + 100 * k ∧ (∀ x ∈ ts, okTk x = true) ∧ ts.length ≤ k
theorem run_law {EW : EWT} (hEW : ∀ x r c E H, ¬ EW x r c E H) (hK : ∀ H, SqT K H (He.ga K ("KEYWORDS" : Str)) (kwL.map fun k => V.str (Tx k))) (h : sp_law K vs H Q E) : t_law K EW E (DQ Q) (start ns_law vs) H := by
  obtain ⟨a, ns, rfl, hS, hl, q⟩ := h
  -- draws = _law_stream(script, 300)
  refine ⟨_, rfl, a, ns, 300, rfl, hS, hl, by decide, by decide, fun d H1 r s rs s1 nd hd hr nrd hrl hrm => ?_⟩
  have D1 : Draws H1 d r := ⟨0, s, rs, hd, hr, Int.le_refl _⟩
  -- text = [..][pick]
  refine ⟨(by show 5 ≤ sizeLine; decide), fun p np => ?_⟩
  refine ⟨_, rfl, d, 5, rfl, by decide, r, D1.fresh np, fun j H2 j0 j1 D2 M2 => ?_⟩
  have hp : H2 p = some (.lst (["", "", " ", "\n", "# begin\n  "].map mS)) := (M2 p (Ne.symm (D1.neD np))).trans upd_same
  obtain ⟨t0, ht0, e0⟩ := menu_at (ss := ["", "", " ", "\n", "# begin\n  "]) j0 j1
  refine ⟨p, _, _, _, rfl, rfl, SqL.of hp, e0, ?_⟩
  have g0 : gapB false (codes t0) = true ∧ (codes t0).length ≤ 100 := by
    have z : ∀ s ∈ ["", "", " ", "\n", "# begin\n  "], gapB false (codes s) = true ∧ (codes s).length ≤ 100 := by decide +kernel
    exact z t0 ht0
  -- due = []
  refine ⟨(by show 0 ≤ sizeLine; decide), fun u nu => ?_⟩
  have nud : u ≠ d := Ne.symm (D2.neD nu)
  have nur : u ≠ r := Ne.symm (D2.neR nu)
  have D3 : Draws (upd H2 u (.lst [])) d r := D2.fresh nu
  -- last = "("
  obtain ⟨i3, s3, ns3, hd3, hr3, hi3⟩ := id D3
  refine ⟨_, rfl, d, _, rfl, dget_row hd3, _, _, rfl, .inl ⟨_, SqL.of hr3, rfl⟩, _, _, rfl, rfl, ⟨by decide, by decide⟩, _, _, rfl, rfl, _, _, rfl, ?_⟩
  -- for k in range(..)
  have hm : ∃ n : Nat, n ≤ 120 ∧ (if (1 + ((ns3.map V.int).length : Int) / 3) < 120 then (1 + ((ns3.map V.int).length : Int) / 3) else 120) = (n : Int) := by
    have z0 : 0 ≤ ((ns3.map V.int).length : Int) / 3 := Int.ediv_nonneg (by omega) (by decide)
    refine ⟨(if (1 + ((ns3.map V.int).length : Int) / 3) < 120 then (1 + ((ns3.map V.int).length : Int) / 3) else 120).toNat, ?_, ?_⟩
    · split <;> omega
    · split <;> omega
  obtain ⟨n, hn, en⟩ := hm
  rw [en]
  refine ⟨(n : Int), rfl, by omega, by omega, ?_⟩
  rw [Int.toNat_natCast]
  refine for_range (lo := 0) (n := n) (LInv a d r u) ⟨codes t0, codes "(", [], none, none, none, none, none, none, none, ?_, D3, ⟨[], upd_same, rfl, fun k q t e => by simp at e⟩, PreL.first g0.1 _, (fun _ => by decide +kernel), (by omega), (fun x hx => by cases hx), Nat.zero_le _⟩ ?_ ?_
  · show [some (V.ref a), some (V.ref d), some (V.str (Tx (codes t0))), some (V.ref u), some (V.str ("(" : Str)), none, none, none, none, none, none, none] = _
    rw [show ("(" : Str) = Tx (codes "(") by decide +kernel]
  · rintro k σ H4 hk ⟨t, last, ts, v5, v6, v7, v8, v9, v10, v11, rfl, D4, T4, hPre, hk0, htl, hok, htsl⟩
    -- kind, word = _law_word(draws)
    refine ⟨_, rfl, d, r, rfl, D4, fun qw H5 kd w K5 D5 nq hq hg hn10 hw40 hwok => ?_⟩
    have T5 := T4.keptD D4 K5
    refine ⟨qw, _, rfl, SqT.of hq, rfl, _, _, rfl, _, _, rfl, rfl, ?_⟩
    -- what is left of the turn, from any text that the word may follow
    have rest : ∀ (D' : Ends), (∀ σ H, LInv a d r u (k + 1) σ H → D'.nx σ H) → ∀ (t' : List Nat) (v8' : Option V) (H6 : Hp), Draws H6 d r → TksAt H6 u ts → FreeW t' ts w → t'.length ≤ 100 + 100 * k + 50 →
        (tSeq (tAsg (tCall (sp_l_place K) [] E (tCons (tVar 2) tNil)) (gTup K 2 (gCons (gName 9) (gCons (gName 10) gNil))))
          (tSeq (tDrop (tBM K "list" rAppend (tVar 3) (tCons (tTup (tCons (tVar 6) (tCons (tVar 7) (tCons (tVar 9) (tCons (tVar 10) tNil))))) tNil)))
          (tSeq (tAsg (tOp rCatS (tVar 2) (tVar 7)) (gName 2))
          (tAsg (tVar 7) (gName 4))))) D'
        [some (.ref a), some (.ref d), some (.str (Tx t')), some (.ref u), some (.str (Tx last)), some (.int (0 + k)), some (.str (kdS kd)), some (.str (Tx w)), v8', v9, v10, v11] H6 := fun D' hD' t' v8' H6 D6 T6 hF hl' => by
      refine ⟨_, rfl, t', rfl, by omega, fun q2 H7 s7 nq2 hq2 => ?_⟩
      refine ⟨q2, _, rfl, SqT.of hq2, rfl, _, _, rfl, _, _, rfl, rfl, ?_⟩
      have D7 := D6.same s7
      have T7 := T6.same s7
      obtain ⟨xs0, hu0, hxl0, _⟩ := id T7
      refine ⟨_, rfl, .inl ⟨rfl, _, SqL.of hu0⟩, _, rfl, _, rfl, _, rfl, _, rfl, (by show 4 ≤ sizeLine; decide), fun q3 nq3 => ?_⟩
      have T8 : TksAt (upd H7 q3 (.tup (tkV ⟨kd, w, (adv t' 1 1).1, (adv t' 1 1).2⟩))) u ts := T7.same (same_upd nq3)
      have D8 : Draws (upd H7 q3 (.tup (tkV ⟨kd, w, (adv t' 1 1).1, (adv t' 1 1).2⟩))) d r := D7.fresh nq3
      obtain ⟨xs, hu, hxl, T9⟩ := T8.snoc (t := ⟨kd, w, (adv t' 1 1).1, (adv t' 1 1).2⟩) upd_same
      refine ⟨u, xs, _, rfl, rfl, hu, (by rw [hxl]; exact Nat.lt_of_le_of_lt (show ts.length ≤ 1000 by omega) (by decide)), ?_⟩
      refine ⟨_, rfl, _, rfl, _, _, rfl, rfl, ?_, ?_⟩
      · show t'.length + w.length ≤ sizeLine
        exact small_len (by omega)
      · rw [Tx_app]
        refine ⟨_, rfl, hD' _ _ ⟨t' ++ w, w, _, _, _, _, _, _, _, _, rfl, D8.other nud nur, T9, hF.word hg hn10, fun z => by omega, by rw [List.length_append]; omega, ?_, by rw [List.length_append, List.length_singleton]; omega⟩⟩
        intro x hx
        rcases List.mem_append.mp hx with hx | hx
        · exact hok x hx
        · rw [List.mem_singleton.mp hx]
          exact hwok
    -- if the last word or this one is alone, and the draw is not 0: nothing between
    refine ⟨_, rfl, last, rfl, fun H6 s6 => ⟨_, rfl, ?_⟩⟩
    have D6 := D5.same s6
    have T6 := T5.same s6
    -- a gap, or at the first word nothing
    have yes : ∀ (D' : Ends), (∀ σ H, LInv a d r u (k + 1) σ H → D'.nx σ H) → ∀ H7, Draws H7 d r → TksAt H7 u ts →
        (tIfS (tTest (tOp rGtI (tVar 5) (tC (.int 0))))
          (tSeq (tAsg (tCall (sp_l_between K) [] E (tCons (tVar 1) tNil)) (gName 8))
          (tSeq (tAsg (tOp rCatS (tVar 2) (tVar 8)) (gName 2))
          (tIfS (tAnd (tTest (tOp rInSign (tC (.str ("#" : Str))) (tVar 8))) (tTest (tOp (rIn K true) (tOp rIxS (tVar 8) (tUn rNegI (tC (.int 1)))) (tTup (tCons (tC (.str (" " : Str))) (tCons (tC (.str ("\n" : Str))) tNil))))))
            (tAsg (tOp rCatS (tVar 2) (tC (.str ("\n" : Str)))) (gName 2))
            tNext)))
          tNext) { D' with nx := (tSeq (tAsg (tCall (sp_l_place K) [] E (tCons (tVar 2) tNil)) (gTup K 2 (gCons (gName 9) (gCons (gName 10) gNil))))
          (tSeq (tDrop (tBM K "list" rAppend (tVar 3) (tCons (tTup (tCons (tVar 6) (tCons (tVar 7) (tCons (tVar 9) (tCons (tVar 10) tNil))))) tNil)))
          (tSeq (tAsg (tOp rCatS (tVar 2) (tVar 7)) (gName 2))
          (tAsg (tVar 7) (gName 4))))) D' }
        [some (.ref a), some (.ref d), some (.str (Tx t)), some (.ref u), some (.str (Tx last)), some (.int (0 + k)), some (.str (kdS kd)), some (.str (Tx w)), v8, v9, v10, v11] H7 := fun D' hD' H7 D7 T7 => by
      refine ⟨_, rfl, _, _, rfl, rfl, _, rfl, ?_⟩
      refine ite2 (fun hk1 => ?_) (fun hk1 => ?_)
      · refine ⟨_, rfl, d, r, rfl, D7, fun H8 g K8 D8 gg gne gl gh => ?_⟩
        have T8 := T7.keptD D7 K8
        refine ⟨_, rfl, _, rfl, _, _, rfl, rfl, ?_, ?_⟩
        · show t.length + g.length ≤ sizeLine
          exact small_len (by omega)
        · rw [Tx_app]
          refine ⟨_, rfl, 35, _, congrArg V.str (by decide +kernel), rfl, _, rfl, ?_⟩
          refine ite2 (fun h35 => ?_) (fun h35 => ?_)
          · -- between[-1] not in (" ", "\n")
            obtain ⟨c, cs, ec⟩ : ∃ c cs, g = cs ++ [c] := ⟨g.getLast gne, g.dropLast, (List.dropLast_concat_getLast gne).symm⟩
            refine ⟨_, rfl, _, rfl, _, -1, c, rfl, rfl, small_len (by show g.length ≤ _; omega), (by show atI g (-1) = _; rw [ec]; exact atI_last cs c), (by show 2 ≤ sizeLine; decide), fun q9 nq9 => ?_⟩
            have T9 := T8.same (same_upd (o := .tup [V.str (" " : Str), V.str ("\n" : Str)]) nq9)
            have D9 := D8.fresh (o := .tup [V.str (" " : Str), V.str ("\n" : Str)]) nq9
            refine ⟨_, _, rfl, .inr (SqT.of upd_same), rfl, rfl, _, rfl, ?_⟩
            refine ite2 (fun _ => ?_) (fun _ => ?_)
            · refine ⟨_, rfl, _, _, rfl, rfl, ?_, ?_⟩
              · rw [nl1]
                show (t ++ g).length + 1 ≤ sizeLine
                rw [List.length_append]
                exact small_len (by omega)
              · rw [nl1, show (⟨#[10]⟩ : Str) = Tx [10] from rfl, Tx_app, List.append_assoc]
                have gg2 : gapB false (g ++ [10]) = true := gapB_nl gg
                refine rest D' hD' (t ++ (g ++ [10])) _ _ D9 T9 (hPre.gap gg2 (headOk_app gne gh) (by simp) w) (by rw [List.length_append, List.length_append, List.length_singleton]; omega)
            · exact rest D' hD' (t ++ g) _ _ D9 T9 (hPre.gap gg gh gne w) (by rw [List.length_append]; omega)
          · exact rest D' hD' (t ++ g) _ _ D8 T8 (hPre.gap gg gh gne w) (by rw [List.length_append]; omega)
      · have ek : k = 0 := by
          have : ¬ (0 : Int) < 0 + (k : Int) := fun z => hk1 (decide_eq_true z)
          omega
        exact rest D' hD' t _ _ D7 T7 (hPre.direct (.inl (hk0 ek))) (by omega)
    have pick : ∀ H7, Draws H7 d r → TksAt H7 u ts → (aloneW last = true ∨ aloneW w = true) → ∀ (Y : Bool → Hp → Prop), (∀ H8, Draws H8 d r → TksAt H8 u ts → Y true H8 ∧ Y false H8) →
        (tTest (tOp rEq (tCall (sp_l_pick K) [] E (tCons (tVar 1) (tCons (tC (.int 3)) tNil))) (tC (.int 0)))) [some (.ref a), some (.ref d), some (.str (Tx t)), some (.ref u), some (.str (Tx last)), some (.int (0 + k)), some (.str (kdS kd)), some (.str (Tx w)), v8, v9, v10, v11] H7 Y := fun H7 D7 T7 _ Y hY => by
      refine ⟨_, rfl, d, 3, rfl, by decide, r, D7, fun j H8 j0 j1 D8 M8 => ?_⟩
      obtain ⟨y1, y2⟩ := hY H8 D8 (T7.keptD D7 (Kept.of_moved M8))
      refine ⟨rfl, _, rfl, ?_⟩
      cases decide (V.int j = V.int 0) with
      | true => exact y1
      | false => exact y2
    have hD0 : ∀ σ H, LInv a d r u (k + 1) σ H → LInv a d r u (k + 1) σ H := fun _ _ z => z
    cases hal : aloneW last with
    | true =>
      refine iteT (iteF ?_)
      refine pick H6 D6 T6 (.inl hal) _ fun H8 D8 T8 => ⟨iteT ?_, iteF ?_⟩
      · exact yes _ hD0 H8 D8 T8
      · exact rest _ hD0 t _ _ D8 T8 (hPre.direct (.inl hal)) (by omega)
    | false =>
      refine iteF ⟨_, rfl, w, rfl, fun H7 s7 => ⟨_, rfl, ?_⟩⟩
      have D7 := D6.same s7
      have T7 := T6.same s7
      cases haw : aloneW w with
      | true =>
        refine iteF ?_
        refine pick H7 D7 T7 (.inr haw) _ fun H8 D8 T8 => ⟨iteT ?_, iteF ?_⟩
        · exact yes _ hD0 H8 D8 T8
        · exact rest _ hD0 t _ _ D8 T8 (hPre.direct (.inr haw)) (by omega)
      | false =>
        exact iteT (yes _ hD0 H7 D7 T7)
  · rintro σ H4 ⟨t, last, ts, v5, v6, v7, v8, v9, v10, v11, rfl, D4, T4, hPre, hk0, htl, hok, htsl⟩
    -- text = text + [..][pick]
    refine ⟨_, rfl, (by show 5 ≤ sizeLine; decide), fun p5 np5 => ?_⟩
    refine ⟨_, rfl, d, 5, rfl, by decide, r, D4.fresh np5, fun j5 H5 j50 j51 D5 M5 => ?_⟩
    have T5 : TksAt H5 u ts := (T4.same (same_upd np5)).keptD (D4.fresh np5) (Kept.of_moved M5)
    have hp5 : H5 p5 = some (.lst (["", " ", "\n", "\n  ", " # the end"].map mS)) := (M5 p5 (Ne.symm (D4.neD np5))).trans upd_same
    obtain ⟨sf, hsf, e5⟩ := menu_at (ss := ["", " ", "\n", "\n  ", " # the end"]) j50 j51
    have gsf : endB false (codes sf) = true ∧ (codes sf).length ≤ 100 ∧ headOk (codes sf) = true := by
      have z : ∀ s ∈ ["", " ", "\n", "\n  ", " # the end"], endB false (codes s) = true ∧ (codes s).length ≤ 100 ∧ headOk (codes s) = true := by decide +kernel
      exact z sf hsf
    refine ⟨p5, _, _, _, rfl, rfl, SqL.of hp5, e5, _, _, rfl, rfl, ?_, ?_⟩
    · show t.length + (codes sf).length ≤ sizeLine
      exact small_len (by omega)
    rw [Tx_app]
    have hend := lex_end (endB_ok false (codes sf) gsf.1 (adv t 1 1).1 (adv t 1 1).2)
    have hlex : lex (t ++ codes sf) 1 1 = (ts ++ [⟨.fin, [], (adv (t ++ codes sf) 1 1).1, (adv (t ++ codes sf) 1 1).2⟩], none) := by
      rw [hPre (codes sf) (.inr gsf.2.2), hend, adv_append]
    -- row, column = _law_place(text); due.append(("end", "", row, column))
    refine ⟨_, rfl, t ++ codes sf, rfl, by rw [List.length_append]; omega, fun q6 H6 s6 nq6 hq6 => ?_⟩
    refine ⟨q6, _, rfl, SqT.of hq6, rfl, _, _, rfl, _, _, rfl, rfl, ?_⟩
    have T6 := T5.same s6
    obtain ⟨xs0, hu0, hxl0, _⟩ := id T6
    refine ⟨_, rfl, .inl ⟨rfl, _, SqL.of hu0⟩, _, rfl, _, rfl, (by show 4 ≤ sizeLine; decide), fun q7 nq7 => ?_⟩
    have e7 : ([V.str ("end" : Str), V.str ("" : Str), V.int (adv (t ++ codes sf) 1 1).1, V.int (adv (t ++ codes sf) 1 1).2] : List V) = tkV ⟨.fin, [], (adv (t ++ codes sf) 1 1).1, (adv (t ++ codes sf) 1 1).2⟩ := by
      show _ = [V.str ("end" : Str), V.str (Tx []), _, _]
      rw [show ("" : Str) = Tx [] by decide +kernel]
    have T7 : TksAt (upd H6 q7 (.tup [V.str ("end" : Str), V.str ("" : Str), V.int (adv (t ++ codes sf) 1 1).1, V.int (adv (t ++ codes sf) 1 1).2])) u ts := T6.same (same_upd nq7)
    obtain ⟨xs, hu, hxl, T8⟩ := T7.snoc (t := ⟨.fin, [], (adv (t ++ codes sf) 1 1).1, (adv (t ++ codes sf) 1 1).2⟩) (by rw [upd_same, e7])
    refine ⟨u, xs, _, rfl, rfl, hu, (by rw [hxl]; exact Nat.lt_of_le_of_lt (show ts.length ≤ 1000 by omega) (by decide)), ?_⟩
    -- actual = tokens(text)
    refine ⟨_, rfl, t ++ codes sf, rfl, by rw [List.length_append]; omega, fun ts9 p9 H9 e9 np9 s9 T9 => ?_, fun ts9 er r9 c9 H9 e9 _ => by rw [hlex] at e9; cases e9⟩
    have ets : ts9 = ts ++ [⟨.fin, [], (adv (t ++ codes sf) 1 1).1, (adv (t ++ codes sf) 1 1).2⟩] := by
      rw [hlex] at e9
      exact (congrArg Prod.fst e9).symm
    have T10 := T8.same s9
    have hok2 : ∀ x ∈ ts9, okTk x = true := fun x hx => by
      rw [ets] at hx
      rcases List.mem_append.mp hx with hx | hx
      · exact hok x hx
      · rw [List.mem_singleton.mp hx]
        exact (by decide +kernel : PyData.strOk (Tx []) = true)
    rw [← ets] at T10
    obtain ⟨qs9, hp9, _, _⟩ := id T9
    have hsh := shaped_tks hok2
    -- isinstance(actual, list), actual != due
    refine ⟨_, rfl, _, _, .type "list", .type "list", true, rfl, .ty "list", .base (.lst hp9), kit_ty (by decide +kernel), _, rfl, ?_⟩
    refine iteF ?_
    refine ⟨_, rfl, _, rfl, _, _, T9.dp, T10.dp, hsh, hsh, _, rfl, ?_⟩
    rw [SeqAt.eqv_refl _ (SeqAt.canLay_of_shaped hsh)]
    refine iteF ?_
    -- KEYWORDS == tuple(_law_keywords()) and tokens("") == [("end", "", 1, 1)]
    refine ⟨rfl, fun p11 H11 s11 np11 hp11 => ?_⟩
    refine ⟨p11, _, rfl, .inl ⟨SqL.of hp11, fun p12 np12 => ?_⟩⟩
    refine ⟨_, _, .tup (hK _) (dp_strs kwL), .tup (SqT.of upd_same) (by rw [kwS_eq]; exact dp_strs kwL), kw_shaped, kw_shaped, _, rfl, ?_⟩
    rw [SeqAt.eqv_refl _ (SeqAt.canLay_of_shaped kw_shaped)]
    refine iteT ?_
    have l0 : lex [] 1 1 = ([⟨.fin, [], 1, 1⟩], none) := lex_end rfl
    refine ⟨[], congrArg (fun s => [V.str s]) (by decide +kernel), by decide, fun ts13 p13 H13 e13 np13 s13 T13 => ?_, fun ts13 er r9 c9 H13 e13 _ => by rw [l0] at e13; cases e13⟩
    have ets13 : ts13 = [⟨.fin, [], 1, 1⟩] := by
      rw [l0] at e13
      exact (congrArg Prod.fst e13).symm
    subst ets13
    refine ⟨(by show 4 ≤ sizeLine; decide), fun p14 np14 => ⟨(by show 1 ≤ sizeLine; decide), fun p15 np15 => ?_⟩⟩
    have n145 : p14 ≠ p15 := fun z => by rw [← z, upd_same] at np15; cases np15
    have e14 : ([V.str ("end" : Str), V.str ("" : Str), V.int 1, V.int 1] : List V) = tkV ⟨.fin, [], 1, 1⟩ := by
      show _ = [V.str ("end" : Str), V.str (Tx []), _, _]
      rw [show ("" : Str) = Tx [] by decide +kernel]
    have T15 := (T13.same (same_upd (o := .tup [V.str ("end" : Str), V.str ("" : Str), V.int 1, V.int 1]) np14)).same (same_upd (o := .lst [V.ref p14]) np15)
    have T16 : TksAt (upd (upd H13 p14 (.tup [V.str ("end" : Str), V.str ("" : Str), V.int 1, V.int 1])) p15 (.lst [V.ref p14])) p15 [⟨.fin, [], 1, 1⟩] := by
      refine ⟨[p14], upd_same, rfl, fun k q t e1 e2 => ?_⟩
      cases k with
      | zero =>
        cases e1
        cases e2
        rw [upd_ne n145, upd_same, e14]
      | succ k => simp at e1
    have sh16 : SeqAt.shaped (.list ([(⟨.fin, [], 1, 1⟩ : Tk)].map tkD)) = true := by decide +kernel
    refine ⟨_, _, T15.dp, T16.dp, sh16, sh16, ?_⟩
    rw [SeqAt.eqv_refl _ (SeqAt.canLay_of_shaped sh16)]
    exact q _
end
end Rm

/-! E1: an own error whose class chain ends in ValueError and whose __init__ tells row and column by super().__init__(f'..'). -/
namespace Rm
open PySem PySem.W PySem.Calls PyProof.Rows PySem.HandSPX
/-! ### the text of __init__ -/
def teA (p1 p2 p3 : Pos) : Arguments := { posonlyargs := [], args := [{ arg := "self", annotation := none, pos := p1 }, { arg := "row", annotation := none, pos := p2 }, { arg := "column", annotation := none, pos := p3 }], vararg := none, kwonlyargs := [], kw_defaults := [], kwarg := none, defaults := [] }
def teB (a1 a2 a3 b1 b2 b3 c1 c2 d1 d2 e1 e2 f1 f2 f3 f4 g1 g2 g3 g4 : Pos) (k1 k2 : Nat) : List Stmt :=
  [.Expr (.Call (.Attribute (.Call (.Name "super" a1) [] [] a2) "__init__" a3) [.JoinedStr [.Constant (.str "row ") k1 b1, .FormattedValue (.Name "row" c1) (-1) none c2, .Constant (.str ", column ") k2 b2, .FormattedValue (.Name "column" d1) (-1) none d2] b3] [] e1) e2,
   .Assign [.Attribute (.Name "self" f1) "row" f2] (.Name "row" f3) f4, .Assign [.Attribute (.Name "self" g1) "column" g2] (.Name "column" g3) g4]
def teS : Scope := { kind := .function, names := [(PySem.Str.ofString "self", .local), (PySem.Str.ofString "row", .local), (PySem.Str.ofString "column", .local), (PySem.Str.ofString "__class__", .free), (PySem.Str.ofString "super", .globalImplicit)], isGenerator := false, isCoroutine := false, more := [] }
/-- what the written part tells of the class at C, whose __init__, at fI, is written in the class at D -/
structure ErrK (P : Program) (K : Frag) (C : Addr) : Prop where
  oex : L2.OexC K C
  nr : findIn K (.ref C) "row" = some none
  nc : findIn K (.ref C) "column" = some none
  vE : subIn K (.ref C) (.type "ValueError") = some true
  sup : nsIn K mainGlobals "super" = some none
  tp : nsIn K cStatics "thirdparty.any" = some none
  top : (P.main.scope.names.lookup ("super" : Str)).isSome = false
  fn : ∃ (D cc cda fI : Addr) (oc ocd oce : Value) (od odd ode : Option Addr) (osl osd ose : Array (Option Value)) (cdD : ClassData) (vs : Array Value) (file : Str) (tf : Tok) (dV kV doc pm ct : Value) (an : Option Addr)
    (p1 p2 p3 a1 a2 a3 b1 b2 b3 c1 c2 d1 d2 e1 e2 f1 f2 f3 f4 g1 g2 g3 g4 : Pos) (k1 k2 : Nat),
    (a3.endLine == e1.line) = true ∧ findIn K (.ref C) "__init__" = some (some (.ref fI)) ∧ typeIn K (.ref fI) = some (.type "function") ∧
    K.lookup fI = some ⟨oc, od, .func (ksFn "__init__" "TextError.__init__" (teA p1 p2 p3) (teB a1 a2 a3 b1 b2 b3 c1 c2 d1 d2 e1 e2 f1 f2 f3 f4 g1 g2 g3 g4 k1 k2) teS .none kV doc pm an (.ref cda) ct cc), osl⟩ ∧ codeIn K (.ref cda) "TextError.__init__" = true ∧
    K.lookup cda = some ⟨ocd, odd, .fields vs, osd⟩ ∧ vs[2]? = some (.str file tf) ∧ ((P.main.file : Str) == file) = true ∧
    K.lookup cc = some ⟨oce, ode, .cell (some (.ref D)), ose⟩ ∧ clsIn K D = some cdD ∧ mroIn K C (.ref D) = some true ∧ ks_superIn K C D "__init__" = some (some (.builtin "ValueError.__init__"))
section
variable {prog : Program} {w : World} {A : Around} {E : Value → Shared → Prop} {R : Result → Shared → Prop} {h : Heap} {g : Array GenState} {d : Drawn} {t : Nat} {os : OsState} {K : Frag} {C : Addr}
/-- ValueError.__init__, bound, called -/
theorem bound_called {nm q : Str} {N u x t0 : Addr} {bs bm : List Value} {hd : Bool} {sn : List Str} {sub : List Value} {ab : Bool} {col : Option Bool} {dd : Option Addr} {k0 k1 k2 k3 k5 : Option Value} {rest : List Value} {Q : Value → Shared → Prop}
    (cls : h.get? C = some (excClassObj nm q C N bs bm hd sn sub ab col dd k0 k1 k2 k3 k5 "ValueError.__new__")) (inst : h.get? x = some (excO C t0)) (mw : h.get? u = some (kxs_mw "ValueError.__init__" x)) (few : rest.length ≤ sizeLine)
    (goal : ∀ h' t1, (∀ b o, b ≠ x → h.get? b = some o → h'.get? b = some o) → h'.get? x = some (excO C t1) → Q .none ⟨h', g, d, t, os⟩) : wpAny (model prog w) A (call (.ref u) rest) Q E ⟨h, g, d, t, os⟩ := by
  apply wpAny_call
  apply codeAny_of_tree
  change wpAny _ A.in1 (callAny (.ref u) ⟨rest, []⟩) _ _ _
  rw [callAny]
  apply wpAny_bind
  apply wpAny_load mw
  have yes : (Value.type "method-wrapper" == Value.type "method" || Value.type "method-wrapper" == Value.type "builtin_function_or_method" || Value.type "method-wrapper" == Value.type "method-wrapper") = true := by decide
  simp only [kxs_mw, yes, if_true]
  apply KFB.if_so (by decide)
  refine wpAny_bind (check_bound_init F.excBase_ValueError.toExcCallFacts cls inst rfl (wpAny_bind (wpAny_pure (wpAny_pure ⟨plainId_quiet F.excBase_ValueError.init.plain _, codeAny_builtin F.excBase_ValueError.initEntry ?_⟩))))
  exact exc_init_tree (cls := .ref C) (t0 := t0) (dv := none) (c2 := .none) (c3 := .none) (b4 := .bool false) inst few fun h' keep at_ _ => goal h' _ keep at_
theorem three {x : Addr} {r c : Value} {y : Str × Value} (hy : y ∈ ([(("self" : Str), Value.ref x), ("row", r), ("column", c)] : List (Str × Value))) : teS.names.lookup y.1 = some .local := by
  rcases List.mem_cons.mp hy with rfl | hy
  · show teS.names.lookup ("self" : Str) = _
    decide +kernel
  rcases List.mem_cons.mp hy with rfl | hy
  · show teS.names.lookup ("row" : Str) = _
    decide +kernel
  rcases List.mem_cons.mp hy with rfl | hy
  · show teS.names.lookup ("column" : Str) = _
    decide +kernel
  · cases hy
theorem meth_line {o : Expr} {name : Str} {apos pos : Pos} {args : List Expr} {env : Env} (ln : (apos.endLine == pos.line) = true) (few : methodCallForm (args.length + 0) (backTo pos (starEach args env)) [] = true) :
    eval (.Call (.Attribute o name apos) args [] pos) env = (do
      let ov ← attributeBase o name env (eval o env)
      standAt apos.atName
      let (f, first) ← holding [ov] (getMethod ov name (L2.plainOf o env))
      callWith pos f first (backTo pos (starEach args env)) []) := by
  have e : ∀ ov, methodCall o name apos pos env ov (args.length + 0) (backTo pos (starEach args env)) [] = (do
      let (f, first) ← holding [ov] (getMethod ov name (L2.plainOf o env))
      callWith pos f first (backTo pos (starEach args env)) []) := fun ov => L2.mcall_line few ln
  rw [arm_eval_Call]
  show (attributeBase o name env (eval o env) >>= fun ov => standAt apos.atName >>= fun _ => methodCall o name apos pos env ov (args.length + 0) (backTo pos (starEach args env)) []) = _
  rw [show (fun ov => standAt apos.atName >>= fun _ => methodCall o name apos pos env ov (args.length + 0) (backTo pos (starEach args env)) []) = fun ov => standAt apos.atName >>= fun _ => (do
      let (f, first) ← holding [ov] (getMethod ov name (L2.plainOf o env))
      callWith pos f first (backTo pos (starEach args env)) []) from funext fun ov => by rw [e ov]]
/-- the parts of the told text are short -/
theorem place_text {r : Int} (hr : r.natAbs.log2 < 1920) : (PySem.Str.ofString (toString r)).length ≤ 1921 := by
  have e := int_text_length_le (k := 1920) (by decide) hr
  rw [PySem.ofString_length]
  omega
/-- what __init__ leaves -/
structure ErrLeft (h h' : Heap) (x C dx t1 : Addr) (r c : Value) : Prop where
  keep : ∀ b o, b ≠ x → h.get? b = some o → h'.get? b = some o
  obj : h'.get? x = some { cls := .ref C, dict := some dx, data := .fields #[.ref t1, .none, .none, .none, .bool false, .none] }
  big : h.objs.size ≤ dx
  ne : dx ≠ x
  ns : h'.Ns1 dx (fun y => if y = "column" then some c else if y = "row" then some r else none)
theorem err_init {mg mb : Str → Option Value} {x t0 : Addr} {r c : Int} {tr tc : Tok} (T : ErrK prog K C) (X : K.In h) (G : h.Ns mainGlobals mg) (B : h.Ns builtinsNs mb) (bb : ∀ x : Str, x ≠ "__name__" → mb x = bootBuiltins x)
    (lim : h.NoLimit) (hx : h.get? x = some (excO C t0)) (nx : K.lookup x = none) (room : A.depth < recursionLimit) (hr : r.natAbs.log2 < 1920) (hc : c.natAbs.log2 < 1920) {fI : Addr} (iI : findIn K (.ref C) "__init__" = some (some (.ref fI)))
    (goal : ∀ h' tk dx t1, ErrLeft h h' x C dx t1 (.int r tr) (.int c tc) → R (.ok (.ret .none)) ⟨h', g, d, tk, os⟩) :
    codeAny (model prog w) A (.call (.ref fI) ⟨[.ref x, .int r tr, .int c tc], []⟩) R ⟨h, g, d, t, os⟩ := by
  obtain ⟨D, cc, cda, fI', oc, ocd, oce, od, odd, ode, osl, osd, ose, cdD, vs, file, tf, dV, kV, doc, pm, ct, an, p1, p2, p3, a1, a2, a3, b1, b2, b3, c1, c2, d1, d2, e1, e2, f1, f2, f3, f4, g1, g2, g3, g4, k1, k2, ln, iI', tI, lF, cF, lcd, hvs, hfile, lcc, lD, mD, sI⟩ := T.fn
  have same : fI' = fI := by
    rw [iI] at iI'
    cases iI'
    rfl
  subst same
  obtain ⟨nm, q, N, bs, bm, sn, sub, ab, col, dd, k0, k1', k2', k3, k5, hC, hbm⟩ := T.oex.cls
  have hcl : clsIn K C = some { name := nm, bases := bs, mro := .ref C :: bm, ns := N, qualname := q, hasDict := true, slotNames := sn, subclasses := sub, abstract := ab, collection := col, hasDel := false } := by
    unfold clsIn
    rw [hC] <;> rfl
  refine ks_codeAny_call_defAt (binds := [("self", .ref x), ("row", .int r tr), ("column", .int c tc)]) room (X _ _ lF) rfl lim (codeRec_of X cF) rfl (BindsTo.of_eq (by first | rfl | with_unfolding_all rfl)) (show ∀ y ∈ teS.names, y.2 ≠ .cell by decide +kernel) (show ∀ y ∈ ([(("self" : Str), Value.ref x), ("row", .int r tr), ("column", .int c tc)] : List (Str × Value)), teS.names.lookup y.1 = some .local from fun y hy => three hy) (fun h0 ns0 keep0 => ?_)
  have X0 : K.In h0 := X.keeps keep0
  have hx0 := keep0 _ _ hx
  -- super()
  refine ks_wpAt_execs_cons (ks_wpAt_Expr_any (ks_wpAt_MethodCall (pl := L2.plainOf (.Call (.Name "super" a1) [] [] a2) (ksEnv "TextError.__init__" teS h.objs.size fI' (.ref cda) cc)) ?_ (meth_line ln rfl)))
  have lookN : ∀ y : Str, (fun y => ([("self", Value.ref x), ("row", .int r tr), ("column", .int c tc)] : List (Str × Value)).reverse.lookup y) y = ([("self", Value.ref x), ("row", .int r tr), ("column", .int c tc)] : List (Str × Value)).reverse.lookup y := fun _ => rfl
  obtain ⟨oD, hD1, hD2⟩ : ∃ oD, h0.get? D = some oD ∧ oD.data = .cls cdD := by
    unfold clsIn at lD
    split at lD
    · rename_i cls0 dct0 cd0 sl0 ho
      cases lD
      exact ⟨_, X0 _ _ ho, rfl⟩
    · cases lD
  refine ks_wpAt_super_base (by rfl) (by rfl) (by decide) rfl (X0 _ _ lF) rfl rfl rfl (X0 _ _ lcd) rfl hvs hfile T.top ?_
  refine ks_loadName_global rfl rfl (loadGlobal_builtin (mg := mg) (mb := mb) (v := .type "super") (G.keeps keep0) (mg_none_of X G T.sup) (B.keeps keep0) ((bb _ (by decide +kernel)).trans (by first | rfl | kernel_rfl)) ⟨rfl, ?_⟩)
  refine wpAny_loadName_free (v := .ref D) rfl rfl rfl ⟨_, X0 _ _ lcc, rfl⟩ ?_
  refine wpAny_loadName_local (v := .ref x) rfl rfl ns0 (by first | rfl | kernel_rfl) ?_
  refine ks_wpAny_isType_cls hD1 hD2 ⟨rfl, ?_⟩
  refine ks_wpAny_call_super hD1 hD2 hx0 rfl (fun _ z => by cases z) (looks_mroIn X0 mD) (fun h1 so1 keep1 => ?_)
  have X1 : K.In h1 := X0.keeps keep1
  have hx1 := keep1 _ _ hx0
  have I1 : InstAt h1 x (excO C t0) C none := ⟨hx1, rfl, rfl, trivial⟩
  have along : alongIn K "__init__" (((Value.ref C :: bm).dropWhile (· != .ref D)).drop 1) = some (some (.builtin "ValueError.__init__")) := by
    unfold ks_superIn at sI
    rw [hcl] at sI
    exact sI
  refine kxs_getMethod kxs_ValueError so1 (looks_opaque X1 T.tp) ((looks_clsIn X1 hcl).andThen .now) rfl X1 along (I1.type.andThen (looks_subIn X1 T.vE)) (ks_ne X1 I1 hcl) (by decide) ?_
  have keep2 : ∀ b o, h1.get? b = some o → (h1.push (kxs_mw "ValueError.__init__" x)).get? b = some o := fun b o e => Heap.get?_push_of_some _ e
  have mw2 : (h1.push (kxs_mw "ValueError.__init__" x)).get? h1.objs.size = some (kxs_mw "ValueError.__init__" x) := Heap.get?_push_at rfl rfl
  have ns2 : (h1.push (kxs_mw "ValueError.__init__" x)).Ns h.objs.size (fun y => ([("self", Value.ref x), ("row", .int r tr), ("column", .int c tc)] : List (Str × Value)).reverse.lookup y) := ns0.at fun o e => keep2 _ _ (keep1 _ _ e)
  generalize hh2 : h1.push (kxs_mw "ValueError.__init__" x) = h2 at keep2 mw2 ns2
  have all2 : ∀ b o, h.get? b = some o → h2.get? b = some o := fun b o e => keep2 _ _ (keep1 _ _ (keep0 _ _ e))
  -- the told text
  refine kxs_callWith (i := "ValueError.__init__") (x := x) rfl ?_
  refine evalArgs_plain (x := eval (.JoinedStr [.Constant (.str "row ") k1 b1, .FormattedValue (.Name "row" c1) (-1) none c2, .Constant (.str ", column ") k2 b2, .FormattedValue (.Name "column" d1) (-1) none d2] b3) (ksEnv "TextError.__init__" teS h.objs.size fI' (.ref cda) cc)) (spliced_cons ?_)
  refine wpAny_JoinedStr ?_
  refine wpAny_Constant_str ⟨_, _, rfl, by decide, ?_⟩
  have z0 : (Str.empty ++ ("row " : Str)).length = 4 := by decide
  have z1 : ((", column " : Str)).length = 9 := by decide
  have tr1 := place_text hr
  have tc1 := place_text hc
  have fit1 : ((Str.empty ++ ("row " : Str)) ++ Str.ofString (toString r)).length ≤ sizeLine := by
    rw [strLen_append, sizeLine_eq]
    omega
  have fit2 : (((Str.empty ++ ("row " : Str)) ++ Str.ofString (toString r)) ++ (", column " : Str)).length ≤ sizeLine := by
    rw [strLen_append, strLen_append, sizeLine_eq]
    omega
  have fit3 : ((((Str.empty ++ ("row " : Str)) ++ Str.ofString (toString r)) ++ (", column " : Str)) ++ Str.ofString (toString c)).length ≤ sizeLine := by
    rw [strLen_append, strLen_append, strLen_append, sizeLine_eq]
    omega
  refine wpAny_FormattedValue_plain (wpAny_Name (wpAny_loadName_local (v := .int r tr) rfl rfl ns2 (by first | rfl | kernel_rfl) ?_))
  refine wpAny_formatField_int hr ⟨_, _, rfl, fit1, ?_⟩
  refine wpAny_Constant_str ⟨_, _, rfl, fit2, ?_⟩
  refine wpAny_FormattedValue_plain (wpAny_Name (wpAny_loadName_local (v := .int c tc) rfl rfl ns2 (by first | rfl | kernel_rfl) ?_))
  refine wpAny_formatField_int hc ⟨_, _, rfl, fit3, fit3, ?_⟩
  refine spliced_nil ⟨mw2, ?_⟩
  refine bound_called (X.keeps all2 _ _ hC) (keep2 _ _ hx1) mw2 (by show 1 ≤ sizeLine; decide) fun h3 t3 keep3 hx3 => ?_
  have Lx : h.objs.size ≠ x := Nat.ne_of_gt (Heap.lt_size hx)
  have ns3 := ns2.at fun o e => keep3 _ _ Lx e
  have X2 : K.In h2 := X.keeps all2
  have X3 : K.In h3 := fun b o e => keep3 b o (fun z => by rw [z, nx] at e; cases e) (X2 b o e)
  -- self.row = row
  refine wpAt_of_wpAny (wpAny_execs_cons (plainObj_wpAny_Assign_Attribute ?_))
  refine wpAny_Name (wpAny_loadName_local (v := .int r tr) rfl rfl ns3 (by first | rfl | kernel_rfl) ?_)
  refine wpAny_Name (wpAny_loadName_local (v := .ref x) rfl rfl ns3 (by first | rfl | kernel_rfl) ?_)
  refine set_plain X3 (ox := excO C t3) (od := none) ⟨hx3, rfl, rfl, trivial⟩ T.oex.sa ?_
  refine exc_osa X3 hx3 hcl (show refsVE (.ref C :: bm) = true from hbm) rfl T.nr fun h4 tk4 dx keep4 big4 ne4 hx4 own4 => ?_
  have ns4 := ns3.at fun o e => keep4 _ _ Lx e
  have X4 : K.In h4 := fun b o e => keep4 b o (fun z => by rw [z, nx] at e; cases e) (X3 b o e)
  -- self.column = column
  refine wpAny_execs_cons (plainObj_wpAny_Assign_Attribute ?_)
  refine wpAny_Name (wpAny_loadName_local (v := .int c tc) rfl rfl ns4 (by first | rfl | kernel_rfl) ?_)
  refine wpAny_Name (wpAny_loadName_local (v := .ref x) rfl rfl ns4 (by first | rfl | kernel_rfl) ?_)
  obtain ⟨oD4, _, _, hoD4, _⟩ := id own4
  refine set_plain X4 (od := some oD4) ⟨hx4, rfl, rfl, hoD4⟩ T.oex.sa ?_
  have within4 : PySem.Within (fun y => if y = ("row" : Str) then some (Value.int r tr) else none) ["row"] := fun y hy => by
    by_cases e : y = "row"
    · rw [e]
      exact List.mem_cons_self
    · exact absurd (if_neg e) hy
  refine PySem.OEX.osa_old X4 hx4 own4 within4 (by decide) hcl (show refsVE (.ref C :: bm) = true from hbm) rfl T.nc fun h5 tk5 keep5 own5 => ?_
  refine wpAny_execs_nil (goal h5 _ dx t3 ?_)
  have dxbig : h.objs.size ≤ dx := Nat.le_trans (Nat.le_of_lt ns3.lt) big4
  exact ⟨fun b o ne e => keep5 b o (fun z => by
      have q : b < h.objs.size := Heap.lt_size e
      rw [z] at q
      exact absurd dxbig (Nat.not_le_of_lt q)) (keep4 b o ne (keep3 b o ne (all2 b o e))), keep5 _ _ (Ne.symm ne4) hx4, dxbig, ne4, own5⟩
end
end Rm

/-! E2: such an error made, raised, its fields read, its class asked. -/
namespace Rm
open PySem PySem.W PySem.Calls PyProof.Rows PySem.HandSPX
section
variable {prog : Program} {w : World} {A : Around} {E : Value → Shared → Prop} {R : Result → Shared → Prop} {h : Heap} {g : Array GenState} {d : Drawn} {t : Nat} {os : OsState} {K : Frag} {C : Addr}
theorem err_made {mg mb : Str → Option Value} {r c : Int} {tr tc : Tok} (T : ErrK prog K C) (X : K.In h) (G : h.Ns mainGlobals mg) (B : h.Ns builtinsNs mb) (bb : ∀ x : Str, x ≠ "__name__" → mb x = bootBuiltins x)
    (lim : h.NoLimit) (room : A.depth + 1 < recursionLimit) (hr : r.natAbs.log2 < 1920) (hc : c.natAbs.log2 < 1920)
    (goal : ∀ h' tk e dx t1, (∀ b o, h.get? b = some o → h'.get? b = some o) → h.objs.size ≤ e → h'.get? e = some { cls := .ref C, dict := some dx, data := .fields #[.ref t1, .none, .none, .none, .bool false, .none] } → h.objs.size ≤ dx → dx ≠ e →
      h'.Ns1 dx (fun y => if y = "column" then some (.int c tc) else if y = "row" then some (.int r tr) else none) → R (.ok (.ret (.ref e))) ⟨h', g, d, tk, os⟩) :
    codeAny (model prog w) A (.call (.ref C) ⟨[.int r tr, .int c tc], []⟩) R ⟨h, g, d, t, os⟩ := by
  obtain ⟨nm, q, N, bs, bm, sn, sub, ab, col, dd, k0, k1, k2, k3, k5, hC, hbm⟩ := T.oex.cls
  obtain ⟨D, cc, cda, fI, oc, ocd, oce, od, odd, ode, osl, osd, ose, cdD, vs, file, tf, dV, kV, doc, pm, ct, an, p1, p2, p3, a1, a2, a3, b1, b2, b3, c1, c2, d1, d2, e1, e2, f1, f2, f3, f4, g1, g2, g3, g4, k1', k2', ln, iI, tI, rest⟩ := T.fn
  clear rest
  have up : ∀ b o, h.get? b = some o → ((h.push (kdv_tup [.int r tr, .int c tc])).push (excO C h.objs.size)).get? b = some o := fun b o e => Heap.get?_push_of_some _ (Heap.get?_push_of_some _ e)
  have there : ((h.push (kdv_tup [.int r tr, .int c tc])).push (excO C h.objs.size)).get? (h.objs.size + 1) = some (excO C h.objs.size) := by heap_get
  have free : K.lookup (h.objs.size + 1) = none := by
    cases e : K.lookup (h.objs.size + 1) with
    | none => rfl
    | some o =>
      exact absurd (Nat.lt_of_succ_lt (show h.objs.size + 1 < h.objs.size from Heap.lt_size (X _ _ e))) (Nat.lt_irrefl _)
  refine call_own F.excBase_ValueError (fun Y => refsVE_contains Y bm hbm) (X _ _ hC) (looks_findIn X iI) (fun self => bind_fn X self tI) (by show 2 ≤ sizeLine; decide) ?_
  refine err_init T (X.keeps up) (G.keeps up) (B.keeps up) bb (lim.keeps up) there free ?_ hr hc iI fun h' tk dx t1 L => ?_
  · show A.depth + 1 < recursionLimit
    exact room
  · have old : ∀ b o, h.get? b = some o → h'.get? b = some o := fun b o e => L.keep b o (Nat.ne_of_lt (Nat.lt_succ_of_lt (Heap.lt_size e))) (up b o e)
    have big := L.big
    rw [Heap.size_push, Heap.size_push] at big
    exact ⟨rfl, goal h' tk (h.objs.size + 1) dx t1 old (Nat.le_succ _) L.obj (by omega) L.ne L.ns⟩
end
end Rm
namespace Rm
open PySem PySem.Spec PyProof.Rows L2
/-- an error's fields -/
def exF (r c : Int) : List (Str × V) := [("column", .int c), ("row", .int r)]
theorem exF_rel {r c : Int} {tr tc : Tok} (f : Str) : RelO ((exF r c).lookup f) (if f = "column" then some (Value.int c tc) else if f = "row" then some (Value.int r tr) else none) := by
  unfold exF
  by_cases e : f = "column"
  · subst e
    rw [if_pos rfl, show List.lookup ("column" : Str) [(("column" : Str), V.int c), ("row", .int r)] = some (.int c) by simp [List.lookup]]
    exact ⟨_, rfl⟩
  · rw [if_neg e, lookup_put, if_neg e]
    by_cases e2 : f = "row"
    · subst e2
      rw [if_pos rfl, show List.lookup ("row" : Str) [(("row" : Str), V.int r)] = some (.int r) by simp [List.lookup]]
      exact ⟨_, rfl⟩
    · rw [if_neg e2, lookup_put, if_neg e2]
      exact True.intro
section
variable {X : Cx} {C : Addr}
/-- C(row, column) -/
def tMkErr (C : Addr) (ta : TA) : L2.St → Hp → XK → Prop := fun σ H Q => ta σ H fun vs H1 => ∃ r c : Int, vs = [.int r, .int c] ∧ r.natAbs.log2 < 1920 ∧ c.natAbs.log2 < 1920 ∧ ∀ d, H1 d = none → Q (.ref C) (some d) (upd H1 d (.xd (exF r c)))
theorem pmk_err {n : Str} {es : List Expr} {e0 : Expr} {ta : TA} {p pos : Pos} {k : Nat} (T : ErrK X.prog X.K C) (hr : Room k X.A) (hm : X.mg n = some (.ref C)) (ha : PA X (e0 :: es) ta) (hg : Gl X n := by rfl) (hdb : (n == ("__debug__" : Str)) = false := by decide)
    (he : starEach (e0 :: es) X.env = (false, eval e0 X.env) :: starEach es X.env := by rfl) (hpl : (backTo pos (starEach es X.env)).any (·.1) = false := by rfl) :
    PMk X (.Call (.Name n p) (e0 :: es) [] pos) (tMkErr C ta) := by
  intro pins s σ H Q I h
  refine wpAny_Call_Name_kw (ld_glob I hg hm ?_ hdb)
  refine PySem.W.callWith_K (h₀ := X.base) I.ok.mod.kin T.oex.kC (thn (ha.run pos pins s σ H _ I h) fun us s1 hh => ?_) he hpl
  obtain ⟨vs, H1, I1, r1, r, c, ev, hlr, hlc, q1⟩ := hh
  subst ev
  refine ⟨I1.kIn, ?_⟩
  cases r1 with
  | cons rr rest =>
    cases rest with
    | cons rc rest =>
      cases rest
      obtain ⟨tr, rfl⟩ := rr
      obtain ⟨tc, rfl⟩ := rc
      show wpAny _ _ (call (.ref C) [.int r tr, .int c tc]) _ _ _
      have lim := I1.nolimit
      have e0' := I1.env0
      obtain ⟨mb, hb, hbb⟩ := e0'.mod.blt
      have kb : ∀ b o, X.base.get? b = some o → s1.heap.get? b = some o := fun b o e => (e0'.bs b o e).1
      have G1 := e0'.mod.glob.keeps kb
      have B1 := hb.keeps kb
      obtain ⟨hp, g, dr, tk, os⟩ := s1
      refine wpAny_call (err_made T I1.kIn G1 B1 hbb lim (by have := hr.dp; omega) hlr hlc fun h' tk' e d t1 old eb hoe db dne hns => ?_)
      show MkP X pins σ Q (.ref e) ⟨h', g, dr, tk', os⟩
      obtain ⟨G', gs, gn⟩ := restrict h' fun b => decide (b ≠ e)
      have gk : ∀ b, b ≠ e → G'.get? b = h'.get? b := fun b hb => gs b (decide_eq_true hb)
      have ge : G'.get? e = none := gn e (by simp)
      have keep : ∀ b o, hp.get? b = some o → G'.get? b = some o := fun b o q => (gk b (Nat.ne_of_lt (Nat.lt_of_lt_of_le (Heap.lt_size q) eb))).trans (old b o q)
      have dict : ObjOk X.prog X.w (upd H1 d (.xd (exF r c))) G' d (.xd (exF r c)) := ⟨_, hns.at (fun o q => (gk d dne).trans q), exF_rel⟩
      have J : Inv X pins σ (upd H1 d (.xd (exF r c))) ⟨G', g, dr, tk', os⟩ := I1.laid (t' := tk') keep db dict
      refine ⟨e, _, _, ⟨G', g, dr, tk', os⟩, _, .ref C, some d, rfl, J, fun b o q => ?_, ge, hoe, ⟨rfl, rfl⟩, rfl, rfl, ?_, rfl, I1.bare, raises_own T.oex.exC T.oex.tyC, q1 d (I1.hok.fresh db)⟩
      · by_cases hb : b = e
        · rw [hb] at q
          exact absurd (ge.symm.trans q) (by simp)
        · exact (gk b hb).symm.trans q
      · rw [upd_ne (Ne.symm dne)]
        exact I1.hok.fresh eb
/-- raise C(row, column) -/
def tRaiseErr (C : Addr) (W : WX) (ta : TA) : TS := fun _ σ H => tMkErr C ta σ H fun cls d H' => W cls d σ H'
theorem ps_err {n : Str} {es : List Expr} {e0 : Expr} {ta : TA} {W : WX} {p pos pos2 : Pos} {k : Nat} (hc : X.calm = true) (T : ErrK X.prog X.K C) (hr : Room k X.A) (tk : Takes X W) (hm : X.mg n = some (.ref C)) (ha : PA X (e0 :: es) ta) (hg : Gl X n := by rfl)
    (hdb : (n == ("__debug__" : Str)) = false := by decide) (he : starEach (e0 :: es) X.env = (false, eval e0 X.env) :: starEach es X.env := by rfl) (hpl : (backTo pos (starEach es X.env)).any (·.1) = false := by rfl) :
    PS X (.Raise (some (.Call (.Name n p) (e0 :: es) [] pos)) none pos2) (tRaiseErr C W ta) := ps_raise hc tk (pmk_err T hr hm ha hg hdb he hpl)
/-! ### its class asked: isinstance(e, ..) in the suite -/
theorem inst_at {C a : Addr} {d : Option Addr} {oe : Obj} {h : Heap} (hz : Zc (.ref C) d oe) (hf : ∃ vs, oe.data = .fields vs) (ha : h.get? a = some oe) (hd : ∀ x, d = some x → ∃ o, h.get? x = some o) : ∃ od, PySem.W.InstAt h a oe C od := by
  obtain ⟨oc, odc, odt, osl⟩ := oe
  obtain ⟨vs, hv⟩ := hf
  obtain ⟨z1, z2⟩ := hz
  dsimp only at z1 z2 hv
  subst z1 z2 hv
  cases odc with
  | none => exact ⟨none, ha, rfl, rfl, trivial⟩
  | some x =>
    obtain ⟨o, ho⟩ := hd x rfl
    exact ⟨some o, ha, rfl, rfl, ho⟩
/-- isinstance(e, c), e the error that the suite holds, c a class -/
def rIsX (K : PySem.W.Frag) (cls : Value) (d : Option Addr) (a : Addr) : List V → Hp → VK → Prop := fun xs H Q => ∃ (C : Addr) (c : V) (cv : Value) (b : Bool), cls = .ref C ∧ xs = [.ref a, c] ∧ ClsV c cv ∧ ExcC K C ∧ (∀ x, d = some x → ∃ fs, H x = some (.xd fs)) ∧ PySem.W.kitOne K (.ref C) cv = some b ∧ Q (.bl b) H
/-- isinstance(e, (c, ..)) -/
def rIsXT (K : PySem.W.Frag) (cls : Value) (d : Option Addr) (a : Addr) : List V → Hp → VK → Prop := fun xs H Q => ∃ (C tp : Addr) (cs : List V) (us : List Value) (b : Bool), cls = .ref C ∧ xs = [.ref a, .ref tp] ∧ H tp = some (.tup cs) ∧ Paired ClsV cs us ∧ ExcC K C ∧ (∀ x, d = some x → ∃ fs, H x = some (.xd fs)) ∧ PySem.W.kitAny K (.ref C) us = some b ∧ Q (.bl b) H
theorem call_isX {a : Addr} {oe : Obj} {cls : Value} {d : Option Addr} {pn : List (Addr × Obj)} (hz : Zc cls d oe) (hf : ∃ vs, oe.data = .fields vs) : CallR (X.suite a ((a, oe) :: pn)) (.builtin "isinstance") (rIsX X.K cls d a) := by
  intro pins s σ H xs us Q I r h
  obtain ⟨C, c, cv, b, rfl, rfl, k, T, hd, e, q⟩ := h
  obtain ⟨u1, u2, rfl, r1, r2⟩ := vals2 r
  have e2 := k.eq r2
  subst e2
  cases (show u1 = Value.ref a from r1)
  obtain ⟨at_, _⟩ := I.pin (a, oe) (List.mem_append.mpr (.inl List.mem_cons_self))
  obtain ⟨od, J⟩ := inst_at hz hf at_ fun x ex => by
    obtain ⟨fs, hx⟩ := hd x ex
    obtain ⟨mA, ⟨o, _, _, ho, _⟩, _⟩ := (show ObjOk X.prog X.w H s.heap x (.xd fs) from I.hok x _ hx)
    exact ⟨o, ho⟩
  have cl : (PySem.W.clsIn X.K C).isSome = true := by
    obtain ⟨cd, hc, _⟩ := PySem.W.any_some T.hd
    rw [hc]
    rfl
  exact PySem.W.kia_one (PySem.W.kitx_exc cl T.hg T.hk T.hs T.ha T.hn T.ht T.hm) I.kIn J e (fun z => nomatch z) fun tk => ⟨.bl b, H, I.kept (t' := tk) fun _ _ z => z, rfl, q⟩
theorem call_isXT {a : Addr} {oe : Obj} {cls : Value} {d : Option Addr} {pn : List (Addr × Obj)} (hz : Zc cls d oe) (hf : ∃ vs, oe.data = .fields vs) : CallR (X.suite a ((a, oe) :: pn)) (.builtin "isinstance") (rIsXT X.K cls d a) := by
  intro pins s σ H xs us Q I r h
  obtain ⟨C, tp, cs, ws, b, rfl, rfl, hT, k, T, hd, e, q⟩ := h
  obtain ⟨u1, u2, rfl, r1, r2⟩ := vals2 r
  cases (show u1 = Value.ref a from r1)
  cases (show u2 = Value.ref tp from r2)
  obtain ⟨at_, _⟩ := I.pin (a, oe) (List.mem_append.mpr (.inl List.mem_cons_self))
  obtain ⟨od, J⟩ := inst_at hz hf at_ fun x ex => by
    obtain ⟨fs, hx⟩ := hd x ex
    obtain ⟨mA, ⟨o, _, _, ho, _⟩, _⟩ := (show ObjOk X.prog X.w H s.heap x (.xd fs) from I.hok x _ hx)
    exact ⟨o, ho⟩
  obtain ⟨_, its, rv, o, t1, t2, n, t3⟩ := (show ObjOk X.prog X.w H s.heap tp (.tup cs) from I.hok tp _ hT)
  have e3 := ClsV.all k rv
  subst e3
  obtain ⟨oc, od', dt, sl⟩ := o
  simp only at t2 t3
  subst t2 t3
  have cl : (PySem.W.clsIn X.K C).isSome = true := by
    obtain ⟨cd, hc, _⟩ := PySem.W.any_some T.hd
    rw [hc]
    rfl
  exact PySem.W.kia_tup (PySem.W.kitx_exc cl T.hg T.hk T.hs T.ha T.hn T.ht T.hm) I.kIn J t1 e (fun z => nomatch z) fun tk => ⟨.bl b, H, I.kept (t' := tk) fun _ _ z => z, rfl, q⟩
end
end Rm

/-! E3: try with several clauses, each with a name. -/
namespace Rm
open PySem PySem.Spec PyProof.Rows L2
abbrev Sfn := Addr → Value → Option Addr → TS
/-- behind a suite the name is gone -/
def goneD (i : Nat) (D : Ends) : Ends := { nx := fun τ G => D.nx (τ.set i none) G, rt := D.rt, bk := fun τ G => D.bk (τ.set i none) G, ct := fun τ G => D.ct (τ.set i none) G }
/-- what the clauses 'except c as n' (n's slot) wish of the body's error -/
def wishes (K : PySem.W.Frag) (out : WX) (D : Ends) : List (Value × Nat × Sfn) → WX
  | [] => out
  | (c, i, f) :: more => fun cls d τ G => ∃ hit, PySem.W.exmOne K cls c = some hit ∧ (hit = true → ∀ a, G a = none → f a cls d (goneD i D) (τ.set i (some (.ref a))) G) ∧ (hit = false → wishes K out D more cls d τ G)
/-- the clauses -/
inductive Clauses (X : Cx) : List ExceptHandler → List (Value × Nat × Sfn) → Prop
  | nil : Clauses X [] []
  | cons {x n : Str} {c : Value} {i : Nat} {f : Sfn} {b0 : Stmt} {bs : List Stmt} {p1 p2 : Pos} {more : List ExceptHandler} {l : List (Value × Nat × Sfn)} (is : Names X x c) (slot : X.N[i]? = some n) (loc : X.env.kindOf n = some .local)
      (suite : ∀ (a : Addr) (oe : Obj) (cls : Value) (d : Option Addr) (pn : List (Addr × Obj)), Zc cls d oe → (∃ vs, oe.data = .fields vs) → PSs (X.suite a ((a, oe) :: pn)) (b0 :: bs) (f a cls d)) (rest : Clauses X more l) :
      Clauses X (.ExceptHandler (some (.Name x p1)) (some n) (b0 :: bs) p2 :: more) ((c, i, f) :: l)
/-- an error that has landed in its frame: at a, its class cls, its dict d; s1 what stands now, s0 what stood where it was raised -/
structure Landed (X : Cx) (pins : List (Addr × Obj)) (τ : L2.St) (G : Hp) (B : Heap) (a : Addr) (cls : Value) (d : Option Addr) (s0 s1 : Shared) : Prop where
  ok : X.Ok
  inv : Inv X pins τ G s0
  stack : X.stack = X.env :: X.outer
  frame : X.env.frame = some X.env.locals
  nb : ∀ b o, s0.heap.get? b = some o → b ∉ frs X.stack → B.get? b = some o
  up : s0.heap.UpToSlots s1.heap
  fly : HandSPX.FlyingZ B (X.env :: X.outer) a (Zc cls d) s1.heap
  na : G a = none
  os : s1.os = s0.os
  ag : AllBare s1.gens
section
variable {X : Cx} {pins : List (Addr × Obj)} {τ : L2.St} {G : Hp} {B : Heap} {a : Addr} {cls : Value} {d : Option Addr} {s0 s1 : Shared}
theorem Landed.now (L : Landed X pins τ G B a cls d s0 s1) : Inv X pins τ G s1 := L.inv.landed L.nb L.fly.1 L.up L.os L.ag
theorem Landed.next (L : Landed X pins τ G B a cls d s0 s1) {h : Heap} (fly : HandSPX.FlyingZ B (X.env :: X.outer) a (Zc cls d) h) (up : s1.heap.UpToSlots h) : Landed X pins τ G B a cls d s0 { s1 with heap := h } :=
  ⟨L.ok, L.inv, L.stack, L.frame, L.nb, L.up.trans up, fly, L.na, L.os, L.ag⟩
/-- it is no frame of those that run -/
theorem Landed.apart (L : Landed X pins τ G B a cls d s0 s1) : ∃ oe vs, s1.heap.get? a = some oe ∧ Zc cls d oe ∧ oe.data = .fields vs ∧ a ≠ X.env.locals ∧ a ∉ X.fs := by
  obtain ⟨oe, vs, e, z, dt⟩ := L.fly.there
  have away : a ∉ frs (X.env :: X.outer) := by
    intro mem
    obtain ⟨_, o2, e2, no⟩ := L.fly.2.2.1.mem mem
    rw [e] at e2
    cases e2
    exact no _ dt
  refine ⟨oe, vs, e, z, dt, ?_, ?_⟩
  · intro same
    refine away (List.mem_filterMap.mpr ⟨X.env, List.mem_cons_self, ?_⟩)
    rw [L.frame, same]
  · intro mem
    obtain ⟨en, m, q⟩ := List.mem_filterMap.mp mem
    exact away (List.mem_filterMap.mpr ⟨en, List.mem_cons_of_mem _ m, q⟩)
/-- no clause is left -/
theorem Landed.out {D : Ends} {W : WX} (L : Landed X pins τ G B a cls d s0 s1) (tk : Takes X W) (w : W cls d τ G) : wpAny (model X.prog X.w) X.A (handleBy (.ref a) X.env []) (SP X pins D) X.xe s1 := by
  have fl := L.fly
  obtain ⟨_, _, _, oe, vs, tb, ob, tt, e, z, dt, first_, _⟩ := id fl
  apply wpAny_handleBy_nil
  unfold PySem.passOn
  apply wpAny_bind
  apply wpAny_field e dt first_
  have no : ¬ ((Value.ref tb == Value.none) = true) := by simp
  rw [if_neg no]
  have last : wpAny (model X.prog X.w) X.A (setFlight (.ref a) X.env.frame) (fun _ s4 => wpAny (model X.prog X.w) X.A (throw (.ref a) : Sem Flow) (SP X pins D) X.xe s4) X.xe s1 := by
    rw [L.frame]
    apply HandSPX.setFlight_upZ fl
    intro h4 held up4
    apply wpAny_throw
    refine tk _ _ ⟨a, B, s0, pins, τ, G, cls, d, rfl, L.inv, L.nb, L.up.trans up4, .inr (.inr ?_), L.na, L.os, L.ag, w⟩
    rw [L.stack]
    exact held
  first
    | exact wpAny_bind (wpAny_pure (wpAny_bind last))
    | exact wpAny_bind last
/-- the class that the clause names -/
theorem Landed.named {x : Str} {c : Value} {p : Pos} (L : Landed X pins τ G B a cls d s0 s1) (is : Names X x c) {Q : Value → Shared → Prop} {E : Value → Shared → Prop} (q : Q c s1) :
    wpAny (model X.prog X.w) (X.A.mark (some (.ref a))) (eval (.Name x p) X.env) Q E s1 := by
  obtain ⟨oe, vs, e, z, dt, n1, n2⟩ := L.apart
  have S := L.now.suite e dt L.na n1 n2
  obtain ⟨g, dbg, own | ⟨none_, blt, nn⟩⟩ := is
  · exact ld_glob (X := X.suite a ((a, oe) :: (X.pn ++ pins))) S g own q dbg
  · exact ld_blt (X := X.suite a ((a, oe) :: (X.pn ++ pins))) S g none_ blt q nn dbg
theorem Landed.clauses {D : Ends} {W : WX} (tk : Takes X W) (nd : X.N.Nodup) : ∀ {hs : List ExceptHandler} {l : List (Value × Nat × Sfn)}, Clauses X hs l → ∀ {s1 : Shared}, Landed X pins τ G B a cls d s0 s1 → wishes X.K W D l cls d τ G →
    wpAny (model X.prog X.w) X.A (handleBy (.ref a) X.env hs) (SP X pins D) X.xe s1 := by
  intro hs l cl
  induction cl with
  | nil => exact fun L w => L.out tk w
  | @cons x n c i f b0 bs p1 p2 more l is slot loc suite rest ih =>
    intro s1 L w
    obtain ⟨hit, asked, yes, no⟩ := w
    obtain ⟨oe, vs, e, z, dt, n1, n2⟩ := L.apart
    apply wpAny_handleBy_cons
    · apply codeAny_handlers_test
      have typ : PySem.W.Looks (model X.prog X.w) s1.heap (typeOf (.ref a)) cls := fun _ _ _ _ keep q => wpAny_typeOf_ref (keep _ _ e) (by rw [z.1]; exact q)
      refine L.named is ((PySem.W.exm_one (M := model X.prog X.w) L.now.kIn typ asked).here ?_)
      cases hit with
      | false => exact ih L (no rfl)
      | true =>
        apply codeAny_handlers_suite_as
        apply HandSPX.lands_againZ L.fly
        intro h4 fly4 up4
        have L4 := L.next fly4 up4
        obtain ⟨oe4, vs4, e4, z4, dt4, m1, m2⟩ := L4.apart
        refine store_ok (X := X.suite a ((a, oe4) :: (X.pn ++ pins))) (v := .ref a) (L4.now.suite e4 dt4 L4.na m1 m2) nd slot (.inl loc) rfl (fun s5 I5 => ?_) (.inr loc)
        refine wpAny_mono ((suite a oe4 cls d (X.pn ++ pins) z4 ⟨_, dt4⟩).run [] s5 _ G _ I5 (yes rfl a L.na)) (fun fl s6 got => ?_) (fun _ _ never => never.elim)
        have close : ∀ {τ6 : L2.St} {G6 : Hp} {Z : Shared → Prop}, Inv (X.suite a ((a, oe4) :: (X.pn ++ pins))) [] τ6 G6 s6 → (∀ s7, Inv X pins (τ6.set i none) G6 s7 → Z s7) →
            wpAny (model X.prog X.w) X.A (do bindName X.env n .none; unbindBehindTheSuite X.env n p2) (fun _ s7 => Z s7) X.xe s6 := fun I6 z7 => gone_ok (I6.unsuite L.ok) nd slot loc z7
        cases fl with
        | ret u =>
          obtain ⟨v6, τ6, G6, I6, rv, q6⟩ := got
          exact close I6 fun s7 I7 => ⟨v6, _, G6, I7, rv, q6⟩
        | next =>
          obtain ⟨τ6, G6, I6, q6⟩ := got
          exact close I6 fun s7 I7 => ⟨_, G6, I7, q6⟩
        | brk =>
          obtain ⟨τ6, G6, I6, q6⟩ := got
          exact close I6 fun s7 I7 => ⟨_, G6, I7, q6⟩
        | cont =>
          obtain ⟨τ6, G6, I6, q6⟩ := got
          exact close I6 fun s7 I7 => ⟨_, G6, I7, q6⟩
    · intro q
      cases q
end
/-- its reading -/
def tTry (K : PySem.W.Frag) (out : WX) (tb : WX → TS) (l : List (Value × Nat × Sfn)) : TS := fun D τ G => tb (wishes K out D l) D τ G
/-- try: body, clauses with names -/
theorem ps_try_named {X : Cx} {body : List Stmt} {c0 : ExceptHandler} {cs : List ExceptHandler} {l : List (Value × Nat × Sfn)} {pos : Pos} {tb : WX → TS} {out : WX} (stk : X.stack = X.env :: X.outer) (fr : X.env.frame = some X.env.locals) (nd : X.N.Nodup) (tk : Takes X out)
    (inner : ∀ (W : WX) (pn : List (Addr × Obj)) (xe : Value → Shared → Prop), Takes (X.tr pn xe) W → PassesOwn (model X.prog X.w) X.A X.env xe → PSs (X.tr pn xe) body (tb W)) (cl : Clauses X (c0 :: cs) l) :
    PS X (.Try body (c0 :: cs) [] [] pos) (tTry X.K out tb l) := by
  constructor
  intro pins s τ G D I h
  have ok := I.ok
  have frames : X.A.frames = some (X.env :: X.outer) := by rw [ok.frames, stk]
  apply wpAny_Try_except
  have caught : Takes (X.tr (X.pn ++ pins) fun e s₁ => wpAny (model X.prog X.w) X.A (noteFrame e X.env) (fun _ s₂ => wpAny (model X.prog X.w) X.A (setFlight e none) (fun _ s₃ => wpAny (model X.prog X.w) X.A (handleBy e X.env (c0 :: cs)) (SP X pins D) X.xe s₃) X.xe s₂) X.xe s₁)
      (wishes X.K out D l) := by
    intro u s1 xx
    obtain ⟨a, B, s0, pins1, τ1, G1, cls, d, rfl, J, nb, up, sky, na, os, ag, w⟩ := xx
    have sky' : Sky B (X.env :: X.outer) a (Zc cls d) X.env.locals s1.heap := by
      rw [← stk]
      exact sky
    apply Sky.land Zc.steady frames fr sky'
    intro h3 fly3 up3
    exact Landed.clauses tk nd cl ⟨ok, J.ofTry ok, stk, fr, nb, up.trans up3, fly3, na, os, ag⟩ w
  refine wpAny_mono ((inner _ _ _ caught PassesOwn.looking).run [] s τ G D (I.toTry _) h) (fun fl s1 got => ?_) (fun _ _ e => e)
  cases fl with
  | ret u =>
    obtain ⟨v, τ1, G1, J, rv, q⟩ := got
    exact ⟨v, τ1, G1, J.ofTry ok, rv, q⟩
  | brk =>
    obtain ⟨τ1, G1, J, q⟩ := got
    exact ⟨τ1, G1, J.ofTry ok, q⟩
  | cont =>
    obtain ⟨τ1, G1, J, q⟩ := got
    exact ⟨τ1, G1, J.ofTry ok, q⟩
  | next =>
    obtain ⟨τ1, G1, J, q⟩ := got
    exact wpAny_execs_nil ⟨τ1, G1, J.ofTry ok, q⟩
end Rm

/-! E4: what is asked of the written part for such errors; the head's facts with a def that has a cell. -/
namespace Rm
open PySem PySem.Spec PyProof.Rows L2
def tailB (C : Addr) : List Value → Bool
  | .ref D :: bm => decide (D = C) && PySem.HandSPX.refsVE bm
  | _ => false
def newB : List (Option Value) → Bool
  | [_, _, _, _, some (.builtin n), _] => decide (n = "ValueError.__new__")
  | _ => false
def clsB (K : PySem.W.Frag) (C : Addr) : Bool := match K.lookup C with
  | some ⟨.type "type", _, .cls cd, sl⟩ => tailB C cd.mro && (newB sl.toList && (!cd.hasDel && cd.hasDict))
  | _ => false
theorem tailB_ok {C : Addr} {l : List Value} (h : tailB C l = true) : ∃ bm, l = .ref C :: bm ∧ PySem.HandSPX.refsVE bm = true := by
  unfold tailB at h
  split at h
  · obtain ⟨e, q⟩ := He.ba h
    have e := of_decide_eq_true e
    subst e
    exact ⟨_, rfl, q⟩
  · cases h
theorem newB_ok {l : List (Option Value)} (h : newB l = true) : ∃ k0 k1 k2 k3 k5, l = [k0, k1, k2, k3, some (.builtin "ValueError.__new__"), k5] := by
  unfold newB at h
  split at h
  · have e := of_decide_eq_true h
    subst e
    exact ⟨_, _, _, _, _, rfl⟩
  · cases h
theorem clsB_ok {K : PySem.W.Frag} {C : Addr} (h : clsB K C = true) : ∃ nm q N bs bm sn sub ab col dd k0 k1 k2 k3 k5, K.lookup C = some (excClassObj nm q C N bs bm true sn sub ab col dd k0 k1 k2 k3 k5 "ValueError.__new__") ∧ PySem.HandSPX.refsVE bm = true := by
  unfold clsB at h
  split at h
  · rename_i dd cd sl look
    obtain ⟨h1, h⟩ := He.ba h
    obtain ⟨h2, h⟩ := He.ba h
    obtain ⟨h3, h4⟩ := He.ba h
    obtain ⟨bm, e1, tail⟩ := tailB_ok h1
    obtain ⟨k0, k1, k2, k3, k5, e2⟩ := newB_ok h2
    obtain ⟨nm, bs, mro, ns, qn, hd, sn, sub, ab, col, del⟩ := cd
    obtain ⟨sll⟩ := sl
    dsimp only at e1 e2 h3 h4
    subst e1 e2 h4
    have e3 : del = false := by simpa using h3
    subst e3
    exact ⟨nm, qn, ns, bs, bm, sn, sub, ab, col, dd, k0, k1, k2, k3, k5, look, tail⟩
  · cases h
/-- the def with a cell -/
abbrev CelW : Type := Option (Str × Str × Arguments × FuncBody × Scope × Addr × List Str × Addr)
def celW (K : PySem.W.Frag) (f : Addr) : CelW := match K.lookup f with
  | some ⟨_, _, .func fd, _⟩ => some (fd.name, fd.qualname, fd.params, fd.body, fd.scope, fd.globals, fd.closure.map (·.1), fd.builtins)
  | _ => none
def celV (name qual : Str) (st : Stmt) : CelW := some (name, qual, defArgs st, .stmts (defBody st), defScope st, mainGlobals, ["__class__"], builtinsNs)
def codB (K : PySem.W.Frag) (file : Str) : Value → Bool
  | .ref c => (match K.lookup c with
    | some ⟨_, _, .fields vs, _⟩ => (match (vs[2]? : Option Value) with
      | some (Value.str z _) => decide (z = file)
      | _ => false)
    | _ => false)
  | _ => false
theorem codB_ok {K : PySem.W.Frag} {file : Str} {v : Value} (h : codB K file v = true) : ∃ c oc od vs sl t, v = .ref c ∧ K.lookup c = some ⟨oc, od, .fields vs, sl⟩ ∧ vs[2]? = some (.str file t) := by
  unfold codB at h
  split at h
  · split at h
    · rename_i look
      split at h
      · rename_i e
        have z := of_decide_eq_true h
        subst z
        exact ⟨_, _, _, _, _, _, rfl, look, e⟩
      · cases h
    · cases h
  · cases h
def ownB (K : PySem.W.Frag) (C : Addr) : List (Str × Addr) → Bool
  | [(_, cc)] => (match K.lookup cc with
    | some ⟨_, _, .cell (some (.ref D)), _⟩ => (PySem.W.clsIn K D).isSome && (decide (PySem.W.mroIn K C (.ref D) = some true) && decide (PySem.W.ks_superIn K C D "__init__" = some (some (.builtin "ValueError.__init__"))))
    | _ => false)
  | _ => false
theorem ownB_ok {K : PySem.W.Frag} {C : Addr} {l : List (Str × Addr)} (h : ownB K C l = true) : ∃ x cc oc od sl D cd, l = [(x, cc)] ∧ K.lookup cc = some ⟨oc, od, .cell (some (.ref D)), sl⟩ ∧ PySem.W.clsIn K D = some cd ∧ PySem.W.mroIn K C (.ref D) = some true ∧
    PySem.W.ks_superIn K C D "__init__" = some (some (.builtin "ValueError.__init__")) := by
  unfold ownB at h
  split at h
  · split at h
    · rename_i look
      obtain ⟨h1, h⟩ := He.ba h
      obtain ⟨h2, h3⟩ := He.ba h
      obtain ⟨cd, e⟩ := Option.isSome_iff_exists.mp h1
      exact ⟨_, _, _, _, _, _, cd, rfl, look, e, of_decide_eq_true h2, of_decide_eq_true h3⟩
    · cases h
  · cases h
def noneB : Value → Bool
  | .none => true
  | _ => false
theorem noneB_ok {v : Value} (h : noneB v = true) : v = .none := by
  unfold noneB at h
  split at h
  · rfl
  · cases h
/-- what is asked of the class at C and of its __init__ -/
def errB (K : PySem.W.Frag) (file : Str) (C : Addr) : Bool :=
  clsB K C && (decide (PySem.W.findIn K (.ref C) "__setattr__" = some (some (.builtin "object.__setattr__"))) && (decide (PySem.W.subIn K (.ref C) (.type "BaseException") = some true) && (decide (PySem.W.typeIn K (.ref C) = some (.type "type")) && (PySem.W.keepIn K (.ref C) &&
  (decide (PySem.W.findIn K (.ref C) "row" = some none) && (decide (PySem.W.findIn K (.ref C) "column" = some none) && (decide (PySem.W.subIn K (.ref C) (.type "ValueError") = some true) && (decide (PySem.W.nsIn K mainGlobals "super" = some none) &&
  (decide (PySem.W.nsIn K cStatics "thirdparty.any" = some none) && (decide (PySem.W.findIn K (.ref C) "__init__" = some (some (.ref (He.ma K C "__init__")))) && (decide (PySem.W.typeIn K (.ref (He.ma K C "__init__")) = some (.type "function")) &&
  (match K.lookup (He.ma K C "__init__") with
    | some ⟨_, _, .func fd, _⟩ => noneB fd.defaults && (PySem.W.codeIn K fd.code fd.qualname && (codB K file fd.code && ownB K C fd.closure))
    | _ => false))))))))))))
/-- its class asked -/
def excB (K : PySem.W.Frag) (C : Addr) : Bool :=
  decide (PySem.W.findIn K (.ref C) "__getattribute__" = some (some (.builtin "BaseException.__getattribute__"))) && (decide (PySem.W.findIn K (.ref C) "__getattr__" = some none) && (decide (PySem.W.subIn K (.ref C) (.type "BaseException") = some true) && (PySem.W.hasDictIn K C &&
  (decide (PySem.W.findIn K (.ref C) "__class__" = some (some (.builtin "object.__class__"))) && (decide (PySem.W.specialIn K (.builtin "object.__class__") "__get__" = some (some (.builtin "getset_descriptor.__get__"))) &&
  (decide (PySem.W.takesIn K (.builtin "object.__class__") = some true) && decide (PySem.W.mroIn K C (.type "object") = some true)))))))
theorem excB_ok {K : PySem.W.Frag} {C : Addr} (h : excB K C = true) : ExcC K C := by
  obtain ⟨h1, h⟩ := He.ba h
  obtain ⟨h2, h⟩ := He.ba h
  obtain ⟨h3, h⟩ := He.ba h
  obtain ⟨h4, h⟩ := He.ba h
  obtain ⟨h5, h⟩ := He.ba h
  obtain ⟨h6, h⟩ := He.ba h
  obtain ⟨h7, h8⟩ := He.ba h
  exact ⟨of_decide_eq_true h1, of_decide_eq_true h2, of_decide_eq_true h3, h4, of_decide_eq_true h5, of_decide_eq_true h6, of_decide_eq_true h7, of_decide_eq_true h8⟩
theorem xf_of {K : PySem.W.Frag} {C : Addr} (T : ExcC K C) : XfC K C := ⟨T.hg, T.hk, T.hs, T.hd⟩
/-- the text of __init__, as it is written -/
def TeIs (st : Stmt) : Prop := ∃ (p1 p2 p3 a1 a2 a3 b1 b2 b3 c1 c2 d1 d2 e1 e2 f1 f2 f3 f4 g1 g2 g3 g4 : Pos) (k1 k2 : Nat), defArgs st = teA p1 p2 p3 ∧ defBody st = teB a1 a2 a3 b1 b2 b3 c1 c2 d1 d2 e1 e2 f1 f2 f3 f4 g1 g2 g3 g4 k1 k2 ∧ defScope st = teS ∧ (a3.endLine == e1.line) = true
theorem errB_ok {P : Program} {K : PySem.W.Frag} {file : Str} {C : Addr} {st : Stmt} (h : errB K file C = true) (e : celW K (He.ma K C "__init__") = celV "__init__" "TextError.__init__" st) (te : TeIs st) (top : (P.main.scope.names.lookup ("super" : Str)).isSome = false) (pf : ((P.main.file : Str) == file) = true) : ErrK P K C := by
  obtain ⟨h1, h⟩ := He.ba h
  obtain ⟨h2, h⟩ := He.ba h
  obtain ⟨h3, h⟩ := He.ba h
  obtain ⟨h4, h⟩ := He.ba h
  obtain ⟨h5, h⟩ := He.ba h
  obtain ⟨h6, h⟩ := He.ba h
  obtain ⟨h7, h⟩ := He.ba h
  obtain ⟨h8, h⟩ := He.ba h
  obtain ⟨h9, h⟩ := He.ba h
  obtain ⟨h10, h⟩ := He.ba h
  obtain ⟨h11, h⟩ := He.ba h
  obtain ⟨h12, h⟩ := He.ba h
  refine ⟨⟨clsB_ok h1, of_decide_eq_true h2, of_decide_eq_true h3, of_decide_eq_true h4, h5⟩, of_decide_eq_true h6, of_decide_eq_true h7, of_decide_eq_true h8, of_decide_eq_true h9, of_decide_eq_true h10, top, ?_⟩
  obtain ⟨p1, p2, p3, a1, a2, a3, b1, b2, b3, c1, c2, d1, d2, e1, e2, f1, f2, f3, f4, g1, g2, g3, g4, k1, k2, t1, t2, t3, t4⟩ := te
  unfold celW celV at e
  split at h
  · rename_i oc od fd osl look
    rw [look] at e
    obtain ⟨q1, h⟩ := He.ba h
    obtain ⟨q2, h⟩ := He.ba h
    obtain ⟨q3, q4⟩ := He.ba h
    obtain ⟨n1, n2, n3, n4, n5, n6, n7, n8, n9, n10, n11, n12, n13, n14, n15⟩ := fd
    have e' : (some (n1, n2, n3, n4, n5, n6, n7.map (·.1), n15) : CelW) = some (("__init__" : Str), ("TextError.__init__" : Str), defArgs st, FuncBody.stmts (defBody st), defScope st, mainGlobals, [("__class__" : Str)], builtinsNs) := e
    simp only [Option.some.injEq, Prod.mk.injEq] at e'
    obtain ⟨m1, m2, m3, m4, m5, m6, m7, m8⟩ := e'
    dsimp only at q1 q2 q3 q4
    obtain ⟨x, cc, oce, ode, ose, D, cd, l1, l2, l3, l4, l5⟩ := ownB_ok q4
    obtain ⟨c, ocd, odd, vs, osd, tt, v1, v2, v3⟩ := codB_ok q3
    have q0 := noneB_ok q1
    subst l1
    have m7' : x = "__class__" := by simpa using m7
    rw [t1] at m3
    rw [t2] at m4
    rw [t3] at m5
    subst m1 m2 m3 m4 m5 m6 m7' m8 v1 q0
    exact ⟨D, cc, c, _, oc, ocd, oce, od, odd, ode, osl, osd, ose, cd, vs, file, tt, .none, n9, n10, n11, n14, n12, p1, p2, p3, a1, a2, a3, b1, b2, b3, c1, c2, d1, d2, e1, e2, f1, f2, f3, f4, g1, g2, g3, g4, k1, k2, t4, of_decide_eq_true h11, of_decide_eq_true h12, look, q2, v2, v3, pf, l2, l3, l4, l5⟩
  · cases h
end Rm

/-! D1: dicts of the module with texts as keys: what is at a key, there or not; a def that a slot holds, called, with what it lets out. -/
namespace Rm
open PySem PySem.Spec PyProof.Rows L2
/-- entries, one by one -/
inductive Ents (w : World) : List DictEntry → List (Str × V) → Prop
  | nil : Ents w [] []
  | cons {e : DictEntry} {x : Str} {t : Tok} {v : V} {es : List DictEntry} {l : List (Str × V)} (k : e.key = .str x t) (h : e.hash = PyData.keyHash w.params x) (r : RelV v e.val) (m : Ents w es l) : Ents w (e :: es) ((x, v) :: l)
/-- the dict at a holds just l -/
def KD (K : PySem.W.Frag) (w : World) (a : Addr) (l : List (Str × V)) : Prop := ∃ es n, K.lookup a = some ⟨.type "dict", none, .dict es n, #[]⟩ ∧ Ents w es.toList l ∧ (a == sysModules) = false
theorem Ents.lit {w : World} : ∀ {es : List DictEntry} {l : List (Str × V)}, Ents w es l → PySem.W.KeysLit w.params es
  | _, _, .nil => True.intro
  | _, _, .cons k h _ m => ⟨⟨_, _, k, h⟩, m.lit⟩
theorem Ents.find {w : World} {z : Str} : ∀ {es : List DictEntry} {l : List (Str × V)}, Ents w es l → RelO (l.lookup z) ((es.find? fun e => Value.isStrOf z e.key).map (·.val))
  | _, _, .nil => True.intro
  | _, _, .cons (e := e) (x := x) (t := t) (v := v) (es := es) (l := l) k h r m => by
    rw [List.find?_cons, k]
    have q : Value.isStrOf z (.str x t) = decide (x = z) := by
      by_cases hz : x = z <;> simp [Value.isStrOf, hz]
    rw [q]
    by_cases hz : x = z
    · subst hz
      rw [decide_eq_true rfl, show ((x, v) :: l).lookup x = some v by simp [List.lookup]]
      exact r
    · rw [decide_eq_false hz]
      have e2 : (z == x) = false := by
        simpa using fun y => hz y.symm
      rw [show ((x, v) :: l).lookup z = l.lookup z by simp [List.lookup, e2]]
      exact m.find
theorem KD.map {X : Cx} {pins : List (Addr × Obj)} {σ : L2.St} {H : Hp} {s : Shared} {a : Addr} {l : List (Str × V)} (I : Inv X pins σ H s) (d : KD X.K X.w a l) :
    ∃ f : Str → Option Value, s.heap.MapOf (strKind X.prog X.w) a f ∧ (a == sysModules) = false ∧ ∀ z, RelO (l.lookup z) (f z) := by
  obtain ⟨es, n, hl, ent, na⟩ := d
  refine ⟨_, PySem.W.mapOf_K (prog := X.prog) (w := X.w) I.kIn hl ent.lit, na, fun z => ?_⟩
  have q := ent.find (z := z)
  obtain ⟨es⟩ := es
  show RelO _ (((⟨es⟩ : Array DictEntry).find? fun e => Value.isStrOf z e.key).map (·.val))
  rw [List.find?_toArray]
  exact q
/-- d.get(e, f) -/
def tKGet2 (K : PySem.W.Frag) (w : World) (td ty tx : TE) : TE := fun σ H Q => td σ H fun x H1 => ∃ a l, x = .ref a ∧ KD K w a l ∧ ty σ H1 fun y H2 => tx σ H2 fun z H3 => ∃ k, y = .str k ∧ Q ((l.lookup k).getD z) H3
/-- e in d -/
def tKIn (K : PySem.W.Frag) (w : World) (ty td : TE) : TE := fun σ H Q => ty σ H fun y H1 => td σ H1 fun x H2 => ∃ a l k, x = .ref a ∧ y = .str k ∧ KD K w a l ∧ Q (.bl (l.lookup k).isSome) H2
/-- d[e], there -/
def rKIx (K : PySem.W.Frag) (w : World) : R2 := fun x y H Q => ∃ a l k v, x = .ref a ∧ y = .str k ∧ KD K w a l ∧ l.lookup k = some v ∧ Q v H
section
variable {X : Cx} {o e f : Expr} {apos cpos : Pos} {td ty tx : TE}
theorem pe_kget2 (ho : PE X o td) (he : PE X e ty) (hf : PE X f tx) (m : M2 X o "get" apos e f cpos) : PE X (.Call (.Attribute o "get" apos) [e, f] [] cpos) (tKGet2 X.K X.w td ty tx) := by
  constructor
  intro pins s σ H Q I h
  apply wpAny_Call_method m.base m.few m.line PySem.F.plainAttrs_dict PySem.F.slot_dict_get PySem.F.type_dict_get
  refine thn (ho.run pins s σ H _ I h) fun u s1 hh => ?_
  obtain ⟨x, H1, I1, rx, a, l, ex, d, q1⟩ := hh
  subst ex
  obtain rfl : u = Value.ref a := rx
  obtain ⟨fn, mp, na, rel⟩ := d.map I1
  refine ⟨mp.typeIs, fun b q => ?_, ?_⟩
  · cases q
    obtain ⟨_, _, _, h1, h2, _⟩ := mp
    exact ⟨_, h1, h2.2.1⟩
  rw [m.trees]
  apply Calls.callWith_builtin rfl
  apply Calls.evalArgs_plain
  refine Calls.spliced_cons (thn (he.run pins s1 σ H1 _ I1 q1) fun iv s2 h2 => ?_)
  obtain ⟨y, H2, I2, ry, q2⟩ := h2
  refine Calls.spliced_cons (thn (hf.run pins s2 σ H2 _ I2 q2) fun fv s3 h3 => Calls.spliced_nil ?_)
  obtain ⟨z, H3, I3, rz, k, ey, q3⟩ := h3
  subst ey
  obtain ⟨t, rfl⟩ := ry
  obtain ⟨fn, mp, na, rel⟩ := d.map I3
  refine call_meetsIn PySem.F.slot_dict_get mp.typeIs PySem.F.entry_dict_get (PySem.F.args_dict_get_3 _ _ _) (meets_dict_get_default (strKind X.prog X.w) a (strKind_is X.prog X.w k t) na fv) ⟨fn, mp, ?_⟩
  exact ⟨_, H3, I3.tok _, (rel k).getD rz, q3⟩
theorem pc_kin (hi : PE X e ty) (ho : PE X o td) : PC X .In e o (tKIn X.K X.w ty td) := by
  constructor
  intro pins s σ H Q I h
  refine thn (hi.run pins s σ H _ I h) fun iv s1 h1 => ?_
  obtain ⟨y, H1, I1, ry, q1⟩ := h1
  refine thn (ho.run pins s1 σ H1 _ I1 q1) fun u s2 h2 => ?_
  obtain ⟨x, H2, I2, rx, a, l, k, ex, ey, d, q2⟩ := h2
  subst ex ey
  obtain rfl : u = Value.ref a := rx
  obtain ⟨t, rfl⟩ := ry
  obtain ⟨fn, mp, na, rel⟩ := d.map I2
  refine wpAny_in_of (strKind_is X.prog X.w k t) na mp ?_
  rw [← (rel k).isSome_eq]
  exact ⟨.bl (l.lookup k).isSome, H2, I2.tok _, rfl, q2⟩
theorem ix_kd : IxR X (rKIx X.K X.w) := by
  intro value slice pins s σ H x y v u Q I rx ry h hs
  obtain ⟨a, l, k, r, rfl, rfl, d, lk, q⟩ := h
  obtain rfl : v = Value.ref a := rx
  obtain ⟨t, rfl⟩ := ry
  obtain ⟨fn, mp, na, rel⟩ := d.map I
  obtain ⟨w', e1, e2⟩ := RelO.some_of (v := r) (o := fn k) (by rw [← lk]; exact rel k)
  exact tail_any mp.typeIs slot_dict_getitem.lookup (wpAny_getItem_of (strKind_is X.prog X.w k t) mp e1 ⟨r, H, I.tok _, e2, q⟩) hs
end
/-! ### the def that a slot holds -/
def tCallP (i : Nat) (S : Addr → Sp → Prop) (E : XK) (t : TA) : TE := fun σ H Q => ∃ f sp, σ[i]? = some (some (.ref f)) ∧ S f sp ∧ t σ H fun vs H1 => sp vs H1 Q E
theorem pe_callP {X : Cx} {k i : Nat} {S : Addr → Sp → Prop} {E : XK} {x : Str} {p pos : Pos} {e : Expr} {es : List Expr} {t : TA} (A : ∀ f sp, S f sp → ∃ fd ps, Def X.prog X.w X.K X.mg X.base k f fd ps sp) (hr : Room k X.A) (hN : X.N[i]? = some x) (hv : Vis X.env.scope x) (hx : Passes (L2.CX X.prog X.w) X E) (ha : PA X (e :: es) t)
    (hdb : (x == ("__debug__" : Str)) = false := by decide) (hcd : (x == ("__classdict__" : Str)) = false := by decide)
    (he : starEach (e :: es) X.env = (false, eval e X.env) :: starEach es X.env := by rfl) (hpl : (backTo pos (starEach es X.env)).any (·.1) = false := by rfl) : PE X (.Call (.Name x p) (e :: es) [] pos) (tCallP i S E t) := by
  constructor
  intro pins s σ H Q I h
  obtain ⟨f, sp, hs, hS, ht⟩ := h
  obtain ⟨fd, ps, D⟩ := A f sp hS
  refine (pe_callL (i := i) (f := f) (sp := sp) (dvs := []) (E := E) D.fn hr hN hv D.kp D.bd .nil hx ha hdb hcd he hpl).run pins s σ H Q I ⟨hs, ?_⟩
  have same : (fun (vs : List V) (H1 : Hp) => sp (vs ++ []) H1 Q E) = fun vs H1 => sp vs H1 Q E := funext fun vs => funext fun H1 => by rw [List.append_nil]
  show t σ H (fun vs H1 => sp (vs ++ []) H1 Q E)
  rw [same]
  exact ht
end Rm
namespace Rm
open PySem PySem.Spec PyProof.Rows L2
theorem Def.mono {P : Program} {w : World} {K : PySem.W.Frag} {mg : Str → Option Value} {base : Heap} {j k : Nat} {f : Addr} {fd : FuncData} {ps : List Str} {sp : Sp} (D : Def P w K mg base j f fd ps sp) (h : j ≤ k) : Def P w K mg base k f fd ps sp := ⟨D.fn.mono h, D.bd, D.kp⟩
/-- a promise that holds of nothing -/
theorem Def.never {P : Program} {w : World} {K : PySem.W.Frag} {mg : Str → Option Value} {base : Heap} {k : Nat} {f : Addr} {fd : FuncData} {ps : List Str} {sp : Sp} (no : ∀ vs H Q E, sp vs H Q E → False) (bd : Binds K fd ps []) (kp : PySem.W.keepIn K (.ref f) = true) : Def P w K mg base k f fd ps sp :=
  ⟨⟨fun vs H Q E h => (no vs H Q E h).elim, fun _ _ _ H _ _ vs Q E _ _ _ _ h => (no vs H Q E h).elim⟩, bd, kp⟩
end Rm

/-! HG: the head's facts: a Hook with one more Bool. -/
namespace Rm
open PySem PySem.Spec PyProof.Rows L2
/-! a dict of the module: keys, values, hashes (these hang on the world) -/
def entB (K : PySem.W.Frag) : List DictEntry → List (Str × He.Dv) → Bool
  | [], [] => true
  | ⟨_, .str z _, u⟩ :: es, (x, v) :: l => decide (z = x) && (He.relB (v.v K) u && entB K es l)
  | _, _ => false
def emB : List (Option Value) → Bool
  | [] => true
  | _ => false
def dicB (K : PySem.W.Frag) (x : Str) (l : List (Str × He.Dv)) : Bool := match K.lookup (He.ga K x) with
  | some ⟨.type "dict", none, .dict es _, sl⟩ => emB sl.toList && (!(He.ga K x == sysModules) && entB K es.toList l)
  | _ => false
def hasW (K : PySem.W.Frag) (x : Str) : List Int := match K.lookup (He.ga K x) with
  | some ⟨_, _, .dict es _, _⟩ => es.toList.map (·.hash)
  | _ => []
abbrev DcL : Type := List (Str × List (Str × He.Dv))
def valH (w : World) (d : Str × List (Str × He.Dv)) : List Int := d.2.map fun e => PyData.keyHash w.params e.1
theorem ents_ok {K : PySem.W.Frag} {w : World} : ∀ {es : List DictEntry} {l : List (Str × He.Dv)}, entB K es l = true → es.map (·.hash) = l.map (fun e => PyData.keyHash w.params e.1) → Ents w es (l.map fun e => (e.1, e.2.v K))
  | [], [], _, _ => .nil
  | ⟨h, .str z t, u⟩ :: es, (x, v) :: l, b, e => by
    have b : (decide (z = x) && (He.relB (v.v K) u && entB K es l)) = true := b
    obtain ⟨b1, b⟩ := He.ba b
    obtain ⟨b2, b3⟩ := He.ba b
    have b1 := of_decide_eq_true b1
    subst b1
    rw [List.map_cons, List.map_cons] at e
    obtain ⟨e1, e2⟩ := List.cons.inj e
    exact .cons rfl e1 (He.relB_ok b2) (ents_ok b3 e2)
theorem dicB_ok {K : PySem.W.Frag} {w : World} {x : Str} {l : List (Str × He.Dv)} (b : dicB K x l = true) (e : hasW K x = valH w (x, l)) : KD K w (He.ga K x) (l.map fun e => (e.1, e.2.v K)) := by
  unfold dicB at b
  unfold hasW at e
  split at b
  · rename_i es n sl look
    rw [look] at e
    obtain ⟨b1, b⟩ := He.ba b
    obtain ⟨b2, b3⟩ := He.ba b
    obtain ⟨sll⟩ := sl
    cases sll with
    | nil => exact ⟨es, _, look, ents_ok b3 e, by simpa using b2⟩
    | cons _ _ => cases b1
  · cases b
abbrev AlG : Type := Bool × List He.FnW × List CelW × List (List Int)
def obsG (fa : List He.Fa) (fn : List He.DefD) (ce : List (Str × CelW)) (dc : DcL) (ex : PySem.W.Frag → Bool) (K : PySem.W.Frag) : AlG := ((fa.all fun f => f.ok K) && ((fn.all fun d => d.ok K) && ex K), fn.map (fun d => He.fnW K d.at_), ce.map (fun c => celW K (He.ma K (He.ga K c.1) "__init__")), dc.map fun d => hasW K d.1)
def valG (fn : List He.DefD) (ce : List (Str × CelW)) (dc : DcL) (w : World) : AlG := (true, fn.map He.DefD.val, ce.map (·.2), dc.map (valH w))
def SaysG (fa : List He.Fa) (fn : List He.DefD) (ce : List (Str × CelW)) (dc : DcL) (ex : PySem.W.Frag → Bool) (w : World) (K : PySem.W.Frag) : Prop := obsG fa fn ce dc ex K = valG fn ce dc w
def obsGG (n : Nat) (fa : List He.Fa) (fn : List He.DefD) (ce : List (Str × CelW)) (dc : DcL) (ex : PySem.W.Frag → Bool) (g : Addr → Option Obj) : AlG := obsG fa fn ce dc ex (He.frG g (cStatics :: He.asD g n))
def hookG (n : Nat) (fa : List He.Fa) (fn : List He.DefD) (ce : List (Str × CelW)) (dc : DcL) (ex : PySem.W.Frag → Bool) : PySem.W.Hook where
  α := AlG
  obs := fun s => obsGG n fa fn ce dc ex s.heap.get?
  val := fun w => valG fn ce dc w
  says := fun w h => ∃ K : PySem.W.Frag, K.In h ∧ SaysG fa fn ce dc ex w K
  of := fun _ _ e => ⟨_, He.frG_in, e⟩
  keeps := fun _ _ _ ⟨K, hK, c⟩ k => ⟨K, PySem.W.Frag.In.keeps hK k, c⟩
theorem obsGG_eq {n : Nat} {fa : List He.Fa} {fn : List He.DefD} {ce : List (Str × CelW)} {dc : DcL} {ex : PySem.W.Frag → Bool} {g : Addr → Option Obj} {s : Shared} (h : ∀ a, g a = s.heap.get? a) : obsGG n fa fn ce dc ex g = (hookG n fa fn ce dc ex).obs s := by
  have e : g = s.heap.get? := funext h
  rw [e] <;> rfl
section
variable {fa : List He.Fa} {fn : List He.DefD} {ce : List (Str × CelW)} {dc : DcL} {w : World} {ex : PySem.W.Frag → Bool} {K : PySem.W.Frag}
theorem SaysG.fact (c : SaysG fa fn ce dc ex w K) (i : Nat) {f : He.Fa} (h : fa[i]? = some f := by rfl) : f.ok K = true := by
  have c1 := (He.ba (show ((fa.all fun f => f.ok K) && ((fn.all fun d => d.ok K) && ex K)) = true from congrArg (fun z : AlG => z.1) c)).1
  exact List.all_eq_true.mp c1 f (List.mem_of_getElem? h)
theorem SaysG.more (c : SaysG fa fn ce dc ex w K) : ex K = true :=
  (He.ba (He.ba (show ((fa.all fun f => f.ok K) && ((fn.all fun d => d.ok K) && ex K)) = true from congrArg (fun z : AlG => z.1) c)).2).2
theorem SaysG.def_ (c : SaysG fa fn ce dc ex w K) (i : Nat) {d : He.DefD} (h : fn[i]? = some d := by rfl) : ∃ fd, FunD K d.name d.qual d.params d.body d.scope (d.dvs K) (d.kws K) (He.fAd K d.at_) fd := by
  have c2 := (He.ba (He.ba (show ((fa.all fun f => f.ok K) && ((fn.all fun d => d.ok K) && ex K)) = true from congrArg (fun z : AlG => z.1) c)).2).1
  have e : fn.map (fun d => He.fnW K d.at_) = fn.map He.DefD.val := congrArg (fun z : AlG => z.2.1) c
  have e2 : (fn.map fun d => He.fnW K d.at_)[i]? = (fn.map He.DefD.val)[i]? := by rw [e]
  rw [List.getElem?_map, List.getElem?_map, h] at e2
  exact He.DefD.funD (Option.some.inj e2) (List.all_eq_true.mp c2 d (List.mem_of_getElem? h))
theorem SaysG.dic (c : SaysG fa fn ce dc ex w K) (i : Nat) {d : Str × List (Str × He.Dv)} (h : dc[i]? = some d := by rfl) : hasW K d.1 = valH w d := by
  have e : dc.map (fun d => hasW K d.1) = dc.map (valH w) := congrArg (fun z : AlG => z.2.2.2) c
  have e2 : (dc.map fun d => hasW K d.1)[i]? = (dc.map (valH w))[i]? := by rw [e]
  rw [List.getElem?_map, List.getElem?_map, h] at e2
  exact Option.some.inj e2
theorem SaysG.cel (c : SaysG fa fn ce dc ex w K) (i : Nat) {d : Str × CelW} (h : ce[i]? = some d := by rfl) : celW K (He.ma K (He.ga K d.1) "__init__") = d.2 := by
  have e : ce.map (fun c => celW K (He.ma K (He.ga K c.1) "__init__")) = ce.map (·.2) := congrArg (fun z : AlG => z.2.2.1) c
  have e2 : (ce.map fun c => celW K (He.ma K (He.ga K c.1) "__init__"))[i]? = (ce.map (·.2))[i]? := by rw [e]
  rw [List.getElem?_map, List.getElem?_map, h] at e2
  exact Option.some.inj e2
end
/-- a law's end where callees may let out: what is let out at the law itself is nothing -/
theorem no_out {P : Program} {w : World} (H : Hp) (s : Shared) (v : Value) (t : Shared) (h : L2.CX P w [] H s (fun _ _ _ => False) v t) : False := by
  obtain ⟨_, _, _, _, _, _, _, _, _, _, _, _, z⟩ := h
  exact z
theorem walk_law {l : PySem.W.OpenLaw} {x : Str} {n k : Nat} {q : Program} {d : DefRec} {loose : List Str} {Xp : (Str → Option Value) → Heap → Prop} {Yp : World → Heap → Prop}
    (most : l.most = some n) (small : n ≤ sizeLine) (nodf : d.params.defaults = []) (room : Room k callerA)
    (got : ∀ (w : World) (mg : Str → Option Value) (fa : Addr) (h : Heap), Yp w h → h.Ns mainGlobals mg → mg d.name = some (.ref fa) →
      ∃ (K : PySem.W.Frag) (fd : FuncData) (sp : Sp), K.In h ∧ (∀ (s : Shared) (u : Value), BindsTo s fd ⟨[u], []⟩ [(x, u)]) ∧
        (∀ (H : Hp) (a : Addr) (ns : List Int), ns.length ≤ n → Only H → SqL K H a (ns.map V.int) → sp [.ref a] H (fun v _ => v = .bl true) fun _ _ _ => False) ∧
        ∀ base : Heap, K.In base → base.Ns mainGlobals mg → FnOk l.prog w K mg base (L2.CX l.prog w) k fa fd [x] sp) :
    PySem.W.WalkO q loose Xp Yp l.row.toRowW d [] (fun f vs => PySem.call f vs) := by
  apply Att.attach_call most nodf
  intro w s0 s1 mg mb fa ob pm cd doc a vs ns Gr Yw ho hd hcd hmg hobj hints hlen hgens
  obtain ⟨K, fd, sp, KX, bind, wish, fok⟩ := got w mg fa _ Yw Gr.T.g hmg
  exact law_call KX Gr.T.g Gr.T.b Gr.T.builtins Gr.T.nolimit hgens hobj hints (Nat.le_trans hlen small) room fok bind (fun H only sq => wish H a ns hlen only sq) fun H v t => no_out H s1 v t
/-- further facts, one behind another -/
def allOf (l : List (PySem.W.Frag → Bool)) (K : PySem.W.Frag) : Bool := l.all fun f => f K
theorem allOf_at {l : List (PySem.W.Frag → Bool)} {K : PySem.W.Frag} (c : allOf l K = true) (i : Nat) {f : PySem.W.Frag → Bool} (h : l[i]? = some f) : f K = true := List.all_eq_true.mp c f (List.mem_of_getElem? h)
/-- nothing is let out -/
def EW0 : EWT := fun _ _ _ _ _ => False
/-- a tuple of written texts -/
def tupS (K : PySem.W.Frag) (x : Str) (ss : List String) : Bool := He.tupB K x (ss.map fun s => .str (Str.ofString s))
theorem tupS_ok {K : PySem.W.Frag} {x : Str} {ss : List String} (h : tupS K x ss = true) (H : Hp) : SqT K H (He.ga K x) ((ss.map Lx.codes).map fun k => V.str (Tx k)) := by
  have q := He.tupB_ok h H
  rw [List.map_map] at q
  rw [List.map_map]
  have e : (ss.map (He.Dv.v K ∘ fun s => He.Dv.str (Str.ofString s))) = ss.map ((fun k => V.str (Tx k)) ∘ Lx.codes) := List.map_congr_left fun s _ => mS_eq s
  rw [← e]
  exact q
end Rm

/-! E5: an own error whose __init__ tells an index by super().__init__(f'..'). -/
namespace Rm
open PySem PySem.W PySem.Calls PyProof.Rows PySem.HandSPX
/-! ### the text of __init__ -/
def tiA (p1 p2 : Pos) : Arguments := { posonlyargs := [], args := [{ arg := "self", annotation := none, pos := p1 }, { arg := "index", annotation := none, pos := p2 }], vararg := none, kwonlyargs := [], kw_defaults := [], kwarg := none, defaults := [] }
def tiB (a1 a2 a3 b1 b3 c1 c2 e1 e2 f1 f2 f3 f4 : Pos) (k1 : Nat) : List Stmt :=
  [.Expr (.Call (.Attribute (.Call (.Name "super" a1) [] [] a2) "__init__" a3) [.JoinedStr [.Constant (.str "code ") k1 b1, .FormattedValue (.Name "index" c1) (-1) none c2] b3] [] e1) e2,
   .Assign [.Attribute (.Name "self" f1) "index" f2] (.Name "index" f3) f4]
def tiS : Scope := { kind := .function, names := [(PySem.Str.ofString "self", .local), (PySem.Str.ofString "index", .local), (PySem.Str.ofString "__class__", .free), (PySem.Str.ofString "super", .globalImplicit)], isGenerator := false, isCoroutine := false, more := [] }
/-- what the written part tells of the class at C, whose __init__, at fI, is written in the class at D -/
structure ErrI (P : Program) (K : Frag) (C : Addr) : Prop where
  oex : L2.OexC K C
  nr : findIn K (.ref C) "index" = some none
  vE : subIn K (.ref C) (.type "ValueError") = some true
  sup : nsIn K mainGlobals "super" = some none
  tp : nsIn K cStatics "thirdparty.any" = some none
  top : (P.main.scope.names.lookup ("super" : Str)).isSome = false
  fn : ∃ (D cc cda fI : Addr) (oc ocd oce : Value) (od odd ode : Option Addr) (osl osd ose : Array (Option Value)) (cdD : ClassData) (vs : Array Value) (file : Str) (tf : Tok) (dV kV doc pm ct : Value) (an : Option Addr)
    (p1 p2 a1 a2 a3 b1 b3 c1 c2 e1 e2 f1 f2 f3 f4 : Pos) (k1 : Nat),
    (a3.endLine == e1.line) = true ∧ findIn K (.ref C) "__init__" = some (some (.ref fI)) ∧ typeIn K (.ref fI) = some (.type "function") ∧
    K.lookup fI = some ⟨oc, od, .func (ksFn "__init__" "BadCode.__init__" (tiA p1 p2) (tiB a1 a2 a3 b1 b3 c1 c2 e1 e2 f1 f2 f3 f4 k1) tiS .none kV doc pm an (.ref cda) ct cc), osl⟩ ∧ codeIn K (.ref cda) "BadCode.__init__" = true ∧
    K.lookup cda = some ⟨ocd, odd, .fields vs, osd⟩ ∧ vs[2]? = some (.str file tf) ∧ ((P.main.file : Str) == file) = true ∧
    K.lookup cc = some ⟨oce, ode, .cell (some (.ref D)), ose⟩ ∧ clsIn K D = some cdD ∧ mroIn K C (.ref D) = some true ∧ ks_superIn K C D "__init__" = some (some (.builtin "ValueError.__init__"))
section
variable {prog : Program} {w : World} {A : Around} {E : Value → Shared → Prop} {R : Result → Shared → Prop} {h : Heap} {g : Array GenState} {d : Drawn} {t : Nat} {os : OsState} {K : Frag} {C : Addr}
theorem two_i {x : Addr} {r : Value} {y : Str × Value} (hy : y ∈ ([(("self" : Str), Value.ref x), ("index", r)] : List (Str × Value))) : tiS.names.lookup y.1 = some .local := by
  rcases List.mem_cons.mp hy with rfl | hy
  · show tiS.names.lookup ("self" : Str) = _
    decide +kernel
  rcases List.mem_cons.mp hy with rfl | hy
  · show tiS.names.lookup ("index" : Str) = _
    decide +kernel
  · cases hy
/-- what __init__ leaves -/
structure ErrLeftI (h h' : Heap) (x C dx t1 : Addr) (r : Value) : Prop where
  keep : ∀ b o, b ≠ x → h.get? b = some o → h'.get? b = some o
  obj : h'.get? x = some { cls := .ref C, dict := some dx, data := .fields #[.ref t1, .none, .none, .none, .bool false, .none] }
  big : h.objs.size ≤ dx
  ne : dx ≠ x
  ns : h'.Ns1 dx (fun y => if y = "index" then some r else none)
theorem erri_init {mg mb : Str → Option Value} {x t0 : Addr} {r : Int} {tr : Tok} (T : ErrI prog K C) (X : K.In h) (G : h.Ns mainGlobals mg) (B : h.Ns builtinsNs mb) (bb : ∀ x : Str, x ≠ "__name__" → mb x = bootBuiltins x)
    (lim : h.NoLimit) (hx : h.get? x = some (excO C t0)) (nx : K.lookup x = none) (room : A.depth < recursionLimit) (hr : r.natAbs.log2 < 1920) {fI : Addr} (iI : findIn K (.ref C) "__init__" = some (some (.ref fI)))
    (goal : ∀ h' tk dx t1, ErrLeftI h h' x C dx t1 (.int r tr) → R (.ok (.ret .none)) ⟨h', g, d, tk, os⟩) :
    codeAny (model prog w) A (.call (.ref fI) ⟨[.ref x, .int r tr], []⟩) R ⟨h, g, d, t, os⟩ := by
  obtain ⟨D, cc, cda, fI', oc, ocd, oce, od, odd, ode, osl, osd, ose, cdD, vs, file, tf, dV, kV, doc, pm, ct, an, p1, p2, a1, a2, a3, b1, b3, c1, c2, e1, e2, f1, f2, f3, f4, k1, ln, iI', tI, lF, cF, lcd, hvs, hfile, lcc, lD, mD, sI⟩ := T.fn
  have same : fI' = fI := by
    rw [iI] at iI'
    cases iI'
    rfl
  subst same
  obtain ⟨nm, q, N, bs, bm, sn, sub, ab, col, dd, k0, k1', k2', k3, k5, hC, hbm⟩ := T.oex.cls
  have hcl : clsIn K C = some { name := nm, bases := bs, mro := .ref C :: bm, ns := N, qualname := q, hasDict := true, slotNames := sn, subclasses := sub, abstract := ab, collection := col, hasDel := false } := by
    unfold clsIn
    rw [hC] <;> rfl
  refine ks_codeAny_call_defAt (binds := [("self", .ref x), ("index", .int r tr)]) room (X _ _ lF) rfl lim (codeRec_of X cF) rfl (BindsTo.of_eq (by first | rfl | with_unfolding_all rfl)) (show ∀ y ∈ tiS.names, y.2 ≠ .cell by decide +kernel) (show ∀ y ∈ ([(("self" : Str), Value.ref x), ("index", .int r tr)] : List (Str × Value)), tiS.names.lookup y.1 = some .local from fun y hy => two_i hy) (fun h0 ns0 keep0 => ?_)
  have X0 : K.In h0 := X.keeps keep0
  have hx0 := keep0 _ _ hx
  -- super()
  refine ks_wpAt_execs_cons (ks_wpAt_Expr_any (ks_wpAt_MethodCall (pl := L2.plainOf (.Call (.Name "super" a1) [] [] a2) (ksEnv "BadCode.__init__" tiS h.objs.size fI' (.ref cda) cc)) ?_ (meth_line ln rfl)))
  have lookN : ∀ y : Str, (fun y => ([("self", Value.ref x), ("index", .int r tr)] : List (Str × Value)).reverse.lookup y) y = ([("self", Value.ref x), ("index", .int r tr)] : List (Str × Value)).reverse.lookup y := fun _ => rfl
  obtain ⟨oD, hD1, hD2⟩ : ∃ oD, h0.get? D = some oD ∧ oD.data = .cls cdD := by
    unfold clsIn at lD
    split at lD
    · rename_i cls0 dct0 cd0 sl0 ho
      cases lD
      exact ⟨_, X0 _ _ ho, rfl⟩
    · cases lD
  refine ks_wpAt_super_base (by rfl) (by rfl) (by decide) rfl (X0 _ _ lF) rfl rfl rfl (X0 _ _ lcd) rfl hvs hfile T.top ?_
  refine ks_loadName_global rfl rfl (loadGlobal_builtin (mg := mg) (mb := mb) (v := .type "super") (G.keeps keep0) (mg_none_of X G T.sup) (B.keeps keep0) ((bb _ (by decide +kernel)).trans (by first | rfl | kernel_rfl)) ⟨rfl, ?_⟩)
  refine wpAny_loadName_free (v := .ref D) rfl rfl rfl ⟨_, X0 _ _ lcc, rfl⟩ ?_
  refine wpAny_loadName_local (v := .ref x) rfl rfl ns0 (by first | rfl | kernel_rfl) ?_
  refine ks_wpAny_isType_cls hD1 hD2 ⟨rfl, ?_⟩
  refine ks_wpAny_call_super hD1 hD2 hx0 rfl (fun _ z => by cases z) (looks_mroIn X0 mD) (fun h1 so1 keep1 => ?_)
  have X1 : K.In h1 := X0.keeps keep1
  have hx1 := keep1 _ _ hx0
  have I1 : InstAt h1 x (excO C t0) C none := ⟨hx1, rfl, rfl, trivial⟩
  have along : alongIn K "__init__" (((Value.ref C :: bm).dropWhile (· != .ref D)).drop 1) = some (some (.builtin "ValueError.__init__")) := by
    unfold ks_superIn at sI
    rw [hcl] at sI
    exact sI
  refine kxs_getMethod kxs_ValueError so1 (looks_opaque X1 T.tp) ((looks_clsIn X1 hcl).andThen .now) rfl X1 along (I1.type.andThen (looks_subIn X1 T.vE)) (ks_ne X1 I1 hcl) (by decide) ?_
  have keep2 : ∀ b o, h1.get? b = some o → (h1.push (kxs_mw "ValueError.__init__" x)).get? b = some o := fun b o e => Heap.get?_push_of_some _ e
  have mw2 : (h1.push (kxs_mw "ValueError.__init__" x)).get? h1.objs.size = some (kxs_mw "ValueError.__init__" x) := Heap.get?_push_at rfl rfl
  have ns2 : (h1.push (kxs_mw "ValueError.__init__" x)).Ns h.objs.size (fun y => ([("self", Value.ref x), ("index", .int r tr)] : List (Str × Value)).reverse.lookup y) := ns0.at fun o e => keep2 _ _ (keep1 _ _ e)
  generalize hh2 : h1.push (kxs_mw "ValueError.__init__" x) = h2 at keep2 mw2 ns2
  have all2 : ∀ b o, h.get? b = some o → h2.get? b = some o := fun b o e => keep2 _ _ (keep1 _ _ (keep0 _ _ e))
  -- the told text
  refine kxs_callWith (i := "ValueError.__init__") (x := x) rfl ?_
  refine evalArgs_plain (x := eval (.JoinedStr [.Constant (.str "code ") k1 b1, .FormattedValue (.Name "index" c1) (-1) none c2] b3) (ksEnv "BadCode.__init__" tiS h.objs.size fI' (.ref cda) cc)) (spliced_cons ?_)
  refine wpAny_JoinedStr ?_
  refine wpAny_Constant_str ⟨_, _, rfl, by decide, ?_⟩
  have z0 : (Str.empty ++ ("code " : Str)).length = 5 := by decide
  have tr1 := place_text hr
  have fit1 : ((Str.empty ++ ("code " : Str)) ++ Str.ofString (toString r)).length ≤ sizeLine := by
    rw [strLen_append, sizeLine_eq]
    omega
  refine wpAny_FormattedValue_plain (wpAny_Name (wpAny_loadName_local (v := .int r tr) rfl rfl ns2 (by first | rfl | kernel_rfl) ?_))
  refine wpAny_formatField_int hr ⟨_, _, rfl, fit1, fit1, ?_⟩
  refine spliced_nil ⟨mw2, ?_⟩
  refine bound_called (X.keeps all2 _ _ hC) (keep2 _ _ hx1) mw2 (by show 1 ≤ sizeLine; decide) fun h3 t3 keep3 hx3 => ?_
  have Lx : h.objs.size ≠ x := Nat.ne_of_gt (Heap.lt_size hx)
  have ns3 := ns2.at fun o e => keep3 _ _ Lx e
  have X2 : K.In h2 := X.keeps all2
  have X3 : K.In h3 := fun b o e => keep3 b o (fun z => by rw [z, nx] at e; cases e) (X2 b o e)
  -- self.index = index
  refine wpAt_of_wpAny (wpAny_execs_cons (plainObj_wpAny_Assign_Attribute ?_))
  refine wpAny_Name (wpAny_loadName_local (v := .int r tr) rfl rfl ns3 (by first | rfl | kernel_rfl) ?_)
  refine wpAny_Name (wpAny_loadName_local (v := .ref x) rfl rfl ns3 (by first | rfl | kernel_rfl) ?_)
  refine set_plain X3 (ox := excO C t3) (od := none) ⟨hx3, rfl, rfl, trivial⟩ T.oex.sa ?_
  refine exc_osa X3 hx3 hcl (show refsVE (.ref C :: bm) = true from hbm) rfl T.nr fun h4 tk4 dx keep4 big4 ne4 hx4 own4 => ?_
  refine wpAny_execs_nil (goal h4 _ dx t3 ?_)
  have dxbig : h.objs.size ≤ dx := Nat.le_trans (Nat.le_of_lt ns3.lt) big4
  exact ⟨fun b o ne e => keep4 b o ne (keep3 b o ne (all2 b o e)), hx4, dxbig, ne4, own4⟩
end
end Rm
namespace Rm
open PySem PySem.W PySem.Calls PyProof.Rows PySem.HandSPX
section
variable {prog : Program} {w : World} {A : Around} {E : Value → Shared → Prop} {R : Result → Shared → Prop} {h : Heap} {g : Array GenState} {d : Drawn} {t : Nat} {os : OsState} {K : Frag} {C : Addr}
theorem erri_made {mg mb : Str → Option Value} {r : Int} {tr : Tok} (T : ErrI prog K C) (X : K.In h) (G : h.Ns mainGlobals mg) (B : h.Ns builtinsNs mb) (bb : ∀ x : Str, x ≠ "__name__" → mb x = bootBuiltins x)
    (lim : h.NoLimit) (room : A.depth + 1 < recursionLimit) (hr : r.natAbs.log2 < 1920)
    (goal : ∀ h' tk e dx t1, (∀ b o, h.get? b = some o → h'.get? b = some o) → h.objs.size ≤ e → h'.get? e = some { cls := .ref C, dict := some dx, data := .fields #[.ref t1, .none, .none, .none, .bool false, .none] } → h.objs.size ≤ dx → dx ≠ e →
      h'.Ns1 dx (fun y => if y = "index" then some (.int r tr) else none) → R (.ok (.ret (.ref e))) ⟨h', g, d, tk, os⟩) :
    codeAny (model prog w) A (.call (.ref C) ⟨[.int r tr], []⟩) R ⟨h, g, d, t, os⟩ := by
  obtain ⟨nm, q, N, bs, bm, sn, sub, ab, col, dd, k0, k1, k2, k3, k5, hC, hbm⟩ := T.oex.cls
  obtain ⟨D, cc, cda, fI, oc, ocd, oce, od, odd, ode, osl, osd, ose, cdD, vs, file, tf, dV, kV, doc, pm, ct, an, p1, p2, a1, a2, a3, b1, b3, c1, c2, e1, e2, f1, f2, f3, f4, k1', ln, iI, tI, rest⟩ := T.fn
  clear rest
  have up : ∀ b o, h.get? b = some o → ((h.push (kdv_tup [.int r tr])).push (excO C h.objs.size)).get? b = some o := fun b o e => Heap.get?_push_of_some _ (Heap.get?_push_of_some _ e)
  have there : ((h.push (kdv_tup [.int r tr])).push (excO C h.objs.size)).get? (h.objs.size + 1) = some (excO C h.objs.size) := by heap_get
  have free : K.lookup (h.objs.size + 1) = none := by
    cases e : K.lookup (h.objs.size + 1) with
    | none => rfl
    | some o =>
      exact absurd (Nat.lt_of_succ_lt (show h.objs.size + 1 < h.objs.size from Heap.lt_size (X _ _ e))) (Nat.lt_irrefl _)
  refine call_own F.excBase_ValueError (fun Y => refsVE_contains Y bm hbm) (X _ _ hC) (looks_findIn X iI) (fun self => bind_fn X self tI) (by show 1 ≤ sizeLine; decide) ?_
  refine erri_init T (X.keeps up) (G.keeps up) (B.keeps up) bb (lim.keeps up) there free ?_ hr iI fun h' tk dx t1 L => ?_
  · show A.depth + 1 < recursionLimit
    exact room
  · have old : ∀ b o, h.get? b = some o → h'.get? b = some o := fun b o e => L.keep b o (Nat.ne_of_lt (Nat.lt_succ_of_lt (Heap.lt_size e))) (up b o e)
    have big := L.big
    rw [Heap.size_push, Heap.size_push] at big
    exact ⟨rfl, goal h' tk (h.objs.size + 1) dx t1 old (Nat.le_succ _) L.obj (by omega) L.ne L.ns⟩
end
end Rm
namespace Rm
open PySem PySem.Spec PyProof.Rows L2
/-- an error's field -/
def exI (r : Int) : List (Str × V) := [("index", .int r)]
theorem exI_rel {r : Int} {tr : Tok} (f : Str) : RelO ((exI r).lookup f) (if f = "index" then some (Value.int r tr) else none) := by
  unfold exI
  by_cases e : f = "index"
  · subst e
    rw [if_pos rfl, show List.lookup ("index" : Str) [(("index" : Str), V.int r)] = some (.int r) by simp [List.lookup]]
    exact ⟨_, rfl⟩
  · rw [if_neg e, lookup_put, if_neg e]
    exact True.intro
section
variable {X : Cx} {C : Addr}
/-- C(row, column) -/
def tMkErrI (C : Addr) (ta : TA) : L2.St → Hp → XK → Prop := fun σ H Q => ta σ H fun vs H1 => ∃ r : Int, vs = [.int r] ∧ r.natAbs.log2 < 1920 ∧ ∀ d, H1 d = none → Q (.ref C) (some d) (upd H1 d (.xd (exI r)))
theorem pmk_errI {n : Str} {es : List Expr} {e0 : Expr} {ta : TA} {p pos : Pos} {k : Nat} (T : ErrI X.prog X.K C) (hr : Room k X.A) (hm : X.mg n = some (.ref C)) (ha : PA X (e0 :: es) ta) (hg : Gl X n := by rfl) (hdb : (n == ("__debug__" : Str)) = false := by decide)
    (he : starEach (e0 :: es) X.env = (false, eval e0 X.env) :: starEach es X.env := by rfl) (hpl : (backTo pos (starEach es X.env)).any (·.1) = false := by rfl) :
    PMk X (.Call (.Name n p) (e0 :: es) [] pos) (tMkErrI C ta) := by
  intro pins s σ H Q I h
  refine wpAny_Call_Name_kw (ld_glob I hg hm ?_ hdb)
  refine PySem.W.callWith_K (h₀ := X.base) I.ok.mod.kin T.oex.kC (thn (ha.run pos pins s σ H _ I h) fun us s1 hh => ?_) he hpl
  obtain ⟨vs, H1, I1, r1, r, ev, hlr, q1⟩ := hh
  subst ev
  refine ⟨I1.kIn, ?_⟩
  cases r1 with
  | cons rr rest =>
      cases rest
      obtain ⟨tr, rfl⟩ := rr
      show wpAny _ _ (call (.ref C) [.int r tr]) _ _ _
      have lim := I1.nolimit
      have e0' := I1.env0
      obtain ⟨mb, hb, hbb⟩ := e0'.mod.blt
      have kb : ∀ b o, X.base.get? b = some o → s1.heap.get? b = some o := fun b o e => (e0'.bs b o e).1
      have G1 := e0'.mod.glob.keeps kb
      have B1 := hb.keeps kb
      obtain ⟨hp, g, dr, tk, os⟩ := s1
      refine wpAny_call (erri_made T I1.kIn G1 B1 hbb lim (by have := hr.dp; omega) hlr fun h' tk' e d t1 old eb hoe db dne hns => ?_)
      show MkP X pins σ Q (.ref e) ⟨h', g, dr, tk', os⟩
      obtain ⟨G', gs, gn⟩ := restrict h' fun b => decide (b ≠ e)
      have gk : ∀ b, b ≠ e → G'.get? b = h'.get? b := fun b hb => gs b (decide_eq_true hb)
      have ge : G'.get? e = none := gn e (by simp)
      have keep : ∀ b o, hp.get? b = some o → G'.get? b = some o := fun b o q => (gk b (Nat.ne_of_lt (Nat.lt_of_lt_of_le (Heap.lt_size q) eb))).trans (old b o q)
      have dict : ObjOk X.prog X.w (upd H1 d (.xd (exI r))) G' d (.xd (exI r)) := ⟨_, hns.at (fun o q => (gk d dne).trans q), exI_rel⟩
      have J : Inv X pins σ (upd H1 d (.xd (exI r))) ⟨G', g, dr, tk', os⟩ := I1.laid (t' := tk') keep db dict
      refine ⟨e, _, _, ⟨G', g, dr, tk', os⟩, _, .ref C, some d, rfl, J, fun b o q => ?_, ge, hoe, ⟨rfl, rfl⟩, rfl, rfl, ?_, rfl, I1.bare, raises_own T.oex.exC T.oex.tyC, q1 d (I1.hok.fresh db)⟩
      · by_cases hb : b = e
        · rw [hb] at q
          exact absurd (ge.symm.trans q) (by simp)
        · exact (gk b hb).symm.trans q
      · rw [upd_ne (Ne.symm dne)]
        exact I1.hok.fresh eb
/-- raise C(row, column) -/
def tRaiseErrI (C : Addr) (W : WX) (ta : TA) : TS := fun _ σ H => tMkErrI C ta σ H fun cls d H' => W cls d σ H'
theorem ps_errI {n : Str} {es : List Expr} {e0 : Expr} {ta : TA} {W : WX} {p pos pos2 : Pos} {k : Nat} (hc : X.calm = true) (T : ErrI X.prog X.K C) (hr : Room k X.A) (tk : Takes X W) (hm : X.mg n = some (.ref C)) (ha : PA X (e0 :: es) ta) (hg : Gl X n := by rfl)
    (hdb : (n == ("__debug__" : Str)) = false := by decide) (he : starEach (e0 :: es) X.env = (false, eval e0 X.env) :: starEach es X.env := by rfl) (hpl : (backTo pos (starEach es X.env)).any (·.1) = false := by rfl) :
    PS X (.Raise (some (.Call (.Name n p) (e0 :: es) [] pos)) none pos2) (tRaiseErrI C W ta) := ps_raise hc tk (pmk_errI T hr hm ha hg hdb he hpl)
end
end Rm
namespace Rm
open PySem PySem.Spec PyProof.Rows L2
/-- what is asked of the class at C and of its __init__ -/
def errBI (K : PySem.W.Frag) (file : Str) (C : Addr) : Bool :=
  clsB K C && (decide (PySem.W.findIn K (.ref C) "__setattr__" = some (some (.builtin "object.__setattr__"))) && (decide (PySem.W.subIn K (.ref C) (.type "BaseException") = some true) && (decide (PySem.W.typeIn K (.ref C) = some (.type "type")) && (PySem.W.keepIn K (.ref C) &&
  (decide (PySem.W.findIn K (.ref C) "index" = some none) && (decide (PySem.W.subIn K (.ref C) (.type "ValueError") = some true) && (decide (PySem.W.nsIn K mainGlobals "super" = some none) &&
  (decide (PySem.W.nsIn K cStatics "thirdparty.any" = some none) && (decide (PySem.W.findIn K (.ref C) "__init__" = some (some (.ref (He.ma K C "__init__")))) && (decide (PySem.W.typeIn K (.ref (He.ma K C "__init__")) = some (.type "function")) &&
  (match K.lookup (He.ma K C "__init__") with
    | some ⟨_, _, .func fd, _⟩ => noneB fd.defaults && (PySem.W.codeIn K fd.code fd.qualname && (codB K file fd.code && ownB K C fd.closure))
    | _ => false)))))))))))
/-- the text of __init__, as it is written -/
def TiIs (st : Stmt) : Prop := ∃ (p1 p2 a1 a2 a3 b1 b3 c1 c2 e1 e2 f1 f2 f3 f4 : Pos) (k1 : Nat), defArgs st = tiA p1 p2 ∧ defBody st = tiB a1 a2 a3 b1 b3 c1 c2 e1 e2 f1 f2 f3 f4 k1 ∧ defScope st = tiS ∧ (a3.endLine == e1.line) = true
theorem errBI_ok {P : Program} {K : PySem.W.Frag} {file : Str} {C : Addr} {st : Stmt} (h : errBI K file C = true) (e : celW K (He.ma K C "__init__") = celV "__init__" "BadCode.__init__" st) (te : TiIs st) (top : (P.main.scope.names.lookup ("super" : Str)).isSome = false) (pf : ((P.main.file : Str) == file) = true) : ErrI P K C := by
  obtain ⟨h1, h⟩ := He.ba h
  obtain ⟨h2, h⟩ := He.ba h
  obtain ⟨h3, h⟩ := He.ba h
  obtain ⟨h4, h⟩ := He.ba h
  obtain ⟨h5, h⟩ := He.ba h
  obtain ⟨h6, h⟩ := He.ba h
  obtain ⟨h7, h⟩ := He.ba h
  obtain ⟨h8, h⟩ := He.ba h
  obtain ⟨h9, h⟩ := He.ba h
  obtain ⟨h10, h⟩ := He.ba h
  obtain ⟨h11, h⟩ := He.ba h
  refine ⟨⟨clsB_ok h1, of_decide_eq_true h2, of_decide_eq_true h3, of_decide_eq_true h4, h5⟩, of_decide_eq_true h6, of_decide_eq_true h7, of_decide_eq_true h8, of_decide_eq_true h9, top, ?_⟩
  obtain ⟨p1, p2, a1, a2, a3, b1, b3, c1, c2, e1, e2, f1, f2, f3, f4, k1, t1, t2, t3, t4⟩ := te
  unfold celW celV at e
  split at h
  · rename_i oc od fd osl look
    rw [look] at e
    obtain ⟨q1, h⟩ := He.ba h
    obtain ⟨q2, h⟩ := He.ba h
    obtain ⟨q3, q4⟩ := He.ba h
    obtain ⟨n1, n2, n3, n4, n5, n6, n7, n8, n9, n10, n11, n12, n13, n14, n15⟩ := fd
    have e' : (some (n1, n2, n3, n4, n5, n6, n7.map (·.1), n15) : CelW) = some (("__init__" : Str), ("BadCode.__init__" : Str), defArgs st, FuncBody.stmts (defBody st), defScope st, mainGlobals, [("__class__" : Str)], builtinsNs) := e
    simp only [Option.some.injEq, Prod.mk.injEq] at e'
    obtain ⟨m1, m2, m3, m4, m5, m6, m7, m8⟩ := e'
    dsimp only at q1 q2 q3 q4
    obtain ⟨x, cc, oce, ode, ose, D, cd, l1, l2, l3, l4, l5⟩ := ownB_ok q4
    obtain ⟨c, ocd, odd, vs, osd, tt, v1, v2, v3⟩ := codB_ok q3
    have q0 := noneB_ok q1
    subst l1
    have m7' : x = "__class__" := by simpa using m7
    rw [t1] at m3
    rw [t2] at m4
    rw [t3] at m5
    subst m1 m2 m3 m4 m5 m6 m7' m8 v1 q0
    exact ⟨D, cc, c, _, oc, ocd, oce, od, odd, ode, osl, osd, ose, cd, vs, file, tt, .none, n9, n10, n11, n14, n12, p1, p2, a1, a2, a3, b1, b3, c1, c2, e1, e2, f1, f2, f3, f4, k1, t4, of_decide_eq_true h10, of_decide_eq_true h11, look, q2, v2, v3, pf, l2, l3, l4, l5⟩
  · cases h
end Rm

/-! O17: __init__ of an own class whose one row says super().__init__(code), the class above being an own one too. -/
namespace Rm
open PySem PySem.W PySem.Calls PyProof.Rows PySem.HandSPX
def siA (p1 p2 : Pos) : Arguments := { posonlyargs := [], args := [{ arg := "self", annotation := none, pos := p1 }, { arg := "code", annotation := none, pos := p2 }], vararg := none, kwonlyargs := [], kw_defaults := [], kwarg := none, defaults := [] }
def siB (a1 a2 a3 n1 e1 e2 : Pos) : List Stmt := [.Expr (.Call (.Attribute (.Call (.Name "super" a1) [] [] a2) "__init__" a3) [.Name "code" n1] [] e1) e2]
def siS : Scope := { kind := .function, names := [(PySem.Str.ofString "self", .local), (PySem.Str.ofString "code", .local), (PySem.Str.ofString "__class__", .free), (PySem.Str.ofString "super", .globalImplicit)], isGenerator := false, isCoroutine := false, more := [] }
/-- what the written part tells of the class at C, whose __init__ at f1 asks the one at f2 -/
structure SupI (P : Program) (K : Frag) (C f1 f2 : Addr) (qual : Str) : Prop where
  sup : nsIn K mainGlobals "super" = some none
  tp : nsIn K cStatics "thirdparty.any" = some none
  top : (P.main.scope.names.lookup ("super" : Str)).isSome = false
  fn : ∃ (cc cda : Addr) (oc ocd oce : Value) (od odd ode : Option Addr) (osl osd ose : Array (Option Value)) (cdD : ClassData) (vs : Array Value) (file : Str) (tf : Tok) (kV doc pm ct : Value) (an : Option Addr)
    (p1 p2 a1 a2 a3 n1 e1 e2 : Pos),
    (a3.endLine == e1.line) = true ∧ typeIn K (.ref f2) = some (.type "function") ∧ (∃ o fd, K.lookup f2 = some o ∧ o.data = .func fd) ∧
    K.lookup f1 = some ⟨oc, od, .func (ksFn "__init__" qual (siA p1 p2) (siB a1 a2 a3 n1 e1 e2) siS .none kV doc pm an (.ref cda) ct cc), osl⟩ ∧ codeIn K (.ref cda) qual = true ∧
    K.lookup cda = some ⟨ocd, odd, .fields vs, osd⟩ ∧ vs[2]? = some (.str file tf) ∧ ((P.main.file : Str) == file) = true ∧
    K.lookup cc = some ⟨oce, ode, .cell (some (.ref C)), ose⟩ ∧ clsIn K C = some cdD ∧ mroIn K C (.ref C) = some true ∧ ks_superIn K C C "__init__" = some (some (.ref f2))
theorem two_s {x c : Value} {y : Str × Value} (hy : y ∈ ([(("self" : Str), x), ("code", c)] : List (Str × Value))) : siS.names.lookup y.1 = some .local := by
  rcases List.mem_cons.mp hy with rfl | hy
  · show siS.names.lookup ("self" : Str) = _
    decide +kernel
  rcases List.mem_cons.mp hy with rfl | hy
  · show siS.names.lookup ("code" : Str) = _
    decide +kernel
  · cases hy
theorem si_scope : NdefX.NScope ["self", "code", "__class__"] ["self", "code"] ["__class__"] siS := NdefX.nscope_by (by decide +kernel)
/-- the call of a bound method -/
theorem callWith_mo {M : Model} {A : Around} {E : Value → Shared → Prop} {s : Shared} {pos : Pos} {u f x : Addr} {t : Sem Value} {Q : Value → Shared → Prop}
    (h : wpAny M A t (fun v s₁ => s₁.heap.get? u = some { cls := .type "method", dict := none, data := .fields #[.ref f, .ref x], slots := #[] } ∧ (∃ o fd, s₁.heap.get? f = some o ∧ o.data = .func fd) ∧ wpAny M A (call (.ref u) [v]) Q E s₁) E s) : wpAny M A (callWith pos (.ref u) [] [(false, t)] []) Q E s := by
  unfold callWith
  refine wpAny_bind (wpAny_holding (evalArgs_plain (spliced_cons (wpAny_mono h (fun v s₁ h₁ => spliced_nil ?_) fun _ _ y => y))))
  obtain ⟨ho, ⟨o, fd, hf, hd⟩, hcall⟩ := h₁
  refine wpAny_bind (wpAny_standAt ?_)
  refine wpAny_bind (m := keeperOf (.ref u)) ?_
  unfold keeperOf
  refine wpAny_bind (wpAny_load ho ?_)
  refine wpAny_bind (wpAny_load hf ?_)
  rw [hd]
  refine wpAny_pure ?_
  refine wpAny_bind (wpAny_mono (Q := Q) (E := E) ?_ (fun r s₂ hr => wpAny_bind (wpAny_holding (wpAny_point (wpAny_pure hr)))) fun _ _ y => y)
  show wpAny M A (callMarked callOfAMethodObject (.ref u) [v] []) Q E s₁
  unfold callMarked
  exact Calls.wpAny_keep hcall
section
variable {P : Program} {w : World} {K : Frag} {mg : Str → Option Value} {base : Heap} {k : Nat} {f1 f2 C : Addr} {qual : Str} {fd2 : FuncData} {sp : L2.Sp}
theorem lkC0 {cc : Addr} : List.lookup ("__class__" : Str) [(("__class__" : Str), cc)] = some cc := by
  rw [List.lookup_cons, beq_self_eq_true]
theorem lkC {cc : Addr} {y : Str} (q : ¬ y = "__class__") : List.lookup y [(("__class__" : Str), cc)] = none := by
  rw [List.lookup_cons, beq_eq_false_iff_ne.mpr q]
  rfl
/-- what is asked of the call -/
def spS (C : Addr) (sp : L2.Sp) : L2.Sp := fun vs H Q E => (∃ (x dx : Addr) (fs : List (Str × L2.V)) (c : L2.V), vs = [.ref x, c] ∧ H x = some (.ins C dx fs)) ∧ sp vs H (fun _ H' => Q .non H') E
/-- what a caller wants of it -/
structure SupD (P : Program) (w : World) (K : Frag) (mg : Str → Option Value) (base : Heap) (k : Nat) (f : Addr) (fd : FuncData) (ps : List Str) (sp : L2.Sp) : Prop where
  fn : L2.FnOk P w K mg base (L2.CX P w) k f fd ps sp
  bd : L2.Binds K fd ps []
theorem sup_ok (T : SupI P K C f1 f2 qual) (F2 : L2.FnOk P w K mg base (L2.CX P w) k f2 fd2 ["self", "code"] sp) (hb2 : L2.Binds K fd2 ["self", "code"] []) :
    ∃ fd1, SupD P w K mg base (k + 2) f1 fd1 ["self", "code"] (spS C sp) := by
  obtain ⟨cc, cda, oc, ocd, oce, od, odd, ode, osl, osd, ose, cdD, vs, file, tf, kV, doc, pm, ct, an, p1, p2, a1, a2, a3, n1, e1, e2, ln, t2, ⟨o2, d2, l2, e2'⟩, lF, cF, lcd, hvs, hfile, lcc, lD, mD, sI⟩ := T.fn
  refine ⟨ksFn "__init__" qual (siA p1 p2) (siB a1 a2 a3 n1 e1 e2) siS .none kV doc pm an (.ref cda) ct cc, ⟨fun vs H Q E h => by obtain ⟨⟨x, dx, fs, c, rfl, _⟩, _⟩ := h; rfl, fun A outer s H args us vs' Q E hr e0 hb r hsp => ?_⟩, L2.Binds.all (fun us hl => match us, hl with | [_, _], _ => rfl)⟩
  obtain ⟨⟨x, dx, fs, c, rfl, hx⟩, hs⟩ := hsp
  have X : K.In s.heap := e0.mod.kin.keeps fun b o e => (e0.bs b o e).1
  have lim : s.heap.NoLimit := e0.mod.nolimit.keeps fun b o e => (e0.bs b o e).1
  cases r with
  | @cons v1 u1 vs1 us1 r1 r =>
  cases r with
  | @cons v2 u2 vs2 us2 r2 r =>
  cases r
  obtain rfl : u1 = Value.ref x := r1
  have baseK : ∀ b o, K.lookup b = some o → base.get? b = some o := fun b o e => e0.mod.kin b o e
  refine ks_codeAny_call_defAt (fd := ksFn "__init__" qual (siA p1 p2) (siB a1 a2 a3 n1 e1 e2) siS .none kV doc pm an (.ref cda) ct cc) (binds := [("self", .ref x), ("code", u2)]) hr.depth (X _ _ lF) rfl lim (codeRec_of X cF) rfl hb (show ∀ y ∈ siS.names, y.2 ≠ .cell by decide +kernel) (show ∀ y ∈ ([(("self" : Str), Value.ref x), ("code", u2)] : List (Str × Value)), siS.names.lookup y.1 = some .local from fun y hy => two_s hy) (fun h0 ns0 keep0 => ?_) rfl rfl rfl
  have cells : NdefX.CellsAt [("__class__", cc)] ["__class__"] [none] s.heap H := by
    refine ⟨rfl, fun y c e => ?_, fun y z c e1 e2 => ?_, fun i y hi => ?_⟩
    · have ey : c = cc := by
        by_cases q : y = "__class__"
        · subst q
          rw [lkC0] at e
          exact (Option.some.inj e).symm
        · rw [lkC q] at e
          cases e
      subst ey
      exact ⟨(e0.bs _ _ (baseK _ _ lcc)).2, _, _, X _ _ lcc, rfl⟩
    · have key : ∀ y : Str, List.lookup y [(("__class__" : Str), cc)] = some c → y = "__class__" := fun y e => by
        by_cases q : y = "__class__"
        · exact q
        · rw [lkC q] at e
          cases e
      rw [key y e1, key z e2]
    · cases i with
      | zero =>
        cases hi
        exact ⟨cc, lkC0, fun v hv => by cases hv⟩
      | succ j => cases hi
  have I0 : L2.Inv (NdefX.ncx (L2.CX P w) P w K mg base ["self", "code", "__class__"] ⟨"__init__", qual, siA p1 p2, siB a1 a2 a3 n1 e1 e2, siS, [("__class__", cc)], cda⟩ f1 A outer s H E) [] (NdefX.startF ["self", "code", "__class__"] [.ref x, c] [none]) H { s with heap := h0, toks := s.toks + 2 } := NdefX.inv_startN si_scope hr.hd e0 rfl (.cons rfl (.cons r2 .nil)) cells ns0 keep0
  have hx0 : ∃ mA, L2.ObjM h0 x dx C mA := by
    obtain ⟨mA, O, _⟩ := L2.ins_get I0.hok hx
    exact ⟨mA, O⟩
  obtain ⟨mA, OM⟩ := hx0
  obtain ⟨odx, IA, _⟩ := OM.look
  have X0 : K.In h0 := X.keeps keep0
  obtain ⟨mb, hbl, hbb⟩ := e0.mod.blt
  have G0 := (e0.mod.glob.keeps fun b o e => (e0.bs b o e).1).keeps keep0
  have B0 := (hbl.keeps fun b o e => (e0.bs b o e).1).keeps keep0
  obtain ⟨oD, hD1, hD2⟩ : ∃ oD, h0.get? C = some oD ∧ oD.data = .cls cdD := by
    unfold clsIn at lD
    split at lD
    · rename_i cls0 dct0 cd0 sl0 ho
      cases lD
      exact ⟨_, X0 _ _ ho, rfl⟩
    · cases lD
  -- super()
  refine ks_wpAt_execs_cons (ks_wpAt_Expr_any (ks_wpAt_MethodCall (pl := L2.plainOf (.Call (.Name "super" a1) [] [] a2) (ksEnv qual siS s.heap.objs.size f1 (.ref cda) cc)) ?_ (meth_line ln rfl)))
  refine ks_wpAt_super_base (by rfl) (by rfl) (by decide) rfl (X0 _ _ lF) rfl rfl rfl (X0 _ _ lcd) rfl hvs hfile T.top ?_
  refine ks_loadName_global rfl rfl (loadGlobal_builtin (mg := mg) (mb := mb) (v := .type "super") G0 (mg_none_of X0 G0 T.sup) B0 ((hbb _ (by decide +kernel)).trans (by first | rfl | kernel_rfl)) ⟨rfl, ?_⟩)
  refine wpAny_loadName_free (v := .ref C) rfl rfl rfl ⟨_, X0 _ _ lcc, rfl⟩ ?_
  refine wpAny_loadName_local (v := .ref x) rfl rfl ns0 (by first | rfl | kernel_rfl) ?_
  refine ks_wpAny_isType_cls hD1 hD2 ⟨rfl, ?_⟩
  refine ks_wpAny_call_super hD1 hD2 IA.at_ IA.cls (fun c e => ?_) (looks_mroIn X0 mD) (fun h1 so1 keep1 => ?_)
  · have := IA.no
    unfold notCls at this
    rw [e] at this
    exact Bool.noConfusion this
  have X1 : K.In h1 := X0.keeps keep1
  have t2' : (K.lookup f2).map (·.cls) = some (.type "function") := t2
  rw [l2] at t2'
  have along : alongIn K "__init__" ((cdD.mro.dropWhile (· != .ref C)).drop 1) = some (some (.ref f2)) := by
    unfold ks_superIn at sI
    rw [lD] at sI
    exact sI
  refine ks_wpAny_getMethod_super so1 (looks_opaque X1 T.tp) (l₀ := cdD.mro) (fun A Q E s k q => wpAny_bind ((looks_clsIn X1 lD) A _ E s k (wpAny_pure q))) rfl X1 along (X1 _ _ l2) (Option.some.inj t2') (ks_ne X0 IA lD) (by decide) ?_
  have keep2 : ∀ b o, h1.get? b = some o → (h1.push { cls := .type "method", data := .fields #[.ref f2, .ref x] }).get? b = some o := fun b o e => Heap.get?_push_of_some _ e
  have mw2 : (h1.push { cls := .type "method", data := .fields #[.ref f2, .ref x] }).get? h1.objs.size = some { cls := .type "method", dict := none, data := .fields #[.ref f2, .ref x], slots := #[] } := Heap.get?_push_at rfl rfl
  generalize h1.push { cls := .type "method", data := .fields #[.ref f2, .ref x] } = h2 at keep2 mw2 ⊢
  have X2 : K.In h2 := X1.keeps keep2
  have ns2 := ns0.at fun o e => keep2 _ _ (keep1 _ _ e)
  refine callWith_mo (t := eval (.Name "code" n1) (ksEnv qual siS s.heap.objs.size f1 (.ref cda) cc)) (wpAny_Name (wpAny_loadName_local (v := u2) rfl rfl ns2 (by first | rfl | kernel_rfl) ⟨mw2, ⟨o2, d2, X2 _ _ l2, e2'⟩, ?_⟩))
  have I2 := I0.kept (h' := h2) (t' := s.toks + 2 + 1) fun b o e => keep2 _ _ (keep1 _ _ e)
  refine wpAny_call (ks_codeAny_call_bound mw2 (codeAny_mono (F2.run _ _ _ H ⟨[.ref x, u2], []⟩ [.ref x, u2] [.ref x, c] _ E ((hr.deeper _).mono (Nat.le_succ _)) I2.env0 (hb2 _ [.ref x, u2] X2 rfl) (.cons rfl (.cons r2 .nil)) hs) fun r s' hq => ?_))
  cases r with
  | error e => exact L2.passes_call (L2.takes_of rfl rfl rfl rfl) (fun _ _ _ _ h => h) _ _ _ _ _ _ I2 hq
  | ok fl =>
    cases fl with
    | ret u =>
      obtain ⟨v, H', J, rv, qv⟩ := I2.after hq
      refine wpAt_of_wpAny (wpAny_execs_nil ?_)
      exact ⟨.non, H', J.os, J.bare, J.base, J.hok, rfl, qv⟩
    | next => exact False.elim hq
    | brk => exact False.elim hq
    | cont => exact False.elim hq
end
end Rm
namespace Rm
open PySem PySem.Spec PyProof.Rows L2
def ownS (K : PySem.W.Frag) (C f2 : Addr) : List (Str × Addr) → Bool
  | [(_, cc)] => (match K.lookup cc with
    | some ⟨_, _, .cell (some (.ref D)), _⟩ => decide (D = C) && ((PySem.W.clsIn K C).isSome && (decide (PySem.W.mroIn K C (.ref C) = some true) && decide (PySem.W.ks_superIn K C C "__init__" = some (some (.ref f2)))))
    | _ => false)
  | _ => false
theorem ownS_ok {K : PySem.W.Frag} {C f2 : Addr} {l : List (Str × Addr)} (h : ownS K C f2 l = true) : ∃ x cc oc od sl cd, l = [(x, cc)] ∧ K.lookup cc = some ⟨oc, od, .cell (some (.ref C)), sl⟩ ∧ PySem.W.clsIn K C = some cd ∧ PySem.W.mroIn K C (.ref C) = some true ∧
    PySem.W.ks_superIn K C C "__init__" = some (some (.ref f2)) := by
  unfold ownS at h
  split at h
  · split at h
    · rename_i look
      obtain ⟨h0, h⟩ := He.ba h
      obtain ⟨h1, h⟩ := He.ba h
      obtain ⟨h2, h3⟩ := He.ba h
      obtain ⟨cd, e⟩ := Option.isSome_iff_exists.mp h1
      have e0 := of_decide_eq_true h0
      subst e0
      exact ⟨_, _, _, _, _, cd, rfl, look, e, of_decide_eq_true h2, of_decide_eq_true h3⟩
    · cases h
  · cases h
def fnB (K : PySem.W.Frag) (f : Addr) : Bool := match K.lookup f with
  | some ⟨_, _, .func _, _⟩ => true
  | _ => false
def supB (K : PySem.W.Frag) (file : Str) (C f2 : Addr) : Bool :=
  decide (PySem.W.nsIn K mainGlobals "super" = some none) && (decide (PySem.W.nsIn K cStatics "thirdparty.any" = some none) && (decide (PySem.W.typeIn K (.ref f2) = some (.type "function")) && (fnB K f2 &&
  (match K.lookup (He.ma K C "__init__") with
    | some ⟨_, _, .func fd, _⟩ => noneB fd.defaults && (PySem.W.codeIn K fd.code fd.qualname && (codB K file fd.code && ownS K C f2 fd.closure))
    | _ => false))))
/-- the text of __init__, as it is written -/
def SiIs (st : Stmt) : Prop := ∃ (p1 p2 a1 a2 a3 n1 e1 e2 : Pos), defArgs st = siA p1 p2 ∧ defBody st = siB a1 a2 a3 n1 e1 e2 ∧ defScope st = siS ∧ (a3.endLine == e1.line) = true
theorem supB_ok {P : Program} {K : PySem.W.Frag} {file qual : Str} {C f2 : Addr} {st : Stmt} (h : supB K file C f2 = true) (e : celW K (He.ma K C "__init__") = celV "__init__" qual st) (te : SiIs st) (top : (P.main.scope.names.lookup ("super" : Str)).isSome = false) (pf : ((P.main.file : Str) == file) = true) : SupI P K C (He.ma K C "__init__") f2 qual := by
  obtain ⟨h1, h⟩ := He.ba h
  obtain ⟨h2, h⟩ := He.ba h
  obtain ⟨h3, h⟩ := He.ba h
  obtain ⟨h4, h⟩ := He.ba h
  have fn2 : ∃ o fd, K.lookup f2 = some o ∧ o.data = .func fd := by
    unfold fnB at h4
    split at h4
    · rename_i oc od fd osl look
      exact ⟨_, fd, look, rfl⟩
    · cases h4
  refine ⟨of_decide_eq_true h1, of_decide_eq_true h2, top, ?_⟩
  obtain ⟨p1, p2, a1, a2, a3, n1', e1, e2, t1, t2, t3, t4⟩ := te
  unfold celW celV at e
  split at h
  · rename_i oc od fd osl look
    rw [look] at e
    obtain ⟨q1, h⟩ := He.ba h
    obtain ⟨q2, h⟩ := He.ba h
    obtain ⟨q3, q4⟩ := He.ba h
    obtain ⟨n1, n2, n3, n4, n5, n6, n7, n8, n9, n10, n11, n12, n13, n14, n15⟩ := fd
    have e' : (some (n1, n2, n3, n4, n5, n6, n7.map (·.1), n15) : CelW) = some (("__init__" : Str), qual, defArgs st, FuncBody.stmts (defBody st), defScope st, mainGlobals, [("__class__" : Str)], builtinsNs) := e
    simp only [Option.some.injEq, Prod.mk.injEq] at e'
    obtain ⟨m1, m2, m3, m4, m5, m6, m7, m8⟩ := e'
    dsimp only at q1 q2 q3 q4
    obtain ⟨x, cc, oce, ode, ose, cd, l1, l2, l3, l4, l5⟩ := ownS_ok q4
    obtain ⟨c, ocd, odd, vs, osd, tt, v1, v2, v3⟩ := codB_ok q3
    have q0 := noneB_ok q1
    subst l1
    have m7' : x = "__class__" := by simpa using m7
    rw [t1] at m3
    rw [t2] at m4
    rw [t3] at m5
    subst m1 m2 m3 m4 m5 m6 m7' m8 v1 q0
    exact ⟨cc, c, oc, ocd, oce, od, odd, ode, osl, osd, ose, cd, vs, file, tt, n9, n10, n11, n14, n12, p1, p2, a1, a2, a3, n1', e1, e2, t4, of_decide_eq_true h3, fn2, look, q2, v2, v3, pf, l2, l3, l4, l5⟩
  · cases h
/-- a method that a class above has written -/
def inhB (K : PySem.W.Frag) (C B : Addr) (m : Str) : Bool := decide (PySem.W.findIn K (.ref C) m = some (some (.ref (He.ma K B m)))) && (PySem.W.isFn K (.ref (He.ma K B m)) && PySem.W.keepIn K (.ref (He.ma K B m)))
theorem inhB_ok {K : PySem.W.Frag} {C B : Addr} {m : Str} (h : inhB K C B m = true) : Meth K C m (He.ma K B m) := by
  obtain ⟨h1, h⟩ := He.ba h
  obtain ⟨h2, h3⟩ := He.ba h
  exact ⟨of_decide_eq_true h1, h2, h3⟩
end Rm

namespace Rm.K27.W27
open PySem PySem.Spec PyProof.Rows L2 Rm
def top (i : Nat) : Stmt := PySem.Challenge.pw_reaimed_k27_long_chains.main.body.getD i (.Pass ⟨0, 0, 0, 0⟩)
abbrev s_l_draws : Stmt := top 73
abbrev s_l_reader : Stmt := top 74
abbrev s_l_next : Stmt := top 75
abbrev s_Objects_slot : Stmt := inClass (top 8) 5
abbrev s_Objects_put : Stmt := inClass (top 8) 6
abbrev s_Objects_drop : Stmt := inClass (top 8) 7
abbrev s_Objects_assign : Stmt := inClass (top 8) 8
abbrev s_Objects_parents : Stmt := inClass (top 8) 9
abbrev s_Objects_make : Stmt := inClass (top 8) 1
abbrev s_Objects_init : Stmt := inClass (top 8) 0
abbrev s_outcome_of : Stmt := top 3
abbrev s_search : Stmt := top 2
abbrev s_Machine_make_scope : Stmt := inClass (top 24) 3
abbrev s_is_fast_frame : Stmt := top 16
abbrev s_stack_of : Stmt := top 17
abbrev s_moved : Stmt := top 18
abbrev s_first_values : Stmt := top 20
abbrev s_without_top : Stmt := top 21
abbrev s_method_index : Stmt := top 22
abbrev s_Machine_add_plain_frame : Stmt := inClass (top 24) 2
abbrev s_Machine_add_plain_method : Stmt := inClass (top 24) 1
abbrev s_Machine_init : Stmt := inClass (top 24) 0
abbrev s_search_value : Stmt := top 4
abbrev s_PlainMachine_search_send : Stmt := inClass (top 71) 4
abbrev s_PlainMachine_add_method : Stmt := inClass (top 71) 6
abbrev s_PlainMachine_tell_change : Stmt := inClass (top 71) 7
abbrev s_go_on : Stmt := top 37
abbrev s_push : Stmt := top 38
abbrev s_do_self : Stmt := top 40
abbrev s_do_method : Stmt := top 48
abbrev s_do_put : Stmt := top 57
abbrev s_do_found : Stmt := top 54
abbrev s_do_send : Stmt := top 51
abbrev s_do_row : Stmt := top 68
abbrev s_next_row : Stmt := top 69
abbrev s_PlainMachine_tick : Stmt := inClass (top 71) 1
abbrev s_l_chain : Stmt := top 76
abbrev s_l_due : Stmt := top 77
abbrev s_l_is_deep : Stmt := top 78
abbrev s_law : Stmt := top 79
abbrev s_ts_PlainMachine : Stmt := inClass (top 71) 0
def fn : List He.DefD := [⟨(("_law_draws" : Str), none), ("_law_draws" : Str), ("_law_draws" : Str), defArgs s_l_draws, defBody s_l_draws, defScope s_l_draws, [], []⟩,
  ⟨(("_law_reader" : Str), none), ("_law_reader" : Str), ("_law_reader" : Str), defArgs s_l_reader, defBody s_l_reader, defScope s_l_reader, [], []⟩,
  ⟨(("_law_next" : Str), none), ("_law_next" : Str), ("_law_next" : Str), defArgs s_l_next, defBody s_l_next, defScope s_l_next, [], []⟩,
  ⟨(("Objects" : Str), some ("slot" : Str)), ("slot" : Str), ("Objects.slot" : Str), defArgs s_Objects_slot, defBody s_Objects_slot, defScope s_Objects_slot, [], []⟩,
  ⟨(("Objects" : Str), some ("put" : Str)), ("put" : Str), ("Objects.put" : Str), defArgs s_Objects_put, defBody s_Objects_put, defScope s_Objects_put, [], []⟩,
  ⟨(("Objects" : Str), some ("drop" : Str)), ("drop" : Str), ("Objects.drop" : Str), defArgs s_Objects_drop, defBody s_Objects_drop, defScope s_Objects_drop, [], []⟩,
  ⟨(("Objects" : Str), some ("assign" : Str)), ("assign" : Str), ("Objects.assign" : Str), defArgs s_Objects_assign, defBody s_Objects_assign, defScope s_Objects_assign, [], []⟩,
  ⟨(("Objects" : Str), some ("parents" : Str)), ("parents" : Str), ("Objects.parents" : Str), defArgs s_Objects_parents, defBody s_Objects_parents, defScope s_Objects_parents, [], []⟩,
  ⟨(("Objects" : Str), some ("make" : Str)), ("make" : Str), ("Objects.make" : Str), defArgs s_Objects_make, defBody s_Objects_make, defScope s_Objects_make, [], []⟩,
  ⟨(("Objects" : Str), some ("__init__" : Str)), ("__init__" : Str), ("Objects.__init__" : Str), defArgs s_Objects_init, defBody s_Objects_init, defScope s_Objects_init, [], []⟩,
  ⟨(("outcome_of" : Str), none), ("outcome_of" : Str), ("outcome_of" : Str), defArgs s_outcome_of, defBody s_outcome_of, defScope s_outcome_of, [], []⟩,
  ⟨(("search" : Str), none), ("search" : Str), ("search" : Str), defArgs s_search, defBody s_search, defScope s_search, [], []⟩,
  ⟨(("Machine" : Str), some ("make_scope" : Str)), ("make_scope" : Str), ("Machine.make_scope" : Str), defArgs s_Machine_make_scope, defBody s_Machine_make_scope, defScope s_Machine_make_scope, [], []⟩,
  ⟨(("is_fast_frame" : Str), none), ("is_fast_frame" : Str), ("is_fast_frame" : Str), defArgs s_is_fast_frame, defBody s_is_fast_frame, defScope s_is_fast_frame, [], []⟩,
  ⟨(("stack_of" : Str), none), ("stack_of" : Str), ("stack_of" : Str), defArgs s_stack_of, defBody s_stack_of, defScope s_stack_of, [], []⟩,
  ⟨(("moved" : Str), none), ("moved" : Str), ("moved" : Str), defArgs s_moved, defBody s_moved, defScope s_moved, [], []⟩,
  ⟨(("first_values" : Str), none), ("first_values" : Str), ("first_values" : Str), defArgs s_first_values, defBody s_first_values, defScope s_first_values, [], []⟩,
  ⟨(("without_top" : Str), none), ("without_top" : Str), ("without_top" : Str), defArgs s_without_top, defBody s_without_top, defScope s_without_top, [], []⟩,
  ⟨(("method_index" : Str), none), ("method_index" : Str), ("method_index" : Str), defArgs s_method_index, defBody s_method_index, defScope s_method_index, [], []⟩,
  ⟨(("Machine" : Str), some ("add_plain_frame" : Str)), ("add_plain_frame" : Str), ("Machine.add_plain_frame" : Str), defArgs s_Machine_add_plain_frame, defBody s_Machine_add_plain_frame, defScope s_Machine_add_plain_frame, [], []⟩,
  ⟨(("Machine" : Str), some ("add_plain_method" : Str)), ("add_plain_method" : Str), ("Machine.add_plain_method" : Str), defArgs s_Machine_add_plain_method, defBody s_Machine_add_plain_method, defScope s_Machine_add_plain_method, [], []⟩,
  ⟨(("Machine" : Str), some ("__init__" : Str)), ("__init__" : Str), ("Machine.__init__" : Str), defArgs s_Machine_init, defBody s_Machine_init, defScope s_Machine_init, [], []⟩,
  ⟨(("search_value" : Str), none), ("search_value" : Str), ("search_value" : Str), defArgs s_search_value, defBody s_search_value, defScope s_search_value, [], []⟩,
  ⟨(("PlainMachine" : Str), some ("search_send" : Str)), ("search_send" : Str), ("PlainMachine.search_send" : Str), defArgs s_PlainMachine_search_send, defBody s_PlainMachine_search_send, defScope s_PlainMachine_search_send, [], []⟩,
  ⟨(("PlainMachine" : Str), some ("add_method" : Str)), ("add_method" : Str), ("PlainMachine.add_method" : Str), defArgs s_PlainMachine_add_method, defBody s_PlainMachine_add_method, defScope s_PlainMachine_add_method, [], []⟩,
  ⟨(("PlainMachine" : Str), some ("tell_change" : Str)), ("tell_change" : Str), ("PlainMachine.tell_change" : Str), defArgs s_PlainMachine_tell_change, defBody s_PlainMachine_tell_change, defScope s_PlainMachine_tell_change, [], []⟩,
  ⟨(("go_on" : Str), none), ("go_on" : Str), ("go_on" : Str), defArgs s_go_on, defBody s_go_on, defScope s_go_on, [], []⟩,
  ⟨(("push" : Str), none), ("push" : Str), ("push" : Str), defArgs s_push, defBody s_push, defScope s_push, [], []⟩,
  ⟨(("do_self" : Str), none), ("do_self" : Str), ("do_self" : Str), defArgs s_do_self, defBody s_do_self, defScope s_do_self, [], []⟩,
  ⟨(("do_method" : Str), none), ("do_method" : Str), ("do_method" : Str), defArgs s_do_method, defBody s_do_method, defScope s_do_method, [], []⟩,
  ⟨(("do_put" : Str), none), ("do_put" : Str), ("do_put" : Str), defArgs s_do_put, defBody s_do_put, defScope s_do_put, [], []⟩,
  ⟨(("do_found" : Str), none), ("do_found" : Str), ("do_found" : Str), defArgs s_do_found, defBody s_do_found, defScope s_do_found, [], []⟩,
  ⟨(("do_send" : Str), none), ("do_send" : Str), ("do_send" : Str), defArgs s_do_send, defBody s_do_send, defScope s_do_send, [], []⟩,
  ⟨(("do_row" : Str), none), ("do_row" : Str), ("do_row" : Str), defArgs s_do_row, defBody s_do_row, defScope s_do_row, [], []⟩,
  ⟨(("next_row" : Str), none), ("next_row" : Str), ("next_row" : Str), defArgs s_next_row, defBody s_next_row, defScope s_next_row, [], []⟩,
  ⟨(("PlainMachine" : Str), some ("tick" : Str)), ("tick" : Str), ("PlainMachine.tick" : Str), defArgs s_PlainMachine_tick, defBody s_PlainMachine_tick, defScope s_PlainMachine_tick, [], []⟩,
  ⟨(("_law_chain" : Str), none), ("_law_chain" : Str), ("_law_chain" : Str), defArgs s_l_chain, defBody s_l_chain, defScope s_l_chain, [], []⟩,
  ⟨(("_law_due" : Str), none), ("_law_due" : Str), ("_law_due" : Str), defArgs s_l_due, defBody s_l_due, defScope s_l_due, [], []⟩,
  ⟨(("_law_is_deep" : Str), none), ("_law_is_deep" : Str), ("_law_is_deep" : Str), defArgs s_l_is_deep, defBody s_l_is_deep, defScope s_l_is_deep, [], []⟩,
  ⟨(("law" : Str), none), ("law" : Str), ("law" : Str), defArgs s_law, defBody s_law, defScope s_law, [], []⟩]
def fa : List He.Fa := [.free ("range" : Str),
  .free ("min" : Str),
  .free ("len" : Str),
  .free ("abs" : Str),
  .free ("int" : Str),
  .glo ("_law_draws" : Str),
  .glo ("PARENT_KINDS" : Str),
  .free ("tuple" : Str),
  .cls ("Objects" : Str),
  .meth ("Objects" : Str) ("put" : Str),
  .int ("LOBBY" : Str) 0,
  .meth ("Objects" : Str) ("make" : Str),
  .meth ("Objects" : Str) ("slot" : Str),
  .free ("list" : Str),
  .meth ("Objects" : Str) ("parents" : Str),
  .glo ("outcome_of" : Str),
  .str ("FAST" : Str) ("fast" : Str),
  .glo ("is_fast_frame" : Str),
  .glo ("NOTHING" : Str),
  .str ("METHOD" : Str) ("method" : Str),
  .glo ("first_values" : Str),
  .cls ("PlainMachine" : Str),
  .int ("NO_MARK" : Str) 0,
  .int ("NO_SCOPE" : Str) (-1),
  .glo ("Objects" : Str),
  .mkr ("Objects" : Str),
  .glo ("search" : Str),
  .glo ("search_value" : Str),
  .glo ("moved" : Str),
  .glo ("stack_of" : Str),
  .glo ("go_on" : Str),
  .glo ("push" : Str),
  .glo ("without_top" : Str),
  .meth ("PlainMachine" : Str) ("tell_change" : Str),
  .glo ("method_index" : Str),
  .meth ("PlainMachine" : Str) ("add_method" : Str),
  .meth ("PlainMachine" : Str) ("search_send" : Str),
  .glo ("do_found" : Str),
  .glo ("STEPS" : Str),
  .glo ("next_row" : Str),
  .glo ("do_row" : Str),
  .glo ("RowError" : Str),
  .noat ("RowError" : Str) ("problem" : Str),
  .glo ("_law_next" : Str),
  .glo ("PlainMachine" : Str),
  .mkr ("PlainMachine" : Str),
  .meth ("PlainMachine" : Str) ("tick" : Str),
  .glo ("_law_reader" : Str),
  .glo ("_law_chain" : Str),
  .glo ("_law_due" : Str),
  .glo ("_law_is_deep" : Str),
  .glo ("law" : Str),
  .noat ("Objects" : Str) ("table" : Str),
  .noat ("Objects" : Str) ("next_id" : Str),
  .noat ("PlainMachine" : Str) ("code" : Str),
  .noat ("PlainMachine" : Str) ("objects" : Str),
  .noat ("PlainMachine" : Str) ("scopes" : Str),
  .noat ("PlainMachine" : Str) ("blocks" : Str),
  .noat ("PlainMachine" : Str) ("frames" : Str),
  .noat ("PlainMachine" : Str) ("events" : Str),
  .noat ("PlainMachine" : Str) ("end" : Str),
  .noat ("PlainMachine" : Str) ("ticks" : Str),
  .noat ("PlainMachine" : Str) ("next_scope" : Str),
  .noat ("PlainMachine" : Str) ("next_block" : Str),
  .noat ("PlainMachine" : Str) ("last_mark" : Str)]
def dc0 : List (Str × He.Dv) := [(("push" : Str), .glo "do_push"), (("self" : Str), .glo "do_self"), (("pop" : Str), .glo "do_pop"), (("local" : Str), .glo "do_local"), (("set" : Str), .glo "do_set"), (("outer" : Str), .glo "do_outer"), (("setouter" : Str), .glo "do_setouter"), (("method" : Str), .glo "do_method"), (("block" : Str), .glo "do_block"), (("object" : Str), .glo "do_object"), (("send" : Str), .glo "do_send"), (("resend" : Str), .glo "do_resend"), (("call" : Str), .glo "do_call"), (("assign" : Str), .glo "do_assign"), (("put" : Str), .glo "do_put"), (("drop" : Str), .glo "do_drop"), (("jump" : Str), .glo "do_jump"), (("jumpno" : Str), .glo "do_jumpno"), (("prim" : Str), .glo "do_prim"), (("print" : Str), .glo "do_print"), (("return" : Str), .glo "do_return"), (("home" : Str), .glo "do_home")]
def dc : DcL := [(("STEPS" : Str), dc0)]
def exs : List (PySem.W.Frag → Bool) := [fun K => tupM K "PARENT_KINDS" ["parent", "varparent"], fun K => inhB K (He.ga K ("PlainMachine" : Str)) (He.ga K ("Machine" : Str)) ("make_scope" : Str), fun K => inhB K (He.ga K ("PlainMachine" : Str)) (He.ga K ("Machine" : Str)) ("add_plain_frame" : Str), fun K => inhB K (He.ga K ("PlainMachine" : Str)) (He.ga K ("Machine" : Str)) ("add_plain_method" : Str), fun K => supB K ("/claim/cut.py" : Str) (He.ga K ("PlainMachine" : Str)) (He.ma K (He.ga K ("Machine" : Str)) "__init__"), fun K => excB K (He.ga K ("RowError" : Str)), fun K => dicB K ("STEPS" : Str) dc0]
abbrev ex : PySem.W.Frag → Bool := allOf exs
def ce : List (Str × CelW) := [(("PlainMachine" : Str), celV "__init__" ("PlainMachine.__init__" : Str) s_ts_PlainMachine)]
abbrev R : PySem.W.OpenRow := PySem.W.OpenLaw.row PySem.Challenge.rw_reaimed_k27_long_chains
abbrev hk : PySem.W.Hook := hookG 4 fa fn ce dc ex
def ob (s : PySem.W.SharedT) : AlG := obsGG 4 fa fn ce dc ex (HandSHeadRun.getT s)
theorem ob_eq (s : PySem.W.SharedT) : ob s = hk.obs s.abs := obsGG_eq (HandSHeadRun.getT_eq s)
def names : List PySem.Str := [("_wall" : Str), ("search" : Str), ("outcome_of" : Str), ("search_value" : Str), ("PARENT_KINDS" : Str), ("LOBBY" : Str), ("Objects" : Str), ("FAST" : Str), ("METHOD" : Str), ("BLOCK" : Str), ("NO_MARK" : Str), ("NO_SCOPE" : Str), ("NOTHING" : Str), ("is_fast_frame" : Str), ("stack_of" : Str), ("moved" : Str), ("replaced" : Str), ("first_values" : Str), ("without_top" : Str), ("method_index" : Str), ("Machine" : Str), ("AimError" : Str), ("LARGEST_RESULT" : Str), ("COMPARISONS" : Str), ("DIVISIONS" : Str), ("prim" : Str), ("truth_value" : Str), ("computed" : Str), ("FREE_KINDS" : Str), ("RowError" : Str), ("go_on" : Str), ("push" : Str), ("do_push" : Str), ("do_self" : Str), ("do_pop" : Str), ("do_local" : Str), ("do_set" : Str), ("set_in_scope" : Str), ("scope_outwards" : Str), ("do_outer" : Str), ("do_setouter" : Str), ("do_method" : Str), ("do_block" : Str), ("do_object" : Str), ("do_send" : Str), ("do_resend" : Str), ("resend_from" : Str), ("do_found" : Str), ("do_call" : Str), ("do_assign" : Str), ("do_put" : Str), ("do_drop" : Str), ("do_jump" : Str), ("do_jumpno" : Str), ("do_prim" : Str), ("do_print" : Str), ("do_return" : Str), ("do_home" : Str), ("place_of_home" : Str), ("end_frames" : Str), ("STEPS" : Str), ("do_row" : Str), ("next_row" : Str), ("PlainMachine" : Str), ("_law_draws" : Str), ("_law_reader" : Str), ("_law_next" : Str), ("_law_chain" : Str), ("_law_due" : Str), ("_law_is_deep" : Str)]
noncomputable abbrev END (w : World) (os : OsState) := HandSHeadRun.endF (HandSHeadRun.stepQ (HandSHeadRun.denQ HandSHeadRun.tabQ) R.prog w) 14000 R.prog w os
noncomputable abbrev KO (s : PySem.W.SharedT) : PySem.W.Frag := He.frG (HandSHeadRun.getT s) (cStatics :: He.asD (HandSHeadRun.getT s) 4)
theorem three {α β γ : Type} (o : Option α) (a p : α → Bool) (b : α → β) (m : α → γ) {y : β} {z : γ} (h1 : o.map (fun s => (a s, b s)) = some (true, y)) (h2 : o.map p = some true) (h3 : o.map m = some z) : o.map (fun s => (a s, b s, p s, m s)) = some (true, y, true, z) := by
  cases o with
  | none => cases h2
  | some s =>
    have e1 : (a s, b s) = (true, y) := Option.some.inj h1
    have e2 : p s = true := Option.some.inj h2
    have e3 : m s = z := Option.some.inj h3
    have e4 : a s = true := congrArg Prod.fst e1
    have e5 : b s = y := congrArg Prod.snd e1
    show some (a s, b s, p s, m s) = _
    rw [e2, e3, e4, e5]
theorem run_f1 (w : World) (os : OsState) : (END (w.withFollow "special-get-raises" false) os).map (fun s => (HandSHeadRun.looksF R.prog (PySem.W.boot_heap (w.withFollow "special-get-raises" false).params) s.abs, HandSHeadRun.seenQ (PySem.W.view R.prog [79]) names (importedModules R.prog.main.body) (fun s => PySem.W.xlAt (PySem.W.view R.prog [79]) [] s && PySem.W.recOk R.toRowW.records s) s.abs)) = some (true, PySem.W.openGood (PySem.W.view R.prog [79]) names) := by kernel_rfl
theorem run_f2 (w : World) (os : OsState) : (END (w.withFollow "special-get-raises" false) os).map (fun s => ((fa.all fun f => f.ok (KO s)) && ((fn.all fun d => d.ok (KO s)) && ex (KO s)))) = some true := by kernel_rfl
theorem run_f3 (w : World) (os : OsState) : (END (w.withFollow "special-get-raises" false) os).map (fun s => (fn.map (fun d => He.fnW (KO s) d.at_), ce.map (fun c => celW (KO s) (He.ma (KO s) (He.ga (KO s) c.1) "__init__")), dc.map fun d => hasW (KO s) d.1)) = some (fn.map He.DefD.val, ce.map (·.2), dc.map (valH (w.withFollow "special-get-raises" false))) := by kernel_rfl
theorem run_f0 (w : World) (os : OsState) : (END (w.withFollow "special-get-raises" false) os).map (fun s => (HandSHeadRun.looksF R.prog (PySem.W.boot_heap (w.withFollow "special-get-raises" false).params) s.abs, HandSHeadRun.seenQ (PySem.W.view R.prog [79]) names (importedModules R.prog.main.body) (fun s => PySem.W.xlAt (PySem.W.view R.prog [79]) [] s && PySem.W.recOk R.toRowW.records s) s.abs, ((fa.all fun f => f.ok (KO s)) && ((fn.all fun d => d.ok (KO s)) && ex (KO s))), (fn.map (fun d => He.fnW (KO s) d.at_), ce.map (fun c => celW (KO s) (He.ma (KO s) (He.ga (KO s) c.1) "__init__")), dc.map fun d => hasW (KO s) d.1))) = some (true, PySem.W.openGood (PySem.W.view R.prog [79]) names, true, (fn.map He.DefD.val, ce.map (·.2), dc.map (valH (w.withFollow "special-get-raises" false)))) := by
  have h1 := run_f1 w os
  have h2 := run_f2 w os
  have h3 := run_f3 w os
  generalize END (w.withFollow "special-get-raises" false) os = o at h1 h2 h3 ⊢
  exact three o _ _ _ _ h1 h2 h3
theorem run_f (w : World) : HandSHeadRun.RunEq R (PySem.W.view R.prog [79]) hk ob 14000 names (w.withFollow "special-get-raises" false) := run_f0 w
theorem run_t1 (w : World) (os : OsState) : (END (w.withFollow "special-get-raises" true) os).map (fun s => (HandSHeadRun.looksF R.prog (PySem.W.boot_heap (w.withFollow "special-get-raises" true).params) s.abs, HandSHeadRun.seenQ (PySem.W.view R.prog [79]) names (importedModules R.prog.main.body) (fun s => PySem.W.xlAt (PySem.W.view R.prog [79]) [] s && PySem.W.recOk R.toRowW.records s) s.abs)) = some (true, PySem.W.openGood (PySem.W.view R.prog [79]) names) := by kernel_rfl
theorem run_t2 (w : World) (os : OsState) : (END (w.withFollow "special-get-raises" true) os).map (fun s => ((fa.all fun f => f.ok (KO s)) && ((fn.all fun d => d.ok (KO s)) && ex (KO s)))) = some true := by kernel_rfl
theorem run_t3 (w : World) (os : OsState) : (END (w.withFollow "special-get-raises" true) os).map (fun s => (fn.map (fun d => He.fnW (KO s) d.at_), ce.map (fun c => celW (KO s) (He.ma (KO s) (He.ga (KO s) c.1) "__init__")), dc.map fun d => hasW (KO s) d.1)) = some (fn.map He.DefD.val, ce.map (·.2), dc.map (valH (w.withFollow "special-get-raises" true))) := by kernel_rfl
theorem run_t0 (w : World) (os : OsState) : (END (w.withFollow "special-get-raises" true) os).map (fun s => (HandSHeadRun.looksF R.prog (PySem.W.boot_heap (w.withFollow "special-get-raises" true).params) s.abs, HandSHeadRun.seenQ (PySem.W.view R.prog [79]) names (importedModules R.prog.main.body) (fun s => PySem.W.xlAt (PySem.W.view R.prog [79]) [] s && PySem.W.recOk R.toRowW.records s) s.abs, ((fa.all fun f => f.ok (KO s)) && ((fn.all fun d => d.ok (KO s)) && ex (KO s))), (fn.map (fun d => He.fnW (KO s) d.at_), ce.map (fun c => celW (KO s) (He.ma (KO s) (He.ga (KO s) c.1) "__init__")), dc.map fun d => hasW (KO s) d.1))) = some (true, PySem.W.openGood (PySem.W.view R.prog [79]) names, true, (fn.map He.DefD.val, ce.map (·.2), dc.map (valH (w.withFollow "special-get-raises" true)))) := by
  have h1 := run_t1 w os
  have h2 := run_t2 w os
  have h3 := run_t3 w os
  generalize END (w.withFollow "special-get-raises" true) os = o at h1 h2 h3 ⊢
  exact three o _ _ _ _ h1 h2 h3
theorem run_t (w : World) : HandSHeadRun.RunEq R (PySem.W.view R.prog [79]) hk ob 14000 names (w.withFollow "special-get-raises" true) := run_t0 w
theorem run (w : World) : HandSHeadRun.RunEq R (PySem.W.view R.prog [79]) hk ob 14000 names w := PySem.W.byRow2 "special-get-raises" (P := fun w => HandSHeadRun.RunEq R (PySem.W.view R.prog [79]) hk ob 14000 names w) run_f run_t w
end Rm.K27.W27

/-! O1: rules that the layer lacks: xs.extend(tuple), tuple[::-1], tuple(dict). -/
namespace Rm
open PySem PySem.Spec PyProof.Rows L2
theorem extend_tup (l : Addr) (items : Array Value) (n : Nat) (b : Addr) (items2 : Array Value) (hs0 : ¬(!items.isEmpty && Builtin.List.listTooLong (items.size + items2.size)) = true) (hs1 : items.size ≤ sizeLine) (hs2 : items.size + items2.size ≤ sizeLine + 1) :
    Meets (Builtin.«list.extend» ⟨[.ref l, .ref b], []⟩) (fun _ R s => s.heap.get? l = some { cls := .type "list", dict := none, data := .seq items n, slots := #[] } ∧ PyProof.Rows.IsTup s.heap b items2 ∧ R (.ok (.ret Value.none)) { s with heap := s.heap.update l (Obj.mapSeq fun x => x ++ items2), toks := s.toks }) :=
  .of_wp fun prog w A R s h => by
    obtain ⟨hp, g, d, tk, os⟩ := s
    obtain ⟨hl, hb, h⟩ := h
    obtain ⟨o, hb, hc, n2, hd⟩ := hb
    obtain ⟨cls, dict, data, slots⟩ := o
    dsimp only at hc hd
    subst hc hd
    have f1 := AutoSeq1.idx_int
    have f2 := AutoSeq1.sub_tuple_tuple
    have f3 := AutoSeq1.sub_list_list
    have f4 := AutoSeq1.sub_tuple_list
    have f5 := AutoSeq1.sub_list_tuple
    have hz' : (items ++ items2).size ≤ sizeLine + 1 := by rw [Array.size_append]; exact hs2
    wp_walk using (wpAny_updateSeq hl rfl (hz := hs1) (_hz' := hz')), wpAny_loadPart' hl, wpAny_loadPart' hb
    exact ⟨_, rfl, h⟩
/-! ### xs.extend(t), t a tuple -/
def rExtendT (K : PySem.W.Frag) : V → List V → Hp → VK → Prop := fun x vs H Q => ∃ l b xs zs, x = .ref l ∧ vs = [.ref b] ∧ H l = some (.lst xs) ∧ SqT K H b zs ∧ xs.length + zs.length ≤ sizeLine ∧ Q .non (upd H l (.lst (xs ++ zs)))
section
variable {X : Cx}
theorem mt_extendT : MtM X "list.extend" (rExtendT X.K) := by
  intro pins s σ H x vs v us Q I rx rv h
  obtain ⟨l, b, xs, zs, rfl, rfl, hH, hB, hz, q⟩ := h
  cases rx
  obtain ⟨u, rfl, ru⟩ := rv.one
  cases ru
  obtain ⟨z, its, n, r, hl, e⟩ := I.lstM hH
  obtain ⟨its2, r2, p2, z2⟩ := I.tuple hB
  have l1 := r.length
  have l2 := r2.length
  have hsz : its.toArray.size + its2.toArray.size ≤ sizeLine := by rw [List.size_toArray, List.size_toArray]; omega
  have hlong : ¬ (!its.toArray.isEmpty && Builtin.List.listTooLong (its.toArray.size + its2.toArray.size)) = true := by
    rw [notLongL hsz, Bool.and_false]
    exact Bool.false_ne_true
  refine call_meets F.slot_list_extend ⟨_, e, rfl⟩ F.entry_list_extend (F.args_list_extend_2 _ _)
    (extend_tup l its.toArray n b its2.toArray hlong (by rw [List.size_toArray]; omega) (by omega)) ⟨e, p2, ?_⟩
  refine ⟨.non, _, I.lset (its' := its ++ its2) hH e (by simp) (r.append r2) ?_, rfl, q⟩
  rw [List.length_append]
  omega
end
/-! ### t[::-1], t a tuple -/
section
variable {prog : Program} {w : World} {A : Around} {E : Value → Shared → Prop} {s : Shared}
theorem rev_places (n : Nat) : Builtin.Slice.slicePlaces ((n : Int) - 1) (-1) (-1) = n := by
  unfold Builtin.Slice.slicePlaces
  rw [if_neg (by decide)]
  by_cases h : (n : Int) - 1 > -1
  · rw [if_pos h]
    have e : ((n : Int) - 1 - -1 - 1) / (- -1) + 1 = (n : Int) := by
      rw [show (- -1 : Int) = 1 by decide, Int.ediv_one]
      omega
    rw [e]
    exact Int.toNat_natCast n
  · rw [if_neg h]
    have : n = 0 := by omega
    rw [this]
    rfl
theorem pick_rev (xs : Array Value) : ((List.range xs.size).filterMap fun (m : Nat) => xs[(((xs.size : Nat) : Int) - 1 + (m : Int) * (-1)).toNat]?).toArray = xs.toList.reverse.toArray := by
  congr 1
  apply List.ext_getElem?
  intro i
  have e : ((List.range xs.size).filterMap fun (m : Nat) => xs[(((xs.size : Nat) : Int) - 1 + (m : Int) * (-1)).toNat]?) = (List.range xs.size).reverse.filterMap (xs[·]?) := by
    rw [← PySem.W.krv_range, List.filterMap_map]
    have z : ∀ (l : List Nat), (∀ m ∈ l, m < xs.size) → l.filterMap (fun (m : Nat) => xs[(((xs.size : Nat) : Int) - 1 + (m : Int) * (-1)).toNat]?) = l.filterMap ((xs[·]?) ∘ fun k => xs.size - 1 - k) := by
      intro l
      induction l with
      | nil => exact fun _ => rfl
      | cons m l ih =>
        intro hl
        have hm := hl m List.mem_cons_self
        have e : (((xs.size : Nat) : Int) - 1 + (m : Int) * (-1)).toNat = xs.size - 1 - m := by omega
        rw [List.filterMap_cons, List.filterMap_cons, ih fun k hk => hl k (List.mem_cons_of_mem _ hk), e]
        rfl
    exact z _ fun m hm => List.mem_range.mp hm
  rw [e, List.filterMap_reverse, PySem.W.krv_all]
theorem sliceApplied_rev {sl : Addr} {vl vu vs : Value} {n : Nat} {Q : Int × Int × Nat → Shared → Prop} (hs : s.heap.IsSliceOf sl vl vu vs) (pl : IsPart vl none) (pu : IsPart vu none) (ps : IsPart vs (some (-1)))
    (h : Q ((n : Int) - 1, -1, n) s) : wpAny (model prog w) A (Builtin.Slice.sliceApplied (.ref sl) (pure (n : Int))) Q E s := by
  obtain ⟨os, hos, hcs, hds⟩ := id hs
  unfold Builtin.Slice.sliceApplied Builtin.Slice.sliceFields
  refine wpAny_bind (wpAny_bind (wpAny_field hos hds (x := vl) rfl (wpAny_bind (wpAny_field hos hds (x := vu) rfl (wpAny_bind (wpAny_field hos hds (x := vs) rfl (wpAny_pure ?_)))))))
  refine wpAny_bind (HT.slicePart_ ps ?_)
  show wpAny _ _ (if ((-1 : Int) == 0) = true then _ else _) _ _ s
  rw [if_neg (by decide)]
  refine wpAny_bind (HT.slicePart_ pl (wpAny_bind (HT.slicePart_ pu (wpAny_bind (wpAny_pure ?_)))))
  show wpAny _ _ (pure ((n : Int) - 1, (-1 : Int), Builtin.Slice.slicePlaces ((n : Int) - 1) (-1) (-1))) _ _ s
  rw [rev_places]
  exact wpAny_pure h
theorem getItem_tuple_rev {t sl : Addr} {items : Array Value} {vl vu vs : Value} {Q : Value → Shared → Prop} (ht : PyProof.Rows.IsTup s.heap t items) (hs : s.heap.IsSliceOf sl vl vu vs) (pl : IsPart vl none) (pu : IsPart vu none) (ps : IsPart vs (some (-1)))
    (h : Q (.ref s.heap.objs.size) { s with heap := s.heap.push { cls := .type "tuple", data := .seq items.toList.reverse.toArray } })
    (hsz : items.size ≤ sizeLine) : wpAny (model prog w) A (getItem (.ref t) (.ref sl)) Q E s := by
  have htake : sizeOk (.seq items.toList.reverse.toArray) := by
    show items.toList.reverse.toArray.size ≤ sizeLine
    rw [List.size_toArray, List.length_reverse, Array.length_toList]
    exact hsz
  obtain ⟨os, hos, hcs, hds⟩ := id hs
  have hTs : s.TypeIs (.ref sl) "slice" := ⟨os, hos, hcs⟩
  unfold getItem
  try with_reducible refine wpAny_holding ?_
  first | refine wpAny_bind (wpAny_pure ?_) | skip
  refine wpAny_bind (wpAny_sequenceKey ht.typeIs (by decide) ?_)
  refine wpAny_bind (wpAny_callSpecial?_slot (name := Str.ofString "__getitem__") ht.typeIs PyProof.Rows.slot_tuple_getitem
    (wpAny_call_entry PyProof.Rows.slot_tuple_getitem ht.typeIs entry_tuple_getitem ?_ (args_tuple_getitem _ _)))
  show wpAny _ _ (Builtin.Tuple.tupleItemsOf (.ref t) >>= _) _ _ s
  refine wpAny_bind (tupleItemsOf_ ht ?_)
  refine wpAny_bind (wpAny_typeOf hTs ?_)
  rw [if_pos (by decide)]
  refine wpAny_bind (sliceApplied_rev hs pl pu ps ?_)
  have hno : ¬ (((((items.size : Nat) : Int) - 1 == 0) && ((-1 : Int) == 1) && (items.size == items.size)) = true) := by
    intro q
    rw [Bool.and_eq_true, Bool.and_eq_true] at q
    exact absurd q.1.2 (by decide)
  show wpAny _ _ (if ((((items.size : Nat) : Int) - 1 == 0) && ((-1 : Int) == 1) && (items.size == items.size)) = true then _ else _) _ _ s
  rw [if_neg hno, pick_rev]
  first
    | exact wpAny_bind (m := Builtin.Tuple.tupleExact _) (wpAny_newObj_type (wpAny_pure ⟨_, rfl, wpAny_pure h⟩) htake)
    | exact wpAny_bind (m := Builtin.Tuple.tupleExact _) (wpAny_newObj_type (wpAny_bind (wpAny_pure (wpAny_pure ⟨_, rfl, wpAny_pure h⟩))) htake)
    | exact wpAny_bind (wpAny_bind (m := Builtin.Tuple.tupleExact _) (wpAny_newObj_type (wpAny_pure (wpAny_pure ⟨_, rfl, wpAny_pure h⟩)) htake))
    | exact wpAny_bind (wpAny_bind (m := Builtin.Tuple.tupleExact _) (wpAny_newObj_type (wpAny_pure ⟨_, rfl, wpAny_pure h⟩) htake))
end
def tRevT (K : PySem.W.Frag) (te : TE) : TE := fun σ H Q => te σ H fun x H1 => ∃ a xs, x = .ref a ∧ SqT K H1 a xs ∧ ∀ p, H1 p = none → Q (.ref p) (upd H1 p (.tup xs.reverse))
section
variable {X : Cx}
theorem pe_revT {e : Expr} {te : TE} {k : Nat} {p1 p2 p3 pos : Pos} (he : PE X e te) : PE X (.Subscript e (.Slice none none (some (.UnaryOp .USub (.Constant (.int 1) k p1) p2)) p3) pos) (tRevT X.K te) := by
  refine ⟨fun pins s σ H Q I h => ?_⟩
  refine Subscript_ (thn (he.run pins s σ H _ I h) fun v s1 ⟨x, H1, I1, r1, q1⟩ => ?_)
  obtain ⟨a, xs, ex, hx, q⟩ := q1
  subst ex
  cases r1
  have hst : PO X (some (.UnaryOp .USub (.Constant (.int 1) k p1) p2)) (tPart (tUn (rU fun i => .int (-i)) (tC (.int 1)))) := po_some (pe_un un_neg pe_int)
  refine wpAny_Slice (thn (po_none.run pins s1 σ H1 (fun o H2 => o = none ∧ H2 = H1) I1 ⟨rfl, rfl⟩) fun vl s2 ⟨l, H2, I2, pl, el, e2⟩ => ?_)
  subst el e2
  refine thn (po_none.run pins s2 σ H2 (fun o H3 => o = none ∧ H3 = H2) I2 ⟨rfl, rfl⟩) fun vu s3 ⟨u, H3, I3, pu, eu, e3⟩ => ?_
  subst eu e3
  refine thn (hst.run pins s3 σ H3 (fun o H4 => o = some (-1) ∧ H4 = H3) I3 ⟨1, rfl, -1, rfl, rfl, rfl⟩) fun vs s4 ⟨o, H4, I4, ps, eo, e4⟩ => ?_
  subst eo e4
  have I5 : Inv X pins σ H4 { s4 with heap := s4.heap.push { cls := .type "slice", data := .fields #[vl, vu, vs] } } := I4.kept (t' := s4.toks) fun b ob q => Heap.get?_push_of_some _ q
  obtain ⟨its, r, ht, hz⟩ := I5.tuple hx
  have hlen := r.length
  show wpAny (model X.prog X.w) X.A (subscriptTail e (.Slice none none (some (.UnaryOp .USub (.Constant (.int 1) k p1) p2)) p3) (.ref a) (.ref s4.heap.objs.size)) (EP X pins σ Q) X.xe { s4 with heap := s4.heap.push { cls := .type "slice", data := .fields #[vl, vu, vs] } }
  refine tail_any (ops := [.ref a, .ref s4.heap.objs.size]) ht.typeIs (PyProof.Rows.slot_tuple_getitem.lookup) ?_ (by with_unfolding_all rfl)
  refine getItem_tuple_rev ht (Heap.IsSliceOf.new _ vl vu vs) pl pu ps ?_ (by rw [List.size_toArray]; omega)
  refine ⟨.ref _, _, I5.laid (t' := s4.toks) (o := .tup xs.reverse) (fun b ob q => Heap.get?_push_of_some _ q) (Nat.le_refl _) ?_, rfl, q _ (I5.hok.fresh (Nat.le_refl _))⟩
  exact ⟨by rw [List.length_reverse]; exact hz, _, r.reverse, IsTup.new _ _⟩
end
/-! ### tuple(d), d a dict -/
section
variable {prog : Program} {w : World} {A : Around} {E : Value → Shared → Prop} {s : Shared} {T : String} {r d : Addr} {n : Nat} {P : Nat → Value → Prop} {OK : Heap → Prop}
theorem collect_kdl {Q : List Value → Shared → Prop} (K : PySem.W.KdlSrc prog w T r d n P OK) (hh : A.handled = none) (hok : OK s.heap) (hn : n ≤ sizeLine)
    (hQ : ∀ (h' : Heap) (tk : Nat) (acc : Array Value), (∀ b o, s.heap.get? b = some o → h'.get? b = some o) → ItemsOf P acc n → Q acc.toList { s with heap := h', toks := tk }) :
    wpAny (model prog w) A (collect (.ref r)) Q E s := by
  unfold collect
  refine wpAny_bind (wpAny_runValue (codeAny_builtin PySem.F.entry_proto_collect ?_))
  rw [Around.under_plainId PySem.F.plain_proto_collect _]
  show wpAny _ A.in1 (newList [] >>= fun l => again (.builtin "list.__iadd__" ⟨[l, .ref r], []⟩)) _ _ s
  refine wpAny_bind (wpAny_newObj_type ?_)
  refine wpAny_pure ⟨plainId_quiet PySem.F.plain_list_iadd _, codeAny_builtin PySem.F.entry_list_iadd ?_⟩
  rw [Around.under_plainId PySem.F.plain_list_iadd _]
  show wpAny _ A.in1 (Builtin.List.listExtendWith (.ref s.heap.objs.size) (.ref r) (.ref s.heap.objs.size)) _ _ _
  have hS : (s.heap.push { cls := .type "list", data := .seq ([] : List Value).toArray }).get? s.heap.objs.size = some { cls := .type "list", data := .seq #[] 0 } := Heap.get?_push_size _ rfl
  have hlt := K.there _ hok
  refine wpAny_mono (PySem.W.kdl_extend (A := A) (R := fun rr s' => rr = .ok (.ret (.ref s.heap.objs.size)) ∧ ∃ (h' : Heap) (tk : Nat) (acc : Array Value) (c' : Nat), s' = { s with heap := h', toks := tk } ∧
      (∀ b o, s.heap.get? b = some o → h'.get? b = some o) ∧ h'.get? s.heap.objs.size = some { cls := .type "list", dict := none, data := .seq acc c', slots := #[] } ∧ ItemsOf P acc n)
    (s := { s with heap := s.heap.push { cls := .type "list", data := .seq ([] : List Value).toArray } }) K hh (K.keep _ _ hok fun b _ o e => Heap.get?_push_of_some _ e) s.heap.objs.size (Nat.ne_of_gt hlt.1) (Nat.ne_of_gt hlt.2) _ 0 hS
    (fun h' tk acc c' hk e hi => ⟨rfl, h', tk, acc, c', rfl, fun b o q => hk b o (Nat.ne_of_lt (Heap.lt_size q)) (Heap.get?_push_of_some _ q), e, hi⟩) hn) (fun fin s' h => ?_) (fun e s' h => ?_)
  · cases fin with
    | done f =>
      obtain ⟨e, h', tk, acc, c', rfl, hk, hS', hi⟩ := h
      cases e
      show wpAny _ A (load s.heap.objs.size >>= _) _ _ _
      exact wpAny_bind (wpAny_load hS' (wpAny_pure (hQ h' tk acc hk hi)))
    | again c' =>
      refine ⟨h.1, codeAny_mono h.2 fun rr s'' hr' => ?_⟩
      obtain ⟨rfl, h', tk, acc, c', rfl, hk, hS', hi⟩ := hr'
      show wpAny _ A (load s.heap.objs.size >>= _) _ _ _
      exact wpAny_bind (wpAny_load hS' (wpAny_pure (hQ h' tk acc hk hi)))
  · exact absurd h.1 (by simp)
theorem notT (K : PySem.W.KdlSrc prog w T r d n P OK) : ¬ (Value.type T == Value.type "tuple") = true := by
  rw [K.notTuple]
  exact Bool.false_ne_true
theorem code_tuple_new_dict {kvs : List (Key × Value)} {ep : Nat} {Q₁ : Value → Shared → Prop} (lo : (d == sysModules) = false) (hh : A.handled = none) (hok : s.heap.DictAt (mixKind prog w) d kvs ep) (hn : kvs.length ≤ sizeLine)
    (h : ∀ (h' : Heap) (tk : Nat) (acc : Array Value), (∀ b o, s.heap.get? b = some o → h'.get? b = some o) → ItemsOf (fun i v => ∃ k x, kvs[i]? = some (k, x) ∧ (mixKind prog w).is k v = true) acc kvs.length →
      Q₁ (.ref h'.objs.size) { s with heap := h'.push { cls := .type "tuple", data := .seq acc }, toks := tk }) :
    codeAny (model prog w) A (.call (.builtin "tuple.__new__") ⟨[.type "tuple", .ref d], []⟩) (wants Q₁ E) s := by
  refine codeAny_of_tree ?_
  show wpAny _ A.in1 (do checkBuiltinCall "tuple.__new__" ⟨[.type "tuple", .ref d], []⟩; again (.builtin "tuple.__new__" ⟨[.type "tuple", .ref d], []⟩)) _ _ s
  refine wpAny_bind (wpAny_of_eq (PySem.F.newCall_tuple_1 _) (wpAny_pure ⟨plainId_quiet PySem.F.plain_tuple_new _, codeAny_builtin PySem.F.entry_tuple_new ?_⟩))
  rw [Around.under_plainId PySem.F.plain_tuple_new _]
  have hsub := sub_tuple_self
  have hinit := init_tuple_lookup
  have hmh := madeHere_tuple
  have hTI : s.TypeIs (.ref d) "dict" := hok.dictOf.typeIs
  have hh1 : A.in1.handled = none := hh
  wp_walk using wpAny_typeOf hTI, collect_kdl (A := A.in1) (PySem.W.kdl_dict (knd := mixKind prog w) (kvs := kvs) (ep := ep) lo) hh1 hok hn
  intro h' tk acc hk hacc
  show wpAny _ _ (Builtin.Tuple.tupleExact acc.toList.toArray >>= fun v => ret v) _ _ _
  unfold Builtin.Tuple.tupleExact
  refine wpAny_bind (wpAny_newObj_type ?_ (by show acc.toList.toArray.size ≤ sizeLine; simp only [Array.toArray_toList]; rw [hacc.1]; exact hn))
  refine wpAny_pure ?_
  have e : acc.toList.toArray = acc := by simp
  rw [e]
  exact h h' tk acc hk hacc
theorem call_tuple_dict {kvs : List (Key × Value)} {ep : Nat} {Q : Value → Shared → Prop} (lo : (d == sysModules) = false) (hh : A.handled = none) (hok : s.heap.DictAt (mixKind prog w) d kvs ep) (hn : kvs.length ≤ sizeLine)
    (hQ : ∀ (h' : Heap) (tk : Nat) (acc : Array Value), (∀ b o, s.heap.get? b = some o → h'.get? b = some o) → ItemsOf (fun i v => ∃ k x, kvs[i]? = some (k, x) ∧ (mixKind prog w).is k v = true) acc kvs.length →
      Q (.ref h'.objs.size) { s with heap := h'.push { cls := .type "tuple", data := .seq acc }, toks := tk }) :
    wpAny (model prog w) A (call (.type "tuple") [.ref d]) Q E s := by
  refine callType_codes (Q₁ := fun obj s₁ => s₁.TypeIs obj "tuple" ∧ Q obj s₁) PySem.F.called_tuple (PySem.F.typeCall_tuple_1 _) PySem.F.entry_object_init
    (code_tuple_new_dict (A := A.in1) lo hh hok hn fun h' tk acc hk hacc => ⟨⟨_, Heap.get?_push_size _ rfl, rfl⟩, hQ h' tk acc hk hacc⟩) fun obj s₁ h₁ => ?_
  exact ⟨h₁.1, PySem.F.args_object_init_2 obj _, object_init_meets PySem.F.called_tuple.init.lookup PySem.F.called_tuple.made (by decide) prog w A.in1 _ s₁ ⟨h₁.1, rfl, h₁.2⟩⟩
end
def rTupleD : RC := fun xs H Q => ∃ (a : Addr) (kvs : List (Key × V)), xs = [.ref a] ∧ H a = some (.dK kvs) ∧ ∀ p, H p = none → Q (.ref p) (upd H p (.tup (kvs.map fun kv => kV kv.1)))
section
variable {X : Cx}
theorem call_tupleD (hcalm : X.calm = true) : CallR X (.type "tuple") rTupleD := by
  intro pins s σ H xs us Q I r q
  obtain ⟨a, kvs, ex, hd, q⟩ := q
  subst ex
  obtain ⟨u, eu, rx⟩ := vals1 r
  subst eu
  cases rx
  obtain ⟨z, lo, vs, rel, dd⟩ := dk_of I.hok hd
  obtain ⟨ep, hat⟩ := dd.dictAt
  have ek : (kvs.map fun kv => kV kv.1) = vs.map fun p => kV p.1 := by
    have e := congrArg (List.map kV) rel.keys
    rw [List.map_map, List.map_map] at e
    exact e
  refine call_tuple_dict lo (I.ok.hd hcalm) hat (by rw [← rel.length]; exact z) fun h' tk acc hk hacc => ?_
  have hv : Vals (vs.map fun p => kV p.1) acc.toList := keys_at (by rw [Array.length_toList]; exact hacc.1) fun j v e => hacc.2 j v (by rw [← Array.getElem?_toList]; exact e)
  have I1 : Inv X pins σ H { s with heap := h', toks := tk } := I.kept (t' := tk) hk
  have I2 : Inv X pins σ (upd H h'.objs.size (.tup (kvs.map fun kv => kV kv.1))) { s with heap := h'.push { cls := .type "tuple", data := .seq acc }, toks := tk } :=
    I1.laid (t' := tk) (fun b o e => Heap.get?_push_of_some _ e) (Nat.le_refl _) (show ObjOk X.prog X.w _ _ _ (.tup (kvs.map fun kv => kV kv.1)) from ⟨by rw [List.length_map]; exact z, acc.toList, by rw [ek]; exact hv, by rw [Array.toArray_toList]; exact IsTup.new _ _⟩)
  exact ⟨.ref h'.objs.size, _, I2, rfl, q _ (I1.hok.fresh (Nat.le_refl _))⟩
end
/-! ### more readings by short names -/
def rListOf (K : PySem.W.Frag) : RC := fun xs H Q => ∃ p ys, xs = [.ref p] ∧ (SqL K H p ys ∨ SqT K H p ys) ∧ ∀ l, H l = none → Q (.ref l) (upd H l (.lst ys))
def rListD (K : PySem.W.Frag) : RC := fun xs H Q => ∃ (a : Addr) (kvs : List (Key × V)), xs = [.ref a] ∧ Rd H a (.dK kvs) ∧ ∀ p, H p = none → Q (.ref p) (upd H p (.lst (kvs.map fun kv => kV kv.1)))
def rDictP (K : PySem.W.Frag) : RC := fun xs H Q => ∃ (a : Addr) (ps : List Addr) (kvs : List (Key × V)), xs = [.ref a] ∧ SqL K H a (ps.map V.ref) ∧ Paired (fun p kv => SqT K H p [kV kv.1, kv.2]) ps kvs ∧ ∀ p, H p = none → Q (.ref p) (upd H p (.dK (mergeK [] kvs)))
def rAbs : RC := fun xs H Q => ∃ i, xs = [.int i] ∧ Q (.int (if i < 0 then -i else i)) H
/-- nothing leaves -/
abbrev E0 : XK := fun _ _ _ => False
/-- a walk over the values of a dict -/
theorem for_vals {d : Addr} {o : Obj} {kvs : List (Key × V)} {g : TG} {tb : TS} {D : Ends} {σ : L2.St} {H : Hp} (Pv : Nat → L2.St → Hp → Prop) (h0 : Pv 0 σ H) (hl : ∀ i σ H, Pv i σ H → H d = some (.frz o (.dK kvs)))
    (hs : ∀ (i : Nat) (k : Key) (x : V) (σ : L2.St) (H : Hp), kvs[i]? = some (k, x) → Pv i σ H → g x σ H fun σ2 H2 => tb { D with nx := Pv (i + 1), ct := Pv (i + 1), bk := D.nx } σ2 H2) (hd : ∀ σ H, Pv kvs.length σ H → D.nx σ H) :
    ∃ W : Nat → Nat → L2.St → Hp → Prop, (∃ m, W 0 m σ H) ∧ ∀ i m σ H, W i m σ H →
      ((Itd d o kvs).stop i H ∧ D.nx σ H) ∨ ((Itd d o kvs).go i H ∧ ∃ N : L2.St → Hp → Prop, (∀ σ' H', N σ' H' → ∃ m', m' < m ∧ W (i + 1) m' σ' H') ∧ ∀ x H', (Itd d o kvs).yld i H x H' → g x σ H' fun σ2 H2 => tb { D with nx := N, ct := N, bk := D.nx } σ2 H2) := by
  refine ⟨fun i m σ H => m = kvs.length - i ∧ i ≤ kvs.length ∧ Pv i σ H, ⟨kvs.length, by simp, Nat.zero_le _, h0⟩, ?_⟩
  rintro i m σ H ⟨rfl, hi, p⟩
  have q := hl i σ H p
  by_cases hlt : i < kvs.length
  · refine .inr ⟨⟨q, hlt⟩, Pv (i + 1), fun σ' H' p' => ⟨kvs.length - (i + 1), by omega, rfl, hlt, p'⟩, fun x H' y => ?_⟩
    obtain ⟨e, k, y⟩ := y
    subst e
    exact hs i k x σ _ y p
  · have e : i = kvs.length := by omega
    subst e
    exact .inl ⟨⟨q, Nat.le_refl _⟩, hd σ H p⟩
end Rm

/-! O2: objects in the heap: slots, entries, what an Objects holds; plain functions over slots. -/
namespace Rm
open PySem PySem.Spec PyProof.Rows L2
/-! ### slots -/
structure Sl where
  name : Str
  kind : Str
  val : PyData
def getS : List Sl → Str → Option Sl
  | [], _ => none
  | s :: r, x => if s.name = x then some s else getS r x
def putS : List Sl → Sl → List Sl
  | [], n => [n]
  | s :: r, n => if s.name = n.name then n :: r else s :: putS r n
def dropS (sl : List Sl) (x : Str) : List Sl := sl.filter fun s => decide (s.name ≠ x)
def NdS (sl : List Sl) : Prop := (sl.map (·.name)).Nodup
/-- what the value of a slot may be: a tuple that begins with a word; a "ref" has a number -/
def ValOk (d : PyData) : Prop := ∃ w r, d = .tuple (.str w :: r) ∧ (w = ("ref" : Str) → ∃ i r', r = .int i :: r')
def refOf : PyData → Option Int
  | .tuple (.str w :: .int i :: _) => if w = ("ref" : Str) then some i else none
  | _ => none
def isPar (k : Str) : Bool := decide (k = ("parent" : Str)) || decide (k = ("varparent" : Str))
def parOf (s : Sl) : Option Int := if isPar s.kind = true then refOf s.val else none
def parS (sl : List Sl) : List Int := sl.filterMap parOf
theorem getS_mem : ∀ {sl : List Sl} {x : Str} {s : Sl}, getS sl x = some s → s ∈ sl ∧ s.name = x
  | [], _, _, h => by cases h
  | t :: r, x, s, h => by
    unfold getS at h
    split at h
    · rename_i e
      cases h
      exact ⟨List.mem_cons_self, e⟩
    · obtain ⟨a, b⟩ := getS_mem h
      exact ⟨List.mem_cons_of_mem _ a, b⟩
theorem getS_none : ∀ {sl : List Sl} {x : Str}, getS sl x = none → ∀ s ∈ sl, s.name ≠ x
  | [], _, _, _, h => by cases h
  | t :: r, x, h, s, hs => by
    unfold getS at h
    split at h
    · cases h
    · rename_i e
      rcases List.mem_cons.mp hs with rfl | hs
      · exact e
      · exact getS_none h s hs
theorem putS_names : ∀ (sl : List Sl) (n : Sl) (x : Str), x ∈ (putS sl n).map (·.name) → x ∈ sl.map (·.name) ∨ x = n.name
  | [], n, x, h => by
    rw [List.mem_singleton.mp h]
    exact .inr rfl
  | s :: r, n, x, h => by
    unfold putS at h
    split at h
    · rename_i e
      rcases List.mem_cons.mp h with rfl | h
      · exact .inr rfl
      · exact .inl (List.mem_cons_of_mem _ h)
    · rcases List.mem_cons.mp h with rfl | h
      · exact .inl List.mem_cons_self
      · rcases putS_names r n x h with h | h
        · exact .inl (List.mem_cons_of_mem _ h)
        · exact .inr h
theorem putS_nd : ∀ {sl : List Sl} (n : Sl), NdS sl → NdS (putS sl n)
  | [], n, _ => by
    show ([n.name] : List Str).Nodup
    simp
  | s :: r, n, h => by
    obtain ⟨h1, h2⟩ := List.nodup_cons.mp h
    unfold putS
    split
    · rename_i e
      have e : s.name = n.name := e
      refine List.nodup_cons.mpr ⟨?_, h2⟩
      show ¬ n.name ∈ _
      rw [← e]
      exact h1
    · rename_i e
      refine List.nodup_cons.mpr ⟨fun z => ?_, putS_nd n h2⟩
      rcases putS_names r n s.name z with z | z
      · exact h1 z
      · exact e z
theorem dropS_nd {sl : List Sl} (x : Str) (h : NdS sl) : NdS (dropS sl x) := List.Nodup.sublist (List.Sublist.map _ List.filter_sublist) h
theorem putS_mem : ∀ {sl : List Sl} {n s : Sl}, s ∈ putS sl n → s ∈ sl ∨ s = n
  | [], n, s, h => .inr (List.mem_singleton.mp h)
  | t :: r, n, s, h => by
    unfold putS at h
    split at h
    · rcases List.mem_cons.mp h with rfl | h
      · exact .inr rfl
      · exact .inl (List.mem_cons_of_mem _ h)
    · rcases List.mem_cons.mp h with rfl | h
      · exact .inl List.mem_cons_self
      · rcases putS_mem h with h | h
        · exact .inl (List.mem_cons_of_mem _ h)
        · exact .inr h
theorem putS_len : ∀ (sl : List Sl) (n : Sl), (putS sl n).length ≤ sl.length + 1
  | [], n => Nat.le_refl _
  | t :: r, n => by
    unfold putS
    split
    · exact Nat.le_succ _
    · exact Nat.succ_le_succ (putS_len r n)
/-! ### slots in the heap -/
inductive SlR (H : Hp) : List (Key × V) → List Sl → Prop
  | nil : SlR H [] []
  | cons {x k : Str} {q : Addr} {v : V} {d : PyData} {kvs : List (Key × V)} {sl : List Sl} (h : H q = some (.tup [.str k, v])) (t : Tr H v d) (r : SlR H kvs sl) : SlR H ((Sum.inr x, .ref q) :: kvs) (⟨x, k, d⟩ :: sl)
theorem SlR.keep {H H' : Hp} (k : TK H H') : ∀ {kvs : List (Key × V)} {sl : List Sl}, SlR H kvs sl → SlR H' kvs sl
  | _, _, .nil => .nil
  | _, _, .cons h t r => .cons (k _ _ h) (t.keep k) (r.keep k)
theorem SlR.len {H : Hp} : ∀ {kvs : List (Key × V)} {sl : List Sl}, SlR H kvs sl → kvs.length = sl.length
  | _, _, .nil => rfl
  | _, _, .cons _ _ r => congrArg Nat.succ r.len
theorem inr_ne {x y : Str} (h : ¬ x = y) : ¬ (Sum.inr x : Key) = Sum.inr y := fun e => h (Sum.inr.inj e)
theorem SlR.none_ {H : Hp} {x : Str} : ∀ {kvs : List (Key × V)} {sl : List Sl}, SlR H kvs sl → getS sl x = none → valV kvs (Sum.inr x : Key) = none
  | _, _, .nil, _ => rfl
  | _, _, .cons (x := y) h t r, e => by
    unfold getS at e
    split at e
    · cases e
    · rename_i n
      rw [valV_neg (inr_ne n)]
      exact r.none_ e
theorem SlR.some_ {H : Hp} {x : Str} {s : Sl} : ∀ {kvs : List (Key × V)} {sl : List Sl}, SlR H kvs sl → getS sl x = some s → ∃ q v, valV kvs (Sum.inr x : Key) = some (.ref q) ∧ H q = some (.tup [.str s.kind, v]) ∧ Tr H v s.val
  | _, _, .nil, e => by cases e
  | _, _, .cons (x := y) (q := q) (v := v) h t r, e => by
    unfold getS at e
    split at e
    · rename_i n
      cases e
      exact ⟨q, v, by rw [valV_pos (congrArg Sum.inr n)], h, t⟩
    · rename_i n
      rw [valV_neg (inr_ne n)]
      exact r.some_ e
theorem putK_cons {k0 k : Key} {v0 v : V} {r : List (Key × V)} (h : ¬ k0 = k) : putK ((k0, v0) :: r) k v = (k0, v0) :: putK r k v := by
  unfold putK
  rw [List.any_cons, decide_eq_false h, Bool.false_or]
  split
  · rw [List.map_cons, if_neg h]
  · rfl
theorem putK_first {k : Key} {v0 v : V} {r : List (Key × V)} (h : valV r k = none) : putK ((k, v0) :: r) k v = (k, v) :: r := by
  unfold putK
  rw [List.any_cons, decide_eq_true rfl, Bool.true_or, if_pos rfl, List.map_cons, if_pos rfl]
  congr 1
  have z : ∀ r : List (Key × V), valV r k = none → r.map (fun kv => if kv.1 = k then (kv.1, v) else kv) = r := by
    intro r
    induction r with
    | nil => exact fun _ => rfl
    | cons p r ih =>
      intro e
      by_cases c : p.1 = k
      · rw [valV_pos c] at e
        cases e
      · rw [valV_neg c] at e
        rw [List.map_cons, if_neg c, ih e]
  exact z r h
theorem SlR.put {H : Hp} {n : Sl} {q : Addr} {v : V} (hq : H q = some (.tup [.str n.kind, v])) (tv : Tr H v n.val) : ∀ {kvs : List (Key × V)} {sl : List Sl}, SlR H kvs sl → NdS sl → SlR H (putK kvs (Sum.inr n.name) (.ref q)) (putS sl n)
  | _, _, .nil, _ => .cons hq tv .nil
  | _, _, .cons (x := y) h t r, nd => by
    obtain ⟨n1, n2⟩ := List.nodup_cons.mp nd
    unfold putS
    split
    · rename_i e
      have e : y = n.name := e
      rename_i sl0 _
      have g : getS sl0 y = none := by
        cases z : getS sl0 y with
        | none => rfl
        | some s =>
          obtain ⟨m, em⟩ := getS_mem z
          exact absurd (List.mem_map.mpr ⟨s, m, em⟩) n1
      subst e
      rw [putK_first (r.none_ g)]
      exact .cons hq tv r
    · rename_i e
      rw [putK_cons (inr_ne e)]
      exact .cons h t (r.put hq tv n2)
theorem SlR.drop {H : Hp} {x : Str} : ∀ {kvs : List (Key × V)} {sl : List Sl}, SlR H kvs sl → SlR H (dropK kvs (Sum.inr x)) (dropS sl x)
  | _, _, .nil => .nil
  | _, _, .cons (x := y) h t r => by
    unfold dropS
    rw [List.filter_cons]
    by_cases c : y = x
    · rw [if_neg (by simp [c]), dropK_pos (congrArg Sum.inr c)]
      exact r.drop
    · rw [if_pos (by simp [c]), dropK_neg (inr_ne c)]
      exact .cons h t r.drop
/-- a tuple of triples (name, kind, value) -/
inductive TrpR (H : Hp) : List V → List Sl → Prop
  | nil : TrpR H [] []
  | cons {x k : Str} {t : Addr} {v : V} {d : PyData} {vs : List V} {sl : List Sl} (h : H t = some (.tup [.str x, .str k, v])) (tr : Tr H v d) (r : TrpR H vs sl) : TrpR H (.ref t :: vs) (⟨x, k, d⟩ :: sl)
theorem TrpR.keep {H H' : Hp} (k : TK H H') : ∀ {vs : List V} {sl : List Sl}, TrpR H vs sl → TrpR H' vs sl
  | _, _, .nil => .nil
  | _, _, .cons h t r => .cons (k _ _ h) (t.keep k) (r.keep k)
theorem TrpR.len {H : Hp} : ∀ {vs : List V} {sl : List Sl}, TrpR H vs sl → vs.length = sl.length
  | _, _, .nil => rfl
  | _, _, .cons _ _ r => congrArg Nat.succ r.len
theorem TrpR.at_ {H : Hp} : ∀ {vs : List V} {sl : List Sl} (i : Nat) {x : V}, TrpR H vs sl → vs[i]? = some x → ∃ s t v, sl[i]? = some s ∧ x = .ref t ∧ H t = some (.tup [.str s.name, .str s.kind, v]) ∧ Tr H v s.val
  | _, _, _, _, .nil, e => by simp at e
  | _, _, 0, _, .cons h t r, e => by
    cases e
    exact ⟨_, _, _, rfl, rfl, h, t⟩
  | _, _, i + 1, _, .cons h t r, e => r.at_ i e
theorem TrpR.snoc {H : Hp} {x k : Str} {t : Addr} {v : V} {d : PyData} (h : H t = some (.tup [.str x, .str k, v])) (tr : Tr H v d) : ∀ {vs : List V} {sl : List Sl}, TrpR H vs sl → TrpR H (vs ++ [.ref t]) (sl ++ [⟨x, k, d⟩])
  | _, _, .nil => .cons h tr .nil
  | _, _, .cons h1 t1 r => .cons h1 t1 (r.snoc h tr)
def mkS (ts : List Sl) : List Sl := ts.foldl putS []
theorem mkS_snoc (ts : List Sl) (n : Sl) : mkS (ts ++ [n]) = putS (mkS ts) n := by
  unfold mkS
  rw [List.foldl_append]
  rfl
/-! ### entries -/
structure En where
  id : Nat
  at_ : Addr
  sl : List Sl
def tabK (tab : List En) : List (Key × V) := tab.map fun e => (Sum.inl (e.id : Int), V.ref e.at_)
abbrev OC (K : PySem.W.Frag) : Addr := He.ga K ("Objects" : Str)
def obF (tb : Addr) (n : Int) : List (Str × V) := [("table", .ref tb), ("next_id", .int n)]
theorem neTN : ¬ (("table" : Str) = "next_id") := by decide +kernel
section
variable {tb : Addr} {i j : Int}
theorem obF_t : (obF tb i).lookup ("table" : Str) = some (.ref tb) := lk_eq
theorem obF_n : (obF tb i).lookup ("next_id" : Str) = some (.int i) := by
  unfold obF
  rw [lk_ne (fun e => neTN e.symm), lk_eq]
theorem obF_no {m : Str} (h1 : ¬ m = "table") (h2 : ¬ m = "next_id") : (obF tb i).lookup m = none := by
  unfold obF
  rw [lk_ne h1, lk_ne h2]
  rfl
theorem obF_put : putF ("next_id" : Str) (.int j) (obF tb i) = obF tb j := by
  unfold obF
  rw [pf_ne neTN, pf_eq]
theorem obF_init : putF ("next_id" : Str) (.int i) (putF ("table" : Str) (.ref tb) []) = obF tb i := by
  rw [pf_nil, pf_ne neTN, pf_nil]
  rfl
end
structure ObC (K : PySem.W.Frag) : Prop where
  cl : Cls K (OC K)
  nt : NoAttr K (OC K) "table"
  nn : NoAttr K (OC K) "next_id"
/-- an Objects at p, its table at tb, its entries tab, the next id nx -/
structure Ob (K : PySem.W.Frag) (H : Hp) (p dx tb : Addr) (tab : List En) (nx : Nat) : Prop where
  ins : H p = some (.ins (OC K) dx (obF tb (nx : Int)))
  tbl : H tb = some (.dK (tabK tab))
  ent : ∀ e ∈ tab, ∃ kvs, H e.at_ = some (.dK kvs) ∧ SlR H kvs e.sl
  nda : (tab.map (·.at_)).Nodup
  tbn : ∀ e ∈ tab, e.at_ ≠ tb
  ord : tab.Pairwise fun a b => a.id < b.id
  lt : ∀ e ∈ tab, e.id < nx
  nds : ∀ e ∈ tab, NdS e.sl
  val : ∀ e ∈ tab, ∀ s ∈ e.sl, ValOk s.val
/-- what stays while an Objects is changed -/
def KO (p tb : Addr) (tab : List En) (H H' : Hp) : Prop := ∀ b o, b ≠ p → b ≠ tb → (∀ e ∈ tab, b ≠ e.at_) → H b = some o → H' b = some o
theorem KO.refl (p tb : Addr) (tab : List En) (H : Hp) : KO p tb tab H H := fun _ _ _ _ _ h => h
theorem KO.of_same {p tb : Addr} {tab : List En} {H H' : Hp} (s : Same H H') : KO p tb tab H H' := fun b o _ _ _ h => s b o h
section
variable {K : PySem.W.Frag} {H H' : Hp} {p dx tb : Addr} {tab : List En} {nx : Nat}
theorem Ob.tk (h : Ob K H p dx tb tab nx) (k : KO p tb tab H H') : TK H H' := fun a xs e => k a _ (ne_of e h.ins (by intro z; cases z)) (ne_of e h.tbl (by intro z; cases z)) (fun n hn => by
  obtain ⟨kvs, e2, _⟩ := h.ent n hn
  exact ne_of e e2 (by intro z; cases z)) e
theorem Ob.same (h : Ob K H p dx tb tab nx) (s : Same H H') : Ob K H' p dx tb tab nx := ⟨s _ _ h.ins, s _ _ h.tbl, fun e he => by
  obtain ⟨kvs, e2, r⟩ := h.ent e he
  exact ⟨kvs, s _ _ e2, r.keep fun a xs z => s a _ z⟩, h.nda, h.tbn, h.ord, h.lt, h.nds, h.val⟩
/-- what else changes: nothing of it -/
theorem Ob.keep (h : Ob K H p dx tb tab nx) (hp : H' p = H p) (ht : H' tb = H tb) (he : ∀ e ∈ tab, H' e.at_ = H e.at_) (k : TK H H') : Ob K H' p dx tb tab nx := ⟨hp.trans h.ins, ht.trans h.tbl, fun e hm => by
  obtain ⟨kvs, e2, r⟩ := h.ent e hm
  exact ⟨kvs, (he e hm).trans e2, r.keep k⟩, h.nda, h.tbn, h.ord, h.lt, h.nds, h.val⟩
theorem tab_get : ∀ {tab : List En} {e : En}, tab.Pairwise (fun a b => a.id < b.id) → e ∈ tab → valV (tabK tab) (Sum.inl (e.id : Int) : Key) = some (.ref e.at_)
  | [], _, _, h => by cases h
  | t :: r, e, hp, h => by
    obtain ⟨h1, h2⟩ := List.pairwise_cons.mp hp
    rcases List.mem_cons.mp h with rfl | h
    · exact valV_pos rfl
    · have := h1 e h
      have n : ¬ ((Sum.inl (t.id : Int) : Key) = Sum.inl (e.id : Int)) := fun z => by
        have := Sum.inl.inj z
        omega
      show valV ((Sum.inl (t.id : Int), V.ref t.at_) :: tabK r) _ = _
      rw [valV_neg n]
      exact tab_get h2 h
theorem tab_none {i : Int} : ∀ {tab : List En}, (∀ e ∈ tab, (e.id : Int) ≠ i) → valV (tabK tab) (Sum.inl i : Key) = none
  | [], _ => rfl
  | t :: r, h => by
    have n : ¬ ((Sum.inl (t.id : Int) : Key) = Sum.inl i) := fun z => h t List.mem_cons_self (Sum.inl.inj z)
    show valV ((Sum.inl (t.id : Int), V.ref t.at_) :: tabK r) _ = _
    rw [valV_neg n]
    exact tab_none fun e he => h e (List.mem_cons_of_mem _ he)
theorem Ob.get (h : Ob K H p dx tb tab nx) {e : En} (he : e ∈ tab) : DGet H tb (.int (e.id : Int)) (some (.ref e.at_)) := .inl ⟨_, Sum.inl (e.id : Int), .inl h.tbl, rfl, (tab_get h.ord he).symm⟩
/-- entries of one place are one -/
theorem at_inj : ∀ {tab : List En} {a b : En}, (tab.map (·.at_)).Nodup → a ∈ tab → b ∈ tab → a.at_ = b.at_ → a = b
  | [], _, _, _, h, _, _ => by cases h
  | t :: r, a, b, nd, ha, hb, e => by
    obtain ⟨n1, n2⟩ := List.nodup_cons.mp nd
    rcases List.mem_cons.mp ha with ea | ha'
    · rcases List.mem_cons.mp hb with eb | hb'
      · rw [ea, eb]
      · subst ea
        exact absurd (List.mem_map.mpr ⟨b, hb', e.symm⟩) n1
    · rcases List.mem_cons.mp hb with eb | hb'
      · subst eb
        exact absurd (List.mem_map.mpr ⟨a, ha', e⟩) n1
      · exact at_inj n2 ha' hb' e
/-- an entry's slots are others now -/
def setE (tab : List En) (i : Nat) (sl : List Sl) : List En := tab.map fun e => if e.id = i then ⟨e.id, e.at_, sl⟩ else e
theorem setE_at (tab : List En) (i : Nat) (sl : List Sl) : (setE tab i sl).map (·.at_) = tab.map (·.at_) := by
  unfold setE
  rw [List.map_map]
  refine List.map_congr_left fun e _ => ?_
  show (if e.id = i then (⟨e.id, e.at_, sl⟩ : En) else e).at_ = e.at_
  split <;> rfl
theorem setE_id (tab : List En) (i : Nat) (sl : List Sl) : (setE tab i sl).map (·.id) = tab.map (·.id) := by
  unfold setE
  rw [List.map_map]
  refine List.map_congr_left fun e _ => ?_
  show (if e.id = i then (⟨e.id, e.at_, sl⟩ : En) else e).id = e.id
  split <;> rfl
theorem setE_K (tab : List En) (i : Nat) (sl : List Sl) : tabK (setE tab i sl) = tabK tab := by
  unfold setE tabK
  rw [List.map_map]
  refine List.map_congr_left fun e _ => ?_
  show ((Sum.inl (((if e.id = i then (⟨e.id, e.at_, sl⟩ : En) else e).id : Nat) : Int) : Key), V.ref (if e.id = i then (⟨e.id, e.at_, sl⟩ : En) else e).at_) = _
  split <;> rfl
theorem setE_mem {tab : List En} {i : Nat} {sl : List Sl} {e : En} (h : e ∈ setE tab i sl) : ∃ e0 ∈ tab, e = (if e0.id = i then ⟨e0.id, e0.at_, sl⟩ else e0) := by
  obtain ⟨e0, h0, h1⟩ := List.mem_map.mp h
  exact ⟨e0, h0, h1.symm⟩
theorem pw_ids {tab tab' : List En} (h : tab'.map (·.id) = tab.map (·.id)) (o : tab.Pairwise fun a b => a.id < b.id) : tab'.Pairwise fun a b => a.id < b.id := by
  have a : (tab.map (·.id)).Pairwise (· < ·) := List.pairwise_map.mpr o
  rw [← h] at a
  exact List.pairwise_map.mp a
theorem id_inj {tab : List En} (o : tab.Pairwise fun a b => a.id < b.id) {a b : En} (ha : a ∈ tab) (hb : b ∈ tab) (e : a.id = b.id) : a = b := by
  induction tab with
  | nil => cases ha
  | cons t r ih =>
    obtain ⟨h1, h2⟩ := List.pairwise_cons.mp o
    rcases List.mem_cons.mp ha with ea | ha'
    · rcases List.mem_cons.mp hb with eb | hb'
      · rw [ea, eb]
      · subst ea
        have := h1 b hb'
        omega
    · rcases List.mem_cons.mp hb with eb | hb'
      · subst eb
        have := h1 a ha'
        omega
      · exact ih h2 ha' hb'
/-- an entry's dict is written anew -/
theorem Ob.set (h : Ob K H p dx tb tab nx) {e : En} (he : e ∈ tab) {kvs : List (Key × V)} {sl : List Sl} (r : SlR H kvs sl) (nd : NdS sl) (vo : ∀ s ∈ sl, ValOk s.val) : Ob K (upd H e.at_ (.dK kvs)) p dx tb (setE tab e.id sl) nx := by
  obtain ⟨kv0, h0, r0⟩ := h.ent e he
  have tk : TK H (upd H e.at_ (.dK kvs)) := fun a xs z => by
    rw [upd_ne (ne_of z h0 (by intro z; cases z))]
    exact z
  refine ⟨?_, ?_, fun e1 h1 => ?_, by rw [setE_at]; exact h.nda, fun e1 h1 => ?_, pw_ids (setE_id tab e.id sl) h.ord, fun e1 h1 => ?_, fun e1 h1 => ?_, fun e1 h1 => ?_⟩
  · rw [upd_ne (ne_of h.ins h0 (by intro z; cases z))]
    exact h.ins
  · rw [upd_ne (Ne.symm (h.tbn e he)), setE_K]
    exact h.tbl
  · obtain ⟨e0, m0, rfl⟩ := setE_mem h1
    by_cases c : e0.id = e.id
    · rw [if_pos c]
      obtain rfl := id_inj h.ord m0 he c
      exact ⟨kvs, upd_same, r.keep tk⟩
    · rw [if_neg c]
      obtain ⟨kv1, g1, g2⟩ := h.ent e0 m0
      refine ⟨kv1, ?_, g2.keep tk⟩
      rw [upd_ne fun z => c (congrArg (·.id) (at_inj h.nda m0 he z))]
      exact g1
  · obtain ⟨e0, m0, rfl⟩ := setE_mem h1
    split
    · exact h.tbn e0 m0
    · exact h.tbn e0 m0
  · obtain ⟨e0, m0, rfl⟩ := setE_mem h1
    split
    · exact h.lt e0 m0
    · exact h.lt e0 m0
  · obtain ⟨e0, m0, rfl⟩ := setE_mem h1
    split
    · exact nd
    · exact h.nds e0 m0
  · obtain ⟨e0, m0, rfl⟩ := setE_mem h1
    split
    · exact vo
    · exact h.val e0 m0
theorem KO.set {e : En} (he : e ∈ tab) {o : HO} (k : KO p tb tab H H') : KO p tb tab H (upd H' e.at_ o) := fun b u n1 n2 n3 z => by
  rw [upd_ne (n3 e he)]
  exact k b u n1 n2 n3 z
theorem KO.new {a : Addr} {o : HO} (n : H a = none) (k : KO p tb tab H H') : KO p tb tab H (upd H' a o) := fun b u n1 n2 n3 z => by
  rw [upd_ne (ne_of_none z n)]
  exact k b u n1 n2 n3 z
theorem KO.trans {H2 : Hp} (a : KO p tb tab H H') (b : KO p tb tab H' H2) : KO p tb tab H H2 := fun c o n1 n2 n3 z => b c o n1 n2 n3 (a c o n1 n2 n3 z)
/-- free now, free before -/
theorem KO.free {a : Addr} (k : KO p tb tab H H') (h : Ob K H' p dx tb tab nx) (n : H' a = none) : H a = none := by
  cases z : H a with
  | none => rfl
  | some o =>
    have n1 : a ≠ p := fun e => by
      rw [e, h.ins] at n
      cases n
    have n2 : a ≠ tb := fun e => by
      rw [e, h.tbl] at n
      cases n
    have n3 : ∀ e ∈ tab, a ≠ e.at_ := fun e he q => by
      obtain ⟨kvs, g, _⟩ := h.ent e he
      rw [q, g] at n
      cases n
    rw [k a o n1 n2 n3 z] at n
    cases n
end
end Rm

/-! O3: the defs of objects and search: promises, readings (by gen.py), runs. -/
namespace Rm
open PySem PySem.Spec PyProof.Rows L2
/-! ### searches as plain functions -/
def entOf (tab : List En) (i : Int) : Option En := tab.find? fun e => decide ((e.id : Int) = i)
def slotOf (tab : List En) (x : Str) (i : Int) : Option Sl := (entOf tab i).bind fun e => getS e.sl x
def hasS (tab : List En) (x : Str) (i : Int) : Bool := (slotOf tab x i).isSome
def parI (tab : List En) (i : Int) : List Int := match entOf tab i with
  | some e => parS e.sl
  | none => []
def srF (tab : List En) (x : Str) : Nat → List Int → List Int → List Int → List Int × List Int
  | 0, L, A, _ => (L, A)
  | _ + 1, L, A, [] => (L, A)
  | m + 1, L, A, i :: w => if i ∈ L then srF tab x m L A w else if hasS tab x i = true then srF tab x m (L ++ [i]) (A ++ [i]) w else srF tab x m (L ++ [i]) A (parI tab i ++ w)
def bdS (tab : List En) : Nat := (tab.map fun e => (parS e.sl).length).sum
def fuel (tab : List En) (st : List Int) : Nat := tab.length * (bdS tab + 1) + st.length + 1
def srch (tab : List En) (x : Str) (st : List Int) : List Int × List Int := srF tab x (fuel tab st) [] [] st
def outD (tab : List En) (x : Str) : List Int → PyData
  | [] => .tuple [.str ("none" : Str)]
  | [h] => match slotOf tab x h with
    | some s => .tuple [.str ("found" : Str), .int h, .str s.kind, s.val]
    | none => .none
  | _ => .tuple [.str ("several" : Str)]
def resD (tab : List En) (x : Str) (r : List Int × List Int) : PyData := .tuple [outD tab x r.2, .tuple (r.1.map PyData.int)]
def isId (tab : List En) (i : Int) : Prop := ∃ e ∈ tab, (e.id : Int) = i
/-- what is referred to is there -/
def Closed (tab : List En) : Prop := ∀ e ∈ tab, ∀ i ∈ parS e.sl, isId tab i
def lobbyS : Sl := ⟨("lobby" : Str), ("const" : Str), .tuple [.str ("ref" : Str), .int 0]⟩
/-! ### promises -/
def sp_Objects_slot (K : PySem.W.Frag) : Sp := fun vs H Q _ => ∃ (p dx tb : Addr) (tab : List En) (nx : Nat) (e : En) (x : Str), vs = [.ref p, .int (e.id : Int), .str x] ∧ Ob K H p dx tb tab nx ∧ e ∈ tab ∧
  (getS e.sl x = none → Q .non H) ∧ ∀ s q v, getS e.sl x = some s → H q = some (.tup [.str s.kind, v]) → Tr H v s.val → Q (.ref q) H
def sp_Objects_put (K : PySem.W.Frag) : Sp := fun vs H Q _ => ∃ (p dx tb : Addr) (tab : List En) (nx : Nat) (e : En) (x k : Str) (v : V) (d : PyData), vs = [.ref p, .int (e.id : Int), .str x, .str k, v] ∧ Ob K H p dx tb tab nx ∧ e ∈ tab ∧ Tr H v d ∧ ValOk d ∧ e.sl.length ≤ 1000000 ∧
  ∀ H', KO p tb tab H H' → Ob K H' p dx tb (setE tab e.id (putS e.sl ⟨x, k, d⟩)) nx → Q .non H'
def sp_Objects_drop (K : PySem.W.Frag) : Sp := fun vs H Q _ => ∃ (p dx tb : Addr) (tab : List En) (nx : Nat) (e : En) (x : Str), vs = [.ref p, .int (e.id : Int), .str x] ∧ Ob K H p dx tb tab nx ∧ e ∈ tab ∧
  (getS e.sl x = none → Q (.bl false) H) ∧ (getS e.sl x ≠ none → ∀ H', KO p tb tab H H' → Ob K H' p dx tb (setE tab e.id (dropS e.sl x)) nx → Q (.bl true) H')
def sp_Objects_assign (K : PySem.W.Frag) : Sp := fun vs H Q _ => ∃ (p dx tb : Addr) (tab : List En) (nx : Nat) (e : En) (x : Str) (v : V) (d : PyData) (s : Sl), vs = [.ref p, .int (e.id : Int), .str x, v] ∧ Ob K H p dx tb tab nx ∧ e ∈ tab ∧ Tr H v d ∧ ValOk d ∧ e.sl.length ≤ 1000000 ∧ getS e.sl x = some s ∧
  ∀ H', KO p tb tab H H' → Ob K H' p dx tb (setE tab e.id (putS e.sl ⟨x, s.kind, d⟩)) nx → Q .non H'
def sp_Objects_parents (K : PySem.W.Frag) : Sp := fun vs H Q _ => ∃ (p dx tb : Addr) (tab : List En) (nx : Nat) (e : En), vs = [.ref p, .int (e.id : Int)] ∧ Ob K H p dx tb tab nx ∧ e ∈ tab ∧ e.sl.length ≤ 1000000 ∧
  ∀ q H', Same H H' → H q = none → H' q = some (.tup ((parS e.sl).map V.int)) → Q (.ref q) H'
def sp_Objects_make (K : PySem.W.Frag) : Sp := fun vs H Q _ => ∃ (p dx tb : Addr) (tab : List En) (nx : Nat) (a : Addr) (us : List V) (ts : List Sl), vs = [.ref p, .ref a] ∧ Ob K H p dx tb tab nx ∧ H a = some (.tup us) ∧ TrpR H us ts ∧ (∀ s ∈ ts, ValOk s.val) ∧ tab.length ≤ 1000000 ∧ ts.length ≤ 1000000 ∧
  ∀ o H', H o = none → KO p tb tab H H' → Ob K H' p dx tb (tab ++ [⟨nx, o, mkS ts⟩]) (nx + 1) → Q (.int (nx : Int)) H'
def sp_Objects_init (K : PySem.W.Frag) : Sp := fun vs H Q _ => ∃ (p dx : Addr), vs = [.ref p] ∧ H p = some (.ins (OC K) dx []) ∧
  ∀ tb o H', (∀ b u, b ≠ p → H b = some u → H' b = some u) → H tb = none → H o = none → Ob K H' p dx tb [⟨0, o, [lobbyS]⟩] 1 → Q .non H'
def sp_outcome_of (K : PySem.W.Frag) : Sp := fun vs H Q _ => ∃ (p dx tb : Addr) (tab : List En) (nx : Nat) (a : Addr) (hs : List Int) (x : Str), vs = [.ref p, .ref a, .str x] ∧ Ob K H p dx tb tab nx ∧ H a = some (.lst (hs.map V.int)) ∧ (∀ h ∈ hs, hasS tab x h = true) ∧
  ∀ q H', Same H H' → Tr H' (.ref q) (outD tab x hs) → Q (.ref q) H'
def sp_search (K : PySem.W.Frag) : Sp := fun vs H Q _ => ∃ (p dx tb : Addr) (tab : List En) (nx : Nat) (a : Addr) (st : List Int) (x : Str), vs = [.ref p, .ref a, .str x] ∧ Ob K H p dx tb tab nx ∧ H a = some (.tup (st.map V.int)) ∧ (∀ i ∈ st, isId tab i) ∧ Closed tab ∧ (∀ e ∈ tab, e.sl.length ≤ 1000000) ∧ fuel tab st ≤ 10000000 ∧
  ∀ q H', Same H H' → Tr H' (.ref q) (resD tab x (srch tab x st)) → Q (.ref q) H'
/-! ### readings -/

def ns_Objects_slot : List Str := ["self", "object_id", "name"]
def t_Objects_slot (K : PySem.W.Frag) (E : XK) : TS :=
  (tRet (tDGet1 (tDGet (tFld K (tVar 0) ("table" : Str)) (tVar 1)) (tVar 2)))

def ns_Objects_put : List Str := ["self", "object_id", "name", "kind", "value"]
def t_Objects_put (K : PySem.W.Frag) (E : XK) : TS :=
  (sDPut (tDGet (tFld K (tVar 0) ("table" : Str)) (tVar 1)) (tVar 2) (tTup (tCons (tVar 3) (tCons (tVar 4) tNil))))

def ns_Objects_drop : List Str := ["self", "object_id", "name"]
def t_Objects_drop (K : PySem.W.Frag) (E : XK) : TS :=
  (tSeq (tIfS (tB (tDNotIn (tVar 2) (tDGet (tFld K (tVar 0) ("table" : Str)) (tVar 1))))
      (tRet (tC (.bl false)))
      tNext)
    (tSeq (sDDel (tDGet (tFld K (tVar 0) ("table" : Str)) (tVar 1)) (tVar 2))
    (tRet (tC (.bl true)))))

def ns_Objects_assign : List Str := ["self", "object_id", "name", "value", "kind", "_"]
def t_Objects_assign (K : PySem.W.Frag) (E : XK) : TS :=
  (tSeq (tAsg (tDGet (tDGet (tFld K (tVar 0) ("table" : Str)) (tVar 1)) (tVar 2)) (gTup K 2 (gCons (gName 4) (gCons (gName 5) gNil))))
    (sDPut (tDGet (tFld K (tVar 0) ("table" : Str)) (tVar 1)) (tVar 2) (tTup (tCons (tVar 4) (tCons (tVar 3) tNil)))))

def ns_Objects_parents : List Str := ["self", "object_id", "found", "kind", "value"]
def t_Objects_parents (K : PySem.W.Frag) (E : XK) : TS :=
  (tSeq (tAsg (tLst tNil) (gName 2))
    (tSeq (tLock (tFor (iVals (tDGet (tFld K (tVar 0) ("table" : Str)) (tVar 1))) (gTup K 2 (gCons (gName 3) (gCons (gName 4) gNil)))
      (tIfS (tAnd (tTest (tOp (rIn K false) (tVar 3) (tC (.ref (He.ga K ("PARENT_KINDS" : Str)))))) (tTest (tOp rEq (tOp (rIxT K) (tVar 4) (tC (.int 0))) (tC (.str ("ref" : Str))))))
      (tDrop (tBM K "list" rAppend (tVar 2) (tCons (tOp (rIxT K) (tVar 4) (tC (.int 1))) tNil)))
      tNext)))
    (tRet (tCB (rTupleOf K) (tCons (tVar 2) tNil)))))

def ns_Objects_make : List Str := ["self", "slots", "object_id", "name", "kind", "value"]
def t_Objects_make (K : PySem.W.Frag) (E : XK) : TS :=
  (tSeq (tAsg (tFld K (tVar 0) ("next_id" : Str)) (gName 2))
    (tSeq (sFldAug K (tVar 0) (tC (.int 1)) rAdd ("next_id" : Str))
    (tSeq (sDPut (tFld K (tVar 0) ("table" : Str)) (tVar 2) tDNewK)
    (tSeq (tFor (iTup K (tVar 1)) (gTup K 3 (gCons (gName 3) (gCons (gName 4) (gCons (gName 5) gNil))))
      (tDrop (tMeth (He.ga K ("Objects" : Str)) ("put" : Str) (sp_Objects_put K) [] E (tVar 0) (tCons (tVar 2) (tCons (tVar 3) (tCons (tVar 4) (tCons (tVar 5) tNil)))))))
    (tRet (tVar 2))))))

def ns_Objects_init : List Str := ["self"]
def t_Objects_init (K : PySem.W.Frag) (E : XK) : TS :=
  (tSeq (sFld K (tVar 0) tDNewK ("table" : Str))
    (tSeq (sFld K (tVar 0) (tC (.int 0)) ("next_id" : Str))
    (tDrop (tMeth (He.ga K ("Objects" : Str)) ("make" : Str) (sp_Objects_make K) [] E (tVar 0) (tCons (tTup (tCons (tTup (tCons (tC (.str ("lobby" : Str))) (tCons (tC (.str ("const" : Str))) (tCons (tTup (tCons (tC (.str ("ref" : Str))) (tCons (tC (.int 0)) tNil))) tNil)))) tNil)) tNil)))))

def ns_outcome_of : List Str := ["objects", "holders", "name", "kind", "value"]
def t_outcome_of (K : PySem.W.Frag) (E : XK) : TS :=
  (tSeq (tIfS (tTest (tOp rEq (tCB (rLen K) (tCons (tVar 1) tNil)) (tC (.int 0))))
      (tRet (tTup (tCons (tC (.str ("none" : Str))) tNil)))
      tNext)
    (tSeq (tIfS (tTest (tOp rGtI (tCB (rLen K) (tCons (tVar 1) tNil)) (tC (.int 1))))
      (tRet (tTup (tCons (tC (.str ("several" : Str))) tNil)))
      tNext)
    (tSeq (tAsg (tMeth (He.ga K ("Objects" : Str)) ("slot" : Str) (sp_Objects_slot K) [] E (tVar 0) (tCons (tOp (rIxL K) (tVar 1) (tC (.int 0))) (tCons (tVar 2) tNil))) (gTup K 2 (gCons (gName 3) (gCons (gName 4) gNil))))
    (tRet (tTup (tCons (tC (.str ("found" : Str))) (tCons (tOp (rIxL K) (tVar 1) (tC (.int 0))) (tCons (tVar 3) (tCons (tVar 4) tNil)))))))))

def ns_search : List Str := ["objects", "starts", "name", "looked", "holders", "waiting", "object_id"]
def t_search (K : PySem.W.Frag) (E : XK) : TS :=
  (tSeq (tAsg tDNewK (gName 3))
    (tSeq (tAsg (tLst tNil) (gName 4))
    (tSeq (tAsg (tCB (rListOf K) (tCons (tRevT K (tVar 1)) tNil)) (gName 5))
    (tSeq (tWhile (tTest (tOp rGtI (tCB (rLen K) (tCons (tVar 5) tNil)) (tC (.int 0))))
      (tSeq (tAsg (tBM0 K "list" rPop (tVar 5)) (gName 6))
    (tSeq (tIfS (tB (tDIn (tVar 6) (tVar 3)))
      tCont
      tNext)
    (tSeq (sDPut (tVar 3) (tVar 6) (tC (.bl true)))
    (tIfS (tTest (tOp rNotN (tMeth (He.ga K ("Objects" : Str)) ("slot" : Str) (sp_Objects_slot K) [] E (tVar 0) (tCons (tVar 6) (tCons (tVar 2) tNil))) (tC .non)))
      (tDrop (tBM K "list" rAppend (tVar 4) (tCons (tVar 6) tNil)))
      (tDrop (tBM K "list" (rExtendT K) (tVar 5) (tCons (tRevT K (tMeth (He.ga K ("Objects" : Str)) ("parents" : Str) (sp_Objects_parents K) [] E (tVar 0) (tCons (tVar 6) tNil))) tNil))))))))
    (tRet (tTup (tCons (tCall (sp_outcome_of K) [] E (tCons (tVar 0) (tCons (tVar 4) (tCons (tVar 2) tNil)))) (tCons (tCB rTupleD (tCons (tVar 3) tNil)) tNil))))))))

section
variable {K : PySem.W.Frag} {vs : List V} {H : Hp} {Q : VK} {E : XK}
theorem run_Objects_slot (S : ObC K) (h : sp_Objects_slot K vs H Q E) : t_Objects_slot K E (DQ Q) (start ns_Objects_slot vs) H := by
  obtain ⟨p, dx, tb, tab, nx, e, x, rfl, O, he, q1, q2⟩ := h
  obtain ⟨kvs, hk, r⟩ := O.ent e he
  refine ⟨_, rfl, p, _, dx, _, _, rfl, O.ins, S.cl, S.nt, obF_t, _, rfl, tb, _, rfl, O.get he, e.at_, rfl, .inl ⟨_, .inl hk⟩, _, rfl, _, DGet.k (k := Sum.inr x) hk, ?_⟩
  cases z : getS e.sl x with
  | none =>
    rw [r.none_ z]
    exact q1 z
  | some s =>
    obtain ⟨qa, v, e1, e2, e3⟩ := r.some_ z
    rw [e1]
    exact q2 s qa v z e2 e3
theorem run_Objects_put (S : ObC K) (h : sp_Objects_put K vs H Q E) : t_Objects_put K E (DQ Q) (start ns_Objects_put vs) H := by
  obtain ⟨p, dx, tb, tab, nx, e, x, k, v, d, rfl, O, he, tv, vo, hl, q⟩ := h
  refine ⟨_, rfl, _, rfl, (by show 2 ≤ sizeLine; decide), fun qa nqa => ?_⟩
  have s1 := same_upd (o := .tup [V.str k, v]) nqa
  have O1 := O.same s1
  obtain ⟨kvs, hk, r⟩ := O1.ent e he
  refine ⟨_, rfl, p, _, dx, _, _, rfl, O1.ins, S.cl, S.nt, obF_t, _, rfl, tb, _, rfl, O1.get he, _, rfl, e.at_, _, rfl, DPut.k (k := Sum.inr x) hk (Nat.lt_of_le_of_lt (by rw [r.len]; exact hl) (by decide)), ?_⟩
  have r2 := r.put (n := ⟨x, k, d⟩) upd_same (tv.keep fun a xs z => s1 a _ z) (O1.nds e he)
  refine q _ (KO.set he (KO.of_same s1)) (O1.set he r2 (putS_nd _ (O1.nds e he)) fun s hs => ?_)
  rcases putS_mem hs with hs | rfl
  · exact O1.val e he s hs
  · exact vo
theorem run_Objects_drop (S : ObC K) (h : sp_Objects_drop K vs H Q E) : t_Objects_drop K E (DQ Q) (start ns_Objects_drop vs) H := by
  obtain ⟨p, dx, tb, tab, nx, e, x, rfl, O, he, q1, q2⟩ := h
  obtain ⟨kvs, hk, r⟩ := O.ent e he
  refine ⟨_, rfl, _, rfl, p, _, dx, _, _, rfl, O.ins, S.cl, S.nt, obF_t, _, rfl, tb, _, rfl, O.get he, e.at_, _, rfl, DGet.k (k := Sum.inr x) hk, _, rfl, ?_⟩
  cases z : getS e.sl x with
  | none =>
    rw [r.none_ z]
    exact iteT (q1 z)
  | some s =>
    obtain ⟨qa, v, e1, e2, e3⟩ := r.some_ z
    rw [e1]
    refine iteF ?_
    refine ⟨_, rfl, p, _, dx, _, _, rfl, O.ins, S.cl, S.nt, obF_t, _, rfl, tb, _, rfl, O.get he, _, rfl, e.at_, kvs, Sum.inr x, rfl, hk, rfl, by rw [e1]; rfl, ?_⟩
    refine q2 (by rw [z]; intro y; cases y) _ (KO.set he (KO.refl p tb tab H)) (O.set he r.drop (dropS_nd x (O.nds e he)) fun s hs => O.val e he s (List.mem_filter.mp hs).1)
theorem run_Objects_assign (S : ObC K) (h : sp_Objects_assign K vs H Q E) : t_Objects_assign K E (DQ Q) (start ns_Objects_assign vs) H := by
  obtain ⟨p, dx, tb, tab, nx, e, x, v, d, s, rfl, O, he, tv, vo, hl, hs, q⟩ := h
  obtain ⟨kvs, hk, r⟩ := O.ent e he
  obtain ⟨qa, v0, e1, e2, e3⟩ := r.some_ hs
  have g : DGet H e.at_ (.str x) (some (.ref qa)) := .inl ⟨_, Sum.inr x, .inl hk, rfl, e1.symm⟩
  refine ⟨_, rfl, p, _, dx, _, _, rfl, O.ins, S.cl, S.nt, obF_t, _, rfl, tb, _, rfl, O.get he, _, rfl, e.at_, _, rfl, g, ?_⟩
  refine ⟨qa, _, rfl, SqT.of e2, rfl, _, _, rfl, _, _, rfl, rfl, ?_⟩
  refine ⟨_, rfl, _, rfl, (by show 2 ≤ sizeLine; decide), fun qb nqb => ?_⟩
  have s1 := same_upd (o := .tup [V.str s.kind, v]) nqb
  have O1 := O.same s1
  refine ⟨_, rfl, p, _, dx, _, _, rfl, O1.ins, S.cl, S.nt, obF_t, _, rfl, tb, _, rfl, O1.get he, _, rfl, e.at_, _, rfl, DPut.k (k := Sum.inr x) (s1 _ _ hk) (Nat.lt_of_le_of_lt (by rw [r.len]; exact hl) (by decide)), ?_⟩
  have r2 := (r.keep (H' := upd H qb (.tup [V.str s.kind, v])) fun a xs z => s1 a _ z).put (n := ⟨x, s.kind, d⟩) upd_same (tv.keep fun a xs z => s1 a _ z) (O1.nds e he)
  refine q _ (KO.set he (KO.of_same s1)) (O1.set he r2 (putS_nd _ (O1.nds e he)) fun t ht => ?_)
  rcases putS_mem ht with ht | rfl
  · exact O1.val e he t ht
  · exact vo
theorem SlR.at_ {H : Hp} : ∀ {kvs : List (Key × V)} {sl : List Sl} (i : Nat) {k : Key} {x : V}, SlR H kvs sl → kvs[i]? = some (k, x) → ∃ s q v, sl[i]? = some s ∧ x = .ref q ∧ H q = some (.tup [.str s.kind, v]) ∧ Tr H v s.val
  | _, _, _, _, _, .nil, e => by simp at e
  | _, _, 0, _, _, .cons h t r, e => by
    cases e
    exact ⟨_, _, _, rfl, rfl, h, t⟩
  | _, _, i + 1, _, _, .cons h t r, e => r.at_ i e
theorem parS_snoc (a : List Sl) (s : Sl) : parS (a ++ [s]) = parS a ++ (parOf s).toList := by
  unfold parS
  rw [List.filterMap_append]
  cases z : parOf s with
  | none => rw [List.filterMap_cons_none z]; rfl
  | some i => rw [List.filterMap_cons_some z]; rfl
theorem parS_len (a : List Sl) : (parS a).length ≤ a.length := List.length_filterMap_le _ _
theorem in_kinds (k : Str) : inV (.str k) (["parent", "varparent"].map mS) = isPar k := by
  have e : ["parent", "varparent"].map mS = [("parent" : Str), ("varparent" : Str)].map V.str := rfl
  rw [e, in_strs]
  unfold isPar
  rw [Bool.eq_iff_iff]
  simp
theorem run_Objects_parents (S : ObC K) (hP : ∀ H, SqT K H (He.ga K ("PARENT_KINDS" : Str)) (["parent", "varparent"].map mS)) (h : sp_Objects_parents K vs H Q E) : t_Objects_parents K E (DQ Q) (start ns_Objects_parents vs) H := by
  obtain ⟨p, dx, tb, tab, nx, e, rfl, O, he, hl, q⟩ := h
  refine ⟨(by show 0 ≤ sizeLine; decide), fun f nf => ?_⟩
  have s1 := same_upd (o := .lst []) nf
  have O1 := O.same s1
  obtain ⟨kvs, hk, r⟩ := O1.ent e he
  refine ⟨e.at_, .dK kvs, hk, trivial, fun od => ?_⟩
  have np : p ≠ e.at_ := ne_of O1.ins hk (by intro z; cases z)
  have nt : tb ≠ e.at_ := Ne.symm (O1.tbn e he)
  have nfe : f ≠ e.at_ := ne_of upd_same hk (by intro z; cases z)
  have hp : (upd (upd H f (.lst [])) e.at_ (.frz od (.dK kvs))) p = _ := (upd_ne np).trans O1.ins
  have ht : (upd (upd H f (.lst [])) e.at_ (.frz od (.dK kvs))) tb = _ := (upd_ne nt).trans O1.tbl
  have hg : DGet (upd (upd H f (.lst [])) e.at_ (.frz od (.dK kvs))) tb (.int (e.id : Int)) (some (.ref e.at_)) := .inl ⟨_, Sum.inl (e.id : Int), .inl ht, rfl, (tab_get O.ord he).symm⟩
  refine ⟨_, rfl, p, _, dx, _, _, rfl, hp, S.cl, S.nt, obF_t, _, rfl, tb, _, rfl, hg, e.at_, od, kvs, rfl, upd_same, ?_⟩
  have lk : kvs.length = e.sl.length := r.len
  refine for_vals (fun i σ G => (∃ v3 v4 : Option V, σ = [some (.ref p), some (.int (e.id : Int)), some (.ref f), v3, v4]) ∧ G f = some (.lst ((parS (e.sl.take i)).map V.int)) ∧ ∀ b, b ≠ f → G b = (upd (upd H f (.lst [])) e.at_ (.frz od (.dK kvs))) b)
    ⟨⟨none, none, rfl⟩, (upd_ne nfe).trans upd_same, fun _ _ => rfl⟩ (fun i σ G z => (z.2.2 _ (Ne.symm nfe)).trans upd_same) ?_ ?_
  · rintro i k x σ G hx ⟨⟨v3, v4, rfl⟩, gf, gb⟩
    obtain ⟨s, qa, v, es, rfl, hq, tv⟩ := r.at_ i hx
    have hi : i < e.sl.length := (List.getElem?_eq_some_iff.mp es).1
    have tup : ∀ a xs, (upd H f (.lst [])) a = some (.tup xs) → G a = some (.tup xs) := fun a xs z => by
      rw [gb a (ne_of z upd_same (by intro z; cases z)), upd_ne (ne_of z hk (by intro z; cases z))]
      exact z
    have et : e.sl.take (i + 1) = e.sl.take i ++ [s] := by rw [List.take_add_one, es]; rfl
    refine ⟨qa, _, rfl, SqT.of (tup _ _ hq), rfl, _, _, rfl, _, _, rfl, rfl, ?_⟩
    refine ⟨_, rfl, _, _, rfl, .inr (hP G), rfl, rfl, _, rfl, ?_⟩
    show (if inV (.str s.kind) (["parent", "varparent"].map mS) = true then _ else _)
    rw [in_kinds]
    have vo := O.val e he s (List.mem_of_getElem? es)
    obtain ⟨w, rs, ev, hw⟩ := vo
    have keep : parOf s = none → G f = some (.lst ((parS (e.sl.take (i + 1))).map V.int)) := fun z => by
      rw [et, parS_snoc, z, gf]
      simp
    refine ite2 (fun c => ?_) (fun c => ?_)
    · rw [ev] at tv
      cases tv with
      | @tup a xs ds ha rt =>
        cases rt with
        | @cons v0 vs0 d0 ds0 t0 rt =>
          cases t0
          refine ⟨_, rfl, a, _, _, _, rfl, rfl, SqT.of (tup _ _ ha), atI_nat (j := 0) rfl, rfl, _, rfl, ?_⟩
          refine ite2 (fun cw => ?_) (fun cw => ?_)
          · have cw : w = ("ref" : Str) := V.str.inj (of_decide_eq_true cw)
            obtain ⟨j, r', er⟩ := hw cw
            subst er
            cases rt with
            | @cons v1 vs1 d1 ds1 t1 rt =>
              cases t1
              have ep : parOf s = some j := by
                unfold parOf
                rw [if_pos c, ev]
                show (if w = ("ref" : Str) then some j else none) = _
                rw [if_pos cw]
              refine ⟨_, rfl, .inl ⟨rfl, _, SqL.of gf⟩, _, rfl, a, _, _, _, rfl, rfl, SqT.of (tup _ _ ha), atI_nat (j := 1) rfl, f, _, _, rfl, rfl, gf, ?_, ?_⟩
              · rw [List.length_map]
                refine Nat.lt_of_le_of_lt (parS_len _) (Nat.lt_of_le_of_lt (List.length_take_le _ _) (Nat.lt_of_lt_of_le hi ?_))
                exact Nat.le_trans hl (by decide)
              · refine ⟨⟨_, _, rfl⟩, ?_, fun b n => (upd_ne n).trans (gb b n)⟩
                rw [upd_same, et, parS_snoc, ep, List.map_append]
                rfl
          · have cw : ¬ w = ("ref" : Str) := fun z => cw (decide_eq_true (by rw [z]))
            have ep : parOf s = none := by
              unfold parOf
              rw [if_pos c, ev]
              unfold refOf
              split
              · rename_i w2 j2 r2 e2
                injection e2 with e2
                injection e2 with e2 e3
                injection e2 with e2
                subst e2
                rw [if_neg cw]
              · rfl
            exact ⟨⟨_, _, rfl⟩, keep ep, gb⟩
    · have ep : parOf s = none := by
        unfold parOf
        rw [if_neg c]
      exact ⟨⟨_, _, rfl⟩, keep ep, gb⟩
  · rintro σ G ⟨⟨v3, v4, rfl⟩, gf, gb⟩
    rw [lk, List.take_length] at gf
    refine ⟨(gb _ (Ne.symm nfe)).trans upd_same, ?_⟩
    have gf2 : (upd G e.at_ (.dK kvs)) f = some (.lst ((parS e.sl).map V.int)) := (upd_ne nfe).trans gf
    have sm : Same H (upd G e.at_ (.dK kvs)) := fun b u z => by
      have z1 := s1 b u z
      by_cases c : b = e.at_
      · rw [c] at z1 ⊢
        rw [upd_same, ← hk, z1]
      · rw [upd_ne c, gb b (ne_of_none z nf), upd_ne c]
        exact z1
    refine ⟨_, rfl, f, _, rfl, .inl ⟨SqL.of gf2, fun l nl => ?_⟩⟩
    exact q l _ (sm.trans (same_upd nl)) (Same.free sm nl) upd_same
theorem run_Objects_make (S : ObC K) (h : sp_Objects_make K vs H Q E) : t_Objects_make K E (DQ Q) (start ns_Objects_make vs) H := by
  obtain ⟨p, dx, tb, tab, nx, a, us, ts, rfl, O, ha, tr, vo, ht, hts, q⟩ := h
  refine ⟨_, rfl, p, _, dx, _, _, rfl, O.ins, S.cl, S.nn, obF_n, ?_⟩
  refine ⟨_, rfl, p, _, dx, _, _, rfl, O.ins, S.cl, S.nn, obF_n, _, _, rfl, rfl, dx, _, O.ins, (by show 2 < 1000; decide), ?_⟩
  rw [obF_put]
  have ntp : tb ≠ p := ne_of O.tbl O.ins (by intro z; cases z)
  intro o no
  have np : p ≠ o := ne_of_none upd_same no
  have no0 : H o = none := by
    rw [upd_ne (Ne.symm np)] at no
    exact no
  have nto : tb ≠ o := ne_of_none O.tbl no0
  refine ⟨_, rfl, p, _, dx, _, _, rfl, (upd_ne np).trans upd_same, S.cl, S.nt, obF_t, _, rfl, tb, _, rfl, DPut.k (k := Sum.inl (nx : Int)) ((upd_ne nto).trans ((upd_ne ntp).trans O.tbl)) (Nat.lt_of_le_of_lt (by unfold tabK; rw [List.length_map]; exact ht) (by decide)), ?_⟩
  have nn : ∀ e ∈ tab, (e.id : Int) ≠ (nx : Int) := fun e he z => by
    have := O.lt e he
    omega
  rw [putK_new _ (tab_none nn)]
  have et : tabK tab ++ [(Sum.inl (nx : Int), V.ref o)] = tabK (tab ++ [⟨nx, o, []⟩]) := by
    unfold tabK
    rw [List.map_append]
    rfl
  rw [et]
  have ko : KO p tb tab H (upd (upd (upd H p (.ins (OC K) dx (obF tb ((nx : Int) + 1)))) o (.dK [])) tb (.dK (tabK (tab ++ [⟨nx, o, []⟩])))) := fun b u n1 n2 n3 z => by
    rw [upd_ne n2, upd_ne (ne_of_none z no0), upd_ne n1]
    exact z
  have neo : ∀ e ∈ tab, e.at_ ≠ o := fun e he => by
    obtain ⟨kvs, g, _⟩ := O.ent e he
    exact ne_of_none g no0
  have tk := O.tk ko
  have O1 : Ob K (upd (upd (upd H p (.ins (OC K) dx (obF tb ((nx : Int) + 1)))) o (.dK [])) tb (.dK (tabK (tab ++ [⟨nx, o, []⟩])))) p dx tb (tab ++ [⟨nx, o, mkS (ts.take 0)⟩]) (nx + 1) := by
    refine ⟨?_, upd_same, fun e he => ?_, ?_, fun e he => ?_, ?_, fun e he => ?_, fun e he => ?_, fun e he => ?_⟩
    · rw [upd_ne (Ne.symm ntp), upd_ne np, upd_same]
      rfl
    · rcases List.mem_append.mp he with he | he
      · obtain ⟨kvs, g, r⟩ := O.ent e he
        refine ⟨kvs, ?_, r.keep tk⟩
        rw [upd_ne (O.tbn e he), upd_ne (neo e he), upd_ne (ne_of g O.ins (by intro z; cases z))]
        exact g
      · rw [List.mem_singleton.mp he]
        exact ⟨[], by rw [upd_ne (Ne.symm nto), upd_same], .nil⟩
    · rw [List.map_append]
      refine List.nodup_append.mpr ⟨O.nda, by simp, fun x hx y hy => ?_⟩
      obtain ⟨e, he, rfl⟩ := List.mem_map.mp hx
      rw [List.mem_singleton.mp hy]
      exact neo e he
    · rcases List.mem_append.mp he with he | he
      · exact O.tbn e he
      · rw [List.mem_singleton.mp he]
        exact Ne.symm nto
    · refine List.pairwise_append.mpr ⟨O.ord, List.pairwise_singleton _ _, fun x hx y hy => ?_⟩
      rw [List.mem_singleton.mp hy]
      exact O.lt x hx
    · rcases List.mem_append.mp he with he | he
      · exact Nat.lt_succ_of_lt (O.lt e he)
      · rw [List.mem_singleton.mp he]
        exact Nat.lt_succ_self _
    · rcases List.mem_append.mp he with he | he
      · exact O.nds e he
      · rw [List.mem_singleton.mp he]
        exact List.nodup_nil
    · rcases List.mem_append.mp he with he | he
      · exact O.val e he
      · rw [List.mem_singleton.mp he]
        exact fun s hs => by cases hs
  generalize (upd (upd (upd H p (.ins (OC K) dx (obF tb ((nx : Int) + 1)))) o (.dK [])) tb (.dK (tabK (tab ++ [⟨nx, o, []⟩])))) = G0 at ko tk O1 ⊢
  have ha0 := tk _ _ ha
  refine ⟨_, rfl, a, rfl, ⟨_, SqT.of ha0⟩, ?_⟩
  have mk_len : ∀ l : List Sl, (mkS l).length ≤ l.length := fun l => by
    have z : ∀ (l acc : List Sl), (l.foldl putS acc).length ≤ acc.length + l.length := by
      intro l
      induction l with
      | nil => exact fun acc => Nat.le_refl _
      | cons s l ih =>
        intro acc
        have a := ih (putS acc s)
        have b := putS_len acc s
        rw [List.foldl_cons, List.length_cons]
        omega
    have := z l []
    simpa [mkS] using this
  refine for_tup (xs := us) (fun i σ G => (∃ v3 v4 v5 : Option V, σ = [some (.ref p), some (.ref a), some (.int (nx : Int)), v3, v4, v5]) ∧ KO p tb tab H G ∧ Ob K G p dx tb (tab ++ [⟨nx, o, mkS (ts.take i)⟩]) (nx + 1)) ⟨⟨none, none, none, rfl⟩, ko, O1⟩
    (fun i σ G _ z => SqT.of (O.tk z.2.1 _ _ ha)) ?_ ?_
  · rintro i x σ G hx ⟨⟨v3, v4, v5, rfl⟩, kg, OG⟩
    obtain ⟨s, t, v, es, rfl, hq, tv⟩ := tr.at_ i hx
    have tkg := O.tk kg
    have hi : i < ts.length := (List.getElem?_eq_some_iff.mp es).1
    have em : (⟨nx, o, mkS (ts.take i)⟩ : En) ∈ tab ++ [⟨nx, o, mkS (ts.take i)⟩] := List.mem_append_right _ (List.mem_singleton.mpr rfl)
    refine ⟨t, _, rfl, SqT.of (tkg _ _ hq), rfl, _, _, rfl, _, _, rfl, _, _, rfl, rfl, ?_⟩
    refine ⟨_, rfl, p, dx, _, rfl, OG.ins, obF_no (by decide +kernel) (by decide +kernel), _, rfl, _, rfl, _, rfl, _, rfl, ?_⟩
    refine ⟨p, dx, tb, _, nx + 1, _, s.name, s.kind, v, s.val, rfl, OG, em, tv.keep tkg, vo s (List.mem_of_getElem? es), Nat.le_trans (mk_len _) (Nat.le_trans (List.length_take_le _ _) (by omega)), fun G2 k2 O2 => ?_⟩
    have e2 : setE (tab ++ [⟨nx, o, mkS (ts.take i)⟩]) nx (putS (mkS (ts.take i)) ⟨s.name, s.kind, s.val⟩) = tab ++ [⟨nx, o, mkS (ts.take (i + 1))⟩] := by
      unfold setE
      rw [List.map_append]
      have a1 : tab.map (fun e => if e.id = nx then (⟨e.id, e.at_, putS (mkS (ts.take i)) ⟨s.name, s.kind, s.val⟩⟩ : En) else e) = tab := by
        have z : ∀ e ∈ tab, (fun e : En => if e.id = nx then (⟨e.id, e.at_, putS (mkS (ts.take i)) ⟨s.name, s.kind, s.val⟩⟩ : En) else e) e = id e := fun e he => by
          have := O.lt e he
          exact if_neg (by omega)
        rw [List.map_congr_left z, List.map_id]
      have a2 : ts.take (i + 1) = ts.take i ++ [s] := by rw [List.take_add_one, es]; rfl
      rw [a1, a2, mkS_snoc, List.map_cons, List.map_nil, if_pos rfl]
    rw [e2] at O2
    refine ⟨⟨_, _, _, rfl⟩, fun b u c1 c2 c3 z => ?_, O2⟩
    refine k2 b u c1 c2 (fun e he => ?_) (kg b u c1 c2 c3 z)
    rcases List.mem_append.mp he with he | he
    · exact c3 e he
    · rw [List.mem_singleton.mp he]
      exact ne_of_none z no0
  · rintro σ G ⟨⟨v3, v4, v5, rfl⟩, kg, OG⟩
    rw [tr.len, List.take_length] at OG
    exact ⟨_, rfl, q o G no0 kg OG⟩
theorem run_Objects_init (S : ObC K) (h : sp_Objects_init K vs H Q E) : t_Objects_init K E (DQ Q) (start ns_Objects_init vs) H := by
  obtain ⟨p, dx, rfl, hp, q⟩ := h
  intro tb nt
  have npt : p ≠ tb := ne_of_none hp nt
  refine ⟨_, rfl, p, _, dx, _, rfl, (upd_ne npt).trans hp, S.cl, S.nt, (by show 0 < 1000; decide), ?_⟩
  refine ⟨_, rfl, p, _, dx, _, rfl, upd_same, S.cl, S.nn, (by show 1 < 1000; decide), ?_⟩
  rw [obF_init, upd_upd]
  have O1 : Ob K (upd (upd H tb (.dK [])) p (.ins (OC K) dx (obF tb 0))) p dx tb [] 0 := ⟨upd_same, (upd_ne (Ne.symm npt)).trans upd_same, (fun e he => by cases he), List.nodup_nil, (fun e he => by cases he), .nil, (fun e he => by cases he), (fun e he => by cases he), fun e he => by cases he⟩
  have k1 : ∀ b u, b ≠ p → H b = some u → (upd (upd H tb (.dK [])) p (.ins (OC K) dx (obF tb 0))) b = some u := fun b u n z => by
    rw [upd_ne n, upd_ne (ne_of_none z nt)]
    exact z
  refine ⟨_, rfl, p, dx, _, rfl, upd_same, obF_no (by decide +kernel) (by decide +kernel), (by show 2 ≤ sizeLine; decide), fun r1 n1 => ⟨(by show 3 ≤ sizeLine; decide), fun r2 n2 => ⟨(by show 1 ≤ sizeLine; decide), fun r3 n3 => ?_⟩⟩⟩
  have s1 := same_upd (o := .tup [V.str ("ref" : Str), V.int 0]) n1
  have s2 := same_upd (o := .tup [V.str ("lobby" : Str), V.str ("const" : Str), V.ref r1]) n2
  have s3 := same_upd (o := .tup [V.ref r2]) n3
  have O2 := ((O1.same s1).same s2).same s3
  have T1 := Tr.tup (ds := [.str ("ref" : Str), .int 0]) (s3 _ _ (s2 _ _ (upd_same (H := (upd (upd H tb (.dK [])) p (.ins (OC K) dx (obF tb 0)))) (a := r1) (o := .tup [V.str ("ref" : Str), V.int 0])))) (.cons (.str _) (.cons (.int _) .nil))
  refine ⟨p, dx, tb, [], 0, r3, [.ref r2], [lobbyS], rfl, O2, upd_same, .cons (s3 _ _ upd_same) T1 .nil, (fun s hs => ?_), by decide, (by show 1 ≤ 1000000; decide), fun o H' no ko O3 => ?_⟩
  · rw [List.mem_singleton.mp hs]
    exact ⟨_, _, rfl, fun _ => ⟨_, _, rfl⟩⟩
  · have no1 : (upd (upd H tb (.dK [])) p (.ins (OC K) dx (obF tb 0))) o = none := Same.free ((s1.trans s2).trans s3) no
    have no2 : H o = none := by
      have a : o ≠ p := fun z => by
        rw [z, upd_same] at no1
        cases no1
      rw [upd_ne a] at no1
      have b : o ≠ tb := fun z => by
        rw [z, upd_same] at no1
        cases no1
      rw [upd_ne b] at no1
      exact no1
    refine q tb o H' (fun b u n z => ?_) nt no2 O3
    exact ko b u n (ne_of_none z nt) (fun e he => by cases he) (s3 _ _ (s2 _ _ (s1 _ _ (k1 b u n z))))
theorem entOf_mem {tab : List En} (o : tab.Pairwise fun a b => a.id < b.id) {e : En} (he : e ∈ tab) : entOf tab (e.id : Int) = some e := by
  unfold entOf
  cases z : tab.find? fun a => decide ((a.id : Int) = (e.id : Int)) with
  | none =>
    have := List.find?_eq_none.mp z e he
    simp at this
  | some a =>
    have h1 := List.find?_some z
    have h2 := List.mem_of_find?_eq_some z
    have h1 : (a.id : Int) = (e.id : Int) := of_decide_eq_true h1
    rw [id_inj o h2 he (by omega)]
theorem slotOf_mem {tab : List En} (o : tab.Pairwise fun a b => a.id < b.id) {e : En} (he : e ∈ tab) (x : Str) : slotOf tab x (e.id : Int) = getS e.sl x := by
  unfold slotOf
  rw [entOf_mem o he]
  rfl
theorem parI_mem {tab : List En} (o : tab.Pairwise fun a b => a.id < b.id) {e : En} (he : e ∈ tab) : parI tab (e.id : Int) = parS e.sl := by
  unfold parI
  rw [entOf_mem o he]
theorem hasS_id {tab : List En} {x : Str} {i : Int} (h : hasS tab x i = true) : ∃ e ∈ tab, (e.id : Int) = i ∧ ∃ s, getS e.sl x = some s := by
  unfold hasS slotOf entOf at h
  cases z : tab.find? fun a => decide ((a.id : Int) = i) with
  | none =>
    rw [z] at h
    cases h
  | some a =>
    rw [z] at h
    have h : (getS a.sl x).isSome = true := h
    have h1 := List.find?_some z
    obtain ⟨s, hs⟩ := Option.isSome_iff_exists.mp h
    exact ⟨a, List.mem_of_find?_eq_some z, of_decide_eq_true h1, s, hs⟩
theorem int_nat {i : Int} (h : 0 ≤ i) : ∃ n : Nat, i = (n : Int) := ⟨i.toNat, by omega⟩
theorem run_outcome_of (S : ObC K) (h : sp_outcome_of K vs H Q E) : t_outcome_of K E (DQ Q) (start ns_outcome_of vs) H := by
  obtain ⟨p, dx, tb, tab, nx, a, hs, x, rfl, O, ha, hh, q⟩ := h
  have len : ∀ n : Nat, hs.length = n → (hs.map V.int).length = n := fun n e => by rw [List.length_map]; exact e
  refine ⟨_, rfl, _, _, rfl, .inl ⟨_, SqL.of ha, rfl⟩, rfl, _, rfl, ?_⟩
  match hs, hh, ha, q, len with
  | [], _, ha, q, _ =>
    refine ite2 (fun _ => ⟨(by show 1 ≤ sizeLine; decide), fun r nr => q r _ (same_upd nr) (.tup upd_same (.cons (.str _) .nil))⟩) (fun c => absurd (decide_eq_true rfl) c)
  | [h1], hh, ha, q, _ =>
    refine ite2 (fun c => absurd (V.int.inj (of_decide_eq_true c)) (by show ¬ ((1 : Nat) : Int) = 0; decide)) (fun _ => ?_)
    refine ⟨_, rfl, _, _, rfl, .inl ⟨_, SqL.of ha, rfl⟩, _, _, rfl, rfl, _, rfl, ?_⟩
    refine ite2 (fun c => absurd (of_decide_eq_true c) (by show ¬ (1 : Int) < ((1 : Nat) : Int); decide)) (fun _ => ?_)
    obtain ⟨e, he, rfl, s, gs⟩ := hasS_id (hh h1 List.mem_cons_self)
    refine ⟨_, rfl, p, dx, _, rfl, O.ins, obF_no (by decide +kernel) (by decide +kernel), _, rfl, a, _, _, _, rfl, rfl, SqL.of ha, atI_nat (j := 0) rfl, _, rfl, ?_⟩
    refine ⟨p, dx, tb, tab, nx, e, x, rfl, O, he, (fun z => by rw [z] at gs; cases gs), fun s2 qa v z hq tv => ?_⟩
    rw [gs] at z
    cases z
    refine ⟨qa, _, rfl, SqT.of hq, rfl, _, _, rfl, _, _, rfl, rfl, _, rfl, a, _, _, _, rfl, rfl, SqL.of ha, atI_nat (j := 0) rfl, _, rfl, _, rfl, (by show 4 ≤ sizeLine; decide), fun r nr => ?_⟩
    refine q r _ (same_upd nr) ?_
    have eo : outD tab x [(e.id : Int)] = .tuple [.str ("found" : Str), .int (e.id : Int), .str s.kind, s.val] := by
      show (match slotOf tab x (e.id : Int) with | some s => PyData.tuple [.str ("found" : Str), .int (e.id : Int), .str s.kind, s.val] | none => .none) = _
      rw [slotOf_mem O.ord he, gs]
    rw [eo]
    exact .tup upd_same (.cons (.str _) (.cons (.int _) (.cons (.str _) (.cons (tv.keep (TK.new nr)) .nil))))
  | h1 :: h2 :: r, _, ha, q, _ =>
    have l2 : ((List.map V.int (h1 :: h2 :: r)).length : Int) = (r.length : Int) + 2 := by
      rw [List.length_map, List.length_cons, List.length_cons]
      omega
    refine ite2 (fun c => absurd (V.int.inj (of_decide_eq_true c)) (by omega)) (fun _ => ?_)
    refine ⟨_, rfl, _, _, rfl, .inl ⟨_, SqL.of ha, rfl⟩, _, _, rfl, rfl, _, rfl, ?_⟩
    refine ite2 (fun c => ?_) (fun c => absurd (decide_eq_true (by omega)) c)
    exact ⟨(by show 1 ≤ sizeLine; decide), fun r nr => q r _ (same_upd nr) (.tup upd_same (.cons (.str _) .nil))⟩
theorem nodup_len : ∀ {L M : List Int}, L.Nodup → (∀ i ∈ L, i ∈ M) → L.length ≤ M.length
  | [], _, _, _ => Nat.zero_le _
  | i :: L, M, nd, h => by
    obtain ⟨n1, n2⟩ := List.nodup_cons.mp nd
    have hi := h i List.mem_cons_self
    have e := List.length_erase_of_mem hi
    have pos : 0 < M.length := List.length_pos_of_mem hi
    have ih := nodup_len (M := M.erase i) n2 fun j hj => (List.mem_erase_of_ne (fun z => n1 (by rw [← z]; exact hj))).mpr (h j (List.mem_cons_of_mem _ hj))
    rw [List.length_cons]
    omega
theorem mem_sum : ∀ {l : List Nat} {x : Nat}, x ∈ l → x ≤ l.sum
  | [], _, h => by cases h
  | y :: l, x, h => by
    rw [List.sum_cons]
    rcases List.mem_cons.mp h with rfl | h
    · omega
    · have := mem_sum h
      omega
theorem par_bd {tab : List En} {e : En} (he : e ∈ tab) : (parS e.sl).length ≤ bdS tab := mem_sum (List.mem_map.mpr ⟨e, he, rfl⟩)
theorem ids_len {tab : List En} {L : List Int} (nd : L.Nodup) (h : ∀ i ∈ L, isId tab i) : L.length ≤ tab.length := by
  have := nodup_len (M := tab.map fun e => (e.id : Int)) nd fun i hi => by
    obtain ⟨e, he, z⟩ := h i hi
    exact List.mem_map.mpr ⟨e, he, z⟩
  rwa [List.length_map] at this
def lkK (L : List Int) : List (Key × V) := L.map fun i => (Sum.inl i, V.bl true)
theorem lk_get (i : Int) : ∀ L : List Int, (valV (lkK L) (Sum.inl i : Key)).isSome = decide (i ∈ L)
  | [] => rfl
  | j :: L => by
    show (valV ((Sum.inl j, V.bl true) :: lkK L) (Sum.inl i : Key)).isSome = _
    by_cases c : j = i
    · rw [valV_pos (congrArg Sum.inl c)]
      exact (decide_eq_true (by simp [c])).symm
    · rw [valV_neg (fun z => c (Sum.inl.inj z)), lk_get i L]
      have c : ¬ i = j := fun z => c z.symm
      simp [c]
theorem trs_ints {H : Hp} : ∀ L : List Int, Trs H (L.map V.int) (L.map PyData.int)
  | [] => .nil
  | _ :: L => .cons (.int _) (trs_ints L)
theorem fuel_step {N l B w m : Nat} (hl : l + 1 ≤ N) (h : (N - l) * (B + 1) + (w + 1) < m + 1) {b : Nat} (hb : b ≤ B) : (N - (l + 1)) * (B + 1) + (b + w) < m := by
  obtain ⟨d, rfl⟩ : ∃ d, N = d + (l + 1) := ⟨N - (l + 1), by omega⟩
  have e1 : d + (l + 1) - l = d + 1 := by omega
  have e2 : d + (l + 1) - (l + 1) = d := by omega
  rw [e1, Nat.succ_mul] at h
  rw [e2]
  omega
def SIv (p a lk hl wl : Addr) (x : Str) (tab : List En) (H : Hp) (res : List Int × List Int) (m : Nat) (σ : L2.St) (G : Hp) : Prop := ∃ (L A w : List Int) (v6 : Option V), σ = [some (.ref p), some (.ref a), some (.str x), some (.ref lk), some (.ref hl), some (.ref wl), v6] ∧ Same H G ∧
  G lk = some (.dK (lkK L)) ∧ G hl = some (.lst (A.map V.int)) ∧ G wl = some (.lst (w.reverse.map V.int)) ∧ L.Nodup ∧ (∀ i ∈ L, isId tab i) ∧ (∀ i ∈ w, isId tab i) ∧ (∀ i ∈ A, hasS tab x i = true) ∧ A.length ≤ L.length ∧
  (tab.length - L.length) * (bdS tab + 1) + w.length < m ∧ m ≤ 10000000 ∧ srF tab x m L A w = res
theorem run_search (S : ObC K) (h : sp_search K vs H Q E) : t_search K E (DQ Q) (start ns_search vs) H := by
  obtain ⟨p, dx, tb, tab, nx, a, st, x, rfl, O, ha, hst, cl, sm, fu, q⟩ := h
  intro lk nlk
  have s1 := same_upd (o := .dK []) nlk
  refine ⟨(by show 0 ≤ sizeLine; decide), fun hl nhl => ?_⟩
  have s2 := same_upd (o := .lst []) nhl
  have h12 := s1.trans s2
  refine ⟨_, rfl, a, _, rfl, SqT.of (h12 _ _ ha), fun rt nrt => ?_⟩
  have s3 := same_upd (o := .tup (st.map V.int).reverse) nrt
  refine ⟨rt, _, rfl, .inr (SqT.of upd_same), fun wl nwl => ?_⟩
  have s4 := same_upd (o := .lst (st.map V.int).reverse) nwl
  have h123 := h12.trans s3
  have h1234 := h123.trans s4
  have nhl0 : H hl = none := Same.free s1 nhl
  have nwl0 : H wl = none := Same.free h123 nwl
  have glk : (upd (upd (upd (upd H lk (.dK [])) hl (.lst [])) rt (.tup (st.map V.int).reverse)) wl (.lst (st.map V.int).reverse)) lk = some (.dK (lkK [])) := s4 _ _ (s3 _ _ (s2 _ _ upd_same))
  have ghl : (upd (upd (upd (upd H lk (.dK [])) hl (.lst [])) rt (.tup (st.map V.int).reverse)) wl (.lst (st.map V.int).reverse)) hl = some (.lst []) := s4 _ _ (s3 _ _ upd_same)
  have nhw : hl ≠ wl := ne_of_none (s3 _ _ upd_same) nwl
  have nlh : lk ≠ hl := ne_of glk ghl (by intro z; cases z)
  have nlw : lk ≠ wl := ne_of glk upd_same (by intro z; cases z)
  refine ⟨SIv p a lk hl wl x tab H (srch tab x st), ⟨fuel tab st, [], [], st, none, rfl, h1234, glk, ghl, by rw [upd_same, List.map_reverse], List.nodup_nil, (fun i hi => by cases hi), hst, (fun i hi => by cases hi), Nat.le_refl _, by unfold fuel; rw [List.length_nil, Nat.sub_zero]; omega, fu, rfl⟩, ?_⟩
  rintro m σ G ⟨L, A, w, v6, rfl, sG, gl, gh, gw, nd, hL, hw, hA, hAL, hm, hm2, er⟩
  have OG := O.same sG
  refine ⟨_, rfl, _, _, rfl, .inl ⟨_, SqL.of gw, rfl⟩, _, _, rfl, rfl, _, rfl, ?_⟩
  cases w with
  | nil =>
    refine ite2 (fun c => absurd (of_decide_eq_true c) (by show ¬ (0 : Int) < ((0 : Nat) : Int); decide)) (fun _ => ?_)
    have er : (L, A) = srch tab x st := by
      rw [← er]
      cases m <;> rfl
    refine ⟨_, rfl, _, rfl, _, rfl, p, dx, tb, tab, nx, hl, A, x, rfl, OG, gh, hA, fun q1 G1 s5 t1 => ?_⟩
    refine ⟨_, rfl, lk, lkK L, rfl, s5 _ _ gl, fun tq ntq => ⟨(by show 2 ≤ sizeLine; decide), fun rq nrq => ?_⟩⟩
    have s6 := same_upd (o := .tup ((lkK L).map fun kv => kV kv.1)) ntq
    have s7 := same_upd (o := .tup [V.ref q1, V.ref tq]) nrq
    have ek : (lkK L).map (fun kv => kV kv.1) = L.map V.int := by
      unfold lkK
      rw [List.map_map]
      rfl
    have T2 := Tr.tup (ds := L.map PyData.int) (s7 _ _ (upd_same (H := G1) (a := tq) (o := .tup ((lkK L).map fun kv => kV kv.1)))) (by rw [ek]; exact trs_ints L)
    refine q rq _ (((sG.trans s5).trans s6).trans s7) ?_
    unfold resD
    rw [← er]
    exact .tup upd_same (.cons (t1.keep fun a xs z => s7 a _ (s6 a _ z)) (.cons T2 .nil))
  | cons i w =>
    have lw : ((((i :: w).reverse.map V.int).length : Nat) : Int) = (w.length : Int) + 1 := by
      rw [List.length_map, List.length_reverse, List.length_cons]
      omega
    refine ite2 (fun _ => ?_) (fun c => absurd (decide_eq_true (by omega)) c)
    cases m with
    | zero => exact absurd hm (Nat.not_lt_zero _)
    | succ m =>
      refine ⟨SIv p a lk hl wl x tab H (srch tab x st) m, fun σ' G' z => ⟨m, Nat.lt_succ_self m, z⟩, ?_⟩
      have erw : (i :: w).reverse.map V.int = w.reverse.map V.int ++ [V.int i] := by
        rw [List.reverse_cons, List.map_append]
        rfl
      rw [erw] at gw
      have e1 : (w.reverse.map V.int ++ [V.int i])[(w.reverse.map V.int ++ [V.int i]).length - 1]? = some (V.int i) := by
        rw [List.length_append, List.length_singleton, Nat.add_sub_cancel, List.getElem?_append_right (Nat.le_refl _), Nat.sub_self]
        rfl
      refine ⟨_, rfl, .inl ⟨rfl, _, SqL.of gw⟩, wl, _, _, rfl, rfl, gw, e1, ?_⟩
      rw [List.dropLast_concat]
      have pl : (upd G wl (.lst (w.reverse.map V.int))) lk = some (.dK (lkK L)) := (upd_ne nlw).trans gl
      have ph : (upd G wl (.lst (w.reverse.map V.int))) hl = some (.lst (A.map V.int)) := (upd_ne nhw).trans gh
      have sP : Same H (upd G wl (.lst (w.reverse.map V.int))) := fun b u z => by
        rw [upd_ne (ne_of_none z nwl0)]
        exact sG b u z
      have pw : (upd G wl (.lst (w.reverse.map V.int))) wl = some (.lst (w.reverse.map V.int)) := upd_same
      generalize upd G wl (.lst (w.reverse.map V.int)) = P at pl ph sP pw ⊢
      have hw2 : ∀ j ∈ w, isId tab j := fun j hj => hw j (List.mem_cons_of_mem _ hj)
      refine ⟨_, rfl, _, rfl, lk, _, rfl, DGet.k (k := Sum.inl i) pl, _, rfl, ?_⟩
      rw [lk_get]
      refine ite2 (fun c => ?_) (fun c => ?_)
      · have c := of_decide_eq_true c
        have es : srF tab x (m + 1) L A (i :: w) = srF tab x m L A w := if_pos c
        rw [es] at er
        rw [List.length_cons] at hm
        exact ⟨L, A, w, _, rfl, sP, pl, ph, pw, nd, hL, hw2, hA, hAL, by omega, by omega, er⟩
      · have c : ¬ i ∈ L := fun z => c (decide_eq_true z)
        have ndL : (L ++ [i]).Nodup := List.nodup_append.mpr ⟨nd, by simp, fun y hy z hz => by
          rw [List.mem_singleton.mp hz]
          intro k
          exact c (by rw [← k]; exact hy)⟩
        have hLi : ∀ j ∈ L ++ [i], isId tab j := fun j hj => by
          rcases List.mem_append.mp hj with hj | hj
          · exact hL j hj
          · rw [List.mem_singleton.mp hj]
            exact hw i List.mem_cons_self
        have ll := ids_len ndL hLi
        rw [List.length_append, List.length_singleton] at ll
        have tl : tab.length ≤ 10000000 := by
          have : tab.length ≤ fuel tab st := by
            unfold fuel
            have : tab.length ≤ tab.length * (bdS tab + 1) := Nat.le_mul_of_pos_right tab.length (Nat.succ_pos (bdS tab))
            omega
          omega
        have pk : putK (lkK L) (Sum.inl i) (V.bl true) = lkK (L ++ [i]) := by
          have z := lk_get i L
          rw [decide_eq_false c] at z
          rw [putK_new _ (Option.isSome_eq_false_iff.mp z |> Option.isNone_iff_eq_none.mp)]
          unfold lkK
          rw [List.map_append]
          rfl
        refine ⟨_, rfl, _, rfl, lk, _, rfl, DPut.k (k := Sum.inl i) pl (Nat.lt_of_le_of_lt (by unfold lkK; rw [List.length_map]; omega : (lkK L).length ≤ 10000000) (by decide)), ?_⟩
        rw [pk]
        have ql : (upd P lk (.dK (lkK (L ++ [i])))) lk = some (.dK (lkK (L ++ [i]))) := upd_same
        have qh : (upd P lk (.dK (lkK (L ++ [i])))) hl = some (.lst (A.map V.int)) := (upd_ne (Ne.symm nlh)).trans ph
        have qw : (upd P lk (.dK (lkK (L ++ [i])))) wl = some (.lst (w.reverse.map V.int)) := (upd_ne (Ne.symm nlw)).trans pw
        have sQ : Same H (upd P lk (.dK (lkK (L ++ [i])))) := fun b u z => by
          rw [upd_ne (ne_of_none z nlk)]
          exact sP b u z
        generalize upd P lk (.dK (lkK (L ++ [i]))) = P2 at ql qh qw sQ ⊢
        have O2 := O.same sQ
        obtain ⟨e, he, ei⟩ := hw i List.mem_cons_self
        subst ei
        have step : srF tab x (m + 1) L A ((e.id : Int) :: w) = if hasS tab x (e.id : Int) = true then srF tab x m (L ++ [(e.id : Int)]) (A ++ [(e.id : Int)]) w else srF tab x m (L ++ [(e.id : Int)]) A (parI tab (e.id : Int) ++ w) := if_neg c
        rw [step] at er
        have eh : hasS tab x (e.id : Int) = (getS e.sl x).isSome := by
          unfold hasS
          rw [slotOf_mem O.ord he]
        have lA : (A ++ [(e.id : Int)]).length ≤ (L ++ [(e.id : Int)]).length := by
          rw [List.length_append, List.length_append]
          exact Nat.succ_le_succ hAL
        rw [List.length_cons] at hm
        refine ⟨_, rfl, p, dx, _, rfl, O2.ins, obF_no (by decide +kernel) (by decide +kernel), _, rfl, _, rfl, ?_⟩
        refine ⟨p, dx, tb, tab, nx, e, x, rfl, O2, he, fun g => ?_, fun s qa v g hq tv => ?_⟩
        · -- no slot: its parents
          refine ⟨rfl, _, rfl, ?_⟩
          rw [decide_eq_true (show V.non = V.non from rfl)]
          refine iteF ?_
          rw [g] at eh
          rw [eh, if_neg (by intro z; cases z), parI_mem O.ord he] at er
          refine ⟨_, rfl, .inl ⟨rfl, _, SqL.of qw⟩, _, rfl, p, dx, _, rfl, O2.ins, obF_no (by decide +kernel) (by decide +kernel), _, rfl, ?_⟩
          refine ⟨p, dx, tb, tab, nx, e, rfl, O2, he, sm e he, fun q5 H5 s5 n5 h5 => ?_⟩
          refine ⟨q5, _, rfl, SqT.of h5, fun q6 n6 => ?_⟩
          have s6 := same_upd (o := .tup ((parS e.sl).map V.int).reverse) n6
          have s56 := s5.trans s6
          have b1 := par_bd he
          have mm := fuel_step (N := tab.length) (l := L.length) (B := bdS tab) (w := w.length) (m := m) (by omega) (by omega) b1
          refine ⟨wl, q6, _, _, rfl, rfl, s56 _ _ qw, SqT.of upd_same, ?_, ?_⟩
          · rw [List.length_map, List.length_reverse, List.length_reverse, List.length_map]
            exact Nat.le_trans (show w.length + (parS e.sl).length ≤ 10000000 by omega) (by decide)
          · refine ⟨L ++ [(e.id : Int)], A, parS e.sl ++ w, _, rfl, fun b u z => ?_, (upd_ne nlw).trans (s56 _ _ ql), (upd_ne nhw).trans (s56 _ _ qh), ?_, ndL, hLi, fun j hj => ?_, hA, by rw [List.length_append]; omega, ?_, by omega, er⟩
            · rw [upd_ne (ne_of_none z nwl0)]
              exact s56 b u (sQ b u z)
            · rw [upd_same, List.reverse_append, List.map_append, List.map_reverse, List.map_reverse]
            · rcases List.mem_append.mp hj with hj | hj
              · exact cl e he j hj
              · exact hw2 j hj
            · rw [List.length_append, List.length_append, List.length_singleton]
              exact mm
        · -- a holder
          refine ⟨rfl, _, rfl, ?_⟩
          rw [decide_eq_false (show ¬ V.ref qa = V.non by intro z; cases z)]
          refine iteT ?_
          rw [g] at eh
          have eh : hasS tab x (e.id : Int) = true := eh
          rw [if_pos eh] at er
          have mm := fuel_step (N := tab.length) (l := L.length) (B := bdS tab) (w := w.length) (m := m) (by omega) (by omega) (Nat.zero_le _)
          refine ⟨_, rfl, .inl ⟨rfl, _, SqL.of qh⟩, _, rfl, hl, _, _, rfl, rfl, qh, Nat.lt_of_le_of_lt (by rw [List.length_map]; omega : (A.map V.int).length ≤ 10000000) (by decide), ?_⟩
          refine ⟨L ++ [(e.id : Int)], A ++ [(e.id : Int)], w, _, rfl, fun b u z => ?_, (upd_ne nlh).trans ql, ?_, (upd_ne (Ne.symm nhw)).trans qw, ndL, hLi, hw2, fun j hj => ?_, lA, ?_, by omega, er⟩
          · rw [upd_ne (ne_of_none z nhl0)]
            exact sQ b u z
          · rw [upd_same, List.map_append]
            rfl
          · rcases List.mem_append.mp hj with hj | hj
            · exact hA j hj
            · rw [List.mem_singleton.mp hj]
              exact eh
          · rw [List.length_append, List.length_singleton]
            omega
end
end Rm

/-! R1: the laws' reader: draws from the digits of cells; values, kinds, names: promises, readings (by gen.py), runs. -/
namespace Rm.Q
open PySem PySem.Spec PyProof.Rows L2
def kindM : List String := ["const", "var", "parent", "varparent", "method", "parent", "varparent"]
def nameM : List String := ["x", "y", "p", "q", "xx", "lobby"]
/-- what a drawn value is -/
structure ValD (m : Int) (D : PyData) : Prop where
  ok : ValOk D
  ref : ∀ i, refOf D = some i → 0 ≤ i ∧ i < m
  lay : PyData.canLay0 D = true
  dep : PyData.depth D ≤ 1
def sp_l_draws (K : PySem.W.Frag) : Sp := fun vs H Q _ => ∃ (a : Addr) (ns : List Int), vs = [.ref a] ∧ SqL K H a (ns.map V.int) ∧ ns.length ≤ 63 ∧ ∀ q H' (rs : List Int), Same H H' → H q = none → H' q = some (.lst (rs.map V.int)) → Q (.ref q) H'
def sp_l_reader (K : PySem.W.Frag) : Sp := fun vs H Q _ => ∃ (a : Addr) (ns : List Int), vs = [.ref a] ∧ SqL K H a (ns.map V.int) ∧ ns.length ≤ 63 ∧ ∀ d r H', Same H H' → H d = none → H r = none → Draws H' d r → Q (.ref d) H'
def sp_l_next (K : PySem.W.Frag) : Sp := fun vs H Q _ => ∃ (d : Addr) (m : Int), vs = [.ref d, .int m] ∧ 0 < m ∧ ∃ r, Draws H d r ∧ ∀ (j : Int) (H' : Hp), 0 ≤ j → j < m → Draws H' d r → Moved d H H' → Q (.int j) H'
def sp_l_value (K : PySem.W.Frag) : Sp := fun vs H Q _ => ∃ (d : Addr) (m : Int), vs = [.ref d, .int m] ∧ 0 < m ∧ ∃ r, Draws H d r ∧ ∀ (v : V) (D : PyData) (H' : Hp), Kept d H H' → Draws H' d r → Tr H' v D → ValD m D → Q v H'
def sp_l_kind (K : PySem.W.Frag) : Sp := fun vs H Q _ => ∃ (d : Addr), vs = [.ref d] ∧ ∃ r, Draws H d r ∧ ∀ (s : String) (H' : Hp), Kept d H H' → Draws H' d r → s ∈ kindM → Q (mS s) H'
def sp_l_name (K : PySem.W.Frag) : Sp := fun vs H Q _ => ∃ (d : Addr), vs = [.ref d] ∧ ∃ r, Draws H d r ∧ ∀ (s : String) (H' : Hp), Kept d H H' → Draws H' d r → s ∈ nameM → Q (mS s) H'
/-! ### readings -/

def ns_l_draws : List Str := ["script", "draws", "k", "cell", "turn", "mixed"]
def t_l_draws (K : PySem.W.Frag) (E : XK) : TS :=
  (tSeq (tAsg (tLst tNil) (gName 1))
    (tSeq (tFor (iRng1 (tCons (tCB rMin2 (tCons (tCB (rLen K) (tCons (tVar 0) tNil)) (tCons (tC (.int 63)) tNil))) tNil)) (gName 2)
      (tSeq (tAsg (tCB rAbs (tCons (tOp (rIxL K) (tVar 0) (tVar 2)) tNil)) (gName 3))
    (tIfS (tTest (tOp rGeI (tVar 3) (tOp rPowI (tC (.int 10)) (tC (.int 18)))))
      (tFor (iRng1 (tCons (tC (.int 20)) tNil)) (gName 4)
      (tIfS (tTest (tOp rGtI (tVar 3) (tC (.int 0))))
      (tSeq (tDrop (tBM K "list" rAppend (tVar 1) (tCons (tOp rModI (tVar 3) (tC (.int 1000))) tNil)))
    (tAsg (tOp rFdivI (tVar 3) (tC (.int 1000))) (gName 3)))
      tNext))
      (tSeq (tAsg (tOp rModI (tCB rInt1 (tCons (tOp rAddI (tOp rAddI (tOp rMulI (tOp (rIxL K) (tVar 0) (tVar 2)) (tC (.int 48271))) (tOp rMulI (tVar 2) (tC (.int 69621)))) (tC (.int 12345))) tNil)) (tC (.int 2147483647))) (gName 5))
    (tFor (iRng1 (tCons (tC (.int 3)) tNil)) (gName 4)
      (tSeq (tAsg (tOp rModI (tCB rInt1 (tCons (tOp rAddI (tOp rAddI (tOp rMulI (tVar 5) (tVar 5)) (tOp rMulI (tVar 4) (tC (.int 7919)))) (tC (.int 17))) tNil)) (tC (.int 2147483629))) (gName 5))
    (tDrop (tBM K "list" rAppend (tVar 1) (tCons (tOp rModI (tVar 5) (tC (.int 1000))) tNil)))))))))
    (tRet (tVar 1))))

def ns_l_reader : List Str := ["script", "row", "seed"]
def t_l_reader (K : PySem.W.Frag) (E : XK) : TS :=
  (tSeq (tAsg (tCall (sp_l_draws K) [] E (tCons (tVar 0) tNil)) (gName 1))
    (tSeq (tAsg (tC (.int 5)) (gName 2))
    (tSeq (tIfS (tTest (tOp rGtI (tCB (rLen K) (tCons (tVar 0) tNil)) (tC (.int 0))))
      (tAsg (tOp rModI (tCB rAbs (tCons (tOp (rIxL K) (tVar 0) (tUn rNegI (tC (.int 1)))) tNil)) (tC (.int 1000003))) (gName 2))
      tNext)
    (tRet (tDisp [((tC (.str ("row" : Str))), (tVar 1)), ((tC (.str ("at" : Str))), (tC (.int 0))), ((tC (.str ("seed" : Str))), (tVar 2))])))))

def ns_l_next : List Str := ["draws", "many", "at", "mixed"]
def t_l_next (K : PySem.W.Frag) (E : XK) : TS :=
  (tSeq (tAsg (tDGet (tVar 0) (tC (.str ("at" : Str)))) (gName 2))
    (tSeq (sDPut (tVar 0) (tC (.str ("at" : Str))) (tOp rAddI (tVar 2) (tC (.int 1))))
    (tSeq (tIfS (tTest (tOp rLtI (tVar 2) (tCB (rLen K) (tCons (tDGet (tVar 0) (tC (.str ("row" : Str)))) tNil))))
      (tRet (tOp rModI (tOp (rIxL K) (tDGet (tVar 0) (tC (.str ("row" : Str)))) (tVar 2)) (tVar 1)))
      tNext)
    (tSeq (tAsg (tOp rModI (tCB rInt1 (tCons (tOp rMulI (tOp rAddI (tOp rAddI (tDGet (tVar 0) (tC (.str ("seed" : Str)))) (tOp rMulI (tC (.int 17)) (tVar 2))) (tC (.int 3))) (tC (.int 48271))) tNil)) (tC (.int 2147483647))) (gName 3))
    (tRet (tOp rModI (tOp rFdivI (tOp rModI (tCB rInt1 (tCons (tOp rAddI (tOp rMulI (tVar 3) (tVar 3)) (tVar 2)) tNil)) (tC (.int 2147483629))) (tC (.int 7))) (tVar 1)))))))

def ns_l_value : List Str := ["draws", "many", "pick"]
def t_l_value (K : PySem.W.Frag) (E : XK) : TS :=
  (tSeq (tAsg (tCall (sp_l_next K) [] E (tCons (tVar 0) (tCons (tC (.int 8)) tNil))) (gName 2))
    (tSeq (tIfS (tTest (tOp rLtI (tVar 2) (tC (.int 4))))
      (tRet (tTup (tCons (tC (.str ("ref" : Str))) (tCons (tCall (sp_l_next K) [] E (tCons (tVar 0) (tCons (tVar 1) tNil))) tNil))))
      tNext)
    (tRet (tOp (rIxL K) (tLst (tCons (tTup (tCons (tC (.str ("num" : Str))) (tCons (tCall (sp_l_next K) [] E (tCons (tVar 0) (tCons (tC (.int 90)) tNil))) tNil))) (tCons (tTup (tCons (tC (.str ("nothing" : Str))) tNil)) (tCons (tTup (tCons (tC (.str ("method" : Str))) (tCons (tCall (sp_l_next K) [] E (tCons (tVar 0) (tCons (tC (.int 4)) tNil))) tNil))) (tCons (tTup (tCons (tC (.str ("block" : Str))) (tCons (tC (.int 1)) tNil))) tNil))))) (tOp rSubI (tVar 2) (tC (.int 4)))))))

def ns_l_kind : List Str := ["draws"]
def t_l_kind (K : PySem.W.Frag) (E : XK) : TS :=
  (tRet (tOp (rIxL K) (tLst (tMenu (["const", "var", "parent", "varparent", "method", "parent", "varparent"].map mS))) (tCall (sp_l_next K) [] E (tCons (tVar 0) (tCons (tC (.int 7)) tNil)))))

def ns_l_name : List Str := ["draws"]
def t_l_name (K : PySem.W.Frag) (E : XK) : TS :=
  (tRet (tOp (rIxL K) (tLst (tMenu (["x", "y", "p", "q", "xx", "lobby"].map mS))) (tCall (sp_l_next K) [] E (tCons (tVar 0) (tCons (tC (.int 6)) tNil)))))

section
variable {K : PySem.W.Frag} {vs : List V} {H : Hp} {Q : VK} {E : XK}
theorem run_l_next (h : sp_l_next K vs H Q E) : t_l_next K E (DQ Q) (start ns_l_next vs) H := by
  obtain ⟨d, m, rfl, hm, r, hD, q⟩ := h
  obtain ⟨i, s, ns, h1, h2, h3⟩ := id hD
  have nrd : r ≠ d := hD.ne
  refine ⟨_, rfl, d, _, rfl, dget_at h1, ?_⟩
  refine ⟨_, rfl, _, _, rfl, rfl, _, rfl, d, _, rfl, dput_at h1 _, ?_⟩
  have h1' : (upd H d (.dK (drK r (i + 1) s))) d = some (.dK (drK r (i + 1) s)) := upd_same
  have h2' : (upd H d (.dK (drK r (i + 1) s))) r = some (.lst (ns.map V.int)) := by rw [upd_ne nrd]; exact h2
  have D' : Draws (upd H d (.dK (drK r (i + 1) s))) d r := ⟨i + 1, s, ns, h1', h2', by omega⟩
  have M' : Moved d H (upd H d (.dK (drK r (i + 1) s))) := fun b n => upd_ne n
  have fin : ∀ z : Int, Q (.int (z % m)) (upd H d (.dK (drK r (i + 1) s))) := fun z => q _ _ (Int.emod_nonneg _ (by omega)) (Int.emod_lt_of_pos _ hm) D' M'
  refine ⟨_, rfl, _, rfl, d, _, rfl, dget_row h1', _, _, rfl, .inl ⟨_, SqL.of h2', rfl⟩, _, _, rfl, rfl, _, rfl, ?_⟩
  refine ite2 (fun c => ?_) (fun _ => ?_)
  · have c := of_decide_eq_true c
    rw [List.length_map] at c
    obtain ⟨n, rfl⟩ : ∃ n : Nat, i = (n : Int) := ⟨i.toNat, by omega⟩
    have hn : n < ns.length := by omega
    have g : (ns.map V.int)[n]? = some (.int ns[n]) := by rw [List.getElem?_map, List.getElem?_eq_getElem hn]; rfl
    exact ⟨_, rfl, d, _, rfl, dget_row h1', _, rfl, r, _, _, _, rfl, rfl, SqL.of h2', atI_nat g, _, rfl, _, _, rfl, rfl, hm, fin _⟩
  · refine ⟨_, rfl, d, _, rfl, dget_seed h1', _, rfl, _, _, rfl, rfl, .inl ⟨by decide, by decide⟩, _, _, rfl, rfl, _, _, rfl, rfl, _, _, rfl, rfl, .inr (by decide), .inl ⟨_, rfl, ?_⟩⟩
    refine ⟨_, _, rfl, rfl, (by show (0 : Int) < 2147483647; decide), ?_⟩
    have b1 : 0 ≤ ((s + 17 * i + 3) * 48271) % 2147483647 := Int.emod_nonneg _ (by decide)
    have b2 : ((s + 17 * i + 3) * 48271) % 2147483647 < 2147483647 := Int.emod_lt_of_pos _ (by decide)
    refine ⟨_, rfl, _, rfl, _, _, rfl, rfl, .inl ⟨by omega, by omega⟩, _, rfl, _, _, rfl, rfl, .inl ⟨_, rfl, _, _, rfl, rfl, (by show (0 : Int) < 2147483629; decide), _, _, rfl, rfl, ⟨by decide, by decide⟩, _, rfl, _, _, rfl, rfl, hm, fin _⟩⟩
theorem run_l_draws (h : sp_l_draws K vs H Q E) : t_l_draws K E (DQ Q) (start ns_l_draws vs) H := by
  obtain ⟨a, ns, rfl, hS, hl, q⟩ := h
  refine ⟨(by show 0 ≤ sizeLine; decide), fun p np => ?_⟩
  refine ⟨_, rfl, _, _, rfl, .inl ⟨_, (same_upd np).seq hS, rfl⟩, _, _, rfl, ?_⟩
  have e0 : (if (63 : Int) < ((ns.map V.int).length : Int) then (63 : Int) else ((ns.map V.int).length : Int)) = (ns.length : Int) := by
    rw [List.length_map, if_neg (by omega)]
  rw [e0]
  refine ⟨(ns.length : Int), rfl, by omega, by omega, ?_⟩
  rw [Int.toNat_natCast]
  refine for_range (lo := 0) (n := ns.length) (fun i σ H2 => ∃ (rs : List Int) (v2 v3 v4 v5 : Option V), σ = [some (.ref a), some (.ref p), v2, v3, v4, v5] ∧ Same H H2 ∧ H2 p = some (.lst (rs.map V.int)) ∧ rs.length ≤ 20 * i)
    ⟨[], none, none, none, none, rfl, same_upd np, upd_same, Nat.zero_le _⟩ ?_ ?_
  · rintro i σ H2 hi ⟨rs, v2, v3, v4, v5, rfl, s2, hp, h20⟩
    have hz : (ns.map V.int)[i]? = some (.int ns[i]) := by rw [List.getElem?_map, List.getElem?_eq_getElem hi]; rfl
    have hz0 : atI (ns.map V.int) (0 + (i : Int)) = some (.int ns[i]) := at_of (j := i) (by simp) hz
    refine ⟨_, rfl, _, rfl, a, ns.map V.int, _, .int ns[i], rfl, rfl, s2.seq hS, hz0, _, rfl, ?_⟩
    refine ⟨_, rfl, _, _, rfl, rfl, ⟨by decide, by decide, by decide⟩, _, _, rfl, rfl, _, rfl, ?_⟩
    refine ite2 (fun _ => ?_) (fun _ => ?_)
    · refine ⟨20, rfl, by decide, by decide, ?_⟩
      refine for_range (lo := 0) (n := 20) (fun j σ H3 => ∃ (rs : List Int) (v2 v4 v5 : Option V) (z : Int), σ = [some (.ref a), some (.ref p), v2, some (.int z), v4, v5] ∧ Same H H3 ∧ H3 p = some (.lst (rs.map V.int)) ∧ rs.length ≤ 20 * i + j)
        ⟨rs, _, _, _, _, rfl, s2, hp, by omega⟩ ?_ ?_
      · rintro j σ H3 hj ⟨rs, v2, v4, v5, z, rfl, s3, hp, h20⟩
        refine ⟨_, rfl, _, _, rfl, rfl, _, rfl, ?_⟩
        refine ite2 (fun _ => ?_) (fun _ => ?_)
        · refine ⟨_, rfl, Or.inl ⟨rfl, _, SqL.of hp⟩, _, rfl, _, _, rfl, rfl, (by show (0 : Int) < 1000; decide), p, _, _, rfl, rfl, hp, (by rw [List.length_map]; exact Nat.lt_of_lt_of_le (show rs.length < 20000 by omega) (by decide)), ?_⟩
          refine ⟨_, rfl, _, _, rfl, rfl, ⟨by decide, by decide⟩, ?_⟩
          refine ⟨rs ++ [z % 1000], _, _, _, _, rfl, fun b o e => ?_, ?_, by rw [List.length_append, List.length_singleton]; omega⟩
          · rw [upd_ne (ne_of_none e np)]
            exact s3 b o e
          · rw [upd_same, map_snoc]
        · exact ⟨rs, _, _, _, z, rfl, s3, hp, by omega⟩
      · rintro σ H3 ⟨rs, v2, v4, v5, z, rfl, s3, hp, h20⟩
        exact ⟨rs, _, _, _, _, rfl, s3, hp, by omega⟩
    · refine ⟨_, rfl, _, rfl, a, ns.map V.int, _, .int ns[i], rfl, rfl, s2.seq hS, hz0, _, _, rfl, rfl, .inr (by decide), _, rfl, _, _, rfl, rfl, .inr (by decide), _, _, rfl, rfl, _, _, rfl, rfl, .inl ⟨_, rfl, ?_⟩⟩
      refine ⟨_, _, rfl, rfl, (by show (0 : Int) < 2147483647; decide), ?_⟩
      have b1 : 0 ≤ (ns[i] * 48271 + (0 + (i : Int)) * 69621 + 12345) % 2147483647 := Int.emod_nonneg _ (by decide)
      have b2 : (ns[i] * 48271 + (0 + (i : Int)) * 69621 + 12345) % 2147483647 < 2147483647 := Int.emod_lt_of_pos _ (by decide)
      refine ⟨3, rfl, by decide, by decide, ?_⟩
      refine for_range (lo := 0) (n := 3) (fun j σ H3 => ∃ (rs : List Int) (v2 v3 v4 : Option V) (z : Int), σ = [some (.ref a), some (.ref p), v2, v3, v4, some (.int z)] ∧ Same H H3 ∧ H3 p = some (.lst (rs.map V.int)) ∧ rs.length ≤ 20 * i + j ∧ 0 ≤ z ∧ z < 2147483647)
        ⟨rs, _, _, _, _, rfl, s2, hp, by omega, b1, b2⟩ ?_ ?_
      · rintro j σ H3 hj ⟨rs, v2, v3, v4, z, rfl, s3, hp, h20, z1, z2⟩
        refine ⟨_, rfl, _, rfl, _, _, rfl, rfl, .inl ⟨by omega, by omega⟩, _, rfl, _, _, rfl, rfl, .inr (by decide), _, _, rfl, rfl, _, _, rfl, rfl, .inl ⟨_, rfl, ?_⟩⟩
        refine ⟨_, _, rfl, rfl, (by show (0 : Int) < 2147483629; decide), ?_⟩
        have c1 : 0 ≤ (z * z + (0 + (j : Int)) * 7919 + 17) % 2147483629 := Int.emod_nonneg _ (by decide)
        have c2 : (z * z + (0 + (j : Int)) * 7919 + 17) % 2147483629 < 2147483629 := Int.emod_lt_of_pos _ (by decide)
        refine ⟨_, rfl, Or.inl ⟨rfl, _, SqL.of hp⟩, _, rfl, _, _, rfl, rfl, (by show (0 : Int) < 1000; decide), p, _, _, rfl, rfl, hp, (by rw [List.length_map]; exact Nat.lt_of_lt_of_le (show rs.length < 20000 by omega) (by decide)), ?_⟩
        refine ⟨rs ++ [((z * z + (0 + (j : Int)) * 7919 + 17) % 2147483629) % 1000], _, _, _, _, rfl, fun b o e => ?_, ?_, by rw [List.length_append, List.length_singleton]; omega, c1, by omega⟩
        · rw [upd_ne (ne_of_none e np)]
          exact s3 b o e
        · rw [upd_same, map_snoc]
      · rintro σ H3 ⟨rs, v2, v3, v4, z, rfl, s3, hp, h20, _, _⟩
        exact ⟨rs, _, _, _, _, rfl, s3, hp, by omega⟩
  · rintro σ H2 ⟨rs, v2, v3, v4, v5, rfl, s2, hp, h20⟩
    exact ⟨_, rfl, q p H2 rs s2 np hp⟩
theorem run_l_reader (h : sp_l_reader K vs H Q E) : t_l_reader K E (DQ Q) (start ns_l_reader vs) H := by
  obtain ⟨a, ns, rfl, hS, hl, q⟩ := h
  refine ⟨_, rfl, a, ns, rfl, hS, hl, fun p H1 rs s1 np hp => ?_⟩
  have fin : ∀ z : Int, (tRet (tDisp [((tC (.str ("row" : Str))), (tVar 1)), ((tC (.str ("at" : Str))), (tC (.int 0))), ((tC (.str ("seed" : Str))), (tVar 2))])) (DQ Q) [some (.ref a), some (.ref p), some (.int z)] H1 := fun z => by
    intro d nd
    have npd : p ≠ d := ne_of_none hp nd
    refine ⟨_, rfl, _, rfl, ?_⟩
    refine ⟨upd_same, drK p 0 z, rfl, (by show 3 ≤ 15; decide), ?_⟩
    rw [drK_merge, upd_upd]
    refine q d p _ (fun b o e => ?_) (s1.free nd) np ⟨0, z, rs, upd_same, ?_, Int.le_refl _⟩
    · rw [upd_ne (ne_of_none (s1 b o e) nd)]
      exact s1 b o e
    · rw [upd_ne npd]
      exact hp
  refine ⟨_, rfl, _, _, rfl, .inl ⟨_, s1.seq hS, rfl⟩, _, _, rfl, rfl, _, rfl, ?_⟩
  refine ite2 (fun c => ?_) (fun _ => fin 5)
  have c := of_decide_eq_true c
  rw [List.length_map] at c
  rcases List.eq_nil_or_concat ns with rfl | ⟨m, z, rfl⟩
  · exact absurd c (by show ¬ (0 : Int) < ((0 : Nat) : Int); decide)
  · have g : atI ((m.concat z).map V.int) (-1) = some (.int z) := by
      rw [List.concat_eq_append, List.map_append]
      exact atI_last _ _
    refine ⟨_, rfl, _, rfl, a, _, _, _, rfl, rfl, s1.seq hS, g, _, rfl, _, _, rfl, rfl, (by show (0 : Int) < 1000003; decide), fin _⟩
theorem run_l_kind (h : sp_l_kind K vs H Q E) : t_l_kind K E (DQ Q) (start ns_l_kind vs) H := by
  obtain ⟨d, rfl, r, hD, q⟩ := h
  refine ⟨(by show 7 ≤ sizeLine; decide), fun p np => ?_⟩
  refine ⟨_, rfl, d, 7, rfl, by decide, r, hD.fresh np, fun j H1 j0 j1 D1 M1 => ?_⟩
  have hp : H1 p = some (.lst (kindM.map mS)) := (M1 p (Ne.symm (hD.neD np))).trans upd_same
  obtain ⟨s, hs, e⟩ := menu_s (ss := kindM) j0 j1
  exact ⟨p, _, _, _, rfl, rfl, SqL.of hp, e, q s _ (((Kept.refl d H).put np).trans (Kept.of_moved M1)) D1 hs⟩
theorem run_l_name (h : sp_l_name K vs H Q E) : t_l_name K E (DQ Q) (start ns_l_name vs) H := by
  obtain ⟨d, rfl, r, hD, q⟩ := h
  refine ⟨(by show 6 ≤ sizeLine; decide), fun p np => ?_⟩
  refine ⟨_, rfl, d, 6, rfl, by decide, r, hD.fresh np, fun j H1 j0 j1 D1 M1 => ?_⟩
  have hp : H1 p = some (.lst (nameM.map mS)) := (M1 p (Ne.symm (hD.neD np))).trans upd_same
  obtain ⟨s, hs, e⟩ := menu_s (ss := nameM) j0 j1
  exact ⟨p, _, _, _, rfl, rfl, SqL.of hp, e, q s _ (((Kept.refl d H).put np).trans (Kept.of_moved M1)) D1 hs⟩
theorem alloc_kept {d r a : Addr} {H H' : Hp} {o : HO} (k : Kept d H H') (D : Draws H' d r) (n : H' a = none) : Kept d H (upd H' a o) := k.put (k.free D.atD n)
theorem kept_tk {d r : Addr} {G G' : Hp} (D : Draws G d r) (k : Kept d G G') : TK G G' := by
  obtain ⟨i, s, ns, h1, _⟩ := D
  exact fun a xs h => k a _ (ne_of h h1 (by intro z; cases z)) h
theorem val_two {m i : Int} {w : Str} (hs : PyData.strOk w = true) (h : w = ("ref" : Str) → 0 ≤ i ∧ i < m) : ValD m (.tuple [.str w, .int i]) := by
  refine ⟨⟨w, _, rfl, fun _ => ⟨i, _, rfl⟩⟩, fun j e => ?_, by simp [PyData.canLay0, PyData.canLayAll0, hs], by simp [PyData.depth, PyData.depthAll]⟩
  have e : (if w = ("ref" : Str) then some i else none) = some j := e
  split at e
  · rename_i c
    cases e
    exact h c
  · cases e
theorem val_one {m : Int} {w : Str} (hs : PyData.strOk w = true) (h : w ≠ ("ref" : Str)) : ValD m (.tuple [.str w]) := by
  refine ⟨⟨w, _, rfl, fun e => absurd e h⟩, (fun j e => by cases e), by simp [PyData.canLay0, PyData.canLayAll0, hs], by simp [PyData.depth, PyData.depthAll]⟩
theorem run_l_value (h : sp_l_value K vs H Q E) : t_l_value K E (DQ Q) (start ns_l_value vs) H := by
  obtain ⟨d, m, rfl, hm, r, hD, q⟩ := h
  refine ⟨_, rfl, d, 8, rfl, by decide, r, hD, fun j H1 j0 j1 D1 M1 => ?_⟩
  have K1 : Kept d H H1 := Kept.of_moved M1
  refine ⟨_, rfl, _, _, rfl, rfl, _, rfl, ?_⟩
  refine ite2 (fun _ => ?_) (fun c => ?_)
  · refine ⟨_, rfl, _, rfl, d, m, rfl, hm, r, D1, fun k H2 k0 k1 D2 M2 => ⟨(by show 2 ≤ sizeLine; decide), fun p np => ?_⟩⟩
    exact q _ (.tuple [.str ("ref" : Str), .int k]) _ ((K1.trans (Kept.of_moved M2)).put ((K1.trans (Kept.of_moved M2)).free D2.atD np)) (D2.fresh np) (.tup upd_same (.cons (.str _) (.cons (.int _) .nil))) (val_two (by decide +kernel) fun _ => ⟨k0, k1⟩)
  · have c : ¬ j < 4 := fun z => c (decide_eq_true z)
    refine ⟨_, rfl, d, 90, rfl, by decide, r, D1, fun k1 H2 a0 a1 D2 M2 => ⟨(by show 2 ≤ sizeLine; decide), fun p1 n1 => ⟨(by show 1 ≤ sizeLine; decide), fun p2 n2 => ?_⟩⟩⟩
    have D3 := D2.fresh (o := .tup [V.str ("num" : Str), V.int k1]) n1
    have D4 := D3.fresh (o := .tup [V.str ("nothing" : Str)]) n2
    refine ⟨_, rfl, d, 4, rfl, by decide, r, D4, fun k2 H5 b0 b1 D5 M5 => ⟨(by show 2 ≤ sizeLine; decide), fun p3 n3 => ⟨(by show 2 ≤ sizeLine; decide), fun p4 n4 => ⟨(by show 4 ≤ sizeLine; decide), fun pl nl => ?_⟩⟩⟩⟩
    have D6 := D5.fresh (o := .tup [V.str ("method" : Str), V.int k2]) n3
    have D7 := D6.fresh (o := .tup [V.str ("block" : Str), V.int 1]) n4
    have D8 := D7.fresh (o := .lst [V.ref p1, V.ref p2, V.ref p3, V.ref p4]) nl
    have K2 : Kept d H H2 := K1.trans (Kept.of_moved M2)
    have K3 := alloc_kept (o := .tup [V.str ("num" : Str), V.int k1]) K2 D2 n1
    have K4 := alloc_kept (o := .tup [V.str ("nothing" : Str)]) K3 D3 n2
    have K5 := K4.trans (Kept.of_moved M5)
    have K6 := alloc_kept (o := .tup [V.str ("method" : Str), V.int k2]) K5 D5 n3
    have K7 := alloc_kept (o := .tup [V.str ("block" : Str), V.int 1]) K6 D6 n4
    have K8 := alloc_kept (o := .lst [V.ref p1, V.ref p2, V.ref p3, V.ref p4]) K7 D7 nl
    have t8 := TK.new (o := .lst [V.ref p1, V.ref p2, V.ref p3, V.ref p4]) nl
    have t7 := (TK.new (o := .tup [V.str ("block" : Str), V.int 1]) n4).trans t8
    have t6 := (TK.new (o := .tup [V.str ("method" : Str), V.int k2]) n3).trans t7
    have t5 := (kept_tk D4 (Kept.of_moved M5)).trans t6
    have t4 := (TK.new (o := .tup [V.str ("nothing" : Str)]) n2).trans t5
    obtain rfl | rfl | rfl | rfl : j = 4 ∨ j = 5 ∨ j = 6 ∨ j = 7 := by omega
    · refine ⟨_, rfl, _, _, rfl, rfl, pl, _, _, _, rfl, rfl, SqL.of upd_same, atI_nat (j := 0) rfl, q _ (.tuple [.str ("num" : Str), .int k1]) _ K8 D8 (.tup (t4 _ _ upd_same) (.cons (.str _) (.cons (.int _) .nil))) (val_two (by decide +kernel) fun z => absurd z (by decide +kernel))⟩
    · refine ⟨_, rfl, _, _, rfl, rfl, pl, _, _, _, rfl, rfl, SqL.of upd_same, atI_nat (j := 1) rfl, q _ (.tuple [.str ("nothing" : Str)]) _ K8 D8 (.tup (t5 _ _ upd_same) (.cons (.str _) .nil)) (val_one (by decide +kernel) (by decide +kernel))⟩
    · refine ⟨_, rfl, _, _, rfl, rfl, pl, _, _, _, rfl, rfl, SqL.of upd_same, atI_nat (j := 2) rfl, q _ (.tuple [.str ("method" : Str), .int k2]) _ K8 D8 (.tup (t7 _ _ upd_same) (.cons (.str _) (.cons (.int _) .nil))) (val_two (by decide +kernel) fun z => absurd z (by decide +kernel))⟩
    · refine ⟨_, rfl, _, _, rfl, rfl, pl, _, _, _, rfl, rfl, SqL.of upd_same, atI_nat (j := 3) rfl, q _ (.tuple [.str ("block" : Str), .int 1]) _ K8 D8 (.tup (t8 _ _ upd_same) (.cons (.str _) (.cons (.int _) .nil))) (val_two (by decide +kernel) fun z => absurd z (by decide +kernel))⟩
end
end Rm.Q

/-! M22: what a search rests on: plain Lean; worlds of objects that a law makes. -/
namespace Rm.Q
open PySem PySem.Spec PyProof.Rows L2
/-! ### data without truths: equal is the same -/
mutual
def plD : PyData → Bool
  | .none | .int _ | .str _ => true
  | .tuple xs => plAll xs
  | _ => false
def plAll : List PyData → Bool
  | [] => true
  | x :: xs => plD x && plAll xs
end
mutual
theorem eqv_eq : ∀ (d e : PyData), plD d = true → plD e = true → PyData.eqv d e = true → d = e
  | .none, e, _, he, h => by cases e <;> simp_all [PyData.eqv, plD]
  | .int i, e, _, he, h => by cases e <;> simp_all [PyData.eqv, plD]
  | .str x, e, _, he, h => by cases e <;> simp_all [PyData.eqv, plD]
  | .tuple xs, e, hd, he, h => by
    cases e with
    | tuple ys =>
      simp only [plD] at hd he
      simp only [PyData.eqv] at h
      rw [eqvAll_eq xs ys hd he h]
    | _ => simp_all [PyData.eqv, plD]
  | .bool _, _, hd, _, _ => by simp [plD] at hd
  | .list _, _, hd, _, _ => by simp [plD] at hd
  | .dict _, _, hd, _, _ => by simp [plD] at hd
theorem eqvAll_eq : ∀ (xs ys : List PyData), plAll xs = true → plAll ys = true → PyData.eqvAll xs ys = true → xs = ys
  | [], ys, _, _, h => by
    cases ys with
    | nil => rfl
    | cons y ys => simp [PyData.eqvAll] at h
  | x :: xs, ys, hd, he, h => by
    cases ys with
    | nil => simp [PyData.eqvAll] at h
    | cons y ys =>
      simp only [plAll, Bool.and_eq_true] at hd he
      simp only [PyData.eqvAll, Bool.and_eq_true] at h
      rw [eqv_eq x y hd.1 he.1 h.1, eqvAll_eq xs ys hd.2 he.2 h.2]
end
mutual
theorem tr_pl {H : Hp} : ∀ {v : V} {d : PyData}, Tr H v d → plD d = true
  | _, _, .non => rfl
  | _, _, .int _ => rfl
  | _, _, .str _ => rfl
  | _, _, .tup _ r => by
    simp only [plD]
    exact trs_pl r
theorem trs_pl {H : Hp} : ∀ {vs : List V} {ds : List PyData}, Trs H vs ds → plAll ds = true
  | _, _, .nil => rfl
  | _, _, .cons h r => by
    simp only [plAll, Bool.and_eq_true]
    exact ⟨tr_pl h, trs_pl r⟩
end
/-! ### searches -/
section
variable {tab tab' : List En} {x : Str}
theorem sr_mono : ∀ (m : Nat) (L A w : List Int), ∀ i ∈ L, i ∈ (srF tab x m L A w).1
  | 0, _, _, _, _, h => h
  | _ + 1, _, _, [], _, h => h
  | m + 1, L, A, j :: w, i, h => by
    unfold srF
    split
    · exact sr_mono m L A w i h
    · split
      · exact sr_mono m _ _ w i (List.mem_append_left _ h)
      · exact sr_mono m _ _ _ i (List.mem_append_left _ h)
theorem sr_sub : ∀ (m : Nat) (L A w : List Int), (∀ i ∈ A, i ∈ L) → ∀ i ∈ (srF tab x m L A w).2, i ∈ (srF tab x m L A w).1
  | 0, _, _, _, h => h
  | _ + 1, _, _, [], h => h
  | m + 1, L, A, j :: w, h => by
    unfold srF
    split
    · exact sr_sub m L A w h
    · split
      · refine sr_sub m _ _ w fun i hi => ?_
        rcases List.mem_append.mp hi with hi | hi
        · exact List.mem_append_left _ (h i hi)
        · exact List.mem_append_right _ hi
      · exact sr_sub m _ _ _ fun i hi => List.mem_append_left _ (h i hi)
/-- what is looked at agrees: the same search -/
theorem sr_congr : ∀ (m : Nat) (L A w : List Int), (∀ i ∈ (srF tab x m L A w).1, hasS tab' x i = hasS tab x i ∧ parI tab' i = parI tab i) → srF tab' x m L A w = srF tab x m L A w
  | 0, _, _, _, _ => rfl
  | _ + 1, _, _, [], _ => rfl
  | m + 1, L, A, j :: w, h => by
    unfold srF at h ⊢
    by_cases c : j ∈ L
    · rw [if_pos c] at h
      rw [if_pos c, if_pos c]
      exact sr_congr m L A w h
    · rw [if_neg c] at h
      rw [if_neg c, if_neg c]
      have hj : hasS tab' x j = hasS tab x j ∧ parI tab' j = parI tab j := by
        refine h j ?_
        split
        · exact sr_mono m _ _ w j (List.mem_append_right _ (List.mem_singleton.mpr rfl))
        · exact sr_mono m _ _ _ j (List.mem_append_right _ (List.mem_singleton.mpr rfl))
      rw [hj.1, hj.2]
      by_cases c2 : hasS tab x j = true
      · rw [if_pos c2] at h
        rw [if_pos c2, if_pos c2]
        exact sr_congr m _ _ w h
      · rw [if_neg c2] at h
        rw [if_neg c2, if_neg c2]
        exact sr_congr m _ _ _ h
theorem sr_fuel (o : tab.Pairwise fun a b => a.id < b.id) (cl : Closed tab) : ∀ (m m2 : Nat) (L A w : List Int), L.Nodup → (∀ i ∈ L, isId tab i) → (∀ i ∈ w, isId tab i) → (tab.length - L.length) * (bdS tab + 1) + w.length < m → (tab.length - L.length) * (bdS tab + 1) + w.length < m2 → srF tab x m L A w = srF tab x m2 L A w
  | 0, _, _, _, _, _, _, _, h, _ => absurd h (Nat.not_lt_zero _)
  | _, 0, _, _, _, _, _, _, _, h => absurd h (Nat.not_lt_zero _)
  | m + 1, m2 + 1, L, A, [], _, _, _, _, _ => rfl
  | m + 1, m2 + 1, L, A, j :: w, nd, hL, hw, h1, h2 => by
    rw [List.length_cons] at h1 h2
    have hw2 : ∀ i ∈ w, isId tab i := fun i hi => hw i (List.mem_cons_of_mem _ hi)
    unfold srF
    by_cases c : j ∈ L
    · rw [if_pos c, if_pos c]
      exact sr_fuel o cl m m2 L A w nd hL hw2 (by omega) (by omega)
    · rw [if_neg c, if_neg c]
      have ndL : (L ++ [j]).Nodup := List.nodup_append.mpr ⟨nd, by simp, fun y hy z hz => by
        rw [List.mem_singleton.mp hz]
        intro k
        exact c (by rw [← k]; exact hy)⟩
      have hLi : ∀ i ∈ L ++ [j], isId tab i := fun i hi => by
        rcases List.mem_append.mp hi with hi | hi
        · exact hL i hi
        · rw [List.mem_singleton.mp hi]
          exact hw j List.mem_cons_self
      have ll := ids_len ndL hLi
      rw [List.length_append, List.length_singleton] at ll
      have el : (L ++ [j]).length = L.length + 1 := by rw [List.length_append]; rfl
      split
      · have a1 := fuel_step (N := tab.length) (l := L.length) (B := bdS tab) (w := w.length) (m := m) ll h1 (Nat.zero_le _)
        have a2 := fuel_step (N := tab.length) (l := L.length) (B := bdS tab) (w := w.length) (m := m2) ll h2 (Nat.zero_le _)
        exact sr_fuel o cl m m2 _ _ w ndL hLi hw2 (by rw [el]; omega) (by rw [el]; omega)
      · obtain ⟨e, he, rfl⟩ := hw j List.mem_cons_self
        rw [parI_mem o he]
        have b := par_bd he
        have a1 := fuel_step (N := tab.length) (l := L.length) (B := bdS tab) (w := w.length) (m := m) ll h1 b
        have a2 := fuel_step (N := tab.length) (l := L.length) (B := bdS tab) (w := w.length) (m := m2) ll h2 b
        refine sr_fuel o cl m m2 _ _ _ ndL hLi (fun i hi => ?_) (by rw [el, List.length_append]; exact a1) (by rw [el, List.length_append]; exact a2)
        rcases List.mem_append.mp hi with hi | hi
        · exact cl e he i hi
        · exact hw2 i hi
theorem sr_ids (o : tab.Pairwise fun a b => a.id < b.id) (cl : Closed tab) : ∀ (m : Nat) (L A w : List Int), (∀ i ∈ L, isId tab i) → (∀ i ∈ w, isId tab i) → ∀ i ∈ (srF tab x m L A w).1, isId tab i
  | 0, _, _, _, h, _ => h
  | _ + 1, _, _, [], h, _ => h
  | m + 1, L, A, j :: w, h, hw => by
    have hw2 : ∀ i ∈ w, isId tab i := fun i hi => hw i (List.mem_cons_of_mem _ hi)
    have hLi : ∀ i ∈ L ++ [j], isId tab i := fun i hi => by
      rcases List.mem_append.mp hi with hi | hi
      · exact h i hi
      · rw [List.mem_singleton.mp hi]
        exact hw j List.mem_cons_self
    unfold srF
    split
    · exact sr_ids o cl m L A w h hw2
    · split
      · exact sr_ids o cl m _ _ w hLi hw2
      · refine sr_ids o cl m _ _ _ hLi fun i hi => ?_
        obtain ⟨e, he, rfl⟩ := hw j List.mem_cons_self
        rw [parI_mem o he] at hi
        rcases List.mem_append.mp hi with hi | hi
        · exact cl e he i hi
        · exact hw2 i hi
theorem start_lt (st : List Int) : (tab.length - ([] : List Int).length) * (bdS tab + 1) + st.length < fuel tab st := by
  unfold fuel
  rw [List.length_nil, Nat.sub_zero]
  omega
theorem srch_ids (o : tab.Pairwise fun a b => a.id < b.id) (cl : Closed tab) {st : List Int} (hst : ∀ i ∈ st, isId tab i) : ∀ i ∈ (srch tab x st).1, isId tab i := sr_ids o cl _ [] [] st (fun i hi => by cases hi) hst
/-- the same search, the same outcome -/
theorem res_congr (o : tab.Pairwise fun a b => a.id < b.id) (o' : tab'.Pairwise fun a b => a.id < b.id) (cl : Closed tab) (cl' : Closed tab') {st : List Int} (h1 : ∀ i ∈ st, isId tab i) (h2 : ∀ i ∈ st, isId tab' i)
    (h : ∀ i ∈ (srch tab x st).1, slotOf tab' x i = slotOf tab x i ∧ parI tab' i = parI tab i) : resD tab' x (srch tab' x st) = resD tab x (srch tab x st) := by
  have e : srch tab' x st = srch tab x st := by
    have f1 := start_lt (tab := tab) st
    have f2 := start_lt (tab := tab') st
    have a1 : srch tab x st = srF tab x (fuel tab st + fuel tab' st) [] [] st := sr_fuel o cl _ _ [] [] st List.nodup_nil (fun i hi => by cases hi) h1 f1 (by omega)
    have a2 : srch tab' x st = srF tab' x (fuel tab st + fuel tab' st) [] [] st := sr_fuel o' cl' _ _ [] [] st List.nodup_nil (fun i hi => by cases hi) h2 f2 (by omega)
    rw [a1] at h ⊢
    rw [a2]
    exact sr_congr _ [] [] st fun i hi => ⟨by unfold hasS; rw [(h i hi).1], (h i hi).2⟩
  have sub : ∀ i ∈ (srch tab x st).2, i ∈ (srch tab x st).1 := sr_sub _ [] [] st fun i hi => by cases hi
  have key : outD tab' x (srch tab x st).2 = outD tab x (srch tab x st).2 := by
    generalize (srch tab x st).2 = hs at sub ⊢
    match hs, sub with
    | [], _ => rfl
    | [j], sub =>
      have one : ∀ t : List En, outD t x [j] = match slotOf t x j with | some s => PyData.tuple [.str ("found" : Str), .int j, .str s.kind, s.val] | none => .none := fun _ => rfl
      rw [one, one, (h j (sub j List.mem_cons_self)).1]
    | _ :: _ :: _, _ => rfl
  rw [e]
  unfold resD
  rw [key]
/-- what a law keeps of an object: its slot of a name and its parents -/
def slD (tab : List En) (x : Str) (i : Int) : PyData := match slotOf tab x i with
  | some s => .tuple [.str s.kind, s.val]
  | none => .none
def vD (tab : List En) (x : Str) (i : Int) : PyData := .tuple [slD tab x i, .tuple ((parI tab i).map PyData.int)]
theorem slotOf_name {i : Int} {s : Sl} (h : slotOf tab x i = some s) : s.name = x := by
  unfold slotOf at h
  obtain ⟨e, _, g⟩ := Option.bind_eq_some_iff.mp h
  exact (getS_mem g).2
theorem ints_inj : ∀ {a b : List Int}, a.map PyData.int = b.map PyData.int → a = b
  | [], [], _ => rfl
  | [], _ :: _, h => by cases h
  | _ :: _, [], h => by cases h
  | x :: a, y :: b, h => by
    obtain ⟨h1, h2⟩ := List.cons.inj h
    rw [PyData.int.inj h1, ints_inj h2]
theorem vD_inj {i : Int} (h : vD tab' x i = vD tab x i) : slotOf tab' x i = slotOf tab x i ∧ parI tab' i = parI tab i := by
  unfold vD at h
  injection h with h
  injection h with h1 h2
  injection h2 with h2
  injection h2 with h2
  refine ⟨?_, ints_inj h2⟩
  unfold slD at h1
  cases a : slotOf tab' x i with
  | none =>
    rw [a] at h1
    cases b : slotOf tab x i with
    | none => rfl
    | some s =>
      rw [b] at h1
      cases h1
  | some s =>
    rw [a] at h1
    cases b : slotOf tab x i with
    | none =>
      rw [b] at h1
      cases h1
    | some t =>
      rw [b] at h1
      injection h1 with h1
      injection h1 with h3 h4
      injection h3 with h3
      injection h4 with h4
      have n1 := slotOf_name a
      have n2 := slotOf_name b
      obtain ⟨x1, x2, x3⟩ := s
      obtain ⟨y1, y2, y3⟩ := t
      dsimp only at n1 n2 h3 h4
      rw [n1, n2, h3, h4]
end
/-! ### worlds that the law makes -/
structure SlD (m : Int) (s : Sl) : Prop where
  nm : ∃ t ∈ nameM, s.name = Str.ofString t
  kd : PyData.strOk s.kind = true
  vl : ValD m s.val
structure GoodT (tab : List En) (n : Nat) (m : Int) : Prop where
  ids : tab.map (·.id) = List.range n
  sl : ∀ e ∈ tab, ∀ s ∈ e.sl, SlD m s
  nd : ∀ e ∈ tab, NdS e.sl
section
variable {tab : List En} {n : Nat} {m : Int}
theorem GoodT.len (g : GoodT tab n m) : tab.length = n := by
  have := congrArg List.length g.ids
  rwa [List.length_map, List.length_range] at this
theorem GoodT.ord (g : GoodT tab n m) : tab.Pairwise fun a b => a.id < b.id := by
  have a : (List.range n).Pairwise (· < ·) := List.pairwise_lt_range
  rw [← g.ids] at a
  exact List.pairwise_map.mp a
theorem GoodT.isId (g : GoodT tab n m) {i : Int} (h0 : 0 ≤ i) (h1 : i < n) : isId tab i := by
  obtain ⟨k, rfl⟩ := int_nat h0
  have : k ∈ tab.map (·.id) := by
    rw [g.ids]
    exact List.mem_range.mpr (by omega)
  obtain ⟨e, he, rfl⟩ := List.mem_map.mp this
  exact ⟨e, he, rfl⟩
theorem GoodT.lt (g : GoodT tab n m) {e : En} (he : e ∈ tab) : e.id < n := by
  have : e.id ∈ tab.map (·.id) := List.mem_map.mpr ⟨e, he, rfl⟩
  rw [g.ids] at this
  exact List.mem_range.mp this
theorem GoodT.closed (g : GoodT tab n m) (le : m ≤ n) : Closed tab := fun e he i hi => by
  obtain ⟨s, hs, h⟩ := List.mem_filterMap.mp hi
  unfold parOf at h
  split at h
  · obtain ⟨a, b⟩ := (g.sl e he s hs).vl.ref i h
    exact g.isId a (by omega)
  · cases h
theorem strs_len : ∀ {L M : List Str}, L.Nodup → (∀ i ∈ L, i ∈ M) → L.length ≤ M.length
  | [], _, _, _ => Nat.zero_le _
  | i :: L, M, nd, h => by
    obtain ⟨n1, n2⟩ := List.nodup_cons.mp nd
    have hi := h i List.mem_cons_self
    have e := List.length_erase_of_mem hi
    have pos : 0 < M.length := List.length_pos_of_mem hi
    have ih := strs_len (M := M.erase i) n2 fun j hj => (List.mem_erase_of_ne (fun z => n1 (by rw [← z]; exact hj))).mpr (h j (List.mem_cons_of_mem _ hj))
    rw [List.length_cons]
    omega
theorem six {m : Int} {sl : List Sl} (nd : NdS sl) (h : ∀ s ∈ sl, SlD m s) : sl.length ≤ 6 := by
  have := strs_len (M := nameM.map Str.ofString) nd fun i hi => by
    obtain ⟨s, hs, rfl⟩ := List.mem_map.mp hi
    obtain ⟨t, ht, e⟩ := (h s hs).nm
    exact List.mem_map.mpr ⟨t, ht, e.symm⟩
  rw [List.length_map, List.length_map] at this
  exact this
theorem GoodT.six (g : GoodT tab n m) {e : En} (he : e ∈ tab) : e.sl.length ≤ 6 := Q.six (g.nd e he) (g.sl e he)
theorem sum_le {B : Nat} : ∀ {l : List Nat}, (∀ x ∈ l, x ≤ B) → l.sum ≤ l.length * B
  | [], _ => by simp
  | y :: l, h => by
    have := sum_le fun x hx => h x (List.mem_cons_of_mem _ hx)
    have := h y List.mem_cons_self
    rw [List.sum_cons, List.length_cons, Nat.succ_mul]
    omega
theorem GoodT.fuel (g : GoodT tab n m) (hn : n ≤ 100) {st : List Int} (hs : st.length ≤ 1000) : fuel tab st ≤ 10000000 := by
  have b : bdS tab ≤ n * 6 := by
    have := sum_le (B := 6) (l := tab.map fun e => (parS e.sl).length) fun x hx => by
      obtain ⟨e, he, rfl⟩ := List.mem_map.mp hx
      exact Nat.le_trans (parS_len _) (g.six he)
    rw [List.length_map, g.len] at this
    exact this
  unfold Rm.fuel
  rw [g.len]
  have : n * (bdS tab + 1) ≤ 100 * 601 := Nat.mul_le_mul hn (by omega)
  omega
theorem GoodT.set (g : GoodT tab n m) (i : Nat) {sl : List Sl} (h : ∀ s ∈ sl, SlD m s) (nd : NdS sl) : GoodT (setE tab i sl) n m := by
  refine ⟨(setE_id tab i sl).trans g.ids, fun e he => ?_, fun e he => ?_⟩
  · obtain ⟨e0, m0, rfl⟩ := setE_mem he
    split
    · exact h
    · exact g.sl e0 m0
  · obtain ⟨e0, m0, rfl⟩ := setE_mem he
    split
    · exact nd
    · exact g.nd e0 m0
theorem GoodT.add (g : GoodT tab n m) (o : Addr) {sl : List Sl} (h : ∀ s ∈ sl, SlD m s) (nd : NdS sl) : GoodT (tab ++ [⟨n, o, sl⟩]) (n + 1) m := by
  refine ⟨by rw [List.map_append, g.ids, List.range_succ]; rfl, fun e he => ?_, fun e he => ?_⟩
  · rcases List.mem_append.mp he with he | he
    · exact g.sl e he
    · rw [List.mem_singleton.mp he]
      exact h
  · rcases List.mem_append.mp he with he | he
    · exact g.nd e he
    · rw [List.mem_singleton.mp he]
      exact nd
theorem mkS_nd (ts : List Sl) : NdS (mkS ts) := by
  have z : ∀ (l acc : List Sl), NdS acc → NdS (l.foldl putS acc) := by
    intro l
    induction l with
    | nil => exact fun _ h => h
    | cons s l ih => exact fun acc h => ih _ (putS_nd s h)
  exact z ts [] List.nodup_nil
theorem mkS_mem {ts : List Sl} {s : Sl} (h : s ∈ mkS ts) : s ∈ ts := by
  have z : ∀ (l acc : List Sl) (s : Sl), s ∈ l.foldl putS acc → s ∈ acc ∨ s ∈ l := by
    intro l
    induction l with
    | nil => exact fun _ s h => .inl h
    | cons t l ih =>
      intro acc s h
      rcases ih _ s h with h | h
      · rcases putS_mem h with h | h
        · exact .inl h
        · exact .inr (by rw [h]; exact List.mem_cons_self)
      · exact .inr (List.mem_cons_of_mem _ h)
  rcases z ts [] s h with h | h
  · cases h
  · exact h
/-- elsewhere nothing has changed -/
theorem slot_set (g : GoodT tab n m) (i : Nat) (sl : List Sl) {x : Str} {j : Int} (hj : isId tab j) (ne : j ≠ (i : Int)) : slotOf (setE tab i sl) x j = slotOf tab x j ∧ parI (setE tab i sl) j = parI tab j := by
  obtain ⟨e, he, rfl⟩ := hj
  have ne : e.id ≠ i := by omega
  have m2 : e ∈ setE tab i sl := List.mem_map.mpr ⟨e, he, if_neg ne⟩
  have o2 := pw_ids (setE_id tab i sl) g.ord
  rw [slotOf_mem o2 m2, slotOf_mem g.ord he, parI_mem o2 m2, parI_mem g.ord he]
  exact ⟨rfl, rfl⟩
theorem slot_add {t : En} (o2 : (tab ++ [t]).Pairwise fun a b => a.id < b.id) (g : GoodT tab n m) {x : Str} {j : Int} (hj : isId tab j) : slotOf (tab ++ [t]) x j = slotOf tab x j ∧ parI (tab ++ [t]) j = parI tab j := by
  obtain ⟨e, he, rfl⟩ := hj
  have m2 : e ∈ tab ++ [t] := List.mem_append_left _ he
  rw [slotOf_mem o2 m2, slotOf_mem g.ord he, parI_mem o2 m2, parI_mem g.ord he]
  exact ⟨rfl, rfl⟩
end
/-! ### a world: draws, objects -/
structure Wo (K : PySem.W.Frag) (H : Hp) (d r p dx tb : Addr) (tab : List En) (n : Nat) (m : Int) : Prop where
  dr : Draws H d r
  ob : Ob K H p dx tb tab n
  gd : GoodT tab n m
  dt : d ≠ tb
  da : ∀ e ∈ tab, d ≠ e.at_
/-- what else stands stays -/
def KW (d p tb : Addr) (tab : List En) (H H' : Hp) : Prop := ∀ b u, b ≠ d → b ≠ p → b ≠ tb → (∀ e ∈ tab, b ≠ e.at_) → H b = some u → H' b = some u
section
variable {K : PySem.W.Frag} {H H' : Hp} {d r p dx tb : Addr} {tab : List En} {n : Nat} {m : Int}
theorem Wo.pd (w : Wo K H d r p dx tb tab n m) : p ≠ d := by
  obtain ⟨i, s, ns, h1, _⟩ := w.dr
  exact ne_of w.ob.ins h1 (by intro z; cases z)
theorem Wo.same (w : Wo K H d r p dx tb tab n m) (s : Same H H') : Wo K H' d r p dx tb tab n m := ⟨w.dr.same s, w.ob.same s, w.gd, w.dt, w.da⟩
theorem Wo.kept (w : Wo K H d r p dx tb tab n m) (k : Kept d H H') (D : Draws H' d r) : Wo K H' d r p dx tb tab n m := by
  refine ⟨D, w.ob.keep ?_ ?_ (fun e he => ?_) (kept_tk w.dr k), w.gd, w.dt, w.da⟩
  · exact (k _ _ w.pd w.ob.ins).trans w.ob.ins.symm
  · exact (k _ _ (Ne.symm w.dt) w.ob.tbl).trans w.ob.tbl.symm
  · obtain ⟨kvs, g, _⟩ := w.ob.ent e he
    exact (k _ _ (Ne.symm (w.da e he)) g).trans g.symm
theorem Wo.ko {tab' : List En} {n' : Nat} (w : Wo K H d r p dx tb tab n m) (k : KO p tb tab H H') (O : Ob K H' p dx tb tab' n') (g : GoodT tab' n' m) (da : ∀ e ∈ tab', d ≠ e.at_) : Wo K H' d r p dx tb tab' n' m := by
  obtain ⟨i, s, ns, h1, h2, h3⟩ := id w.dr
  refine ⟨⟨i, s, ns, k _ _ (Ne.symm w.pd) w.dt w.da h1, k _ _ (ne_of h2 w.ob.ins (by intro z; cases z)) (ne_of h2 w.ob.tbl (by intro z; cases z)) (fun e he => ?_) h2, h3⟩, O, g, w.dt, da⟩
  obtain ⟨kvs, g, _⟩ := w.ob.ent e he
  exact ne_of h2 g (by intro z; cases z)
/-- a list of the def's own is written anew -/
theorem Wo.lst {u : Addr} {xs ys : List V} (w : Wo K H d r p dx tb tab n m) (h : H u = some (.lst xs)) (ur : u ≠ r) : Wo K (upd H u (.lst ys)) d r p dx tb tab n m := by
  obtain ⟨i, s, ns, h1, h2, h3⟩ := id w.dr
  have ud : u ≠ d := ne_of h h1 (by intro z; cases z)
  have tk : TK H (upd H u (.lst ys)) := fun b zs e => by
    rw [upd_ne (ne_of e h (by intro z; cases z))]
    exact e
  refine ⟨w.dr.other ud ur, w.ob.keep (upd_ne (ne_of w.ob.ins h (by intro z; cases z))) (upd_ne (ne_of w.ob.tbl h (by intro z; cases z))) (fun e he => ?_) tk, w.gd, w.dt, w.da⟩
  obtain ⟨kvs, g, _⟩ := w.ob.ent e he
  exact upd_ne (ne_of g h (by intro z; cases z))
theorem Wo.closed (w : Wo K H d r p dx tb tab n m) (le : m ≤ n) : Closed tab := w.gd.closed le
theorem KW.trans {H2 : Hp} (a : KW d p tb tab H H') (b : KW d p tb tab H' H2) : KW d p tb tab H H2 := fun c u n1 n2 n3 n4 z => b c u n1 n2 n3 n4 (a c u n1 n2 n3 n4 z)
theorem KW.kept (k : Kept d H H') : KW d p tb tab H H' := fun b u n1 _ _ _ z => k b u n1 z
theorem KW.ko (k : KO p tb tab H H') : KW d p tb tab H H' := fun b u _ n2 n3 n4 z => k b u n2 n3 n4 z
theorem KW.same (s : Same H H') : KW d p tb tab H H' := fun b u _ _ _ _ z => s b u z
theorem KW.tk (w : Wo K H d r p dx tb tab n m) (k : KW d p tb tab H H') : TK H H' := fun a xs z => by
  obtain ⟨i, s, ns, h1, _⟩ := w.dr
  refine k a _ (ne_of z h1 (by intro z; cases z)) (ne_of z w.ob.ins (by intro z; cases z)) (ne_of z w.ob.tbl (by intro z; cases z)) (fun e he => ?_) z
  obtain ⟨kvs, g, _⟩ := w.ob.ent e he
  exact ne_of z g (by intro z; cases z)
/-! ### shapes -/
theorem ints_lay : ∀ L : List Int, PyData.canLayAll0 (L.map PyData.int) = true ∧ PyData.depthAll (L.map PyData.int) = 0
  | [] => ⟨rfl, rfl⟩
  | i :: L => by
    obtain ⟨a, b⟩ := ints_lay L
    rw [List.map_cons]
    simp [PyData.canLayAll0, PyData.depthAll, PyData.canLay0, PyData.depth, a, b]
theorem slot_sl (w : Wo K H d r p dx tb tab n m) {x : Str} {i : Int} {s : Sl} (h : slotOf tab x i = some s) : SlD m s := by
  unfold slotOf at h
  obtain ⟨e, h1, h2⟩ := Option.bind_eq_some_iff.mp h
  exact w.gd.sl e (List.mem_of_find?_eq_some h1) s (getS_mem h2).1
theorem outD_lay (w : Wo K H d r p dx tb tab n m) (x : Str) (hs : List Int) : PyData.canLay0 (outD tab x hs) = true ∧ PyData.depth (outD tab x hs) ≤ 2 := by
  have o1 : PyData.strOk ("none" : Str) = true := by decide +kernel
  have o2 : PyData.strOk ("found" : Str) = true := by decide +kernel
  have o3 : PyData.strOk ("several" : Str) = true := by decide +kernel
  match hs with
  | [] => exact ⟨by simp [outD, PyData.canLay0, PyData.canLayAll0, o1], by simp [outD, PyData.depth, PyData.depthAll]⟩
  | [j] =>
    have one : outD tab x [j] = match slotOf tab x j with | some s => PyData.tuple [.str ("found" : Str), .int j, .str s.kind, s.val] | none => .none := rfl
    rw [one]
    cases z : slotOf tab x j with
    | none => exact ⟨rfl, by simp [PyData.depth]⟩
    | some s =>
      have sd := slot_sl w z
      have v1 := sd.vl.lay
      have v2 := sd.vl.dep
      have v3 := sd.kd
      refine ⟨by simp [PyData.canLay0, PyData.canLayAll0, o2, v1, v3], ?_⟩
      simp only [PyData.depth, PyData.depthAll]
      omega
  | _ :: _ :: _ => exact ⟨by simp [outD, PyData.canLay0, PyData.canLayAll0, o3], by simp [outD, PyData.depth, PyData.depthAll]⟩
theorem shaped_small {d : PyData} (h : PyData.canLay0 d = true) (k : PyData.depth d ≤ 60) : SeqAt.shaped d = true := by
  unfold SeqAt.shaped
  rw [h, Bool.true_and]
  exact decide_eq_true (by omega)
theorem resD_shaped (w : Wo K H d r p dx tb tab n m) (x : Str) (q : List Int × List Int) : SeqAt.shaped (resD tab x q) = true := by
  obtain ⟨a, b⟩ := outD_lay w x q.2
  obtain ⟨c, e⟩ := ints_lay q.1
  unfold resD
  refine shaped_small (by simp [PyData.canLay0, PyData.canLayAll0, a, c]) ?_
  simp only [PyData.depth, PyData.depthAll, e]
  omega
theorem vD_shaped (w : Wo K H d r p dx tb tab n m) (x : Str) (i : Int) : SeqAt.shaped (vD tab x i) = true := by
  obtain ⟨c, e⟩ := ints_lay (parI tab i)
  unfold vD slD
  cases z : slotOf tab x i with
  | none =>
    refine shaped_small (by simp [PyData.canLay0, PyData.canLayAll0, c]) ?_
    simp only [PyData.depth, PyData.depthAll, e]
    omega
  | some s =>
    have sd := slot_sl w z
    have v1 := sd.vl.lay
    have v2 := sd.vl.dep
    have v3 := sd.kd
    refine shaped_small (by simp [PyData.canLay0, PyData.canLayAll0, c, v1, v3]) ?_
    simp only [PyData.depth, PyData.depthAll, e]
    omega
theorem in_ints (i : Int) (L : List Int) : inV (.int i) (L.map V.int) = decide (i ∈ L) := by
  unfold inV
  rw [Bool.eq_iff_iff, List.any_eq_true, decide_eq_true_iff]
  constructor
  · rintro ⟨v, hv, e⟩
    obtain ⟨k, hk, rfl⟩ := List.mem_map.mp hv
    have e : (k == i) = true := e
    rw [← beq_iff_eq.mp e]
    exact hk
  · intro h
    exact ⟨V.int i, List.mem_map.mpr ⟨i, h, rfl⟩, by show (i == i) = true; simp⟩
theorem merge_app : ∀ (kvs acc : List (Key × V)), (∀ kv ∈ kvs, valV acc kv.1 = none) → (kvs.map (·.1)).Nodup → mergeK acc kvs = acc ++ kvs
  | [], acc, _, _ => (List.append_nil acc).symm
  | kv :: kvs, acc, h, nd => by
    obtain ⟨n1, n2⟩ := List.nodup_cons.mp nd
    show mergeK (putK acc kv.1 kv.2) kvs = _
    rw [putK_new _ (h kv List.mem_cons_self), merge_app kvs (acc ++ [(kv.1, kv.2)]) (fun k hk => ?_) n2, List.append_assoc]
    · rfl
    · rw [valV_snoc _ _ _ _ (h kv List.mem_cons_self), if_neg, h k (List.mem_cons_of_mem _ hk)]
      intro e
      exact n1 (List.mem_map.mpr ⟨k, hk, e⟩)
end
end Rm.Q

/-! L22: what a search rests on: the law's own defs: promises, readings (by gen.py), runs. -/
namespace Rm.Q
open PySem PySem.Spec PyProof.Rows L2
def sp_l_objects (K : PySem.W.Frag) : Sp := fun vs H Q _ => ∃ (d r p dx tb o : Addr), vs = [.ref d, .ref p] ∧ Draws H d r ∧ Ob K H p dx tb [⟨0, o, [lobbyS]⟩] 1 ∧ d ≠ tb ∧ d ≠ o ∧
  ∀ (n : Nat) H' tab, 2 ≤ n → n ≤ 8 → Wo K H' d r p dx tb tab n n → Q (.int (n : Int)) H'
def sp_l_change (K : PySem.W.Frag) : Sp := fun vs H Q _ => ∃ (d r p dx tb : Addr) (tab : List En) (n m : Nat), vs = [.ref d, .ref p, .int (m : Int)] ∧ Wo K H d r p dx tb tab n m ∧ 0 < m ∧ m ≤ n ∧ n ≤ 100 ∧
  (∀ H' e sl, e ∈ tab → e.id < m → KW d p tb tab H H' → Wo K H' d r p dx tb (setE tab e.id sl) n m → Q (.int (e.id : Int)) H') ∧
  ∀ H' o sl, H o = none → KW d p tb tab H H' → Wo K H' d r p dx tb (tab ++ [⟨n, o, sl⟩]) (n + 1) m → Q (.int (-1)) H'
def sp_law (K : PySem.W.Frag) : Sp := fun vs H Q _ => ∃ (a : Addr) (ns : List Int), vs = [.ref a] ∧ SqL K H a (ns.map V.int) ∧ ns.length ≤ 63 ∧ ∀ H', Q (.bl true) H'
/-! ### readings -/

def ns_l_objects : List Str := ["draws", "objects", "many", "k", "slots", "j"]
def t_l_objects (K : PySem.W.Frag) (E : XK) : TS :=
  (tSeq (tAsg (tOp rAddI (tC (.int 2)) (tCall (sp_l_next K) [] E (tCons (tVar 0) (tCons (tC (.int 7)) tNil)))) (gName 2))
    (tSeq (tFor (iRng1 (tCons (tOp rSubI (tVar 2) (tC (.int 1))) tNil)) (gName 3)
      (tSeq (tAsg (tLst tNil) (gName 4))
    (tSeq (tFor (iRng1 (tCons (tCall (sp_l_next K) [] E (tCons (tVar 0) (tCons (tC (.int 5)) tNil))) tNil)) (gName 5)
      (tDrop (tBM K "list" rAppend (tVar 4) (tCons (tTup (tCons (tCall (sp_l_name K) [] E (tCons (tVar 0) tNil)) (tCons (tCall (sp_l_kind K) [] E (tCons (tVar 0) tNil)) (tCons (tCall (sp_l_value K) [] E (tCons (tVar 0) (tCons (tVar 2) tNil))) tNil)))) tNil))))
    (tDrop (tMeth (He.ga K ("Objects" : Str)) ("make" : Str) (sp_Objects_make K) [] E (tVar 1) (tCons (tCB (rTupleOf K) (tCons (tVar 4) tNil)) tNil))))))
    (tSeq (tFor (iRng1 (tCons (tCall (sp_l_next K) [] E (tCons (tVar 0) (tCons (tC (.int 6)) tNil))) tNil)) (gName 3)
      (tDrop (tMeth (He.ga K ("Objects" : Str)) ("put" : Str) (sp_Objects_put K) [] E (tVar 1) (tCons (tCall (sp_l_next K) [] E (tCons (tVar 0) (tCons (tVar 2) tNil))) (tCons (tCall (sp_l_name K) [] E (tCons (tVar 0) tNil)) (tCons (tCall (sp_l_kind K) [] E (tCons (tVar 0) tNil)) (tCons (tCall (sp_l_value K) [] E (tCons (tVar 0) (tCons (tVar 2) tNil))) tNil)))))))
    (tRet (tVar 2)))))

def ns_l_change : List Str := ["draws", "objects", "many", "one", "name", "pick"]
def t_l_change (K : PySem.W.Frag) (E : XK) : TS :=
  (tSeq (tAsg (tCall (sp_l_next K) [] E (tCons (tVar 0) (tCons (tVar 2) tNil))) (gName 3))
    (tSeq (tAsg (tCall (sp_l_name K) [] E (tCons (tVar 0) tNil)) (gName 4))
    (tSeq (tAsg (tCall (sp_l_next K) [] E (tCons (tVar 0) (tCons (tC (.int 4)) tNil))) (gName 5))
    (tSeq (tIfS (tTest (tOp rEq (tVar 5) (tC (.int 0))))
      (tDrop (tMeth (He.ga K ("Objects" : Str)) ("drop" : Str) (sp_Objects_drop K) [] E (tVar 1) (tCons (tVar 3) (tCons (tVar 4) tNil))))
      (tIfS (tAnd (tTest (tOp rEq (tVar 5) (tC (.int 1)))) (tTest (tOp rNotN (tMeth (He.ga K ("Objects" : Str)) ("slot" : Str) (sp_Objects_slot K) [] E (tVar 1) (tCons (tVar 3) (tCons (tVar 4) tNil))) (tC .non))))
      (tDrop (tMeth (He.ga K ("Objects" : Str)) ("assign" : Str) (sp_Objects_assign K) [] E (tVar 1) (tCons (tVar 3) (tCons (tVar 4) (tCons (tCall (sp_l_value K) [] E (tCons (tVar 0) (tCons (tVar 2) tNil))) tNil)))))
      (tIfS (tTest (tOp rEq (tVar 5) (tC (.int 2))))
      (tSeq (tDrop (tMeth (He.ga K ("Objects" : Str)) ("make" : Str) (sp_Objects_make K) [] E (tVar 1) (tCons (tTup (tCons (tTup (tCons (tVar 4) (tCons (tC (.str ("parent" : Str))) (tCons (tTup (tCons (tC (.str ("ref" : Str))) (tCons (tVar 3) tNil))) tNil)))) tNil)) tNil)))
    (tRet (tUn rNegI (tC (.int 1)))))
      (tDrop (tMeth (He.ga K ("Objects" : Str)) ("put" : Str) (sp_Objects_put K) [] E (tVar 1) (tCons (tVar 3) (tCons (tVar 4) (tCons (tCall (sp_l_kind K) [] E (tCons (tVar 0) tNil)) (tCons (tCall (sp_l_value K) [] E (tCons (tVar 0) (tCons (tVar 2) tNil))) tNil)))))))))
    (tRet (tVar 3))))))

def ns_law : List Str := ["script", "draws", "objects", "many", "turn", "name", "k", "starts", "before", "one", "slots", "after", "rests", "two"]
def t_law (K : PySem.W.Frag) (E : XK) : TS :=
  (tSeq (tAsg (tCall (sp_l_reader K) [] E (tCons (tVar 0) tNil)) (gName 1))
    (tSeq (tAsg (tMake (He.ga K ("Objects" : Str)) (sp_Objects_init K) [] E tNil) (gName 2))
    (tSeq (tAsg (tCall (sp_l_objects K) [] E (tCons (tVar 1) (tCons (tVar 2) tNil))) (gName 3))
    (tSeq (tFor (iRng1 (tCons (tC (.int 8)) tNil)) (gName 4)
      (tSeq (tAsg (tCall (sp_l_name K) [] E (tCons (tVar 1) tNil)) (gName 5))
    (tSeq (tAsg (tCB (rTupleOf K) (tCons (tLc (iRng1 (tCons (tOp rAddI (tC (.int 1)) (tCall (sp_l_next K) [] E (tCons (tVar 1) (tCons (tC (.int 2)) tNil)))) tNil)) (gName 6) tYes (tCall (sp_l_next K) [] E0 (tCons (tVar 1) (tCons (tVar 3) tNil))) [6]) tNil)) (gName 7))
    (tSeq (tAsg (tCall (sp_search K) [] E (tCons (tVar 2) (tCons (tVar 7) (tCons (tVar 5) tNil)))) (gName 8))
    (tSeq (tAsg (tCB (rDictP K) (tCons (tLc (iRng1 (tCons (tVar 3) tNil)) (gName 9) tYes (tTup (tCons (tVar 9) (tCons (tTup (tCons (tMeth (He.ga K ("Objects" : Str)) ("slot" : Str) (sp_Objects_slot K) [] E0 (tVar 2) (tCons (tVar 9) (tCons (tVar 5) tNil))) (tCons (tMeth (He.ga K ("Objects" : Str)) ("parents" : Str) (sp_Objects_parents K) [] E0 (tVar 2) (tCons (tVar 9) tNil)) tNil))) tNil))) [9]) tNil)) (gName 10))
    (tFor (iRng1 (tCons (tCall (sp_l_next K) [] E (tCons (tVar 1) (tCons (tC (.int 5)) tNil))) tNil)) (gName 6)
      (tSeq (tAsg (tCall (sp_l_change K) [] E (tCons (tVar 1) (tCons (tVar 2) (tCons (tVar 3) tNil)))) (gName 9))
    (tSeq (tAsg (tCall (sp_search K) [] E (tCons (tVar 2) (tCons (tVar 7) (tCons (tVar 5) tNil)))) (gName 11))
    (tSeq (tAsg (tAndV (tOp (rIn K false) (tVar 9) (tOp (rIxT K) (tVar 8) (tC (.int 1)))) (tOp (rNeD K) (tTup (tCons (tMeth (He.ga K ("Objects" : Str)) ("slot" : Str) (sp_Objects_slot K) [] E (tVar 2) (tCons (tVar 9) (tCons (tVar 5) tNil))) (tCons (tMeth (He.ga K ("Objects" : Str)) ("parents" : Str) (sp_Objects_parents K) [] E (tVar 2) (tCons (tVar 9) tNil)) tNil))) (tDGet (tVar 10) (tVar 9)))) (gName 12))
    (tSeq (tIfS (tAnd (tNot (tB (tVar 12))) (tTest (tOp (rNeD K) (tVar 11) (tVar 8))))
      (tRet (tC (.bl false)))
      tNext)
    (tSeq (tAsg (tVar 11) (gName 8))
    (tAsg (tCB (rDictP K) (tCons (tLc (iRng1 (tCons (tVar 3) tNil)) (gName 13) tYes (tTup (tCons (tVar 13) (tCons (tTup (tCons (tMeth (He.ga K ("Objects" : Str)) ("slot" : Str) (sp_Objects_slot K) [] E0 (tVar 2) (tCons (tVar 13) (tCons (tVar 5) tNil))) (tCons (tMeth (He.ga K ("Objects" : Str)) ("parents" : Str) (sp_Objects_parents K) [] E0 (tVar 2) (tCons (tVar 13) tNil)) tNil))) tNil))) [13]) tNil)) (gName 10)))))))))))))
    (tRet (tC (.bl true)))))))

section
variable {K : PySem.W.Frag} {vs : List V} {H : Hp} {Q : VK} {E : XK}
theorem ifI {A B : Prop} {i j : Int} (h1 : i = j → A) (h2 : i ≠ j → B) : if decide (V.int i = V.int j) = true then A else B := by
  by_cases h : i = j
  · rw [decide_eq_true (congrArg V.int h)]
    exact iteT (h1 h)
  · rw [decide_eq_false fun z => h (V.int.inj z)]
    exact iteF (h2 h)
theorem str_ok : ∀ s ∈ nameM ++ kindM, PyData.strOk (Str.ofString s) = true := by decide +kernel
theorem lobby_d {m : Int} (hm : 0 < m) : SlD m lobbyS := ⟨⟨"lobby", by decide, rfl⟩, by decide +kernel, val_two (by decide +kernel) fun _ => ⟨Int.le_refl _, hm⟩⟩
theorem sl_d {m : Int} {s k : String} {D : PyData} (hs : s ∈ nameM) (hk : k ∈ kindM) (v : ValD m D) : SlD m ⟨Str.ofString s, Str.ofString k, D⟩ := ⟨⟨s, hs, rfl⟩, str_ok k (List.mem_append_right _ hk), v⟩
theorem setE_at_ne {tab : List En} {d : Addr} (h : ∀ e ∈ tab, d ≠ e.at_) (i : Nat) (sl : List Sl) : ∀ e ∈ setE tab i sl, d ≠ e.at_ := fun e he => by
  obtain ⟨e0, m0, rfl⟩ := setE_mem he
  split
  · exact h e0 m0
  · exact h e0 m0
theorem add_at_ne {tab : List En} {d o : Addr} {n : Nat} {sl : List Sl} (h : ∀ e ∈ tab, d ≠ e.at_) (no : d ≠ o) : ∀ e ∈ tab ++ [⟨n, o, sl⟩], d ≠ e.at_ := fun e he => by
  rcases List.mem_append.mp he with he | he
  · exact h e he
  · rw [List.mem_singleton.mp he]
    exact no
theorem Wo.ne_d {d r p dx tb : Addr} {tab : List En} {n : Nat} {m : Int} {a : Addr} (w : Wo K H d r p dx tb tab n m) (n : H a = none) : d ≠ a := w.dr.neD n
/-- an object's slot is put -/
theorem put_w {d r p dx tb : Addr} {tab : List En} {n : Nat} {m : Int} {e : En} {s k : String} {D : PyData} {H' : Hp} (w : Wo K H d r p dx tb tab n m) (he : e ∈ tab) (hs : s ∈ nameM) (hk : k ∈ kindM) (v : ValD m D) (ko : KO p tb tab H H') (O : Ob K H' p dx tb (setE tab e.id (putS e.sl ⟨Str.ofString s, Str.ofString k, D⟩)) n) :
    Wo K H' d r p dx tb (setE tab e.id (putS e.sl ⟨Str.ofString s, Str.ofString k, D⟩)) n m := by
  refine w.ko ko O (w.gd.set e.id (fun t ht => ?_) (putS_nd _ (w.gd.nd e he))) (setE_at_ne w.da _ _)
  rcases putS_mem ht with ht | rfl
  · exact w.gd.sl e he t ht
  · exact sl_d hs hk v
theorem tk_put {u : Addr} {G : Hp} {xs ys : List V} (h : G u = some (.lst xs)) : TK G (upd G u (.lst ys)) := fun b zs e => by
  rw [upd_ne (ne_of e h (by intro z; cases z))]
  exact e
theorem run_l_objects (h : sp_l_objects K vs H Q E) : t_l_objects K E (DQ Q) (start ns_l_objects vs) H := by
  obtain ⟨d, r, p, dx, tb, o, rfl, hD, O0, hdt, hdo, q⟩ := h
  refine ⟨_, rfl, d, 7, rfl, by decide, r, hD, fun c H1 c0 c1 D1 M1 => ⟨_, _, rfl, rfl, ?_⟩⟩
  obtain ⟨c, rfl⟩ := int_nat c0
  have em : (2 : Int) + (c : Int) = ((c + 2 : Nat) : Int) := by omega
  show gName 2 (V.int (2 + (c : Int))) _ _ _
  rw [em]
  have hm : (0 : Int) < ((c + 2 : Nat) : Int) := by omega
  have W0 : Wo K H d r p dx tb [⟨0, o, [lobbyS]⟩] 1 ((c + 2 : Nat) : Int) := by
    refine ⟨hD, O0, ⟨rfl, fun e he s hs => ?_, fun e he => ?_⟩, hdt, fun e he => ?_⟩
    · rw [List.mem_singleton.mp he] at hs
      rw [List.mem_singleton.mp hs]
      exact lobby_d hm
    · rw [List.mem_singleton.mp he]
      exact List.nodup_cons.mpr ⟨List.not_mem_nil, List.nodup_nil⟩
    · rw [List.mem_singleton.mp he]
      exact hdo
  have W1 := W0.kept (Kept.of_moved M1) D1
  refine ⟨_, rfl, _, _, rfl, rfl, ((c + 2 : Nat) : Int) - 1, rfl, by omega, by omega, ?_⟩
  have e1 : (((c + 2 : Nat) : Int) - 1).toNat = c + 1 := by omega
  rw [e1]
  refine for_range (lo := 0) (n := c + 1) (fun k σ G => ∃ (tab : List En) (v3 v4 v5 : Option V), σ = [some (.ref d), some (.ref p), some (.int ((c + 2 : Nat) : Int)), v3, v4, v5] ∧ Wo K G d r p dx tb tab (k + 1) ((c + 2 : Nat) : Int))
    ⟨_, none, none, none, rfl, W1⟩ ?_ ?_
  · rintro k σ G hk ⟨tab, v3, v4, v5, rfl, W⟩
    refine ⟨(by show 0 ≤ sizeLine; decide), fun u nu => ?_⟩
    have ur : u ≠ r := Ne.symm (W.dr.neR nu)
    have W2 := W.same (same_upd (o := .lst []) nu)
    refine ⟨_, rfl, d, 5, rfl, by decide, r, W2.dr, fun b G1 b0 b1 D3 M3 => ?_⟩
    obtain ⟨b, rfl⟩ := int_nat b0
    have W3 := W2.kept (Kept.of_moved M3) D3
    have gu : G1 u = some (.lst []) := (M3 u (Ne.symm (W.dr.neD nu))).trans upd_same
    refine ⟨(b : Int), rfl, by omega, by omega, ?_⟩
    rw [Int.toNat_natCast]
    refine for_range (lo := 0) (n := b) (fun j σ G => ∃ (us : List V) (ts : List Sl) (v5 : Option V), σ = [some (.ref d), some (.ref p), some (.int ((c + 2 : Nat) : Int)), some (.int (0 + (k : Int))), some (.ref u), v5] ∧ Wo K G d r p dx tb tab (k + 1) ((c + 2 : Nat) : Int) ∧ G u = some (.lst us) ∧ TrpR G us ts ∧ (∀ s ∈ ts, SlD ((c + 2 : Nat) : Int) s) ∧ ts.length ≤ j)
      ⟨[], [], v5, rfl, W3, gu, .nil, (fun s hs => by cases hs), Nat.le_refl _⟩ ?_ ?_
    · rintro j σ G2 hj ⟨us, ts, v5, rfl, W4, gu, tr, hts, hl⟩
      have ud : u ≠ d := by
        obtain ⟨i, s, ns, h1, _⟩ := W4.dr
        exact ne_of gu h1 (by intro z; cases z)
      refine ⟨_, rfl, .inl ⟨rfl, _, SqL.of gu⟩, _, rfl, d, rfl, r, W4.dr, fun s1 Ha Ka Da hs1 => ?_⟩
      refine ⟨_, rfl, d, rfl, r, Da, fun s2 Hb Kb Db hs2 => ?_⟩
      refine ⟨_, rfl, _, rfl, d, _, rfl, hm, r, Db, fun v D Hc Kc Dc tv vd => ?_⟩
      refine ⟨(by show 3 ≤ sizeLine; decide), fun t nt => ?_⟩
      have Kabc := (Ka.trans Kb).trans Kc
      have W5 := W4.kept Kabc Dc
      have gu5 : Hc u = some (.lst us) := Kabc _ _ ud gu
      have s6 := same_upd (o := .tup [mS s1, mS s2, v]) nt
      have W6 := W5.same s6
      have gu6 := s6 _ _ gu5
      refine ⟨u, _, _, rfl, rfl, gu6, Nat.lt_of_le_of_lt (show us.length ≤ 10 by rw [tr.len]; omega) (by decide), ?_⟩
      have tkc := kept_tk W4.dr Kabc
      refine ⟨us ++ [.ref t], ts ++ [⟨Str.ofString s1, Str.ofString s2, D⟩], _, rfl, W6.lst gu6 ur, upd_same, ?_, fun s hs => ?_, by rw [List.length_append, List.length_singleton]; omega⟩
      · have tl := tk_put (ys := us ++ [V.ref t]) gu6
        exact TrpR.snoc (tl _ _ upd_same) ((tv.keep fun a xs z => s6 a _ z).keep tl) (((tr.keep tkc).keep fun a xs z => s6 a _ z).keep tl)
      · rcases List.mem_append.mp hs with hs | hs
        · exact hts s hs
        · rw [List.mem_singleton.mp hs]
          exact sl_d hs1 hs2 vd
    · rintro σ G2 ⟨us, ts, v5, rfl, W4, gu, tr, hts, hl⟩
      refine ⟨_, rfl, p, dx, _, rfl, W4.ob.ins, obF_no (by decide +kernel) (by decide +kernel), _, rfl, u, us, rfl, .inl ⟨SqL.of gu, fun l nl => ?_⟩⟩
      have s5 := same_upd (o := .tup us) nl
      have W5 := W4.same s5
      refine ⟨p, dx, tb, tab, k + 1, l, us, ts, rfl, W5.ob, upd_same, tr.keep (fun a xs z => s5 a _ z), (fun s hs => (hts s hs).vl.ok), by rw [W5.gd.len]; omega, by omega, fun o2 H6 no2 ko O6 => ?_⟩
      exact ⟨_, _, _, _, rfl, W5.ko ko O6 (W5.gd.add o2 (fun s hs => hts s (mkS_mem hs)) (mkS_nd ts)) (add_at_ne W5.da (W5.ne_d no2))⟩
  · rintro σ G ⟨tab, v3, v4, v5, rfl, W⟩
    refine ⟨_, rfl, d, 6, rfl, by decide, r, W.dr, fun b G1 b0 b1 D3 M3 => ?_⟩
    obtain ⟨b, rfl⟩ := int_nat b0
    have W3 := W.kept (Kept.of_moved M3) D3
    refine ⟨(b : Int), rfl, by omega, by omega, ?_⟩
    rw [Int.toNat_natCast]
    refine for_range (lo := 0) (n := b) (fun k σ G => ∃ (tab : List En) (v3 v4 v5 : Option V), σ = [some (.ref d), some (.ref p), some (.int ((c + 2 : Nat) : Int)), v3, v4, v5] ∧ Wo K G d r p dx tb tab (c + 2) ((c + 2 : Nat) : Int))
      ⟨_, _, _, _, rfl, W3⟩ ?_ ?_
    · rintro k σ G2 hk ⟨tab, v3, v4, v5, rfl, W4⟩
      refine ⟨_, rfl, p, dx, _, rfl, W4.ob.ins, obF_no (by decide +kernel) (by decide +kernel), _, rfl, _, rfl, d, _, rfl, hm, r, W4.dr, fun i Hi i0 i1 Di Mi => ?_⟩
      refine ⟨_, rfl, d, rfl, r, Di, fun s1 Ha Ka Da hs1 => ?_⟩
      refine ⟨_, rfl, d, rfl, r, Da, fun s2 Hb Kb Db hs2 => ?_⟩
      refine ⟨_, rfl, _, rfl, d, _, rfl, hm, r, Db, fun v D Hc Kc Dc tv vd => ?_⟩
      have W5 := W4.kept ((((Kept.of_moved Mi).trans Ka).trans Kb).trans Kc) Dc
      obtain ⟨e, he, rfl⟩ := W5.gd.isId i0 i1
      refine ⟨p, dx, tb, tab, c + 2, e, Str.ofString s1, Str.ofString s2, v, D, rfl, W5.ob, he, tv, vd.ok, Nat.le_trans (W5.gd.six he) (by decide), fun H6 ko O6 => ?_⟩
      exact ⟨_, _, _, _, rfl, put_w W5 he hs1 hs2 vd ko O6⟩
    · rintro σ G2 ⟨tab, v3, v4, v5, rfl, W4⟩
      exact ⟨_, rfl, q (c + 2) G2 tab (by omega) (by omega) W4⟩
theorem setE_self {tab : List En} (o : tab.Pairwise fun a b => a.id < b.id) {e : En} (he : e ∈ tab) : setE tab e.id e.sl = tab := by
  unfold setE
  have z : ∀ a ∈ tab, (fun a : En => if a.id = e.id then (⟨a.id, a.at_, e.sl⟩ : En) else a) a = id a := fun a ha => by
    by_cases c : a.id = e.id
    · have := id_inj o ha he c
      subst this
      exact if_pos rfl
    · exact if_neg c
  rw [List.map_congr_left z, List.map_id]
/-- the change that puts -/
theorem put_ok {d r p dx tb : Addr} {tab : List En} {n m : Nat} {e : En} {s : String} {v2 v5 : Option V} {D : Ends} (W : Wo K H d r p dx tb tab n m) (hm : 0 < m) (he : e ∈ tab) (hs : s ∈ nameM)
    (q : ∀ H' sl, KW d p tb tab H H' → Wo K H' d r p dx tb (setE tab e.id sl) n m → D.nx [some (.ref d), some (.ref p), v2, some (.int (e.id : Int)), some (mS s), v5] H') (h2 : v2 = some (.int (m : Int))) :
    (tDrop (tMeth (He.ga K ("Objects" : Str)) ("put" : Str) (sp_Objects_put K) [] E (tVar 1) (tCons (tVar 3) (tCons (tVar 4) (tCons (tCall (sp_l_kind K) [] E (tCons (tVar 0) tNil)) (tCons (tCall (sp_l_value K) [] E (tCons (tVar 0) (tCons (tVar 2) tNil))) tNil)))))) D [some (.ref d), some (.ref p), v2, some (.int (e.id : Int)), some (mS s), v5] H := by
  subst h2
  have hm' : (0 : Int) < (m : Int) := by omega
  refine ⟨_, rfl, p, dx, _, rfl, W.ob.ins, obF_no (by decide +kernel) (by decide +kernel), _, rfl, _, rfl, ?_⟩
  refine ⟨_, rfl, d, rfl, r, W.dr, fun s2 Hb Kb Db hs2 => ?_⟩
  refine ⟨_, rfl, _, rfl, d, _, rfl, hm', r, Db, fun v D Hc Kc Dc tv vd => ?_⟩
  have W5 := W.kept (Kb.trans Kc) Dc
  refine ⟨p, dx, tb, tab, n, e, Str.ofString s, Str.ofString s2, v, D, rfl, W5.ob, he, tv, vd.ok, Nat.le_trans (W5.gd.six he) (by decide), fun H6 ko O6 => ?_⟩
  exact q H6 _ ((KW.kept (Kb.trans Kc)).trans (KW.ko ko)) (put_w W5 he hs hs2 vd ko O6)
theorem run_l_change (h : sp_l_change K vs H Q E) : t_l_change K E (DQ Q) (start ns_l_change vs) H := by
  obtain ⟨d, r, p, dx, tb, tab, n, m, rfl, W, hm, hmn, hn, q1, q2⟩ := h
  have hm' : (0 : Int) < (m : Int) := by omega
  refine ⟨_, rfl, _, rfl, d, _, rfl, hm', r, W.dr, fun i Hi i0 i1 Di Mi => ?_⟩
  have Wi := W.kept (Kept.of_moved Mi) Di
  obtain ⟨e, he, rfl⟩ := Wi.gd.isId i0 (by omega)
  have em : e.id < m := by omega
  refine ⟨_, rfl, d, rfl, r, Di, fun s Ha Ka Da hs => ?_⟩
  have Wa := Wi.kept Ka Da
  refine ⟨_, rfl, d, 4, rfl, by decide, r, Da, fun pk Hb b0 b1 Db Mb => ?_⟩
  have Wb := Wa.kept (Kept.of_moved Mb) Db
  have kw : KW d p tb tab H Hb := KW.kept (((Kept.of_moved Mi).trans Ka).trans (Kept.of_moved Mb))
  have stay : Q (.int (e.id : Int)) Hb := q1 Hb e e.sl he em kw (by rw [setE_self Wb.gd.ord he]; exact Wb)
  have hp : ∀ v5 : Option V, (tDrop (tMeth (He.ga K ("Objects" : Str)) ("put" : Str) (sp_Objects_put K) [] E (tVar 1) (tCons (tVar 3) (tCons (tVar 4) (tCons (tCall (sp_l_kind K) [] E (tCons (tVar 0) tNil)) (tCons (tCall (sp_l_value K) [] E (tCons (tVar 0) (tCons (tVar 2) tNil))) tNil)))))) { (DQ Q) with nx := tRet (tVar 3) (DQ Q) } [some (.ref d), some (.ref p), some (.int (m : Int)), some (.int (e.id : Int)), some (mS s), v5] Hb := fun v5 =>
    put_ok Wb hm he hs (fun H' sl k2 W2 => ⟨_, rfl, q1 H' e sl he em (kw.trans k2) W2⟩) rfl
  refine ⟨_, rfl, rfl, _, rfl, ifI (fun c => ?_) (fun c => ?_)⟩
  · -- drop
    refine ⟨_, rfl, p, dx, _, rfl, Wb.ob.ins, obF_no (by decide +kernel) (by decide +kernel), _, rfl, _, rfl, ?_⟩
    refine ⟨p, dx, tb, tab, n, e, Str.ofString s, rfl, Wb.ob, he, fun _ => ⟨_, rfl, stay⟩, fun _ H' ko O => ⟨_, rfl, ?_⟩⟩
    exact q1 H' e _ he em (kw.trans (KW.ko ko)) (Wb.ko ko O (Wb.gd.set e.id (fun t ht => Wb.gd.sl e he t (List.mem_filter.mp ht).1) (dropS_nd _ (Wb.gd.nd e he))) (setE_at_ne Wb.da _ _))
  · refine ⟨_, rfl, rfl, _, rfl, ifI (fun c1 => ?_) (fun c1 => ?_)⟩
    · -- a slot that is there?
      refine ⟨_, rfl, p, dx, _, rfl, Wb.ob.ins, obF_no (by decide +kernel) (by decide +kernel), _, rfl, _, rfl, ?_⟩
      refine ⟨p, dx, tb, tab, n, e, Str.ofString s, rfl, Wb.ob, he, fun g => ⟨rfl, _, rfl, ?_⟩, fun s0 qa v g hq tv => ⟨rfl, _, rfl, ?_⟩⟩
      · rw [decide_eq_true (show V.non = V.non from rfl)]
        refine iteF ⟨_, rfl, rfl, _, rfl, ifI (fun c2 => by omega) (fun c2 => hp _)⟩
      · rw [decide_eq_false (show ¬ V.ref qa = V.non by intro z; cases z)]
        refine iteT ?_
        refine ⟨_, rfl, p, dx, _, rfl, Wb.ob.ins, obF_no (by decide +kernel) (by decide +kernel), _, rfl, _, rfl, _, rfl, _, rfl, d, _, rfl, hm', r, Wb.dr, fun v D Hc Kc Dc tv vd => ?_⟩
        have Wc := Wb.kept Kc Dc
        refine ⟨p, dx, tb, tab, n, e, Str.ofString s, v, D, s0, rfl, Wc.ob, he, tv, vd.ok, Nat.le_trans (Wc.gd.six he) (by decide), g, fun H' ko O => ⟨_, rfl, ?_⟩⟩
        refine q1 H' e _ he em ((kw.trans (KW.kept Kc)).trans (KW.ko ko)) (Wc.ko ko O (Wc.gd.set e.id (fun t ht => ?_) (putS_nd _ (Wc.gd.nd e he))) (setE_at_ne Wc.da _ _))
        rcases putS_mem ht with ht | rfl
        · exact Wc.gd.sl e he t ht
        · have g0 := Wc.gd.sl e he s0 (getS_mem g).1
          exact ⟨⟨s, hs, rfl⟩, g0.kd, vd⟩
    · refine iteF ⟨_, rfl, rfl, _, rfl, ifI (fun c2 => ?_) (fun c2 => hp _)⟩
      -- make
      refine ⟨_, rfl, p, dx, _, rfl, Wb.ob.ins, obF_no (by decide +kernel) (by decide +kernel), _, rfl, _, rfl, (by show 2 ≤ sizeLine; decide), fun r1 n1 => ⟨(by show 3 ≤ sizeLine; decide), fun r2 n2 => ⟨(by show 1 ≤ sizeLine; decide), fun r3 n3 => ?_⟩⟩⟩
      have s1 := same_upd (o := .tup [V.str ("ref" : Str), V.int (e.id : Int)]) n1
      have s2 := same_upd (o := .tup [mS s, V.str ("parent" : Str), V.ref r1]) n2
      have s3 := same_upd (o := .tup [V.ref r2]) n3
      have S := (s1.trans s2).trans s3
      have Wc := Wb.same S
      have T1 := Tr.tup (ds := [.str ("ref" : Str), .int (e.id : Int)]) (s3 _ _ (s2 _ _ (upd_same (H := Hb) (a := r1) (o := .tup [V.str ("ref" : Str), V.int (e.id : Int)])))) (.cons (.str _) (.cons (.int _) .nil))
      have vd : ValD (m : Int) (.tuple [.str ("ref" : Str), .int (e.id : Int)]) := val_two (by decide +kernel) fun _ => ⟨by omega, by omega⟩
      refine ⟨p, dx, tb, tab, n, r3, [.ref r2], [⟨Str.ofString s, ("parent" : Str), _⟩], rfl, Wc.ob, upd_same, .cons (s3 _ _ upd_same) T1 .nil, (fun t ht => ?_), by rw [Wc.gd.len]; omega, (by show 1 ≤ 1000000; decide), fun o H' no ko O => ?_⟩
      · rw [List.mem_singleton.mp ht]
        exact vd.ok
      · refine ⟨_, rfl, q2 H' o _ ?_ ((kw.trans (KW.same S)).trans (KW.ko ko)) (Wc.ko ko O (Wc.gd.add o (fun t ht => ?_) (mkS_nd _)) (add_at_ne Wc.da (Wc.ne_d no)))⟩
        · have a := Same.free S no
          have b : Ha o = none := by
            cases z : Ha o with
            | none => rfl
            | some u =>
              have nd := Wb.ne_d a
              rw [Kept.of_moved Mb o u (Ne.symm nd) z] at a
              cases a
          have nd := Wb.ne_d a
          have b2 : Hi o = none := Ka.free Da.atD b
          exact (Kept.of_moved Mi).free Di.atD b2
        · rw [List.mem_singleton.mp (mkS_mem ht)]
          exact sl_d hs (by decide) vd
/-- the dict of slots and parents -/
def dictE (K : PySem.W.Frag) (i : Nat) : TE := (tCB (rDictP K) (tCons (tLc (iRng1 (tCons (tVar 3) tNil)) (gName i) tYes (tTup (tCons (tVar i) (tCons (tTup (tCons (tMeth (He.ga K ("Objects" : Str)) ("slot" : Str) (sp_Objects_slot K) [] E0 (tVar 2) (tCons (tVar i) (tCons (tVar 5) tNil))) (tCons (tMeth (He.ga K ("Objects" : Str)) ("parents" : Str) (sp_Objects_parents K) [] E0 (tVar 2) (tCons (tVar i) tNil)) tNil))) tNil))) [i]) tNil))
def SD (G : Hp) (tab : List En) (x : Str) (m : Nat) (kvs : List (Key × V)) : Prop := ∀ j : Nat, j < m → ∃ v, valV kvs (Sum.inl (j : Int) : Key) = some v ∧ Tr G v (vD tab x (j : Int))
theorem SD.same {G G' : Hp} {tab : List En} {x : Str} {m : Nat} {kvs : List (Key × V)} (h : SD G tab x m kvs) (k : TK G G') : SD G' tab x m kvs := fun j hj => by
  obtain ⟨v, a, b⟩ := h j hj
  exact ⟨v, a, b.keep k⟩
/-- the pair of a slot and the parents -/
theorem pairE {d r p dx tb : Addr} {tab : List En} {n : Nat} {m : Int} {e : En} {x : Str} {σ : L2.St} {G : Hp} {Y : VK} {j : Nat} {E1 E2 : XK} (W : Wo K G d r p dx tb tab n m) (he : e ∈ tab) (h2 : σ[2]? = some (some (.ref p))) (h5 : σ[5]? = some (some (.str x))) (hj : σ[j]? = some (some (.int (e.id : Int))))
    (y : ∀ t G', Same G G' → Tr G' (.ref t) (vD tab x (e.id : Int)) → Y (.ref t) G') : (tTup (tCons (tMeth (He.ga K ("Objects" : Str)) ("slot" : Str) (sp_Objects_slot K) [] E1 (tVar 2) (tCons (tVar j) (tCons (tVar 5) tNil))) (tCons (tMeth (He.ga K ("Objects" : Str)) ("parents" : Str) (sp_Objects_parents K) [] E2 (tVar 2) (tCons (tVar j) tNil)) tNil))) σ G Y := by
  have par : ∀ (v : V) (D : PyData), Tr G v D → vD tab x (e.id : Int) = .tuple [D, .tuple ((parI tab (e.id : Int)).map PyData.int)] →
      (tMeth (He.ga K ("Objects" : Str)) ("parents" : Str) (sp_Objects_parents K) [] E2 (tVar 2) (tCons (tVar j) tNil)) σ G fun v2 H2 => [v, v2].length ≤ sizeLine ∧ ∀ q, H2 q = none → Y (.ref q) (upd H2 q (.tup [v, v2])) := fun v D tv ev => by
    refine ⟨_, h2, p, dx, _, rfl, W.ob.ins, obF_no (by decide +kernel) (by decide +kernel), _, hj, ?_⟩
    refine ⟨p, dx, tb, tab, n, e, rfl, W.ob, he, Nat.le_trans (W.gd.six he) (by decide), fun q1 H1 s1 n1 hq1 => ⟨(by show 2 ≤ sizeLine; decide), fun q2 nq2 => ?_⟩⟩
    have s2 := same_upd (o := .tup [v, V.ref q1]) nq2
    refine y q2 _ (s1.trans s2) ?_
    rw [ev, parI_mem W.gd.ord he]
    exact .tup upd_same (.cons (tv.keep fun a xs z => s2 a _ (s1 a _ z)) (.cons (.tup (s2 _ _ hq1) (trs_ints _)) .nil))
  refine ⟨_, h2, p, dx, _, rfl, W.ob.ins, obF_no (by decide +kernel) (by decide +kernel), _, hj, _, h5, ?_⟩
  have so := slotOf_mem W.gd.ord he x
  refine ⟨p, dx, tb, tab, n, e, x, rfl, W.ob, he, fun g => ?_, fun s qa v g hq tv => ?_⟩
  · refine par .non .none .non ?_
    unfold vD slD
    rw [so, g]
  · refine par (.ref qa) (.tuple [.str s.kind, s.val]) (.tup hq (.cons (.str _) (.cons tv .nil))) ?_
    unfold vD slD
    rw [so, g]
theorem wipe_other {σ : L2.St} {i j : Nat} {v : Option V} (n : i ≠ j) : ((wipe σ [i]).set i v)[j]? = σ[j]? := by
  show ((σ.set i none).set i v)[j]? = _
  rw [List.getElem?_set_ne n, List.getElem?_set_ne n]
theorem wipe_self {σ : L2.St} {i : Nat} {v : Option V} (n : i < σ.length) : ((wipe σ [i]).set i v)[i]? = some v := by
  show ((σ.set i none).set i v)[i]? = _
  rw [List.getElem?_set_self]
  rw [List.length_set]
  exact n
theorem valV_mem : ∀ {kvs : List (Key × V)} {k : Key} {v : V}, (kvs.map (·.1)).Nodup → (k, v) ∈ kvs → valV kvs k = some v
  | [], _, _, _, h => by cases h
  | kv :: kvs, k, v, nd, h => by
    obtain ⟨n1, n2⟩ := List.nodup_cons.mp nd
    rcases List.mem_cons.mp h with e | h
    · subst e
      exact valV_pos rfl
    · rw [valV_neg fun z => n1 (List.mem_map.mpr ⟨(k, v), h, z.symm⟩)]
      exact valV_mem n2 h
theorem dict_ok {d r p dx tb : Addr} {tab : List En} {n m : Nat} {x : Str} {σ : L2.St} {G : Hp} {Y : VK} {i : Nat} (W : Wo K G d r p dx tb tab n m) (hmn : m ≤ n) (hn : n ≤ 100) (h2 : σ[2]? = some (some (.ref p))) (h3 : σ[3]? = some (some (.int (m : Int)))) (h5 : σ[5]? = some (some (.str x))) (hi : i < σ.length) (i2 : i ≠ 2) (i5 : i ≠ 5)
    (y : ∀ sd G' kvs, Same G G' → G sd = none → G' sd = some (.dK kvs) → SD G' tab x m kvs → Y (.ref sd) G') : dictE K i σ G Y := by
  refine ⟨_, h3, (m : Int), rfl, by omega, by omega, fun D nD => ?_⟩
  rw [Int.toNat_natCast]
  refine lc_range (lo := 0) (n := m) (fun k G1 => ∃ (ps : List Addr) (vs : List V), Same G G1 ∧ G1 D = some (.lst (ps.map V.ref)) ∧ Paired (fun p kv => G1 p = some (.tup [kV kv.1, kv.2])) ps ((List.range k).zip vs |>.map fun z => ((Sum.inl (z.1 : Int) : Key), z.2)) ∧ vs.length = k ∧ ps.length = k ∧ ∀ j : Nat, ∀ v, vs[j]? = some v → Tr G1 v (vD tab x (j : Int)))
    ⟨[], [], same_upd nD, upd_same, .nil, rfl, rfl, fun j v e => by simp at e⟩ ?_ ?_
  · rintro k G1 hk ⟨ps, vs, s1, g1, pr, lv, lp, tv⟩
    have W1 := W.same s1
    obtain ⟨e, he, ek⟩ := W1.gd.isId (i := (k : Int)) (by omega) (by omega)
    have ei : (0 : Int) + (k : Int) = (e.id : Int) := by omega
    refine ⟨?_, ?_⟩
    · show ((σ.set i none).set i _).set i none = σ.set i none
      rw [List.set_set, List.set_set]
    refine ⟨_, wipe_self hi, ?_⟩
    refine pairE W1 he ((wipe_other i2).trans h2) ((wipe_other i5).trans h5) (by rw [wipe_self hi, ei]) fun t G2 s2 t2 => ⟨(by show 2 ≤ sizeLine; decide), fun q nq => ?_⟩
    have s3 := same_upd (o := .tup [V.int (0 + (k : Int)), V.ref t]) nq
    have s23 := s2.trans s3
    have g3 := s23 _ _ g1
    refine ⟨_, g3, Nat.lt_of_le_of_lt (show (ps.map V.ref).length ≤ 100 by rw [List.length_map]; omega) (by decide), ps ++ [q], vs ++ [.ref t], fun b u z => ?_, by rw [upd_same, List.map_append]; rfl, ?_, by rw [List.length_append, lv]; rfl, by rw [List.length_append, lp]; rfl, fun j v ej => ?_⟩
    · rw [upd_ne (ne_of_none z nD)]
      exact s23 b u (s1 b u z)
    · have tk : ∀ a xs, G1 a = some (.tup xs) → (upd (upd G2 q (.tup [V.int (0 + (k : Int)), V.ref t])) D (.lst (ps.map V.ref ++ [V.ref q]))) a = some (.tup xs) := fun a xs z => by
        rw [upd_ne (ne_of (s23 _ _ z) g3 (by intro z; cases z))]
        exact s23 a _ z
      have ez : ((List.range (k + 1)).zip (vs ++ [V.ref t]) |>.map fun z => ((Sum.inl (z.1 : Int) : Key), z.2)) = ((List.range k).zip vs |>.map fun z => ((Sum.inl (z.1 : Int) : Key), z.2)) ++ [((Sum.inl (k : Int) : Key), V.ref t)] := by
        rw [List.range_succ, List.zip_append (by rw [List.length_range, lv]), List.map_append]
        rfl
      rw [ez]
      refine Paired.snoc (Paired.mapP pr fun a kv h => tk a _ h) ?_
      show (upd (upd G2 q (.tup [V.int (0 + (k : Int)), V.ref t])) D (.lst (ps.map V.ref ++ [V.ref q]))) q = some (.tup [V.int (k : Int), V.ref t])
      rw [upd_ne (ne_of upd_same g3 (by intro z; cases z)), upd_same, Int.zero_add]
    · have tk2 : TK (upd G2 q (.tup [V.int (0 + (k : Int)), V.ref t])) (upd (upd G2 q (.tup [V.int (0 + (k : Int)), V.ref t])) D (.lst (ps.map V.ref ++ [V.ref q]))) := tk_put g3
      by_cases c : j < vs.length
      · rw [List.getElem?_append_left c] at ej
        exact ((tv j v ej).keep fun a xs z => s23 a _ z).keep tk2
      · have hj : j < (vs ++ [V.ref t]).length := (List.getElem?_eq_some_iff.mp ej).1
        rw [List.length_append, List.length_singleton] at hj
        have : j = vs.length := by omega
        subst this
        rw [List.getElem?_append_right (Nat.le_refl _), Nat.sub_self] at ej
        cases ej
        rw [ek] at t2
        rw [lv]
        exact (t2.keep fun a xs z => s3 a _ z).keep tk2
  · rintro G1 ⟨ps, vs, s1, g1, pr, lv, lp, tv⟩
    refine ⟨D, ps, _, rfl, SqL.of g1, Paired.mapP pr fun a kv h => SqT.of h, fun sd nsd => ?_⟩
    have nd : (((List.range m).zip vs |>.map fun z => ((Sum.inl (z.1 : Int) : Key), z.2)).map (·.1)).Nodup := by
      have e : (((List.range m).zip vs |>.map fun z => ((Sum.inl (z.1 : Int) : Key), z.2)).map (·.1)) = (List.range m).map fun (j : Nat) => (Sum.inl ((j : Nat) : Int) : Key) := by
        rw [List.map_map]
        have : (List.range m) = ((List.range m).zip vs).map (·.1) := by
          rw [List.map_fst_zip]
          rw [List.length_range, lv]
          exact Nat.le_refl _
        conv => rhs; rw [this, List.map_map]
        rfl
      rw [e]
      refine List.pairwise_map.mpr (List.Pairwise.imp (fun {a b} h z => ?_) List.pairwise_lt_range)
      have := Sum.inl.inj z
      omega
    have em := merge_app ((List.range m).zip vs |>.map fun z => ((Sum.inl (z.1 : Int) : Key), z.2)) [] (fun kv _ => rfl) nd
    rw [List.nil_append] at em
    rw [em]
    have s2 := same_upd (o := .dK ((List.range m).zip vs |>.map fun z => ((Sum.inl (z.1 : Int) : Key), z.2))) nsd
    refine y sd _ _ (s1.trans s2) (Same.free s1 nsd) upd_same fun j hj => ?_
    obtain ⟨v, ev⟩ : ∃ v, vs[j]? = some v := ⟨vs[j]'(by omega), List.getElem?_eq_getElem (by omega)⟩
    refine ⟨v, ?_, (tv j v ev).keep fun a xs z => s2 a _ z⟩
    refine valV_mem nd (List.mem_map.mpr ⟨(j, v), ?_, rfl⟩)
    have : ((List.range m).zip vs)[j]? = some (j, v) := by
      rw [List.getElem?_zip_eq_some]
      exact ⟨List.getElem?_range hj, ev⟩
    exact List.mem_of_getElem? this
/-- the turn's statements behind the change -/
def tRest2 (K : PySem.W.Frag) (E : XK) : TS := (tSeq (tIfS (tAnd (tNot (tB (tVar 12))) (tTest (tOp (rNeD K) (tVar 11) (tVar 8))))
      (tRet (tC (.bl false)))
      tNext)
    (tSeq (tAsg (tVar 11) (gName 8))
    (tAsg (dictE K 13) (gName 10))))
def tRest (K : PySem.W.Frag) (E : XK) : TS := (tSeq (tAsg (tCall (sp_search K) [] E (tCons (tVar 2) (tCons (tVar 7) (tCons (tVar 5) tNil)))) (gName 11))
    (tSeq (tAsg (tAndV (tOp (rIn K false) (tVar 9) (tOp (rIxT K) (tVar 8) (tC (.int 1)))) (tOp (rNeD K) (tTup (tCons (tMeth (He.ga K ("Objects" : Str)) ("slot" : Str) (sp_Objects_slot K) [] E (tVar 2) (tCons (tVar 9) (tCons (tVar 5) tNil))) (tCons (tMeth (He.ga K ("Objects" : Str)) ("parents" : Str) (sp_Objects_parents K) [] E (tVar 2) (tCons (tVar 9) tNil)) tNil))) (tDGet (tVar 10) (tVar 9)))) (gName 12))
    (tRest2 K E)))
/-- the inner loop's state -/
structure InS (K : PySem.W.Frag) (G : Hp) (d r p dx tb : Addr) (m : Nat) (x : Str) (l : Addr) (acc : List Int) (tab : List En) (n : Nat) (q1 sd : Addr) (kvs : List (Key × V)) : Prop where
  w : Wo K G d r p dx tb tab n m
  le : m ≤ n
  st : G l = some (.tup (acc.map V.int))
  res : Tr G (.ref q1) (resD tab x (srch tab x acc))
  dic : G sd = some (.dK kvs)
  sdf : SD G tab x m kvs
  nd : sd ≠ d
  nt : sd ≠ tb
  na : ∀ e ∈ tab, sd ≠ e.at_
def σI (a d p l : Addr) (m : Nat) (v4 : Option V) (s : Str) (v6 v9 v11 v12 v13 : Option V) (q1 sd : Addr) : L2.St := [some (.ref a), some (.ref d), some (.ref p), some (.int (m : Int)), v4, some (.str s), v6, some (.ref l), some (.ref q1), v9, some (.ref sd), v11, v12, v13]
theorem rest2_ok {a d r p dx tb l : Addr} {m : Nat} {x : Str} {acc : List Int} {tab tab' : List En} {n' : Nat} {q1 q2 sd : Addr} {v4 v6 v9 v13 : Option V} {b : Bool} {D : Ends} {G : Hp} (W : Wo K G d r p dx tb tab' n' m) (le : m ≤ n') (hn : n' ≤ 100) (gl : G l = some (.tup (acc.map V.int)))
    (t1 : Tr G (.ref q1) (resD tab x (srch tab x acc))) (sh1 : SeqAt.shaped (resD tab x (srch tab x acc)) = true) (t2 : Tr G (.ref q2) (resD tab' x (srch tab' x acc))) (hb : b = true ∨ resD tab' x (srch tab' x acc) = resD tab x (srch tab x acc))
    (q : ∀ sd2 kvs2 G2, InS K G2 d r p dx tb m x l acc tab' n' q2 sd2 kvs2 → D.nx (σI a d p l m v4 x v6 v9 (some (.ref q2)) (some (.bl b)) v13 q2 sd2) G2) :
    tRest2 K E D (σI a d p l m v4 x v6 v9 (some (.ref q2)) (some (.bl b)) v13 q1 sd) G := by
  have fin : (tSeq (tAsg (tVar 11) (gName 8)) (tAsg (dictE K 13) (gName 10))) D (σI a d p l m v4 x v6 v9 (some (.ref q2)) (some (.bl b)) v13 q1 sd) G := by
    refine ⟨_, rfl, ?_⟩
    refine dict_ok (i := 13) W le hn rfl rfl rfl (by show 13 < 14; decide) (by decide) (by decide) fun sd2 G2 kvs2 s2 n2 g2 k2 => ?_
    have tk : TK G G2 := fun a xs z => s2 a _ z
    exact q sd2 kvs2 G2 ⟨W.same s2, le, s2 _ _ gl, t2.keep tk, g2, k2, Ne.symm (W.ne_d n2), (fun z => by
      rw [z, W.ob.tbl] at n2
      cases n2), fun e he z => by
      obtain ⟨kv0, g0, _⟩ := W.ob.ent e he
      rw [z, g0] at n2
      cases n2⟩
  refine ⟨_, rfl, b, rfl, ?_⟩
  cases b with
  | true => exact iteF (iteF fin)
  | false =>
    refine iteT ⟨_, rfl, _, rfl, _, _, t2.dp, t1.dp, resD_shaped W x _, sh1, _, rfl, ?_⟩
    have e : resD tab' x (srch tab' x acc) = resD tab x (srch tab x acc) := by
      rcases hb with hb | hb
      · cases hb
      · exact hb
    rw [e, SeqAt.eqv_refl _ (SeqAt.canLay_of_shaped sh1)]
    exact iteF fin
theorem rest_ok {a d r p dx tb l : Addr} {m : Nat} {x : Str} {acc : List Int} {tab tab' : List En} {n n' : Nat} {one : Int} {q1 sd : Addr} {kvs : List (Key × V)} {v4 v6 v11 v12 v13 : Option V} {D : Ends} {G H0 : Hp}
    (I : InS K H0 d r p dx tb m x l acc tab n q1 sd kvs) (hacc : ∀ i ∈ acc, 0 ≤ i ∧ i < m) (hal : acc.length ≤ 10) (kw : KW d p tb tab H0 G) (W : Wo K G d r p dx tb tab' n' m) (le : m ≤ n') (hnn : n ≤ n') (hn : n' ≤ 100)
    (one_ : one = -1 ∨ (0 ≤ one ∧ one < m)) (oth : ∀ i, isId tab i → i ≠ one → slotOf tab' x i = slotOf tab x i ∧ parI tab' i = parI tab i) 
    (q : ∀ q2 sd2 kvs2 G2 v11 v12 v13, InS K G2 d r p dx tb m x l acc tab' n' q2 sd2 kvs2 → D.nx (σI a d p l m v4 x v6 (some (.int one)) v11 v12 v13 q2 sd2) G2) :
    tRest K E D (σI a d p l m v4 x v6 (some (.int one)) v11 v12 v13 q1 sd) G := by
  have tk0 : TK H0 G := KW.tk I.w kw
  have hm : (m : Int) ≤ n' := by omega
  have hm0 : (m : Int) ≤ n := by have := I.le; omega
  have cl := I.w.closed hm0
  have cl' := W.closed hm
  have ids : ∀ i ∈ acc, isId tab i := fun i hi => I.w.gd.isId (hacc i hi).1 (by have := (hacc i hi).2; omega)
  have ids' : ∀ i ∈ acc, isId tab' i := fun i hi => W.gd.isId (hacc i hi).1 (by have := (hacc i hi).2; omega)
  have gl := tk0 _ _ I.st
  have sh1 := resD_shaped I.w x (srch tab x acc)
  have gsd : G sd = some (.dK kvs) := kw sd _ I.nd (ne_of I.dic I.w.ob.ins (by intro z; cases z)) I.nt I.na I.dic
  refine ⟨_, rfl, _, rfl, _, rfl, p, dx, tb, tab', n', l, acc, x, rfl, W.ob, gl, ids', cl', (fun e he => Nat.le_trans (W.gd.six he) (by decide)), W.gd.fuel hn (by omega), fun q2 G2 s2 t2 => ?_⟩
  have W2 := W.same s2
  have tk2 : TK H0 G2 := fun a xs z => s2 a _ (tk0 a xs z)
  have t1 := I.res.keep tk2
  have gsd2 := s2 _ _ gsd
  have same_all : (∀ i ∈ (srch tab x acc).1, i ≠ one) ∨ (vD tab' x one = vD tab x one) → resD tab' x (srch tab' x acc) = resD tab x (srch tab x acc) := fun h => by
    refine res_congr I.w.gd.ord W.gd.ord cl cl' ids ids' fun i hi => ?_
    have hid := srch_ids I.w.gd.ord cl ids i hi
    rcases h with h | h
    · exact oth i hid (h i hi)
    · by_cases c : i = one
      · rw [c]
        exact vD_inj h
      · exact oth i hid c
  -- before[1]
  have inv : ∃ v0 lt, G2 q1 = some (.tup [v0, .ref lt]) ∧ G2 lt = some (.tup ((srch tab x acc).1.map V.int)) := by
    cases t1 with
    | tup h1 r1 =>
      cases r1 with
      | cons a1 r1 =>
        cases r1 with
        | cons a2 r2 =>
          cases r2
          cases a2 with
          | tup h2 r2 =>
            have z : ∀ {vs : List V} {L : List Int}, Trs G2 vs (L.map PyData.int) → vs = L.map V.int := by
              intro vs L
              induction L generalizing vs with
              | nil => intro h; cases h; rfl
              | cons i L ih =>
                intro h
                cases h with
                | cons b1 b2 =>
                  cases b1
                  rw [ih b2]
                  rfl
            rw [z r2] at h2
            exact ⟨_, _, h1, h2⟩
  obtain ⟨v0, lt, g1, g2⟩ := inv
  refine ⟨_, rfl, _, rfl, q1, _, _, _, rfl, rfl, SqT.of g1, atI_nat (j := 1) rfl, lt, _, rfl, .inr (SqT.of g2), rfl, List.all_eq_true.mpr (fun y hy => by obtain ⟨z, _, rfl⟩ := List.mem_map.mp hy; rfl), _, rfl, ?_⟩
  show (if inV (.int one) ((srch tab x acc).1.map V.int) = true then _ else _)
  rw [in_ints]
  refine ite2 (fun c => ?_) (fun c => ?_)
  · have c := of_decide_eq_true c
    have hid := srch_ids I.w.gd.ord cl ids one c
    have h01 : 0 ≤ one ∧ one < m := by
      rcases one_ with rfl | h
      · obtain ⟨e, _, ez⟩ := hid
        omega
      · exact h
    obtain ⟨e, he, ee⟩ := W2.gd.isId h01.1 (by omega)
    obtain ⟨j, rfl⟩ := int_nat h01.1
    refine pairE (e := e) W2 he rfl rfl (by rw [ee]; rfl) fun t G3 s3 t3 => ?_
    rw [ee] at t3
    obtain ⟨v, ev, tv⟩ := I.sdf j (by omega)
    have gsd3 := s3 _ _ gsd2
    have tv3 : Tr G3 v (vD tab x (j : Int)) := tv.keep fun a xs z => s3 a _ (tk2 a xs z)
    refine ⟨_, rfl, _, rfl, sd, v, rfl, .inl ⟨_, Sum.inl (j : Int), .inl gsd3, rfl, ev.symm⟩, ?_⟩
    refine ⟨_, _, t3.dp, tv3.dp, vD_shaped W2 x _, vD_shaped I.w x _, ?_⟩
    have tk3 : TK G2 G3 := fun a xs z => s3 a _ z
    refine rest2_ok (E := E) (W2.same s3) le hn (s3 _ _ (s2 _ _ gl)) (t1.keep tk3) sh1 (t2.keep tk3) ?_ fun sd2 kvs2 G4 I4 => q _ _ _ _ _ _ _ I4
    cases z : PyData.eqv (vD tab' x (j : Int)) (vD tab x (j : Int)) with
    | false => exact .inl rfl
    | true => exact .inr (same_all (.inr (eqv_eq _ _ (tr_pl t3) (tr_pl tv3) z)))
  · have c : ¬ one ∈ (srch tab x acc).1 := fun z => c (decide_eq_true z)
    refine rest2_ok (E := E) W2 le hn (s2 _ _ gl) t1 sh1 t2 (.inr (same_all (.inl fun i hi z => c (by rw [← z]; exact hi)))) fun sd2 kvs2 G4 I4 => q _ _ _ _ _ _ _ I4
theorem run_law (h : sp_law K vs H Q E) : t_law K E (DQ Q) (start ns_law vs) H := by
  obtain ⟨a, ns, rfl, hS, hl, q⟩ := h
  refine ⟨_, rfl, a, ns, rfl, hS, hl, fun d r H1 s1 nd nr D1 => ?_⟩
  intro p dx np ndx nxp
  have S1 : Same H1 (upd (upd H1 dx (.own p)) p (.ins (OC K) dx [])) := fun b u z => by
    rw [upd_ne (ne_of_none z np), upd_ne (ne_of_none z ndx)]
    exact z
  have D1' := D1.same S1
  have dp : d ≠ p := D1.neD np
  have rp : r ≠ p := D1.neR np
  refine ⟨p, dx, rfl, upd_same, fun tb o H2 k2 ntb no O2 => ⟨rfl, ?_⟩⟩
  have D2 : Draws H2 d r := by
    obtain ⟨i, s, rs, h1, h2, h3⟩ := D1'
    exact ⟨i, s, rs, k2 _ _ dp h1, k2 _ _ rp h2, h3⟩
  refine ⟨_, rfl, _, rfl, d, r, p, dx, tb, o, rfl, D2, O2, D1'.neD ntb, D1'.neD no, fun m H3 tab3 m2 m8 W3 => ?_⟩
  refine ⟨8, rfl, by decide, by decide, ?_⟩
  refine for_range (lo := 0) (n := 8) (fun t σ G => ∃ (tab : List En) (n : Nat) (v4 v5 v6 v7 v8 v9 v10 v11 v12 v13 : Option V), σ = [some (.ref a), some (.ref d), some (.ref p), some (.int (m : Int)), v4, v5, v6, v7, v8, v9, v10, v11, v12, v13] ∧ Wo K G d r p dx tb tab n m ∧ m ≤ n ∧ n ≤ 8 + 5 * t)
    ⟨tab3, m, none, none, none, none, none, none, none, none, none, none, rfl, W3, Nat.le_refl _, by omega⟩ ?_ ?_
  · rintro t σ G ht ⟨tab, n, v4, v5, v6, v7, v8, v9, v10, v11, v12, v13, rfl, W, le, hn⟩
    have hm' : (0 : Int) < (m : Int) := by omega
    refine ⟨_, rfl, d, rfl, r, W.dr, fun s Ha Ka Da hs => ?_⟩
    have Wa := W.kept Ka Da
    -- starts
    refine ⟨_, rfl, d, 2, rfl, by decide, r, Da, fun j Hb j0 j1 Db Mb => ⟨_, _, rfl, rfl, 1 + j, rfl, by omega, by omega, fun D nD => ?_⟩⟩
    have Wb := Wa.kept (Kept.of_moved Mb) Db
    have Dr : D ≠ r := Ne.symm (Db.neR nD)
    obtain ⟨c, ec⟩ : ∃ c : Nat, (1 + j).toNat = c := ⟨_, rfl⟩
    have hc : c ≤ 2 := by omega
    rw [ec]
    refine lc_range (lo := 0) (n := c) (fun k G1 => ∃ acc : List Int, G1 D = some (.lst (acc.map V.int)) ∧ acc.length = k ∧ (∀ y ∈ acc, 0 ≤ y ∧ y < m) ∧ Wo K G1 d r p dx tb tab n m)
      ⟨[], upd_same, rfl, (fun y hy => by cases hy), Wb.same (same_upd nD)⟩ ?_ ?_
    · rintro k G1 hk ⟨acc, gD, la, hy, W1⟩
      refine ⟨rfl, _, rfl, _, rfl, d, _, rfl, hm', r, W1.dr, fun y G2 y0 y1 D2 M2 => ?_⟩
      have Dd : D ≠ d := by
        obtain ⟨i, s, rs, h1, _⟩ := W1.dr
        exact ne_of gD h1 (by intro z; cases z)
      have gD2 := (M2 D Dd).trans gD
      refine ⟨_, gD2, Nat.lt_of_le_of_lt (show (acc.map V.int).length ≤ 10 by rw [List.length_map]; omega) (by decide), acc ++ [y], by rw [upd_same, List.map_append]; rfl, by rw [List.length_append, la]; rfl, fun z hz => ?_, (W1.kept (Kept.of_moved M2) D2).lst gD2 Dr⟩
      rcases List.mem_append.mp hz with hz | hz
      · exact hy z hz
      · rw [List.mem_singleton.mp hz]
        exact ⟨y0, y1⟩
    · rintro G1 ⟨acc, gD, la, hy, W1⟩
      refine ⟨D, _, rfl, .inl ⟨SqL.of gD, fun l nl => ?_⟩⟩
      have s2 := same_upd (o := .tup (acc.map V.int)) nl
      have W2 := W1.same s2
      have hm0 : (m : Int) ≤ n := by omega
      have ids : ∀ i ∈ acc, isId tab i := fun i hi => W2.gd.isId (hy i hi).1 (by have := (hy i hi).2; omega)
      -- before
      refine ⟨_, rfl, _, rfl, _, rfl, p, dx, tb, tab, n, l, acc, Str.ofString s, rfl, W2.ob, upd_same, ids, W2.closed hm0, (fun e he => Nat.le_trans (W2.gd.six he) (by decide)), W2.gd.fuel (by omega) (by omega), fun q1 G3 s3 t3 => ?_⟩
      have W3 := W2.same s3
      -- slots
      refine dict_ok (i := 9) W3 le (by omega) rfl rfl rfl (by show 9 < 14; decide) (by decide) (by decide) fun sd G4 kvs s4 n4 g4 k4 => ?_
      have W4 := W3.same s4
      have I4 : InS K G4 d r p dx tb m (Str.ofString s) l acc tab n q1 sd kvs := ⟨W4, le, s4 _ _ (s3 _ _ upd_same), t3.keep (fun a xs z => s4 a _ z), g4, k4, Ne.symm (W3.ne_d n4), (fun z => by
        rw [z, W3.ob.tbl] at n4
        cases n4), fun e he z => by
        obtain ⟨kv0, g0, _⟩ := W3.ob.ent e he
        rw [z, g0] at n4
        cases n4⟩
      refine ⟨_, rfl, d, 5, rfl, by decide, r, W4.dr, fun b G5 b0 b1 D5 M5 => ?_⟩
      obtain ⟨b, rfl⟩ := int_nat b0
      refine ⟨(b : Int), rfl, by omega, by omega, ?_⟩
      rw [Int.toNat_natCast]
      have W5 := W4.kept (Kept.of_moved M5) D5
      have tk5 : TK G4 G5 := kept_tk W4.dr (Kept.of_moved M5)
      have I5 : InS K G5 d r p dx tb m (Str.ofString s) l acc tab n q1 sd kvs := ⟨W5, le, tk5 _ _ I4.st, I4.res.keep tk5, (M5 sd I4.nd).trans I4.dic, I4.sdf.same tk5, I4.nd, I4.nt, I4.na⟩
      refine for_range (lo := 0) (n := b) (fun k σ G => ∃ (tab : List En) (n : Nat) (q1 sd : Addr) (kvs : List (Key × V)) (v6 v9 v11 v12 v13 : Option V), σ = σI a d p l m (some (.int (0 + (t : Int)))) (Str.ofString s) v6 v9 v11 v12 v13 q1 sd ∧ InS K G d r p dx tb m (Str.ofString s) l acc tab n q1 sd kvs ∧ n ≤ 8 + 5 * t + k)
        ⟨tab, n, q1, sd, kvs, _, _, _, _, _, rfl, I5, by omega⟩ ?_ ?_
      · rintro k σ G6 hk ⟨tab, n, q1, sd, kvs, v6, v9, v11, v12, v13, rfl, I6, hn6⟩
        refine ⟨_, rfl, _, rfl, _, rfl, d, r, p, dx, tb, tab, n, m, rfl, I6.w, by omega, I6.le, by omega, fun H' e sl he em kw W' => ?_, fun H' o2 sl no2 kw W' => ?_⟩
        · refine rest_ok (E := E) (one := (e.id : Int)) I6 hy (by omega) kw W' I6.le (Nat.le_refl _) (by omega) (.inr ⟨by omega, by omega⟩) (fun i hi ne => slot_set I6.w.gd e.id sl hi ne) fun q2 sd2 kvs2 G7 v11 v12 v13 I7 => ?_
          exact ⟨_, n, q2, sd2, kvs2, _, _, _, _, _, rfl, I7, by omega⟩
        · refine rest_ok (E := E) (one := -1) I6 hy (by omega) kw W' (Nat.le_succ_of_le I6.le) (Nat.le_succ _) (by omega) (.inl rfl) (fun i hi _ => slot_add W'.gd.ord I6.w.gd hi) fun q2 sd2 kvs2 G7 v11 v12 v13 I7 => ?_
          exact ⟨_, n + 1, q2, sd2, kvs2, _, _, _, _, _, rfl, I7, by omega⟩
      · rintro σ G6 ⟨tab, n, q1, sd, kvs, v6, v9, v11, v12, v13, rfl, I6, hn6⟩
        exact ⟨tab, n, _, _, _, _, _, _, _, _, _, _, rfl, I6.w, I6.le, by omega⟩
  · rintro σ G ⟨tab, n, v4, v5, v6, v7, v8, v9, v10, v11, v12, v13, rfl, W, le, hn⟩
    exact q G
end
end Rm.Q

/-! O7: dicts whose keys are nested tuples: {}, in, d[k], d[k] = v (a new key). -/
namespace Rm
open PySem PySem.Spec PyProof.Rows L2
mutual
/-- data as a key -/
def nk : PyData → NestedKey
  | .int i => .num i
  | .str x => .text x
  | .tuple ds => .tup (nkAll ds)
  | _ => .none
def nkAll : List PyData → List NestedKey
  | [] => []
  | d :: ds => nk d :: nkAll ds
end
abbrev NEnt := NestedKey × Addr × V
def NRel (p : NEnt) (q : NestedKey × Addr × Value) : Prop := p.1 = q.1 ∧ p.2.1 = q.2.1 ∧ RelV p.2.2 q.2.2
def entN (w : World) (x : NestedKey × Addr × Value) : DictEntry := ⟨x.1.hash w, .ref x.2.1, x.2.2⟩
/-- a dict of nested keys, at a -/
def dnP (w : World) (a : Addr) (kvs : List NEnt) (h : Heap) : Prop := kvs.length ≤ sizeLine ∧ (a == sysModules) = false ∧ ∃ xs, Paired NRel kvs xs ∧ ∃ o es ep, h.get? a = some o ∧ o.ExactDict ∧ o.data = .dict es ep ∧ es.toList = xs.map (entN w) ∧ (xs.map (·.1)).Nodup
def dnO (w : World) (a : Addr) (kvs : List NEnt) : HO := .ext (dnP w a kvs)
/-- its keys stand -/
def KeysN (H : Hp) (kvs : List NEnt) : Prop := ∀ p ∈ kvs, ∃ D, Tr H (.ref p.2.1) D ∧ nk D = p.1 ∧ p.1.depth ≤ 8
def valN (kvs : List NEnt) (k : NestedKey) : Option V := (kvs.find? fun p => decide (p.1 = k)).map (·.2.2)
section
variable {P : Program} {w : World} {H : Hp} {h h' : Heap} {a : Addr} {kvs : List NEnt}
theorem dnP_stay : ∀ h1 h2 : Heap, dnP w a kvs h1 → (∀ o, h1.get? a = some o → h2.get? a = some o) → dnP w a kvs h2 := fun h1 h2 x k => by
  obtain ⟨z, y, xs, r, o, es, ep, e, c⟩ := x
  exact ⟨z, y, xs, r, o, es, ep, k _ e, c⟩
theorem dn_ok (x : dnP w a kvs h) : ObjOk P w H h a (dnO w a kvs) := by
  refine ⟨x, ?_, dnP_stay⟩
  obtain ⟨z, y, xs, r, o, es, ep, e, c⟩ := x
  exact ⟨o, e⟩
mutual
theorem tr_nest (ok : HOk P w H h) : ∀ {v : V} {D : PyData} {u : Value}, Tr H v D → RelV v u → NestedIs h (nk D) u
  | _, _, u, .non, r => by
    obtain rfl : u = Value.none := r
    exact .none
  | _, _, u, .int i, r => by
    obtain ⟨t, rfl⟩ : ∃ t, u = Value.int i t := r
    exact .int _ _
  | _, _, u, .str x, r => by
    obtain ⟨t, rfl⟩ : ∃ t, u = Value.str x t := r
    exact .text _ _
  | _, _, u, .tup (a := a) (xs := xs) h1 rs, r => by
    obtain rfl : u = Value.ref a := r
    obtain ⟨_, its, rv, o, e1, e2, n, e3⟩ := (show ObjOk P w H h a (.tup xs) from ok a _ h1)
    exact .tup e1 e2 e3 (by simpa using trs_nest ok rs rv)
theorem trs_nest (ok : HOk P w H h) : ∀ {vs : List V} {ds : List PyData} {us : List Value}, Trs H vs ds → Vals vs us → NestedAll h (nkAll ds) us
  | _, _, _, .nil, r => by
    cases r
    exact .nil
  | _, _, _, .cons h1 rs, r => by
    cases r with
    | cons r1 r2 => exact .cons (tr_nest ok h1 r1) (trs_nest ok rs r2)
end
theorem dn_of (ok : HOk P w H h) (e : H a = some (dnO w a kvs)) (hk : KeysN H kvs) : kvs.length ≤ sizeLine ∧ (a == sysModules) = false ∧ ∃ xs, Paired NRel kvs xs ∧ h.DictOfH (nestedKind P w) a xs := by
  obtain ⟨⟨z, y, xs, r, o, es, ep, h1, h2, h3, h4, h5⟩, _⟩ := (show ObjOk P w H h a (dnO w a kvs) from ok a _ e)
  refine ⟨z, y, xs, r, o, es, ep, h1, h2, h3, h4, ?_, h5⟩
  have all : ∀ {l : List NEnt} {m : List (NestedKey × Addr × Value)}, KeysN H l → Paired NRel l m → ∀ x ∈ m, (nestedKind P w).is h x.1 x.2.1 := by
    intro l m hk q
    induction q with
    | nil => intro x hx; exact nomatch hx
    | @cons p q ps qs hq t ih =>
      intro x hx
      rcases List.mem_cons.mp hx with e | hx
      · subst e
        obtain ⟨D, t1, t2, t3⟩ := hk p (List.mem_cons_self ..)
        obtain ⟨e1, e2, _⟩ := hq
        rw [e1] at t2 t3
        rw [e2] at t1
        exact ⟨t2 ▸ tr_nest ok t1 rfl, t3⟩
      · exact ih (fun p hp => hk p (List.mem_cons_of_mem _ hp)) x hx
  exact all hk r
theorem nrel_val : ∀ {kvs : List NEnt} {xs : List (NestedKey × Addr × Value)} (r : Paired NRel kvs xs) (k : NestedKey), RelO (valN kvs k) ((atKey xs k).map (·.2)) := fun r k => by
  induction r with
  | nil => exact True.intro
  | @cons p q ps qs h t ih =>
    obtain ⟨h1, _, h2⟩ := h
    by_cases e : p.1 = k
    · have e' : q.1 = k := h1.symm.trans e
      have b : atKey (q :: qs) k = some q.2 := by simp [atKey, List.find?_cons, e']
      have c : valN (p :: ps) k = some p.2.2 := by simp [valN, List.find?_cons, e]
      rw [c, b]; exact h2
    · have e' : ¬ q.1 = k := fun z => e (h1.trans z)
      have b : atKey (q :: qs) k = atKey qs k := by simp [atKey, List.find?_cons, e']
      have c : valN (p :: ps) k = valN ps k := by simp [valN, List.find?_cons, e]
      rw [c, b]; exact ih
end
/-- what the dict at a holds at the key y -/
def NGet (w : World) (H : Hp) (a : Addr) (y : V) (r : Option V) : Prop := ∃ kvs D b, H a = some (dnO w a kvs) ∧ KeysN H kvs ∧ y = .ref b ∧ Tr H (.ref b) D ∧ (nk D).depth ≤ 8 ∧ r = valN kvs (nk D)
/-- the heap behind a[y] = v, y a new key -/
def NPut (w : World) (H : Hp) (a : Addr) (y v : V) (H' : Hp) : Prop := ∃ kvs D b, H a = some (dnO w a kvs) ∧ KeysN H kvs ∧ y = .ref b ∧ Tr H (.ref b) D ∧ (nk D).depth ≤ 8 ∧ valN kvs (nk D) = none ∧ kvs.length < sizeLine ∧ H' = upd H a (dnO w a (kvs ++ [(nk D, b, v)]))
section
variable {X : Cx} {pins : List (Addr × Obj)} {σ : L2.St} {H : Hp} {s : Shared} {a : Addr} {y v : V} {u r : Value} {o : Option V} {A : Around} {E : Value → Shared → Prop}
theorem n_room {A : Around} {P : Program} {w : World} (hu : A.units + 64 < cLine) : (nestedKind P w).room A.in1 := by
  show A.in1.units + 8 < cLine
  have e : A.in1.units = A.units + 1 := rfl
  rw [e]
  omega
theorem n_getItem {Q : Value → Shared → Prop} (hu : A.units + 64 < cLine) (I : Inv X pins σ H s) (g : NGet X.w H a y (some v)) (ry : RelV y u) (h : ∀ w' s', Inv X pins σ H s' → RelV v w' → Q w' s') :
    wpAny (model X.prog X.w) A (getItem (.ref a) u) Q E s := by
  obtain ⟨kvs, D, b, e, hk, ey, t, dp, l⟩ := g
  subst ey
  cases (show u = Value.ref b from ry)
  obtain ⟨z, hd, xs, rel, dd⟩ := dn_of I.hok e hk
  obtain ⟨w', hw, rw'⟩ := RelO.some_of (v := v) (o := (atKey xs (nk D)).map (·.2)) (by rw [l]; exact nrel_val rel _)
  obtain ⟨p, hp, hp2⟩ := Option.map_eq_some_iff.mp hw
  refine wpAny_getItem_heap (n_room hu) ⟨tr_nest I.hok t rfl, dp⟩ dd hp ?_
  rw [hp2]
  exact h w' _ (I.tok _) rw'
theorem n_in {Q : Value → Shared → Prop} (hu : A.units + 64 < cLine) (I : Inv X pins σ H s) (g : NGet X.w H a y o) (ry : RelV y u) (h : ∀ s', Inv X pins σ H s' → Q (.bool o.isSome) s') :
    wpAny (model X.prog X.w) A (compareOp .In u (.ref a)) Q E s := by
  obtain ⟨kvs, D, b, e, hk, ey, t, dp, l⟩ := g
  subst ey
  cases (show u = Value.ref b from ry)
  obtain ⟨z, hd, xs, rel, dd⟩ := dn_of I.hok e hk
  refine wpAny_in_heap (n_room hu) ⟨tr_nest I.hok t rfl, dp⟩ hd dd ?_
  have q := (nrel_val rel (nk D)).isSome_eq
  rw [Option.isSome_map] at q
  rw [← q, ← l]
  exact h _ (I.tok _)
theorem n_notIn {Q : Value → Shared → Prop} (hu : A.units + 64 < cLine) (I : Inv X pins σ H s) (g : NGet X.w H a y o) (ry : RelV y u) (h : ∀ s', Inv X pins σ H s' → Q (.bool (!o.isSome)) s') :
    wpAny (model X.prog X.w) A (compareOp .NotIn u (.ref a)) Q E s := by
  obtain ⟨kvs, D, b, e, hk, ey, t, dp, l⟩ := g
  subst ey
  cases (show u = Value.ref b from ry)
  obtain ⟨z, hd, xs, rel, dd⟩ := dn_of I.hok e hk
  refine wpAny_notIn_heap (n_room hu) ⟨tr_nest I.hok t rfl, dp⟩ hd dd ?_
  have q := (nrel_val rel (nk D)).isSome_eq
  rw [Option.isSome_map] at q
  rw [← q, ← l]
  exact h _ (I.tok _)
theorem n_setItem {H' : Hp} {Q : Unit → Shared → Prop} (hu : A.units + 64 < cLine) (I : Inv X pins σ H s) (g : NPut X.w H a y v H') (ry : RelV y u) (rv : RelV v r) (h : ∀ s', Inv X pins σ H' s' → Q () s') :
    wpAny (model X.prog X.w) A (setItem (.ref a) u r) Q E s := by
  obtain ⟨kvs, D, b, e, hk, ey, t, dp, l, hl, eH⟩ := g
  subst ey eH
  cases (show u = Value.ref b from ry)
  obtain ⟨z, hd, xs, rel, dd⟩ := dn_of I.hok e hk
  have hz : xs.length ≤ sizeLine := by rw [← Paired.length rel]; exact z
  have no : atKey xs (nk D) = none := by
    have q := (nrel_val rel (nk D)).isSome_eq
    rw [l, Option.isSome_map] at q
    exact Option.isSome_eq_false_iff.mp q.symm |> Option.isNone_iff_eq_none.mp
  have st : storedH xs (nk D) b r = xs ++ [(nk D, b, r)] := by
    unfold storedH
    rw [no]
    rfl
  refine wpAny_setItem_heap (hsz := hz) (n_room hu) ⟨tr_nest I.hok t rfl, dp⟩ dd fun h' dd' hs => h _ ?_
  rw [st] at dd'
  obtain ⟨q, es, ep, hq, h2, h3, h4, _, h5⟩ := dd'
  refine d_write I (by rw [e]; exact True.intro) hs ⟨q, hq⟩ (dn_ok ⟨?_, hd, _, Paired.snoc rel ⟨rfl, rfl, rv⟩, q, es, ep, hq, h2, h3, h4, h5⟩)
  rw [List.length_append]
  exact hl
end
def tNGet (w : World) (td ty : TE) : TE := fun σ H Q => td σ H fun x H1 => ty σ H1 fun y H2 => ∃ a v, x = .ref a ∧ NGet w H2 a y (some v) ∧ Q v H2
def tNIn (w : World) (ty td : TE) : TE := fun σ H Q => ty σ H fun y H1 => td σ H1 fun x H2 => ∃ a o, x = .ref a ∧ NGet w H2 a y o ∧ Q (.bl o.isSome) H2
def tNNotIn (w : World) (ty td : TE) : TE := fun σ H Q => ty σ H fun y H1 => td σ H1 fun x H2 => ∃ a o, x = .ref a ∧ NGet w H2 a y o ∧ Q (.bl (!o.isSome)) H2
def sNPut (w : World) (td ty tv : TE) : TS := fun D σ H => tv σ H fun v H1 => td σ H1 fun x H2 => ty σ H2 fun y H3 => ∃ a H4, x = .ref a ∧ NPut w H3 a y v H4 ∧ D.nx σ H4
def tNNew (w : World) : TE := fun _ H Q => ∀ p, H p = none → Q (.ref p) (upd H p (dnO w p []))
section
variable {X : Cx} {o i e value : Expr} {pos pos' tpos : Pos} {td ty tv : TE}
theorem n_typeIs {pins : List (Addr × Obj)} {σ : L2.St} {H : Hp} {s : Shared} {a : Addr} {y : V} {o : Option V} (I : Inv X pins σ H s) (g : NGet X.w H a y o) : s.TypeIs (.ref a) "dict" := by
  obtain ⟨kvs, D, b, e, hk, _⟩ := g
  obtain ⟨_, _, xs, _, dd⟩ := dn_of I.hok e hk
  exact dd.typeIs
theorem pe_nget (hu : X.A.units + 64 < cLine) (ho : PE X o td) (hi : PE X i ty) (hs : NoSl i) : PE X (.Subscript o i pos) (tNGet X.w td ty) := by
  refine ⟨fun pins s σ H Q I h => ?_⟩
  refine subD_of PySem.F.slot_dict_getitem.lookup hs (thn (ho.run pins s σ H _ I h) fun u s1 ⟨x, H1, I1, rx, q1⟩ => thn (hi.run pins s1 σ H1 _ I1 q1) fun iv s2 ⟨y, H2, I2, ry, a, v, ex, g, q2⟩ => ?_)
  subst ex
  obtain rfl : u = Value.ref a := rx
  exact ⟨n_typeIs I2 g, n_getItem hu I2 g ry fun w' s3 I3 rw' => ⟨v, H2, I3, rw', q2⟩⟩
theorem pc_nin (hu : X.A.units + 64 < cLine) (hi : PE X i ty) (ho : PE X o td) : PC X .In i o (tNIn X.w ty td) := by
  refine ⟨fun pins s σ H Q I h => ?_⟩
  refine thn (hi.run pins s σ H _ I h) fun iv s1 ⟨y, H1, I1, ry, q1⟩ => thn (ho.run pins s1 σ H1 _ I1 q1) fun u s2 ⟨x, H2, I2, rx, a, ov, ex, g, q2⟩ => ?_
  subst ex
  obtain rfl : u = Value.ref a := rx
  exact n_in hu I2 g ry fun s3 I3 => ⟨.bl ov.isSome, H2, I3, rfl, q2⟩
theorem pc_nnotin (hu : X.A.units + 64 < cLine) (hi : PE X i ty) (ho : PE X o td) : PC X .NotIn i o (tNNotIn X.w ty td) := by
  refine ⟨fun pins s σ H Q I h => ?_⟩
  refine thn (hi.run pins s σ H _ I h) fun iv s1 ⟨y, H1, I1, ry, q1⟩ => thn (ho.run pins s1 σ H1 _ I1 q1) fun u s2 ⟨x, H2, I2, rx, a, ov, ex, g, q2⟩ => ?_
  subst ex
  obtain rfl : u = Value.ref a := rx
  exact n_notIn hu I2 g ry fun s3 I3 => ⟨.bl (!ov.isSome), H2, I3, rfl, q2⟩
theorem ps_nput (hu : X.A.units + 64 < cLine) (ho : PE X o td) (hi : PE X i ty) (hv : PE X value tv) (hs : swapsWith value (some (.Subscript o i pos')) pos.line X.env = pure false) :
    PS X (.Assign [.Subscript o i pos'] value pos) (sNPut X.w td ty tv) := by
  refine ⟨fun pins s σ H D I h => ?_⟩
  refine wpAny_Assign_Subscript (thn (hv.run pins s σ H _ I h) fun r s1 ⟨v, H1, I1, rv, q1⟩ => thn (ho.run pins s1 σ H1 _ I1 q1) fun u s2 ⟨x, H2, I2, rx, q2⟩ => thn (hi.run pins s2 σ H2 _ I2 q2) fun iv s3 ⟨y, H3, I3, ry, a, H4, ex, g, q3⟩ => ?_) hs
  subst ex
  obtain rfl : u = Value.ref a := rx
  exact n_setItem hu I3 g ry rv fun s4 I4 => ⟨σ, H4, I4, q3⟩
theorem dn_empty {P : Program} {w : World} {H : Hp} (h : Heap) (hb : sysModules < h.objs.size) : ObjOk P w H (h.push { cls := .type "dict", data := .dict #[] }) h.objs.size (dnO w h.objs.size []) :=
  dn_ok ⟨Nat.zero_le _, beq_eq_false_iff_ne.mpr (Ne.symm (Nat.ne_of_lt hb)), [], .nil, _, #[], 0, Heap.get?_push_size _ rfl, ⟨rfl, rfl, rfl⟩, rfl, rfl, List.nodup_nil⟩
theorem pe_dnewN : PE X (.Dict [] [] pos) (tNNew X.w) := ⟨fun pins s σ H Q I h =>
  wpAny_Dict_empty ⟨.ref s.heap.objs.size, _, I.laid (a := s.heap.objs.size) (o := dnO X.w s.heap.objs.size []) (t' := s.toks) (fun _ _ q => Heap.get?_push_of_some _ q) (Nat.le_refl _) (dn_empty s.heap I.big), rfl, h _ (I.hok.fresh (Nat.le_refl _))⟩⟩
end
/-! ### keys -/
theorem KeysN.keep {H H' : Hp} {kvs : List NEnt} (h : KeysN H kvs) (k : TK H H') : KeysN H' kvs := fun p hp => let ⟨D, a, b, c⟩ := h p hp; ⟨D, a.keep k, b, c⟩
theorem KeysN.snoc {H : Hp} {kvs : List NEnt} {D : PyData} {b : Addr} {v : V} (h : KeysN H kvs) (t : Tr H (.ref b) D) (d : (nk D).depth ≤ 8) : KeysN H (kvs ++ [(nk D, b, v)]) := fun p hp => by
  rcases List.mem_append.mp hp with hp | hp
  · exact h p hp
  · rw [List.mem_singleton.mp hp]
    exact ⟨D, t, rfl, d⟩
theorem valN_snoc {kvs : List NEnt} {k k' : NestedKey} {b : Addr} {v : V} : valN (kvs ++ [(k, b, v)]) k' = (valN kvs k').or (if k = k' then some v else none) := by
  unfold valN
  rw [List.find?_append]
  cases e : kvs.find? fun p => decide (p.1 = k') with
  | some p => rfl
  | none =>
    by_cases c : k = k'
    · simp [c]
    · simp [c]
end Rm

/-! O8: enumerate over a tuple. -/
namespace Rm
open PySem PySem.Spec PyProof.Rows L2
open AutoSeq1 (wpAny_loadPart')
theorem meets_enumerate_newT (l : Addr) (items : Array Value) (n : Nat) (dct : Option Addr) (sl : Array (Option Value)) :
    Meets (Builtin.«enumerate.__new__» ⟨[.type "enumerate", .ref l], []⟩) (fun _ R s => s.heap.get? l = some { cls := .type "tuple", dict := dct, data := .seq items n, slots := sl } ∧
      R (.ok (.ret (.ref (s.heap.push { cls := .type "tuple_iterator", data := .fields #[.ref l, .int 0 0] }).objs.size)))
        { s with heap := (s.heap.push { cls := .type "tuple_iterator", data := .fields #[.ref l, .int 0 0] }).push { cls := .type "enumerate", data := .fields #[.none, .bool false, .ref s.heap.objs.size, rawInt 0, .none, .none] } }) :=
  .of_wp fun prog w A R s h => by
    obtain ⟨hp, g, d, tk, os⟩ := s; obtain ⟨hl, h⟩ := h
    have hsub := sub_enumerate
    have hL : Heap.IsTuple (Shared.heap ⟨hp, g, d, tk, os⟩) l items := ⟨_, hl, rfl, n, rfl⟩
    wp_walk using wpAny_loadPart' hl
    refine wpAny_stack_any fun st => wpAny_pure ?_
    split
    · rename_i c _ _ _ _ _
      cases (c == Value.type "enumerate")
      · wp_walk using wpAny_loadPart' hl, wpAny_pyIter_tuple hL
        exact ⟨_, rfl, h⟩
      · wp_walk using wpAny_loadPart' hl, wpAny_pyIter_tuple hL
        exact ⟨_, rfl, h⟩
    · wp_walk using wpAny_loadPart' hl, wpAny_pyIter_tuple hL
      exact ⟨_, rfl, h⟩
section
variable {prog : Program} {w : World} {A : Around} {E : Value → Shared → Prop} {s : Shared}
theorem call_enumerate_tup {l : Addr} {items : Array Value} {Q : Value → Shared → Prop} (hL : IsTup s.heap l items)
    (h : ∀ h', IsEnum h' (s.heap.objs.size + 1) s.heap.objs.size 0 .none → h'.IsTupleIter s.heap.objs.size l 0 → h'.objs.size = s.heap.objs.size + 2 →
      (∀ b o, s.heap.get? b = some o → h'.get? b = some o) → Q (.ref (s.heap.objs.size + 1)) { s with heap := h' }) :
    wpAny (model prog w) A (call (.type "enumerate") [.ref l]) Q E s := by
  obtain ⟨⟨c, dct, dt, sl⟩, hl, hc, n, hd⟩ := hL
  replace hc : c = .type "tuple" := hc
  replace hd : dt = .seq items n := hd
  subst hc hd
  refine callType_new F.called_enumerate (by decide) (F.typeCall_enumerate_1 _) (F.newCall_enumerate_1 _) (fun obj => F.args_object_init_2 obj _) F.entry_enumerate_new
    (meets_enumerate_newT l items n dct sl) ⟨hl, ?_⟩
  have hz : (s.heap.push { cls := .type "tuple_iterator", data := .fields #[.ref l, .int 0 0] }).objs.size = s.heap.objs.size + 1 := Heap.size_push ..
  show _ ∧ _
  rw [hz]
  have he : IsEnum ((s.heap.push { cls := .type "tuple_iterator", data := .fields #[.ref l, .int 0 0] }).push
      { cls := .type "enumerate", data := .fields #[.none, .bool false, .ref s.heap.objs.size, rawInt 0, .none, .none] }) (s.heap.objs.size + 1) s.heap.objs.size 0 .none := by
    have := Heap.get?_push_size (s.heap.push { cls := .type "tuple_iterator", data := .fields #[.ref l, .int 0 0] })
      (o := { cls := .type "enumerate", data := .fields #[.none, .bool false, .ref s.heap.objs.size, rawInt 0, .none, .none] }) rfl
    rw [hz] at this; exact this
  refine ⟨⟨_, he, rfl⟩, h _ he ⟨_, Heap.get?_push_of_some _ (Heap.get?_push_size _ rfl), rfl, rfl⟩ (by rw [Heap.size_push, hz]) fun b o x => Heap.get?_push_of_some _ (Heap.get?_push_of_some _ x)⟩
end
/-- the tuple at a, each item in a new pair with its number -/
def ItT (K : PySem.W.Frag) (a : Addr) : It :=
  ⟨fun i H => ∃ (xs : List V) (x : V), SqT K H a xs ∧ xs[i]? = some x, fun i H v H' => ∃ T x, v = .ref T ∧ H T = none ∧ H' = upd H T (.tup [.int (i : Nat), x]) ∧ ∀ xs, SqT K H a xs → xs[i]? = some x, fun i H => ∃ xs : List V, SqT K H a xs ∧ xs.length ≤ i⟩
theorem enumT_end {prog : Program} {w : World} {A : Around} {E : Value → Shared → Prop} {s : Shared} {e it l : Addr} {i : Nat} {items : Array Value} {old : Value} {Q : Option Value → Shared → Prop} (hh : A.handled = none)
    (he : IsEnum s.heap e it i old) (hit : s.heap.IsTupleIter it l i) (hl : s.heap.IsTuple l items) (hx : items[i]? = none)
    (hQ : ∀ h', Heap.ExtBut it s.heap h' → Q none { s with heap := h' }) : wpAny (model prog w) A (pyNext (.ref e)) Q E s := by
  have hT : s.TypeIs (.ref e) "enumerate" := ⟨_, he, rfl⟩
  unfold pyNext
  refine wpAny_bind (wpAny_attempt (wpAny_callSpecial?_slot (name := Str.ofString "__next__") hT F.slot_enumerate_next
    (wpAny_call_entry F.slot_enumerate_next hT F.entry_enumerate_next ?_ (F.args_enumerate_next_1 _))))
  show wpAny _ _ (field (.ref e) 2 >>= _) _ _ _
  refine wpAny_bind (wpAny_field he rfl (x := .ref it) rfl ?_)
  refine wpAny_bind (wpAny_nextOf_tuple_end hh hit hl hx fun h' x he' hx' => ?_)
  obtain ⟨o, ho, hc⟩ := hx'
  refine wpAny_bind (wpAny_isInstance (T := "StopIteration") (b := true) ⟨o, ho, hc⟩ isSubtype_stop ?_)
  exact wpAny_pure (hQ _ he')
theorem turn_enumT {P : Program} {w : World} {K : PySem.W.Frag} {elts : List Expr} {kk : Nat} {tpos : Pos} (a e it : Addr) :
    Turn P w K (.Tuple elts kk tpos) (ItT K a) [e, it] e (fun i h => (∃ old, IsEnum h e it ((i : Nat) : Int) old) ∧ h.IsTupleIter it a i ∧ e ≠ it) where
  mem := by simp
  obj := fun i h st b hb => by
    obtain ⟨⟨old, he⟩, ⟨o, ho, hc, hd⟩, _⟩ := st
    have e' : b = e ∨ b = it := by simpa using hb
    rcases e' with z | z
    · rw [z]; exact ⟨_, he, fun v q => nomatch q⟩
    · rw [z]; exact ⟨o, ho, fun v q => by rw [hd] at q; cases q⟩
  keep := fun i h h' st k => let ⟨⟨old, he⟩, hi, hne⟩ := st; ⟨⟨old, k e (by simp) _ he⟩, hi.at fun o q => k it (by simp) o q, hne⟩
  item := by
    intro X hP hw hK hc i pins s σ H E I hf st hg
    subst hP hw hK
    obtain ⟨⟨old, he⟩, hit, hne⟩ := st
    obtain ⟨xs, x, hq, hx⟩ := hg
    obtain ⟨its, rv, p, hz⟩ := I.tuple hq
    obtain ⟨u, hu, ru⟩ := rv.get hx
    have hel : e < s.heap.objs.size := Heap.lt_size he
    have hil : it < s.heap.objs.size := by obtain ⟨_, q, _⟩ := hit; exact Heap.lt_size q
    have hpt : s.heap.IsTuple a its.toArray := p
    have hat : a ≠ it := by
      intro z
      subst z
      obtain ⟨o1, a1, a2, _⟩ := hpt
      obtain ⟨o2, b1, b2, _⟩ := hit
      rw [a1] at b1
      cases b1
      rw [a2] at b2
      exact absurd b2 (by decide)
    have hae : a ≠ e := by
      intro z
      subst z
      obtain ⟨o1, a1, a2, _⟩ := hpt
      have b1 : s.heap.get? a = some _ := he
      rw [a1] at b1
      cases b1
      have a2 : Value.type "enumerate" = Value.type "tuple" := a2
      exact absurd (Value.type.inj a2) (by decide)
    have hlt : i < its.toArray.size := by
      have := (List.getElem?_eq_some_iff.mp hu).1
      rw [List.size_toArray]
      exact this
    refine wpAny_pyNext_enum_itemD (Draws.tuple (A := X.A.in1) (I.ok.hd hc) it a hat its.toArray) he ⟨hit, hpt⟩ hlt hne (by simp [hne, Ne.symm hae]) fun u' h' tk hPu ho st' hT hsz hk => ?_
    have eu : u' = u := by
      have z : its.toArray[i]? = some u := by simpa using hu
      exact Option.some.inj (hPu.symm.trans z)
    subst eu
    refine ⟨_, rfl, wpAny_letOwnedTupleGo_enum (s := { s with heap := h', toks := tk + 1 }) ho fun h'' he' sb => ?_⟩
    have hT2 : h''.get? s.heap.objs.size = some { cls := .type "tuple", data := .seq #[.int i tk, u'] } := (sb.2 _ (Nat.ne_of_gt hel)).trans hT
    have new : ObjOk X.prog X.w (upd H s.heap.objs.size (.tup [.int (i : Nat), x])) h'' s.heap.objs.size (.tup [.int (i : Nat), x]) :=
      ⟨by show 2 ≤ sizeLine; decide, [.int i tk, u'], .cons ⟨_, rfl⟩ (.cons ru .nil), ⟨_, hT2, rfl, _, rfl⟩⟩
    have I1 : Inv X pins σ (upd H s.heap.objs.size (.tup [.int (i : Nat), x])) { s with heap := h'', toks := tk + 1 } :=
      I.turnedNew (ch := [e, it]) (fun b ob hb q => (sb.2 b (fun z => hb (by simp [z]))).trans (hk b ob (fun z => hb (by simp [z])) (fun z => hb (by simp [z])) q)) hf (Nat.le_refl _) new
    refine ⟨.ref s.heap.objs.size, _, I1, rfl, ⟨_, x, rfl, I.hok.fresh (Nat.le_refl _), rfl, fun ys hy => ?_⟩, ⟨⟨u', ?_⟩, st'.1.at fun o q => (sb.2 it (Ne.symm hne)).trans q, hne⟩, fun b hb => ?_⟩
    · rw [I.tuple_inj hy hq]; exact hx
    · have e1 : ((i + 1 : Nat) : Int) = (i : Int) + 1 := by omega
      rw [e1]; exact he'
    · have hb' : b < s.heap.objs.size := by
        have e' : b = e ∨ b = it := by simpa using hb
        rcases e' with z | z
        · rw [z]; exact hel
        · rw [z]; exact hil
      rw [upd_ne (Nat.ne_of_lt hb')]
      exact (hf b hb).1
  done := by
    intro X hP hw hK hc i pins s σ H E I hf st hg
    subst hP hw hK
    obtain ⟨⟨old, he⟩, hit, hne⟩ := st
    obtain ⟨xs, hq, hx⟩ := hg
    obtain ⟨its, rv, p, hz⟩ := I.tuple hq
    obtain ⟨f0, f1, f2, f3, f4, f5⟩ := hf it (by simp)
    have hl := rv.length
    exact enumT_end (I.ok.hd hc) he hit (show s.heap.IsTuple a its.toArray from p) (by simp; omega) fun h' eb => ⟨rfl, I.turned (t' := s.toks) (fun b o hb q => eb b o hb q) f0 f1 f3 f4 f5⟩
  self := fun A i s Q E st h => let ⟨⟨_, he⟩, _⟩ := st; wpAny_pyIter_enum he h
def iEnumT (K : PySem.W.Frag) (ta : TA) : TI := fun σ H R => ta σ H fun vs H1 => ∃ a xs, vs = [.ref a] ∧ SqT K H1 a xs ∧ R (ItT K a) H1
theorem pi_enumT {X : Cx} {e : Expr} {ta : TA} {p pos tpos : Pos} {elts : List Expr} {kk : Nat} (hg : Gl X "enumerate") (hm : X.mg "enumerate" = none) (ha : PA X [e] ta) (hs : starEach [e] X.env = [(false, eval e X.env)] := by rfl) :
    PI X (.Tuple elts kk tpos) (.Call (.Name "enumerate" p) [e] [] pos) (iEnumT X.K ta) := by
  refine ⟨fun pins s σ H R I h => ?_⟩
  refine Call_ (ld_blt I hg hm boot_enumerate (PyProof.Rows.callWith_type1 (thn (ha.run pos pins s σ H _ I h) fun us s1 ⟨vs, H1, I1, r1, q1⟩ => ?_) hs rfl))
  obtain ⟨a, xs, ex, hq, q⟩ := q1
  subst ex
  cases r1 with
  | cons r rr =>
    cases rr
    cases r
    obtain ⟨its, rv, p', hz⟩ := I1.tuple hq
    refine call_enumerate_tup p' fun h' he hit hsz hk => wpAny_pyIter_enum he ?_
    have I2 : Inv X pins σ H1 { s1 with heap := h' } := I1.kept (t' := s1.toks) hk
    refine ⟨s1.heap.objs.size + 1, [s1.heap.objs.size + 1, s1.heap.objs.size], _, _, H1, rfl, I2, turn_enumT a (s1.heap.objs.size + 1) s1.heap.objs.size, ⟨⟨.none, he⟩, hit, Nat.succ_ne_self _⟩, fun b hb => ?_, q⟩
    have e' : b = s1.heap.objs.size + 1 ∨ b = s1.heap.objs.size := by simpa using hb
    have hle : s1.heap.objs.size ≤ b := by
      rcases e' with z | z
      · rw [z]; exact Nat.le_add_right _ _
      · rw [z]; exact Nat.le_refl _
    exact I1.fpOk hle (I1.hok.fresh hle)
theorem walk_enumT {K : PySem.W.Frag} {a : Addr} {xs : List V} : Walk (ItT K a) xs.length (fun H => SqT K H a xs) (YPair (fun i => some (.int (i : Nat))) (fun i => xs[i]?)) := by
  refine ⟨fun i _ hi q => ⟨xs, xs[i], q, by simp [hi]⟩, fun _ q => ⟨xs, q, Nat.le_refl _⟩, fun i H v H' _ q y => ?_⟩
  obtain ⟨T, x, h1, h2, h3, h4⟩ := y
  exact ⟨T, .int (i : Nat), x, h1, h2, h3, rfl, h4 xs q⟩
end Rm

/-! U1: shapes: the program's defs (row_of, Shapes): promises, readings (by gen.py), runs. -/
namespace Rm.U
open PySem PySem.Spec PyProof.Rows L2
open Rm.Q (plD plAll eqv_eq eqvAll_eq tr_pl trs_pl)
theorem hr65 {k : Nat} {A : Around} (r : Room k A) : A.units + 65 < cLine := by have := r.un; omega
/-! ### data -/
mutual
theorem nk_inj : ∀ (d e : PyData), plD d = true → plD e = true → nk d = nk e → d = e
  | .none, e, _, he, h => by cases e <;> simp_all [nk, plD]
  | .int i, e, _, he, h => by cases e <;> simp_all [nk, plD]
  | .str x, e, _, he, h => by cases e <;> simp_all [nk, plD]
  | .tuple xs, e, hd, he, h => by
    cases e with
    | tuple ys =>
      simp only [plD] at hd he
      simp only [nk] at h
      rw [nkAll_inj xs ys hd he (NestedKey.tup.inj h)]
    | _ => simp_all [nk, plD]
  | .bool _, _, hd, _, _ => by simp [plD] at hd
  | .list _, _, hd, _, _ => by simp [plD] at hd
  | .dict _, _, hd, _, _ => by simp [plD] at hd
theorem nkAll_inj : ∀ (xs ys : List PyData), plAll xs = true → plAll ys = true → nkAll xs = nkAll ys → xs = ys
  | [], ys, _, _, h => by
    cases ys with
    | nil => rfl
    | cons y ys => simp [nkAll] at h
  | x :: xs, ys, hd, he, h => by
    cases ys with
    | nil => simp [nkAll] at h
    | cons y ys =>
      simp only [plAll, Bool.and_eq_true] at hd he
      simp only [nkAll, List.cons.injEq] at h
      rw [nk_inj x y hd.1 he.1 h.1, nkAll_inj xs ys hd.2 he.2 h.2]
end
/-- what the value of a slot may be, here -/
structure VG (d : PyData) : Prop where
  pl : plD d = true
  lay : d.canLay0 = true
  dep : d.depth ≤ 1
  nd : (nk d).depth ≤ 1
def isFix (k : Str) : Bool := decide (k = ("const" : Str)) || decide (k = ("method" : Str)) || decide (k = ("parent" : Str))
def fixV (k : Str) (d : PyData) : PyData := if isFix k = true then d else .none
def slT (s : Sl) : PyData := .tuple [.str s.name, .str s.kind, s.val]
def slsT (ts : List Sl) : PyData := .tuple (ts.map slT)
def rwS (s : Sl) : Sl := ⟨s.name, s.kind, fixV s.kind s.val⟩
def rowD (ts : List Sl) : PyData := slsT (ts.map rwS)
structure SG (s : Sl) : Prop where
  nm : PyData.strOk s.name = true
  kd : PyData.strOk s.kind = true
  vl : VG s.val
structure SlG (ts : List Sl) : Prop where
  all : ∀ s ∈ ts, SG s
  len : ts.length ≤ 1000
def fixM : List String := ["const", "method", "parent"]
def parM : List String := ["parent", "varparent"]
def placeF : List Sl → Str → Int → Int
  | [], _, _ => -1
  | s :: ts, x, i => if s.name = x then i else placeF ts x (i + 1)
def ixF (f : Sl → Bool) : List Sl → Nat → List Int
  | [], _ => []
  | s :: ts, i => if f s = true then (i : Int) :: ixF f ts (i + 1) else ixF f ts (i + 1)
def isVp (s : Sl) : Bool := decide (s.kind = ("varparent" : Str))
def isPr (s : Sl) : Bool := isPar s.kind
/-! ### the heap -/
abbrev ShC (K : PySem.W.Frag) : Addr := He.ga K ("Shapes" : Str)
def shF (lr nr wr : Addr) (u : Int) : List (Str × V) := [("ways_used", .int u), ("rows", .ref lr), ("numbers", .ref nr), ("ways", .ref wr)]
structure ShK (K : PySem.W.Frag) : Prop where
  cl : Cls K (ShC K)
  nu : NoAttr K (ShC K) "ways_used"
  nr : NoAttr K (ShC K) "rows"
  nn : NoAttr K (ShC K) "numbers"
  nw : NoAttr K (ShC K) "ways"
def numF : Nat → List Addr → List PyData → List NEnt
  | i, a :: as, D :: Rs => (nk D, a, .int (i : Int)) :: numF (i + 1) as Rs
  | _, _, _ => []
/-- a Shapes at p: ways_used u, the rows Rs at as, the ways ws -/
structure Sh (K : PySem.W.Frag) (w : World) (H : Hp) (p dx lr nr wr : Addr) (u : Int) (as : List Addr) (Rs : List PyData) (ws : List NEnt) : Prop where
  ins : H p = some (.ins (ShC K) dx (shF lr nr wr u))
  rows : H lr = some (.lst (as.map V.ref))
  dat : Trs H (as.map V.ref) Rs
  num : H nr = some (dnO w nr (numF 0 as Rs))
  way : H wr = some (dnO w wr ws)
  wk : KeysN H ws
  ne : nr ≠ wr
  rk : ∀ D ∈ Rs, ∃ ts, D = rowD ts ∧ SlG ts
  nd : Rs.Nodup
/-- what stays while rows are added -/
def KS (lr nr : Addr) (H H' : Hp) : Prop := ∀ b o, b ≠ lr → b ≠ nr → H b = some o → H' b = some o
/-- Rs, with D in it -/
def Ext (Rs : List PyData) (D : PyData) (Rs' : List PyData) : Prop := (D ∈ Rs ∧ Rs' = Rs) ∨ (D ∉ Rs ∧ Rs' = Rs ++ [D])
/-! ### promises -/
def sp_fixed_value (K : PySem.W.Frag) : Sp := fun vs H Q _ => ∃ (k : Str) (v : V), vs = [.str k, v] ∧ Q (if isFix k = true then v else .non) H
def sp_row_of (K : PySem.W.Frag) : Sp := fun vs H Q _ => ∃ (a : Addr) (ts : List Sl), vs = [.ref a] ∧ Tr H (.ref a) (slsT ts) ∧ ts.length ≤ 1000 ∧ ∀ q H', Same H H' → H q = none → Tr H' (.ref q) (rowD ts) → Q (.ref q) H'
def sp_Shapes_number_of (K : PySem.W.Frag) (w : World) : Sp := fun vs H Q _ => ∃ (p dx lr nr wr : Addr) (u : Int) (as : List Addr) (Rs : List PyData) (ws : List NEnt) (q : Addr) (ts : List Sl), vs = [.ref p, .ref q] ∧
  Sh K w H p dx lr nr wr u as Rs ws ∧ Tr H (.ref q) (rowD ts) ∧ SlG ts ∧ Rs.length ≤ 100000 ∧
  ∀ (as' : List Addr) (Rs' : List PyData) (j : Nat) H', (∀ b, b ≠ lr → b ≠ nr → H' b = H b) → Sh K w H' p dx lr nr wr u as' Rs' ws → Ext Rs (rowD ts) Rs' → Rs'[j]? = some (rowD ts) → Q (.int (j : Int)) H'
def sp_Shapes_init (K : PySem.W.Frag) (w : World) : Sp := fun vs H Q _ => ∃ (p dx : Addr), vs = [.ref p] ∧ H p = some (.ins (ShC K) dx []) ∧
  ∀ lr nr wr q H', (∀ b o, b ≠ p → H b = some o → H' b = some o) → H lr = none → H nr = none → H wr = none → Sh K w H' p dx lr nr wr 0 [q] [rowD []] [] → Q .non H'
def sp_Shapes_shape_of (K : PySem.W.Frag) (w : World) : Sp := fun vs H Q _ => ∃ (p dx lr nr wr : Addr) (u : Int) (as : List Addr) (Rs : List PyData) (ws : List NEnt) (a : Addr) (ts : List Sl), vs = [.ref p, .ref a] ∧ Sh K w H p dx lr nr wr u as Rs ws ∧ Tr H (.ref a) (slsT ts) ∧ SlG ts ∧ Rs.length ≤ 100000 ∧
  ∀ (as' : List Addr) (Rs' : List PyData) (j : Nat) H', KS lr nr H H' → Sh K w H' p dx lr nr wr u as' Rs' ws → Ext Rs (rowD ts) Rs' → Rs'[j]? = some (rowD ts) → Q (.int (j : Int)) H'
def sp_Shapes_row (K : PySem.W.Frag) (w : World) : Sp := fun vs H Q _ => ∃ (p dx lr nr wr : Addr) (u : Int) (as : List Addr) (Rs : List PyData) (ws : List NEnt) (j : Nat) (D : PyData), vs = [.ref p, .int (j : Int)] ∧ Sh K w H p dx lr nr wr u as Rs ws ∧ Rs[j]? = some D ∧ ∀ a, Tr H (.ref a) D → Q (.ref a) H
def sp_Shapes_count (K : PySem.W.Frag) (w : World) : Sp := fun vs H Q _ => ∃ (p dx lr nr wr : Addr) (u : Int) (as : List Addr) (Rs : List PyData) (ws : List NEnt), vs = [.ref p] ∧ Sh K w H p dx lr nr wr u as Rs ws ∧ Q (.int (Rs.length : Int)) H
def sp_Shapes_place (K : PySem.W.Frag) (w : World) : Sp := fun vs H Q _ => ∃ (p dx lr nr wr : Addr) (u : Int) (as : List Addr) (Rs : List PyData) (ws : List NEnt) (j : Nat) (x : Str) (ts : List Sl), vs = [.ref p, .int (j : Int), .str x] ∧ Sh K w H p dx lr nr wr u as Rs ws ∧ Rs[j]? = some (slsT ts) ∧
  ∀ H', Same H H' → Q (.int (placeF ts x 0)) H'
def sp_Shapes_parents (K : PySem.W.Frag) (w : World) : Sp := fun vs H Q _ => ∃ (p dx lr nr wr : Addr) (u : Int) (as : List Addr) (Rs : List PyData) (ws : List NEnt) (j : Nat) (ts : List Sl), vs = [.ref p, .int (j : Int)] ∧ Sh K w H p dx lr nr wr u as Rs ws ∧ Rs[j]? = some (slsT ts) ∧ ts.length ≤ 1000 ∧
  ∀ q H', Same H H' → H q = none → H' q = some (.tup ((ixF isPr ts 0).map V.int)) → Q (.ref q) H'
def sp_Shapes_free_parents (K : PySem.W.Frag) (w : World) : Sp := fun vs H Q _ => ∃ (p dx lr nr wr : Addr) (u : Int) (as : List Addr) (Rs : List PyData) (ws : List NEnt) (j : Nat) (ts : List Sl), vs = [.ref p, .int (j : Int)] ∧ Sh K w H p dx lr nr wr u as Rs ws ∧ Rs[j]? = some (slsT ts) ∧ ts.length ≤ 1000 ∧
  ∀ q H', Same H H' → H q = none → H' q = some (.tup ((ixF isVp ts 0).map V.int)) → Q (.ref q) H'
/-! ### readings -/

def ns_fixed_value : List Str := ["kind", "value"]
def t_fixed_value (K : PySem.W.Frag) (E : XK) : TS :=
  (tRet (tIf (tTest (tOp (rIn K false) (tVar 0) (tC (.ref (He.ga K ("FIXED" : Str)))))) (tVar 1) (tC .non)))

def ns_row_of : List Str := ["slots", "name", "kind", "value"]
def t_row_of (K : PySem.W.Frag) (E : XK) : TS :=
  (tRet (tCB (rTupleOf K) (tCons (tLc (iTup K (tVar 0)) (gTup K 3 (gCons (gName 1) (gCons (gName 2) (gCons (gName 3) gNil)))) tYes (tTup (tCons (tVar 1) (tCons (tVar 2) (tCons (tCall (sp_fixed_value K) [] E0 (tCons (tVar 2) (tCons (tVar 3) tNil))) tNil)))) [1, 2, 3]) tNil)))

def ns_Shapes_number_of : List Str := ["self", "row"]
def t_Shapes_number_of (K : PySem.W.Frag) (w : World) (E : XK) : TS :=
  (tSeq (tIfS (tB (tNNotIn w (tVar 1) (tFld K (tVar 0) ("numbers" : Str))))
      (tSeq (sNPut w (tFld K (tVar 0) ("numbers" : Str)) (tVar 1) (tCB (rLen K) (tCons (tFld K (tVar 0) ("rows" : Str)) tNil)))
    (tDrop (tBM K "list" rAppend (tFld K (tVar 0) ("rows" : Str)) (tCons (tVar 1) tNil))))
      tNext)
    (tRet (tNGet w (tFld K (tVar 0) ("numbers" : Str)) (tVar 1))))

def ns_Shapes_init : List Str := ["self"]
def t_Shapes_init (K : PySem.W.Frag) (w : World) (E : XK) : TS :=
  (tSeq (sFld K (tVar 0) (tC (.int 0)) ("ways_used" : Str))
    (tSeq (sFld K (tVar 0) (tLst tNil) ("rows" : Str))
    (tSeq (sFld K (tVar 0) (tNNew w) ("numbers" : Str))
    (tSeq (sFld K (tVar 0) (tNNew w) ("ways" : Str))
    (tDrop (tMeth (He.ga K ("Shapes" : Str)) ("number_of" : Str) (sp_Shapes_number_of K w) [] E (tVar 0) (tCons (tTup tNil) tNil)))))))

def ns_Shapes_shape_of : List Str := ["self", "slots"]
def t_Shapes_shape_of (K : PySem.W.Frag) (w : World) (E : XK) : TS :=
  (tRet (tMeth (He.ga K ("Shapes" : Str)) ("number_of" : Str) (sp_Shapes_number_of K w) [] E (tVar 0) (tCons (tCall (sp_row_of K) [] E (tCons (tVar 1) tNil)) tNil)))

def ns_Shapes_row : List Str := ["self", "shape"]
def t_Shapes_row (K : PySem.W.Frag) (w : World) (E : XK) : TS :=
  (tRet (tOp (rIxL K) (tFld K (tVar 0) ("rows" : Str)) (tVar 1)))

def ns_Shapes_count : List Str := ["self"]
def t_Shapes_count (K : PySem.W.Frag) (w : World) (E : XK) : TS :=
  (tRet (tCB (rLen K) (tCons (tFld K (tVar 0) ("rows" : Str)) tNil)))

def ns_Shapes_place : List Str := ["self", "shape", "name", "at", "slot"]
def t_Shapes_place (K : PySem.W.Frag) (w : World) (E : XK) : TS :=
  (tSeq (tFor (iEnumT K (tCons (tOp (rIxL K) (tFld K (tVar 0) ("rows" : Str)) (tVar 1)) tNil)) (gTup K 2 (gCons (gName 3) (gCons (gName 4) gNil)))
      (tIfS (tTest (tOp rEq (tOp (rIxT K) (tVar 4) (tC (.int 0))) (tVar 2)))
      (tRet (tVar 3))
      tNext))
    (tRet (tUn rNegI (tC (.int 1)))))

def ns_Shapes_parents : List Str := ["self", "shape", "at", "slot"]
def t_Shapes_parents (K : PySem.W.Frag) (w : World) (E : XK) : TS :=
  (tRet (tCB (rTupleOf K) (tCons (tLc (iEnumT K (tCons (tOp (rIxL K) (tFld K (tVar 0) ("rows" : Str)) (tVar 1)) tNil)) (gTup K 2 (gCons (gName 2) (gCons (gName 3) gNil))) (tTest (tOp (rIn K false) (tOp (rIxT K) (tVar 3) (tC (.int 1))) (tC (.ref (He.ga K ("PARENT_KINDS" : Str)))))) (tVar 2) [2, 3]) tNil)))

def ns_Shapes_free_parents : List Str := ["self", "shape", "at", "slot"]
def t_Shapes_free_parents (K : PySem.W.Frag) (w : World) (E : XK) : TS :=
  (tRet (tCB (rTupleOf K) (tCons (tLc (iEnumT K (tCons (tOp (rIxL K) (tFld K (tVar 0) ("rows" : Str)) (tVar 1)) tNil)) (gTup K 2 (gCons (gName 2) (gCons (gName 3) gNil))) (tTest (tOp rEq (tOp (rIxT K) (tVar 3) (tC (.int 1))) (tC (.str ("varparent" : Str))))) (tVar 2) [2, 3]) tNil)))

section
variable {K : PySem.W.Frag} {w : World} {vs : List V} {H : Hp} {Q : VK} {E : XK}
/-! ### fields -/
theorem neUR : ¬ (("ways_used" : Str) = "rows") := by decide +kernel
theorem neUN : ¬ (("ways_used" : Str) = "numbers") := by decide +kernel
theorem neUW : ¬ (("ways_used" : Str) = "ways") := by decide +kernel
theorem neRN : ¬ (("rows" : Str) = "numbers") := by decide +kernel
theorem neRW : ¬ (("rows" : Str) = "ways") := by decide +kernel
theorem neNW : ¬ (("numbers" : Str) = "ways") := by decide +kernel
section
variable {lr nr wr : Addr} {i j : Int}
theorem shF_u : (shF lr nr wr i).lookup ("ways_used" : Str) = some (.int i) := lk_eq
theorem shF_r : (shF lr nr wr i).lookup ("rows" : Str) = some (.ref lr) := by
  unfold shF
  rw [lk_ne (fun e => neUR e.symm), lk_eq]
theorem shF_n : (shF lr nr wr i).lookup ("numbers" : Str) = some (.ref nr) := by
  unfold shF
  rw [lk_ne (fun e => neUN e.symm), lk_ne (fun e => neRN e.symm), lk_eq]
theorem shF_w : (shF lr nr wr i).lookup ("ways" : Str) = some (.ref wr) := by
  unfold shF
  rw [lk_ne (fun e => neUW e.symm), lk_ne (fun e => neRW e.symm), lk_ne (fun e => neNW e.symm), lk_eq]
theorem shF_no {m : Str} (h1 : ¬ m = "ways_used") (h2 : ¬ m = "rows") (h3 : ¬ m = "numbers") (h4 : ¬ m = "ways") : (shF lr nr wr i).lookup m = none := by
  unfold shF
  rw [lk_ne h1, lk_ne h2, lk_ne h3, lk_ne h4]
  rfl
theorem shF_put : putF ("ways_used" : Str) (.int j) (shF lr nr wr i) = shF lr nr wr j := by
  unfold shF
  rw [pf_eq]
theorem shF_init : putF ("ways" : Str) (.ref wr) (putF ("numbers" : Str) (.ref nr) (putF ("rows" : Str) (.ref lr) (putF ("ways_used" : Str) (.int i) []))) = shF lr nr wr i := by
  rw [pf_nil, pf_ne neUR, pf_nil, pf_ne neUN, pf_ne neRN, pf_nil, pf_ne neUW, pf_ne neRW, pf_ne neNW, pf_nil]
  rfl
end
/-! ### data in the heap -/
theorem trp_of : ∀ {us : List V} {ts : List Sl}, Trs H us (ts.map slT) → TrpR H us ts
  | _, [], h => by
    cases h
    exact .nil
  | _, s :: ts, h => by
    cases h with
    | cons h1 r =>
      cases h1 with
      | tup h2 r2 =>
        cases r2 with
        | cons a1 r2 =>
          cases r2 with
          | cons a2 r2 =>
            cases r2 with
            | cons a3 r2 =>
              cases r2
              cases a1
              cases a2
              exact .cons h2 a3 (trp_of r)
theorem trs_of : ∀ {us : List V} {ts : List Sl}, TrpR H us ts → Trs H us (ts.map slT)
  | _, [], .nil => .nil
  | _, _ :: _, .cons h t r => .cons (.tup h (.cons (.str _) (.cons (.str _) (.cons t .nil)))) (trs_of r)
theorem sls_open {a : Addr} {ts : List Sl} (h : Tr H (.ref a) (slsT ts)) : ∃ us, H a = some (.tup us) ∧ TrpR H us ts := by
  cases h with
  | tup h r => exact ⟨_, h, trp_of r⟩
theorem sls_make {a : Addr} {us : List V} {ts : List Sl} (h : H a = some (.tup us)) (r : TrpR H us ts) : Tr H (.ref a) (slsT ts) := .tup h (trs_of r)
theorem Trs.at_ : ∀ {vs : List V} {ds : List PyData} (i : Nat) {d : PyData}, Trs H vs ds → ds[i]? = some d → ∃ v, vs[i]? = some v ∧ Tr H v d
  | _, _, _, _, .nil, e => by simp at e
  | _, _, 0, _, .cons h r, e => by
    cases e
    exact ⟨_, rfl, h⟩
  | _, _, i + 1, _, .cons h r, e => Trs.at_ i r (by simpa using e)
theorem Trs.len : ∀ {vs : List V} {ds : List PyData}, Trs H vs ds → vs.length = ds.length
  | _, _, .nil => rfl
  | _, _, .cons _ r => congrArg Nat.succ (Trs.len r)
theorem vg_non : VG .none := ⟨rfl, rfl, Nat.zero_le _, Nat.zero_le _⟩
theorem fix_vg {k : Str} {d : PyData} (h : VG d) : VG (fixV k d) := by
  unfold fixV
  split
  · exact h
  · exact vg_non
theorem rw_sg {s : Sl} (h : SG s) : SG (rwS s) := ⟨h.nm, h.kd, fix_vg h.vl⟩
theorem rw_slg {ts : List Sl} (h : SlG ts) : SlG (ts.map rwS) := ⟨fun s hs => by
  obtain ⟨t, ht, rfl⟩ := List.mem_map.mp hs
  exact rw_sg (h.all t ht), by rw [List.length_map]; exact h.len⟩
theorem slT_pl {s : Sl} (h : SG s) : plD (slT s) = true := by simp [slT, plD, plAll, h.vl.pl]
theorem slT_lay {s : Sl} (h : SG s) : PyData.canLay0 (slT s) = true := by simp [slT, PyData.canLay0, PyData.canLayAll0, h.nm, h.kd, h.vl.lay]
theorem slT_dep {s : Sl} (h : SG s) : PyData.depth (slT s) ≤ 2 := by
  have := h.vl.dep
  simp [slT, PyData.depth, PyData.depthAll]
  omega
theorem slT_nd {s : Sl} (h : SG s) : (nk (slT s)).depth ≤ 2 := by
  have := h.vl.nd
  simp [slT, nk, nkAll, NestedKey.depth, NestedKey.depthAll]
  omega
theorem sls_all : ∀ {ts : List Sl}, (∀ s ∈ ts, SG s) → plAll (ts.map slT) = true ∧ PyData.canLayAll0 (ts.map slT) = true ∧ PyData.depthAll (ts.map slT) ≤ 2 ∧ NestedKey.depthAll (nkAll (ts.map slT)) ≤ 2
  | [], _ => ⟨rfl, rfl, Nat.zero_le _, Nat.zero_le _⟩
  | s :: ts, h => by
    obtain ⟨a, b, c, d⟩ := sls_all fun t ht => h t (List.mem_cons_of_mem _ ht)
    have hs := h s List.mem_cons_self
    refine ⟨?_, ?_, ?_, ?_⟩
    · simp [plAll, slT_pl hs, a]
    · simp [PyData.canLayAll0, slT_lay hs, b]
    · have := slT_dep hs
      simp [PyData.depthAll]
      omega
    · have := slT_nd hs
      simp [nkAll, NestedKey.depthAll]
      omega
theorem sls_pl {ts : List Sl} (h : ∀ s ∈ ts, SG s) : plD (slsT ts) = true := by
  simp only [slsT, plD]
  exact (sls_all h).1
theorem sls_sh {ts : List Sl} (h : ∀ s ∈ ts, SG s) : SeqAt.shaped (slsT ts) = true := by
  obtain ⟨a, b, c, d⟩ := sls_all h
  simp [SeqAt.shaped, slsT, PyData.canLay0, PyData.depth, b]
  omega
theorem sls_nd {ts : List Sl} (h : ∀ s ∈ ts, SG s) : (nk (slsT ts)).depth ≤ 3 := by
  obtain ⟨a, b, c, d⟩ := sls_all h
  simp [slsT, nk, NestedKey.depth]
  omega
/-! ### numbers of rows -/
theorem num_no : ∀ {Rs : List PyData} {as : List Addr} {i : Nat} {D : PyData}, plD D = true → (∀ e ∈ Rs, plD e = true) → D ∉ Rs → valN (numF i as Rs) (nk D) = none
  | [], as, i, D, _, _, _ => by cases as <;> rfl
  | e :: Rs, [], i, D, _, _, _ => rfl
  | e :: Rs, a :: as, i, D, hd, he, hn => by
    have c : ¬ nk e = nk D := fun z => hn (by rw [nk_inj e D (he e List.mem_cons_self) hd z]; exact List.mem_cons_self)
    have := num_no (as := as) (i := i + 1) hd (fun f hf => he f (List.mem_cons_of_mem _ hf)) fun z => hn (List.mem_cons_of_mem _ z)
    unfold valN at this ⊢
    simp only [numF, List.find?_cons, decide_eq_false c]
    exact this
theorem num_at : ∀ {Rs : List PyData} {as : List Addr} {i j : Nat} {D : PyData}, as.length = Rs.length → (∀ e ∈ Rs, plD e = true) → Rs.Nodup → Rs[j]? = some D → valN (numF i as Rs) (nk D) = some (.int ((i + j : Nat) : Int))
  | [], as, i, j, D, _, _, _, h => by simp at h
  | e :: Rs, [], i, j, D, hl, _, _, _ => by simp at hl
  | e :: Rs, a :: as, i, 0, D, hl, he, nd, h => by
    cases h
    unfold valN
    simp [numF, List.find?_cons]
  | e :: Rs, a :: as, i, j + 1, D, hl, he, nd, h => by
    have h : Rs[j]? = some D := by simpa using h
    have hD := List.mem_of_getElem? h
    obtain ⟨n1, n2⟩ := List.nodup_cons.mp nd
    have c : ¬ nk e = nk D := fun z => n1 (by rw [nk_inj e D (he e List.mem_cons_self) (he D (List.mem_cons_of_mem _ hD)) z]; exact hD)
    have := num_at (as := as) (i := i + 1) (by simpa using hl) (fun f hf => he f (List.mem_cons_of_mem _ hf)) n2 h
    unfold valN at this ⊢
    simp only [numF, List.find?_cons, decide_eq_false c]
    rw [this]
    congr 2
    omega
theorem num_snoc : ∀ {Rs : List PyData} {as : List Addr} {i : Nat} {D : PyData} {a : Addr}, as.length = Rs.length → numF i (as ++ [a]) (Rs ++ [D]) = numF i as Rs ++ [(nk D, a, .int ((i + Rs.length : Nat) : Int))]
  | [], [], i, D, a, _ => by simp [numF]
  | [], b :: as, i, D, a, h => by simp at h
  | e :: Rs, [], i, D, a, h => by simp at h
  | e :: Rs, b :: as, i, D, a, h => by
    have := num_snoc (i := i + 1) (D := D) (a := a) (as := as) (Rs := Rs) (by simpa using h)
    simp only [List.cons_append, numF, this]
    congr 5
    simp
    omega
theorem num_len : ∀ {Rs : List PyData} {as : List Addr} {i : Nat}, as.length = Rs.length → (numF i as Rs).length = Rs.length
  | [], [], i, _ => rfl
  | [], b :: as, i, h => by simp at h
  | e :: Rs, [], i, h => by simp at h
  | e :: Rs, b :: as, i, h => by simp [numF, num_len (i := i + 1) (as := as) (Rs := Rs) (by simpa using h)]
theorem num_keys : ∀ {Rs : List PyData} {as : List Addr} {i : Nat}, Trs H (as.map V.ref) Rs → (∀ D ∈ Rs, (nk D).depth ≤ 8) → KeysN H (numF i as Rs)
  | [], as, i, _, _ => by cases as <;> exact fun p hp => by cases hp
  | e :: Rs, [], i, _, _ => fun p hp => by cases hp
  | e :: Rs, a :: as, i, t, hd => fun p hp => by
    cases t with
    | cons h r =>
      rcases List.mem_cons.mp hp with rfl | hp
      · exact ⟨e, h, rfl, hd e List.mem_cons_self⟩
      · exact num_keys (i := i + 1) r (fun D hD => hd D (List.mem_cons_of_mem _ hD)) p hp
section
variable {p dx lr nr wr : Addr} {u : Int} {as : List Addr} {Rs : List PyData} {ws : List NEnt} {H' : Hp}
theorem Sh.la (h : Sh K w H p dx lr nr wr u as Rs ws) : as.length = Rs.length := by
  have := Trs.len h.dat
  rw [List.length_map] at this
  exact this
theorem Sh.pls (h : Sh K w H p dx lr nr wr u as Rs ws) : ∀ D ∈ Rs, plD D = true := fun D hD => by
  obtain ⟨ts, rfl, g⟩ := h.rk D hD
  exact sls_pl (rw_slg g).all
theorem Sh.nds (h : Sh K w H p dx lr nr wr u as Rs ws) : ∀ D ∈ Rs, (nk D).depth ≤ 8 := fun D hD => by
  obtain ⟨ts, rfl, g⟩ := h.rk D hD
  exact Nat.le_trans (sls_nd (rw_slg g).all) (by decide)
theorem Sh.nk (h : Sh K w H p dx lr nr wr u as Rs ws) : KeysN H (numF 0 as Rs) := num_keys h.dat h.nds
/-- what else changes -/
theorem Sh.keep (h : Sh K w H p dx lr nr wr u as Rs ws) (h1 : H' p = H p) (h2 : H' lr = H lr) (h3 : H' nr = H nr) (h4 : H' wr = H wr) (k : TK H H') : Sh K w H' p dx lr nr wr u as Rs ws :=
  ⟨h1.trans h.ins, h2.trans h.rows, h.dat.keep k, h3.trans h.num, h4.trans h.way, h.wk.keep k, h.ne, h.rk, h.nd⟩
theorem Sh.same (h : Sh K w H p dx lr nr wr u as Rs ws) (s : Same H H') : Sh K w H' p dx lr nr wr u as Rs ws :=
  ⟨s _ _ h.ins, s _ _ h.rows, h.dat.keep fun a xs z => s a _ z, s _ _ h.num, s _ _ h.way, h.wk.keep fun a xs z => s a _ z, h.ne, h.rk, h.nd⟩
theorem dn_ne {a b : Addr} {kvs : List NEnt} {o : HO} (h : H a = some (dnO w a kvs)) (h2 : H b = some o) (n : ∀ φ, o ≠ .ext φ) : b ≠ a := fun e => by
  subst e
  rw [h] at h2
  cases h2
  exact n _ rfl
theorem Sh.tk (h : Sh K w H p dx lr nr wr u as Rs ws) (k : ∀ b, b ≠ lr → b ≠ nr → H' b = H b) : TK H H' := fun a xs e =>
  (k a (ne_of e h.rows (by intro z; cases z)) (dn_ne h.num e (by intro φ z; cases z))).trans e
theorem Sh.ks (h : Sh K w H p dx lr nr wr u as Rs ws) (k : KS lr nr H H') : TK H H' := fun a xs e =>
  k a _ (ne_of e h.rows (by intro z; cases z)) (dn_ne h.num e (by intro φ z; cases z)) e
end
/-! ### runs -/
theorem run_fixed_value (hf : ∀ H, SqT K H (He.ga K ("FIXED" : Str)) (fixM.map mS)) (h : sp_fixed_value K vs H Q E) : t_fixed_value K E (DQ Q) (start ns_fixed_value vs) H := by
  obtain ⟨k, v, rfl, q⟩ := h
  refine ⟨_, rfl, _, _, rfl, .inr (hf H), rfl, (by decide +kernel), _, rfl, ?_⟩
  have e : inV (.str k) (fixM.map mS) = isFix k := by
    rw [show fixM.map mS = [("const" : Str), ("method" : Str), ("parent" : Str)].map V.str from rfl, in_strs]
    unfold isFix
    rw [Bool.eq_iff_iff]
    simp [or_assoc]
  show (if inV (.str k) (fixM.map mS) = true then _ else _)
  rw [e]
  by_cases c : isFix k = true
  · rw [if_pos c] at q ⊢
    exact ⟨_, rfl, q⟩
  · rw [if_neg c] at q ⊢
    exact q
theorem rowD_take {ts : List Sl} {i : Nat} {s : Sl} (h : ts[i]? = some s) : (ts.take (i + 1)).map rwS = (ts.take i).map rwS ++ [rwS s] := by
  rw [List.take_add_one, h, List.map_append]
  rfl
theorem run_row_of (h : sp_row_of K vs H Q E) : t_row_of K E (DQ Q) (start ns_row_of vs) H := by
  obtain ⟨a, ts, rfl, t, hl, q⟩ := h
  obtain ⟨us, hu, tr⟩ := sls_open t
  have lu := tr.len
  refine ⟨_, rfl, a, rfl, ⟨_, SqT.of hu⟩, fun D nD => ?_⟩
  refine lc_it (walk_tup (xs := us)) (fun i G => ∃ acc, Same H G ∧ G D = some (.lst acc) ∧ TrpR G acc ((ts.take i).map rwS)) ⟨[], same_upd nD, upd_same, .nil⟩ (fun i G _ ⟨acc, s1, _⟩ => SqT.of (s1 _ _ hu)) ?_ ?_
  · rintro i x G G' hi ⟨acc, s1, g1, r1⟩ ⟨rfl, hx⟩
    obtain ⟨s, t1, v, es, rfl, ht, tv⟩ := tr.at_ i hx
    have ht1 := s1 _ _ ht
    refine ⟨t1, _, rfl, SqT.of ht1, rfl, _, _, rfl, _, _, rfl, _, _, rfl, rfl, rfl, ?_⟩
    refine ⟨_, rfl, _, rfl, _, rfl, _, rfl, s.kind, v, rfl, ?_⟩
    refine ⟨(by show 3 ≤ sizeLine; decide), fun t2 n2 => ?_⟩
    have tf : Tr G' (if isFix s.kind = true then v else V.non) (fixV s.kind s.val) := by
      unfold fixV
      by_cases c : isFix s.kind = true
      · rw [if_pos c, if_pos c]
        exact tv.keep fun b xs e => s1 b _ e
      · rw [if_neg c, if_neg c]
        exact .non
    revert n2 tf
    generalize (if isFix s.kind = true then v else V.non) = fv
    intro n2 tf
    have s2 := same_upd (o := .tup [V.str s.name, V.str s.kind, fv]) n2
    have g2 := s2 _ _ g1
    have la := r1.len
    rw [List.length_map, List.length_take] at la
    refine ⟨acc, g2, Nat.lt_of_le_of_lt (show acc.length ≤ 1000 by omega) (by decide), acc ++ [.ref t2], fun b o e => ?_, upd_same, ?_⟩
    · rw [upd_ne (ne_of_none e nD)]
      exact s2 b o (s1 b o e)
    · rw [rowD_take es]
      have tk : TK (upd G' t2 (.tup [V.str s.name, V.str s.kind, fv])) (upd (upd G' t2 (.tup [V.str s.name, V.str s.kind, fv])) D (.lst (acc ++ [.ref t2]))) := fun b xs e => by
        rw [upd_ne (ne_of e g2 (by intro z; cases z))]
        exact e
      refine TrpR.snoc (tk _ _ upd_same) ?_ ((r1.keep fun b xs e => s2 b _ e).keep tk)
      exact (tf.keep fun b xs e => s2 b _ e).keep tk
  · rintro G ⟨acc, s1, g1, r1⟩
    rw [List.take_of_length_le (by omega)] at r1
    refine ⟨D, acc, rfl, .inl ⟨SqL.of g1, fun l nl => ?_⟩⟩
    have s2 := same_upd (o := .tup acc) nl
    exact q l _ (s1.trans s2) (Same.free s1 nl) (sls_make upd_same (r1.keep fun b xs e => s2 b _ e))
theorem shaped_row {ts : List Sl} (g : SlG ts) : SeqAt.shaped (rowD ts) = true := sls_sh (rw_slg g).all
theorem row_dp {ts : List Sl} (g : SlG ts) : (nk (rowD ts)).depth ≤ 8 := Nat.le_trans (sls_nd (rw_slg g).all) (by decide)
theorem run_Shapes_number_of (C : ShK K) (h : sp_Shapes_number_of K w vs H Q E) : t_Shapes_number_of K w E (DQ Q) (start ns_Shapes_number_of vs) H := by
  obtain ⟨p, dx, lr, nr, wr, u, as, Rs, ws, q, ts, rfl, S, t, g, hl, fin⟩ := h
  have dp := row_dp g
  have pl : plD (rowD ts) = true := sls_pl (rw_slg g).all
  refine ⟨_, rfl, _, rfl, p, _, dx, _, _, rfl, S.ins, C.cl, C.nn, shF_n, nr, _, rfl, ⟨_, rowD ts, q, S.num, S.nk, rfl, t, dp, rfl⟩, _, rfl, ?_⟩
  by_cases c : rowD ts ∈ Rs
  · obtain ⟨j, hj⟩ := List.mem_iff_getElem?.mp c
    have e := num_at (i := 0) (j := j) S.la S.pls S.nd hj
    rw [e]
    refine iteF ?_
    refine ⟨_, rfl, p, _, dx, _, _, rfl, S.ins, C.cl, C.nn, shF_n, _, rfl, nr, _, rfl, ⟨_, rowD ts, q, S.num, S.nk, rfl, t, dp, e.symm⟩, ?_⟩
    rw [Nat.zero_add]
    exact fin as Rs j H (fun _ _ _ => rfl) S (.inl ⟨c, rfl⟩) hj
  · have e := num_no (as := as) (i := 0) pl S.pls c
    rw [e]
    refine iteT ?_
    have ln := num_len (i := 0) S.la
    have big : ∀ n, n ≤ 100000 → n < sizeLine := fun n h => Nat.lt_of_le_of_lt h (by decide)
    refine ⟨_, rfl, p, _, dx, _, _, rfl, S.ins, C.cl, C.nr, shF_r, _, _, rfl, .inl ⟨_, SqL.of S.rows, rfl⟩, ?_⟩
    refine ⟨_, rfl, p, _, dx, _, _, rfl, S.ins, C.cl, C.nn, shF_n, _, rfl, nr, _, rfl, ⟨_, rowD ts, q, S.num, S.nk, rfl, t, dp, e, big _ (by rw [ln]; exact hl), rfl⟩, ?_⟩
    have nln : lr ≠ nr := dn_ne S.num S.rows (by intro φ z; cases z)
    have npn : p ≠ nr := dn_ne S.num S.ins (by intro φ z; cases z)
    have npl : p ≠ lr := ne_of S.ins S.rows (by intro z; cases z)
    have nwl : wr ≠ lr := Ne.symm (dn_ne S.way S.rows (by intro φ z; cases z))
    rw [List.length_map, S.la]
    have i1 : (upd H nr (dnO w nr (numF 0 as Rs ++ [(nk (rowD ts), q, V.int (Rs.length : Int))]))) p = _ := (upd_ne npn).trans S.ins
    have r1 : (upd H nr (dnO w nr (numF 0 as Rs ++ [(nk (rowD ts), q, V.int (Rs.length : Int))]))) lr = _ := (upd_ne nln).trans S.rows
    refine ⟨_, rfl, p, _, dx, _, _, rfl, i1, C.cl, C.nr, shF_r, .inl ⟨rfl, _, SqL.of r1⟩, _, rfl, lr, _, _, rfl, rfl, r1, big _ (by rw [List.length_map, S.la]; exact hl), ?_⟩
    have st : ∀ b, b ≠ lr → b ≠ nr → (upd (upd H nr (dnO w nr (numF 0 as Rs ++ [(nk (rowD ts), q, V.int (Rs.length : Int))]))) lr (.lst (as.map V.ref ++ [.ref q]))) b = H b := fun b h1 h2 => by rw [upd_ne h1, upd_ne h2]
    have tk := S.tk st
    have es := num_snoc (i := 0) (D := rowD ts) (a := q) S.la
    rw [Nat.zero_add] at es
    have S2 : Sh K w (upd (upd H nr (dnO w nr (numF 0 as Rs ++ [(nk (rowD ts), q, V.int (Rs.length : Int))]))) lr (.lst (as.map V.ref ++ [.ref q]))) p dx lr nr wr u (as ++ [q]) (Rs ++ [rowD ts]) ws := by
      refine ⟨(st p npl npn).trans S.ins, ?_, ?_, ?_, (st wr nwl (Ne.symm S.ne)).trans S.way, S.wk.keep tk, S.ne, fun D hD => ?_, ?_⟩
      · rw [upd_same, List.map_append]
        rfl
      · rw [List.map_append]
        exact Trs.snoc (t.keep tk) (S.dat.keep tk)
      · rw [upd_ne (Ne.symm nln), upd_same, es]
      · rcases List.mem_append.mp hD with hD | hD
        · exact S.rk D hD
        · exact ⟨ts, List.mem_singleton.mp hD, g⟩
      · rw [List.nodup_append]
        exact ⟨S.nd, by simp, fun x hx y hy z => c (by rw [List.mem_singleton.mp hy] at z; rw [← z]; exact hx)⟩
    have hj : (Rs ++ [rowD ts])[Rs.length]? = some (rowD ts) := by simp
    have e2 := num_at (i := 0) (j := Rs.length) S2.la S2.pls S2.nd hj
    refine ⟨_, rfl, p, _, dx, _, _, rfl, S2.ins, C.cl, C.nn, shF_n, _, rfl, nr, _, rfl, ⟨_, rowD ts, q, S2.num, S2.nk, rfl, t.keep tk, dp, e2.symm⟩, ?_⟩
    rw [Nat.zero_add]
    exact fin _ _ _ _ st S2 (.inr ⟨c, rfl⟩) hj
theorem run_Shapes_init (C : ShK K) (h : sp_Shapes_init K w vs H Q E) : t_Shapes_init K w E (DQ Q) (start ns_Shapes_init vs) H := by
  obtain ⟨p, dx, rfl, hp, fin⟩ := h
  refine ⟨_, rfl, p, _, dx, _, rfl, hp, C.cl, C.nu, (by show 0 < 1000; decide), ?_⟩
  refine ⟨(by show 0 ≤ sizeLine; decide), fun lr nl => ?_⟩
  have n1 : p ≠ lr := ne_of_none upd_same nl
  refine ⟨_, rfl, p, _, dx, _, rfl, (upd_ne n1).trans upd_same, C.cl, C.nr, (by rw [pf_nil]; show 1 < 1000; decide), fun nr nn => ?_⟩
  have n2 : p ≠ nr := ne_of_none upd_same nn
  have n3 : lr ≠ nr := ne_of_none ((upd_ne (Ne.symm n1)).trans upd_same) nn
  refine ⟨_, rfl, p, _, dx, _, rfl, (upd_ne n2).trans upd_same, C.cl, C.nn, (by rw [pf_nil, pf_ne neUR, pf_nil]; show 2 < 1000; decide), fun wr nw => ?_⟩
  have n4 : p ≠ wr := ne_of_none upd_same nw
  have n5 : nr ≠ wr := ne_of_none ((upd_ne (Ne.symm n2)).trans upd_same) nw
  have n6 : lr ≠ wr := ne_of_none ((upd_ne (Ne.symm n1)).trans ((upd_ne n3).trans ((upd_ne (Ne.symm n1)).trans upd_same))) nw
  refine ⟨_, rfl, p, _, dx, _, rfl, (upd_ne n4).trans upd_same, C.cl, C.nw, (by rw [pf_nil, pf_ne neUR, pf_nil, pf_ne neUN, pf_ne neRN, pf_nil]; show 3 < 1000; decide), ?_⟩
  rw [shF_init]
  have fl : H lr = none := by rw [upd_ne (Ne.symm n1)] at nl; exact nl
  have fn : H nr = none := by rw [upd_ne (Ne.symm n2), upd_ne (Ne.symm n3), upd_ne (Ne.symm n2)] at nn; exact nn
  have fw : H wr = none := by rw [upd_ne (Ne.symm n4), upd_ne (Ne.symm n5), upd_ne (Ne.symm n4), upd_ne (Ne.symm n6), upd_ne (Ne.symm n4)] at nw; exact nw
  generalize hG : (upd (upd (upd (upd (upd (upd (upd H p _) lr _) p _) nr _) p _) wr _) p _) = G
  have G1 : G p = some (.ins (ShC K) dx (shF lr nr wr 0)) := by rw [← hG, upd_same]
  have G2 : G lr = some (.lst []) := by rw [← hG, upd_ne (Ne.symm n1), upd_ne n6, upd_ne (Ne.symm n1), upd_ne n3, upd_ne (Ne.symm n1), upd_same]
  have G3 : G nr = some (dnO w nr []) := by rw [← hG, upd_ne (Ne.symm n2), upd_ne n5, upd_ne (Ne.symm n2), upd_same]
  have G4 : G wr = some (dnO w wr []) := by rw [← hG, upd_ne (Ne.symm n4), upd_same]
  have st : ∀ b o, b ≠ p → H b = some o → G b = some o := fun b o n z => by
    rw [← hG, upd_ne n, upd_ne (ne_of_none z fw), upd_ne n, upd_ne (ne_of_none z fn), upd_ne n, upd_ne (ne_of_none z fl), upd_ne n]
    exact z
  have S : Sh K w G p dx lr nr wr 0 [] [] [] := ⟨G1, G2, .nil, G3, G4, (fun x hx => by cases hx), n5, (fun x hx => by cases hx), List.nodup_nil⟩
  refine ⟨_, rfl, p, dx, _, rfl, G1, shF_no (by decide +kernel) (by decide +kernel) (by decide +kernel) (by decide +kernel), (by show 0 ≤ sizeLine; decide), fun q nq => ?_⟩
  have s1 := same_upd (o := .tup []) nq
  refine ⟨p, dx, lr, nr, wr, 0, [], [], [], q, [], rfl, S.same s1, .tup upd_same .nil, ⟨(fun x hx => by cases hx), Nat.zero_le _⟩, Nat.zero_le _, fun as' Rs' j H' e S' x hj => ?_⟩
  have eR : Rs' = [rowD []] := by
    rcases x with ⟨m, _⟩ | ⟨_, e⟩
    · cases m
    · exact e
  subst eR
  have la := S'.la
  obtain ⟨a, rfl⟩ : ∃ a, as' = [a] := by
    match as', la with
    | [a], _ => exact ⟨a, rfl⟩
  refine fin lr nr wr a H' (fun b o n z => ?_) fl fn fw S'
  rw [e b (ne_of_none z fl) (ne_of_none z fn)]
  exact s1 b o (st b o n z)
theorem KS.of_same {lr nr : Addr} {H H' : Hp} (s : Same H H') : KS lr nr H H' := fun b o _ _ z => s b o z
theorem KS.of_eq {lr nr : Addr} {H H' : Hp} (s : ∀ b, b ≠ lr → b ≠ nr → H' b = H b) : KS lr nr H H' := fun b o h1 h2 z => (s b h1 h2).trans z
theorem KS.trans {lr nr : Addr} {H H1 H2 : Hp} (a : KS lr nr H H1) (b : KS lr nr H1 H2) : KS lr nr H H2 := fun c o h1 h2 z => b c o h1 h2 (a c o h1 h2 z)
theorem run_Shapes_shape_of (C : ShK K) (h : sp_Shapes_shape_of K w vs H Q E) : t_Shapes_shape_of K w E (DQ Q) (start ns_Shapes_shape_of vs) H := by
  obtain ⟨p, dx, lr, nr, wr, u, as, Rs, ws, a, ts, rfl, S, t, g, hl, fin⟩ := h
  refine ⟨_, rfl, p, dx, _, rfl, S.ins, shF_no (by decide +kernel) (by decide +kernel) (by decide +kernel) (by decide +kernel), _, rfl, a, ts, rfl, t, g.len, fun q H1 s1 nq t1 => ?_⟩
  exact ⟨p, dx, lr, nr, wr, u, as, Rs, ws, q, ts, rfl, S.same s1, t1, g, hl, fun as' Rs' j H' e S' x hj => fin as' Rs' j H' ((KS.of_same s1).trans (KS.of_eq e)) S' x hj⟩
theorem run_Shapes_row (C : ShK K) (h : sp_Shapes_row K w vs H Q E) : t_Shapes_row K w E (DQ Q) (start ns_Shapes_row vs) H := by
  obtain ⟨p, dx, lr, nr, wr, u, as, Rs, ws, j, D, rfl, S, hj, fin⟩ := h
  obtain ⟨v, hv, tv⟩ := Trs.at_ j S.dat hj
  have hv2 := hv
  rw [List.getElem?_map] at hv2
  obtain ⟨a, ha, rfl⟩ := Option.map_eq_some_iff.mp hv2
  exact ⟨_, rfl, p, _, dx, _, _, rfl, S.ins, C.cl, C.nr, shF_r, _, rfl, lr, _, _, _, rfl, rfl, SqL.of S.rows, atI_nat hv, fin a tv⟩
theorem run_Shapes_count (C : ShK K) (h : sp_Shapes_count K w vs H Q E) : t_Shapes_count K w E (DQ Q) (start ns_Shapes_count vs) H := by
  obtain ⟨p, dx, lr, nr, wr, u, as, Rs, ws, rfl, S, fin⟩ := h
  refine ⟨_, rfl, p, _, dx, _, _, rfl, S.ins, C.cl, C.nr, shF_r, _, _, rfl, .inl ⟨_, SqL.of S.rows, rfl⟩, ?_⟩
  rw [List.length_map, S.la]
  exact fin
/-- the row of a number, and where it lies -/
theorem Sh.row_at {p dx lr nr wr : Addr} {u : Int} {as : List Addr} {Rs : List PyData} {ws : List NEnt} {j : Nat} {D : PyData} (S : Sh K w H p dx lr nr wr u as Rs ws) (hj : Rs[j]? = some D) : ∃ a, (as.map V.ref)[j]? = some (.ref a) ∧ Tr H (.ref a) D := by
  obtain ⟨v, hv, tv⟩ := Trs.at_ j S.dat hj
  have hv2 := hv
  rw [List.getElem?_map] at hv2
  obtain ⟨a, ha, rfl⟩ := Option.map_eq_some_iff.mp hv2
  exact ⟨a, hv, tv⟩
theorem place_drop {x : Str} : ∀ {ts : List Sl} {i : Nat} {s : Sl} {n : Int}, ts[i]? = some s → placeF (ts.drop i) x n = if s.name = x then n else placeF (ts.drop (i + 1)) x (n + 1) := fun {ts i s n} h => by
  obtain ⟨hi, e⟩ := List.getElem?_eq_some_iff.mp h
  rw [List.drop_eq_getElem_cons hi, e]
  rfl
theorem run_Shapes_place (C : ShK K) (h : sp_Shapes_place K w vs H Q E) : t_Shapes_place K w E (DQ Q) (start ns_Shapes_place vs) H := by
  obtain ⟨p, dx, lr, nr, wr, u, as, Rs, ws, j, x, ts, rfl, S, hj, fin⟩ := h
  obtain ⟨a, ha, ta⟩ := S.row_at hj
  obtain ⟨us, hu, tr⟩ := sls_open ta
  have lu := tr.len
  refine ⟨_, rfl, p, _, dx, _, _, rfl, S.ins, C.cl, C.nr, shF_r, _, rfl, lr, _, _, _, rfl, rfl, SqL.of S.rows, atI_nat ha, a, us, rfl, SqT.of hu, ?_⟩
  refine for_it (walk_enumT (xs := us)) (fun i σ G => ∃ v3 v4 : Option V, σ = [some (.ref p), some (.int (j : Int)), some (.str x), v3, v4] ∧ Same H G ∧ placeF ts x 0 = placeF (ts.drop i) x (i : Int)) ⟨none, none, rfl, (fun _ _ z => z), rfl⟩ (fun i σ G _ ⟨_, _, _, s1, _⟩ => SqT.of (s1 _ _ hu)) ?_ ?_
  · rintro i y σ G G' hi ⟨v3, v4, rfl, s1, e1⟩ ⟨T, y1, y2, rfl, nT, rfl, z1, z2⟩
    cases z1
    obtain ⟨s, t1, v, es, rfl, ht, tv⟩ := tr.at_ i z2
    have s2 := same_upd (o := .tup [V.int (i : Int), V.ref t1]) nT
    refine ⟨T, _, rfl, SqT.of upd_same, rfl, _, _, rfl, _, _, rfl, rfl, ?_⟩
    rw [place_drop es] at e1
    refine ⟨_, rfl, t1, _, _, _, rfl, rfl, SqT.of (s2 _ _ (s1 _ _ ht)), atI_nat (j := 0) rfl, _, rfl, rfl, _, rfl, ?_⟩
    refine ite2 (fun c => ?_) (fun c => ?_)
    · rw [if_pos (V.str.inj (of_decide_eq_true c))] at e1
      refine ⟨_, rfl, ?_⟩
      have := fin _ (s1.trans s2)
      rw [e1] at this
      exact this
    · rw [if_neg (fun z => c (decide_eq_true (congrArg V.str z)))] at e1
      refine ⟨_, _, rfl, s1.trans s2, ?_⟩
      rw [e1]
      congr 1
  · rintro σ G ⟨v3, v4, rfl, s1, e1⟩
    rw [List.drop_of_length_le (by omega)] at e1
    refine ⟨_, rfl, ?_⟩
    have := fin _ s1
    rw [e1] at this
    exact this
theorem ix_take {f : Sl → Bool} : ∀ {ts : List Sl} {i : Nat} {s : Sl} {n : Nat}, ts[i]? = some s → ixF f (ts.take (i + 1)) n = ixF f (ts.take i) n ++ (if f s = true then [((n + i : Nat) : Int)] else [])
  | [], i, s, n, h => by simp at h
  | t :: ts, 0, s, n, h => by
    cases h
    simp only [List.take_succ_cons, List.take_zero, ixF]
    split <;> rfl
  | t :: ts, i + 1, s, n, h => by
    have := ix_take (f := f) (n := n + 1) (ts := ts) (i := i) (s := s) (by simpa using h)
    simp only [List.take_succ_cons, ixF] at this ⊢
    rw [this, show n + 1 + i = n + (i + 1) by omega]
    split <;> rfl
theorem ix_len {f : Sl → Bool} : ∀ {ts : List Sl} {n : Nat}, (ixF f ts n).length ≤ ts.length
  | [], n => Nat.le_refl _
  | t :: ts, n => by
    have := ix_len (f := f) (ts := ts) (n := n + 1)
    unfold ixF
    split
    · simp; omega
    · simp; omega
/-- the comprehension over enumerate of a row, by a test of its kind -/
theorem enum_ix {a : Addr} {us : List V} {ts : List Sl} {f : Sl → Bool} {tt : TT} {σ : L2.St} {i1 i2 : Nat} {Qd : Addr → Hp → Prop} (hu : H a = some (.tup us)) (tr : TrpR H us ts) (hl : ts.length ≤ 1000) (h12 : i1 ≠ i2) (l1 : i1 < σ.length) (l2 : i2 < σ.length)
    (ht : ∀ (σ' : L2.St) (G : Hp) (s : Sl) (t1 : Addr) (v : V) (Z : Bool → Hp → Prop), Same H G → σ'[i2]? = some (some (.ref t1)) → G t1 = some (.tup [.str s.name, .str s.kind, v]) → Z (f s) G → tt σ' G Z)
    (hd : ∀ D G, Same H G → H D = none → G D = some (.lst ((ixF f ts 0).map V.int)) → Qd D G) : ∀ D, H D = none → ∃ W : Nat → Nat → Hp → Prop, (∃ m, W 0 m (upd H D (.lst []))) ∧ ∀ i m G, W i m G →
      ((ItT K a).stop i G ∧ Qd D G) ∨ ((ItT K a).go i G ∧ ∃ Nx : Hp → Prop, (∀ H', Nx H' → ∃ m', m' < m ∧ W (i + 1) m' H') ∧ ∀ x H', (ItT K a).yld i G x H' → (gTup K 2 (gCons (gName i1) (gCons (gName i2) gNil))) x (wipe σ [i1, i2]) H' fun σ2 H2 => wipe σ2 [i1, i2] = wipe σ [i1, i2] ∧ tt σ2 H2 fun b H3 =>
        if b = true then (tVar i1) σ2 H3 fun y H4 => ∃ acc, H4 D = some (.lst acc) ∧ acc.length < sizeLine ∧ Nx (upd H4 D (.lst (acc ++ [y]))) else Nx H3) := fun D nD => by
  have lu := tr.len
  refine lc_it (walk_enumT (xs := us)) (fun i G => Same H G ∧ G D = some (.lst ((ixF f (ts.take i) 0).map V.int))) ⟨same_upd nD, upd_same⟩ (fun i G _ ⟨s1, _⟩ => SqT.of (s1 _ _ hu)) ?_ ?_
  · rintro i y G G' hi ⟨s1, g1⟩ ⟨T, y1, y2, rfl, nT, rfl, z1, z2⟩
    cases z1
    obtain ⟨s, t1, v, es, rfl, ht1, tv⟩ := tr.at_ i z2
    have s2 := same_upd (o := .tup [V.int (i : Int), V.ref t1]) nT
    refine ⟨T, _, rfl, SqT.of upd_same, rfl, _, _, rfl, _, _, rfl, rfl, ?_, ?_⟩
    · simp only [wipe]
      apply List.ext_getElem?
      intro k
      simp only [List.getElem?_set, List.length_set]
      by_cases k2 : i2 = k
      · simp [k2]
      · by_cases k1 : i1 = k
        · simp [k1, k2]
        · simp [k1, k2]
    have e2 : (((wipe σ [i1, i2]).set i1 (some (V.int (i : Int)))).set i2 (some (V.ref t1)))[i2]? = some (some (.ref t1)) := by
      rw [List.getElem?_set_self]
      simp [wipe, l2]
    have e1 : (((wipe σ [i1, i2]).set i1 (some (V.int (i : Int)))).set i2 (some (V.ref t1)))[i1]? = some (some (.int (i : Int))) := by
      rw [List.getElem?_set_ne (Ne.symm h12), List.getElem?_set_self]
      simp [wipe, l1]
    refine ht _ _ s t1 v _ (s1.trans s2) e2 (s2 _ _ (s1 _ _ ht1)) ?_
    have ex := ix_take (f := f) (n := 0) es
    rw [Nat.zero_add] at ex
    cases c : f s with
    | true =>
      rw [c] at ex
      refine iteT ⟨_, e1, _, s2 _ _ g1, Nat.lt_of_le_of_lt (show ((ixF f (ts.take i) 0).map V.int).length ≤ 1000 by
        rw [List.length_map]
        have := ix_len (f := f) (ts := ts.take i) (n := 0)
        rw [List.length_take] at this
        omega) (by decide), fun b o e => ?_, ?_⟩
      · rw [upd_ne (ne_of_none e nD)]
        exact s2 b o (s1 b o e)
      · rw [upd_same, ex, List.map_append]
        rfl
    | false =>
      rw [c] at ex
      refine iteF ⟨s1.trans s2, ?_⟩
      rw [ex]
      simp
      exact s2 _ _ g1
  · rintro G ⟨s1, g1⟩
    rw [List.take_of_length_le (by omega)] at g1
    exact hd D G s1 nD g1
theorem run_Shapes_parents (C : ShK K) (hP : ∀ H, SqT K H (He.ga K ("PARENT_KINDS" : Str)) (parM.map mS)) (h : sp_Shapes_parents K w vs H Q E) : t_Shapes_parents K w E (DQ Q) (start ns_Shapes_parents vs) H := by
  obtain ⟨p, dx, lr, nr, wr, u, as, Rs, ws, j, ts, rfl, S, hj, hl, fin⟩ := h
  obtain ⟨a, ha, ta⟩ := S.row_at hj
  obtain ⟨us, hu, tr⟩ := sls_open ta
  refine ⟨_, rfl, p, _, dx, _, _, rfl, S.ins, C.cl, C.nr, shF_r, _, rfl, lr, _, _, _, rfl, rfl, SqL.of S.rows, atI_nat ha, a, us, rfl, SqT.of hu, ?_⟩
  refine enum_ix (f := isPr) hu tr hl (by decide) (by show 2 < 4; decide) (by show 3 < 4; decide) (fun σ' G s t1 v Z s1 e2 ht z => ?_) (fun D G s1 nD g1 => ?_)
  · refine ⟨_, e2, t1, _, _, _, rfl, rfl, SqT.of ht, atI_nat (j := 1) rfl, _, _, rfl, .inr (hP G), rfl, (by decide +kernel), _, rfl, ?_⟩
    show Z (inV (.str s.kind) (["parent", "varparent"].map mS)) G
    rw [in_kinds]
    exact z
  · refine ⟨D, _, rfl, .inl ⟨SqL.of g1, fun l nl => ?_⟩⟩
    exact fin l _ (s1.trans (same_upd nl)) (Same.free s1 nl) upd_same
theorem run_Shapes_free_parents (C : ShK K) (h : sp_Shapes_free_parents K w vs H Q E) : t_Shapes_free_parents K w E (DQ Q) (start ns_Shapes_free_parents vs) H := by
  obtain ⟨p, dx, lr, nr, wr, u, as, Rs, ws, j, ts, rfl, S, hj, hl, fin⟩ := h
  obtain ⟨a, ha, ta⟩ := S.row_at hj
  obtain ⟨us, hu, tr⟩ := sls_open ta
  refine ⟨_, rfl, p, _, dx, _, _, rfl, S.ins, C.cl, C.nr, shF_r, _, rfl, lr, _, _, _, rfl, rfl, SqL.of S.rows, atI_nat ha, a, us, rfl, SqT.of hu, ?_⟩
  refine enum_ix (f := isVp) hu tr hl (by decide) (by show 2 < 4; decide) (by show 3 < 4; decide) (fun σ' G s t1 v Z s1 e2 ht z => ?_) (fun D G s1 nD g1 => ?_)
  · refine ⟨_, e2, t1, _, _, _, rfl, rfl, SqT.of ht, atI_nat (j := 1) rfl, rfl, _, rfl, ?_⟩
    have e : decide (V.str s.kind = V.str ("varparent" : Str)) = isVp s := by
      unfold isVp
      rw [Bool.eq_iff_iff]
      simp
    rw [e]
    exact z
  · refine ⟨D, _, rfl, .inl ⟨SqL.of g1, fun l nl => ?_⟩⟩
    exact fin l _ (s1.trans (same_upd nl)) (Same.free s1 nl) upd_same
end
end Rm.U

/-! U2: the draws of the laws of shapes and caches, slots as tuples: promises, readings (by gen.py), runs. -/
namespace Rm.U
open PySem PySem.Spec PyProof.Rows L2
def dr2 (r : Addr) (i : Int) : List (Key × V) := [(kRow, .ref r), (kAt, .int i)]
/-- at d: draws, their row at r -/
def Dr (H : Hp) (d r : Addr) : Prop := ∃ (i : Int) (ns : List Int), H d = some (.dK (dr2 r i)) ∧ H r = some (.lst (ns.map V.int)) ∧ 0 ≤ i ∧ ns.length = 400 ∧ ∀ n ∈ ns, 0 ≤ n
def nameM : List String := ["x", "y", "p", "q", "long", "x1"]
def kindM : List String := ["const", "var", "parent", "varparent", "method", "parent", "varparent"]
/-- a drawn value -/
structure VN (m : Int) (D : PyData) : Prop where
  g : VG D
  ok : ValOk D
  ref : ∀ i, refOf D = some i → 0 ≤ i ∧ i < max 1 m
/-- a drawn slot -/
structure SN (m : Int) (s : Sl) : Prop where
  nm : ∃ x ∈ nameM, s.name = Str.ofString x
  kd : ∃ x ∈ kindM, s.kind = Str.ofString x
  vl : VN m s.val
def sp_l_draws (K : PySem.W.Frag) : Sp := fun vs H Q _ => ∃ (a : Addr) (ns : List Int), vs = [.ref a, .int 400] ∧ SqL K H a (ns.map V.int) ∧ ns.length ≤ 63 ∧ ∀ q H' (rs : List Int), Same H H' → H q = none → H' q = some (.lst (rs.map V.int)) → rs.length = 400 → (∀ n ∈ rs, 0 ≤ n) → Q (.ref q) H'
def sp_l_take (K : PySem.W.Frag) : Sp := fun vs H Q _ => ∃ (d : Addr), vs = [.ref d] ∧ ∃ r, Dr H d r ∧ ∀ (j : Int) (H' : Hp), 0 ≤ j → Dr H' d r → Moved d H H' → Q (.int j) H'
def sp_l_start (K : PySem.W.Frag) : Sp := fun vs H Q _ => ∃ (a : Addr) (ns : List Int), vs = [.ref a] ∧ SqL K H a (ns.map V.int) ∧ ns.length ≤ 63 ∧ ∀ d r H', Same H H' → H d = none → H r = none → Dr H' d r → Q (.ref d) H'
def sp_l_value (K : PySem.W.Frag) : Sp := fun vs H Q _ => ∃ (d : Addr) (m : Int), vs = [.ref d, .int m] ∧ ∃ r, Dr H d r ∧ ∀ (v : V) (D : PyData) (H' : Hp), Kept d H H' → Dr H' d r → Tr H' v D → VN m D → Q v H'
def sp_l_kind (K : PySem.W.Frag) : Sp := fun vs H Q _ => ∃ (d : Addr), vs = [.ref d] ∧ ∃ r, Dr H d r ∧ ∀ (s : String) (H' : Hp), Kept d H H' → Dr H' d r → s ∈ kindM → Q (mS s) H'
def sp_l_name (K : PySem.W.Frag) : Sp := fun vs H Q _ => ∃ (d : Addr), vs = [.ref d] ∧ ∃ r, Dr H d r ∧ ∀ (s : String) (H' : Hp), Kept d H H' → Dr H' d r → s ∈ nameM → Q (mS s) H'
def sp_l_put (K : PySem.W.Frag) : Sp := fun vs H Q _ => ∃ (a : Addr) (x k : Str) (v : V) (D : PyData) (ts : List Sl), vs = [.ref a, .str x, .str k, v] ∧ Tr H (.ref a) (slsT ts) ∧ Tr H v D ∧ ts.length ≤ 1000 ∧ ∀ q H', Same H H' → Tr H' (.ref q) (slsT (putS ts ⟨x, k, D⟩)) → Q (.ref q) H'
def sp_l_slots (K : PySem.W.Frag) : Sp := fun vs H Q _ => ∃ (d : Addr) (m : Int), vs = [.ref d, .int m] ∧ ∃ r, Dr H d r ∧ ∀ (q : Addr) (ts : List Sl) (H' : Hp), Kept d H H' → Dr H' d r → Tr H' (.ref q) (slsT ts) → (∀ s ∈ ts, SN m s) → NdS ts → ts.length ≤ 4 → Q (.ref q) H'
def sp_l_row (K : PySem.W.Frag) : Sp := fun vs H Q _ => ∃ (a : Addr) (ts : List Sl), vs = [.ref a] ∧ Tr H (.ref a) (slsT ts) ∧ (∀ s ∈ ts, ∃ x ∈ kindM, s.kind = Str.ofString x) ∧ ts.length ≤ 1000 ∧ ∀ q H', Same H H' → H q = none → Tr H' (.ref q) (rowD ts) → Q (.ref q) H'
def sp_l_is (K : PySem.W.Frag) : Sp := fun vs H Q _ => ∃ (i j : Int), vs = [.int i, .int j] ∧ Q (.bl (decide (i = j))) H
/-! ### readings -/

def ns_l_draws : List Str := ["script", "many", "draws", "mixed", "k", "cell", "rest", "turn"]
def t_l_draws (K : PySem.W.Frag) (E : XK) : TS :=
  (tSeq (tAsg (tLst tNil) (gName 2))
    (tSeq (tAsg (tC (.int 7)) (gName 3))
    (tSeq (tFor (iRng1 (tCons (tCB (rLen K) (tCons (tVar 0) tNil)) tNil)) (gName 4)
      (tSeq (tAsg (tCB rAbs (tCons (tCB rInt1 (tCons (tOp (rIxL K) (tVar 0) (tVar 4)) tNil)) tNil)) (gName 5))
    (tSeq (tAsg (tOp rModI (tCB rInt1 (tCons (tOp rAddI (tOp rAddI (tOp rMulI (tVar 3) (tC (.int 48271))) (tOp rModI (tVar 5) (tC (.int 1000003)))) (tVar 4)) tNil)) (tC (.int 65537))) (gName 3))
    (tSeq (tAsg (tC (.int 0)) (gName 6))
    (tSeq (tIfS (tTest (tOp rGeI (tVar 5) (tOp rPowI (tC (.int 10)) (tC (.int 18)))))
      (tAsg (tVar 5) (gName 6))
      (tSeq (tDrop (tBM K "list" rAppend (tVar 2) (tCons (tOp rModI (tVar 5) (tC (.int 997))) tNil)))
    (tDrop (tBM K "list" rAppend (tVar 2) (tCons (tOp rModI (tOp rModI (tCB rInt1 (tCons (tOp rAddI (tOp rMulI (tVar 3) (tC (.int 69621))) (tC (.int 5))) tNil)) (tC (.int 65521))) (tC (.int 997))) tNil)))))
    (tFor (iRng1 (tCons (tC (.int 60)) tNil)) (gName 7)
      (tIfS (tTest (tOp rGtI (tVar 6) (tC (.int 0))))
      (tSeq (tDrop (tBM K "list" rAppend (tVar 2) (tCons (tOp rModI (tCB rInt1 (tCons (tVar 6) tNil)) (tC (.int 997))) tNil)))
    (tAsg (tOp rFdivI (tVar 6) (tC (.int 997))) (gName 6)))
      tNext)))))))
    (tSeq (tFor (iRng1 (tCons (tVar 1) tNil)) (gName 4)
      (tSeq (tAsg (tOp rModI (tCB rInt1 (tCons (tOp rAddI (tOp rAddI (tOp rMulI (tVar 3) (tC (.int 16807))) (tVar 4)) (tC (.int 1))) tNil)) (tC (.int 65537))) (gName 3))
    (tDrop (tBM K "list" rAppend (tVar 2) (tCons (tOp rModI (tCB rInt1 (tCons (tVar 3) tNil)) (tC (.int 997))) tNil)))))
    (tRet (tSl (rSlL K) (tVar 2) oNone (oSome (tVar 1))))))))

def ns_l_take : List Str := ["d", "at"]
def t_l_take (K : PySem.W.Frag) (E : XK) : TS :=
  (tSeq (tAsg (tDGet (tVar 0) (tC (.str ("at" : Str)))) (gName 1))
    (tSeq (sDPut (tVar 0) (tC (.str ("at" : Str))) (tOp rAddI (tVar 1) (tC (.int 1))))
    (tRet (tOp rAddI (tOp (rIxL K) (tDGet (tVar 0) (tC (.str ("row" : Str)))) (tOp rModI (tVar 1) (tCB (rLen K) (tCons (tDGet (tVar 0) (tC (.str ("row" : Str)))) tNil)))) (tOp rFdivI (tVar 1) (tCB (rLen K) (tCons (tDGet (tVar 0) (tC (.str ("row" : Str)))) tNil)))))))

def ns_l_start : List Str := ["script"]
def t_l_start (K : PySem.W.Frag) (E : XK) : TS :=
  (tRet (tDisp [((tC (.str ("row" : Str))), (tCall (sp_l_draws K) [] E (tCons (tVar 0) (tCons (tC (.int 400)) tNil)))), ((tC (.str ("at" : Str))), (tC (.int 0)))]))

def ns_l_value : List Str := ["d", "many", "turn"]
def t_l_value (K : PySem.W.Frag) (E : XK) : TS :=
  (tSeq (tAsg (tOp rModI (tCall (sp_l_take K) [] E (tCons (tVar 0) tNil)) (tC (.int 8))) (gName 2))
    (tSeq (tIfS (tTest (tOp rLtI (tVar 2) (tC (.int 4))))
      (tRet (tTup (tCons (tC (.str ("ref" : Str))) (tCons (tOp rModI (tCall (sp_l_take K) [] E (tCons (tVar 0) tNil)) (tCB rMax2 (tCons (tC (.int 1)) (tCons (tVar 1) tNil)))) tNil))))
      tNext)
    (tSeq (tIfS (tTest (tOp rEq (tVar 2) (tC (.int 4))))
      (tRet (tTup (tCons (tC (.str ("num" : Str))) (tCons (tOp (rIxL K) (tLst (tCons (tC (.int 0)) (tCons (tC (.int 1)) (tCons (tC (.int 2)) (tCons (tC (.int 7)) (tCons (tUn rNegI (tC (.int 1))) (tCons (tOp rPowI (tC (.int 10)) (tC (.int 15))) tNil))))))) (tOp rModI (tCall (sp_l_take K) [] E (tCons (tVar 0) tNil)) (tC (.int 6)))) tNil))))
      tNext)
    (tSeq (tIfS (tTest (tOp rEq (tVar 2) (tC (.int 5))))
      (tRet (tOp (rIxL K) (tLst (tCons (tTup (tCons (tC (.str ("true" : Str))) tNil)) (tCons (tTup (tCons (tC (.str ("false" : Str))) tNil)) (tCons (tTup (tCons (tC (.str ("nothing" : Str))) tNil)) tNil)))) (tOp rModI (tCall (sp_l_take K) [] E (tCons (tVar 0) tNil)) (tC (.int 3)))))
      tNext)
    (tSeq (tIfS (tTest (tOp rEq (tVar 2) (tC (.int 6))))
      (tRet (tTup (tCons (tC (.str ("method" : Str))) (tCons (tOp rModI (tCall (sp_l_take K) [] E (tCons (tVar 0) tNil)) (tC (.int 3))) tNil))))
      tNext)
    (tRet (tTup (tCons (tC (.str ("nothing" : Str))) tNil))))))))

def ns_l_name : List Str := ["d"]
def t_l_name (K : PySem.W.Frag) (E : XK) : TS :=
  (tRet (tOp (rIxL K) (tLst (tMenu (["x", "y", "p", "q", "long", "x1"].map mS))) (tOp rModI (tCall (sp_l_take K) [] E (tCons (tVar 0) tNil)) (tC (.int 6)))))

def ns_l_kind : List Str := ["d"]
def t_l_kind (K : PySem.W.Frag) (E : XK) : TS :=
  (tRet (tOp (rIxL K) (tLst (tMenu (["const", "var", "parent", "varparent", "method", "parent", "varparent"].map mS))) (tOp rModI (tCall (sp_l_take K) [] E (tCons (tVar 0) tNil)) (tC (.int 7)))))

def ns_l_put : List Str := ["slots", "name", "kind", "value", "k"]
def t_l_put (K : PySem.W.Frag) (E : XK) : TS :=
  (tSeq (tFor (iRng1 (tCons (tCB (rLen K) (tCons (tVar 0) tNil)) tNil)) (gName 4)
      (tIfS (tTest (tOp rEq (tOp (rIxT K) (tOp (rIxT K) (tVar 0) (tVar 4)) (tC (.int 0))) (tVar 1)))
      (tRet (tOp (rCatA K) (tOp (rCatA K) (tSl (rSlA K) (tVar 0) oNone (oSome (tVar 4))) (tTup (tCons (tTup (tCons (tVar 1) (tCons (tVar 2) (tCons (tVar 3) tNil)))) tNil))) (tSl (rSlA K) (tVar 0) (oSome (tOp rAddI (tVar 4) (tC (.int 1)))) oNone)))
      tNext))
    (tRet (tOp (rCatA K) (tVar 0) (tTup (tCons (tTup (tCons (tVar 1) (tCons (tVar 2) (tCons (tVar 3) tNil)))) tNil)))))

def ns_l_slots : List Str := ["d", "many", "slots", "k"]
def t_l_slots (K : PySem.W.Frag) (E : XK) : TS :=
  (tSeq (tAsg (tTup tNil) (gName 2))
    (tSeq (tFor (iRng1 (tCons (tOp rModI (tCall (sp_l_take K) [] E (tCons (tVar 0) tNil)) (tC (.int 5))) tNil)) (gName 3)
      (tAsg (tCall (sp_l_put K) [] E (tCons (tVar 2) (tCons (tCall (sp_l_name K) [] E (tCons (tVar 0) tNil)) (tCons (tCall (sp_l_kind K) [] E (tCons (tVar 0) tNil)) (tCons (tCall (sp_l_value K) [] E (tCons (tVar 0) (tCons (tVar 1) tNil))) tNil))))) (gName 2)))
    (tRet (tVar 2))))

def ns_l_row : List Str := ["slots", "row", "name", "kind", "value"]
def t_l_row (K : PySem.W.Frag) (E : XK) : TS :=
  (tSeq (tAsg (tLst tNil) (gName 1))
    (tSeq (tFor (iTup K (tVar 0)) (gTup K 3 (gCons (gName 2) (gCons (gName 3) (gCons (gName 4) gNil))))
      (tIfS (tTest (tOp (rIn K false) (tVar 3) (tTup (tCons (tC (.str ("var" : Str))) (tCons (tC (.str ("varparent" : Str))) tNil)))))
      (tDrop (tBM K "list" rAppend (tVar 1) (tCons (tTup (tCons (tVar 2) (tCons (tVar 3) (tCons (tC .non) tNil)))) tNil)))
      (tDrop (tBM K "list" rAppend (tVar 1) (tCons (tTup (tCons (tVar 2) (tCons (tVar 3) (tCons (tVar 4) tNil)))) tNil)))))
    (tRet (tCB (rTupleOf K) (tCons (tVar 1) tNil)))))

def ns_l_is : List Str := ["actual", "expected"]
def t_l_is (K : PySem.W.Frag) (E : XK) : TS :=
  (tRet (tAndV (tCB (rIsi K) (tCons (tVar 0) (tCons (tC (.ty "int")) tNil))) (tAndV (tNotV (tCB (rIsi K) (tCons (tVar 0) (tCons (tC (.ty "bool")) tNil)))) (tOp (rEqD K) (tVar 0) (tVar 1)))))

section
variable {K : PySem.W.Frag} {vs : List V} {H : Hp} {Q : VK} {E : XK}
/-! ### draws -/
theorem dr2_at (r : Addr) (i : Int) : valV (dr2 r i) kAt = some (.int i) := by
  unfold dr2
  rw [valV_neg (p := (kRow, V.ref r)) kRA, valV_pos (p := (kAt, V.int i)) rfl]
theorem dr2_row (r : Addr) (i : Int) : valV (dr2 r i) kRow = some (.ref r) := by
  unfold dr2
  rw [valV_pos (p := (kRow, V.ref r)) rfl]
theorem dr2_put (r : Addr) (i j : Int) : putK (dr2 r i) kAt (.int j) = dr2 r j := by
  unfold putK
  rw [valV_any, dr2_at, if_pos (show (some (V.int i)).isSome = true from rfl)]
  unfold dr2
  rw [List.map_cons, List.map_cons, List.map_nil, if_neg kRA, if_pos rfl]
theorem dr2_len (r : Addr) (i : Int) : (dr2 r i).length < sizeLine := by
  show 2 < sizeLine
  decide
theorem dr2_merge (p : Addr) (i : Int) : mergeK [] (dr2 p i) = dr2 p i := by
  have e1 : putK [] kRow (V.ref p) = [(kRow, V.ref p)] := putK_new _ rfl
  have e2 : putK [(kRow, V.ref p)] kAt (V.int i) = dr2 p i := putK_new _ (by rw [valV_neg kRA] <;> rfl)
  show putK (putK [] kRow (V.ref p)) kAt (V.int i) = _
  rw [e1, e2]
section
variable {d r : Addr} {i : Int}
theorem dg2_at (h : H d = some (.dK (dr2 r i))) : DGet H d (.str ("at" : Str)) (some (.int i)) := .inl ⟨_, kAt, .inl h, rfl, (dr2_at r i).symm⟩
theorem dg2_row (h : H d = some (.dK (dr2 r i))) : DGet H d (.str ("row" : Str)) (some (.ref r)) := .inl ⟨_, kRow, .inl h, rfl, (dr2_row r i).symm⟩
theorem dp2_at (h : H d = some (.dK (dr2 r i))) (j : Int) : DPut H d (.str ("at" : Str)) (.int j) (upd H d (.dK (dr2 r j))) := .inl ⟨_, kAt, h, rfl, dr2_len r i, by rw [dr2_put]⟩
end
theorem Dr.atD {d r : Addr} (h : Dr H d r) : ∃ o, H d = some o := let ⟨_, _, h, _⟩ := h; ⟨_, h⟩
theorem Dr.atR {d r : Addr} (h : Dr H d r) : ∃ o, H r = some o := let ⟨_, _, _, h, _⟩ := h; ⟨_, h⟩
theorem Dr.ne {d r : Addr} (h : Dr H d r) : r ≠ d := by
  obtain ⟨i, ns, h1, h2, _⟩ := h
  exact ne_of h2 h1 (by intro z; cases z)
theorem Dr.neD {d r a : Addr} (h : Dr H d r) (n : H a = none) : d ≠ a := let ⟨_, e⟩ := h.atD; ne_of_none e n
theorem Dr.neR {d r a : Addr} (h : Dr H d r) (n : H a = none) : r ≠ a := let ⟨_, e⟩ := h.atR; ne_of_none e n
theorem Dr.same {H' : Hp} {d r : Addr} (h : Dr H d r) (s : Same H H') : Dr H' d r := by
  obtain ⟨i, ns, h1, h2, h3⟩ := h
  exact ⟨i, ns, s _ _ h1, s _ _ h2, h3⟩
theorem Dr.keep {H' : Hp} {d r : Addr} (h : Dr H d r) (s : ∀ b o, (b = d ∨ b = r) → H b = some o → H' b = some o) : Dr H' d r := by
  obtain ⟨i, ns, h1, h2, h3⟩ := h
  exact ⟨i, ns, s _ _ (.inl rfl) h1, s _ _ (.inr rfl) h2, h3⟩
theorem Dr.fresh {d r a : Addr} {o : HO} (h : Dr H d r) (n : H a = none) : Dr (upd H a o) d r := h.same (same_upd n)
theorem Dr.tk {G' : Hp} {d r : Addr} (D : Dr H d r) (k : Kept d H G') : TK H G' := by
  obtain ⟨i, ns, h1, _⟩ := D
  exact fun a xs h => k a _ (ne_of h h1 (by intro z; cases z)) h
theorem Dr.kp {H' : Hp} {d r a : Addr} {o : HO} (k : Kept d H H') (D : Dr H' d r) (n : H' a = none) : Kept d H (upd H' a o) := k.put (k.free D.atD n)
theorem cut_take (xs : List V) (k : Nat) : cutV xs none (some (k : Int)) = xs.take k := by
  unfold cutV
  rw [HT.sIx_none, HT.sIx_nat, List.drop_zero, Nat.sub_zero]
  rw [List.take_eq_take_iff]
  omega
theorem cut_drop (xs : List V) (k : Nat) : cutV xs (some (k : Int)) none = xs.drop k := by
  unfold cutV
  rw [HT.sIx_none, HT.sIx_nat]
  by_cases h : k ≤ xs.length
  · rw [Nat.min_eq_left h, List.take_of_length_le (by rw [List.length_drop]; exact Nat.le_refl _)]
  · rw [Nat.min_eq_right (by omega), Nat.sub_self, List.take_zero, List.drop_of_length_le (by omega)]
theorem run_l_take (h : sp_l_take K vs H Q E) : t_l_take K E (DQ Q) (start ns_l_take vs) H := by
  obtain ⟨d, rfl, r, hD, q⟩ := h
  obtain ⟨i, ns, h1, h2, h3, h4, h5⟩ := id hD
  have nrd : r ≠ d := hD.ne
  refine ⟨_, rfl, d, _, rfl, dg2_at h1, ?_⟩
  refine ⟨_, rfl, _, _, rfl, rfl, _, rfl, d, _, rfl, dp2_at h1 _, ?_⟩
  have h1' : (upd H d (.dK (dr2 r (i + 1)))) d = some (.dK (dr2 r (i + 1))) := upd_same
  have h2' : (upd H d (.dK (dr2 r (i + 1)))) r = some (.lst (ns.map V.int)) := by rw [upd_ne nrd]; exact h2
  have D' : Dr (upd H d (.dK (dr2 r (i + 1)))) d r := ⟨i + 1, ns, h1', h2', by omega, h4, h5⟩
  have M' : Moved d H (upd H d (.dK (dr2 r (i + 1)))) := fun b n => upd_ne n
  refine ⟨_, rfl, d, _, rfl, dg2_row h1', _, rfl, _, rfl, d, _, rfl, dg2_row h1', _, _, rfl, .inl ⟨_, SqL.of h2', rfl⟩, ?_⟩
  have e400 : (((ns.map V.int).length : Nat) : Int) = 400 := by rw [List.length_map, h4]; rfl
  rw [e400]
  refine ⟨_, _, rfl, rfl, (by show (0 : Int) < 400; decide), ?_⟩
  have b1 : 0 ≤ i % 400 := Int.emod_nonneg _ (by decide)
  have b2 : i % 400 < 400 := Int.emod_lt_of_pos _ (by decide)
  obtain ⟨n, hn⟩ : ∃ n : Nat, i % 400 = (n : Int) := ⟨(i % 400).toNat, by omega⟩
  have hl : n < ns.length := by omega
  have g : (ns.map V.int)[n]? = some (.int ns[n]) := by rw [List.getElem?_map, List.getElem?_eq_getElem hl]; rfl
  refine ⟨r, _, i % 400, _, rfl, rfl, SqL.of h2', (by rw [hn]; exact atI_nat g), ?_⟩
  refine ⟨_, rfl, _, rfl, d, _, rfl, dg2_row h1', _, _, rfl, .inl ⟨_, SqL.of h2', rfl⟩, ?_⟩
  rw [e400]
  refine ⟨_, _, rfl, rfl, ⟨by decide, by decide⟩, _, _, rfl, rfl, ?_⟩
  refine q _ _ ?_ D' M'
  have := h5 ns[n] (List.getElem_mem hl)
  have : 0 ≤ i / 400 := Int.ediv_nonneg h3 (by decide)
  omega
theorem ap_nn {rs : List Int} {z : Int} (h : ∀ n ∈ rs, 0 ≤ n) (hz : 0 ≤ z) : ∀ n ∈ rs ++ [z], 0 ≤ n := fun n hn => by
  rcases List.mem_append.mp hn with hn | hn
  · exact h n hn
  · rw [List.mem_singleton.mp hn]; exact hz
theorem draw_rest {D : Ends} {a p : Addr} {x1 x3 x4 x5 v7 : Option V} {rs : List Int} {z : Int} {G : Hp} {B : Nat} (np : H p = none) (s1 : Same H G) (g1 : G p = some (.lst (rs.map V.int))) (l1 : rs.length ≤ B) (hB : B ≤ 9000) (z1 : ∀ n ∈ rs, 0 ≤ n) (hz : 0 ≤ z) {C : Nat}
    (fin : ∀ (rs : List Int) (z : Int) (v7 : Option V) (G : Hp), Same H G → G p = some (.lst (rs.map V.int)) → rs.length ≤ C → (∀ n ∈ rs, 0 ≤ n) → D.nx [some (.ref a), x1, some (.ref p), x3, x4, x5, some (.int z), v7] G) (hC : B + 60 ≤ C := by omega) :
    (tFor (iRng1 (tCons (tC (.int 60)) tNil)) (gName 7)
      (tIfS (tTest (tOp rGtI (tVar 6) (tC (.int 0))))
      (tSeq (tDrop (tBM K "list" rAppend (tVar 2) (tCons (tOp rModI (tCB rInt1 (tCons (tVar 6) tNil)) (tC (.int 997))) tNil)))
    (tAsg (tOp rFdivI (tVar 6) (tC (.int 997))) (gName 6)))
      tNext)) D [some (.ref a), x1, some (.ref p), x3, x4, x5, some (.int z), v7] G := by
  refine ⟨60, rfl, by decide, by decide, ?_⟩
  refine for_range (lo := 0) (n := 60) (fun j σ G => ∃ (rs : List Int) (z : Int) (v7 : Option V), σ = [some (.ref a), x1, some (.ref p), x3, x4, x5, some (.int z), v7] ∧ Same H G ∧ G p = some (.lst (rs.map V.int)) ∧ rs.length ≤ B + j ∧ (∀ n ∈ rs, 0 ≤ n) ∧ 0 ≤ z)
    ⟨rs, z, v7, rfl, s1, g1, l1, z1, hz⟩ ?_ ?_
  · rintro j σ G hj ⟨rs, z, v7, rfl, s1, g1, l1, z1, hz⟩
    refine ⟨_, rfl, _, _, rfl, rfl, _, rfl, ite2 (fun _ => ?_) (fun _ => ?_)⟩
    · refine ⟨_, rfl, .inl ⟨rfl, _, SqL.of g1⟩, _, rfl, .inl ⟨_, rfl, _, _, rfl, rfl, (by show (0 : Int) < 997; decide), p, _, _, rfl, rfl, g1, Nat.lt_of_le_of_lt (show (rs.map V.int).length ≤ 10000 by rw [List.length_map]; omega) (by decide), ?_⟩⟩
      refine ⟨_, rfl, _, _, rfl, rfl, ⟨by decide, by decide⟩, rs ++ [z % 997], z / 997, _, rfl, fun b u e => ?_, by rw [upd_same, map_snoc], by rw [List.length_append]; simp; omega, ap_nn z1 (Int.emod_nonneg _ (by decide)), Int.ediv_nonneg hz (by decide)⟩
      rw [upd_ne (ne_of_none e np)]
      exact s1 b u e
    · exact ⟨rs, z, _, rfl, s1, g1, by omega, z1, hz⟩
  · rintro σ G ⟨rs, z, v7, rfl, s1, g1, l1, z1, hz⟩
    exact fin rs z v7 G s1 g1 (by omega) z1
theorem run_l_draws (h : sp_l_draws K vs H Q E) : t_l_draws K E (DQ Q) (start ns_l_draws vs) H := by
  obtain ⟨a, ns, rfl, hS, hl, q⟩ := h
  refine ⟨(by show 0 ≤ sizeLine; decide), fun p np => ?_⟩
  have small : ∀ n, n ≤ 10000 → n < sizeLine := fun n h => Nat.lt_of_le_of_lt h (by decide)
  have mo : ∀ (rs : List Int) (z : Int), rs.map V.int ++ [V.int z] = (rs ++ [z]).map V.int := fun rs z => map_snoc rs z
  have nn : ∀ (rs : List Int) (z : Int), (∀ n ∈ rs, 0 ≤ n) → 0 ≤ z → ∀ n ∈ rs ++ [z], 0 ≤ n := fun rs z h hz n hn => by
    rcases List.mem_append.mp hn with hn | hn
    · exact h n hn
    · rw [List.mem_singleton.mp hn]; exact hz
  refine ⟨_, rfl, _, _, rfl, .inl ⟨_, (same_upd np).seq hS, rfl⟩, ?_⟩
  rw [List.length_map]
  refine ⟨(ns.length : Int), rfl, by omega, by omega, ?_⟩
  rw [Int.toNat_natCast]
  refine for_range (lo := 0) (n := ns.length) (fun i σ G => ∃ (rs : List Int) (mx : Int) (v4 v5 v6 v7 : Option V), σ = [some (.ref a), some (.int 400), some (.ref p), some (.int mx), v4, v5, v6, v7] ∧ Same H G ∧ G p = some (.lst (rs.map V.int)) ∧ rs.length ≤ 62 * i ∧ (∀ n ∈ rs, 0 ≤ n) ∧ 0 ≤ mx ∧ mx < 65537)
    ⟨[], 7, none, none, none, none, rfl, same_upd np, upd_same, Nat.zero_le _, (fun n hn => by cases hn), by decide, by decide⟩ ?_ ?_
  · rintro i σ G hi ⟨rs, mx, v4, v5, v6, v7, rfl, s1, g1, l1, z1, m0, m1⟩
    have hz : (ns.map V.int)[i]? = some (.int ns[i]) := by rw [List.getElem?_map, List.getElem?_eq_getElem hi]; rfl
    have hz0 : atI (ns.map V.int) (0 + (i : Int)) = some (.int ns[i]) := at_of (j := i) (by simp) hz
    have stay : ∀ {G' : Hp} {o : HO}, Same H G' → Same H (upd G' p o) := fun {G' o} s b u e => by
      rw [upd_ne (ne_of_none e np)]
      exact s b u e
    refine ⟨_, rfl, _, rfl, a, ns.map V.int, _, .int ns[i], rfl, rfl, s1.seq hS, hz0, .inl ⟨_, rfl, _, rfl, ?_⟩⟩
    generalize hc : (if ns[i] < 0 then -ns[i] else ns[i]) = c
    have c0 : 0 ≤ c := by
      rw [← hc]
      split <;> omega
    have b1 : 0 ≤ c % 1000003 := Int.emod_nonneg _ (by decide)
    refine ⟨_, rfl, _, _, rfl, rfl, .inl ⟨by omega, by omega⟩, _, rfl, _, _, rfl, rfl, (by show (0 : Int) < 1000003; decide), _, _, rfl, rfl, _, rfl, _, _, rfl, rfl, .inl ⟨_, rfl, _, _, rfl, rfl, (by show (0 : Int) < 65537; decide), ?_⟩⟩
    obtain ⟨mx2, hm⟩ : ∃ z, z = (mx * 48271 + c % 1000003 + (0 + (i : Int))) % 65537 := ⟨_, rfl⟩
    show gName 3 (V.int ((mx * 48271 + c % 1000003 + (0 + (i : Int))) % 65537)) _ _ _
    rw [← hm]
    have m2 : 0 ≤ mx2 := by rw [hm]; exact Int.emod_nonneg _ (by decide)
    have m3 : mx2 < 65537 := by rw [hm]; exact Int.emod_lt_of_pos _ (by decide)
    have fin : ∀ (rs : List Int) (z : Int) (v7 : Option V) (G : Hp), Same H G → G p = some (.lst (rs.map V.int)) → rs.length ≤ 62 * i + 62 → (∀ n ∈ rs, 0 ≤ n) → ∃ (rs' : List Int) (mx : Int) (w4 w5 w6 w7 : Option V), [some (V.ref a), some (V.int 400), some (V.ref p), some (V.int mx2), some (V.int (0 + (i : Int))), some (V.int c), some (V.int z), v7] = [some (V.ref a), some (V.int 400), some (V.ref p), some (V.int mx), w4, w5, w6, w7] ∧ Same H G ∧ G p = some (.lst (rs'.map V.int)) ∧ rs'.length ≤ 62 * (i + 1) ∧ (∀ n ∈ rs', 0 ≤ n) ∧ 0 ≤ mx ∧ mx < 65537 := fun rs z v7 G s1 g1 l1 z1 => ⟨rs, mx2, _, _, _, _, rfl, s1, g1, by omega, z1, m2, m3⟩
    refine ⟨_, rfl, _, _, rfl, rfl, ⟨by decide, by decide, by decide⟩, _, _, rfl, rfl, _, rfl, ite2 (fun _ => ?_) (fun _ => ?_)⟩
    · exact ⟨_, rfl, draw_rest (B := 62 * i) (C := 62 * i + 62) np s1 g1 (by omega) (by omega) z1 c0 fin⟩
    · refine ⟨_, rfl, .inl ⟨rfl, _, SqL.of g1⟩, _, rfl, _, _, rfl, rfl, (by show (0 : Int) < 997; decide), p, _, _, rfl, rfl, g1, small _ (by rw [List.length_map]; omega), ?_⟩
      refine ⟨_, rfl, .inl ⟨rfl, _, SqL.of upd_same⟩, _, rfl, _, _, rfl, rfl, .inl ⟨by omega, by omega⟩, _, _, rfl, rfl, .inl ⟨_, rfl, _, _, rfl, rfl, (by show (0 : Int) < 65521; decide), _, _, rfl, rfl, (by show (0 : Int) < 997; decide), p, _, _, rfl, rfl, upd_same, small _ (by rw [List.length_append, List.length_map]; simp; omega), ?_⟩⟩
      refine draw_rest (rs := rs ++ [c % 997] ++ [(mx2 * 69621 + 5) % 65521 % 997]) (B := 62 * i + 2) (C := 62 * i + 62) np (stay (stay s1)) ?_ (by simp; omega) (by omega) (nn _ _ (nn _ _ z1 (Int.emod_nonneg _ (by decide))) (Int.emod_nonneg _ (by decide))) (Int.le_refl _) fin
      rw [upd_same, mo, mo]
  · rintro σ G ⟨rs, mx, v4, v5, v6, v7, rfl, s1, g1, l1, z1, m0, m1⟩
    refine ⟨_, rfl, 400, rfl, by decide, by decide, ?_⟩
    have l0 : rs.length ≤ 5000 := by omega
    refine for_range (lo := 0) (n := 400) (fun i σ G => ∃ (rs : List Int) (mx : Int) (v4 v5 v6 v7 : Option V), σ = [some (.ref a), some (.int 400), some (.ref p), some (.int mx), v4, v5, v6, v7] ∧ Same H G ∧ G p = some (.lst (rs.map V.int)) ∧ i ≤ rs.length ∧ rs.length ≤ 5000 + i ∧ (∀ n ∈ rs, 0 ≤ n) ∧ 0 ≤ mx ∧ mx < 65537)
      ⟨rs, mx, _, _, _, _, rfl, s1, g1, Nat.zero_le _, l0, z1, m0, m1⟩ ?_ ?_
    · rintro i σ G hi ⟨rs, mx, v4, v5, v6, v7, rfl, s1, g1, l2, l3, z1, m0, m1⟩
      refine ⟨_, rfl, _, _, rfl, rfl, .inl ⟨by omega, by omega⟩, _, rfl, _, _, rfl, rfl, _, _, rfl, rfl, .inl ⟨_, rfl, _, _, rfl, rfl, (by show (0 : Int) < 65537; decide), ?_⟩⟩
      obtain ⟨mx2, hm⟩ : ∃ z, z = (mx * 16807 + (0 + (i : Int)) + 1) % 65537 := ⟨_, rfl⟩
      show gName 3 (V.int ((mx * 16807 + (0 + (i : Int)) + 1) % 65537)) _ _ _
      rw [← hm]
      have m2 : 0 ≤ mx2 := by rw [hm]; exact Int.emod_nonneg _ (by decide)
      have m3 : mx2 < 65537 := by rw [hm]; exact Int.emod_lt_of_pos _ (by decide)
      refine ⟨_, rfl, .inl ⟨rfl, _, SqL.of g1⟩, _, rfl, .inl ⟨_, rfl, _, _, rfl, rfl, (by show (0 : Int) < 997; decide), p, _, _, rfl, rfl, g1, small _ (by rw [List.length_map]; omega), ?_⟩⟩
      refine ⟨rs ++ [mx2 % 997], mx2, _, _, _, _, rfl, fun b u e => ?_, by rw [upd_same, mo], by simp; omega, by simp; omega, nn _ _ z1 (Int.emod_nonneg _ (by decide)), m2, m3⟩
      rw [upd_ne (ne_of_none e np)]
      exact s1 b u e
    · rintro σ G ⟨rs, mx, v4, v5, v6, v7, rfl, s1, g1, l2, l3, z1, m0, m1⟩
      refine ⟨_, rfl, _, rfl, _, rfl, p, _, rfl, SqL.of g1, fun l nl => ?_⟩
      have s2 := same_upd (o := .lst (cutV (rs.map V.int) none (some 400))) nl
      refine q l _ (rs.take 400) (s1.trans s2) (Same.free s1 nl) ?_ (by rw [List.length_take]; omega) (fun n hn => z1 n (List.mem_of_mem_take hn))
      rw [upd_same]
      have := cut_take (rs.map V.int) 400
      rw [show ((400 : Nat) : Int) = 400 from rfl] at this
      rw [this, List.map_take]
theorem run_l_start (h : sp_l_start K vs H Q E) : t_l_start K E (DQ Q) (start ns_l_start vs) H := by
  obtain ⟨a, ns, rfl, hS, hl, q⟩ := h
  intro d nd
  have s1 := same_upd (o := .dK []) nd
  refine ⟨_, rfl, a, ns, rfl, s1.seq hS, hl, fun p H1 rs s2 np hp l4 z1 => ?_⟩
  have hd := s2 _ _ (upd_same (H := H) (a := d) (o := .dK []))
  have npd : p ≠ d := fun z => by
    rw [z, upd_same] at np
    cases np
  refine ⟨hd, dr2 p 0, rfl, (by show 2 ≤ 15; decide), ?_⟩
  rw [dr2_merge]
  refine q d p _ (fun b o e => ?_) nd ?_ ⟨0, rs, upd_same, ?_, Int.le_refl _, l4, z1⟩
  · rw [upd_ne (ne_of_none e nd)]
    exact s2 b o (s1 b o e)
  · rw [upd_ne npd] at np
    exact np
  · rw [upd_ne npd]
    exact hp
theorem take_mod {j m : Int} (h : 0 < m) : 0 ≤ j % m ∧ j % m < m := ⟨Int.emod_nonneg _ (by omega), Int.emod_lt_of_pos _ h⟩
theorem run_l_kind (h : sp_l_kind K vs H Q E) : t_l_kind K E (DQ Q) (start ns_l_kind vs) H := by
  obtain ⟨d, rfl, r, hD, q⟩ := h
  refine ⟨(by show 7 ≤ sizeLine; decide), fun p np => ?_⟩
  refine ⟨_, rfl, d, rfl, r, hD.fresh np, fun j H1 j0 D1 M1 => ⟨_, _, rfl, rfl, (by show (0 : Int) < 7; decide), ?_⟩⟩
  have hp : H1 p = some (.lst (kindM.map mS)) := (M1 p (Ne.symm (hD.neD np))).trans upd_same
  obtain ⟨s, hs, e⟩ := menu_s (ss := kindM) (j := j % 7) (take_mod (by decide)).1 (take_mod (by decide)).2
  exact ⟨p, _, _, _, rfl, rfl, SqL.of hp, e, q s _ (((Kept.refl d H).put np).trans (Kept.of_moved M1)) D1 hs⟩
theorem run_l_name (h : sp_l_name K vs H Q E) : t_l_name K E (DQ Q) (start ns_l_name vs) H := by
  obtain ⟨d, rfl, r, hD, q⟩ := h
  refine ⟨(by show 6 ≤ sizeLine; decide), fun p np => ?_⟩
  refine ⟨_, rfl, d, rfl, r, hD.fresh np, fun j H1 j0 D1 M1 => ⟨_, _, rfl, rfl, (by show (0 : Int) < 6; decide), ?_⟩⟩
  have hp : H1 p = some (.lst (nameM.map mS)) := (M1 p (Ne.symm (hD.neD np))).trans upd_same
  obtain ⟨s, hs, e⟩ := menu_s (ss := nameM) (j := j % 6) (take_mod (by decide)).1 (take_mod (by decide)).2
  exact ⟨p, _, _, _, rfl, rfl, SqL.of hp, e, q s _ (((Kept.refl d H).put np).trans (Kept.of_moved M1)) D1 hs⟩
theorem vn_two {m i : Int} {w : Str} (hs : PyData.strOk w = true) (h : w = ("ref" : Str) → 0 ≤ i ∧ i < max 1 m) : VN m (.tuple [.str w, .int i]) := by
  refine ⟨⟨rfl, by simp [PyData.canLay0, PyData.canLayAll0, hs], by simp [PyData.depth, PyData.depthAll], by simp [nk, nkAll, NestedKey.depth, NestedKey.depthAll]⟩, ⟨w, _, rfl, fun _ => ⟨i, _, rfl⟩⟩, fun j e => ?_⟩
  have e : (if w = ("ref" : Str) then some i else none) = some j := e
  split at e
  · rename_i c
    cases e
    exact h c
  · cases e
theorem vn_one {m : Int} {w : Str} (hs : PyData.strOk w = true) (h : w ≠ ("ref" : Str)) : VN m (.tuple [.str w]) :=
  ⟨⟨rfl, by simp [PyData.canLay0, PyData.canLayAll0, hs], by simp [PyData.depth, PyData.depthAll], by simp [nk, nkAll, NestedKey.depth, NestedKey.depthAll]⟩, ⟨w, _, rfl, fun e => absurd e h⟩, fun j e => by cases e⟩
/-- a value of two parts -/
theorem val2 {d r : Addr} {w : Str} {i m : Int} {G : Hp} {Q : VK} (k : Kept d H G) (D : Dr G d r) (hs : PyData.strOk w = true) (h : w = ("ref" : Str) → 0 ≤ i ∧ i < max 1 m) (q : ∀ (v : V) (D : PyData) (H' : Hp), Kept d H H' → Dr H' d r → Tr H' v D → VN m D → Q v H') :
    [V.str w, V.int i].length ≤ sizeLine ∧ ∀ p, G p = none → Q (.ref p) (upd G p (.tup [V.str w, V.int i])) :=
  ⟨(by show 2 ≤ sizeLine; decide), fun p np => q _ (.tuple [.str w, .int i]) _ (Dr.kp k D np) (D.fresh np) (.tup upd_same (.cons (.str _) (.cons (.int _) .nil))) (vn_two hs h)⟩
theorem wd_ok : ∀ w ∈ [("ref" : Str), ("num" : Str), ("true" : Str), ("false" : Str), ("nothing" : Str), ("method" : Str), ("block" : Str)], PyData.strOk w = true := by decide +kernel
theorem wd_nr : ∀ w ∈ [("num" : Str), ("true" : Str), ("false" : Str), ("nothing" : Str), ("method" : Str), ("block" : Str)], w ≠ ("ref" : Str) := by decide +kernel
theorem menu_i {ns : List Int} {j : Int} (h0 : 0 ≤ j) (h1 : j < (ns.length : Int)) : ∃ z, atI (ns.map V.int) j = some (.int z) := by
  obtain ⟨n, rfl⟩ : ∃ n : Nat, j = (n : Int) := ⟨j.toNat, by omega⟩
  have hn : n < ns.length := by omega
  refine ⟨ns[n], atI_nat ?_⟩
  rw [List.getElem?_map, List.getElem?_eq_getElem hn]
  rfl
theorem menu_r {as : List Addr} {j : Int} (h0 : 0 ≤ j) (h1 : j < (as.length : Int)) : ∃ a ∈ as, atI (as.map V.ref) j = some (.ref a) := by
  obtain ⟨n, rfl⟩ : ∃ n : Nat, j = (n : Int) := ⟨j.toNat, by omega⟩
  have hn : n < as.length := by omega
  refine ⟨as[n], List.getElem_mem hn, atI_nat ?_⟩
  rw [List.getElem?_map, List.getElem?_eq_getElem hn]
  rfl
theorem run_l_value (h : sp_l_value K vs H Q E) : t_l_value K E (DQ Q) (start ns_l_value vs) H := by
  obtain ⟨d, m, rfl, r, hD, q⟩ := h
  refine ⟨_, rfl, d, rfl, r, hD, fun j H1 j0 D1 M1 => ⟨_, _, rfl, rfl, (by show (0 : Int) < 8; decide), ?_⟩⟩
  have K1 : Kept d H H1 := Kept.of_moved M1
  refine ⟨_, rfl, _, _, rfl, rfl, _, rfl, ite2 (fun _ => ?_) (fun _ => ?_)⟩
  · refine ⟨_, rfl, d, rfl, r, D1, fun k H2 k0 D2 M2 => ?_⟩
    refine ⟨_, rfl, _, _, rfl, ?_⟩
    have e : (if m > 1 then m else 1) = max 1 m := by split <;> omega
    rw [e]
    have t := take_mod (j := k) (m := max 1 m) (by omega)
    exact ⟨_, _, rfl, rfl, (by show (0 : Int) < max 1 m; omega), val2 (K1.trans (Kept.of_moved M2)) D2 (wd_ok _ (by decide +kernel)) (fun _ => t) q⟩
  refine ⟨_, rfl, rfl, _, rfl, ite2 (fun _ => ?_) (fun _ => ?_)⟩
  · refine ⟨_, rfl, _, _, rfl, rfl, ⟨by decide, by decide, by decide⟩, (by show 6 ≤ sizeLine; decide), fun p np => ?_⟩
    refine ⟨_, rfl, d, rfl, r, D1.fresh np, fun k H2 k0 D2 M2 => ⟨_, _, rfl, rfl, (by show (0 : Int) < 6; decide), ?_⟩⟩
    have hp : H2 p = some (.lst ([0, 1, 2, 7, -1, 10 ^ 15].map V.int)) := (M2 p (Ne.symm (D1.neD np))).trans upd_same
    obtain ⟨z, e⟩ := menu_i (ns := [0, 1, 2, 7, -1, 10 ^ 15]) (take_mod (j := k) (m := 6) (by decide)).1 (take_mod (by decide)).2
    exact ⟨p, _, _, _, rfl, rfl, SqL.of hp, e, val2 ((Dr.kp K1 D1 np).trans (Kept.of_moved M2)) D2 (wd_ok _ (by decide +kernel)) (fun z => absurd z (wd_nr _ (by decide +kernel))) q⟩
  refine ⟨_, rfl, rfl, _, rfl, ite2 (fun _ => ?_) (fun _ => ?_)⟩
  · refine ⟨(by show 1 ≤ sizeLine; decide), fun p1 n1 => ⟨(by show 1 ≤ sizeLine; decide), fun p2 n2 => ⟨(by show 1 ≤ sizeLine; decide), fun p3 n3 => ⟨(by show 3 ≤ sizeLine; decide), fun pl nl => ?_⟩⟩⟩⟩
    have A1 := D1.fresh (o := .tup [V.str ("true" : Str)]) n1
    have A2 := A1.fresh (o := .tup [V.str ("false" : Str)]) n2
    have A3 := A2.fresh (o := .tup [V.str ("nothing" : Str)]) n3
    have A4 := A3.fresh (o := .lst ([p1, p2, p3].map V.ref)) nl
    have K2 := Dr.kp (o := .tup [V.str ("true" : Str)]) K1 D1 n1
    have K3 := Dr.kp (o := .tup [V.str ("false" : Str)]) K2 A1 n2
    have K4 := Dr.kp (o := .tup [V.str ("nothing" : Str)]) K3 A2 n3
    have K5 := Dr.kp (o := .lst ([p1, p2, p3].map V.ref)) K4 A3 nl
    refine ⟨_, rfl, d, rfl, r, A4, fun k H2 k0 D2 M2 => ⟨_, _, rfl, rfl, (by show (0 : Int) < 3; decide), ?_⟩⟩
    have hp : H2 pl = some (.lst ([p1, p2, p3].map V.ref)) := (M2 pl (Ne.symm (A3.neD nl))).trans upd_same
    obtain ⟨z, hz, e⟩ := menu_r (as := [p1, p2, p3]) (take_mod (j := k) (m := 3) (by decide)).1 (take_mod (by decide)).2
    have t5 := A4.tk (Kept.of_moved M2)
    have t4 := (TK.new (o := .lst ([p1, p2, p3].map V.ref)) nl).trans t5
    have t3 := (TK.new (o := .tup [V.str ("nothing" : Str)]) n3).trans t4
    have t2 := (TK.new (o := .tup [V.str ("false" : Str)]) n2).trans t3
    have one : ∀ w : Str, w ∈ [("num" : Str), ("true" : Str), ("false" : Str), ("nothing" : Str), ("method" : Str), ("block" : Str)] → ∀ p, H2 p = some (.tup [V.str w]) → Q (.ref p) H2 := fun w hw p hp => q _ _ _ (K5.trans (Kept.of_moved M2)) D2 (.tup hp (.cons (.str _) .nil)) (vn_one (wd_ok _ (List.mem_cons_of_mem _ hw)) (wd_nr _ hw))
    refine ⟨pl, _, _, _, rfl, rfl, SqL.of hp, e, ?_⟩
    simp only [List.mem_cons, List.not_mem_nil, or_false] at hz
    rcases hz with rfl | rfl | rfl
    · exact one ("true" : Str) (by decide +kernel) _ (t2 _ _ upd_same)
    · exact one ("false" : Str) (by decide +kernel) _ (t3 _ _ upd_same)
    · exact one ("nothing" : Str) (by decide +kernel) _ (t4 _ _ upd_same)
  refine ⟨_, rfl, rfl, _, rfl, ite2 (fun _ => ?_) (fun _ => ?_)⟩
  · refine ⟨_, rfl, d, rfl, r, D1, fun k H2 k0 D2 M2 => ⟨_, _, rfl, rfl, (by show (0 : Int) < 3; decide), ?_⟩⟩
    exact val2 (K1.trans (Kept.of_moved M2)) D2 (wd_ok _ (by decide +kernel)) (fun z => absurd z (wd_nr _ (by decide +kernel))) q
  · exact ⟨(by show 1 ≤ sizeLine; decide), fun p np => q _ (.tuple [.str ("nothing" : Str)]) _ (Dr.kp K1 D1 np) (D1.fresh np) (.tup upd_same (.cons (.str _) .nil)) (vn_one (wd_ok _ (by decide +kernel)) (wd_nr _ (by decide +kernel)))⟩
/-! ### tuples cut and joined -/
theorem slA_ok {a : Addr} {us : List V} {lo hi : Option Int} {G : Hp} {Y : VK} (h : G a = some (.tup us)) (y : ∀ q G', Same G G' → G' q = some (.tup (cutV us lo hi)) → Y (.ref q) G') : rSlA K (.ref a) lo hi G Y := by
  refine ⟨a, us, rfl, SqT.of h, fun ⟨c1, c2⟩ => ?_, fun c p np => ?_⟩
  · refine y a G (fun _ _ z => z) ?_
    rw [h]
    unfold cutV
    rw [c1, c2, List.drop_zero, Nat.sub_zero, List.take_length]
  · exact y p _ (same_upd np) upd_same
theorem sl_from {a : Addr} {us : List V} {k : Int} {i : Nat} {te : TE} {σ : L2.St} {G : Hp} {Y : VK} (h : G a = some (.tup us)) (hi : σ[i]? = some (some (.ref a))) (ht : ∀ Z : VK, Z (.int k) G → te σ G Z) (y : ∀ q G', Same G G' → G' q = some (.tup (cutV us (some k) none)) → Y (.ref q) G') :
    (tSl (rSlA K) (tVar i) (oSome te) oNone) σ G Y := by
  refine ⟨_, hi, ht _ ⟨_, rfl, ?_⟩⟩
  show rSlA K (.ref a) (some k) none G Y
  exact slA_ok h y
theorem sl_to {a : Addr} {us : List V} {k : Int} {i : Nat} {te : TE} {σ : L2.St} {G : Hp} {Y : VK} (h : G a = some (.tup us)) (hi : σ[i]? = some (some (.ref a))) (ht : ∀ Z : VK, Z (.int k) G → te σ G Z) (y : ∀ q G', Same G G' → G' q = some (.tup (cutV us none (some k))) → Y (.ref q) G') :
    (tSl (rSlA K) (tVar i) oNone (oSome te)) σ G Y := by
  refine ⟨_, hi, ht _ ⟨_, rfl, ?_⟩⟩
  show rSlA K (.ref a) none (some k) G Y
  exact slA_ok h y
theorem catA_ok {a b : Addr} {xs ys : List V} {G : Hp} {Y : VK} (ha : G a = some (.tup xs)) (hb : G b = some (.tup ys)) (hl : xs.length + ys.length ≤ sizeLine) (y : ∀ q G', Same G G' → G' q = some (.tup (xs ++ ys)) → Y (.ref q) G') : rCatA K (.ref a) (.ref b) G Y := by
  refine ⟨a, b, xs, ys, rfl, rfl, SqT.of ha, SqT.of hb, hl, fun e => ?_, fun e1 e2 => ?_, fun _ _ p np => y p _ (same_upd np) upd_same⟩
  · subst e
    exact y b G (fun _ _ z => z) hb
  · subst e2
    exact y a G (fun _ _ z => z) (by rw [List.append_nil]; exact ha)
theorem putS_at : ∀ {ts : List Sl} {k : Nat} {s n : Sl}, ts[k]? = some s → s.name = n.name → (∀ j < k, ∀ t, ts[j]? = some t → t.name ≠ n.name) → putS ts n = ts.take k ++ [n] ++ ts.drop (k + 1)
  | [], k, s, n, h, _, _ => by simp at h
  | t :: ts, 0, s, n, h, e, _ => by
    cases h
    unfold putS
    rw [if_pos e]
    rfl
  | t :: ts, k + 1, s, n, h, e, hn => by
    have h0 := hn 0 (by omega) t rfl
    unfold putS
    rw [if_neg h0, putS_at (ts := ts) (k := k) (by simpa using h) e fun j hj u hu => hn (j + 1) (by omega) u (by simpa using hu)]
    rfl
theorem putS_end : ∀ {ts : List Sl} {n : Sl}, (∀ t ∈ ts, t.name ≠ n.name) → putS ts n = ts ++ [n]
  | [], n, _ => rfl
  | t :: ts, n, h => by
    unfold putS
    rw [if_neg (h t List.mem_cons_self), putS_end fun u hu => h u (List.mem_cons_of_mem _ hu)]
    rfl
theorem TrpR.app {us us' : List V} {ts ts' : List Sl} (h : TrpR H us ts) (h' : TrpR H us' ts') : TrpR H (us ++ us') (ts ++ ts') := by
  induction h with
  | nil => exact h'
  | cons h1 t1 r ih => exact .cons h1 t1 ih
theorem TrpR.tak {us : List V} {ts : List Sl} (h : TrpR H us ts) : ∀ k, TrpR H (us.take k) (ts.take k) := by
  induction h with
  | nil => intro k; simp; exact .nil
  | cons h1 t1 r ih =>
    intro k
    cases k with
    | zero => exact .nil
    | succ k => exact .cons h1 t1 (ih k)
theorem TrpR.drp {us : List V} {ts : List Sl} (h : TrpR H us ts) : ∀ k, TrpR H (us.drop k) (ts.drop k) := by
  induction h with
  | nil => intro k; simp; exact .nil
  | cons h1 t1 r ih =>
    intro k
    cases k with
    | zero => exact .cons h1 t1 r
    | succ k => exact ih k
theorem small_s {n : Nat} (h : n ≤ 5000) : n ≤ sizeLine := Nat.le_of_lt (Nat.lt_of_le_of_lt h (by decide))
theorem run_l_put (h : sp_l_put K vs H Q E) : t_l_put K E (DQ Q) (start ns_l_put vs) H := by
  obtain ⟨a, x, k, v, D, ts, rfl, t, tv, hl, q⟩ := h
  obtain ⟨us, hu, tr⟩ := sls_open t
  have lu := tr.len
  refine ⟨_, rfl, _, _, rfl, .inr ⟨_, SqT.of hu, rfl⟩, ?_⟩
  refine ⟨(us.length : Int), rfl, by omega, by omega, ?_⟩
  rw [Int.toNat_natCast]
  refine for_range (lo := 0) (n := us.length) (fun i σ G => ∃ v4 : Option V, σ = [some (.ref a), some (.str x), some (.str k), some v, v4] ∧ G = H ∧ ∀ j < i, ∀ t, ts[j]? = some t → t.name ≠ x) ⟨none, rfl, rfl, fun j hj => absurd hj (Nat.not_lt_zero _)⟩ ?_ ?_
  · rintro i σ G hi ⟨v4, rfl, rfl, hn⟩
    have hx : us[i]? = some us[i] := List.getElem?_eq_getElem hi
    obtain ⟨s, t1, v1, es, e1, ht, _⟩ := tr.at_ i hx
    have hx2 : atI us (0 + (i : Int)) = some (.ref t1) := at_of (j := i) (by simp) (hx.trans (congrArg some e1))
    refine ⟨_, rfl, _, rfl, a, _, _, _, rfl, rfl, SqT.of hu, hx2, t1, _, _, _, rfl, rfl, SqT.of ht, atI_nat (j := 0) rfl, _, rfl, rfl, _, rfl, ite2 (fun c => ?_) (fun c => ?_)⟩
    · have c : s.name = x := V.str.inj (of_decide_eq_true c)
      refine ⟨_, rfl, _, rfl, _, rfl, slA_ok hu fun q1 G1 s1 g1 => ?_⟩
      refine ⟨_, rfl, _, rfl, _, rfl, (by show 3 ≤ sizeLine; decide), fun p1 n1 => ⟨(by show 1 ≤ sizeLine; decide), fun p2 n2 => ?_⟩⟩
      have s2 := same_upd (o := .tup [V.str x, V.str k, v]) n1
      have s3 := same_upd (o := .tup [V.ref p1]) n2
      have e0 : (0 : Int) + (i : Int) = ((i : Nat) : Int) := by omega
      rw [e0, cut_take] at g1
      refine catA_ok (s3 _ _ (s2 _ _ g1)) upd_same (small_s (by rw [List.length_take]; simp; omega)) fun q4 G4 s4 g4 => ?_
      have S4 := ((s1.trans s2).trans s3).trans s4
      refine sl_from (k := (0 : Int) + (i : Int) + 1) (S4 _ _ hu) rfl (fun Z z => ⟨_, rfl, _, _, rfl, rfl, z⟩) fun q5 G5 s5 g5 => ?_
      have e2 : (0 : Int) + (i : Int) + 1 = ((i + 1 : Nat) : Int) := by omega
      rw [e2, cut_drop] at g5
      refine catA_ok (s5 _ _ g4) g5 (small_s (by rw [List.length_append, List.length_take, List.length_drop]; simp; omega)) fun q6 G6 s6 g6 => ?_
      have S6 := (S4.trans s5).trans s6
      refine q q6 G6 S6 (sls_make g6 ?_)
      rw [putS_at (k := i) es c hn]
      have r1 : TrpR G6 us ts := tr.keep fun b xs e => S6 b _ e
      refine TrpR.app (TrpR.app (TrpR.tak r1 i) ?_) (TrpR.drp r1 (i + 1))
      exact .cons (s6 _ _ (s5 _ _ (s4 _ _ (s3 _ _ upd_same)))) (tv.keep fun b xs e => S6 b _ e) .nil
    · refine ⟨_, rfl, rfl, fun j hj t ht => ?_⟩
      by_cases e : j = i
      · subst e
        rw [es] at ht
        cases ht
        exact fun z => c (decide_eq_true (congrArg V.str z))
      · exact hn j (by omega) t ht
  · rintro σ G ⟨v4, rfl, rfl, hn⟩
    have hno : ∀ t ∈ ts, t.name ≠ x := fun t ht => by
      obtain ⟨j, hj⟩ := List.mem_iff_getElem?.mp ht
      exact hn j (by have := (List.getElem?_eq_some_iff.mp hj).1; omega) t hj
    refine ⟨_, rfl, _, rfl, _, rfl, _, rfl, (by show 3 ≤ sizeLine; decide), fun p1 n1 => ⟨(by show 1 ≤ sizeLine; decide), fun p2 n2 => ?_⟩⟩
    have s2 := same_upd (o := .tup [V.str x, V.str k, v]) n1
    have s3 := same_upd (o := .tup [V.ref p1]) n2
    refine catA_ok (s3 _ _ (s2 _ _ hu)) upd_same (small_s (by simp; omega)) fun q4 G4 s4 g4 => ?_
    have S4 := (s2.trans s3).trans s4
    refine q q4 G4 S4 (sls_make g4 ?_)
    rw [putS_end (n := ⟨x, k, D⟩) hno]
    exact TrpR.snoc (s4 _ _ (s3 _ _ upd_same)) (tv.keep fun b xs e => S4 b _ e) (tr.keep fun b xs e => S4 b _ e)
theorem run_l_slots (h : sp_l_slots K vs H Q E) : t_l_slots K E (DQ Q) (start ns_l_slots vs) H := by
  obtain ⟨d, m, rfl, r, hD, q⟩ := h
  refine ⟨(by show 0 ≤ sizeLine; decide), fun p np => ?_⟩
  refine ⟨_, rfl, d, rfl, r, hD.fresh np, fun j H1 j0 D1 M1 => ⟨_, _, rfl, rfl, (by show (0 : Int) < 5; decide), ?_⟩⟩
  have t := take_mod (j := j) (m := 5) (by decide)
  obtain ⟨n, hn⟩ : ∃ n : Nat, j % 5 = (n : Int) := ⟨(j % 5).toNat, by omega⟩
  have hp : H1 p = some (.tup []) := (M1 p (Ne.symm (hD.neD np))).trans upd_same
  refine ⟨j % 5, rfl, by omega, by omega, ?_⟩
  rw [hn, Int.toNat_natCast]
  refine for_range (lo := 0) (n := n) (fun i σ G => ∃ (a : Addr) (ts : List Sl) (v3 : Option V), σ = [some (.ref d), some (.int m), some (.ref a), v3] ∧ Kept d H G ∧ Dr G d r ∧ Tr G (.ref a) (slsT ts) ∧ (∀ s ∈ ts, SN m s) ∧ NdS ts ∧ ts.length ≤ i)
    ⟨p, [], none, rfl, ((Kept.refl d H).put np).trans (Kept.of_moved M1), D1, .tup hp .nil, (fun s hs => by cases hs), List.nodup_nil, Nat.le_refl _⟩ ?_ ?_
  · rintro i σ G hi ⟨a, ts, v3, rfl, kp, D2, ta, sn, nd, l⟩
    refine ⟨_, rfl, _, rfl, d, rfl, r, D2, fun s1 G1 K1 A1 h1 => ?_⟩
    refine ⟨_, rfl, d, rfl, r, A1, fun s2 G2 K2 A2 h2 => ?_⟩
    refine ⟨_, rfl, _, rfl, d, m, rfl, r, A2, fun v D G3 K3 A3 tv vn => ?_⟩
    have K123 := (K1.trans K2).trans K3
    have tk := D2.tk K123
    refine ⟨a, Str.ofString s1, Str.ofString s2, v, D, ts, rfl, ta.keep tk, tv, by omega, fun q4 G4 s4 t4 => ?_⟩
    refine ⟨q4, _, _, rfl, (kp.trans K123).trans (Kept.of_same s4), A3.same s4, t4, fun s hs => ?_, putS_nd _ nd, Nat.le_trans (putS_len ts _) (by omega)⟩
    rcases putS_mem hs with hs | rfl
    · exact sn s hs
    · exact ⟨⟨s1, h1, rfl⟩, ⟨s2, h2, rfl⟩, vn⟩
  · rintro σ G ⟨a, ts, v3, rfl, kp, D2, ta, sn, nd, l⟩
    exact ⟨_, rfl, q a ts G kp D2 ta sn nd (by omega)⟩
theorem fix_kind : ∀ k ∈ kindM, (inV (.str (Str.ofString k)) ([V.str ("var" : Str), V.str ("varparent" : Str)])) = !isFix (Str.ofString k) := by decide +kernel
theorem run_l_row (h : sp_l_row K vs H Q E) : t_l_row K E (DQ Q) (start ns_l_row vs) H := by
  obtain ⟨a, ts, rfl, t, hk, hl, q⟩ := h
  obtain ⟨us, hu, tr⟩ := sls_open t
  have lu := tr.len
  refine ⟨(by show 0 ≤ sizeLine; decide), fun p np => ?_⟩
  refine ⟨_, rfl, a, rfl, ⟨_, SqT.of (same_upd np _ _ hu)⟩, ?_⟩
  refine for_it (walk_tup (xs := us)) (fun i σ G => ∃ (acc : List V) (v2 v3 v4 : Option V), σ = [some (.ref a), some (.ref p), v2, v3, v4] ∧ Same H G ∧ G p = some (.lst acc) ∧ TrpR G acc ((ts.take i).map rwS)) ⟨[], none, none, none, rfl, same_upd np, upd_same, .nil⟩ (fun i σ G _ ⟨_, _, _, _, _, s1, _⟩ => SqT.of (s1 _ _ hu)) ?_ ?_
  · rintro i x σ G G' hi ⟨acc, v2, v3, v4, rfl, s1, g1, r1⟩ ⟨rfl, hx⟩
    obtain ⟨s, t1, v, es, rfl, ht, tv⟩ := tr.at_ i hx
    have ht1 := s1 _ _ ht
    have la := r1.len
    rw [List.length_map, List.length_take] at la
    refine ⟨t1, _, rfl, SqT.of ht1, rfl, _, _, rfl, _, _, rfl, _, _, rfl, rfl, ?_⟩
    refine ⟨_, rfl, (by show 2 ≤ sizeLine; decide), fun p2 n2 => ?_⟩
    refine ⟨_, _, rfl, .inr (SqT.of upd_same), rfl, (by decide +kernel), _, rfl, ?_⟩
    obtain ⟨kx, hkx, ekx⟩ := hk s (List.mem_of_getElem? es)
    have eK : inV (.str s.kind) ([V.str ("var" : Str), V.str ("varparent" : Str)]) = !isFix s.kind := by
      rw [ekx]
      exact fix_kind kx hkx
    show (if inV (.str s.kind) ([V.str ("var" : Str), V.str ("varparent" : Str)]) = true then _ else _)
    rw [eK]
    have s2 := same_upd (o := .tup [V.str ("var" : Str), V.str ("varparent" : Str)]) n2
    have fin : ∀ (fv : V), Tr G' fv (fixV s.kind s.val) → ∀ p3, (upd G' p2 (.tup [V.str ("var" : Str), V.str ("varparent" : Str)])) p3 = none →
        (upd (upd (upd G' p2 (.tup [V.str ("var" : Str), V.str ("varparent" : Str)])) p3 (.tup [.str s.name, .str s.kind, fv])) p (.lst (acc ++ [.ref p3]))) = (upd (upd (upd G' p2 (.tup [V.str ("var" : Str), V.str ("varparent" : Str)])) p3 (.tup [.str s.name, .str s.kind, fv])) p (.lst (acc ++ [.ref p3]))) ∧
        (upd (upd G' p2 (.tup [V.str ("var" : Str), V.str ("varparent" : Str)])) p3 (.tup [.str s.name, .str s.kind, fv])) p = some (.lst acc) ∧ Same H (upd (upd (upd G' p2 (.tup [V.str ("var" : Str), V.str ("varparent" : Str)])) p3 (.tup [.str s.name, .str s.kind, fv])) p (.lst (acc ++ [.ref p3]))) ∧ TrpR (upd (upd (upd G' p2 (.tup [V.str ("var" : Str), V.str ("varparent" : Str)])) p3 (.tup [.str s.name, .str s.kind, fv])) p (.lst (acc ++ [.ref p3]))) (acc ++ [.ref p3]) ((ts.take (i + 1)).map rwS) := fun fv tf p3 n3 => by
      have s3 := same_upd (o := .tup [V.str s.name, V.str s.kind, fv]) n3
      have g3 := s3 _ _ (s2 _ _ g1)
      refine ⟨rfl, g3, fun b o e => ?_, ?_⟩
      · rw [upd_ne (ne_of_none e np)]
        exact s3 b o (s2 b o (s1 b o e))
      · rw [rowD_take es]
        have tk : TK (upd (upd G' p2 (.tup [V.str ("var" : Str), V.str ("varparent" : Str)])) p3 (.tup [.str s.name, .str s.kind, fv])) (upd (upd (upd G' p2 (.tup [V.str ("var" : Str), V.str ("varparent" : Str)])) p3 (.tup [.str s.name, .str s.kind, fv])) p (.lst (acc ++ [.ref p3]))) := fun b xs e => by
          rw [upd_ne (ne_of e g3 (by intro z; cases z))]
          exact e
        exact TrpR.snoc (tk _ _ upd_same) ((tf.keep fun b xs e => s3 b _ (s2 b _ e)).keep tk) ((r1.keep fun b xs e => s3 b _ (s2 b _ e)).keep tk)
    have lacc : acc.length < sizeLine := Nat.lt_of_le_of_lt (show acc.length ≤ 1000 by omega) (by decide)
    cases c : isFix s.kind with
    | false =>
      have fx : fixV s.kind s.val = .none := by unfold fixV; rw [c]; rfl
      refine iteT ⟨_, rfl, .inl ⟨rfl, _, SqL.of (s2 _ _ g1)⟩, _, rfl, _, rfl, (by show 3 ≤ sizeLine; decide), fun p3 n3 => ?_⟩
      obtain ⟨_, g3, s4, r4⟩ := fin .non (by rw [fx]; exact .non) p3 n3
      exact ⟨p, _, _, rfl, rfl, g3, lacc, _, _, _, _, rfl, s4, upd_same, r4⟩
    | true =>
      have fx : fixV s.kind s.val = s.val := by unfold fixV; rw [c]; rfl
      refine iteF ⟨_, rfl, .inl ⟨rfl, _, SqL.of (s2 _ _ g1)⟩, _, rfl, _, rfl, _, rfl, (by show 3 ≤ sizeLine; decide), fun p3 n3 => ?_⟩
      obtain ⟨_, g3, s4, r4⟩ := fin v (by rw [fx]; exact tv.keep fun b xs e => s1 b _ e) p3 n3
      exact ⟨p, _, _, rfl, rfl, g3, lacc, _, _, _, _, rfl, s4, upd_same, r4⟩
  · rintro σ G ⟨acc, v2, v3, v4, rfl, s1, g1, r1⟩
    rw [List.take_of_length_le (by omega)] at r1
    refine ⟨_, rfl, p, acc, rfl, .inl ⟨SqL.of g1, fun l nl => ?_⟩⟩
    have s2 := same_upd (o := .tup acc) nl
    exact q l _ (s1.trans s2) (Same.free s1 nl) (sls_make upd_same (r1.keep fun b xs e => s2 b _ e))
theorem run_l_is (h : sp_l_is K vs H Q E) : t_l_is K E (DQ Q) (start ns_l_is vs) H := by
  obtain ⟨i, j, rfl, q⟩ := h
  refine ⟨_, rfl, _, _, .type "int", .type "int", true, rfl, .ty "int", .base (.int i), kit_ty (by decide +kernel), _, rfl, iteT ?_⟩
  refine ⟨_, rfl, _, _, .type "int", .type "bool", false, rfl, .ty "bool", .base (.int i), kit_ty (by decide +kernel), _, rfl, _, rfl, iteT ?_⟩
  refine ⟨_, rfl, _, rfl, .int i, .int j, .int i, .int j, rfl, rfl, ?_⟩
  have e : PyData.eqv (.int i) (.int j) = decide (i = j) := by
    simp [PyData.eqv]
    rfl
  rw [e]
  exact q
end
end Rm.U

/-! O15: tuple * 0 (for k07). -/
namespace Rm
open PySem PySem.Spec PyProof.Rows L2
theorem tuple_mul0 (l : Addr) (items : Array Value) (n : Nat) (dd : Option Addr) (sl : Array (Option Value)) (u : Tok) (c1 : items.isEmpty = false) :
    Meets (Builtin.«tuple.__mul__» ⟨[.ref l, .int 0 u], []⟩) (fun _ R s => s.heap.get? l = some { cls := .type "tuple", dict := dd, data := .seq items n, slots := sl } ∧
      R (.ok (.ret (Value.ref s.heap.objs.size))) { s with heap := s.heap.push { cls := Value.type "tuple", data := Data.seq #[] }, toks := s.toks }) :=
  .of_wp fun prog w A R s h => by
    obtain ⟨hp, g, d, tk, os⟩ := s
    obtain ⟨hl, h⟩ := h
    have f1 := AutoSeq1.idx_int
    have c0 : (decide ((0 : Int) < -(2 ^ 63)) || decide ((0 : Int) ≥ 2 ^ 63)) = false := by decide
    have c2 : (items.isEmpty || (0 : Int) == 1) = false := by rw [c1]; rfl
    have c3 : (decide ((0 : Int) ≤ 0) || items.isEmpty) = true := rfl
    wp_walk using wpAny_loadPart' hl
    repeat (first
      | (refine wpAny_ite_false (decide_eq_false (by rw [c0]; exact Bool.false_ne_true)) ?_; wp_walk using wpAny_loadPart' hl)
      | (refine wpAny_ite_false (decide_eq_false (by rw [c2]; exact Bool.false_ne_true)) ?_; wp_walk using wpAny_loadPart' hl)
      | (refine wpAny_ite_true (decide_eq_true c3) ?_; wp_walk using wpAny_loadPart' hl))
    exact ⟨_, rfl, h⟩
def rRep0 (K : PySem.W.Frag) : R2 := fun x y H Q => ∃ l xs, x = .ref l ∧ y = .int 0 ∧ SqT K H l xs ∧ xs ≠ [] ∧ ∀ p, H p = none → Q (.ref p) (upd H p (.tup []))
section
variable {X : Cx}
theorem op_rep0 : OpR X (binaryOp .Mult) (rRep0 X.K) := by
  intro pins s σ H x y v u Q I rx ry h
  obtain ⟨l, xs, rfl, rfl, hT, hne, q⟩ := h
  cases rx
  obtain ⟨t, rfl⟩ := ry
  obtain ⟨its, r, ⟨⟨cls, dd, data, sl⟩, ho, hc, n, hd⟩, hs⟩ := I.tuple hT
  simp only at hc hd
  subst hc hd
  have hle : its.length = xs.length := r.length.symm
  have hi : its.toArray.isEmpty = false := by
    cases its with
    | nil => exact absurd (List.eq_nil_of_length_eq_zero hle.symm) hne
    | cons a b => rfl
  refine wpAny_binaryOp_repeat_ref (T := "tuple") (U := "int") (by decide) ⟨_, ho, rfl⟩ (fun s' => typeIs_int s' 0 t) noFill_tuple_mul F.fills_int_mul F.slot_int_rmul repeat_tuple F.slot_int_index.lookup
    (call_meets F.slot_int_rmul (typeIs_int s 0 t) F.entry_int_rmul (F.args_int_rmul_2 _ _) (int_rmul_tuple 0 t l its.toArray n dd sl)
      ⟨ho, rfl, ⟨_, ho, rfl⟩, call_meets F.slot_tuple_mul ⟨_, ho, rfl⟩ F.entry_tuple_mul (F.args_tuple_mul_2 _ _) (tuple_mul0 l its.toArray n dd sl t hi) ⟨ho, ?_⟩⟩)
  refine ⟨.ref s.heap.objs.size, _, I.laid (t' := s.toks) (o := .tup []) (fun b ob q => Heap.get?_push_of_some _ q) (Nat.le_refl _) ?_, rfl, q _ (I.hok.fresh (Nat.le_refl _))⟩
  exact ⟨by decide, _, .nil, IsTup.new _ _⟩
end
end Rm

/-! U27 (for k27): a plain machine: frames, its fields, the rows self, method, put, send; ticks. -/
namespace Rm.K27
open PySem PySem.Spec PyProof.Rows L2 Rm.Q
theorem iteFd {p : Bool} {A B : Prop} (e : p = false) (h : B) : if p = true then A else B := by
  rw [e]
  exact iteF h
theorem iteTd {p : Bool} {A B : Prop} (e : p = true) (h : A) : if p = true then A else B := by
  rw [e]
  exact iteT h
theorem sTr {H H1 H2 : Hp} (a : Same H H1) (b : Same H1 H2) : Same H H2 := a.trans b
theorem sTk {H H' : Hp} (s : Same H H') : TK H H' := fun a _ z => s a _ z
theorem trs_len {H : Hp} : ∀ {vs : List V} {ds : List PyData}, Trs H vs ds → vs.length = ds.length
  | _, _, .nil => rfl
  | _, _, .cons _ r => congrArg Nat.succ (trs_len r)
/-! ### instances of many fields -/
theorem zip_get {x : Str} {v : V} : ∀ {ns : List Str} {vs : List V} {i : Nat}, ns.Nodup → ns[i]? = some x → vs[i]? = some v → (ns.zip vs).lookup x = some v
  | [], _, i, _, h, _ => by cases i <;> cases h
  | _ :: _, [], i, _, _, h => by cases i <;> cases h
  | n :: ns, w :: vs, 0, _, h1, h2 => by
    cases h1
    cases h2
    exact lk_eq
  | n :: ns, w :: vs, i + 1, nd, h1, h2 => by
    obtain ⟨n1, n2⟩ := List.nodup_cons.mp nd
    have h1 : ns[i]? = some x := h1
    show List.lookup x ((n, w) :: ns.zip vs) = _
    rw [lk_ne (fun (e : x = n) => n1 (by rw [← e]; exact List.mem_of_getElem? h1))]
    exact zip_get n2 h1 h2
theorem zip_none {x : Str} : ∀ {ns : List Str} {vs : List V}, x ∉ ns → (ns.zip vs).lookup x = none
  | [], _, _ => rfl
  | _ :: _, [], _ => rfl
  | n :: ns, w :: vs, h => by
    show List.lookup x ((n, w) :: ns.zip vs) = _
    rw [lk_ne (fun (e : x = n) => h (by rw [e]; exact List.mem_cons_self))]
    exact zip_none fun z => h (List.mem_cons_of_mem _ z)
theorem zip_put {x : Str} {v : V} : ∀ {ns : List Str} {vs : List V} {i : Nat}, ns.Nodup → ns[i]? = some x → i < vs.length → putF x v (ns.zip vs) = ns.zip (vs.set i v)
  | [], _, i, _, h, _ => by cases i <;> cases h
  | _ :: _, [], i, _, _, h => by cases h
  | n :: ns, w :: vs, 0, _, h1, h2 => by
    cases h1
    exact pf_eq
  | n :: ns, w :: vs, i + 1, nd, h1, h2 => by
    obtain ⟨n1, n2⟩ := List.nodup_cons.mp nd
    have h1 : ns[i]? = some x := h1
    show putF x v ((n, w) :: ns.zip vs) = (n, w) :: ns.zip (vs.set i v)
    rw [pf_ne (fun (e : n = x) => n1 (by rw [e]; exact List.mem_of_getElem? h1)), zip_put n2 h1 (Nat.lt_of_succ_lt_succ h2)]
theorem zip_new {x : Str} {v : V} : ∀ {ns : List Str} {vs : List V}, ns.Nodup → ns[vs.length]? = some x → putF x v (ns.zip vs) = ns.zip (vs ++ [v])
  | [], _, _, h => by cases h
  | n :: ns, [], nd, h => by
    have e : n = x := Option.some.inj h
    subst e
    show putF n v [] = (n, v) :: ns.zip []
    rw [pf_nil, List.zip_nil_right]
  | n :: ns, w :: vs, nd, h => by
    obtain ⟨n1, n2⟩ := List.nodup_cons.mp nd
    have h1 : ns[vs.length]? = some x := h
    show putF x v ((n, w) :: ns.zip vs) = (n, w) :: ns.zip (vs ++ [v])
    rw [pf_ne (fun (e : n = x) => n1 (by rw [e]; exact List.mem_of_getElem? h1)), zip_new n2 h1]
/-! ### the machine -/
abbrev MC (K : PySem.W.Frag) : Addr := He.ga K ("PlainMachine" : Str)
def mcN : List Str := ["code", "objects", "scopes", "blocks", "frames", "events", "end", "ticks", "next_scope", "next_block", "last_mark"]
theorem mcN_nd : mcN.Nodup := by decide +kernel
structure MV where
  code : V
  ob : Addr
  sc : Addr
  bl : Addr
  fr : Addr
  ev : Addr
  en : V
  tk : Int
  ns : Int
  nb : Int
  lm : Int
def mcL (a : MV) : List V := [a.code, .ref a.ob, .ref a.sc, .ref a.bl, .ref a.fr, .ref a.ev, a.en, .int a.tk, .int a.ns, .int a.nb, .int a.lm]
structure McC (K : PySem.W.Frag) : Prop where
  cl : Cls K (MC K)
  na : ∀ x ∈ mcN, NoAttr K (MC K) x
/-- a frame -/
structure Fm where
  kind : String
  j : Nat
  row : Nat
  self_ : PyData
  holder : Int
  place : PyData
  st : List PyData
  mark : Int
abbrev dS (s : String) : PyData := .str (Str.ofString s)
def frD (f : Fm) : PyData := .tuple [dS f.kind, .int f.j, .int f.row, f.self_, .int f.holder, f.place, .tuple f.st, .int f.mark]
def NF (f : Fm) : Prop := ¬ V.str (Str.ofString f.kind) = V.str ("fast" : Str)
/-- a code of a program -/
structure Pc where
  pr : Nat
  pl : Nat
  cap : Bool
  rows : List PyData
def CdA (H : Hp) (v : V) (c : Pc) : Prop := ∃ a r, v = .ref a ∧ H a = some (.tup [.int c.pr, .int c.pl, .bl c.cap, .ref r]) ∧ Tr H (.ref r) (.tuple c.rows)
inductive CdsA (H : Hp) : List V → List Pc → Prop
  | nil : CdsA H [] []
  | cons {v : V} {vs : List V} {c : Pc} {cs : List Pc} (h : CdA H v c) (r : CdsA H vs cs) : CdsA H (v :: vs) (c :: cs)
theorem CdA.keep {H H' : Hp} {v : V} {c : Pc} (h : CdA H v c) (t : TK H H') : CdA H' v c := by
  obtain ⟨a, r, e, g, tr⟩ := h
  exact ⟨a, r, e, t _ _ g, tr.keep t⟩
theorem CdsA.keep {H H' : Hp} (t : TK H H') : ∀ {vs : List V} {cs : List Pc}, CdsA H vs cs → CdsA H' vs cs
  | _, _, .nil => .nil
  | _, _, .cons h r => .cons (h.keep t) (r.keep t)
theorem CdsA.at_ {H : Hp} : ∀ {vs : List V} {cs : List Pc} {i : Nat} {c : Pc}, CdsA H vs cs → cs[i]? = some c → ∃ v, vs[i]? = some v ∧ CdA H v c
  | _, _, i, _, .nil, e => by cases i <;> cases e
  | _, _, 0, _, .cons h _, e => by cases e; exact ⟨_, rfl, h⟩
  | _, _, i + 1, _, .cons _ r, e => r.at_ (i := i) e
def CoA (H : Hp) (v : V) (cs : List Pc) (mn : Nat) : Prop := ∃ a b vs, v = .ref a ∧ H a = some (.tup [.ref b, .int mn]) ∧ H b = some (.tup vs) ∧ CdsA H vs cs
theorem CoA.keep {H H' : Hp} {v : V} {cs : List Pc} {mn : Nat} (h : CoA H v cs mn) (t : TK H H') : CoA H' v cs mn := by
  obtain ⟨a, b, vs, e, g1, g2, r⟩ := h
  exact ⟨a, b, vs, e, t _ _ g1, t _ _ g2, r.keep t⟩
structure Mc (K : PySem.W.Frag) (H : Hp) (m dx : Addr) (a : MV) (odx otb : Addr) (tab : List En) (nx : Nat) (cs : List Pc) (mn : Nat) (fs : List PyData) : Prop where
  ins : H m = some (.ins (MC K) dx (mcN.zip (mcL a)))
  code : CoA H a.code cs mn
  obs : Ob K H a.ob odx otb tab nx
  frs : ∃ vs, H a.fr = some (.lst vs) ∧ Trs H vs fs
  nob : a.ob ≠ m
/-- a list may change -/
def FxF (b : Addr) (H H' : Hp) : Prop := ∀ x o, x ≠ b → H x = some o → H' x = some o
/-! ### promises -/
def sp_is_fast_frame (K : PySem.W.Frag) : Sp := fun vs H Q _ => ∃ (v : V) (f : Fm), vs = [v] ∧ Tr H v (frD f) ∧ NF f ∧ Q (.bl false) H
def sp_stack_of (K : PySem.W.Frag) : Sp := fun vs H Q _ => ∃ (v : V) (f : Fm), vs = [v] ∧ Tr H v (frD f) ∧ NF f ∧ ∀ q xs, H q = some (.tup xs) → Trs H xs f.st → Q (.ref q) H
def sp_moved (K : PySem.W.Frag) : Sp := fun vs H Q _ => ∃ (v sv : V) (f : Fm) (r : Nat) (st : List PyData), vs = [v, .int r, sv] ∧ Tr H v (frD f) ∧ NF f ∧ Tr H sv (.tuple st) ∧ ∀ q H', Same H H' → Tr H' (.ref q) (frD { f with row := r, st := st }) → Q (.ref q) H'
def sp_first_values (K : PySem.W.Frag) : Sp := fun vs H Q _ => ∃ (q : Addr) (xs : List V), vs = [.ref q, .int (xs.length : Nat)] ∧ H q = some (.tup xs) ∧ xs.length ≤ 1000 ∧ ∀ q' H', Same H H' → H' q' = some (.tup xs) → Q (.ref q') H'
def sp_without_top (K : PySem.W.Frag) : Sp := fun vs H Q _ => ∃ (q : Addr) (xs : List V) (n : Nat), vs = [.ref q, .int (n : Nat)] ∧ H q = some (.tup xs) ∧ n ≤ xs.length ∧ ∀ p a b H', Same H H' → H' p = some (.tup [.ref a, .ref b]) → H' a = some (.tup (xs.take (xs.length - n))) → H' b = some (.tup (xs.drop (xs.length - n))) → Q (.ref p) H'
def sp_method_index (K : PySem.W.Frag) : Sp := fun vs H Q _ => ∃ (v : V) (j : Nat), vs = [v] ∧ Tr H v (.tuple [dS "method", .tuple [dS "method", .int j]]) ∧ Q (.int (j : Nat)) H
def sp_Machine_make_scope (K : PySem.W.Frag) : Sp := fun _ _ _ _ => False
/-- a plain frame without a scope -/
def newF (kind : String) (j : Nat) (s : PyData) (h mk : Int) (ds : List PyData) (outer : Int) : Fm := ⟨kind, j, 0, s, h, .tuple [dS "locals", .tuple ds, .int outer], [], mk⟩
def sp_Machine_add_plain_frame (K : PySem.W.Frag) : Sp := fun vs H Q _ => ∃ (m dx : Addr) (a : MV) (odx otb : Addr) (tab : List En) (nx : Nat) (cs : List Pc) (mn : Nat) (fs : List PyData) (hv : V) (kind : String) (j : Nat) (c : Pc) (s : PyData) (h mk outer : Int) (q : Addr) (ds : List PyData), vs = [.ref m, hv, .int outer, .ref q] ∧ Mc K H m dx a odx otb tab nx cs mn fs ∧ Tr H hv (.tuple [dS kind, .int j, s, .int h, .int mk]) ∧ cs[j]? = some c ∧ c.cap = false ∧ c.pl = ds.length ∧ ds.length ≤ 1000 ∧ fs.length ≤ 1000000 ∧ Tr H (.ref q) (.tuple ds) ∧
  ∀ H', FxF a.fr H H' → Mc K H' m dx a odx otb tab nx cs mn (fs ++ [frD (newF kind j s h mk ds outer)]) → Q .non H'
def sp_Machine_add_plain_method (K : PySem.W.Frag) : Sp := fun vs H Q _ => ∃ (m dx : Addr) (a : MV) (odx otb : Addr) (tab : List En) (nx : Nat) (cs : List Pc) (mn : Nat) (fs : List PyData) (sv : V) (j : Nat) (c : Pc) (s : PyData) (h : Int) (q : Addr) (ds : List PyData), vs = [.ref m, .int (j : Nat), sv, .int h, .ref q] ∧ Mc K H m dx a odx otb tab nx cs mn fs ∧ Tr H sv s ∧ cs[j]? = some c ∧ c.cap = false ∧ c.pl = ds.length ∧ ds.length ≤ 1000 ∧ fs.length ≤ 1000000 ∧ Tr H (.ref q) (.tuple ds) ∧
  ∀ H', FxF a.fr H H' → Mc K H' m dx a odx otb tab nx cs mn (fs ++ [frD (newF "method" j s h 0 ds (-1))]) → Q .non H'
def sp_PlainMachine_add_method (K : PySem.W.Frag) : Sp := sp_Machine_add_plain_method K
def lobD : PyData := .tuple [dS "ref", .int 0]
def sp_Machine_init (K : PySem.W.Frag) : Sp := fun vs H Q _ => ∃ (m dx : Addr) (cv : V) (cs : List Pc) (mn : Nat) (c : Pc), vs = [.ref m, cv] ∧ H m = some (.ins (MC K) dx []) ∧ CoA H cv cs mn ∧ cs[mn]? = some c ∧ c.cap = false ∧ c.pl = 0 ∧
  ∀ a odx otb o H', (∀ b u, b ≠ m → H b = some u → H' b = some u) → Mc K H' m dx a odx otb [⟨0, o, [lobbyS]⟩] 1 cs mn [frD (newF "method" mn lobD 0 0 [] (-1))] → a.en = .non → a.tk = 0 → Q .non H'
def SrOk (tab : List En) (i : Int) : Prop := isId tab i ∧ Closed tab ∧ (∀ e ∈ tab, e.sl.length ≤ 1000000) ∧ fuel tab [i] ≤ 10000000
def sp_search_value (K : PySem.W.Frag) : Sp := fun vs H Q _ => ∃ (p dx tb : Addr) (tab : List En) (nx : Nat) (rv : V) (i : Int) (x : Str), vs = [.ref p, rv, .str x] ∧ Ob K H p dx tb tab nx ∧ Tr H rv (.tuple [dS "ref", .int i]) ∧ SrOk tab i ∧ ∀ q H', Same H H' → Tr H' (.ref q) (resD tab x (srch tab x [i])) → Q (.ref q) H'
def sp_PlainMachine_search_send (K : PySem.W.Frag) : Sp := fun vs H Q _ => ∃ (m dx : Addr) (a : MV) (odx otb : Addr) (tab : List En) (nx : Nat) (cs : List Pc) (mn : Nat) (fs : List PyData) (rv : V) (i : Int) (x : Str), vs = [.ref m, rv, .str x] ∧ Mc K H m dx a odx otb tab nx cs mn fs ∧ Tr H rv (.tuple [dS "ref", .int i]) ∧ SrOk tab i ∧ ∀ v H', Same H H' → Tr H' v (outD tab x (srch tab x [i]).2) → Q v H'
def sp_PlainMachine_tell_change (K : PySem.W.Frag) : Sp := fun vs H Q _ => ∃ (m : Addr) (i : Int), vs = [.ref m, .int i] ∧ Q .non H
def sp_go_on (K : PySem.W.Frag) : Sp := fun vs H Q _ => ∃ (m dx : Addr) (a : MV) (odx otb : Addr) (tab : List En) (nx : Nat) (cs : List Pc) (mn : Nat) (fs : List PyData) (f0 : PyData) (v sv : V) (f : Fm) (st : List PyData), vs = [.ref m, v, sv] ∧ Mc K H m dx a odx otb tab nx cs mn (fs ++ [f0]) ∧ Tr H v (frD f) ∧ NF f ∧ Tr H sv (.tuple st) ∧
  ∀ H', FxF a.fr H H' → Mc K H' m dx a odx otb tab nx cs mn (fs ++ [frD { f with row := f.row + 1, st := st }]) → Q .non H'
def sp_push (K : PySem.W.Frag) : Sp := fun vs H Q _ => ∃ (m dx : Addr) (a : MV) (odx otb : Addr) (tab : List En) (nx : Nat) (cs : List Pc) (mn : Nat) (fs : List PyData) (f0 : PyData) (v x : V) (f : Fm) (d : PyData), vs = [.ref m, v, x] ∧ Mc K H m dx a odx otb tab nx cs mn (fs ++ [f0]) ∧ Tr H v (frD f) ∧ NF f ∧ Tr H x d ∧ f.st.length ≤ 1000000 ∧
  ∀ H', FxF a.fr H H' → Mc K H' m dx a odx otb tab nx cs mn (fs ++ [frD { f with row := f.row + 1, st := f.st ++ [d] }]) → Q .non H'
/-- what a row does: the objects, the frames -/
inductive Stp (cs : List Pc) (tab : List En) (fs : List PyData) (f : Fm) (w : String) (ws : List PyData) (tab' : List En) (fs' : List PyData) : Prop
  | self_ (e0 : w = "self") (e1 : ws = []) (e2 : tab' = tab) (e3 : fs' = fs ++ [frD { f with row := f.row + 1, st := f.st ++ [f.self_] }])
  | meth (j : Nat) (e0 : w = "method") (e1 : ws = [.int j]) (e2 : tab' = tab) (e3 : fs' = fs ++ [frD { f with row := f.row + 1, st := f.st ++ [.tuple [dS "method", .int j]] }])
  | put (x k : Str) (st : List PyData) (e : En) (d : PyData) (he : e ∈ tab) (hd : ValOk d) (hl : e.sl.length ≤ 1000000) (hs : f.st = st ++ [.tuple [dS "ref", .int (e.id : Nat)], d]) (e0 : w = "put") (e1 : ws = [.str x, .str k]) (e2 : tab' = setE tab e.id (putS e.sl ⟨x, k, d⟩)) (e3 : fs' = fs ++ [frD { f with row := f.row + 1, st := st }])
  | send (x : Str) (st : List PyData) (i h : Int) (j : Nat) (c : Pc) (hs : f.st = st ++ [.tuple [dS "ref", .int i]]) (ok : SrOk tab i) (ho : outD tab x (srch tab x [i]).2 = .tuple [dS "found", .int h, dS "method", .tuple [dS "method", .int j]]) (hc : cs[j]? = some c) (c1 : c.cap = false) (c2 : c.pl = 0) (c3 : c.pr = 0) (hf : fs.length ≤ 900000)
      (e0 : w = "send") (e1 : ws = [.str x, .int 0]) (e2 : tab' = tab) (e3 : fs' = fs ++ [frD { f with row := f.row + 1, st := st }] ++ [frD (newF "method" j (.tuple [dS "ref", .int i]) h 0 [] (-1))])
def spR (K : PySem.W.Frag) (w : String) : Sp := fun vs H Q _ => ∃ (m dx : Addr) (a : MV) (odx otb : Addr) (tab : List En) (nx : Nat) (cs : List Pc) (mn : Nat) (fs : List PyData) (v rv : V) (f : Fm) (ws : List PyData) (tab' : List En) (fs' : List PyData), vs = [.ref m, v, rv] ∧ Mc K H m dx a odx otb tab nx cs mn (fs ++ [frD f]) ∧ Tr H v (frD f) ∧ NF f ∧ f.st.length ≤ 1000000 ∧ Tr H rv (.tuple (dS w :: ws)) ∧ Stp cs tab fs f w ws tab' fs' ∧
  ∀ H', Mc K H' m dx a odx otb tab' nx cs mn fs' → Q .non H'
def sp_do_self (K : PySem.W.Frag) : Sp := spR K "self"
def sp_do_method (K : PySem.W.Frag) : Sp := spR K "method"
def sp_do_put (K : PySem.W.Frag) : Sp := spR K "put"
def sp_do_send (K : PySem.W.Frag) : Sp := spR K "send"
def sp_do_found (K : PySem.W.Frag) : Sp := fun vs H Q _ => ∃ (m dx : Addr) (a : MV) (odx otb : Addr) (tab : List En) (nx : Nat) (cs : List Pc) (mn : Nat) (fs : List PyData) (f0 : PyData) (v sv ov av : V) (f : Fm) (s : PyData) (h : Int) (j : Nat) (c : Pc), vs = [.ref m, v, sv, ov, av] ∧ Mc K H m dx a odx otb tab nx cs mn (fs ++ [f0]) ∧ Tr H v (frD f) ∧ NF f ∧ Tr H sv s ∧ Tr H ov (.tuple [dS "found", .int h, dS "method", .tuple [dS "method", .int j]]) ∧ Tr H av (.tuple []) ∧ cs[j]? = some c ∧ c.cap = false ∧ c.pl = 0 ∧ c.pr = 0 ∧ fs.length ≤ 900000 ∧
  ∀ H', Mc K H' m dx a odx otb tab nx cs mn (fs ++ [frD { f with row := f.row + 1 }] ++ [frD (newF "method" j s h 0 [] (-1))]) → Q .non H'
def StepS (K : PySem.W.Frag) (a : Addr) (sp : Sp) : Prop := (a = He.ga K ("do_self" : Str) ∧ sp = sp_do_self K) ∨ (a = He.ga K ("do_method" : Str) ∧ sp = sp_do_method K) ∨ (a = He.ga K ("do_put" : Str) ∧ sp = sp_do_put K) ∨ (a = He.ga K ("do_send" : Str) ∧ sp = sp_do_send K)
def sp_do_row (K : PySem.W.Frag) : Sp := fun vs H Q _ => ∃ w ∈ ["self", "method", "put", "send"], spR K w vs H Q (fun _ _ _ => False)
def sp_next_row (K : PySem.W.Frag) : Sp := fun vs H Q _ => ∃ (m dx : Addr) (a : MV) (odx otb : Addr) (tab : List En) (nx : Nat) (cs : List Pc) (mn : Nat) (fs : List PyData) (v : V) (f : Fm) (c : Pc) (r : PyData), vs = [.ref m, v] ∧ Mc K H m dx a odx otb tab nx cs mn fs ∧ Tr H v (frD f) ∧ cs[f.j]? = some c ∧ c.rows[f.row]? = some r ∧ ∀ rv, Tr H rv r → Q rv H
def sp_PlainMachine_tick (K : PySem.W.Frag) : Sp := fun vs H Q _ => ∃ (m dx : Addr) (a : MV) (odx otb : Addr) (tab : List En) (nx : Nat) (cs : List Pc) (mn : Nat) (fs : List PyData) (f : Fm) (c : Pc) (w : String) (ws : List PyData) (tab' : List En) (fs' : List PyData), vs = [.ref m] ∧ Mc K H m dx a odx otb tab nx cs mn (fs ++ [frD f]) ∧ a.en = .non ∧ NF f ∧ f.st.length ≤ 1000000 ∧ cs[f.j]? = some c ∧ c.rows[f.row]? = some (.tuple (dS w :: ws)) ∧ w ∈ ["self", "method", "put", "send"] ∧ Stp cs tab fs f w ws tab' fs' ∧
  ∀ H', Mc K H' m dx { a with tk := a.tk + 1 } odx otb tab' nx cs mn fs' → Q .non H'
/-! ### readings -/

def ns_is_fast_frame : List Str := ["frame"]
def t_is_fast_frame (K : PySem.W.Frag) (E : XK) : TS :=
  (tRet (tOp rEq (tOp (rIxT K) (tVar 0) (tC (.int 0))) (tC (.str ("fast" : Str)))))

def ns_stack_of : List Str := ["frame"]
def t_stack_of (K : PySem.W.Frag) (E : XK) : TS :=
  (tSeq (tIfS (tB (tCall (sp_is_fast_frame K) [] E (tCons (tVar 0) tNil)))
      (tRet (tOp (rIxT K) (tVar 0) (tC (.int 5))))
      tNext)
    (tRet (tOp (rIxT K) (tVar 0) (tC (.int 6)))))

def ns_moved : List Str := ["frame", "row", "stack"]
def t_moved (K : PySem.W.Frag) (E : XK) : TS :=
  (tSeq (tIfS (tB (tCall (sp_is_fast_frame K) [] E (tCons (tVar 0) tNil)))
      (tRet (tTup (StX.tStar K (tSl (rSlA K) (tVar 0) oNone (oSome (tC (.int 2)))) (tCons (tVar 1) (StX.tStar K (tSl (rSlA K) (tVar 0) (oSome (tC (.int 3))) (oSome (tC (.int 5)))) (tCons (tVar 2) tNil))))))
      tNext)
    (tRet (tTup (StX.tStar K (tSl (rSlA K) (tVar 0) oNone (oSome (tC (.int 2)))) (tCons (tVar 1) (StX.tStar K (tSl (rSlA K) (tVar 0) (oSome (tC (.int 3))) (oSome (tC (.int 6)))) (tCons (tVar 2) (tCons (tOp (rIxT K) (tVar 0) (tC (.int 7))) tNil))))))))

def ns_first_values : List Str := ["args", "many"]
def t_first_values (K : PySem.W.Frag) (E : XK) : TS :=
  (tRet (tOp (rCatA K) (tVar 0) (tOp (rRep0 K) (tTup (tCons (tC (.ref (He.ga K ("NOTHING" : Str)))) tNil)) (tOp rSubI (tVar 1) (tCB (rLen K) (tCons (tVar 0) tNil))))))

def ns_without_top : List Str := ["stack", "many", "at"]
def t_without_top (K : PySem.W.Frag) (E : XK) : TS :=
  (tSeq (tAsg (tOp rSubI (tCB (rLen K) (tCons (tVar 0) tNil)) (tVar 1)) (gName 2))
    (tRet (tTup (tCons (tSl (rSlA K) (tVar 0) oNone (oSome (tVar 2))) (tCons (tSl (rSlA K) (tVar 0) (oSome (tVar 2)) oNone) tNil)))))

def ns_method_index : List Str := ["slot", "kind", "value"]
def t_method_index (K : PySem.W.Frag) (E : XK) : TS :=
  (tSeq (tAsg (tVar 0) (gTup K 2 (gCons (gName 1) (gCons (gName 2) gNil))))
    (tSeq (tIfS (tAnd (tTest (tOp rEq (tVar 1) (tC (.str ("method" : Str))))) (tTest (tOp rEq (tOp (rIxT K) (tVar 2) (tC (.int 0))) (tC (.str ("method" : Str))))))
      (tRet (tOp (rIxT K) (tVar 2) (tC (.int 1))))
      tNext)
    (tRet (tC .non))))

def ns_Machine_add_plain_frame : List Str := ["self", "head", "outer", "args", "kind", "j", "self_value", "holder", "mark", "_", "many", "captured", "values", "place"]
def t_Machine_add_plain_frame (K : PySem.W.Frag) (E : XK) : TS :=
  (tSeq (tAsg (tVar 1) (gTup K 5 (gCons (gName 4) (gCons (gName 5) (gCons (gName 6) (gCons (gName 7) (gCons (gName 8) gNil)))))))
    (tSeq (tAsg (tOp (rIxT K) (tOp (rIxT K) (tFld K (tVar 0) ("code" : Str)) (tC (.int 0))) (tVar 5)) (gTup K 4 (gCons (gName 9) (gCons (gName 10) (gCons (gName 11) (gCons (gName 9) gNil))))))
    (tSeq (tAsg (tCall (sp_first_values K) [] E (tCons (tVar 3) (tCons (tVar 10) tNil))) (gName 12))
    (tSeq (tIfS (tB (tVar 11))
      (tAsg (tTup (tCons (tC (.str ("scope" : Str))) (tCons (tMeth (He.ga K ("PlainMachine" : Str)) ("make_scope" : Str) (sp_Machine_make_scope K) [] E (tVar 0) (tCons (tVar 2) (tCons (tVar 12) tNil))) tNil))) (gName 13))
      (tAsg (tTup (tCons (tC (.str ("locals" : Str))) (tCons (tVar 12) (tCons (tVar 2) tNil)))) (gName 13)))
    (tDrop (tBM K "list" rAppend (tFld K (tVar 0) ("frames" : Str)) (tCons (tTup (tCons (tVar 4) (tCons (tVar 5) (tCons (tC (.int 0)) (tCons (tVar 6) (tCons (tVar 7) (tCons (tVar 13) (tCons (tTup tNil) (tCons (tVar 8) tNil))))))))) tNil)))))))

def ns_Machine_add_plain_method : List Str := ["self", "j", "self_value", "holder", "args", "captured", "mark"]
def t_Machine_add_plain_method (K : PySem.W.Frag) (E : XK) : TS :=
  (tSeq (tAsg (tOp (rIxT K) (tOp (rIxT K) (tOp (rIxT K) (tFld K (tVar 0) ("code" : Str)) (tC (.int 0))) (tVar 1)) (tC (.int 2))) (gName 5))
    (tSeq (tIfS (tB (tVar 5))
      (sFldAug K (tVar 0) (tC (.int 1)) rAdd ("last_mark" : Str))
      tNext)
    (tSeq (tAsg (tIf (tB (tVar 5)) (tFld K (tVar 0) ("last_mark" : Str)) (tC (.int 0))) (gName 6))
    (tDrop (tMeth (He.ga K ("PlainMachine" : Str)) ("add_plain_frame" : Str) (sp_Machine_add_plain_frame K) [] E (tVar 0) (tCons (tTup (tCons (tC (.str ("method" : Str))) (tCons (tVar 1) (tCons (tVar 2) (tCons (tVar 3) (tCons (tVar 6) tNil)))))) (tCons (tC (.int (-1))) (tCons (tVar 4) tNil))))))))

def ns_Machine_init : List Str := ["self", "code"]
def t_Machine_init (K : PySem.W.Frag) (E : XK) : TS :=
  (tSeq (sFld K (tVar 0) (tVar 1) ("code" : Str))
    (tSeq (sFld K (tVar 0) (tMake (He.ga K ("Objects" : Str)) (sp_Objects_init K) [] E tNil) ("objects" : Str))
    (tSeq (sFld K (tVar 0) tDNewK ("scopes" : Str))
    (tSeq (sFld K (tVar 0) tDNewK ("blocks" : Str))
    (tSeq (sFld K (tVar 0) (tLst tNil) ("frames" : Str))
    (tSeq (sFld K (tVar 0) (tLst tNil) ("events" : Str))
    (tSeq (sFld K (tVar 0) (tC .non) ("end" : Str))
    (tSeq (sFld K (tVar 0) (tC (.int 0)) ("ticks" : Str))
    (tSeq (sFld K (tVar 0) (tC (.int 0)) ("next_scope" : Str))
    (tSeq (sFld K (tVar 0) (tC (.int 0)) ("next_block" : Str))
    (tSeq (sFld K (tVar 0) (tC (.int 0)) ("last_mark" : Str))
    (tDrop (tMeth (He.ga K ("PlainMachine" : Str)) ("add_plain_method" : Str) (sp_Machine_add_plain_method K) [] E (tVar 0) (tCons (tOp (rIxT K) (tVar 1) (tC (.int 1))) (tCons (tTup (tCons (tC (.str ("ref" : Str))) (tCons (tC (.int 0)) tNil))) (tCons (tC (.int 0)) (tCons (tTup tNil) tNil)))))))))))))))))

def ns_search_value : List Str := ["objects", "value", "name"]
def t_search_value (K : PySem.W.Frag) (E : XK) : TS :=
  (tSeq (tIfS (tTest (tOp rNe (tOp (rIxT K) (tVar 1) (tC (.int 0))) (tC (.str ("ref" : Str)))))
      (tRet (tTup (tCons (tTup (tCons (tC (.str ("none" : Str))) tNil)) (tCons (tTup tNil) tNil))))
      tNext)
    (tRet (tCall (sp_search K) [] E (tCons (tVar 0) (tCons (tTup (tCons (tOp (rIxT K) (tVar 1) (tC (.int 1))) tNil)) (tCons (tVar 2) tNil))))))

def ns_PlainMachine_search_send : List Str := ["self", "receiver", "name", "outcome", "_"]
def t_PlainMachine_search_send (K : PySem.W.Frag) (E : XK) : TS :=
  (tSeq (tAsg (tCall (sp_search_value K) [] E (tCons (tFld K (tVar 0) ("objects" : Str)) (tCons (tVar 1) (tCons (tVar 2) tNil)))) (gTup K 2 (gCons (gName 3) (gCons (gName 4) gNil))))
    (tRet (tVar 3)))

def ns_PlainMachine_add_method : List Str := ["self", "j", "self_value", "holder", "args"]
def t_PlainMachine_add_method (K : PySem.W.Frag) (E : XK) : TS :=
  (tDrop (tMeth (He.ga K ("PlainMachine" : Str)) ("add_plain_method" : Str) (sp_Machine_add_plain_method K) [] E (tVar 0) (tCons (tVar 1) (tCons (tVar 2) (tCons (tVar 3) (tCons (tVar 4) tNil))))))

def ns_PlainMachine_tell_change : List Str := ["self", "object_id"]
def t_PlainMachine_tell_change (K : PySem.W.Frag) (E : XK) : TS :=
  tNext

def ns_go_on : List Str := ["machine", "frame", "stack"]
def t_go_on (K : PySem.W.Frag) (E : XK) : TS :=
  (tAsg (tCall (sp_moved K) [] E (tCons (tVar 1) (tCons (tOp rAddI (tOp (rIxT K) (tVar 1) (tC (.int 2))) (tC (.int 1))) (tCons (tVar 2) tNil)))) (gSub (tFld K (tVar 0) ("frames" : Str)) (tUn rNegI (tC (.int 1))) rSetL))

def ns_push : List Str := ["machine", "frame", "value"]
def t_push (K : PySem.W.Frag) (E : XK) : TS :=
  (tDrop (tCall (sp_go_on K) [] E (tCons (tVar 0) (tCons (tVar 1) (tCons (tOp (rCatA K) (tCall (sp_stack_of K) [] E (tCons (tVar 1) tNil)) (tTup (tCons (tVar 2) tNil))) tNil)))))

def ns_do_self : List Str := ["machine", "frame", "row"]
def t_do_self (K : PySem.W.Frag) (E : XK) : TS :=
  (tDrop (tCall (sp_push K) [] E (tCons (tVar 0) (tCons (tVar 1) (tCons (tOp (rIxT K) (tVar 1) (tC (.int 3))) tNil)))))

def ns_do_method : List Str := ["machine", "frame", "row"]
def t_do_method (K : PySem.W.Frag) (E : XK) : TS :=
  (tDrop (tCall (sp_push K) [] E (tCons (tVar 0) (tCons (tVar 1) (tCons (tTup (tCons (tC (.str ("method" : Str))) (tCons (tOp (rIxT K) (tVar 2) (tC (.int 1))) tNil))) tNil)))))

def ns_do_put : List Str := ["machine", "frame", "row", "stack", "receiver", "value"]
def t_do_put (K : PySem.W.Frag) (E : XK) (rz0 : TS) : TS :=
  (tSeq (tAsg (tCall (sp_without_top K) [] E (tCons (tCall (sp_stack_of K) [] E (tCons (tVar 1) tNil)) (tCons (tC (.int 2)) tNil))) (gTup K 2 (gCons (gName 3) (gCons (gTup K 2 (gCons (gName 4) (gCons (gName 5) gNil))) gNil))))
    (tSeq (tIfS (tTest (tOp rNe (tOp (rIxT K) (tVar 4) (tC (.int 0))) (tC (.str ("ref" : Str)))))
      rz0
      tNext)
    (tSeq (tDrop (tCall (sp_go_on K) [] E (tCons (tVar 0) (tCons (tVar 1) (tCons (tVar 3) tNil)))))
    (tSeq (tDrop (tMeth (He.ga K ("Objects" : Str)) ("put" : Str) (sp_Objects_put K) [] E (tFld K (tVar 0) ("objects" : Str)) (tCons (tOp (rIxT K) (tVar 4) (tC (.int 1))) (tCons (tOp (rIxT K) (tVar 2) (tC (.int 1))) (tCons (tOp (rIxT K) (tVar 2) (tC (.int 2))) (tCons (tVar 5) tNil))))))
    (tDrop (tMeth (He.ga K ("PlainMachine" : Str)) ("tell_change" : Str) (sp_PlainMachine_tell_change K) [] E (tVar 0) (tCons (tOp (rIxT K) (tVar 4) (tC (.int 1))) tNil)))))))

def ns_do_found : List Str := ["machine", "frame", "self_value", "outcome", "args", "_", "holder", "kind", "value", "j", "wanted"]
def t_do_found (K : PySem.W.Frag) (E : XK) (rz0 rz1 : TS) : TS :=
  (tSeq (tIfS (tTest (tOp rNe (tOp (rIxT K) (tVar 3) (tC (.int 0))) (tC (.str ("found" : Str)))))
      rz0
      tNext)
    (tSeq (tAsg (tVar 3) (gTup K 4 (gCons (gName 5) (gCons (gName 6) (gCons (gName 7) (gCons (gName 8) gNil))))))
    (tSeq (tAsg (tCall (sp_method_index K) [] E (tCons (tTup (tCons (tVar 7) (tCons (tVar 8) tNil))) tNil)) (gName 9))
    (tSeq (tAsg (tIf (tTest (tOp rIsN (tVar 9) (tC .non))) (tC (.int 0)) (tOp (rIxT K) (tOp (rIxT K) (tOp (rIxT K) (tFld K (tVar 0) ("code" : Str)) (tC (.int 0))) (tVar 9)) (tC (.int 0)))) (gName 10))
    (tSeq (tIfS (tTest (tOp rNe (tCB (rLen K) (tCons (tVar 4) tNil)) (tVar 10)))
      rz1
      tNext)
    (tIfS (tTest (tOp rIsN (tVar 9) (tC .non)))
      (tDrop (tCall (sp_push K) [] E (tCons (tVar 0) (tCons (tVar 1) (tCons (tVar 8) tNil)))))
      (tSeq (tDrop (tCall (sp_go_on K) [] E (tCons (tVar 0) (tCons (tVar 1) (tCons (tCall (sp_stack_of K) [] E (tCons (tVar 1) tNil)) tNil)))))
    (tDrop (tMeth (He.ga K ("PlainMachine" : Str)) ("add_method" : Str) (sp_PlainMachine_add_method K) [] E (tVar 0) (tCons (tVar 9) (tCons (tVar 2) (tCons (tVar 6) (tCons (tVar 4) tNil)))))))))))))

def ns_do_send : List Str := ["machine", "frame", "row", "_", "name", "many", "stack", "args", "outcome"]
def t_do_send (K : PySem.W.Frag) (E : XK) : TS :=
  (tSeq (tAsg (tVar 2) (gTup K 3 (gCons (gName 3) (gCons (gName 4) (gCons (gName 5) gNil)))))
    (tSeq (tAsg (tCall (sp_without_top K) [] E (tCons (tCall (sp_stack_of K) [] E (tCons (tVar 1) tNil)) (tCons (tVar 5) tNil))) (gTup K 2 (gCons (gName 6) (gCons (gName 7) gNil))))
    (tSeq (tAsg (tMeth (He.ga K ("PlainMachine" : Str)) ("search_send" : Str) (sp_PlainMachine_search_send K) [] E (tVar 0) (tCons (tOp (rIxT K) (tVar 6) (tUn rNegI (tC (.int 1)))) (tCons (tVar 4) tNil))) (gName 8))
    (tDrop (tCall (sp_do_found K) [] E (tCons (tVar 0) (tCons (tCall (sp_moved K) [] E (tCons (tVar 1) (tCons (tOp (rIxT K) (tVar 1) (tC (.int 2))) (tCons (tSl (rSlA K) (tVar 6) oNone (oSome (tUn rNegI (tC (.int 1))))) tNil)))) (tCons (tOp (rIxT K) (tVar 6) (tUn rNegI (tC (.int 1)))) (tCons (tVar 8) (tCons (tVar 7) tNil))))))))))

def ns_do_row : List Str := ["machine", "frame", "row", "step"]
def t_do_row (K : PySem.W.Frag) (w : World) (E : XK) : TS :=
  (tSeq (tAsg (tOp (rKIx K w) (tC (.ref (He.ga K ("STEPS" : Str)))) (tOp (rIxT K) (tVar 2) (tC (.int 0)))) (gName 3))
    (tDrop (tCallP 3 (StepS K) E (tCons (tVar 0) (tCons (tVar 1) (tCons (tVar 2) tNil))))))

def ns_next_row : List Str := ["machine", "frame"]
def t_next_row (K : PySem.W.Frag) (E : XK) : TS :=
  (tRet (tOp (rIxT K) (tOp (rIxT K) (tOp (rIxT K) (tOp (rIxT K) (tFld K (tVar 0) ("code" : Str)) (tC (.int 0))) (tOp (rIxT K) (tVar 1) (tC (.int 1)))) (tC (.int 3))) (tOp (rIxT K) (tVar 1) (tC (.int 2)))))

def ns_PlainMachine_tick : List Str := ["self", "frame", "error"]
def t_PlainMachine_tick (K : PySem.W.Frag) (E : XK) : TS :=
  (tSeq (tIfS (tTest (tOp rNotN (tFld K (tVar 0) ("end" : Str)) (tC .non)))
      tRetN
      tNext)
    (tSeq (sFldAug K (tVar 0) (tC (.int 1)) rAdd ("ticks" : Str))
    (tSeq (tAsg (tOp (rIxL K) (tFld K (tVar 0) ("frames" : Str)) (tUn rNegI (tC (.int 1)))) (gName 1))
    (tTry K (fun _ _ _ _ => False) (fun W => (tDrop (tCallS (sp_do_row K) (WE W) (tCons (tVar 0) (tCons (tVar 1) (tCons (tCallS (sp_next_row K) (WE W) (tCons (tVar 0) (tCons (tVar 1) tNil))) tNil)))))) [(.ref (He.ga K ("RowError" : Str)), 2, fun xa xc xd => (sFld K (tVar 0) (tTup (tCons (tC (.str ("error" : Str))) (tCons (tXf xa xc xd (He.ga K ("RowError" : Str)) ("problem" : Str) (tVar 2)) tNil))) ("end" : Str)))]))))

theorem fr_in {H : Hp} {v : V} {f : Fm} (h : Tr H v (frD f)) : ∃ a x3 x5 x6, v = .ref a ∧ H a = some (.tup [mS f.kind, .int f.j, .int f.row, x3, .int f.holder, x5, x6, .int f.mark]) ∧ Tr H x3 f.self_ ∧ Tr H x5 f.place ∧ Tr H x6 (.tuple f.st) := by
  obtain ⟨kd, j, row, s, hh, pl, st, mk⟩ := f
  have h : Tr H v (.tuple [dS kd, .int j, .int row, s, .int hh, pl, .tuple st, .int mk]) := h
  cases h with
  | tup ha r =>
  cases r with
  | cons h1 r =>
  cases r with
  | cons h2 r =>
  cases r with
  | cons h3 r =>
  cases r with
  | cons h4 r =>
  cases r with
  | cons h5 r =>
  cases r with
  | cons h6 r =>
  cases r with
  | cons h7 r =>
  cases r with
  | cons h8 r =>
  cases r
  cases h1
  cases h2
  cases h3
  cases h5
  cases h8
  exact ⟨_, _, _, _, rfl, ha, h4, h6, h7⟩
theorem tup_in {H : Hp} {v : V} {ds : List PyData} (h : Tr H v (.tuple ds)) : ∃ a xs, v = .ref a ∧ H a = some (.tup xs) ∧ Trs H xs ds := by
  cases h with
  | tup ha r => exact ⟨_, _, rfl, ha, r⟩
theorem pair_in {H : Hp} {v : V} {w : String} {d : PyData} (h : Tr H v (.tuple [dS w, d])) : ∃ a x, v = .ref a ∧ H a = some (.tup [mS w, x]) ∧ Tr H x d :=
  match h with
  | .tup ha (.cons (.str _) (.cons h2 .nil)) => ⟨_, _, rfl, ha, h2⟩
theorem sl_mid {K : PySem.W.Frag} {a : Addr} {us : List V} {k1 k2 : Int} {i : Nat} {te1 te2 : TE} {σ : L2.St} {G : Hp} {Y : VK} (h : G a = some (.tup us)) (hi : σ[i]? = some (some (.ref a))) (ht1 : ∀ Z : VK, Z (.int k1) G → te1 σ G Z) (ht2 : ∀ Z : VK, Z (.int k2) G → te2 σ G Z) (y : ∀ q G', Same G G' → G' q = some (.tup (cutV us (some k1) (some k2))) → Y (.ref q) G') :
    (tSl (rSlA K) (tVar i) (oSome te1) (oSome te2)) σ G Y := by
  refine ⟨_, hi, ht1 _ ⟨_, rfl, ht2 _ ⟨_, rfl, ?_⟩⟩⟩
  show rSlA K (.ref a) (some k1) (some k2) G Y
  exact U.slA_ok h y
section
variable {K : PySem.W.Frag} {vs : List V} {H : Hp} {Q : VK} {E : XK}
theorem run_is_fast_frame (h : sp_is_fast_frame K vs H Q E) : t_is_fast_frame K E (DQ Q) (start ns_is_fast_frame vs) H := by
  obtain ⟨v, f, rfl, tr, nf, q⟩ := h
  obtain ⟨a, x3, x5, x6, rfl, ha, t3, t5, t6⟩ := fr_in tr
  refine ⟨_, rfl, a, _, _, _, rfl, rfl, SqT.of ha, atI_nat (j := 0) rfl, rfl, ?_⟩
  show Q (.bl (decide (mS f.kind = V.str ("fast" : Str)))) H
  rw [decide_eq_false nf]
  exact q
theorem run_stack_of (h : sp_stack_of K vs H Q E) : t_stack_of K E (DQ Q) (start ns_stack_of vs) H := by
  obtain ⟨v, f, rfl, tr, nf, q⟩ := h
  refine ⟨_, rfl, v, f, rfl, tr, nf, _, rfl, iteF ?_⟩
  obtain ⟨a, x3, x5, x6, rfl, ha, t3, t5, t6⟩ := fr_in tr
  obtain ⟨b, xs, rfl, hb, ts⟩ := tup_in t6
  exact ⟨_, rfl, a, _, _, _, rfl, rfl, SqT.of ha, atI_nat (j := 6) rfl, q b xs hb ts⟩
theorem run_moved (h : sp_moved K vs H Q E) : t_moved K E (DQ Q) (start ns_moved vs) H := by
  obtain ⟨v, sv, f, r, st, rfl, tr, nf, ts, q⟩ := h
  refine ⟨_, rfl, v, f, rfl, tr, nf, _, rfl, iteF ?_⟩
  obtain ⟨a, x3, x5, x6, rfl, ha, t3, t5, t6⟩ := fr_in tr
  refine U.sl_to ha rfl (fun _ z => z) fun q1 G1 s1 g1 => ⟨q1, _, rfl, .inl (SqT.of g1), _, rfl, ?_⟩
  refine sl_mid (s1 _ _ ha) rfl (fun _ z => z) (fun _ z => z) fun q2 G2 s2 g2 => ⟨q2, _, rfl, .inl (SqT.of g2), _, rfl, ?_⟩
  have s12 := sTr s1 s2
  refine ⟨_, rfl, a, _, _, _, rfl, rfl, SqT.of (s12 _ _ ha), atI_nat (j := 7) rfl, ?_⟩
  refine ⟨(by show 8 ≤ sizeLine; decide), fun p np => ?_⟩
  have s3 := same_upd (o := .tup [mS f.kind, .int f.j, .int r, x3, .int f.holder, x5, sv, .int f.mark]) np
  have k := sTk (sTr s12 s3)
  exact q p _ (sTr s12 s3) (.tup upd_same (.cons (.str _) (.cons (.int _) (.cons (.int _) (.cons (t3.keep k) (.cons (.int _) (.cons (t5.keep k) (.cons (ts.keep k) (.cons (.int _) .nil)))))))))
theorem run_first_values (h : sp_first_values K vs H Q E) : t_first_values K E (DQ Q) (start ns_first_values vs) H := by
  obtain ⟨a, xs, rfl, ha, hl, q⟩ := h
  refine ⟨_, rfl, (by show 1 ≤ sizeLine; decide), fun p np => ?_⟩
  have s1 := same_upd (o := .tup [V.ref (He.ga K ("NOTHING" : Str))]) np
  have gp : (upd H p (.tup [V.ref (He.ga K ("NOTHING" : Str))])) p = some (.tup [V.ref (He.ga K ("NOTHING" : Str))]) := upd_same
  generalize upd H p (.tup [V.ref (He.ga K ("NOTHING" : Str))]) = H1 at s1 gp ⊢
  have ha1 := s1 _ _ ha
  have e0 : ((xs.length : Nat) : Int) - ((xs.length : Nat) : Int) = 0 := by omega
  refine ⟨_, rfl, _, rfl, _, _, rfl, .inr ⟨_, SqT.of ha1, rfl⟩, _, _, rfl, rfl, p, _, rfl, congrArg V.int e0, SqT.of gp, (by intro z; cases z), fun p2 np2 => ?_⟩
  have s2 := same_upd (o := .tup []) np2
  refine U.catA_ok (s2 _ _ ha1) upd_same (Nat.le_trans (show xs.length + 0 ≤ 1000 by omega) (by decide)) fun q' G' s3 g => ?_
  rw [List.append_nil] at g
  exact q q' G' (sTr s1 (sTr s2 s3)) g
theorem run_without_top (h : sp_without_top K vs H Q E) : t_without_top K E (DQ Q) (start ns_without_top vs) H := by
  obtain ⟨a, xs, n, rfl, ha, hl, q⟩ := h
  have e0 : ((xs.length : Nat) : Int) - ((n : Nat) : Int) = ((xs.length - n : Nat) : Int) := by omega
  refine ⟨_, rfl, _, _, rfl, .inr ⟨_, SqT.of ha, rfl⟩, _, rfl, _, _, rfl, rfl, ?_⟩
  refine U.sl_to (k := ((xs.length : Nat) : Int) - ((n : Nat) : Int)) ha rfl (fun Z z => ⟨_, rfl, z⟩) fun q1 G1 s1 g1 => ?_
  refine U.sl_from (k := ((xs.length : Nat) : Int) - ((n : Nat) : Int)) (s1 _ _ ha) rfl (fun Z z => ⟨_, rfl, z⟩) fun q2 G2 s2 g2 => ?_
  refine ⟨(by show 2 ≤ sizeLine; decide), fun p np => ?_⟩
  have s3 := same_upd (o := .tup [V.ref q1, V.ref q2]) np
  have i1 : HT.sIx xs.length xs.length (some ((xs.length - n : Nat) : Int)) = xs.length - n := by
    simp only [HT.sIx]
    split <;> omega
  have i2 : HT.sIx xs.length 0 (some ((xs.length - n : Nat) : Int)) = xs.length - n := by
    simp only [HT.sIx]
    split <;> omega
  have c1 : cutV xs none (some (((xs.length : Nat) : Int) - ((n : Nat) : Int))) = xs.take (xs.length - n) := by
    unfold cutV
    rw [e0, i1, show HT.sIx xs.length 0 none = 0 from rfl, List.drop_zero, Nat.sub_zero]
  have c2 : cutV xs (some (((xs.length : Nat) : Int) - ((n : Nat) : Int))) none = xs.drop (xs.length - n) := by
    unfold cutV
    rw [e0, i2, show HT.sIx xs.length xs.length none = xs.length from rfl]
    exact List.take_of_length_le (by rw [List.length_drop]; omega)
  rw [c1] at g1
  rw [c2] at g2
  exact q p q1 q2 _ (sTr s1 (sTr s2 s3)) upd_same (s3 _ _ (s2 _ _ g1)) (s3 _ _ g2)
theorem run_method_index (h : sp_method_index K vs H Q E) : t_method_index K E (DQ Q) (start ns_method_index vs) H := by
  obtain ⟨v, j, rfl, tr, q⟩ := h
  obtain ⟨a, x, rfl, ha, t2⟩ := pair_in tr
  obtain ⟨b, y, rfl, hb, t3⟩ := pair_in t2
  cases t3
  refine ⟨_, rfl, a, _, rfl, SqT.of ha, rfl, _, _, rfl, _, _, rfl, rfl, ?_⟩
  refine ⟨_, rfl, rfl, _, rfl, ?_⟩
  refine iteTd (decide_eq_true rfl) ?_
  refine ⟨_, rfl, b, _, _, _, rfl, rfl, SqT.of hb, atI_nat (j := 0) rfl, rfl, _, rfl, iteTd (decide_eq_true rfl) ?_⟩
  exact ⟨_, rfl, b, _, _, _, rfl, rfl, SqT.of hb, atI_nat (j := 1) rfl, q⟩
theorem mcI {i : Nat} {x : Str} {a : MV} {v : V} (h1 : mcN[i]? = some x) (h2 : (mcL a)[i]? = some v) : (mcN.zip (mcL a)).lookup x = some v := zip_get mcN_nd h1 h2
theorem tkp {G : Hp} {b : Addr} {xs ys : List V} (h : G b = some (.lst xs)) : TK G (upd G b (.lst ys)) := fun x ds z => by
  rw [upd_ne (ne_of z h (by intro e; cases e))]
  exact z
theorem Mc.same {m dx : Addr} {a : MV} {odx otb : Addr} {tab : List En} {nx : Nat} {cs : List Pc} {mn : Nat} {fs : List PyData} {G G' : Hp} (M : Mc K G m dx a odx otb tab nx cs mn fs) (s : Same G G') : Mc K G' m dx a odx otb tab nx cs mn fs := by
  obtain ⟨vs, g, t⟩ := M.frs
  exact ⟨s _ _ M.ins, M.code.keep (sTk s), M.obs.same s, ⟨vs, s _ _ g, t.keep (sTk s)⟩, M.nob⟩
theorem Mc.setF {m dx : Addr} {a : MV} {odx otb : Addr} {tab : List En} {nx : Nat} {cs : List Pc} {mn : Nat} {fs fs' : List PyData} {G : Hp} {us : List V} (M : Mc K G m dx a odx otb tab nx cs mn fs) (t : Trs G us fs') : Mc K (upd G a.fr (.lst us)) m dx a odx otb tab nx cs mn fs' := by
  obtain ⟨vs, g, _⟩ := M.frs
  have k : TK G (upd G a.fr (.lst us)) := tkp g
  have O := M.obs
  refine ⟨(upd_ne (ne_of M.ins g (by intro z; cases z))).trans M.ins, M.code.keep k, O.keep (upd_ne (ne_of O.ins g (by intro z; cases z))) (upd_ne (ne_of O.tbl g (by intro z; cases z))) (fun e he => ?_) k, ⟨us, upd_same, t.keep k⟩, M.nob⟩
  obtain ⟨kvs, ge, _⟩ := O.ent e he
  exact upd_ne (ne_of ge g (by intro z; cases z))
theorem fx_set {b : Addr} {o : HO} {G G' : Hp} (s : Same G G') : FxF b G (upd G' b o) := fun x u n z => by
  rw [upd_ne n]
  exact s _ _ z
theorem run_Machine_add_plain_frame (C : McC K) (h : sp_Machine_add_plain_frame K vs H Q E) : t_Machine_add_plain_frame K E (DQ Q) (start ns_Machine_add_plain_frame vs) H := by
  obtain ⟨m, dx, a, odx, otb, tab, nx, cs, mn, fs, hv, kind, j, c, s, hh, mk, outer, qa, ds, rfl, M, th, hc, c1, c2, l1, l2, ta, q⟩ := h
  obtain ⟨ah, hxs, rfl, gh, trh⟩ := tup_in th
  cases trh with
  | cons t1 r =>
  cases r with
  | cons t2 r =>
  cases r with
  | @cons v3 _ _ _ t3 r =>
  cases r with
  | cons t4 r =>
  cases r with
  | cons t5 r =>
  cases r
  cases t1
  cases t2
  cases t4
  cases t5
  refine ⟨_, rfl, ah, _, rfl, SqT.of gh, rfl, _, _, rfl, _, _, rfl, _, _, rfl, _, _, rfl, _, _, rfl, rfl, ?_⟩
  obtain ⟨pa, pb, pvs, ec, g1, g2, cd⟩ := M.code
  obtain ⟨v0, hv0, ca⟩ := cd.at_ hc
  obtain ⟨ca1, cr, rfl, gc, trc⟩ := ca
  refine ⟨_, rfl, m, _, dx, _, _, rfl, M.ins, C.cl, C.na _ (by decide +kernel), mcI (i := 0) rfl rfl, ?_⟩
  refine ⟨pa, _, _, _, ec, rfl, SqT.of g1, atI_nat (j := 0) rfl, _, rfl, pb, pvs, _, _, rfl, rfl, SqT.of g2, atI_nat hv0, ?_⟩
  refine ⟨ca1, _, rfl, SqT.of gc, rfl, _, _, rfl, _, _, rfl, _, _, rfl, _, _, rfl, rfl, ?_⟩
  obtain ⟨aq, xq, e, gq, trq⟩ := tup_in ta
  cases e
  have lq := trs_len trq
  refine ⟨_, rfl, _, rfl, qa, xq, ?_, gq, by omega, fun q' H1 s1 gq1 => ?_⟩
  · show [V.ref qa, V.int ((c.pl : Nat) : Int)] = _
    rw [c2, lq]
  refine ⟨_, rfl, c.cap, rfl, iteFd c1 ?_⟩
  refine ⟨_, rfl, _, rfl, (by show 3 ≤ sizeLine; decide), fun p np => ?_⟩
  have s2 := same_upd (o := .tup [V.str ("locals" : Str), .ref q', .int outer]) np
  have gp : (upd H1 p (.tup [V.str ("locals" : Str), .ref q', .int outer])) p = some (.tup [V.str ("locals" : Str), .ref q', .int outer]) := upd_same
  generalize upd H1 p (.tup [V.str ("locals" : Str), .ref q', .int outer]) = H2 at s2 gp ⊢
  have s12 := sTr s1 s2
  have M2 := M.same s12
  obtain ⟨ws, gf, tf⟩ := M2.frs
  have lf := trs_len tf
  refine ⟨_, rfl, m, _, dx, _, _, rfl, M2.ins, C.cl, C.na _ (by decide +kernel), mcI (i := 4) rfl rfl, .inl ⟨rfl, _, SqL.of gf⟩, _, rfl, _, rfl, _, rfl, _, rfl, _, rfl, (by show 0 ≤ sizeLine; decide), fun e0 ne0 => ?_⟩
  have s3 := same_upd (o := .tup []) ne0
  have ge : (upd H2 e0 (.tup [])) e0 = some (.tup []) := upd_same
  generalize upd H2 e0 (.tup []) = H3 at s3 ge ⊢
  refine ⟨_, rfl, (by show 8 ≤ sizeLine; decide), fun fa nfa => ?_⟩
  have s4 := same_upd (o := .tup [V.str (Str.ofString kind), .int j, .int 0, v3, .int hh, .ref p, .ref e0, .int mk]) nfa
  have s34 := sTr s3 s4
  have s14 := sTr s12 s34
  have k14 := sTk s14
  refine ⟨a.fr, ws, .ref fa, rfl, rfl, s34 _ _ gf, Nat.lt_of_le_of_lt (show ws.length ≤ 1000000 by omega) (by decide), ?_⟩
  refine q _ (fx_set s14) ((M2.same s34).setF (Trs.snoc ?_ (tf.keep (sTk s34))))
  exact .tup upd_same (.cons (.str _) (.cons (.int _) (.cons (.int _) (.cons (t3.keep k14) (.cons (.int _) (.cons (.tup (s34 _ _ gp) (.cons (.str _) (.cons (.tup (sTr s2 s34 _ _ gq1) (trq.keep k14)) (.cons (.int _) .nil)))) (.cons (.tup (s4 _ _ ge) .nil) (.cons (.int _) .nil))))))))
theorem run_Machine_add_plain_method (C : McC K) (h : sp_Machine_add_plain_method K vs H Q E) : t_Machine_add_plain_method K E (DQ Q) (start ns_Machine_add_plain_method vs) H := by
  obtain ⟨m, dx, a, odx, otb, tab, nx, cs, mn, fs, sv, j, c, s, hh, qa, ds, rfl, M, ts, hc, c1, c2, l1, l2, ta, q⟩ := h
  obtain ⟨pa, pb, pvs, ec, g1, g2, cd⟩ := M.code
  obtain ⟨v0, hv0, ca⟩ := cd.at_ hc
  obtain ⟨ca1, cr, rfl, gc, trc⟩ := ca
  refine ⟨_, rfl, m, _, dx, _, _, rfl, M.ins, C.cl, C.na _ (by decide +kernel), mcI (i := 0) rfl rfl, ?_⟩
  refine ⟨pa, _, _, _, ec, rfl, SqT.of g1, atI_nat (j := 0) rfl, _, rfl, pb, pvs, _, _, rfl, rfl, SqT.of g2, atI_nat hv0, ca1, _, _, _, rfl, rfl, SqT.of gc, atI_nat (j := 2) rfl, ?_⟩
  refine ⟨_, rfl, c.cap, rfl, iteFd c1 ?_⟩
  refine ⟨_, rfl, c.cap, rfl, iteFd c1 ?_⟩
  refine ⟨_, rfl, m, dx, _, rfl, M.ins, zip_none (by decide +kernel), _, rfl, _, rfl, _, rfl, _, rfl, (by show 5 ≤ sizeLine; decide), fun p np => ?_⟩
  have s1 := same_upd (o := .tup [V.str ("method" : Str), .int (j : Nat), sv, .int hh, .int 0]) np
  refine ⟨_, rfl, m, dx, a, odx, otb, tab, nx, cs, mn, fs, .ref p, "method", j, c, s, hh, 0, -1, qa, ds, rfl, M.same s1, .tup upd_same (.cons (.str _) (.cons (.int _) (.cons (ts.keep (sTk s1)) (.cons (.int _) (.cons (.int _) .nil))))), hc, c1, c2, l1, l2, ta.keep (sTk s1), fun H' f M' => ?_⟩
  exact q H' (fun b o n z => f b o n (s1 _ _ z)) M'
theorem run_PlainMachine_add_method (C : McC K) (h : sp_PlainMachine_add_method K vs H Q E) : t_PlainMachine_add_method K E (DQ Q) (start ns_PlainMachine_add_method vs) H := by
  obtain ⟨m, dx, a, odx, otb, tab, nx, cs, mn, fs, sv, j, c, s, hh, qa, ds, rfl, M, ts, hc, c1, c2, l1, l2, ta, q⟩ := h
  exact ⟨_, rfl, m, dx, _, rfl, M.ins, zip_none (by decide +kernel), _, rfl, _, rfl, _, rfl, _, rfl, m, dx, a, odx, otb, tab, nx, cs, mn, fs, sv, j, c, s, hh, qa, ds, rfl, M, ts, hc, c1, c2, l1, l2, ta, q⟩
theorem run_PlainMachine_tell_change (h : sp_PlainMachine_tell_change K vs H Q E) : t_PlainMachine_tell_change K E (DQ Q) (start ns_PlainMachine_tell_change vs) H := by
  obtain ⟨m, i, rfl, q⟩ := h
  exact q
theorem run_search_value (h : sp_search_value K vs H Q E) : t_search_value K E (DQ Q) (start ns_search_value vs) H := by
  obtain ⟨p, dx, tb, tab, nx, rv, i, x, rfl, O, tr, ok, q⟩ := h
  obtain ⟨a, y, rfl, ha, t2⟩ := pair_in tr
  cases t2
  refine ⟨_, rfl, a, _, _, _, rfl, rfl, SqT.of ha, atI_nat (j := 0) rfl, rfl, _, rfl, iteFd (by decide +kernel) ?_⟩
  refine ⟨_, rfl, _, rfl, a, _, _, _, rfl, rfl, SqT.of ha, atI_nat (j := 1) rfl, (by show 1 ≤ sizeLine; decide), fun c nc => ?_⟩
  have s1 := same_upd (o := .tup [V.int i]) nc
  obtain ⟨k1, k2, k3, k4⟩ := ok
  refine ⟨_, rfl, p, dx, tb, tab, nx, c, [i], x, rfl, O.same s1, upd_same, (fun z hz => by rw [List.mem_singleton.mp hz]; exact k1), k2, k3, k4, fun q' H' s t => q q' H' (sTr s1 s) t⟩
theorem run_PlainMachine_search_send (C : McC K) (h : sp_PlainMachine_search_send K vs H Q E) : t_PlainMachine_search_send K E (DQ Q) (start ns_PlainMachine_search_send vs) H := by
  obtain ⟨m, dx, a, odx, otb, tab, nx, cs, mn, fs, rv, i, x, rfl, M, tr, ok, q⟩ := h
  refine ⟨_, rfl, m, _, dx, _, _, rfl, M.ins, C.cl, C.na _ (by decide +kernel), mcI (i := 1) rfl rfl, _, rfl, _, rfl, a.ob, odx, otb, tab, nx, rv, i, x, rfl, M.obs, tr, ok, fun q' H' s t => ?_⟩
  obtain ⟨b, xs, e, gb, ts⟩ := tup_in (show Tr H' (.ref q') (.tuple [outD tab x (srch tab x [i]).2, .tuple ((srch tab x [i]).1.map PyData.int)]) from t)
  cases e
  cases ts with
  | cons t1 r =>
  cases r with
  | cons t2 r =>
  cases r
  exact ⟨_, _, rfl, SqT.of gb, rfl, _, _, rfl, _, _, rfl, rfl, _, rfl, q _ H' s t1⟩
end
end Rm.K27

/-! U28 (for k27): a plain machine: its beginning, its rows, a tick. -/
namespace Rm.K27
open PySem PySem.Spec PyProof.Rows L2 Rm.Q
theorem zl (vals : List V) : (mcN.zip vals).length < 1000 := by
  rw [List.length_zip]
  exact Nat.lt_of_le_of_lt (Nat.min_le_left _ _) (by decide)
section
variable {K : PySem.W.Frag} {vs : List V} {H : Hp} {Q : VK} {E : XK}
theorem stp {G : Hp} {m dx : Addr} {vals : List V} {x : Str} {v : V} (hm : G m = some (.ins (MC K) dx (mcN.zip vals))) (e : mcN[vals.length]? = some x) :
    (upd G m (.ins (MC K) dx (putF x v (mcN.zip vals)))) m = some (.ins (MC K) dx (mcN.zip (vals ++ [v]))) ∧ ∀ b u, b ≠ m → G b = some u → (upd G m (.ins (MC K) dx (putF x v (mcN.zip vals)))) b = some u := by
  rw [zip_new mcN_nd e]
  exact ⟨upd_same, fun b u n z => by rw [upd_ne n]; exact z⟩
theorem ob_stay {G G' : Hp} {m dx ob odx otb : Addr} {C : Addr} {fs : List (Str × V)} {tab : List En} {nx : Nat} (O : Ob K G ob odx otb tab nx) (hm : G m = some (.ins C dx fs)) (n : ob ≠ m) (k : ∀ b u, b ≠ m → G b = some u → G' b = some u) : Ob K G' ob odx otb tab nx := by
  refine O.keep ((k _ _ n O.ins).trans O.ins.symm) ((k _ _ (ne_of O.tbl hm (by intro z; cases z)) O.tbl).trans O.tbl.symm) (fun e he => ?_) (fun a xs z => k a _ (ne_of z hm (by intro y; cases y)) z)
  obtain ⟨kvs, g, _⟩ := O.ent e he
  exact (k _ _ (ne_of g hm (by intro z; cases z)) g).trans g.symm
theorem run_Machine_init (C : McC K) (S : ObC K) (h : sp_Machine_init K vs H Q E) : t_Machine_init K E (DQ Q) (start ns_Machine_init vs) H := by
  obtain ⟨m, dx, cv, cs, mn, c, rfl, hm, co, hc, c1, c2, q⟩ := h
  have hm : H m = some (.ins (MC K) dx (mcN.zip [])) := hm
  -- code
  refine ⟨_, rfl, _, rfl, m, _, dx, _, rfl, hm, C.cl, C.na _ (by decide +kernel), zl _, ?_⟩
  obtain ⟨m1, k1⟩ := stp (x := "code") (v := cv) hm rfl
  generalize upd H m (.ins (MC K) dx (putF ("code" : Str) cv (mcN.zip []))) = G1 at m1 k1 ⊢
  -- objects
  intro ob odx n1 n2 n3
  refine ⟨ob, odx, rfl, upd_same, fun otb o G2 kp notb no O => ⟨rfl, ?_⟩⟩
  have mob : m ≠ ob := ne_of_none m1 n1
  have k2 : ∀ b u, G1 b = some u → G2 b = some u := fun b u z => kp b u (ne_of_none z n1) (by rw [upd_ne (ne_of_none z n1), upd_ne (ne_of_none z n2)]; exact z)
  have m2 := k2 _ _ m1
  refine ⟨_, rfl, m, _, dx, _, rfl, m2, C.cl, C.na _ (by decide +kernel), zl _, ?_⟩
  obtain ⟨m3, k3⟩ := stp (x := "objects") (v := .ref ob) m2 rfl
  generalize upd G2 m (.ins (MC K) dx (putF ("objects" : Str) (.ref ob) (mcN.zip ([] ++ [cv])))) = G3 at m3 k3 ⊢
  -- scopes
  intro sc nsc
  have m3' := (same_upd (o := .dK []) nsc) _ _ m3
  have k3' : ∀ b u, b ≠ m → G2 b = some u → (upd G3 sc (.dK [])) b = some u := fun b u n z => (same_upd (o := .dK []) nsc) _ _ (k3 b u n z)
  generalize upd G3 sc (.dK []) = G3' at m3' k3' ⊢
  refine ⟨_, rfl, m, _, dx, _, rfl, m3', C.cl, C.na _ (by decide +kernel), zl _, ?_⟩
  obtain ⟨m4, k4⟩ := stp (x := "scopes") (v := .ref sc) m3' rfl
  have k4 := fun b u n z => k4 b u n (k3' b u n z)
  generalize upd G3' m (.ins (MC K) dx (putF ("scopes" : Str) (.ref sc) (mcN.zip ([] ++ [cv] ++ [.ref ob])))) = G4 at m4 k4 ⊢
  -- blocks
  intro bl nbl
  have m4' := (same_upd (o := .dK []) nbl) _ _ m4
  have k4' : ∀ b u, b ≠ m → G2 b = some u → (upd G4 bl (.dK [])) b = some u := fun b u n z => (same_upd (o := .dK []) nbl) _ _ (k4 b u n z)
  generalize upd G4 bl (.dK []) = G4' at m4' k4' ⊢
  refine ⟨_, rfl, m, _, dx, _, rfl, m4', C.cl, C.na _ (by decide +kernel), zl _, ?_⟩
  obtain ⟨m5, k5⟩ := stp (x := "blocks") (v := .ref bl) m4' rfl
  have k5 := fun b u n z => k5 b u n (k4' b u n z)
  generalize upd G4' m (.ins (MC K) dx (putF ("blocks" : Str) (.ref bl) (mcN.zip ([] ++ [cv] ++ [.ref ob] ++ [.ref sc])))) = G5 at m5 k5 ⊢
  -- frames
  refine ⟨(by show 0 ≤ sizeLine; decide), fun fl nfl => ?_⟩
  have m5' := (same_upd (o := .lst []) nfl) _ _ m5
  have gf5 : (upd G5 fl (.lst [])) fl = some (.lst []) := upd_same
  have k5' : ∀ b u, b ≠ m → G2 b = some u → (upd G5 fl (.lst [])) b = some u := fun b u n z => (same_upd (o := .lst []) nfl) _ _ (k5 b u n z)
  generalize upd G5 fl (.lst []) = G5' at m5' k5' gf5 ⊢
  have flm : fl ≠ m := ne_of gf5 m5' (by intro z; cases z)
  refine ⟨_, rfl, m, _, dx, _, rfl, m5', C.cl, C.na _ (by decide +kernel), zl _, ?_⟩
  obtain ⟨m6, k6⟩ := stp (x := "frames") (v := .ref fl) m5' rfl
  have gf6 := k6 _ _ flm gf5
  have k6 := fun b u n z => k6 b u n (k5' b u n z)
  generalize upd G5' m (.ins (MC K) dx (putF ("frames" : Str) (.ref fl) (mcN.zip ([] ++ [cv] ++ [.ref ob] ++ [.ref sc] ++ [.ref bl])))) = G6 at m6 k6 gf6 ⊢
  -- events
  refine ⟨(by show 0 ≤ sizeLine; decide), fun ev nev => ?_⟩
  have m6' := (same_upd (o := .lst []) nev) _ _ m6
  have gf6' := (same_upd (o := .lst []) nev) _ _ gf6
  have k6' : ∀ b u, b ≠ m → G2 b = some u → (upd G6 ev (.lst [])) b = some u := fun b u n z => (same_upd (o := .lst []) nev) _ _ (k6 b u n z)
  generalize upd G6 ev (.lst []) = G6' at m6' k6' gf6' ⊢
  refine ⟨_, rfl, m, _, dx, _, rfl, m6', C.cl, C.na _ (by decide +kernel), zl _, ?_⟩
  obtain ⟨m7, k7⟩ := stp (x := "events") (v := .ref ev) m6' rfl
  have gf7 := k7 _ _ flm gf6'
  have k7 := fun b u n z => k7 b u n (k6' b u n z)
  generalize upd G6' m (.ins (MC K) dx (putF ("events" : Str) (.ref ev) (mcN.zip ([] ++ [cv] ++ [.ref ob] ++ [.ref sc] ++ [.ref bl] ++ [.ref fl])))) = G7 at m7 k7 gf7 ⊢
  -- end
  refine ⟨_, rfl, m, _, dx, _, rfl, m7, C.cl, C.na _ (by decide +kernel), zl _, ?_⟩
  obtain ⟨m8, k8⟩ := stp (x := "end") (v := .non) m7 rfl
  have gf8 := k8 _ _ flm gf7
  have k8 := fun b u n z => k8 b u n (k7 b u n z)
  generalize upd G7 m (.ins (MC K) dx (putF ("end" : Str) .non (mcN.zip ([] ++ [cv] ++ [.ref ob] ++ [.ref sc] ++ [.ref bl] ++ [.ref fl] ++ [.ref ev])))) = G8 at m8 k8 gf8 ⊢
  -- ticks
  refine ⟨_, rfl, m, _, dx, _, rfl, m8, C.cl, C.na _ (by decide +kernel), zl _, ?_⟩
  obtain ⟨m9, k9⟩ := stp (x := "ticks") (v := .int 0) m8 rfl
  have gf9 := k9 _ _ flm gf8
  have k9 := fun b u n z => k9 b u n (k8 b u n z)
  generalize upd G8 m (.ins (MC K) dx (putF ("ticks" : Str) (.int 0) (mcN.zip ([] ++ [cv] ++ [.ref ob] ++ [.ref sc] ++ [.ref bl] ++ [.ref fl] ++ [.ref ev] ++ [.non])))) = G9 at m9 k9 gf9 ⊢
  -- next_scope
  refine ⟨_, rfl, m, _, dx, _, rfl, m9, C.cl, C.na _ (by decide +kernel), zl _, ?_⟩
  obtain ⟨m10, k10⟩ := stp (x := "next_scope") (v := .int 0) m9 rfl
  have gf10 := k10 _ _ flm gf9
  have k10 := fun b u n z => k10 b u n (k9 b u n z)
  generalize upd G9 m (.ins (MC K) dx (putF ("next_scope" : Str) (.int 0) (mcN.zip ([] ++ [cv] ++ [.ref ob] ++ [.ref sc] ++ [.ref bl] ++ [.ref fl] ++ [.ref ev] ++ [.non] ++ [.int 0])))) = G10 at m10 k10 gf10 ⊢
  -- next_block
  refine ⟨_, rfl, m, _, dx, _, rfl, m10, C.cl, C.na _ (by decide +kernel), zl _, ?_⟩
  obtain ⟨m11, k11⟩ := stp (x := "next_block") (v := .int 0) m10 rfl
  have gf11 := k11 _ _ flm gf10
  have k11 := fun b u n z => k11 b u n (k10 b u n z)
  generalize upd G10 m (.ins (MC K) dx (putF ("next_block" : Str) (.int 0) (mcN.zip ([] ++ [cv] ++ [.ref ob] ++ [.ref sc] ++ [.ref bl] ++ [.ref fl] ++ [.ref ev] ++ [.non] ++ [.int 0] ++ [.int 0])))) = G11 at m11 k11 gf11 ⊢
  -- last_mark
  refine ⟨_, rfl, m, _, dx, _, rfl, m11, C.cl, C.na _ (by decide +kernel), zl _, ?_⟩
  obtain ⟨m12, k12⟩ := stp (x := "last_mark") (v := .int 0) m11 rfl
  have gf12 := k12 _ _ flm gf11
  have k12 := fun b u n z => k12 b u n (k11 b u n z)
  generalize upd G11 m (.ins (MC K) dx (putF ("last_mark" : Str) (.int 0) (mcN.zip ([] ++ [cv] ++ [.ref ob] ++ [.ref sc] ++ [.ref bl] ++ [.ref fl] ++ [.ref ev] ++ [.non] ++ [.int 0] ++ [.int 0] ++ [.int 0])))) = G12 at m12 k12 gf12 ⊢
  have kH : ∀ b u, b ≠ m → H b = some u → G12 b = some u := fun b u n z => k12 b u n (k2 _ _ (k1 b u n z))
  have tkH : TK H G12 := fun a xs z => kH a _ (ne_of z hm (by intro y; cases y)) z
  have M : Mc K G12 m dx ⟨cv, ob, sc, bl, fl, ev, .non, 0, 0, 0, 0⟩ odx otb [⟨0, o, [lobbyS]⟩] 1 cs mn [] := ⟨m12, co.keep tkH, ob_stay O m2 (Ne.symm mob) k12, ⟨[], gf12, .nil⟩, Ne.symm mob⟩
  obtain ⟨pa, pb, pvs, ec, g1, g2, cd⟩ := M.code
  refine ⟨_, rfl, m, dx, _, rfl, M.ins, zip_none (by decide +kernel), ?_⟩
  refine ⟨_, rfl, pa, _, _, _, ec, rfl, SqT.of g1, atI_nat (j := 1) rfl, (by show 2 ≤ sizeLine; decide), fun r nr => ⟨(by show 0 ≤ sizeLine; decide), fun e0 ne0 => ?_⟩⟩
  have s1 := same_upd (o := .tup [V.str ("ref" : Str), V.int 0]) nr
  have gr : (upd G12 r (.tup [V.str ("ref" : Str), V.int 0])) r = some (.tup [V.str ("ref" : Str), V.int 0]) := upd_same
  generalize upd G12 r (.tup [V.str ("ref" : Str), V.int 0]) = G13 at s1 gr ne0 ⊢
  have s2 := same_upd (o := .tup []) ne0
  refine ⟨m, dx, _, odx, otb, _, 1, cs, mn, [], .ref r, mn, c, lobD, 0, e0, [], rfl, M.same (sTr s1 s2), .tup (s2 _ _ gr) (.cons (.str _) (.cons (.int _) .nil)), hc, c1, c2, by decide, by decide, .tup upd_same .nil, fun H' f M' => ?_⟩
  refine q _ odx otb o H' (fun b u n z => ?_) M' rfl rfl
  refine f b u (fun e => ?_) (sTr s1 s2 _ _ (kH b u n z))
  have := k5 b u n (k2 _ _ (k1 b u n z))
  rw [e, nfl] at this
  cases this
theorem ixN_last {n : Nat} : ixN (n + 1) (-1) = some n := by
  unfold ixN
  rw [if_neg (by decide), if_pos (by omega)]
  congr 1
  omega
theorem trs_take {G : Hp} : ∀ {ds es : List PyData} {xs : List V}, Trs G xs (ds ++ es) → Trs G (xs.take ds.length) ds ∧ Trs G (xs.drop ds.length) es
  | [], _, _, h => ⟨.nil, h⟩
  | d :: ds, es, _, .cons h r => ⟨.cons h (trs_take r).1, (trs_take r).2⟩
theorem trs_app : ∀ {G : Hp} {xs ys : List V} {ds es : List PyData}, Trs G xs ds → Trs G ys es → Trs G (xs ++ ys) (ds ++ es)
  | _, _, _, _, _, .nil, h => h
  | _, _, _, _, _, .cons a r, h => .cons a (trs_app r h)
theorem set_last {ws : List V} {n : Nat} {x : V} (h : ws.length = n + 1) : ws.set n x = ws.take n ++ [x] := by
  rw [List.set_eq_take_append_cons_drop, if_pos (by omega), List.drop_of_length_le (by omega)]
theorem run_go_on (C : McC K) (h : sp_go_on K vs H Q E) : t_go_on K E (DQ Q) (start ns_go_on vs) H := by
  obtain ⟨m, dx, a, odx, otb, tab, nx, cs, mn, fs, f0, v, sv, f, st, rfl, M, tr, nf, ts, q⟩ := h
  obtain ⟨fa, x3, x5, x6, e, ha, t3, t5, t6⟩ := fr_in tr
  refine ⟨_, rfl, _, rfl, fa, _, _, _, e, rfl, SqT.of ha, atI_nat (j := 2) rfl, _, _, rfl, rfl, _, rfl, v, sv, f, f.row + 1, st, rfl, tr, nf, ts, fun q1 G1 s1 t1 => ?_⟩
  have M1 := M.same s1
  obtain ⟨ws, gf, tf⟩ := M1.frs
  have lw := trs_len tf
  rw [List.length_append, List.length_singleton] at lw
  refine ⟨_, rfl, m, _, dx, _, _, rfl, M1.ins, C.cl, C.na _ (by decide +kernel), mcI (i := 4) rfl rfl, _, rfl, a.fr, ws, -1, fs.length, rfl, rfl, gf, by rw [lw]; exact ixN_last, ?_⟩
  rw [set_last lw]
  exact q _ (fx_set s1) (M1.setF (trs_app (trs_take tf).1 (.cons t1 .nil)))
theorem run_push (h : sp_push K vs H Q E) : t_push K E (DQ Q) (start ns_push vs) H := by
  obtain ⟨m, dx, a, odx, otb, tab, nx, cs, mn, fs, f0, v, x, f, d, rfl, M, tr, nf, tx, l1, q⟩ := h
  refine ⟨_, rfl, _, rfl, _, rfl, v, f, rfl, tr, nf, fun b xs hb tb => ⟨_, rfl, (by show 1 ≤ sizeLine; decide), fun p np => ?_⟩⟩
  have s1 := same_upd (o := .tup [x]) np
  have lx := trs_len tb
  refine U.catA_ok (s1 _ _ hb) upd_same (Nat.le_trans (show xs.length + 1 ≤ 1000001 by omega) (by decide)) fun q' G' s2 g => ?_
  have s12 := sTr s1 s2
  exact ⟨m, dx, a, odx, otb, tab, nx, cs, mn, fs, f0, v, .ref q', f, f.st ++ [d], rfl, M.same s12, tr.keep (sTk s12), nf, .tup g (trs_app (tb.keep (sTk s12)) (.cons (tx.keep (sTk s12)) .nil)), fun H' fx M' => q H' (fun b o n z => fx b o n (s12 _ _ z)) M'⟩
theorem run_do_self (h : sp_do_self K vs H Q E) : t_do_self K E (DQ Q) (start ns_do_self vs) H := by
  obtain ⟨m, dx, a, odx, otb, tab, nx, cs, mn, fs, v, rv, f, ws, tab', fs', rfl, M, tr, nf, l1, trw, sp, q⟩ := h
  cases sp with
  | self_ e0 e1 e2 e3 =>
    subst e1 e2 e3
    obtain ⟨fa, x3, x5, x6, e, ha, t3, t5, t6⟩ := fr_in tr
    exact ⟨_, rfl, _, rfl, _, rfl, fa, _, _, _, e, rfl, SqT.of ha, atI_nat (j := 3) rfl, m, dx, a, odx, otb, tab', nx, cs, mn, fs, frD f, v, x3, f, f.self_, rfl, M, tr, nf, t3, l1, fun H' _ M' => q H' M'⟩
  | meth j e0 => exact absurd e0 (by decide)
  | put x k st e d he hd hl hs e0 => exact absurd e0 (by decide)
  | send x st i h j c hs ok ho hc c1 c2 c3 hf e0 => exact absurd e0 (by decide)
theorem run_do_method (h : sp_do_method K vs H Q E) : t_do_method K E (DQ Q) (start ns_do_method vs) H := by
  obtain ⟨m, dx, a, odx, otb, tab, nx, cs, mn, fs, v, rv, f, ws, tab', fs', rfl, M, tr, nf, l1, trw, sp, q⟩ := h
  cases sp with
  | meth j e0 e1 e2 e3 =>
    subst e1 e2 e3
    obtain ⟨b, y, rfl, hb, t3⟩ := pair_in trw
    cases t3
    refine ⟨_, rfl, _, rfl, _, rfl, b, _, _, _, rfl, rfl, SqT.of hb, atI_nat (j := 1) rfl, (by show 2 ≤ sizeLine; decide), fun p np => ?_⟩
    have s1 := same_upd (o := .tup [V.str ("method" : Str), .int (j : Nat)]) np
    exact ⟨m, dx, a, odx, otb, tab', nx, cs, mn, fs, frD f, v, .ref p, f, _, rfl, M.same s1, tr.keep (sTk s1), nf, .tup upd_same (.cons (.str _) (.cons (.int _) .nil)), l1, fun H' _ M' => q H' M'⟩
  | self_ e0 => exact absurd e0 (by decide)
  | put x k st e d he hd hl hs e0 => exact absurd e0 (by decide)
  | send x st i h j c hs ok ho hc c1 c2 c3 hf e0 => exact absurd e0 (by decide)
end
end Rm.K27

/-! U29 (for k27): rows put and send, a tick. -/
namespace Rm.K27
open PySem PySem.Spec PyProof.Rows L2 Rm.Q
section
variable {K : PySem.W.Frag} {vs : List V} {H : Hp} {Q : VK} {E : XK}
theorem Mc.tk {m dx : Addr} {a : MV} {odx otb : Addr} {tab : List En} {nx : Nat} {cs : List Pc} {mn : Nat} {fs : List PyData} {G G' : Hp} (M : Mc K G m dx a odx otb tab nx cs mn fs) (f : FxF a.fr G G') : TK G G' := fun x ds z => by
  obtain ⟨ws, g, _⟩ := M.frs
  exact f x _ (ne_of z g (by intro e; cases e)) z
theorem at_last {ws : List V} {n : Nat} {v : V} (h : ws.length = n + 1) (e : ws[n]? = some v) : atI ws (-1) = some v := by
  unfold atI
  rw [h, ixN_last]
  exact e
theorem cut_last {ws : List V} {n : Nat} (h : ws.length = n + 1) : cutV ws none (some (-1)) = ws.take n := by
  have i1 : HT.sIx ws.length ws.length (some (-1)) = n := by
    rw [h]
    simp only [HT.sIx]
    rw [if_pos (by decide)]
    omega
  unfold cutV
  rw [i1, show HT.sIx ws.length 0 none = 0 from rfl, List.drop_zero, Nat.sub_zero]
theorem trs_snoc_in {G : Hp} {ds : List PyData} {d : PyData} {xs : List V} (h : Trs G xs (ds ++ [d])) : ∃ v, xs.length = ds.length + 1 ∧ xs[ds.length]? = some v ∧ Tr G v d ∧ Trs G (xs.take ds.length) ds := by
  have lx := trs_len h
  rw [List.length_append, List.length_singleton] at lx
  obtain ⟨ta, tz⟩ := trs_take h
  generalize hz : xs.drop ds.length = zs at tz
  cases tz with
  | @cons v _ _ _ t r =>
    cases r
    refine ⟨v, lx, ?_, t, ta⟩
    have := congrArg (fun l => l[0]?) hz
    simpa [List.getElem?_drop] using this
theorem run_do_put (C : McC K) (h : sp_do_put K vs H Q E) {rz0 : TS} : t_do_put K E rz0 (DQ Q) (start ns_do_put vs) H := by
  obtain ⟨m, dx, a, odx, otb, tab, nx, cs, mn, fs, v, rv, f, ws, tab', fs', rfl, M, tr, nf, l1, trw, sp, q⟩ := h
  cases sp with
  | put x k st e d he hd hl hs e0 e1 e2 e3 =>
    subst e1 e2 e3
    refine ⟨_, rfl, v, f, rfl, tr, nf, fun b xs hb tb => ?_⟩
    have lx := trs_len tb
    rw [hs, List.length_append] at lx
    have lx : xs.length = st.length + 2 := lx
    rw [hs] at tb
    obtain ⟨ta, tz⟩ := trs_take tb
    have e4 : xs.length - 2 = st.length := by omega
    generalize hz : xs.drop st.length = zs at tz
    cases tz with
    | @cons rv1 _ _ _ t1 r =>
    cases r with
    | @cons dv _ _ _ t2 r =>
    cases r
    obtain ⟨rb, y, rfl, hrb, ty⟩ := pair_in t1
    cases ty
    refine ⟨b, xs, 2, rfl, hb, by omega, fun p x1 x2 G s gp g1 g2 => ?_⟩
    rw [e4] at g1 g2
    rw [hz] at g2
    refine ⟨p, _, rfl, SqT.of gp, rfl, _, _, rfl, _, _, rfl, x2, _, rfl, SqT.of g2, rfl, _, _, rfl, _, _, rfl, rfl, rfl, ?_⟩
    refine ⟨_, rfl, rb, _, _, _, rfl, rfl, SqT.of (s _ _ hrb), atI_nat (j := 0) rfl, rfl, _, rfl, iteFd (by decide +kernel) ?_⟩
    have M0 := M.same s
    refine ⟨_, rfl, _, rfl, _, rfl, m, dx, a, odx, otb, tab, nx, cs, mn, fs, frD f, v, .ref x1, f, st, rfl, M0, tr.keep (sTk s), nf, .tup g1 (ta.keep (sTk s)), fun H1 fx M1 => ?_⟩
    have tk1 := M0.tk fx
    have tkH : TK H H1 := (sTk s).trans tk1
    obtain ⟨ra, ys, rfl, hra, trr⟩ := tup_in trw
    cases trr with
    | cons r1 r =>
    cases r with
    | cons r2 r =>
    cases r with
    | cons r3 r =>
    cases r
    cases r1
    cases r2
    cases r3
    have hra1 := tkH _ _ hra
    refine ⟨_, rfl, m, _, dx, _, _, rfl, M1.ins, C.cl, C.na _ (by decide +kernel), mcI (i := 1) rfl rfl, a.ob, odx, _, rfl, M1.obs.ins, obF_no (by decide +kernel) (by decide +kernel), _, rfl, rb, _, _, _, rfl, rfl, SqT.of (tkH _ _ hrb), atI_nat (j := 1) rfl, _, rfl, ra, _, _, _, rfl, rfl, SqT.of hra1, atI_nat (j := 1) rfl, _, rfl, ra, _, _, _, rfl, rfl, SqT.of hra1, atI_nat (j := 2) rfl, _, rfl, a.ob, odx, otb, tab, nx, e, x, k, dv, d, rfl, M1.obs, he, t2.keep tkH, hd, hl, fun H2 ko O2 => ?_⟩
    have tk2 := M1.obs.tk ko
    have stay : ∀ {b : Addr} {o : HO}, b ≠ a.ob → b ≠ otb → (∀ e ∈ tab, b ≠ e.at_) → H1 b = some o → H2 b = some o := fun n1 n2 n3 z => ko _ _ n1 n2 n3 z
    have M2 : Mc K H2 m dx a odx otb (setE tab e.id (putS e.sl ⟨x, k, d⟩)) nx cs mn (fs ++ [frD { f with row := f.row + 1, st := st }]) := by
      obtain ⟨us, gu, tu⟩ := M1.frs
      refine ⟨stay (Ne.symm M1.nob) (ne_of M1.ins M1.obs.tbl (by intro z; cases z)) (fun e2 he2 => ?_) M1.ins, M1.code.keep tk2, O2, ⟨us, stay (ne_of gu M1.obs.ins (by intro z; cases z)) (ne_of gu M1.obs.tbl (by intro z; cases z)) (fun e2 he2 => ?_) gu, tu.keep tk2⟩, M1.nob⟩
      · obtain ⟨kvs, g, _⟩ := M1.obs.ent e2 he2
        exact ne_of M1.ins g (by intro z; cases z)
      · obtain ⟨kvs, g, _⟩ := M1.obs.ent e2 he2
        exact ne_of gu g (by intro z; cases z)
    exact ⟨_, rfl, m, dx, _, rfl, M2.ins, zip_none (by decide +kernel), _, rfl, rb, _, _, _, rfl, rfl, SqT.of (tk2 _ _ (tkH _ _ hrb)), atI_nat (j := 1) rfl, m, _, rfl, q H2 M2⟩
  | self_ e0 => exact absurd e0 (by decide)
  | meth j e0 => exact absurd e0 (by decide)
  | send x st i h j c hs ok ho hc c1 c2 c3 hf e0 => exact absurd e0 (by decide)
theorem run_do_found (C : McC K) (h : sp_do_found K vs H Q E) {rz0 rz1 : TS} : t_do_found K E rz0 rz1 (DQ Q) (start ns_do_found vs) H := by
  obtain ⟨m, dx, a, odx, otb, tab, nx, cs, mn, fs, f0, v, sv, ov, av, f, s, hh, j, c, rfl, M, tr, nf, ts, to, ta, hc, c1, c2, c3, hf, q⟩ := h
  obtain ⟨oa, ys, rfl, ho, tro⟩ := tup_in to
  cases tro with
  | cons r1 r =>
  cases r with
  | cons r2 r =>
  cases r with
  | cons r3 r =>
  cases r with
  | @cons v4 _ _ _ t4 r =>
  cases r
  cases r1
  cases r2
  cases r3
  obtain ⟨ba, bs, rfl, hba, trb⟩ := tup_in ta
  cases trb
  refine ⟨_, rfl, oa, _, _, _, rfl, rfl, SqT.of ho, atI_nat (j := 0) rfl, rfl, _, rfl, iteFd (by decide +kernel) ?_⟩
  refine ⟨_, rfl, oa, _, rfl, SqT.of ho, rfl, _, _, rfl, _, _, rfl, _, _, rfl, _, _, rfl, rfl, ?_⟩
  refine ⟨_, rfl, _, rfl, (by show 2 ≤ sizeLine; decide), fun p np => ?_⟩
  have s1 := same_upd (o := .tup [V.str ("method" : Str), v4]) np
  refine ⟨.ref p, j, rfl, .tup upd_same (.cons (.str _) (.cons (t4.keep (sTk s1)) .nil)), ?_⟩
  have M1 := M.same s1
  have hba1 := s1 _ _ hba
  have tr1 := tr.keep (sTk s1)
  have ts1 := ts.keep (sTk s1)
  generalize upd H p (.tup [V.str ("method" : Str), v4]) = H1 at s1 M1 hba1 tr1 ts1 ⊢
  obtain ⟨pa, pb, pvs, ec, g1, g2, cd⟩ := M1.code
  obtain ⟨v0, hv0, ca⟩ := cd.at_ hc
  obtain ⟨ca1, cr, rfl, gc, trc⟩ := ca
  refine ⟨_, rfl, rfl, _, rfl, iteFd (decide_eq_false (by intro z; cases z)) ?_⟩
  refine ⟨_, rfl, m, _, dx, _, _, rfl, M1.ins, C.cl, C.na _ (by decide +kernel), mcI (i := 0) rfl rfl, ?_⟩
  refine ⟨pa, _, _, _, ec, rfl, SqT.of g1, atI_nat (j := 0) rfl, _, rfl, pb, pvs, _, _, rfl, rfl, SqT.of g2, atI_nat hv0, ca1, _, _, _, rfl, rfl, SqT.of gc, atI_nat (j := 0) rfl, ?_⟩
  refine ⟨_, rfl, _, _, rfl, .inr ⟨_, SqT.of hba1, rfl⟩, _, rfl, rfl, _, rfl, iteFd ?_ ?_⟩
  · rw [c3]
    decide
  refine ⟨_, rfl, rfl, _, rfl, iteFd (decide_eq_false (by intro z; cases z)) ?_⟩
  refine ⟨_, rfl, _, rfl, _, rfl, v, f, rfl, tr1, nf, fun b xs hb tb => ?_⟩
  refine ⟨m, dx, a, odx, otb, tab, nx, cs, mn, fs, f0, v, .ref b, f, f.st, rfl, M1, tr1, nf, .tup hb tb, fun H2 fx M2 => ?_⟩
  have tk := M1.tk fx
  refine ⟨_, rfl, m, dx, _, rfl, M2.ins, zip_none (by decide +kernel), _, rfl, _, rfl, _, rfl, _, rfl, m, dx, a, odx, otb, tab, nx, cs, mn, _, sv, j, c, s, hh, ba, [], rfl, M2, ts1.keep tk, hc, c1, c2, (by decide), ?_, .tup (tk _ _ hba1) .nil, fun H' f' M' => q H' M'⟩
  rw [List.length_append, List.length_singleton]
  omega
end
end Rm.K27

/-! U30 (for k27): the row send, a row, a tick. -/
namespace Rm.K27
open PySem PySem.Spec PyProof.Rows L2 Rm.Q
section
variable {K : PySem.W.Frag} {vs : List V} {H : Hp} {Q : VK} {E : XK}
theorem run_do_send (C : McC K) (h : sp_do_send K vs H Q E) : t_do_send K E (DQ Q) (start ns_do_send vs) H := by
  obtain ⟨m, dx, a, odx, otb, tab, nx, cs, mn, fs, v, rv, f, ws, tab', fs', rfl, M, tr, nf, l1, trw, sp, q⟩ := h
  cases sp with
  | send x st i hh j c hs ok ho hc c1 c2 c3 hf e0 e1 e2 e3 =>
    subst e1 e2 e3
    obtain ⟨ra, ys, rfl, hra, trr⟩ := tup_in trw
    cases trr with
    | cons r1 r =>
    cases r with
    | cons r2 r =>
    cases r with
    | cons r3 r =>
    cases r
    cases r1
    cases r2
    cases r3
    refine ⟨_, rfl, ra, _, rfl, SqT.of hra, rfl, _, _, rfl, _, _, rfl, _, _, rfl, rfl, ?_⟩
    refine ⟨_, rfl, v, f, rfl, tr, nf, fun b xs hb tb => ?_⟩
    rw [hs] at tb
    obtain ⟨rv1, lx, hx, t1, tt⟩ := trs_snoc_in tb
    refine ⟨_, rfl, b, xs, 0, rfl, hb, Nat.zero_le _, fun p x1 x2 G s gp g1 g2 => ?_⟩
    rw [Nat.sub_zero, List.take_length] at g1
    rw [Nat.sub_zero, List.drop_length] at g2
    refine ⟨p, _, rfl, SqT.of gp, rfl, _, _, rfl, _, _, rfl, rfl, ?_⟩
    have M0 := M.same s
    refine ⟨_, rfl, m, dx, _, rfl, M0.ins, zip_none (by decide +kernel), _, rfl, _, rfl, x1, xs, _, rv1, rfl, rfl, SqT.of g1, at_last lx hx, _, rfl, m, dx, a, odx, otb, tab', nx, cs, mn, _, rv1, i, x, rfl, M0, t1.keep (sTk s), ok, fun v8 G2 s2 t8 => ?_⟩
    rw [ho] at t8
    have s02 := sTr s s2
    have hv := tr.keep (sTk s02)
    obtain ⟨fa, x3, x5, x6, e, ha, t3, t5, t6⟩ := fr_in hv
    refine ⟨_, rfl, _, rfl, _, rfl, fa, _, _, _, e, rfl, SqT.of ha, atI_nat (j := 2) rfl, ?_⟩
    refine U.sl_to (k := -1) (s2 _ _ g1) rfl (fun Z z => ⟨1, rfl, z⟩) fun q1 G3 s3 g3 => ?_
    rw [cut_last lx] at g3
    have s03 := sTr s02 s3
    refine ⟨v, .ref q1, f, f.row, st, rfl, tr.keep (sTk s03), nf, .tup g3 (tt.keep (sTk s03)), fun q2 G4 s4 t4 => ?_⟩
    have s04 := sTr s03 s4
    refine ⟨_, rfl, _, rfl, x1, xs, _, rv1, rfl, rfl, SqT.of (s4 _ _ (s3 _ _ (s2 _ _ g1))), at_last lx hx, _, rfl, _, rfl, ?_⟩
    refine ⟨m, dx, a, odx, otb, tab', nx, cs, mn, fs, frD f, .ref q2, rv1, v8, .ref x2, { f with row := f.row, st := st }, _, hh, j, c, rfl, M.same s04, t4, nf, t1.keep (sTk s04), t8.keep (sTk (sTr s3 s4)), .tup (s4 _ _ (s3 _ _ (s2 _ _ g2))) .nil, hc, c1, c2, c3, hf, fun H' M' => q H' M'⟩
  | self_ e0 => exact absurd e0 (by decide)
  | meth j e0 => exact absurd e0 (by decide)
  | put x k st e d he hd hl hs e0 => exact absurd e0 (by decide)
def stpV (K : PySem.W.Frag) : List (Str × V) := [(("push" : Str), V.ref (He.ga K ("do_push" : Str))), (("self" : Str), V.ref (He.ga K ("do_self" : Str))), (("pop" : Str), V.ref (He.ga K ("do_pop" : Str))), (("local" : Str), V.ref (He.ga K ("do_local" : Str))), (("set" : Str), V.ref (He.ga K ("do_set" : Str))), (("outer" : Str), V.ref (He.ga K ("do_outer" : Str))), (("setouter" : Str), V.ref (He.ga K ("do_setouter" : Str))), (("method" : Str), V.ref (He.ga K ("do_method" : Str))), (("block" : Str), V.ref (He.ga K ("do_block" : Str))), (("object" : Str), V.ref (He.ga K ("do_object" : Str))), (("send" : Str), V.ref (He.ga K ("do_send" : Str))), (("resend" : Str), V.ref (He.ga K ("do_resend" : Str))), (("call" : Str), V.ref (He.ga K ("do_call" : Str))), (("assign" : Str), V.ref (He.ga K ("do_assign" : Str))), (("put" : Str), V.ref (He.ga K ("do_put" : Str))), (("drop" : Str), V.ref (He.ga K ("do_drop" : Str))), (("jump" : Str), V.ref (He.ga K ("do_jump" : Str))), (("jumpno" : Str), V.ref (He.ga K ("do_jumpno" : Str))), (("prim" : Str), V.ref (He.ga K ("do_prim" : Str))), (("print" : Str), V.ref (He.ga K ("do_print" : Str))), (("return" : Str), V.ref (He.ga K ("do_return" : Str))), (("home" : Str), V.ref (He.ga K ("do_home" : Str)))]
theorem stp_at {w : String} (hw : w ∈ ["self", "method", "put", "send"]) : ∃ a, (stpV K).lookup (Str.ofString w) = some (.ref a) ∧ StepS K a (spR K w) := by
  rcases List.mem_cons.mp hw with rfl | hw
  · refine ⟨_, ?_, .inl ⟨rfl, rfl⟩⟩
    unfold stpV
    repeat (first | rw [lk_eq] | rw [lk_ne (by decide +kernel)])
  rcases List.mem_cons.mp hw with rfl | hw
  · refine ⟨_, ?_, .inr (.inl ⟨rfl, rfl⟩)⟩
    unfold stpV
    repeat (first | rw [lk_eq] | rw [lk_ne (by decide +kernel)])
  rcases List.mem_cons.mp hw with rfl | hw
  · refine ⟨_, ?_, .inr (.inr (.inl ⟨rfl, rfl⟩))⟩
    unfold stpV
    repeat (first | rw [lk_eq] | rw [lk_ne (by decide +kernel)])
  rcases List.mem_cons.mp hw with rfl | hw
  · refine ⟨_, ?_, .inr (.inr (.inr ⟨rfl, rfl⟩))⟩
    unfold stpV
    repeat (first | rw [lk_eq] | rw [lk_ne (by decide +kernel)])
  · cases hw
theorem run_do_row {w : World} (D : KD K w (He.ga K ("STEPS" : Str)) (stpV K)) (h : sp_do_row K vs H Q E) : t_do_row K w E (DQ Q) (start ns_do_row vs) H := by
  obtain ⟨wd, hw, m, dx, a, odx, otb, tab, nx, cs, mn, fs, v, rv, f, ws, tab', fs', rfl, M, tr, nf, l1, trw, sp, q⟩ := h
  obtain ⟨ra, ys, rfl, hra, trr⟩ := tup_in trw
  obtain ⟨b, l2, l3⟩ := stp_at (K := K) hw
  cases trr with
  | cons r1 r =>
  cases r1
  refine ⟨_, rfl, ra, _, _, _, rfl, rfl, SqT.of hra, atI_nat (j := 0) rfl, _, _, _, _, rfl, rfl, D, l2, ?_⟩
  exact ⟨b, _, rfl, l3, _, rfl, _, rfl, _, rfl, m, dx, a, odx, otb, tab, nx, cs, mn, fs, v, .ref ra, f, ws, tab', fs', rfl, M, tr, nf, l1, .tup hra (.cons (.str _) r), sp, q⟩
theorem trs_at {G : Hp} : ∀ {us : List V} {ds : List PyData} {i : Nat} {d : PyData}, Trs G us ds → ds[i]? = some d → ∃ v, us[i]? = some v ∧ Tr G v d
  | _, _, i, _, .nil, e => by cases i <;> cases e
  | _, _, 0, _, .cons h _, e => by cases e; exact ⟨_, rfl, h⟩
  | _, _, i + 1, _, .cons _ r, e => trs_at (i := i) r e
theorem run_next_row (C : McC K) (h : sp_next_row K vs H Q E) : t_next_row K E (DQ Q) (start ns_next_row vs) H := by
  obtain ⟨m, dx, a, odx, otb, tab, nx, cs, mn, fs, v, f, c, r, rfl, M, tr, hc, hr, q⟩ := h
  obtain ⟨fa, x3, x5, x6, e, ha, t3, t5, t6⟩ := fr_in tr
  subst e
  obtain ⟨pa, pb, pvs, ec, g1, g2, cd⟩ := M.code
  obtain ⟨v0, hv0, ca⟩ := cd.at_ hc
  obtain ⟨ca1, cr, rfl, gc, trc⟩ := ca
  obtain ⟨cb, rs, e2, gr, trs⟩ := tup_in trc
  cases e2
  obtain ⟨rv, hrv, trv⟩ : ∃ rv, rs[f.row]? = some rv ∧ Tr H rv r := trs_at trs hr
  refine ⟨_, rfl, m, _, dx, _, _, rfl, M.ins, C.cl, C.na _ (by decide +kernel), mcI (i := 0) rfl rfl, ?_⟩
  exact ⟨pa, _, _, _, ec, rfl, SqT.of g1, atI_nat (j := 0) rfl, _, rfl, fa, _, _, _, rfl, rfl, SqT.of ha, atI_nat (j := 1) rfl, pb, pvs, _, _, rfl, rfl, SqT.of g2, atI_nat hv0, ca1, _, _, _, rfl, rfl, SqT.of gc, atI_nat (j := 3) rfl, _, rfl, fa, _, _, _, rfl, rfl, SqT.of ha, atI_nat (j := 2) rfl, cr, rs, _, _, rfl, rfl, SqT.of gr, atI_nat hrv, q rv trv⟩
theorem run_PlainMachine_tick (C : McC K) (h : sp_PlainMachine_tick K vs H Q E) : t_PlainMachine_tick K E (DQ Q) (start ns_PlainMachine_tick vs) H := by
  obtain ⟨m, dx, a, odx, otb, tab, nx, cs, mn, fs, f, c, w, ws, tab', fs', rfl, M, en, nf, l1, hc, hr, hw, sp, q⟩ := h
  refine ⟨_, rfl, m, _, dx, _, _, rfl, M.ins, C.cl, C.na _ (by decide +kernel), mcI (i := 6) rfl rfl, rfl, _, rfl, iteFd (by rw [en]; rfl) ?_⟩
  refine ⟨_, rfl, m, _, dx, _, _, rfl, M.ins, C.cl, C.na _ (by decide +kernel), mcI (i := 7) rfl rfl, _, _, rfl, rfl, dx, _, M.ins, zl _, ?_⟩
  have ez : putF ("ticks" : Str) (.int (a.tk + 1)) (mcN.zip (mcL a)) = mcN.zip (mcL { a with tk := a.tk + 1 }) := zip_put (i := 7) mcN_nd rfl (by show 7 < 11; decide)
  rw [ez]
  have k : ∀ b u, b ≠ m → H b = some u → (upd H m (.ins (MC K) dx (mcN.zip (mcL { a with tk := a.tk + 1 })))) b = some u := fun b u n z => by rw [upd_ne n]; exact z
  have tk : TK H (upd H m (.ins (MC K) dx (mcN.zip (mcL { a with tk := a.tk + 1 })))) := fun x ds z => k x _ (ne_of z M.ins (by intro e; cases e)) z
  have M1 : Mc K (upd H m (.ins (MC K) dx (mcN.zip (mcL { a with tk := a.tk + 1 })))) m dx { a with tk := a.tk + 1 } odx otb tab nx cs mn (fs ++ [frD f]) := by
    obtain ⟨us, gu, tu⟩ := M.frs
    exact ⟨upd_same, M.code.keep tk, ob_stay M.obs M.ins M.nob k, ⟨us, k _ _ (ne_of gu M.ins (by intro e; cases e)) gu, tu.keep tk⟩, M.nob⟩
  generalize upd H m (.ins (MC K) dx (mcN.zip (mcL { a with tk := a.tk + 1 }))) = H1 at M1 ⊢
  obtain ⟨us, gu, tu⟩ := M1.frs
  obtain ⟨v, lu, hv, tv, _⟩ := trs_snoc_in tu
  refine ⟨_, rfl, m, _, dx, _, _, rfl, M1.ins, C.cl, C.na _ (by decide +kernel), mcI (i := 4) rfl rfl, _, rfl, a.fr, us, _, v, rfl, rfl, SqL.of gu, at_last lu hv, ?_⟩
  refine ⟨_, rfl, _, rfl, _, rfl, _, rfl, m, dx, _, odx, otb, tab, nx, cs, mn, _, v, f, c, _, rfl, M1, tv, hc, hr, fun rv trv => ?_⟩
  exact ⟨w, hw, m, dx, _, odx, otb, tab, nx, cs, mn, fs, v, rv, f, ws, tab', fs', rfl, M1, tv, nf, l1, trv, sp, fun H' M' => q H' M'⟩
end
end Rm.K27

/-! Q24 (for k27): a search along a chain, or around a ring, as mathematics. -/
namespace Rm.K27
open PySem PySem.Spec PyProof.Rows L2
def xS (n : Int) : Sl := ⟨("x" : Str), ("const" : Str), .tuple [.str ("num" : Str), .int n]⟩
/-- a chain: the object n has the object n - 1 as its parent, the first one none or the last one -/
structure Chn (tab : List En) (many : Nat) (hs : List Int) (ring : Bool) : Prop where
  ord : tab.Pairwise fun a b => a.id < b.id
  len : many ≤ tab.length
  ent : ∀ n : Nat, 1 ≤ n → n ≤ many → ∃ e ∈ tab, e.id = n ∧ parS e.sl = (if n = 1 then (if ring = true then [(many : Int)] else []) else [((n - 1 : Nat) : Int)]) ∧ getS e.sl ("x" : Str) = (if ((n : Nat) : Int) ∈ hs then some (xS (((n : Nat) : Int) - 1)) else none)
/-- the j-th object on the way -/
def pt (many start : Nat) (ring : Bool) (j : Nat) : Nat := if j < start then start - j else if ring = true then start + many - j else 0
def ptL (many start : Nat) (ring : Bool) (j : Nat) : List Int := (List.range j).map fun i => ((pt many start ring i : Nat) : Int)
/-- how many there are on the way -/
def nN (many start : Nat) (ring : Bool) : Nat := if ring = true then many else start
section
variable {tab : List En} {many start : Nat} {ring : Bool} {hs : List Int}
theorem Chn.has (C : Chn tab many hs ring) {n : Nat} (h1 : 1 ≤ n) (h2 : n ≤ many) : hasS tab ("x" : Str) (n : Int) = decide (((n : Nat) : Int) ∈ hs) := by
  obtain ⟨e, he, e1, _, e3⟩ := C.ent n h1 h2
  unfold hasS
  rw [← e1, slotOf_mem C.ord he, e3, e1]
  by_cases c : ((n : Nat) : Int) ∈ hs
  · rw [if_pos c, decide_eq_true c]
    rfl
  · rw [if_neg c, decide_eq_false c]
    rfl
theorem Chn.par (C : Chn tab many hs ring) {n : Nat} (h1 : 1 ≤ n) (h2 : n ≤ many) : parI tab (n : Int) = (if n = 1 then (if ring = true then [(many : Int)] else []) else [((n - 1 : Nat) : Int)]) := by
  obtain ⟨e, he, e1, e2, _⟩ := C.ent n h1 h2
  rw [← e1, parI_mem C.ord he, e2, e1]
theorem pt_lt (h1 : 1 ≤ start) (h2 : start ≤ many) {j : Nat} (hj : j < nN many start ring) : 1 ≤ pt many start ring j ∧ pt many start ring j ≤ many := by
  unfold nN at hj
  unfold pt
  cases ring <;> simp at hj ⊢ <;> split <;> omega
theorem pt_inj (h1 : 1 ≤ start) (h2 : start ≤ many) {i j : Nat} (hi : i < j) (hj : j < nN many start ring) : pt many start ring i ≠ pt many start ring j := by
  unfold nN at hj
  unfold pt
  cases ring with
  | true =>
    simp at hj
    by_cases a : i < start <;> by_cases b : j < start <;> simp [a, b] <;> omega
  | false =>
    simp at hj
    rw [if_pos (by omega), if_pos hj]
    omega
def wl (many start : Nat) (ring : Bool) (j : Nat) : List Int := if pt many start ring j = 0 then [] else [((pt many start ring j : Nat) : Int)]
theorem Chn.step (C : Chn tab many hs ring) (h1 : 1 ≤ start) (h2 : start ≤ many) {j : Nat} (hj : j < nN many start ring) : parI tab ((pt many start ring j : Nat) : Int) = wl many start ring (j + 1) := by
  obtain ⟨a, b⟩ := pt_lt h1 h2 hj
  rw [C.par a b]
  unfold nN at hj
  unfold wl
  by_cases c1 : j + 1 < start
  · have e1 : pt many start ring j = start - j := by unfold pt; rw [if_pos (by omega)]
    have e2 : pt many start ring (j + 1) = start - (j + 1) := by unfold pt; rw [if_pos c1]
    rw [e1, e2, if_neg (by omega), if_neg (by omega)]
    rfl
  · by_cases c2 : j < start
    · have e1 : pt many start ring j = start - j := by unfold pt; rw [if_pos c2]
      have e0 : start - j = 1 := by omega
      rw [e1, e0, if_pos rfl]
      cases ring with
      | true =>
        have e2 : pt many start true (j + 1) = many := by
          unfold pt
          rw [if_neg c1, if_pos rfl]
          omega
        rw [e2, if_pos rfl, if_neg (by omega)]
      | false =>
        have e2 : pt many start false (j + 1) = 0 := by
          unfold pt
          rw [if_neg c1, if_neg (by decide)]
        rw [e2, if_pos rfl, if_neg (by decide)]
    · cases ring with
      | true =>
        simp at hj
        have e1 : pt many start true j = start + many - j := by unfold pt; rw [if_neg c2, if_pos rfl]
        have e2 : pt many start true (j + 1) = start + many - (j + 1) := by unfold pt; rw [if_neg c1, if_pos rfl]
        rw [e1, e2, if_neg (by omega), if_neg (by omega)]
        rfl
      | false =>
        simp at hj
        omega
theorem ptL_succ (j : Nat) : ptL many start ring (j + 1) = ptL many start ring j ++ [((pt many start ring j : Nat) : Int)] := by
  unfold ptL
  rw [List.range_succ, List.map_append]
  rfl
theorem pt_not (h1 : 1 ≤ start) (h2 : start ≤ many) {j : Nat} (hj : j < nN many start ring) : ((pt many start ring j : Nat) : Int) ∉ ptL many start ring j := fun h => by
  obtain ⟨i, hi, e⟩ := List.mem_map.mp h
  exact pt_inj h1 h2 (List.mem_range.mp hi) hj (by omega)
/-- no object with the slot up to t -/
def Free (hs : List Int) (many start : Nat) (ring : Bool) (t : Nat) : Prop := ∀ j < t, ((pt many start ring j : Nat) : Int) ∉ hs
theorem srF_go (C : Chn tab many hs ring) (h1 : 1 ≤ start) (h2 : start ≤ many) {t m : Nat} (ht : t ≤ nN many start ring) (fr : Free hs many start ring t) : ∀ c j, c + j = t → srF tab ("x" : Str) (c + m) (ptL many start ring j) [] (wl many start ring j) = srF tab ("x" : Str) m (ptL many start ring t) [] (wl many start ring t)
  | 0, j, e => by
    have : j = t := by omega
    subst this
    rw [Nat.zero_add]
  | c + 1, j, e => by
    have hj : j < nN many start ring := by omega
    obtain ⟨a, b⟩ := pt_lt h1 h2 hj
    have ew : wl many start ring j = [((pt many start ring j : Nat) : Int)] := by
      unfold wl
      rw [if_neg (by omega)]
    rw [ew, show c + 1 + m = (c + m) + 1 by omega]
    show (if _ ∈ _ then _ else if _ = true then _ else _) = _
    rw [if_neg (pt_not h1 h2 hj), C.has a b, decide_eq_false (fr j (by omega)), if_neg (by decide), C.step h1 h2 hj, List.append_nil, ← ptL_succ]
    exact srF_go C h1 h2 ht fr c (j + 1) (by omega)
theorem srF_nil {x : Str} {m : Nat} {L A : List Int} : srF tab x m L A [] = (L, A) := by
  cases m <;> rfl
theorem fuel_ge (C : Chn tab many hs ring) : many + 2 ≤ fuel tab [(start : Int)] := by
  have := C.len
  unfold fuel
  have e : tab.length ≤ tab.length * (bdS tab + 1) := Nat.le_mul_of_pos_right _ (Nat.succ_pos _)
  show many + 2 ≤ tab.length * (bdS tab + 1) + 1 + 1
  omega
theorem nN_le (h2 : start ≤ many) : nN many start ring ≤ many := by
  unfold nN
  cases ring <;> simp <;> omega
theorem pt0 (h1 : 1 ≤ start) : pt many start ring 0 = start := by
  unfold pt
  rw [if_pos (by omega)]
  omega
/-- found at the t-th -/
theorem found_at (C : Chn tab many hs ring) (h1 : 1 ≤ start) (h2 : start ≤ many) {t : Nat} (ht : t < nN many start ring) (fr : Free hs many start ring t) (hit : ((pt many start ring t : Nat) : Int) ∈ hs) :
    resD tab ("x" : Str) (srch tab ("x" : Str) [(start : Int)]) = .tuple [.tuple [.str ("found" : Str), .int ((pt many start ring t : Nat) : Int), .str ("const" : Str), .tuple [.str ("num" : Str), .int (((pt many start ring t : Nat) : Int) - 1)]], .tuple ((ptL many start ring (t + 1)).map PyData.int)] := by
  obtain ⟨a, b⟩ := pt_lt h1 h2 ht
  have hf := fuel_ge (start := start) C
  have hn := nN_le (ring := ring) h2
  have e : srch tab ("x" : Str) [(start : Int)] = (ptL many start ring (t + 1), [((pt many start ring t : Nat) : Int)]) := by
    unfold srch
    have w0 : [(start : Int)] = wl many start ring 0 := by
      unfold wl
      rw [pt0 h1, if_neg (by omega)]
    have ef : fuel tab [(start : Int)] = t + ((fuel tab [(start : Int)] - t - 1) + 1) := by omega
    rw [ef]
    generalize fuel tab [(start : Int)] - t - 1 = m
    rw [w0]
    show srF tab ("x" : Str) (t + (m + 1)) (ptL many start ring 0) [] (wl many start ring 0) = _
    rw [srF_go C h1 h2 (Nat.le_of_lt ht) fr t 0 (by omega)]
    have ew : wl many start ring t = [((pt many start ring t : Nat) : Int)] := by
      unfold wl
      rw [if_neg (by omega)]
    rw [ew]
    show (if _ ∈ _ then _ else if _ = true then _ else _) = _
    rw [if_neg (pt_not h1 h2 ht), C.has a b, decide_eq_true hit, if_pos rfl, srF_nil, ptL_succ]
    rfl
  rw [e]
  have es : slotOf tab ("x" : Str) ((pt many start ring t : Nat) : Int) = some (xS (((pt many start ring t : Nat) : Int) - 1)) := by
    obtain ⟨en, he, e1, _, e3⟩ := C.ent _ a b
    rw [if_pos hit] at e3
    have q := slotOf_mem C.ord he ("x" : Str)
    rw [e1] at q
    rw [q, e3]
  show PyData.tuple [outD tab ("x" : Str) [((pt many start ring t : Nat) : Int)], _] = _
  have eo : outD tab ("x" : Str) [((pt many start ring t : Nat) : Int)] = .tuple [.str ("found" : Str), .int ((pt many start ring t : Nat) : Int), .str ("const" : Str), .tuple [.str ("num" : Str), .int (((pt many start ring t : Nat) : Int) - 1)]] := by
    show (match slotOf tab ("x" : Str) ((pt many start ring t : Nat) : Int) with
      | some s => PyData.tuple [.str ("found" : Str), .int ((pt many start ring t : Nat) : Int), .str s.kind, s.val]
      | none => .none) = _
    rw [es]
    rfl
  rw [eo]
/-- found nowhere -/
theorem found_no (C : Chn tab many hs ring) (h1 : 1 ≤ start) (h2 : start ≤ many) (fr : Free hs many start ring (nN many start ring)) :
    resD tab ("x" : Str) (srch tab ("x" : Str) [(start : Int)]) = .tuple [.tuple [.str ("none" : Str)], .tuple ((ptL many start ring (nN many start ring)).map PyData.int)] := by
  have hf := fuel_ge (start := start) C
  have hn := nN_le (ring := ring) h2
  have e : srch tab ("x" : Str) [(start : Int)] = (ptL many start ring (nN many start ring), []) := by
    unfold srch
    have w0 : [(start : Int)] = wl many start ring 0 := by
      unfold wl
      rw [pt0 h1, if_neg (by omega)]
    have ef : fuel tab [(start : Int)] = nN many start ring + ((fuel tab [(start : Int)] - nN many start ring - 1) + 1) := by omega
    rw [ef]
    generalize fuel tab [(start : Int)] - nN many start ring - 1 = m
    rw [w0]
    show srF tab ("x" : Str) (nN many start ring + (m + 1)) (ptL many start ring 0) [] (wl many start ring 0) = _
    rw [srF_go C h1 h2 (Nat.le_refl _) fr _ 0 (by omega)]
    cases ring with
    | false =>
      have ew : wl many start false (nN many start false) = [] := by
        unfold wl pt nN
        simp
      rw [ew, srF_nil]
    | true =>
      have ep : pt many start true (nN many start true) = start := by
        unfold pt nN
        simp
        omega
      have ew : wl many start true (nN many start true) = [(start : Int)] := by
        unfold wl
        rw [ep, if_neg (by omega)]
      rw [ew]
      have hm : ((start : Nat) : Int) ∈ ptL many start true (nN many start true) := by
        refine List.mem_map.mpr ⟨0, List.mem_range.mpr ?_, by rw [pt0 h1]⟩
        unfold nN
        simp
        omega
      show (if _ ∈ _ then _ else if _ = true then _ else _) = _
      rw [if_pos hm, srF_nil]
  rw [e]
  rfl
theorem first {P : Nat → Prop} (dec : ∀ n, P n ∨ ¬ P n) : ∀ n, (∃ t < n, P t ∧ ∀ j < t, ¬ P j) ∨ ∀ j < n, ¬ P j
  | 0 => .inr fun j hj => absurd hj (Nat.not_lt_zero j)
  | n + 1 => by
    rcases first dec n with ⟨t, ht, p, q⟩ | h
    · exact .inl ⟨t, Nat.lt_succ_of_lt ht, p, q⟩
    · rcases dec n with p | p
      · exact .inl ⟨n, Nat.lt_succ_self n, p, h⟩
      · refine .inr fun j hj => ?_
        rcases Nat.lt_succ_iff_lt_or_eq.mp hj with hj | rfl
        · exact h j hj
        · exact p
end
end Rm.K27

/-! Q25 (for k27): the drawn chain's table. -/
namespace Rm.K27
open PySem PySem.Spec PyProof.Rows L2
def yS (k : Nat) : Sl := ⟨("y" : Str), ("var" : Str), .tuple [.str ("num" : Str), .int (k : Nat)]⟩
def pS (nm kd : Str) (k : Nat) : Sl := ⟨nm, kd, .tuple [.str ("ref" : Str), .int (k : Nat)]⟩
def shp (nm kd : Str) (k : Nat) (y x : Bool) : List Sl := (if y = true then [yS k] else []) ++ ((if k = 0 then [] else [pS nm kd k]) ++ (if x = true then [xS (k : Nat)] else []))
structure ShOk (ts : List Sl) (k : Nat) (x : Bool) : Prop where
  mks : mkS ts = ts
  par : parS ts = if k = 0 then [] else [((k : Nat) : Int)]
  gx : getS ts ("x" : Str) = if x = true then some (xS (k : Nat)) else none
  gb : getS ts ("back" : Str) = none
  len : ts.length ≤ 3
theorem shp_ok {nm kd : Str} {k : Nat} {y x : Bool} (hn : nm = "p" ∨ nm = "up") (hk : kd = "parent" ∨ kd = "varparent") : ShOk (shp nm kd k y x) k x := by
  unfold shp
  by_cases hz : k = 0
  · subst hz
    rcases hn with rfl | rfl <;> rcases hk with rfl | rfl <;> cases y <;> cases x <;> exact ⟨by kernel_rfl, by kernel_rfl, by kernel_rfl, by kernel_rfl, by decide⟩
  · rw [if_neg hz]
    rcases hn with rfl | rfl <;> rcases hk with rfl | rfl <;> cases y <;> cases x <;> exact ⟨by kernel_rfl, by rw [if_neg hz]; kernel_rfl, by kernel_rfl, by kernel_rfl, by simp⟩
theorem shp_val {nm kd : Str} {k : Nat} {y x : Bool} : ∀ s ∈ shp nm kd k y x, ValOk s.val := by
  intro s hs
  unfold shp at hs
  rcases List.mem_append.mp hs with h | h
  · split at h
    · rw [List.mem_singleton.mp h]
      exact ⟨_, _, rfl, fun e => absurd e (by decide +kernel)⟩
    · cases h
  rcases List.mem_append.mp h with h | h
  · split at h
    · cases h
    · rw [List.mem_singleton.mp h]
      exact ⟨_, _, rfl, fun _ => ⟨_, _, rfl⟩⟩
  · split at h
    · rw [List.mem_singleton.mp h]
      exact ⟨_, _, rfl, fun e => absurd e (by decide +kernel)⟩
    · cases h
/-- the table of k objects besides the lobby -/
structure TbK (tab : List En) (k : Nat) (hs : List Int) : Prop where
  ids : tab.map (·.id) = List.range (k + 1)
  z : ∀ e ∈ tab, e.id = 0 → parS e.sl = [] ∧ e.sl.length ≤ 3
  en : ∀ e ∈ tab, 1 ≤ e.id → parS e.sl = (if e.id = 1 then [] else [((e.id - 1 : Nat) : Int)]) ∧ getS e.sl ("x" : Str) = (if ((e.id : Nat) : Int) ∈ hs then some (xS (((e.id : Nat) : Int) - 1)) else none) ∧ getS e.sl ("back" : Str) = none ∧ e.sl.length ≤ 3
  hb : ∀ i ∈ hs, 1 ≤ i ∧ i ≤ (k : Int)
theorem tb0 {o : Addr} : TbK [⟨0, o, [lobbyS]⟩] 0 [] := by
  refine ⟨rfl, fun e he _ => ?_, fun e he h => ?_, fun i hi => by cases hi⟩
  · rw [List.mem_singleton.mp he]
    exact ⟨by kernel_rfl, by show 1 ≤ 3; decide⟩
  · rw [List.mem_singleton.mp he] at h
    exact absurd h (by show ¬ 1 ≤ 0; decide)
section
variable {tab : List En} {k : Nat} {hs : List Int}
theorem TbK.len (t : TbK tab k hs) : tab.length = k + 1 := by
  have := congrArg List.length t.ids
  rwa [List.length_map, List.length_range] at this
theorem TbK.ord (t : TbK tab k hs) : tab.Pairwise fun a b => a.id < b.id := by
  have a : (List.range (k + 1)).Pairwise (· < ·) := List.pairwise_lt_range
  rw [← t.ids] at a
  exact List.pairwise_map.mp a
theorem TbK.has (t : TbK tab k hs) {n : Nat} (h : n ≤ k) : ∃ e ∈ tab, e.id = n := by
  have : n ∈ tab.map (·.id) := by
    rw [t.ids]
    exact List.mem_range.mpr (by omega)
  obtain ⟨e, he, e1⟩ := List.mem_map.mp this
  exact ⟨e, he, e1⟩
theorem TbK.le (t : TbK tab k hs) {e : En} (he : e ∈ tab) : e.id ≤ k := by
  have : e.id ∈ List.range (k + 1) := by
    rw [← t.ids]
    exact List.mem_map_of_mem he
  have := List.mem_range.mp this
  omega
theorem TbK.next (t : TbK tab k hs) {o : Addr} {ts : List Sl} {x : Bool} (s : ShOk ts k x) : TbK (tab ++ [⟨k + 1, o, mkS ts⟩]) (k + 1) (if x = true then hs ++ [((k : Nat) : Int) + 1] else hs) := by
  have hmem : ∀ n : Nat, n ≤ k → ((((n : Nat) : Int) ∈ (if x = true then hs ++ [((k : Nat) : Int) + 1] else hs)) ↔ ((n : Nat) : Int) ∈ hs) := fun n hn => by
    cases x with
    | false => exact Iff.rfl
    | true =>
      rw [if_pos rfl, List.mem_append, List.mem_singleton]
      refine ⟨fun h => h.resolve_right (by omega), .inl⟩
  refine ⟨?_, fun e he h => ?_, fun e he h => ?_, fun i hi => ?_⟩
  · rw [List.map_append, t.ids, List.range_succ (n := k + 1)]
    rfl
  · rcases List.mem_append.mp he with he | he
    · exact t.z e he h
    · rw [List.mem_singleton.mp he] at h
      cases h
  · rcases List.mem_append.mp he with he | he
    · obtain ⟨a, b, c, d⟩ := t.en e he h
      refine ⟨a, ?_, c, d⟩
      rw [b]
      by_cases q : ((e.id : Nat) : Int) ∈ hs
      · rw [if_pos q, if_pos ((hmem _ (t.le he)).mpr q)]
      · rw [if_neg q, if_neg (fun z => q ((hmem _ (t.le he)).mp z))]
    · rw [List.mem_singleton.mp he]
      show parS (mkS ts) = (if k + 1 = 1 then [] else [((k + 1 - 1 : Nat) : Int)]) ∧ getS (mkS ts) ("x" : Str) = (if ((k + 1 : Nat) : Int) ∈ _ then some (xS (((k + 1 : Nat) : Int) - 1)) else none) ∧ getS (mkS ts) ("back" : Str) = none ∧ (mkS ts).length ≤ 3
      rw [s.mks]
      refine ⟨?_, ?_, s.gb, s.len⟩
      · rw [s.par]
        by_cases q : k = 0
        · rw [if_pos q, if_pos (by omega)]
        · rw [if_neg q, if_neg (by omega)]
          rfl
      · rw [s.gx]
        cases x with
        | true =>
          rw [if_pos rfl, if_pos rfl, if_pos (List.mem_append.mpr (.inr (List.mem_singleton.mpr (by omega))))]
          congr 2
          omega
        | false =>
          have q : ¬ ((k + 1 : Nat) : Int) ∈ hs := fun z => by
            have := t.hb _ z
            omega
          show (if false = true then _ else none) = if ((k + 1 : Nat) : Int) ∈ hs then _ else none
          rw [if_neg q]
          rfl
  · cases x with
    | false =>
      have := t.hb i hi
      omega
    | true =>
      rw [if_pos rfl] at hi
      rcases List.mem_append.mp hi with hi | hi
      · have := t.hb i hi
        omega
      · rw [List.mem_singleton.mp hi]
        omega
theorem TbK.chn (t : TbK tab k hs) : Chn tab k hs false := by
  refine ⟨t.ord, by have := t.len; omega, fun n h1 h2 => ?_⟩
  obtain ⟨e, he, e1⟩ := t.has h2
  obtain ⟨a, b, _, _⟩ := t.en e he (by omega)
  rw [e1] at a b
  refine ⟨e, he, e1, ?_, b⟩
  rw [a]
  simp
theorem putS_new : ∀ {sl : List Sl} {n : Sl}, getS sl n.name = none → putS sl n = sl ++ [n]
  | [], n, _ => rfl
  | s :: sl, n, h => by
    unfold getS at h
    split at h
    · cases h
    · rename_i c
      unfold putS
      rw [if_neg c, putS_new h]
      rfl
theorem getS_app : ∀ {sl : List Sl} {n : Sl} {x : Str}, ¬ n.name = x → getS (sl ++ [n]) x = getS sl x
  | [], n, x, h => by
    show (if n.name = x then some n else none) = none
    rw [if_neg h]
  | s :: sl, n, x, h => by
    show (if s.name = x then some s else getS (sl ++ [n]) x) = (if s.name = x then some s else getS sl x)
    rw [getS_app h]
def bkS (many : Nat) : Sl := ⟨("back" : Str), ("varparent" : Str), .tuple [.str ("ref" : Str), .int (many : Nat)]⟩
/-- the table with the ring closed -/
theorem TbK.ring (t : TbK tab k hs) {e0 : En} (h0 : e0 ∈ tab) (h1 : e0.id = 1) : Chn (setE tab e0.id (putS e0.sl (bkS k))) k hs true := by
  have bk : ¬ (bkS k).name = ("x" : Str) := by show ¬ ("back" : Str) = ("x" : Str); decide +kernel
  obtain ⟨a0, b0, c0, d0⟩ := t.en e0 h0 (by omega)
  have ep : putS e0.sl (bkS k) = e0.sl ++ [bkS k] := putS_new c0
  refine ⟨pw_ids (setE_id _ _ _) t.ord, ?_, fun n g1 g2 => ?_⟩
  · have := t.len
    unfold setE
    rw [List.length_map]
    omega
  · obtain ⟨e, he, e1⟩ := t.has g2
    obtain ⟨a, b, c, d⟩ := t.en e he (by omega)
    by_cases q : n = 1
    · have eid : e.id = e0.id := by omega
      refine ⟨⟨e.id, e.at_, putS e0.sl (bkS k)⟩, List.mem_map.mpr ⟨e, he, by rw [if_pos eid]⟩, e1, ?_, ?_⟩
      · show parS (putS e0.sl (bkS k)) = _
        rw [ep, if_pos q, if_pos rfl]
        unfold parS at a0 ⊢
        rw [List.filterMap_append, a0, if_pos h1]
        kernel_rfl
      · show getS (putS e0.sl (bkS k)) ("x" : Str) = _
        rw [ep, getS_app bk, b0, h1, q]
    · refine ⟨e, List.mem_map.mpr ⟨e, he, by rw [if_neg (by omega)]⟩, e1, ?_, ?_⟩
      · rw [a, e1, if_neg q, if_neg q]
      · rw [b, e1]
end
end Rm.K27

/-! U31 (for k27): the law. -/
namespace Rm.K27
open PySem PySem.Spec PyProof.Rows L2 Rm.Q
/-- draws and objects -/
structure Wc (K : PySem.W.Frag) (H : Hp) (d r p dx tb : Addr) (tab : List En) (n : Nat) : Prop where
  dr : Draws H d r
  ob : Ob K H p dx tb tab n
  dt : d ≠ tb
  da : ∀ e ∈ tab, d ≠ e.at_
def sp_l_chain (K : PySem.W.Frag) : Sp := fun vs H Q _ => ∃ (d r p dx tb o : Addr) (many : Nat), vs = [.ref d, .ref p, .int (many : Nat)] ∧ Wc K H d r p dx tb [⟨0, o, [lobbyS]⟩] 1 ∧ many ≤ 2001 ∧
  ∀ tab hs q H', Wc K H' d r p dx tb tab (many + 1) → TbK tab many hs → hs.length ≤ many → H' q = some (.lst (hs.map V.int)) → Q (.ref q) H'
def dueD (many start : Nat) (ring : Bool) (D : PyData) (hs : List Int) : Prop :=
  (∃ t, t < nN many start ring ∧ Free hs many start ring t ∧ ((pt many start ring t : Nat) : Int) ∈ hs ∧ D = .tuple [.tuple [.str ("found" : Str), .int ((pt many start ring t : Nat) : Int), .str ("const" : Str), .tuple [.str ("num" : Str), .int (((pt many start ring t : Nat) : Int) - 1)]], .tuple ((ptL many start ring (t + 1)).map PyData.int)]) ∨
  (Free hs many start ring (nN many start ring) ∧ D = .tuple [.tuple [.str ("none" : Str)], .tuple ((ptL many start ring (nN many start ring)).map PyData.int)])
def sp_l_due (K : PySem.W.Frag) : Sp := fun vs H Q _ => ∃ (many start : Nat) (ring : Bool) (a : Addr) (hs : List Int), vs = [.int (many : Nat), .ref a, .int (start : Nat), .bl ring] ∧ H a = some (.lst (hs.map V.int)) ∧ 1 ≤ start ∧ start ≤ many ∧ many ≤ 2001 ∧ hs.length ≤ many ∧
  ∀ q H' D, Same H H' → dueD many start ring D hs → Tr H' (.ref q) D → Q (.ref q) H'
def sp_l_is_deep (K : PySem.W.Frag) : Sp := fun vs H Q _ => ∃ (t : Nat), vs = [.int (t : Nat)] ∧ t ≤ 2000 ∧ ∀ H', Q (.bl true) H'
def sp_law (K : PySem.W.Frag) : Sp := fun vs H Q _ => ∃ (a : Addr) (ns : List Int), vs = [.ref a] ∧ SqL K H a (ns.map V.int) ∧ ns.length ≤ 63 ∧ ∀ H', Q (.bl true) H'
/-! ### readings -/

def ns_l_chain : List Str := ["draws", "objects", "many", "holders", "k", "slots"]
def t_l_chain (K : PySem.W.Frag) (E : XK) : TS :=
  (tSeq (tAsg (tLst tNil) (gName 3))
    (tSeq (tFor (iRng1 (tCons (tVar 2) tNil)) (gName 4)
      (tSeq (tAsg (tLst (tCons (tTup (tCons (tOp (rIxL K) (tLst (tCons (tC (.str ("p" : Str))) (tCons (tC (.str ("up" : Str))) tNil))) (tCall (sp_l_next K) [] E (tCons (tVar 0) (tCons (tC (.int 2)) tNil)))) (tCons (tOp (rIxL K) (tLst (tCons (tC (.str ("parent" : Str))) (tCons (tC (.str ("varparent" : Str))) tNil))) (tCall (sp_l_next K) [] E (tCons (tVar 0) (tCons (tC (.int 2)) tNil)))) (tCons (tTup (tCons (tC (.str ("ref" : Str))) (tCons (tVar 4) tNil))) tNil)))) tNil)) (gName 5))
    (tSeq (tIfS (tTest (tOp rEq (tVar 4) (tC (.int 0))))
      (tAsg (tLst tNil) (gName 5))
      tNext)
    (tSeq (tIfS (tTest (tOp rEq (tCall (sp_l_next K) [] E (tCons (tVar 0) (tCons (tC (.int 3)) tNil))) (tC (.int 0))))
      (tAsg (tOp rCat (tLst (tCons (tTup (tCons (tC (.str ("y" : Str))) (tCons (tC (.str ("var" : Str))) (tCons (tTup (tCons (tC (.str ("num" : Str))) (tCons (tVar 4) tNil))) tNil)))) tNil)) (tVar 5)) (gName 5))
      tNext)
    (tSeq (tIfS (tAnd (tTest (tOp rEq (tCall (sp_l_next K) [] E (tCons (tVar 0) (tCons (tC (.int 300)) tNil))) (tC (.int 0)))) (tTest (tOp rGtI (tVar 4) (tC (.int 0)))))
      (tSeq (tDrop (tBM K "list" rAppend (tVar 5) (tCons (tTup (tCons (tC (.str ("x" : Str))) (tCons (tC (.str ("const" : Str))) (tCons (tTup (tCons (tC (.str ("num" : Str))) (tCons (tVar 4) tNil))) tNil)))) tNil)))
    (tDrop (tBM K "list" rAppend (tVar 3) (tCons (tOp rAddI (tVar 4) (tC (.int 1))) tNil))))
      tNext)
    (tDrop (tMeth (He.ga K ("Objects" : Str)) ("make" : Str) (sp_Objects_make K) [] E (tVar 1) (tCons (tCB (rTupleOf K) (tCons (tVar 5) tNil)) tNil))))))))
    (tRet (tVar 3))))

def ns_l_due : List Str := ["many", "holders", "start", "ring", "looked", "one", "k"]
def t_l_due (K : PySem.W.Frag) (E : XK) : TS :=
  (tSeq (tAsg (tLst tNil) (gName 4))
    (tSeq (tAsg (tVar 2) (gName 5))
    (tSeq (tFor (iRng1 (tCons (tVar 0) tNil)) (gName 6)
      (tIfS (tAnd (tTest (tOp rGtI (tVar 5) (tC (.int 0)))) (tTest (tOp (rIn K true) (tVar 5) (tVar 1))))
      (tSeq (tDrop (tBM K "list" rAppend (tVar 4) (tCons (tVar 5) tNil)))
    (tSeq (tAsg (tOp rSubI (tVar 5) (tC (.int 1))) (gName 5))
    (tIfS (tAnd (tTest (tOp rEq (tVar 5) (tC (.int 0)))) (tB (tVar 3)))
      (tAsg (tVar 0) (gName 5))
      tNext)))
      tNext))
    (tSeq (tIfS (tAnd (tTest (tOp rGtI (tVar 5) (tC (.int 0)))) (tTest (tOp (rIn K false) (tVar 5) (tVar 1))))
      (tSeq (tDrop (tBM K "list" rAppend (tVar 4) (tCons (tVar 5) tNil)))
    (tRet (tTup (tCons (tTup (tCons (tC (.str ("found" : Str))) (tCons (tVar 5) (tCons (tC (.str ("const" : Str))) (tCons (tTup (tCons (tC (.str ("num" : Str))) (tCons (tOp rSubI (tVar 5) (tC (.int 1))) tNil))) tNil))))) (tCons (tCB (rTupleOf K) (tCons (tVar 4) tNil)) tNil)))))
      tNext)
    (tRet (tTup (tCons (tTup (tCons (tC (.str ("none" : Str))) tNil)) (tCons (tCB (rTupleOf K) (tCons (tVar 4) tNil)) tNil))))))))

def ns_l_is_deep : List Str := ["ticks", "main", "again", "machine", "k"]
def t_l_is_deep (K : PySem.W.Frag) (E : XK) : TS :=
  (tSeq (tAsg (tTup (tCons (tTup (tCons (tC (.str ("self" : Str))) tNil)) (tCons (tTup (tCons (tC (.str ("method" : Str))) (tCons (tC (.int 1)) tNil))) (tCons (tTup (tMenu (["put", "m", "method"].map mS))) (tCons (tTup (tCons (tC (.str ("self" : Str))) tNil)) (tCons (tTup (tCons (tC (.str ("send" : Str))) (tCons (tC (.str ("m" : Str))) (tCons (tC (.int 0)) tNil)))) (tCons (tTup (tCons (tC (.str ("return" : Str))) tNil)) tNil))))))) (gName 1))
    (tSeq (tAsg (tTup (tCons (tTup (tCons (tC (.str ("self" : Str))) tNil)) (tCons (tTup (tCons (tC (.str ("send" : Str))) (tCons (tC (.str ("m" : Str))) (tCons (tC (.int 0)) tNil)))) (tCons (tTup (tCons (tC (.str ("return" : Str))) tNil)) tNil)))) (gName 2))
    (tSeq (tAsg (tMake (He.ga K ("PlainMachine" : Str)) (spS (MC K) (sp_Machine_init K)) [] E (tCons (tTup (tCons (tTup (tCons (tTup (tCons (tC (.int 0)) (tCons (tC (.int 0)) (tCons (tC (.bl false)) (tCons (tVar 1) tNil))))) (tCons (tTup (tCons (tC (.int 0)) (tCons (tC (.int 0)) (tCons (tC (.bl false)) (tCons (tVar 2) tNil))))) tNil))) (tCons (tC (.int 0)) tNil))) tNil)) (gName 3))
    (tSeq (tFor (iRng1 (tCons (tOp rAddI (tC (.int 5)) (tOp rMulI (tC (.int 2)) (tVar 0))) tNil)) (gName 4)
      (tDrop (tMeth (He.ga K ("PlainMachine" : Str)) ("tick" : Str) (sp_PlainMachine_tick K) [] E (tVar 3) tNil)))
    (tRet (tAndV (tOp rEq (tCB (rLen K) (tCons (tFld K (tVar 3) ("frames" : Str)) tNil)) (tOp rAddI (tC (.int 2)) (tVar 0))) (tAndV (tOp rIsN (tFld K (tVar 3) ("end" : Str)) (tC .non)) (tOp rEq (tFld K (tVar 3) ("ticks" : Str)) (tOp rAddI (tC (.int 5)) (tOp rMulI (tC (.int 2)) (tVar 0)))))))))))

def ns_law : List Str := ["script", "draws", "objects", "many", "holders", "ring", "start"]
def t_law (K : PySem.W.Frag) (E : XK) : TS :=
  (tSeq (tAsg (tCall (sp_l_reader K) [] E (tCons (tVar 0) tNil)) (gName 1))
    (tSeq (tAsg (tMake (He.ga K ("Objects" : Str)) (sp_Objects_init K) [] E tNil) (gName 2))
    (tSeq (tAsg (tOp rAddI (tC (.int 1100)) (tCall (sp_l_next K) [] E (tCons (tVar 1) (tCons (tC (.int 901)) tNil)))) (gName 3))
    (tSeq (tAsg (tCall (sp_l_chain K) [] E (tCons (tVar 1) (tCons (tVar 2) (tCons (tVar 3) tNil)))) (gName 4))
    (tSeq (tAsg (tOp rEq (tCall (sp_l_next K) [] E (tCons (tVar 1) (tCons (tC (.int 2)) tNil))) (tC (.int 0))) (gName 5))
    (tSeq (tIfS (tB (tVar 5))
      (tDrop (tMeth (He.ga K ("Objects" : Str)) ("put" : Str) (sp_Objects_put K) [] E (tVar 2) (tCons (tC (.int 1)) (tCons (tC (.str ("back" : Str))) (tCons (tC (.str ("varparent" : Str))) (tCons (tTup (tCons (tC (.str ("ref" : Str))) (tCons (tVar 3) tNil))) tNil))))))
      tNext)
    (tSeq (tFor (iList K (tLst (tCons (tVar 3) (tCons (tOp rAddI (tC (.int 1)) (tCall (sp_l_next K) [] E (tCons (tVar 1) (tCons (tVar 3) tNil)))) (tCons (tOp rAddI (tC (.int 1)) (tCall (sp_l_next K) [] E (tCons (tVar 1) (tCons (tC (.int 1100)) tNil)))) tNil))))) (gName 6)
      (tIfS (tTest (tOp (rNeD K) (tCall (sp_search K) [] E (tCons (tVar 2) (tCons (tTup (tCons (tVar 6) tNil)) (tCons (tC (.str ("x" : Str))) tNil)))) (tCall (sp_l_due K) [] E (tCons (tVar 3) (tCons (tVar 4) (tCons (tVar 6) (tCons (tVar 5) tNil)))))))
      (tRet (tC (.bl false)))
      tNext))
    (tRet (tCall (sp_l_is_deep K) [] E (tCons (tOp rAddI (tC (.int 1100)) (tCall (sp_l_next K) [] E (tCons (tVar 1) (tCons (tC (.int 400)) tNil)))) tNil))))))))))

def tR3 (K : PySem.W.Frag) (E : XK) : TS := (tDrop (tMeth (He.ga K ("Objects" : Str)) ("make" : Str) (sp_Objects_make K) [] E (tVar 1) (tCons (tCB (rTupleOf K) (tCons (tVar 5) tNil)) tNil)))
def tR2 (K : PySem.W.Frag) (E : XK) : TS := (tSeq (tIfS (tAnd (tTest (tOp rEq (tCall (sp_l_next K) [] E (tCons (tVar 0) (tCons (tC (.int 300)) tNil))) (tC (.int 0)))) (tTest (tOp rGtI (tVar 4) (tC (.int 0)))))
      (tSeq (tDrop (tBM K "list" rAppend (tVar 5) (tCons (tTup (tCons (tC (.str ("x" : Str))) (tCons (tC (.str ("const" : Str))) (tCons (tTup (tCons (tC (.str ("num" : Str))) (tCons (tVar 4) tNil))) tNil)))) tNil)))
    (tDrop (tBM K "list" rAppend (tVar 3) (tCons (tOp rAddI (tVar 4) (tC (.int 1))) tNil))))
      tNext)
    (tDrop (tMeth (He.ga K ("Objects" : Str)) ("make" : Str) (sp_Objects_make K) [] E (tVar 1) (tCons (tCB (rTupleOf K) (tCons (tVar 5) tNil)) tNil))))
def tR1 (K : PySem.W.Frag) (E : XK) : TS := (tSeq (tIfS (tTest (tOp rEq (tCall (sp_l_next K) [] E (tCons (tVar 0) (tCons (tC (.int 3)) tNil))) (tC (.int 0))))
      (tAsg (tOp rCat (tLst (tCons (tTup (tCons (tC (.str ("y" : Str))) (tCons (tC (.str ("var" : Str))) (tCons (tTup (tCons (tC (.str ("num" : Str))) (tCons (tVar 4) tNil))) tNil)))) tNil)) (tVar 5)) (gName 5))
      tNext)
    (tSeq (tIfS (tAnd (tTest (tOp rEq (tCall (sp_l_next K) [] E (tCons (tVar 0) (tCons (tC (.int 300)) tNil))) (tC (.int 0)))) (tTest (tOp rGtI (tVar 4) (tC (.int 0)))))
      (tSeq (tDrop (tBM K "list" rAppend (tVar 5) (tCons (tTup (tCons (tC (.str ("x" : Str))) (tCons (tC (.str ("const" : Str))) (tCons (tTup (tCons (tC (.str ("num" : Str))) (tCons (tVar 4) tNil))) tNil)))) tNil)))
    (tDrop (tBM K "list" rAppend (tVar 3) (tCons (tOp rAddI (tVar 4) (tC (.int 1))) tNil))))
      tNext)
    (tDrop (tMeth (He.ga K ("Objects" : Str)) ("make" : Str) (sp_Objects_make K) [] E (tVar 1) (tCons (tCB (rTupleOf K) (tCons (tVar 5) tNil)) tNil)))))

section
variable {K : PySem.W.Frag} {vs : List V} {H : Hp} {Q : VK} {E : XK}
theorem Wc.pd {G : Hp} {d r p dx tb : Addr} {tab : List En} {n : Nat} (w : Wc K G d r p dx tb tab n) : p ≠ d := by
  obtain ⟨i, s, ns, h1, _⟩ := w.dr
  exact ne_of w.ob.ins h1 (by intro z; cases z)
theorem Wc.same {G G' : Hp} {d r p dx tb : Addr} {tab : List En} {n : Nat} (w : Wc K G d r p dx tb tab n) (s : Same G G') : Wc K G' d r p dx tb tab n := ⟨w.dr.same s, w.ob.same s, w.dt, w.da⟩
theorem kpt {d r : Addr} {G G' : Hp} (D : Draws G d r) (k : Kept d G G') : TK G G' := by
  obtain ⟨i, s, ns, h1, _⟩ := D
  exact fun a xs h => k a _ (ne_of h h1 (by intro z; cases z)) h
theorem Wc.kept {G G' : Hp} {d r p dx tb : Addr} {tab : List En} {n : Nat} (w : Wc K G d r p dx tb tab n) (k : Kept d G G') (D : Draws G' d r) : Wc K G' d r p dx tb tab n := by
  refine ⟨D, w.ob.keep ?_ ?_ (fun e he => ?_) (kpt w.dr k), w.dt, w.da⟩
  · exact (k _ _ w.pd w.ob.ins).trans w.ob.ins.symm
  · exact (k _ _ (Ne.symm w.dt) w.ob.tbl).trans w.ob.tbl.symm
  · obtain ⟨kvs, g, _⟩ := w.ob.ent e he
    exact (k _ _ (Ne.symm (w.da e he)) g).trans g.symm
theorem Wc.ko {G G' : Hp} {d r p dx tb : Addr} {tab tab' : List En} {n n' : Nat} (w : Wc K G d r p dx tb tab n) (k : KO p tb tab G G') (O : Ob K G' p dx tb tab' n') (da : ∀ e ∈ tab', d ≠ e.at_) : Wc K G' d r p dx tb tab' n' := by
  obtain ⟨i, s, ns, h1, h2, h3⟩ := id w.dr
  refine ⟨⟨i, s, ns, k _ _ (Ne.symm w.pd) w.dt w.da h1, k _ _ (ne_of h2 w.ob.ins (by intro z; cases z)) (ne_of h2 w.ob.tbl (by intro z; cases z)) (fun e he => ?_) h2, h3⟩, O, w.dt, da⟩
  obtain ⟨kvs, g, _⟩ := w.ob.ent e he
  exact ne_of h2 g (by intro z; cases z)
/-- a list of one's own -/
theorem Wc.lst {G : Hp} {d r p dx tb u : Addr} {tab : List En} {n : Nat} {xs ys : List V} (w : Wc K G d r p dx tb tab n) (h : G u = some (.lst xs)) (ur : u ≠ r) : Wc K (upd G u (.lst ys)) d r p dx tb tab n := by
  obtain ⟨i, s, ns, h1, h2, h3⟩ := id w.dr
  have ud : u ≠ d := ne_of h h1 (by intro z; cases z)
  refine ⟨w.dr.other ud ur, w.ob.keep (upd_ne (ne_of w.ob.ins h (by intro z; cases z))) (upd_ne (ne_of w.ob.tbl h (by intro z; cases z))) (fun e he => ?_) (tkp h), w.dt, w.da⟩
  obtain ⟨kvs, g, _⟩ := w.ob.ent e he
  exact upd_ne (ne_of g h (by intro z; cases z))
/-- lists stay while objects are made -/
theorem ko_lst {G G' : Hp} {d r p dx tb u : Addr} {tab : List En} {n : Nat} {xs : List V} (w : Wc K G d r p dx tb tab n) (k : KO p tb tab G G') (h : G u = some (.lst xs)) : G' u = some (.lst xs) := by
  refine k _ _ (ne_of h w.ob.ins (by intro z; cases z)) (ne_of h w.ob.tbl (by intro z; cases z)) (fun e he => ?_) h
  obtain ⟨kvs, g, _⟩ := w.ob.ent e he
  exact ne_of h g (by intro z; cases z)
theorem mv_lst {G G' : Hp} {d r p dx tb u : Addr} {tab : List En} {n : Nat} {xs : List V} (w : Wc K G d r p dx tb tab n) (M : Moved d G G') (h : G u = some (.lst xs)) : G' u = some (.lst xs) := by
  obtain ⟨i, s, ns, h1, _⟩ := w.dr
  exact (M _ (ne_of h h1 (by intro z; cases z))).trans h
theorem nxt {G : Hp} {d r p dx tb : Addr} {tab : List En} {n : Nat} {m : Int} {Z : VK} (w : Wc K G d r p dx tb tab n) (hm : 0 < m) (y : ∀ (j : Int) (G' : Hp), 0 ≤ j → j < m → Wc K G' d r p dx tb tab n → Moved d G G' → Z (.int j) G') : sp_l_next K [.ref d, .int m] G Z E :=
  ⟨d, m, rfl, hm, r, w.dr, fun j H' a b D M => y j H' a b (w.kept (Kept.of_moved M) D) M⟩
theorem ite2 {c : Prop} [Decidable c] {A B : Prop} (h1 : c → A) (h2 : ¬ c → B) : if decide c = true then A else B := by
  by_cases z : c
  · rw [decide_eq_true z]
    exact iteT (h1 z)
  · rw [decide_eq_false z]
    exact iteF (h2 z)
theorem trp_app {G : Hp} : ∀ {us vs : List V} {a b : List Sl}, TrpR G us a → TrpR G vs b → TrpR G (us ++ vs) (a ++ b)
  | _, _, _, _, .nil, r => r
  | _, _, _, _, .cons h t r, q => .cons h t (trp_app r q)
theorem tk_mv {G G' : Hp} {d r p dx tb : Addr} {tab : List En} {n : Nat} (w : Wc K G d r p dx tb tab n) (M : Moved d G G') : TK G G' := kpt w.dr (Kept.of_moved M)
/-- what stands before an object is made -/
structure Pre (K : PySem.W.Frag) (G : Hp) (d r p dx tb : Addr) (tab : List En) (k : Nat) (hs : List Int) (D S : Addr) (us : List V) (ts : List Sl) : Prop where
  w : Wc K G d r p dx tb tab (k + 1)
  t : TbK tab k hs
  gD : G D = some (.lst (hs.map V.int))
  gS : G S = some (.lst us)
  tr : TrpR G us ts
  Dr : D ≠ r
  DS : S ≠ D
  Sr : S ≠ r
  ln : hs.length ≤ k
theorem r3_ok {d r p dx tb D S : Addr} {tab : List En} {k many : Nat} {hs hs' : List Int} {us : List V} {ts : List Sl} {x : Bool} {G : Hp} {De : Ends} {v4 : Option V} (C : ObC K) (w : Wc K G d r p dx tb tab (k + 1)) (t : TbK tab k hs) (ok : ShOk ts k x) (vo : ∀ s ∈ ts, ValOk s.val) (hk : k ≤ 2001) (gS : G S = some (.lst us)) (tr : TrpR G us ts) (eh : hs' = if x = true then hs ++ [((k : Nat) : Int) + 1] else hs) (gD : G D = some (.lst (hs'.map V.int)))
    (y : ∀ tab' G', Wc K G' d r p dx tb tab' (k + 2) → TbK tab' (k + 1) hs' → G' D = some (.lst (hs'.map V.int)) → De.nx [some (.ref d), some (.ref p), some (.int (many : Nat)), some (.ref D), v4, some (.ref S)] G') :
    tR3 K E De [some (.ref d), some (.ref p), some (.int (many : Nat)), some (.ref D), v4, some (.ref S)] G := by
  refine ⟨_, rfl, p, dx, _, rfl, w.ob.ins, obF_no (by decide +kernel) (by decide +kernel), _, rfl, S, us, rfl, .inl ⟨SqL.of gS, fun a na => ?_⟩⟩
  have s1 := same_upd (o := .tup us) na
  have w1 := w.same s1
  have lt := t.len
  refine ⟨p, dx, tb, tab, k + 1, a, us, ts, rfl, w1.ob, upd_same, tr.keep (sTk s1), vo, by omega, Nat.le_trans ok.len (by decide), fun o G' no ko O => ?_⟩
  have w2 : Wc K G' d r p dx tb (tab ++ [⟨k + 1, o, mkS ts⟩]) (k + 2) := w1.ko ko O fun e he => by
    rcases List.mem_append.mp he with he | he
    · exact w1.da e he
    · rw [List.mem_singleton.mp he]
      exact w1.dr.neD no
  refine y _ G' w2 ?_ (ko_lst w1 ko (s1 _ _ gD))
  rw [eh]
  exact t.next ok
theorem shp_t {nm kd : Str} {k : Nat} {y : Bool} : shp nm kd k y true = shp nm kd k y false ++ [xS (k : Nat)] := by
  unfold shp
  simp
theorem shp_y {nm kd : Str} {k : Nat} : shp nm kd k true false = yS k :: shp nm kd k false false := by
  unfold shp
  simp
theorem big {n : Nat} (h : n ≤ 10000) : n < sizeLine := Nat.lt_of_le_of_lt h (by decide)
theorem r2_ok {d r p dx tb D S : Addr} {tab : List En} {k many : Nat} {hs : List Int} {us : List V} {nm kd : Str} {yb : Bool} {G : Hp} {De : Ends} (C : ObC K) (w : Wc K G d r p dx tb tab (k + 1)) (t : TbK tab k hs) (hn : nm = "p" ∨ nm = "up") (hkd : kd = "parent" ∨ kd = "varparent") (hk : k ≤ 2001) (gS : G S = some (.lst us)) (tr : TrpR G us (shp nm kd k yb false)) (gD : G D = some (.lst (hs.map V.int))) (Dr : D ≠ r) (DS : S ≠ D) (Sr : S ≠ r) (ln : hs.length ≤ k)
    (y : ∀ tab' hs' G', Wc K G' d r p dx tb tab' (k + 2) → TbK tab' (k + 1) hs' → hs'.length ≤ k + 1 → G' D = some (.lst (hs'.map V.int)) → De.nx [some (.ref d), some (.ref p), some (.int (many : Nat)), some (.ref D), some (.int (k : Nat)), some (.ref S)] G') :
    tR2 K E De [some (.ref d), some (.ref p), some (.int (many : Nat)), some (.ref D), some (.int (k : Nat)), some (.ref S)] G := by
  have lu : us.length ≤ 3 := by
    rw [tr.len]
    exact (shp_ok hn hkd).len
  refine ⟨_, rfl, d, _, rfl, by decide, r, w.dr, fun j G1 a1 b1 D_w1 M1 => ⟨rfl, _, rfl, ?_⟩⟩
  have w1 := w.kept (Kept.of_moved M1) D_w1
  have gS1 := mv_lst w M1 gS
  have gD1 := mv_lst w M1 gD
  have tr1 := tr.keep (tk_mv w M1)
  have no : tR3 K E De [some (.ref d), some (.ref p), some (.int (many : Nat)), some (.ref D), some (.int (k : Nat)), some (.ref S)] G1 :=
    r3_ok C w1 t (shp_ok (y := yb) (x := false) hn hkd) shp_val hk gS1 tr1 (x := false) (hs' := hs) rfl gD1 fun tab' G' w' t' g' => y tab' hs G' w' t' (by omega) g'
  refine ite2 (fun c => ?_) (fun c => ?_)
  · refine ⟨_, rfl, _, _, rfl, rfl, _, rfl, ?_⟩
    refine ite2 (fun c2 => ?_) (fun c2 => ?_)
    · refine ⟨_, rfl, .inl ⟨rfl, _, SqL.of gS1⟩, _, rfl, (by show 2 ≤ sizeLine; decide), fun e1 n1 => ⟨(by show 3 ≤ sizeLine; decide), fun e2 n2 => ?_⟩⟩
      have s1 := same_upd (o := .tup [V.str ("num" : Str), .int (k : Nat)]) n1
      have s2 := same_upd (o := .tup [V.str ("x" : Str), V.str ("const" : Str), .ref e1]) n2
      have g1 := s2 _ _ (upd_same (H := G1) (a := e1) (o := HO.tup [V.str ("num" : Str), .int (k : Nat)]))
      have g2 : (upd (upd G1 e1 (.tup [V.str ("num" : Str), .int (k : Nat)])) e2 (.tup [V.str ("x" : Str), V.str ("const" : Str), .ref e1])) e2 = some (.tup [V.str ("x" : Str), V.str ("const" : Str), .ref e1]) := upd_same
      have s12 := sTr s1 s2
      generalize upd (upd G1 e1 (.tup [V.str ("num" : Str), .int (k : Nat)])) e2 (.tup [V.str ("x" : Str), V.str ("const" : Str), .ref e1]) = G2 at s12 g1 g2 ⊢
      have gS2 := s12 _ _ gS1
      have gD2 := s12 _ _ gD1
      refine ⟨S, us, .ref e2, rfl, rfl, gS2, big (by omega), ?_⟩
      have w3 := (w1.same s12).lst (ys := us ++ [.ref e2]) gS2 Sr
      have k3 : TK G2 (upd G2 S (.lst (us ++ [.ref e2]))) := tkp gS2
      have gS3 : (upd G2 S (.lst (us ++ [.ref e2]))) S = some (.lst (us ++ [.ref e2])) := upd_same
      have gD3 : (upd G2 S (.lst (us ++ [.ref e2]))) D = some (.lst (hs.map V.int)) := (upd_ne (Ne.symm DS)).trans gD2
      have tr3 : TrpR (upd G2 S (.lst (us ++ [.ref e2]))) (us ++ [.ref e2]) (shp nm kd k yb true) := by
        rw [shp_t]
        exact trp_app ((tr1.keep (sTk s12)).keep k3) (.cons (k3 _ _ g2) (.tup (k3 _ _ g1) (.cons (.str _) (.cons (.int _) .nil))) .nil)
      generalize upd G2 S (.lst (us ++ [.ref e2])) = G3 at w3 k3 gS3 gD3 tr3 ⊢
      refine ⟨_, rfl, .inl ⟨rfl, _, SqL.of gD3⟩, _, rfl, _, _, rfl, rfl, D, _, .int (((k : Nat) : Int) + 1), rfl, rfl, gD3, big (by rw [List.length_map]; omega), ?_⟩
      have w4 := w3.lst (ys := hs.map V.int ++ [.int (((k : Nat) : Int) + 1)]) gD3 Dr
      have gD4 : (upd G3 D (.lst (hs.map V.int ++ [.int (((k : Nat) : Int) + 1)]))) D = some (.lst ((hs ++ [((k : Nat) : Int) + 1]).map V.int)) := by
        rw [upd_same, List.map_append]
        rfl
      exact r3_ok C w4 t (shp_ok (y := yb) (x := true) hn hkd) shp_val hk ((upd_ne DS).trans gS3) (tr3.keep (tkp gD3)) (x := true) (hs' := hs ++ [((k : Nat) : Int) + 1]) rfl gD4 fun tab' G' w' t' g' => y tab' _ G' w' t' (by rw [List.length_append, List.length_singleton]; omega) g'
    · exact no
  · exact iteF no
theorem r1_ok {d r p dx tb D S : Addr} {tab : List En} {k many : Nat} {hs : List Int} {us : List V} {nm kd : Str} {G : Hp} {De : Ends} (C : ObC K) (w : Wc K G d r p dx tb tab (k + 1)) (t : TbK tab k hs) (hn : nm = "p" ∨ nm = "up") (hkd : kd = "parent" ∨ kd = "varparent") (hk : k ≤ 2001) (gS : G S = some (.lst us)) (tr : TrpR G us (shp nm kd k false false)) (gD : G D = some (.lst (hs.map V.int))) (Dr : D ≠ r) (DS : S ≠ D) (Sr : S ≠ r) (ln : hs.length ≤ k)
    (y : ∀ tab' hs' G' S', Wc K G' d r p dx tb tab' (k + 2) → TbK tab' (k + 1) hs' → hs'.length ≤ k + 1 → G' D = some (.lst (hs'.map V.int)) → De.nx [some (.ref d), some (.ref p), some (.int (many : Nat)), some (.ref D), some (.int (k : Nat)), some (.ref S')] G') :
    tR1 K E De [some (.ref d), some (.ref p), some (.int (many : Nat)), some (.ref D), some (.int (k : Nat)), some (.ref S)] G := by
  have lu : us.length ≤ 3 := by
    rw [tr.len]
    exact (shp_ok hn hkd).len
  refine ⟨_, rfl, d, _, rfl, by decide, r, w.dr, fun j G1 a1 b1 D_w1 M1 => ⟨rfl, _, rfl, ?_⟩⟩
  have w1 := w.kept (Kept.of_moved M1) D_w1
  have gS1 := mv_lst w M1 gS
  have gD1 := mv_lst w M1 gD
  have tr1 := tr.keep (tk_mv w M1)
  refine ite2 (fun c => ?_) (fun c => ?_)
  · refine ⟨_, rfl, (by show 2 ≤ sizeLine; decide), fun e1 n1 => ⟨(by show 3 ≤ sizeLine; decide), fun e2 n2 => ⟨(by show 1 ≤ sizeLine; decide), fun l1 nl1 => ?_⟩⟩⟩
    have s1 := same_upd (o := .tup [V.str ("num" : Str), .int (k : Nat)]) n1
    have s2 := same_upd (o := .tup [V.str ("y" : Str), V.str ("var" : Str), .ref e1]) n2
    have s3 := same_upd (o := .lst [V.ref e2]) nl1
    have g1 := s3 _ _ (s2 _ _ (upd_same (H := G1) (a := e1) (o := HO.tup [V.str ("num" : Str), .int (k : Nat)])))
    have g2 := s3 _ _ (upd_same (H := upd G1 e1 (.tup [V.str ("num" : Str), .int (k : Nat)])) (a := e2) (o := HO.tup [V.str ("y" : Str), V.str ("var" : Str), .ref e1]))
    have gl : (upd (upd (upd G1 e1 (.tup [V.str ("num" : Str), .int (k : Nat)])) e2 (.tup [V.str ("y" : Str), V.str ("var" : Str), .ref e1])) l1 (.lst [V.ref e2])) l1 = some (.lst [V.ref e2]) := upd_same
    have s13 := sTr s1 (sTr s2 s3)
    generalize upd (upd (upd G1 e1 (.tup [V.str ("num" : Str), .int (k : Nat)])) e2 (.tup [V.str ("y" : Str), V.str ("var" : Str), .ref e1])) l1 (.lst [V.ref e2]) = G2 at s13 g1 g2 gl ⊢
    have gS2 := s13 _ _ gS1
    have gD2 := s13 _ _ gD1
    refine ⟨_, rfl, l1, S, _, us, rfl, rfl, gl, gS2, Nat.le_of_lt (big (show 1 + us.length ≤ 10000 by omega)), fun S2 nS2 => ?_⟩
    have s4 := same_upd (o := .lst ([V.ref e2] ++ us)) nS2
    have w2 := (w1.same s13).same s4
    have r2 : ∃ o, G2 r = some o := ((w1.same s13).dr).atR
    refine r2_ok (yb := true) C w2 t hn hkd hk upd_same ?_ (s4 _ _ gD2) Dr (Ne.symm (ne_of_none gD2 nS2)) (Ne.symm (by obtain ⟨o, ho⟩ := r2; exact ne_of_none ho nS2)) ln fun tab' hs' G' w' t' l' g' => y tab' hs' G' S2 w' t' l' g'
    rw [shp_y]
    have k4 := sTk s4
    exact .cons (k4 _ _ g2) (.tup (k4 _ _ g1) (.cons (.str _) (.cons (.int _) .nil))) ((tr1.keep (sTk s13)).keep k4)
  · exact r2_ok (yb := false) C w1 t hn hkd hk gS1 tr1 gD1 Dr DS Sr ln fun tab' hs' G' w' t' l' g' => y tab' hs' G' S w' t' l' g'
theorem run_l_chain (C : ObC K) (h : sp_l_chain K vs H Q E) : t_l_chain K E (DQ Q) (start ns_l_chain vs) H := by
  obtain ⟨d, r, p, dx, tb, o, many, rfl, W, hm, q⟩ := h
  refine ⟨(by show 0 ≤ sizeLine; decide), fun D nD => ?_⟩
  have s0 := same_upd (o := .lst []) nD
  have W0 := W.same s0
  have gD0 : (upd H D (.lst [])) D = some (.lst ([].map V.int)) := upd_same
  have Dr : D ≠ r := Ne.symm (W.dr.neR nD)
  generalize upd H D (.lst []) = H0 at W0 gD0 ⊢
  refine ⟨_, rfl, _, rfl, by omega, by omega, ?_⟩
  rw [Int.toNat_natCast]
  refine for_range (lo := 0) (n := many) (fun k σ G => ∃ (tab : List En) (hs : List Int) (v4 v5 : Option V), σ = [some (.ref d), some (.ref p), some (.int (many : Nat)), some (.ref D), v4, v5] ∧ Wc K G d r p dx tb tab (k + 1) ∧ TbK tab k hs ∧ hs.length ≤ k ∧ G D = some (.lst (hs.map V.int))) ⟨_, [], _, _, rfl, W0, tb0, Nat.le_refl 0, gD0⟩ ?_ ?_
  · rintro k σ G hk ⟨tab, hs, v4, v5, rfl, w, t, ln, gD⟩
    have ez : (0 : Int) + (k : Int) = ((k : Nat) : Int) := by omega
    rw [ez]
    refine ⟨(by show 2 ≤ sizeLine; decide), fun m1 nm1 => ?_⟩
    have s1 := same_upd (o := .lst [V.str ("p" : Str), V.str ("up" : Str)]) nm1
    have gm1 : (upd G m1 (.lst [V.str ("p" : Str), V.str ("up" : Str)])) m1 = some (.lst (["p", "up"].map mS)) := upd_same
    have w1 := w.same s1
    have gD1 := s1 _ _ gD
    generalize upd G m1 (.lst [V.str ("p" : Str), V.str ("up" : Str)]) = G1 at gm1 w1 gD1 ⊢
    refine ⟨_, rfl, d, _, rfl, by decide, r, w1.dr, fun j1 G2 a1 b1 D_w2 M1 => ?_⟩
    have w2 := w1.kept (Kept.of_moved M1) D_w2
    obtain ⟨sn, hsn, e1⟩ := menu_s (ss := ["p", "up"]) a1 b1
    refine ⟨m1, _, j1, _, rfl, rfl, SqL.of (mv_lst w1 M1 gm1), e1, ?_⟩
    have gD2 := mv_lst w1 M1 gD1
    refine ⟨(by show 2 ≤ sizeLine; decide), fun m2 nm2 => ?_⟩
    have s2 := same_upd (o := .lst [V.str ("parent" : Str), V.str ("varparent" : Str)]) nm2
    have gm2 : (upd G2 m2 (.lst [V.str ("parent" : Str), V.str ("varparent" : Str)])) m2 = some (.lst (["parent", "varparent"].map mS)) := upd_same
    have w3 := w2.same s2
    have gD3 := s2 _ _ gD2
    generalize upd G2 m2 (.lst [V.str ("parent" : Str), V.str ("varparent" : Str)]) = G3 at gm2 w3 gD3 ⊢
    refine ⟨_, rfl, d, _, rfl, by decide, r, w3.dr, fun j2 G4 a2 b2 D_w4 M2 => ?_⟩
    have w4 := w3.kept (Kept.of_moved M2) D_w4
    obtain ⟨sk, hsk, e2⟩ := menu_s (ss := ["parent", "varparent"]) a2 b2
    refine ⟨m2, _, j2, _, rfl, rfl, SqL.of (mv_lst w3 M2 gm2), e2, ?_⟩
    have gD4 := mv_lst w3 M2 gD3
    refine ⟨_, rfl, (by show 2 ≤ sizeLine; decide), fun c1 n1 => ⟨(by show 3 ≤ sizeLine; decide), fun c2 n2 => ⟨(by show 1 ≤ sizeLine; decide), fun S nS => ?_⟩⟩⟩
    have s5 := same_upd (o := .tup [V.str ("ref" : Str), .int (k : Nat)]) n1
    have s6 := same_upd (o := .tup [mS sn, mS sk, .ref c1]) n2
    have s7 := same_upd (o := .lst [V.ref c2]) nS
    have g1 := s7 _ _ (s6 _ _ (upd_same (H := G4) (a := c1) (o := HO.tup [V.str ("ref" : Str), .int (k : Nat)])))
    have g2 := s7 _ _ (upd_same (H := upd G4 c1 (.tup [V.str ("ref" : Str), .int (k : Nat)])) (a := c2) (o := HO.tup [mS sn, mS sk, .ref c1]))
    have gS : (upd (upd (upd G4 c1 (.tup [V.str ("ref" : Str), .int (k : Nat)])) c2 (.tup [mS sn, mS sk, .ref c1])) S (.lst [V.ref c2])) S = some (.lst [V.ref c2]) := upd_same
    have s57 := sTr s5 (sTr s6 s7)
    have DS : S ≠ D := Ne.symm (ne_of_none ((sTr s5 s6) _ _ gD4) nS)
    have Sr : S ≠ r := Ne.symm ((w4.same (sTr s5 s6)).dr.neR nS)
    generalize upd (upd (upd G4 c1 (.tup [V.str ("ref" : Str), .int (k : Nat)])) c2 (.tup [mS sn, mS sk, .ref c1])) S (.lst [V.ref c2]) = G5 at s57 g1 g2 gS ⊢
    have w5 := w4.same s57
    have gD5 := s57 _ _ gD4
    have hn : Str.ofString sn = "p" ∨ Str.ofString sn = "up" := by
      rcases List.mem_cons.mp hsn with rfl | h
      · exact .inl rfl
      · rw [List.mem_singleton.mp h]
        exact .inr rfl
    have hkd : Str.ofString sk = "parent" ∨ Str.ofString sk = "varparent" := by
      rcases List.mem_cons.mp hsk with rfl | h
      · exact .inl rfl
      · rw [List.mem_singleton.mp h]
        exact .inr rfl
    refine ⟨_, rfl, rfl, _, rfl, ?_⟩
    refine ite2 (fun c => ?_) (fun c => ?_)
    · have k0 : k = 0 := by
        injection c with c
        omega
      refine ⟨(by show 0 ≤ sizeLine; decide), fun S' nS' => ?_⟩
      have s8 := same_upd (o := .lst []) nS'
      refine r1_ok C (w5.same s8) t hn hkd (by omega) upd_same ?_ (s8 _ _ gD5) Dr (Ne.symm (ne_of_none gD5 nS')) (Ne.symm (w5.dr.neR nS')) ln fun tab' hs' G' S'' w' t' l' g' => ⟨tab', hs', _, _, rfl, w', t', l', g'⟩
      unfold shp
      rw [if_pos k0]
      exact .nil
    · have k0 : ¬ k = 0 := fun e => c (by rw [e]; rfl)
      refine r1_ok C w5 t hn hkd (by omega) gS ?_ gD5 Dr DS Sr ln fun tab' hs' G' S'' w' t' l' g' => ⟨tab', hs', _, _, rfl, w', t', l', g'⟩
      unfold shp
      rw [if_neg k0]
      exact .cons g2 (.tup g1 (.cons (.str _) (.cons (.int _) .nil))) .nil
  · rintro σ G ⟨tab, hs, v4, v5, rfl, w, t, ln, gD⟩
    exact ⟨_, rfl, q tab hs D G w t ln gD⟩
theorem pt_next {many start : Nat} {ring : Bool} (h1 : 1 ≤ start) (h2 : start ≤ many) {j : Nat} (hj : j < nN many start ring) : pt many start ring (j + 1) = if pt many start ring j = 1 then (if ring = true then many else 0) else pt many start ring j - 1 := by
  unfold nN at hj
  unfold pt
  cases ring with
  | true =>
    simp only [if_true] at hj ⊢
    by_cases a : j + 1 < start
    · rw [if_pos a, if_pos (show j < start by omega), if_neg (show ¬ start - j = 1 by omega)]
      omega
    · by_cases b : j < start
      · rw [if_neg a, if_pos b, if_pos (show start - j = 1 by omega)]
        omega
      · rw [if_neg a, if_neg b, if_neg (show ¬ start + many - j = 1 by omega)]
        omega
  | false =>
    simp only [Bool.false_eq_true, if_false] at hj ⊢
    by_cases a : j + 1 < start
    · rw [if_pos a, if_pos (show j < start by omega), if_neg (show ¬ start - j = 1 by omega)]
      omega
    · rw [if_neg a, if_pos hj, if_pos (show start - j = 1 by omega)]
theorem ints_flat (L : List Int) : (L.map V.int).all flatV = true := by
  rw [List.all_map, List.all_eq_true]
  intro x _
  rfl
theorem ints_trs {G : Hp} : ∀ L : List Int, Trs G (L.map V.int) (L.map PyData.int)
  | [] => .nil
  | i :: L => .cons (.int i) (ints_trs L)
theorem run_l_due (h : sp_l_due K vs H Q E) : t_l_due K E (DQ Q) (start ns_l_due vs) H := by
  obtain ⟨many, st, ring, a, hs, rfl, ga, h1, h2, hm, hl, q⟩ := h
  have hN := nN_le (ring := ring) h2
  obtain ⟨τ, t1, fr, hit⟩ : ∃ τ, τ ≤ nN many st ring ∧ Free hs many st ring τ ∧ (τ < nN many st ring → ((pt many st ring τ : Nat) : Int) ∈ hs) := by
    rcases first (P := fun j => ((pt many st ring j : Nat) : Int) ∈ hs) (fun n => Classical.em _) (nN many st ring) with ⟨t, ht, p, f⟩ | f
    · exact ⟨t, Nat.le_of_lt ht, f, fun _ => p⟩
    · exact ⟨nN many st ring, Nat.le_refl _, f, fun z => absurd z (Nat.lt_irrefl _)⟩
  have hin : ∀ (n : Nat), inV (.int ((n : Nat) : Int)) (hs.map V.int) = decide (((n : Nat) : Int) ∈ hs) := fun n => in_ints _ _
  refine ⟨(by show 0 ≤ sizeLine; decide), fun L nL => ?_⟩
  have aL : a ≠ L := ne_of_none ga nL
  have k0 : ∀ b o, b ≠ L → H b = some o → (upd H L (.lst [])) b = some o := fun b o n z => by rw [upd_ne n]; exact z
  have gL0 : (upd H L (.lst [])) L = some (.lst ((ptL many st ring 0).map V.int)) := upd_same
  generalize upd H L (.lst []) = H0 at k0 gL0 ⊢
  refine ⟨_, rfl, _, rfl, _, rfl, by omega, by omega, ?_⟩
  rw [Int.toNat_natCast]
  have p0 := pt0 (many := many) (ring := ring) h1
  refine for_range (lo := 0) (n := many) (fun k σ G => ∃ (j : Nat) (v6 : Option V), j = min k τ ∧ σ = [some (.int (many : Nat)), some (.ref a), some (.int (st : Nat)), some (.bl ring), some (.ref L), some (.int ((pt many st ring j : Nat) : Int)), v6] ∧ (∀ b o, b ≠ L → H b = some o → G b = some o) ∧ G L = some (.lst ((ptL many st ring j).map V.int))) ⟨0, _, by omega, by rw [p0]; rfl, k0, gL0⟩ ?_ ?_
  · rintro k σ G hk ⟨j, v6, ej, rfl, kG, gL⟩
    have gaG := kG _ _ aL ga
    by_cases hj : j < τ
    · have jk : j = k := by omega
      obtain ⟨pa, pb⟩ := pt_lt h1 h2 (show j < nN many st ring by omega)
      have ptn := pt_next h1 h2 (show j < nN many st ring by omega)
      refine ⟨_, rfl, _, _, rfl, rfl, _, rfl, iteTd (decide_eq_true (by omega)) ?_⟩
      refine ⟨_, rfl, _, rfl, a, _, rfl, .inl (SqL.of gaG), rfl, ints_flat hs, _, rfl, iteTd (by show (!inV (.int ((pt many st ring j : Nat) : Int)) (hs.map V.int)) = true; rw [hin, decide_eq_false (fr j hj)]; rfl) ?_⟩
      refine ⟨_, rfl, .inl ⟨rfl, _, SqL.of gL⟩, _, rfl, L, _, .int ((pt many st ring j : Nat) : Int), rfl, rfl, gL, big (by unfold ptL; rw [List.length_map, List.length_map, List.length_range]; omega), ?_⟩
      have kG2 : ∀ b o, b ≠ L → H b = some o → (upd G L (.lst ((ptL many st ring j).map V.int ++ [.int ((pt many st ring j : Nat) : Int)]))) b = some o := fun b o n z => by rw [upd_ne n]; exact kG b o n z
      have gL2 : (upd G L (.lst ((ptL many st ring j).map V.int ++ [.int ((pt many st ring j : Nat) : Int)]))) L = some (.lst ((ptL many st ring (j + 1)).map V.int)) := by
        rw [upd_same, ptL_succ, List.map_append]
        rfl
      generalize upd G L (.lst ((ptL many st ring j).map V.int ++ [.int ((pt many st ring j : Nat) : Int)])) = G2 at kG2 gL2 ⊢
      refine ⟨_, rfl, _, _, rfl, rfl, ?_⟩
      refine ⟨_, rfl, rfl, _, rfl, ?_⟩
      refine ite2 (fun c => ?_) (fun c => ?_)
      · have c1 : pt many st ring j = 1 := by
          injection c with c
          omega
        rw [if_pos c1] at ptn
        refine ⟨_, rfl, ring, rfl, ?_⟩
        cases ring with
        | true =>
          refine iteT ⟨_, rfl, j + 1, some (.int (0 + (k : Int))), by omega, ?_, kG2, gL2⟩
          rw [ptn]
          rfl
        | false =>
          refine iteF ⟨j + 1, some (.int (0 + (k : Int))), by omega, ?_, kG2, gL2⟩
          rw [ptn, c1]
          rfl
      · have c1 : ¬ pt many st ring j = 1 := fun e => c (by rw [e]; rfl)
        rw [if_neg c1] at ptn
        refine iteF ⟨j + 1, some (.int (0 + (k : Int))), by omega, ?_, kG2, gL2⟩
        rw [ptn]
        have e2 : ((pt many st ring j - 1 : Nat) : Int) = ((pt many st ring j : Nat) : Int) - 1 := by omega
        rw [e2]
        rfl
    · have jt : j = τ := by omega
      have stay : ∃ (j' : Nat) (v6' : Option V), j' = min (k + 1) τ ∧ [some (V.int (many : Nat)), some (.ref a), some (.int (st : Nat)), some (.bl ring), some (.ref L), some (.int ((pt many st ring j : Nat) : Int)), some (.int (0 + (k : Int)))] = [some (.int (many : Nat)), some (.ref a), some (.int (st : Nat)), some (.bl ring), some (.ref L), some (.int ((pt many st ring j' : Nat) : Int)), v6'] ∧ (∀ b o, b ≠ L → H b = some o → G b = some o) ∧ G L = some (.lst ((ptL many st ring j').map V.int)) := ⟨j, _, by omega, rfl, kG, gL⟩
      refine ⟨_, rfl, _, _, rfl, rfl, _, rfl, ?_⟩
      refine ite2 (fun c => ?_) (fun c => iteF stay)
      by_cases ht : τ < nN many st ring
      · refine ⟨_, rfl, _, rfl, a, _, rfl, .inl (SqL.of gaG), rfl, ints_flat hs, _, rfl, iteFd (by show (!inV (.int ((pt many st ring j : Nat) : Int)) (hs.map V.int)) = false; rw [hin, jt, decide_eq_true (hit ht)]; rfl) stay⟩
      · exfalso
        have tN : τ = nN many st ring := by omega
        have : pt many st ring j = 0 ∨ many ≤ k := by
          rw [jt, tN]
          cases ring with
          | true =>
            right
            have : nN many st true = many := by unfold nN; simp
            omega
          | false =>
            left
            unfold nN pt
            simp
        omega
  · rintro σ G ⟨j, v6, ej, rfl, kG, gL⟩
    have jt : j = τ := by omega
    subst jt
    have gaG := kG _ _ aL ga
    have none_ : Free hs many st ring (nN many st ring) → j = nN many st ring → (tRet (tTup (tCons (tTup (tCons (tC (.str ("none" : Str))) tNil)) (tCons (tCB (rTupleOf K) (tCons (tVar 4) tNil)) tNil)))) (DQ Q) [some (.int (many : Nat)), some (.ref a), some (.int (st : Nat)), some (.bl ring), some (.ref L), some (.int ((pt many st ring j : Nat) : Int)), v6] G := fun f e => by
      refine ⟨(by show 1 ≤ sizeLine; decide), fun c1 n1 => ?_⟩
      have s1 := same_upd (o := .tup [V.str ("none" : Str)]) n1
      refine ⟨_, rfl, L, _, rfl, .inl ⟨SqL.of (s1 _ _ gL), fun c2 n2 => ⟨(by show 2 ≤ sizeLine; decide), fun c3 n3 => ?_⟩⟩⟩
      have s2 := same_upd (o := .tup ((ptL many st ring j).map V.int)) n2
      have s3 := same_upd (o := .tup [V.ref c1, V.ref c2]) n3
      have sG : Same G (upd (upd (upd G c1 (.tup [V.str ("none" : Str)])) c2 (.tup ((ptL many st ring j).map V.int))) c3 (.tup [V.ref c1, V.ref c2])) := sTr s1 (sTr s2 s3)
      refine q c3 _ _ (fun b o z => sG _ _ (kG b o (ne_of_none z nL) z)) (.inr ⟨f, rfl⟩) (.tup upd_same (.cons (.tup (s3 _ _ (s2 _ _ upd_same)) (.cons (.str _) .nil)) (.cons (.tup (s3 _ _ upd_same) ?_) .nil)))
      rw [e]
      exact ints_trs _
    refine ⟨_, rfl, _, _, rfl, rfl, _, rfl, ?_⟩
    refine ite2 (fun c => ?_) (fun c => ?_)
    · refine ⟨_, rfl, _, rfl, a, _, rfl, .inl (SqL.of gaG), rfl, ints_flat hs, _, rfl, ?_⟩
      by_cases ht : j < nN many st ring
      · refine iteTd (by show inV (.int ((pt many st ring j : Nat) : Int)) (hs.map V.int) = true; rw [hin, decide_eq_true (hit ht)]) ?_
        refine ⟨_, rfl, .inl ⟨rfl, _, SqL.of gL⟩, _, rfl, L, _, .int ((pt many st ring j : Nat) : Int), rfl, rfl, gL, big (by unfold ptL; rw [List.length_map, List.length_map, List.length_range]; omega), ?_⟩
        have kG2 : ∀ b o, b ≠ L → H b = some o → (upd G L (.lst ((ptL many st ring j).map V.int ++ [.int ((pt many st ring j : Nat) : Int)]))) b = some o := fun b o n z => by rw [upd_ne n]; exact kG b o n z
        have gL2 : (upd G L (.lst ((ptL many st ring j).map V.int ++ [.int ((pt many st ring j : Nat) : Int)]))) L = some (.lst ((ptL many st ring (j + 1)).map V.int)) := by
          rw [upd_same, ptL_succ, List.map_append]
          rfl
        generalize upd G L (.lst ((ptL many st ring j).map V.int ++ [.int ((pt many st ring j : Nat) : Int)])) = G2 at kG2 gL2 ⊢
        refine ⟨_, rfl, _, rfl, _, _, rfl, rfl, (by show 2 ≤ sizeLine; decide), fun c0 n0 => ⟨(by show 4 ≤ sizeLine; decide), fun c1 n1 => ?_⟩⟩
        have s0 := same_upd (o := .tup [V.str ("num" : Str), .int (((pt many st ring j : Nat) : Int) - 1)]) n0
        have s1 := same_upd (o := .tup [V.str ("found" : Str), .int ((pt many st ring j : Nat) : Int), V.str ("const" : Str), .ref c0]) n1
        have g0 := s1 _ _ (upd_same (H := G2) (a := c0) (o := HO.tup [V.str ("num" : Str), .int (((pt many st ring j : Nat) : Int) - 1)]))
        have g1 : (upd (upd G2 c0 (.tup [V.str ("num" : Str), .int (((pt many st ring j : Nat) : Int) - 1)])) c1 (.tup [V.str ("found" : Str), .int ((pt many st ring j : Nat) : Int), V.str ("const" : Str), .ref c0])) c1 = some (.tup [V.str ("found" : Str), .int ((pt many st ring j : Nat) : Int), V.str ("const" : Str), .ref c0]) := upd_same
        have s01 := sTr s0 s1
        generalize upd (upd G2 c0 (.tup [V.str ("num" : Str), .int (((pt many st ring j : Nat) : Int) - 1)])) c1 (.tup [V.str ("found" : Str), .int ((pt many st ring j : Nat) : Int), V.str ("const" : Str), .ref c0]) = G3 at s01 g0 g1 ⊢
        refine ⟨_, rfl, L, _, rfl, .inl ⟨SqL.of (s01 _ _ gL2), fun c2 n2 => ⟨(by show 2 ≤ sizeLine; decide), fun c3 n3 => ?_⟩⟩⟩
        have s2 := same_upd (o := .tup ((ptL many st ring (j + 1)).map V.int)) n2
        have s3 := same_upd (o := .tup [V.ref c1, V.ref c2]) n3
        have s23 := sTr s2 s3
        refine q c3 _ _ (fun b o z => s23 _ _ (s01 _ _ (kG2 b o (ne_of_none z nL) z))) (.inl ⟨j, ht, fr, hit ht, rfl⟩) (.tup upd_same (.cons (.tup (s23 _ _ g1) (.cons (.str _) (.cons (.int _) (.cons (.str _) (.cons (.tup (s23 _ _ g0) (.cons (.str _) (.cons (.int _) .nil))) .nil))))) (.cons (.tup (s3 _ _ upd_same) (ints_trs _)) .nil)))
      · have tN : j = nN many st ring := by omega
        have no : ((pt many st ring j : Nat) : Int) ∉ hs := by
          have : pt many st ring j = 0 ∨ pt many st ring j = pt many st ring 0 := by
            rw [tN, p0]
            cases ring with
            | true =>
              right
              unfold nN pt
              simp
              omega
            | false =>
              left
              unfold nN pt
              simp
          rcases this with z | z
          · omega
          · rw [z]
            refine fr 0 ?_
            rw [tN]
            unfold nN
            cases ring <;> simp <;> omega
        refine iteFd (by show inV (.int ((pt many st ring j : Nat) : Int)) (hs.map V.int) = false; rw [hin, decide_eq_false no]) ?_
        exact none_ (by rw [← tN]; exact fr) tN
    · have tN : j = nN many st ring := by
        by_cases ht : j < nN many st ring
        · obtain ⟨pa, pb⟩ := pt_lt h1 h2 ht
          omega
        · omega
      exact iteF (none_ (by rw [← tN]; exact fr) tN)
end
end Rm.K27

/-! U32 (for k27): a method that sends itself on; the law. -/
namespace Rm.K27
open PySem PySem.Spec PyProof.Rows L2 Rm.Q
def mainR : List PyData := [.tuple [dS "self"], .tuple [dS "method", .int 1], .tuple [dS "put", dS "m", dS "method"], .tuple [dS "self"], .tuple [dS "send", dS "m", .int 0], .tuple [dS "return"]]
def againR : List PyData := [.tuple [dS "self"], .tuple [dS "send", dS "m", .int 0], .tuple [dS "return"]]
def csD : List Pc := [⟨0, 0, false, mainR⟩, ⟨0, 0, false, againR⟩]
def plD : PyData := .tuple [dS "locals", .tuple [], .int (-1)]
def F0 (row : Nat) (st : List PyData) : Fm := ⟨"method", 0, row, lobD, 0, plD, st, 0⟩
def F1 (row : Nat) (st : List PyData) : Fm := ⟨"method", 1, row, lobD, 0, plD, st, 0⟩
def MD : PyData := .tuple [dS "method", .int 1]
def e0 (o : Addr) : En := ⟨0, o, [lobbyS]⟩
def mSl : Sl := ⟨("m" : Str), ("method" : Str), MD⟩
def e1 (o : Addr) : En := ⟨0, o, putS [lobbyS] mSl⟩
def fsK (k : Nat) : List PyData := frD (F0 5 []) :: List.replicate k (frD (F1 2 []))
inductive DS : Nat → List En → List PyData → Fm → Prop
  | s0 (o : Addr) : DS 0 [e0 o] [] (F0 0 [])
  | s1 (o : Addr) : DS 1 [e0 o] [] (F0 1 [lobD])
  | s2 (o : Addr) : DS 2 [e0 o] [] (F0 2 [lobD, MD])
  | s3 (o : Addr) : DS 3 [e1 o] [] (F0 3 [])
  | s4 (o : Addr) : DS 4 [e1 o] [] (F0 4 [lobD])
  | ev (o : Addr) (k : Nat) : DS (5 + 2 * k) [e1 o] (fsK k) (F1 0 [])
  | od (o : Addr) (k : Nat) : DS (6 + 2 * k) [e1 o] (fsK k) (F1 1 [lobD])
theorem nf (j row : Nat) (st : List PyData) (s pl : PyData) (h m : Int) : NF ⟨"method", j, row, s, h, pl, st, m⟩ := by
  show ¬ V.str (Str.ofString "method") = V.str ("fast" : Str)
  decide +kernel
theorem sr1 (o : Addr) : SrOk [e1 o] 0 := by
  have ep : parS (e1 o).sl = [] := by kernel_rfl
  refine ⟨⟨e1 o, List.mem_singleton.mpr rfl, rfl⟩, fun e he i hi => ?_, fun e he => ?_, ?_⟩
  · rw [List.mem_singleton.mp he, ep] at hi
    cases hi
  · rw [List.mem_singleton.mp he]
    have : (e1 o).sl.length = 2 := by kernel_rfl
    omega
  · have : fuel [e1 o] [0] = 3 := by kernel_rfl
    omega
theorem so1 (o : Addr) : outD [e1 o] ("m" : Str) (srch [e1 o] ("m" : Str) [0]).2 = .tuple [dS "found", .int 0, dS "method", MD] := by kernel_rfl
structure Nx (i : Nat) (tab : List En) (fs : List PyData) (f : Fm) : Prop where
  ex : ∃ c w ws tab' fs0 f', csD[f.j]? = some c ∧ c.rows[f.row]? = some (.tuple (dS w :: ws)) ∧ w ∈ ["self", "method", "put", "send"] ∧ Stp csD tab fs f w ws tab' (fs0 ++ [frD f']) ∧ DS (i + 1) tab' fs0 f'
  st : f.st.length ≤ 10
  nf : NF f
theorem ds_next {i : Nat} {tab : List En} {fs : List PyData} {f : Fm} (h : DS i tab fs f) (hi : i ≤ 4100) : Nx i tab fs f := by
  cases h with
  | s0 o => exact ⟨⟨_, "self", [], _, [], F0 1 [lobD], rfl, rfl, by decide, .self_ rfl rfl rfl rfl, .s1 o⟩, by decide, nf _ _ _ _ _ _ _⟩
  | s1 o => exact ⟨⟨_, "method", [.int 1], _, [], F0 2 [lobD, MD], rfl, rfl, by decide, .meth 1 rfl rfl rfl rfl, .s2 o⟩, by show 1 ≤ 10; decide, nf _ _ _ _ _ _ _⟩
  | s2 o =>
    refine ⟨⟨_, "put", [dS "m", dS "method"], _, [], F0 3 [], rfl, rfl, by decide, .put ("m" : Str) ("method" : Str) [] (e0 o) MD (List.mem_singleton.mpr rfl) ⟨_, _, rfl, fun e => absurd e (by decide +kernel)⟩ (by show 1 ≤ 1000000; decide) rfl rfl rfl rfl rfl, ?_⟩, by show 2 ≤ 10; decide, nf _ _ _ _ _ _ _⟩
    exact .s3 o
  | s3 o => exact ⟨⟨_, "self", [], _, [], F0 4 [lobD], rfl, rfl, by decide, .self_ rfl rfl rfl rfl, .s4 o⟩, by decide, nf _ _ _ _ _ _ _⟩
  | s4 o => exact ⟨⟨_, "send", [dS "m", .int 0], _, [frD (F0 5 [])], F1 0 [], rfl, rfl, by decide, .send ("m" : Str) [] 0 0 1 _ rfl (sr1 o) (so1 o) rfl rfl rfl rfl (by decide) rfl rfl rfl rfl, .ev o 0⟩, by show 1 ≤ 10; decide, nf _ _ _ _ _ _ _⟩
  | ev o k =>
    refine ⟨⟨_, "self", [], _, fsK k, F1 1 [lobD], rfl, rfl, by decide, .self_ rfl rfl rfl rfl, ?_⟩, by decide, nf _ _ _ _ _ _ _⟩
    rw [show 5 + 2 * k + 1 = 6 + 2 * k by omega]
    exact .od o k
  | od o k =>
    have ef : fsK k ++ [frD (F1 2 [])] = fsK (k + 1) := by
      unfold fsK
      rw [List.replicate_succ']
      rfl
    refine ⟨⟨_, "send", [dS "m", .int 0], _, fsK (k + 1), F1 0 [], rfl, rfl, by decide, .send ("m" : Str) [] 0 0 1 _ rfl (sr1 o) (so1 o) rfl rfl rfl rfl ?_ rfl rfl rfl (by rw [← ef]; rfl), ?_⟩, by show 1 ≤ 10; decide, nf _ _ _ _ _ _ _⟩
    · unfold fsK
      rw [List.length_cons, List.length_replicate]
      omega
    · rw [show 6 + 2 * k + 1 = 5 + 2 * (k + 1) by omega]
      exact .ev o (k + 1)
theorem ds_end {i t : Nat} {tab : List En} {fs : List PyData} {f : Fm} (h : DS i tab fs f) (e : i = 5 + 2 * t) : fs.length = t + 1 := by
  cases h with
  | s0 o => omega
  | s1 o => omega
  | s2 o => omega
  | s3 o => omega
  | s4 o => omega
  | ev o k =>
    have : k = t := by omega
    unfold fsK
    rw [List.length_cons, List.length_replicate, this]
  | od o k => omega
section
variable {K : PySem.W.Frag} {vs : List V} {H : Hp} {Q : VK} {E : XK}
theorem run_l_is_deep (C : McC K) (h : sp_l_is_deep K vs H Q E) : t_l_is_deep K E (DQ Q) (start ns_l_is_deep vs) H := by
  obtain ⟨t, rfl, ht, q⟩ := h
  refine ⟨(by show 1 ≤ sizeLine; decide), fun a1 n1 => ?_⟩
  have s1 := same_upd (o := .tup [V.str ("self" : Str)]) n1
  have t1 : Tr (upd H a1 (.tup [V.str ("self" : Str)])) (.ref a1) (.tuple [dS "self"]) := .tup upd_same (.cons (.str _) .nil)
  generalize upd H a1 (.tup [V.str ("self" : Str)]) = H1 at s1 t1 ⊢
  refine ⟨(by show 2 ≤ sizeLine; decide), fun a2 n2 => ?_⟩
  have s2 := same_upd (o := .tup [V.str ("method" : Str), V.int 1]) n2
  have t2 : Tr (upd H1 a2 (.tup [V.str ("method" : Str), V.int 1])) (.ref a2) (.tuple [dS "method", .int 1]) := .tup upd_same (.cons (.str _) (.cons (.int _) .nil))
  have t1 := t1.keep (sTk s2)
  generalize upd H1 a2 (.tup [V.str ("method" : Str), V.int 1]) = H2 at s2 t2 t1 ⊢
  refine ⟨(by show 3 ≤ sizeLine; decide), fun a3 n3 => ?_⟩
  have s3 := same_upd (o := .tup (["put", "m", "method"].map mS)) n3
  have t3 : Tr (upd H2 a3 (.tup (["put", "m", "method"].map mS))) (.ref a3) (.tuple [dS "put", dS "m", dS "method"]) := .tup upd_same (.cons (.str _) (.cons (.str _) (.cons (.str _) .nil)))
  have t1 := t1.keep (sTk s3)
  have t2 := t2.keep (sTk s3)
  generalize upd H2 a3 (.tup (["put", "m", "method"].map mS)) = H3 at s3 t3 t1 t2 ⊢
  refine ⟨(by show 1 ≤ sizeLine; decide), fun a4 n4 => ?_⟩
  have s4 := same_upd (o := .tup [V.str ("self" : Str)]) n4
  have t4 : Tr (upd H3 a4 (.tup [V.str ("self" : Str)])) (.ref a4) (.tuple [dS "self"]) := .tup upd_same (.cons (.str _) .nil)
  have t1 := t1.keep (sTk s4)
  have t2 := t2.keep (sTk s4)
  have t3 := t3.keep (sTk s4)
  generalize upd H3 a4 (.tup [V.str ("self" : Str)]) = H4 at s4 t4 t1 t2 t3 ⊢
  refine ⟨(by show 3 ≤ sizeLine; decide), fun a5 n5 => ?_⟩
  have s5 := same_upd (o := .tup [V.str ("send" : Str), V.str ("m" : Str), V.int 0]) n5
  have t5 : Tr (upd H4 a5 (.tup [V.str ("send" : Str), V.str ("m" : Str), V.int 0])) (.ref a5) (.tuple [dS "send", dS "m", .int 0]) := .tup upd_same (.cons (.str _) (.cons (.str _) (.cons (.int _) .nil)))
  have t1 := t1.keep (sTk s5)
  have t2 := t2.keep (sTk s5)
  have t3 := t3.keep (sTk s5)
  have t4 := t4.keep (sTk s5)
  generalize upd H4 a5 (.tup [V.str ("send" : Str), V.str ("m" : Str), V.int 0]) = H5 at s5 t5 t1 t2 t3 t4 ⊢
  refine ⟨(by show 1 ≤ sizeLine; decide), fun a6 n6 => ?_⟩
  have s6 := same_upd (o := .tup [V.str ("return" : Str)]) n6
  have t6 : Tr (upd H5 a6 (.tup [V.str ("return" : Str)])) (.ref a6) (.tuple [dS "return"]) := .tup upd_same (.cons (.str _) .nil)
  have t1 := t1.keep (sTk s6)
  have t2 := t2.keep (sTk s6)
  have t3 := t3.keep (sTk s6)
  have t4 := t4.keep (sTk s6)
  have t5 := t5.keep (sTk s6)
  generalize upd H5 a6 (.tup [V.str ("return" : Str)]) = H6 at s6 t6 t1 t2 t3 t4 t5 ⊢
  refine ⟨(by show 6 ≤ sizeLine; decide), fun a7 n7 => ?_⟩
  have s7 := same_upd (o := .tup [V.ref a1, .ref a2, .ref a3, .ref a4, .ref a5, .ref a6]) n7
  have t7 : Tr (upd H6 a7 (.tup [V.ref a1, .ref a2, .ref a3, .ref a4, .ref a5, .ref a6])) (.ref a7) (.tuple mainR) := .tup upd_same (.cons (t1.keep (sTk s7)) (.cons (t2.keep (sTk s7)) (.cons (t3.keep (sTk s7)) (.cons (t4.keep (sTk s7)) (.cons (t5.keep (sTk s7)) (.cons (t6.keep (sTk s7)) .nil))))))
  have t1 := t1.keep (sTk s7)
  have t2 := t2.keep (sTk s7)
  have t3 := t3.keep (sTk s7)
  have t4 := t4.keep (sTk s7)
  have t5 := t5.keep (sTk s7)
  have t6 := t6.keep (sTk s7)
  generalize upd H6 a7 (.tup [V.ref a1, .ref a2, .ref a3, .ref a4, .ref a5, .ref a6]) = H7 at s7 t7 t1 t2 t3 t4 t5 t6 ⊢
  refine ⟨(by show 1 ≤ sizeLine; decide), fun a8 n8 => ?_⟩
  have s8 := same_upd (o := .tup [V.str ("self" : Str)]) n8
  have t8 : Tr (upd H7 a8 (.tup [V.str ("self" : Str)])) (.ref a8) (.tuple [dS "self"]) := .tup upd_same (.cons (.str _) .nil)
  have t7 := t7.keep (sTk s8)
  generalize upd H7 a8 (.tup [V.str ("self" : Str)]) = H8 at s8 t8 t7 ⊢
  refine ⟨(by show 3 ≤ sizeLine; decide), fun a9 n9 => ?_⟩
  have s9 := same_upd (o := .tup [V.str ("send" : Str), V.str ("m" : Str), V.int 0]) n9
  have t9 : Tr (upd H8 a9 (.tup [V.str ("send" : Str), V.str ("m" : Str), V.int 0])) (.ref a9) (.tuple [dS "send", dS "m", .int 0]) := .tup upd_same (.cons (.str _) (.cons (.str _) (.cons (.int _) .nil)))
  have t7 := t7.keep (sTk s9)
  have t8 := t8.keep (sTk s9)
  generalize upd H8 a9 (.tup [V.str ("send" : Str), V.str ("m" : Str), V.int 0]) = H9 at s9 t9 t7 t8 ⊢
  refine ⟨(by show 1 ≤ sizeLine; decide), fun a10 n10 => ?_⟩
  have s10 := same_upd (o := .tup [V.str ("return" : Str)]) n10
  have t10 : Tr (upd H9 a10 (.tup [V.str ("return" : Str)])) (.ref a10) (.tuple [dS "return"]) := .tup upd_same (.cons (.str _) .nil)
  have t7 := t7.keep (sTk s10)
  have t8 := t8.keep (sTk s10)
  have t9 := t9.keep (sTk s10)
  generalize upd H9 a10 (.tup [V.str ("return" : Str)]) = H10 at s10 t10 t7 t8 t9 ⊢
  refine ⟨(by show 3 ≤ sizeLine; decide), fun a11 n11 => ?_⟩
  have s11 := same_upd (o := .tup [V.ref a8, .ref a9, .ref a10]) n11
  have t11 : Tr (upd H10 a11 (.tup [V.ref a8, .ref a9, .ref a10])) (.ref a11) (.tuple againR) := .tup upd_same (.cons (t8.keep (sTk s11)) (.cons (t9.keep (sTk s11)) (.cons (t10.keep (sTk s11)) .nil)))
  have t7 := t7.keep (sTk s11)
  have t8 := t8.keep (sTk s11)
  have t9 := t9.keep (sTk s11)
  have t10 := t10.keep (sTk s11)
  generalize upd H10 a11 (.tup [V.ref a8, .ref a9, .ref a10]) = H11 at s11 t11 t7 t8 t9 t10 ⊢
  refine ⟨_, rfl, (by show 4 ≤ sizeLine; decide), fun b1 m1 => ?_⟩
  have s12 := same_upd (o := .tup [V.int 0, .int 0, .bl false, .ref a7]) m1
  have g1 : (upd H11 b1 (.tup [V.int 0, .int 0, .bl false, .ref a7])) b1 = some (.tup [V.int 0, .int 0, .bl false, .ref a7]) := upd_same
  have tm := t7.keep (sTk s12)
  have ta := t11.keep (sTk s12)
  generalize upd H11 b1 (.tup [V.int 0, .int 0, .bl false, .ref a7]) = G1 at g1 tm ta ⊢
  refine ⟨_, rfl, (by show 4 ≤ sizeLine; decide), fun b2 m2 => ?_⟩
  have s13 := same_upd (o := .tup [V.int 0, .int 0, .bl false, .ref a11]) m2
  have g2 : (upd G1 b2 (.tup [V.int 0, .int 0, .bl false, .ref a11])) b2 = some (.tup [V.int 0, .int 0, .bl false, .ref a11]) := upd_same
  have g1 := s13 _ _ g1
  have tm := tm.keep (sTk s13)
  have ta := ta.keep (sTk s13)
  generalize upd G1 b2 (.tup [V.int 0, .int 0, .bl false, .ref a11]) = G2 at g1 g2 tm ta ⊢
  refine ⟨(by show 2 ≤ sizeLine; decide), fun b3 m3 => ⟨(by show 2 ≤ sizeLine; decide), fun b4 m4 => ?_⟩⟩
  have s14 := same_upd (o := .tup [V.ref b1, .ref b2]) m3
  have s15 := same_upd (o := .tup [V.ref b3, .int 0]) m4
  have s45 := sTr s14 s15
  have co : CoA (upd (upd G2 b3 (.tup [V.ref b1, .ref b2])) b4 (.tup [V.ref b3, .int 0])) (.ref b4) csD 0 := ⟨b4, b3, _, rfl, upd_same, s15 _ _ upd_same, .cons ⟨b1, _, rfl, s45 _ _ g1, tm.keep (sTk s45)⟩ (.cons ⟨b2, _, rfl, s45 _ _ g2, ta.keep (sTk s45)⟩ .nil)⟩
  generalize upd (upd G2 b3 (.tup [V.ref b1, .ref b2])) b4 (.tup [V.ref b3, .int 0]) = G3 at co ⊢
  intro x dx x1 x2 x3
  have sm : Same G3 (upd (upd G3 dx (.own x)) x (.ins (MC K) dx [])) := fun b o z => by
    rw [upd_ne (ne_of_none z x1), upd_ne (ne_of_none z x2)]
    exact z
  refine ⟨⟨x, dx, [], .ref b4, rfl, upd_same⟩, x, dx, .ref b4, csD, 0, ⟨0, 0, false, mainR⟩, rfl, upd_same, co.keep (sTk sm), rfl, rfl, rfl, fun a odx otb o H' k M en tk => ⟨rfl, ?_⟩⟩
  refine ⟨_, rfl, _, _, rfl, rfl, .inl ⟨by decide, by decide⟩, _, _, rfl, rfl, _, rfl, by omega, by omega, ?_⟩
  rw [show ((5 : Int) + 2 * (t : Int)).toNat = 5 + 2 * t by omega]
  refine for_range (lo := 0) (n := 5 + 2 * t) (fun i σ G => ∃ (v4 : Option V) (a : MV) (odx otb : Addr) (tab : List En) (nx : Nat) (fs : List PyData) (f : Fm), σ = [some (.int (t : Nat)), some (.ref a7), some (.ref a11), some (.ref x), v4] ∧ Mc K G x dx a odx otb tab nx csD 0 (fs ++ [frD f]) ∧ a.en = .non ∧ a.tk = (i : Int) ∧ DS i tab fs f) ⟨_, a, odx, otb, _, 1, [], F0 0 [], rfl, M, en, tk, .s0 o⟩ ?_ ?_
  · rintro i σ G hi ⟨v4, a, odx, otb, tab, nx, fs, f, rfl, M, en, tk, ds⟩
    obtain ⟨⟨c, w, ws, tab', fs0, f', r1, r2, r3, r4, r5⟩, l1, nf'⟩ := ds_next ds (by omega)
    refine ⟨_, rfl, x, dx, _, rfl, M.ins, zip_none (by decide +kernel), x, dx, a, odx, otb, tab, nx, csD, 0, fs, f, c, w, ws, tab', _, rfl, M, en, nf', by omega, r1, r2, r3, r4, fun H' M' => ?_⟩
    exact ⟨_, _, odx, otb, tab', nx, fs0, f', rfl, M', en, by show a.tk + 1 = _; rw [tk]; omega, r5⟩
  · rintro σ G ⟨v4, a, odx, otb, tab, nx, fs, f, rfl, M, en, tk, ds⟩
    have lf := ds_end ds rfl
    obtain ⟨us, gu, tu⟩ := M.frs
    have lu := trs_len tu
    rw [List.length_append, List.length_singleton, lf] at lu
    refine ⟨_, rfl, x, _, dx, _, _, rfl, M.ins, C.cl, C.na _ (by decide +kernel), mcI (i := 4) rfl rfl, _, _, rfl, .inl ⟨_, SqL.of gu, rfl⟩, _, rfl, _, _, rfl, rfl, rfl, _, rfl, ?_⟩
    rw [if_pos (decide_eq_true (show V.int ((us.length : Nat) : Int) = V.int (2 + (t : Int)) by rw [lu]; congr 1; omega))]
    refine ⟨_, rfl, x, _, dx, _, _, rfl, M.ins, C.cl, C.na _ (by decide +kernel), mcI (i := 6) rfl rfl, rfl, _, rfl, ?_⟩
    rw [if_pos (decide_eq_true en)]
    refine ⟨_, rfl, x, _, dx, _, _, rfl, M.ins, C.cl, C.na _ (by decide +kernel), mcI (i := 7) rfl rfl, ?_⟩
    refine ⟨_, rfl, _, _, rfl, rfl, .inl ⟨by decide, by decide⟩, _, _, rfl, rfl, rfl, ?_⟩
    show Q (.bl (decide (V.int a.tk = V.int (5 + 2 * (t : Int))))) G
    rw [decide_eq_true (show V.int a.tk = V.int (5 + 2 * (t : Int)) by rw [tk]; congr 1)]
    exact q G
end
end Rm.K27

/-! Q26 (for k27): the tables are closed and small. -/
namespace Rm.K27
open PySem PySem.Spec PyProof.Rows L2
structure Sml (tab : List En) (many : Nat) : Prop where
  cl : Closed tab
  sl : ∀ e ∈ tab, e.sl.length ≤ 4
  pa : ∀ e ∈ tab, (parS e.sl).length ≤ 1
  le : tab.length = many + 1
section
variable {tab : List En} {k : Nat} {hs : List Int}
theorem bd_le : ∀ {tab : List En}, (∀ e ∈ tab, (parS e.sl).length ≤ 1) → bdS tab ≤ tab.length
  | [], _ => Nat.le_refl _
  | e :: tab, h => by
    have a := h e (List.mem_cons_self ..)
    have b := bd_le fun x hx => h x (List.mem_cons_of_mem _ hx)
    show (parS e.sl).length + bdS tab ≤ tab.length + 1
    omega
theorem Sml.fuel (s : Sml tab k) (h : k ≤ 2001) (i : Int) : fuel tab [i] ≤ 10000000 := by
  have b := bd_le s.pa
  have l := s.le
  show tab.length * (bdS tab + 1) + 1 + 1 ≤ 10000000
  have m : tab.length * (bdS tab + 1) ≤ 2002 * 2003 := Nat.mul_le_mul (by omega) (by omega)
  omega
theorem TbK.par1 (t : TbK tab k hs) {e : En} (he : e ∈ tab) : ∀ i ∈ parS e.sl, ∃ n : Nat, n ≤ k ∧ i = (n : Int) := by
  intro i hi
  by_cases z : e.id = 0
  · rw [(t.z e he z).1] at hi
    cases hi
  · obtain ⟨a, _, _, _⟩ := t.en e he (by omega)
    rw [a] at hi
    split at hi
    · cases hi
    · have := t.le he
      exact ⟨e.id - 1, by omega, List.mem_singleton.mp hi⟩
theorem TbK.par2 (t : TbK tab k hs) {e : En} (he : e ∈ tab) : (parS e.sl).length ≤ 1 := by
  by_cases z : e.id = 0
  · rw [(t.z e he z).1]
    exact Nat.zero_le _
  · obtain ⟨a, _, _, _⟩ := t.en e he (by omega)
    rw [a]
    split
    · exact Nat.zero_le _
    · exact Nat.le_refl _
theorem TbK.len3 (t : TbK tab k hs) {e : En} (he : e ∈ tab) : e.sl.length ≤ 3 := by
  by_cases z : e.id = 0
  · exact (t.z e he z).2
  · exact (t.en e he (by omega)).2.2.2
theorem TbK.isId (t : TbK tab k hs) {n : Nat} (h : n ≤ k) : isId tab (n : Int) := by
  obtain ⟨e, he, e1⟩ := t.has h
  exact ⟨e, he, by rw [e1]⟩
theorem TbK.sml (t : TbK tab k hs) : Sml tab k := by
  refine ⟨fun e he i hi => ?_, fun e he => Nat.le_succ_of_le (t.len3 he), fun e he => t.par2 he, t.len⟩
  obtain ⟨n, hn, rfl⟩ := t.par1 he i hi
  exact t.isId hn
theorem isId_set {i : Int} {m : Nat} {sl : List Sl} (h : isId tab i) : isId (setE tab m sl) i := by
  obtain ⟨e, he, e1⟩ := h
  refine ⟨_, List.mem_map.mpr ⟨e, he, rfl⟩, ?_⟩
  split
  · exact e1
  · exact e1
theorem TbK.smlR (t : TbK tab k hs) {e0 : En} (h0 : e0 ∈ tab) (h1 : e0.id = 1) : Sml (setE tab e0.id (putS e0.sl (bkS k))) k := by
  obtain ⟨a0, b0, c0, d0⟩ := t.en e0 h0 (by omega)
  have ep : putS e0.sl (bkS k) = e0.sl ++ [bkS k] := putS_new c0
  have pa : parS (e0.sl ++ [bkS k]) = [(k : Int)] := by
    unfold parS at a0 ⊢
    rw [List.filterMap_append, a0, if_pos h1]
    kernel_rfl
  have sp : ∀ {P : En → Prop}, (∀ e ∈ tab, P e) → (∀ e ∈ tab, P ⟨e.id, e.at_, e0.sl ++ [bkS k]⟩) → ∀ e ∈ setE tab e0.id (putS e0.sl (bkS k)), P e := by
    intro P p1 p2 e he
    obtain ⟨e', he', rfl⟩ := List.mem_map.mp he
    split
    · rw [ep]
      exact p2 e' he'
    · exact p1 e' he'
  refine ⟨sp (P := fun e => ∀ i ∈ parS e.sl, Rm.isId _ i) ?_ ?_, sp ?_ ?_, sp ?_ ?_, ?_⟩
  · intro e he i hi
    obtain ⟨n, hn, rfl⟩ := t.par1 he i hi
    exact isId_set (t.isId hn)
  · intro e he i hi
    have hi : i ∈ parS (e0.sl ++ [bkS k]) := hi
    rw [pa] at hi
    rw [List.mem_singleton.mp hi]
    exact isId_set (t.isId (Nat.le_refl _))
  · exact fun e he => Nat.le_succ_of_le (t.len3 he)
  · intro e he
    show (e0.sl ++ [bkS k]).length ≤ 4
    rw [List.length_append]
    exact Nat.succ_le_succ d0
  · exact fun e he => t.par2 he
  · intro e he
    show (parS (e0.sl ++ [bkS k])).length ≤ 1
    rw [pa]
    exact Nat.le_refl _
  · unfold setE
    rw [List.length_map, t.len]
end
end Rm.K27

/-! U33 (k27): the law. -/
namespace Rm.K27
open Rm.Q
open PySem PySem.Spec PyProof.Rows L2
theorem ints_lay (L : List Int) : PyData.canLayAll0 (L.map PyData.int) = true ∧ PyData.depthAll (L.map PyData.int) = 0 := by
  induction L with
  | nil => exact ⟨rfl, rfl⟩
  | cons a L ih => simp [PyData.canLayAll0, PyData.canLay0, PyData.depthAll, PyData.depth, ih.1, ih.2]
theorem dueD_shaped {many start : Nat} {ring : Bool} {D : PyData} {hs : List Int} (h : dueD many start ring D hs) : SeqAt.shaped D = true := by
  have o1 : PyData.strOk ("found" : Str) = true := by decide +kernel
  have o2 : PyData.strOk ("const" : Str) = true := by decide +kernel
  have o3 : PyData.strOk ("num" : Str) = true := by decide +kernel
  have o4 : PyData.strOk ("none" : Str) = true := by decide +kernel
  rcases h with ⟨t, _, _, _, rfl⟩ | ⟨_, rfl⟩
  · obtain ⟨a, b⟩ := ints_lay (ptL many start ring (t + 1))
    refine shaped_small (by simp [PyData.canLay0, PyData.canLayAll0, o1, o2, o3, a]) ?_
    simp only [PyData.depth, PyData.depthAll, b]
    omega
  · obtain ⟨a, b⟩ := ints_lay (ptL many start ring (nN many start ring))
    refine shaped_small (by simp [PyData.canLay0, PyData.canLayAll0, o4, a]) ?_
    simp only [PyData.depth, PyData.depthAll, b]
    omega
theorem dueD_res {tab : List En} {many start : Nat} {ring : Bool} {D : PyData} {hs : List Int} (C : Chn tab many hs ring) (h1 : 1 ≤ start) (h2 : start ≤ many) (h : dueD many start ring D hs) : resD tab ("x" : Str) (srch tab ("x" : Str) [(start : Int)]) = D := by
  rcases h with ⟨t, ht, fr, hit, rfl⟩ | ⟨fr, rfl⟩
  · exact found_at C h1 h2 ht fr hit
  · exact found_no C h1 h2 fr
theorem sm_no {A B : Prop} {D0 : PyData} (sh : SeqAt.shaped D0 = true) (h : B) : if (!PyData.eqv D0 D0) = true then A else B := by
  rw [SeqAt.eqv_refl _ (SeqAt.canLay_of_shaped sh)]
  exact iteF h
def tLawR (K : PySem.W.Frag) (E : XK) : TS := (tSeq (tFor (iList K (tLst (tCons (tVar 3) (tCons (tOp rAddI (tC (.int 1)) (tCall (sp_l_next K) [] E (tCons (tVar 1) (tCons (tVar 3) tNil)))) (tCons (tOp rAddI (tC (.int 1)) (tCall (sp_l_next K) [] E (tCons (tVar 1) (tCons (tC (.int 1100)) tNil)))) tNil))))) (gName 6)
      (tIfS (tTest (tOp (rNeD K) (tCall (sp_search K) [] E (tCons (tVar 2) (tCons (tTup (tCons (tVar 6) tNil)) (tCons (tC (.str ("x" : Str))) tNil)))) (tCall (sp_l_due K) [] E (tCons (tVar 3) (tCons (tVar 4) (tCons (tVar 6) (tCons (tVar 5) tNil)))))))
        (tRet (tC (.bl false)))
      tNext))
    (tRet (tCall (sp_l_is_deep K) [] E (tCons (tOp rAddI (tC (.int 1100)) (tCall (sp_l_next K) [] E (tCons (tVar 1) (tCons (tC (.int 400)) tNil)))) tNil))))
section
variable {K : PySem.W.Frag} {vs : List V} {H : Hp} {Q : VK} {E : XK}
theorem law_rest {a d r p dx tb h4 : Addr} {tab : List En} {n many : Nat} {ring : Bool} {hs : List Int} {G : Hp} (W : Wc K G d r p dx tb tab n) (C : Chn tab many hs ring) (S : Sml tab many) (gh : G h4 = some (.lst (hs.map V.int))) (hl : hs.length ≤ many) (m1 : 1100 ≤ many) (m2 : many ≤ 2001)
    (q : ∀ H', Q (.bl true) H') : tLawR K E (DQ Q) [some (.ref a), some (.ref d), some (.ref p), some (.int (many : Nat)), some (.ref h4), some (.bl ring), none] G := by
  refine ⟨_, rfl, _, rfl, _, rfl, d, _, rfl, by omega, r, W.dr, fun j2 G2 a2 b2 D2 M2 => ⟨_, _, rfl, rfl, _, rfl, d, _, rfl, by decide, r, D2, fun j3 G3 a3 b3 D3 M3 => ⟨_, _, rfl, rfl, (by show 3 ≤ sizeLine; decide), fun l nl => ?_⟩⟩⟩
  have W2 := W.kept (Kept.of_moved M2) D2
  have gh2 := mv_lst W M2 gh
  have W3 := W2.kept (Kept.of_moved M3) D3
  have gh3 := mv_lst W2 M3 gh2
  obtain ⟨c2, e2⟩ : ∃ c : Nat, 1 + j2 = (c : Int) := ⟨(1 + j2).toNat, by omega⟩
  obtain ⟨c3, e3⟩ : ∃ c : Nat, 1 + j3 = (c : Int) := ⟨(1 + j3).toNat, by omega⟩
  have s4 := same_upd (o := .lst [V.int (many : Int), V.int (1 + j2), V.int (1 + j3)]) nl
  have W4 := W3.same s4
  have gh4 := s4 _ _ gh3
  have g4 : (upd G3 l (.lst [V.int (many : Int), V.int (1 + j2), V.int (1 + j3)])) l = some (.lst ([many, c2, c3].map fun c : Nat => V.int (c : Int))) := by
    rw [e2, e3]
    exact upd_same
  refine ⟨l, rfl, ⟨_, SqL.of g4⟩, ?_⟩
  generalize upd G3 l (.lst [V.int (many : Int), V.int (1 + j2), V.int (1 + j3)]) = G4 at s4 W4 gh4 g4 ⊢
  refine for_list (xs := [many, c2, c3].map fun c : Nat => V.int (c : Int)) (fun i σ G => ∃ v6 : Option V, σ = [some (.ref a), some (.ref d), some (.ref p), some (.int (many : Nat)), some (.ref h4), some (.bl ring), v6] ∧ Same G4 G)
    ⟨none, rfl, fun _ _ z => z⟩ (fun i σ G _ ⟨_, _, s⟩ => SqL.of (s _ _ g4)) ?_ ?_
  · rintro i y σ G5 hy ⟨v6, rfl, s5⟩
    rw [List.getElem?_map] at hy
    obtain ⟨s, hs0, rfl⟩ := Option.map_eq_some_iff.mp hy
    have hs1 := List.mem_of_getElem? hs0
    have b12 : 1 ≤ s ∧ s ≤ many := by
      rcases List.mem_cons.mp hs1 with rfl | hs1
      · omega
      rcases List.mem_cons.mp hs1 with rfl | hs1
      · omega
      rw [List.mem_singleton.mp hs1]
      omega
    have W5 := W4.same s5
    refine ⟨_, rfl, _, rfl, (by show 1 ≤ sizeLine; decide), fun t1 nt1 => ?_⟩
    have e6 := same_upd (o := .tup [V.int (s : Int)]) nt1
    have W6 := W5.same e6
    refine ⟨p, dx, tb, tab, n, t1, [(s : Int)], ("x" : Str), rfl, W6.ob, upd_same, ?_, S.cl, (fun e he => Nat.le_trans (S.sl e he) (by decide)), S.fuel m2 s, fun q8 G8 e8 r8 => ?_⟩
    · intro i hi
      rw [List.mem_singleton.mp hi]
      obtain ⟨e, he, e1, _⟩ := C.ent s b12.1 b12.2
      exact ⟨e, he, by rw [e1]⟩
    refine ⟨_, rfl, _, rfl, _, rfl, _, rfl, many, s, ring, h4, hs, rfl, e8 _ _ (e6 _ _ (s5 _ _ gh4)), b12.1, b12.2, m2, hl, fun q9 G9 D e9 dd r9 => ?_⟩
    rw [dueD_res C b12.1 b12.2 dd] at r8
    have r89 := r8.keep fun a xs z => e9 a _ z
    have sh := dueD_shaped dd
    refine ⟨_, _, r89.dp, r9.dp, sh, sh, _, rfl, ?_⟩
    refine sm_no sh ?_
    exact ⟨_, rfl, sTr s5 (sTr e6 (sTr e8 e9))⟩
  · rintro σ G5 ⟨v6, rfl, s5⟩
    refine ⟨_, rfl, d, _, rfl, by decide, r, (W4.same s5).dr, fun j G6 a6 b6 D6 M6 => ⟨_, _, rfl, rfl, (1100 + j).toNat, ?_, by omega, fun H' => q H'⟩⟩
    show [V.int (1100 + j)] = [V.int (((1100 + j).toNat : Nat) : Int)]
    rw [Int.toNat_of_nonneg (by omega)]
theorem run_law (h : sp_law K vs H Q E) : t_law K E (DQ Q) (start ns_law vs) H := by
  obtain ⟨a, ns, rfl, hS, hl, q⟩ := h
  refine ⟨_, rfl, a, ns, rfl, hS, hl, fun d r H1 s1 nd nr D1 => ?_⟩
  intro p dx np ndx nxp
  have S1 : Same H1 (upd (upd H1 dx (.own p)) p (.ins (OC K) dx [])) := fun b u z => by
    rw [upd_ne (ne_of_none z np), upd_ne (ne_of_none z ndx)]
    exact z
  have D1' := D1.same S1
  have dp : d ≠ p := D1.neD np
  have rp : r ≠ p := D1.neR np
  refine ⟨p, dx, rfl, upd_same, fun tb o H2 k2 ntb no O2 => ⟨rfl, ?_⟩⟩
  have D2 : Draws H2 d r := by
    obtain ⟨i, s, rs, h1, h2, h3⟩ := D1'
    exact ⟨i, s, rs, k2 _ _ dp h1, k2 _ _ rp h2, h3⟩
  have W2 : Wc K H2 d r p dx tb [⟨0, o, [lobbyS]⟩] 1 := ⟨D2, O2, D1'.neD ntb, fun e he => by
    rw [List.mem_singleton.mp he]
    exact D1'.neD no⟩
  refine ⟨_, rfl, d, _, rfl, by decide, r, D2, fun j H3 j0 j1 D3 M3 => ⟨_, _, rfl, rfl, ?_⟩⟩
  have W3 := W2.kept (Kept.of_moved M3) D3
  obtain ⟨many, em⟩ : ∃ c : Nat, 1100 + j = (c : Int) := ⟨(1100 + j).toNat, by omega⟩
  refine ⟨_, rfl, _, rfl, _, rfl, d, r, p, dx, tb, o, many, (by show [V.ref d, .ref p, .int (1100 + j)] = _; rw [em]), W3, by omega, fun tab hs h4 H4 W4 T4 hl4 g4 => ?_⟩
  refine ⟨_, rfl, d, _, rfl, by decide, r, W4.dr, fun j5 H5 z5 l5 D5 M5 => ⟨rfl, ?_⟩⟩
  have W5 := W4.kept (Kept.of_moved M5) D5
  have g5 := mv_lst W4 M5 g4
  refine ⟨_, rfl, _, rfl, ?_⟩
  refine ite2 (fun c => ?_) (fun c => ?_)
  · obtain ⟨e0, h0, h1⟩ := T4.has (n := 1) (by omega)
    refine ⟨_, rfl, p, dx, _, rfl, W5.ob.ins, obF_no (by decide +kernel) (by decide +kernel), _, rfl, (by show 2 ≤ sizeLine; decide), fun t1 nt1 => ?_⟩
    have s6 := same_upd (o := .tup [V.str ("ref" : Str), V.int (1100 + j)]) nt1
    have W6 := W5.same s6
    have g6 := s6 _ _ g5
    have gt : (upd H5 t1 (.tup [V.str ("ref" : Str), V.int (1100 + j)])) t1 = some (.tup [V.str ("ref" : Str), V.int (many : Int)]) := by
      rw [em]
      exact upd_same
    have e1 : (e0.id : Int) = 1 := by omega
    refine ⟨p, dx, tb, tab, many + 1, e0, ("back" : Str), ("varparent" : Str), .ref t1, .tuple [.str ("ref" : Str), .int (many : Int)], (by rw [e1]; rfl), W6.ob, h0, .tup gt (.cons (.str _) (.cons (.int _) .nil)), ⟨_, _, rfl, fun _ => ⟨_, _, rfl⟩⟩, Nat.le_trans (T4.len3 h0) (by decide), fun H7 k7 O7 => ?_⟩
    have W7 := W6.ko k7 O7 (setE_at_ne W6.da _ _)
    have fin : tLawR K E (DQ Q) [some (.ref a), some (.ref d), some (.ref p), some (.int (1100 + j)), some (.ref h4), some (.bl (decide (V.int j5 = V.int 0))), none] H7 := by
      rw [em, decide_eq_true c]
      exact law_rest W7 (T4.ring h0 h1) (T4.smlR h0 h1) (ko_lst W6 k7 g6) hl4 (by omega) (by omega) q
    exact fin
  · have fin : tLawR K E (DQ Q) [some (.ref a), some (.ref d), some (.ref p), some (.int (1100 + j)), some (.ref h4), some (.bl (decide (V.int j5 = V.int 0))), none] H5 := by
      rw [em, decide_eq_false c]
      exact law_rest W5 T4.chn T4.sml g5 hl4 (by omega) (by omega) q
    exact fin
end
end Rm.K27

namespace Rm.K27.W27
open PySem PySem.Spec PyProof.Rows L2 Rm Rm.Q Rm.K27
theorem sc_l_draws : FnScope ns_l_draws ["script"] (defScope s_l_draws) := ⟨rfl, rfl, rfl, by decide +kernel, rfl, by decide +kernel, by decide +kernel⟩
theorem sc_l_reader : FnScope ns_l_reader ["script"] (defScope s_l_reader) := ⟨rfl, rfl, rfl, by decide +kernel, rfl, by decide +kernel, by decide +kernel⟩
theorem sc_l_next : FnScope ns_l_next ["draws", "many"] (defScope s_l_next) := ⟨rfl, rfl, rfl, by decide +kernel, rfl, by decide +kernel, by decide +kernel⟩
theorem sc_Objects_slot : FnScope ns_Objects_slot ["self", "object_id", "name"] (defScope s_Objects_slot) := ⟨rfl, rfl, rfl, by decide +kernel, rfl, by decide +kernel, by decide +kernel⟩
theorem sc_Objects_put : FnScope ns_Objects_put ["self", "object_id", "name", "kind", "value"] (defScope s_Objects_put) := ⟨rfl, rfl, rfl, by decide +kernel, rfl, by decide +kernel, by decide +kernel⟩
theorem sc_Objects_drop : FnScope ns_Objects_drop ["self", "object_id", "name"] (defScope s_Objects_drop) := ⟨rfl, rfl, rfl, by decide +kernel, rfl, by decide +kernel, by decide +kernel⟩
theorem sc_Objects_assign : FnScope ns_Objects_assign ["self", "object_id", "name", "value"] (defScope s_Objects_assign) := ⟨rfl, rfl, rfl, by decide +kernel, rfl, by decide +kernel, by decide +kernel⟩
theorem sc_Objects_parents : FnScope ns_Objects_parents ["self", "object_id"] (defScope s_Objects_parents) := ⟨rfl, rfl, rfl, by decide +kernel, rfl, by decide +kernel, by decide +kernel⟩
theorem sc_Objects_make : FnScope ns_Objects_make ["self", "slots"] (defScope s_Objects_make) := ⟨rfl, rfl, rfl, by decide +kernel, rfl, by decide +kernel, by decide +kernel⟩
theorem sc_Objects_init : FnScope ns_Objects_init ["self"] (defScope s_Objects_init) := ⟨rfl, rfl, rfl, by decide +kernel, rfl, by decide +kernel, by decide +kernel⟩
theorem sc_outcome_of : FnScope ns_outcome_of ["objects", "holders", "name"] (defScope s_outcome_of) := ⟨rfl, rfl, rfl, by decide +kernel, rfl, by decide +kernel, by decide +kernel⟩
theorem sc_search : FnScope ns_search ["objects", "starts", "name"] (defScope s_search) := ⟨rfl, rfl, rfl, by decide +kernel, rfl, by decide +kernel, by decide +kernel⟩
theorem sc_is_fast_frame : FnScope ns_is_fast_frame ["frame"] (defScope s_is_fast_frame) := ⟨rfl, rfl, rfl, by decide +kernel, rfl, by decide +kernel, by decide +kernel⟩
theorem sc_stack_of : FnScope ns_stack_of ["frame"] (defScope s_stack_of) := ⟨rfl, rfl, rfl, by decide +kernel, rfl, by decide +kernel, by decide +kernel⟩
theorem sc_moved : FnScope ns_moved ["frame", "row", "stack"] (defScope s_moved) := ⟨rfl, rfl, rfl, by decide +kernel, rfl, by decide +kernel, by decide +kernel⟩
theorem sc_first_values : FnScope ns_first_values ["args", "many"] (defScope s_first_values) := ⟨rfl, rfl, rfl, by decide +kernel, rfl, by decide +kernel, by decide +kernel⟩
theorem sc_without_top : FnScope ns_without_top ["stack", "many"] (defScope s_without_top) := ⟨rfl, rfl, rfl, by decide +kernel, rfl, by decide +kernel, by decide +kernel⟩
theorem sc_method_index : FnScope ns_method_index ["slot"] (defScope s_method_index) := ⟨rfl, rfl, rfl, by decide +kernel, rfl, by decide +kernel, by decide +kernel⟩
theorem sc_Machine_add_plain_frame : FnScope ns_Machine_add_plain_frame ["self", "head", "outer", "args"] (defScope s_Machine_add_plain_frame) := ⟨rfl, rfl, rfl, by decide +kernel, rfl, by decide +kernel, by decide +kernel⟩
theorem sc_Machine_add_plain_method : FnScope ns_Machine_add_plain_method ["self", "j", "self_value", "holder", "args"] (defScope s_Machine_add_plain_method) := ⟨rfl, rfl, rfl, by decide +kernel, rfl, by decide +kernel, by decide +kernel⟩
theorem sc_Machine_init : FnScope ns_Machine_init ["self", "code"] (defScope s_Machine_init) := ⟨rfl, rfl, rfl, by decide +kernel, rfl, by decide +kernel, by decide +kernel⟩
theorem sc_search_value : FnScope ns_search_value ["objects", "value", "name"] (defScope s_search_value) := ⟨rfl, rfl, rfl, by decide +kernel, rfl, by decide +kernel, by decide +kernel⟩
theorem sc_PlainMachine_search_send : FnScope ns_PlainMachine_search_send ["self", "receiver", "name"] (defScope s_PlainMachine_search_send) := ⟨rfl, rfl, rfl, by decide +kernel, rfl, by decide +kernel, by decide +kernel⟩
theorem sc_PlainMachine_add_method : FnScope ns_PlainMachine_add_method ["self", "j", "self_value", "holder", "args"] (defScope s_PlainMachine_add_method) := ⟨rfl, rfl, rfl, by decide +kernel, rfl, by decide +kernel, by decide +kernel⟩
theorem sc_PlainMachine_tell_change : FnScope ns_PlainMachine_tell_change ["self", "object_id"] (defScope s_PlainMachine_tell_change) := ⟨rfl, rfl, rfl, by decide +kernel, rfl, by decide +kernel, by decide +kernel⟩
theorem sc_go_on : FnScope ns_go_on ["machine", "frame", "stack"] (defScope s_go_on) := ⟨rfl, rfl, rfl, by decide +kernel, rfl, by decide +kernel, by decide +kernel⟩
theorem sc_push : FnScope ns_push ["machine", "frame", "value"] (defScope s_push) := ⟨rfl, rfl, rfl, by decide +kernel, rfl, by decide +kernel, by decide +kernel⟩
theorem sc_do_self : FnScope ns_do_self ["machine", "frame", "row"] (defScope s_do_self) := ⟨rfl, rfl, rfl, by decide +kernel, rfl, by decide +kernel, by decide +kernel⟩
theorem sc_do_method : FnScope ns_do_method ["machine", "frame", "row"] (defScope s_do_method) := ⟨rfl, rfl, rfl, by decide +kernel, rfl, by decide +kernel, by decide +kernel⟩
theorem sc_do_put : FnScope ns_do_put ["machine", "frame", "row"] (defScope s_do_put) := ⟨rfl, rfl, rfl, by decide +kernel, rfl, by decide +kernel, by decide +kernel⟩
theorem sc_do_found : FnScope ns_do_found ["machine", "frame", "self_value", "outcome", "args"] (defScope s_do_found) := ⟨rfl, rfl, rfl, by decide +kernel, rfl, by decide +kernel, by decide +kernel⟩
theorem sc_do_send : FnScope ns_do_send ["machine", "frame", "row"] (defScope s_do_send) := ⟨rfl, rfl, rfl, by decide +kernel, rfl, by decide +kernel, by decide +kernel⟩
theorem sc_do_row : FnScope ns_do_row ["machine", "frame", "row"] (defScope s_do_row) := ⟨rfl, rfl, rfl, by decide +kernel, rfl, by decide +kernel, by decide +kernel⟩
theorem sc_next_row : FnScope ns_next_row ["machine", "frame"] (defScope s_next_row) := ⟨rfl, rfl, rfl, by decide +kernel, rfl, by decide +kernel, by decide +kernel⟩
theorem sc_PlainMachine_tick : FnScope ns_PlainMachine_tick ["self"] (defScope s_PlainMachine_tick) := ⟨rfl, rfl, rfl, by decide +kernel, rfl, by decide +kernel, by decide +kernel⟩
theorem sc_l_chain : FnScope ns_l_chain ["draws", "objects", "many"] (defScope s_l_chain) := ⟨rfl, rfl, rfl, by decide +kernel, rfl, by decide +kernel, by decide +kernel⟩
theorem sc_l_due : FnScope ns_l_due ["many", "holders", "start", "ring"] (defScope s_l_due) := ⟨rfl, rfl, rfl, by decide +kernel, rfl, by decide +kernel, by decide +kernel⟩
theorem sc_l_is_deep : FnScope ns_l_is_deep ["ticks"] (defScope s_l_is_deep) := ⟨rfl, rfl, rfl, by decide +kernel, rfl, by decide +kernel, by decide +kernel⟩
theorem sc_law : FnScope ns_law ["script"] (defScope s_law) := ⟨rfl, rfl, rfl, by decide +kernel, rfl, by decide +kernel, by decide +kernel⟩
theorem ts_PlainMachine_is : SiIs s_ts_PlainMachine := ⟨_, _, _, _, _, _, _, _, rfl, rfl, rfl, rfl⟩
structure Txt (P : Program) (w : World) (K : PySem.W.Frag) (mg : Str → Option Value) : Prop where
  free_range : mg ("range" : Str) = none
  free_min : mg ("min" : Str) = none
  free_len : mg ("len" : Str) = none
  free_abs : mg ("abs" : Str) = none
  free_int : mg ("int" : Str) = none
  glo__law_draws : mg ("_law_draws" : Str) = some (.ref (He.ga K ("_law_draws" : Str)))
  glo_PARENT_KINDS : mg ("PARENT_KINDS" : Str) = some (.ref (He.ga K ("PARENT_KINDS" : Str)))
  free_tuple : mg ("tuple" : Str) = none
  cls_Objects : Cls K (He.ga K ("Objects" : Str))
  meth_Objects_put : Meth K (He.ga K ("Objects" : Str)) ("put" : Str) (He.ma K (He.ga K ("Objects" : Str)) ("put" : Str))
  int_LOBBY : ∃ t, mg ("LOBBY" : Str) = some (.int 0 t)
  meth_Objects_make : Meth K (He.ga K ("Objects" : Str)) ("make" : Str) (He.ma K (He.ga K ("Objects" : Str)) ("make" : Str))
  meth_Objects_slot : Meth K (He.ga K ("Objects" : Str)) ("slot" : Str) (He.ma K (He.ga K ("Objects" : Str)) ("slot" : Str))
  free_list : mg ("list" : Str) = none
  meth_Objects_parents : Meth K (He.ga K ("Objects" : Str)) ("parents" : Str) (He.ma K (He.ga K ("Objects" : Str)) ("parents" : Str))
  glo_outcome_of : mg ("outcome_of" : Str) = some (.ref (He.ga K ("outcome_of" : Str)))
  str_FAST : ∃ t, mg ("FAST" : Str) = some (.str ("fast" : Str) t)
  glo_is_fast_frame : mg ("is_fast_frame" : Str) = some (.ref (He.ga K ("is_fast_frame" : Str)))
  glo_NOTHING : mg ("NOTHING" : Str) = some (.ref (He.ga K ("NOTHING" : Str)))
  str_METHOD : ∃ t, mg ("METHOD" : Str) = some (.str ("method" : Str) t)
  glo_first_values : mg ("first_values" : Str) = some (.ref (He.ga K ("first_values" : Str)))
  cls_PlainMachine : Cls K (He.ga K ("PlainMachine" : Str))
  int_NO_MARK : ∃ t, mg ("NO_MARK" : Str) = some (.int 0 t)
  int_NO_SCOPE : ∃ t, mg ("NO_SCOPE" : Str) = some (.int (-1) t)
  glo_Objects : mg ("Objects" : Str) = some (.ref (He.ga K ("Objects" : Str)))
  mkr_Objects : Mk K (He.ga K ("Objects" : Str)) (He.ma K (He.ga K ("Objects" : Str)) "__init__")
  glo_search : mg ("search" : Str) = some (.ref (He.ga K ("search" : Str)))
  glo_search_value : mg ("search_value" : Str) = some (.ref (He.ga K ("search_value" : Str)))
  glo_moved : mg ("moved" : Str) = some (.ref (He.ga K ("moved" : Str)))
  glo_stack_of : mg ("stack_of" : Str) = some (.ref (He.ga K ("stack_of" : Str)))
  glo_go_on : mg ("go_on" : Str) = some (.ref (He.ga K ("go_on" : Str)))
  glo_push : mg ("push" : Str) = some (.ref (He.ga K ("push" : Str)))
  glo_without_top : mg ("without_top" : Str) = some (.ref (He.ga K ("without_top" : Str)))
  meth_PlainMachine_tell_change : Meth K (He.ga K ("PlainMachine" : Str)) ("tell_change" : Str) (He.ma K (He.ga K ("PlainMachine" : Str)) ("tell_change" : Str))
  glo_method_index : mg ("method_index" : Str) = some (.ref (He.ga K ("method_index" : Str)))
  meth_PlainMachine_add_method : Meth K (He.ga K ("PlainMachine" : Str)) ("add_method" : Str) (He.ma K (He.ga K ("PlainMachine" : Str)) ("add_method" : Str))
  meth_PlainMachine_search_send : Meth K (He.ga K ("PlainMachine" : Str)) ("search_send" : Str) (He.ma K (He.ga K ("PlainMachine" : Str)) ("search_send" : Str))
  glo_do_found : mg ("do_found" : Str) = some (.ref (He.ga K ("do_found" : Str)))
  glo_STEPS : mg ("STEPS" : Str) = some (.ref (He.ga K ("STEPS" : Str)))
  glo_next_row : mg ("next_row" : Str) = some (.ref (He.ga K ("next_row" : Str)))
  glo_do_row : mg ("do_row" : Str) = some (.ref (He.ga K ("do_row" : Str)))
  glo_RowError : mg ("RowError" : Str) = some (.ref (He.ga K ("RowError" : Str)))
  noat_RowError_problem : NoAttr K (He.ga K ("RowError" : Str)) ("problem" : Str)
  glo__law_next : mg ("_law_next" : Str) = some (.ref (He.ga K ("_law_next" : Str)))
  glo_PlainMachine : mg ("PlainMachine" : Str) = some (.ref (He.ga K ("PlainMachine" : Str)))
  mkr_PlainMachine : Mk K (He.ga K ("PlainMachine" : Str)) (He.ma K (He.ga K ("PlainMachine" : Str)) "__init__")
  meth_PlainMachine_tick : Meth K (He.ga K ("PlainMachine" : Str)) ("tick" : Str) (He.ma K (He.ga K ("PlainMachine" : Str)) ("tick" : Str))
  glo__law_reader : mg ("_law_reader" : Str) = some (.ref (He.ga K ("_law_reader" : Str)))
  glo__law_chain : mg ("_law_chain" : Str) = some (.ref (He.ga K ("_law_chain" : Str)))
  glo__law_due : mg ("_law_due" : Str) = some (.ref (He.ga K ("_law_due" : Str)))
  glo__law_is_deep : mg ("_law_is_deep" : Str) = some (.ref (He.ga K ("_law_is_deep" : Str)))
  glo_law : mg ("law" : Str) = some (.ref (He.ga K ("law" : Str)))
  noat_Objects_table : NoAttr K (He.ga K ("Objects" : Str)) ("table" : Str)
  noat_Objects_next_id : NoAttr K (He.ga K ("Objects" : Str)) ("next_id" : Str)
  noat_PlainMachine_code : NoAttr K (He.ga K ("PlainMachine" : Str)) ("code" : Str)
  noat_PlainMachine_objects : NoAttr K (He.ga K ("PlainMachine" : Str)) ("objects" : Str)
  noat_PlainMachine_scopes : NoAttr K (He.ga K ("PlainMachine" : Str)) ("scopes" : Str)
  noat_PlainMachine_blocks : NoAttr K (He.ga K ("PlainMachine" : Str)) ("blocks" : Str)
  noat_PlainMachine_frames : NoAttr K (He.ga K ("PlainMachine" : Str)) ("frames" : Str)
  noat_PlainMachine_events : NoAttr K (He.ga K ("PlainMachine" : Str)) ("events" : Str)
  noat_PlainMachine_end : NoAttr K (He.ga K ("PlainMachine" : Str)) ("end" : Str)
  noat_PlainMachine_ticks : NoAttr K (He.ga K ("PlainMachine" : Str)) ("ticks" : Str)
  noat_PlainMachine_next_scope : NoAttr K (He.ga K ("PlainMachine" : Str)) ("next_scope" : Str)
  noat_PlainMachine_next_block : NoAttr K (He.ga K ("PlainMachine" : Str)) ("next_block" : Str)
  noat_PlainMachine_last_mark : NoAttr K (He.ga K ("PlainMachine" : Str)) ("last_mark" : Str)
  d_l_draws : ∃ fd, FunD K ("_law_draws" : Str) ("_law_draws" : Str) (defArgs s_l_draws) (defBody s_l_draws) (defScope s_l_draws) [] [] (He.ga K ("_law_draws" : Str)) fd
  d_l_reader : ∃ fd, FunD K ("_law_reader" : Str) ("_law_reader" : Str) (defArgs s_l_reader) (defBody s_l_reader) (defScope s_l_reader) [] [] (He.ga K ("_law_reader" : Str)) fd
  d_l_next : ∃ fd, FunD K ("_law_next" : Str) ("_law_next" : Str) (defArgs s_l_next) (defBody s_l_next) (defScope s_l_next) [] [] (He.ga K ("_law_next" : Str)) fd
  d_Objects_slot : ∃ fd, FunD K ("slot" : Str) ("Objects.slot" : Str) (defArgs s_Objects_slot) (defBody s_Objects_slot) (defScope s_Objects_slot) [] [] (He.ma K (He.ga K ("Objects" : Str)) ("slot" : Str)) fd
  d_Objects_put : ∃ fd, FunD K ("put" : Str) ("Objects.put" : Str) (defArgs s_Objects_put) (defBody s_Objects_put) (defScope s_Objects_put) [] [] (He.ma K (He.ga K ("Objects" : Str)) ("put" : Str)) fd
  d_Objects_drop : ∃ fd, FunD K ("drop" : Str) ("Objects.drop" : Str) (defArgs s_Objects_drop) (defBody s_Objects_drop) (defScope s_Objects_drop) [] [] (He.ma K (He.ga K ("Objects" : Str)) ("drop" : Str)) fd
  d_Objects_assign : ∃ fd, FunD K ("assign" : Str) ("Objects.assign" : Str) (defArgs s_Objects_assign) (defBody s_Objects_assign) (defScope s_Objects_assign) [] [] (He.ma K (He.ga K ("Objects" : Str)) ("assign" : Str)) fd
  d_Objects_parents : ∃ fd, FunD K ("parents" : Str) ("Objects.parents" : Str) (defArgs s_Objects_parents) (defBody s_Objects_parents) (defScope s_Objects_parents) [] [] (He.ma K (He.ga K ("Objects" : Str)) ("parents" : Str)) fd
  d_Objects_make : ∃ fd, FunD K ("make" : Str) ("Objects.make" : Str) (defArgs s_Objects_make) (defBody s_Objects_make) (defScope s_Objects_make) [] [] (He.ma K (He.ga K ("Objects" : Str)) ("make" : Str)) fd
  d_Objects_init : ∃ fd, FunD K ("__init__" : Str) ("Objects.__init__" : Str) (defArgs s_Objects_init) (defBody s_Objects_init) (defScope s_Objects_init) [] [] (He.ma K (He.ga K ("Objects" : Str)) ("__init__" : Str)) fd
  d_outcome_of : ∃ fd, FunD K ("outcome_of" : Str) ("outcome_of" : Str) (defArgs s_outcome_of) (defBody s_outcome_of) (defScope s_outcome_of) [] [] (He.ga K ("outcome_of" : Str)) fd
  d_search : ∃ fd, FunD K ("search" : Str) ("search" : Str) (defArgs s_search) (defBody s_search) (defScope s_search) [] [] (He.ga K ("search" : Str)) fd
  d_Machine_make_scope : ∃ fd, FunD K ("make_scope" : Str) ("Machine.make_scope" : Str) (defArgs s_Machine_make_scope) (defBody s_Machine_make_scope) (defScope s_Machine_make_scope) [] [] (He.ma K (He.ga K ("Machine" : Str)) ("make_scope" : Str)) fd
  d_is_fast_frame : ∃ fd, FunD K ("is_fast_frame" : Str) ("is_fast_frame" : Str) (defArgs s_is_fast_frame) (defBody s_is_fast_frame) (defScope s_is_fast_frame) [] [] (He.ga K ("is_fast_frame" : Str)) fd
  d_stack_of : ∃ fd, FunD K ("stack_of" : Str) ("stack_of" : Str) (defArgs s_stack_of) (defBody s_stack_of) (defScope s_stack_of) [] [] (He.ga K ("stack_of" : Str)) fd
  d_moved : ∃ fd, FunD K ("moved" : Str) ("moved" : Str) (defArgs s_moved) (defBody s_moved) (defScope s_moved) [] [] (He.ga K ("moved" : Str)) fd
  d_first_values : ∃ fd, FunD K ("first_values" : Str) ("first_values" : Str) (defArgs s_first_values) (defBody s_first_values) (defScope s_first_values) [] [] (He.ga K ("first_values" : Str)) fd
  d_without_top : ∃ fd, FunD K ("without_top" : Str) ("without_top" : Str) (defArgs s_without_top) (defBody s_without_top) (defScope s_without_top) [] [] (He.ga K ("without_top" : Str)) fd
  d_method_index : ∃ fd, FunD K ("method_index" : Str) ("method_index" : Str) (defArgs s_method_index) (defBody s_method_index) (defScope s_method_index) [] [] (He.ga K ("method_index" : Str)) fd
  d_Machine_add_plain_frame : ∃ fd, FunD K ("add_plain_frame" : Str) ("Machine.add_plain_frame" : Str) (defArgs s_Machine_add_plain_frame) (defBody s_Machine_add_plain_frame) (defScope s_Machine_add_plain_frame) [] [] (He.ma K (He.ga K ("Machine" : Str)) ("add_plain_frame" : Str)) fd
  d_Machine_add_plain_method : ∃ fd, FunD K ("add_plain_method" : Str) ("Machine.add_plain_method" : Str) (defArgs s_Machine_add_plain_method) (defBody s_Machine_add_plain_method) (defScope s_Machine_add_plain_method) [] [] (He.ma K (He.ga K ("Machine" : Str)) ("add_plain_method" : Str)) fd
  d_Machine_init : ∃ fd, FunD K ("__init__" : Str) ("Machine.__init__" : Str) (defArgs s_Machine_init) (defBody s_Machine_init) (defScope s_Machine_init) [] [] (He.ma K (He.ga K ("Machine" : Str)) ("__init__" : Str)) fd
  d_search_value : ∃ fd, FunD K ("search_value" : Str) ("search_value" : Str) (defArgs s_search_value) (defBody s_search_value) (defScope s_search_value) [] [] (He.ga K ("search_value" : Str)) fd
  d_PlainMachine_search_send : ∃ fd, FunD K ("search_send" : Str) ("PlainMachine.search_send" : Str) (defArgs s_PlainMachine_search_send) (defBody s_PlainMachine_search_send) (defScope s_PlainMachine_search_send) [] [] (He.ma K (He.ga K ("PlainMachine" : Str)) ("search_send" : Str)) fd
  d_PlainMachine_add_method : ∃ fd, FunD K ("add_method" : Str) ("PlainMachine.add_method" : Str) (defArgs s_PlainMachine_add_method) (defBody s_PlainMachine_add_method) (defScope s_PlainMachine_add_method) [] [] (He.ma K (He.ga K ("PlainMachine" : Str)) ("add_method" : Str)) fd
  d_PlainMachine_tell_change : ∃ fd, FunD K ("tell_change" : Str) ("PlainMachine.tell_change" : Str) (defArgs s_PlainMachine_tell_change) (defBody s_PlainMachine_tell_change) (defScope s_PlainMachine_tell_change) [] [] (He.ma K (He.ga K ("PlainMachine" : Str)) ("tell_change" : Str)) fd
  d_go_on : ∃ fd, FunD K ("go_on" : Str) ("go_on" : Str) (defArgs s_go_on) (defBody s_go_on) (defScope s_go_on) [] [] (He.ga K ("go_on" : Str)) fd
  d_push : ∃ fd, FunD K ("push" : Str) ("push" : Str) (defArgs s_push) (defBody s_push) (defScope s_push) [] [] (He.ga K ("push" : Str)) fd
  d_do_self : ∃ fd, FunD K ("do_self" : Str) ("do_self" : Str) (defArgs s_do_self) (defBody s_do_self) (defScope s_do_self) [] [] (He.ga K ("do_self" : Str)) fd
  d_do_method : ∃ fd, FunD K ("do_method" : Str) ("do_method" : Str) (defArgs s_do_method) (defBody s_do_method) (defScope s_do_method) [] [] (He.ga K ("do_method" : Str)) fd
  d_do_put : ∃ fd, FunD K ("do_put" : Str) ("do_put" : Str) (defArgs s_do_put) (defBody s_do_put) (defScope s_do_put) [] [] (He.ga K ("do_put" : Str)) fd
  d_do_found : ∃ fd, FunD K ("do_found" : Str) ("do_found" : Str) (defArgs s_do_found) (defBody s_do_found) (defScope s_do_found) [] [] (He.ga K ("do_found" : Str)) fd
  d_do_send : ∃ fd, FunD K ("do_send" : Str) ("do_send" : Str) (defArgs s_do_send) (defBody s_do_send) (defScope s_do_send) [] [] (He.ga K ("do_send" : Str)) fd
  d_do_row : ∃ fd, FunD K ("do_row" : Str) ("do_row" : Str) (defArgs s_do_row) (defBody s_do_row) (defScope s_do_row) [] [] (He.ga K ("do_row" : Str)) fd
  d_next_row : ∃ fd, FunD K ("next_row" : Str) ("next_row" : Str) (defArgs s_next_row) (defBody s_next_row) (defScope s_next_row) [] [] (He.ga K ("next_row" : Str)) fd
  d_PlainMachine_tick : ∃ fd, FunD K ("tick" : Str) ("PlainMachine.tick" : Str) (defArgs s_PlainMachine_tick) (defBody s_PlainMachine_tick) (defScope s_PlainMachine_tick) [] [] (He.ma K (He.ga K ("PlainMachine" : Str)) ("tick" : Str)) fd
  d_l_chain : ∃ fd, FunD K ("_law_chain" : Str) ("_law_chain" : Str) (defArgs s_l_chain) (defBody s_l_chain) (defScope s_l_chain) [] [] (He.ga K ("_law_chain" : Str)) fd
  d_l_due : ∃ fd, FunD K ("_law_due" : Str) ("_law_due" : Str) (defArgs s_l_due) (defBody s_l_due) (defScope s_l_due) [] [] (He.ga K ("_law_due" : Str)) fd
  d_l_is_deep : ∃ fd, FunD K ("_law_is_deep" : Str) ("_law_is_deep" : Str) (defArgs s_l_is_deep) (defBody s_l_is_deep) (defScope s_l_is_deep) [] [] (He.ga K ("_law_is_deep" : Str)) fd
  d_law : ∃ fd, FunD K ("law" : Str) ("law" : Str) (defArgs s_law) (defBody s_law) (defScope s_law) [] [] (He.ga K ("law" : Str)) fd
  pk : ∀ H, SqT K H (He.ga K ("PARENT_KINDS" : Str)) (["parent", "varparent"].map mS)
  inm_PlainMachine_Machine_make_scope : Meth K (He.ga K ("PlainMachine" : Str)) ("make_scope" : Str) (He.ma K (He.ga K ("Machine" : Str)) ("make_scope" : Str))
  inm_PlainMachine_Machine_add_plain_frame : Meth K (He.ga K ("PlainMachine" : Str)) ("add_plain_frame" : Str) (He.ma K (He.ga K ("Machine" : Str)) ("add_plain_frame" : Str))
  inm_PlainMachine_Machine_add_plain_method : Meth K (He.ga K ("PlainMachine" : Str)) ("add_plain_method" : Str) (He.ma K (He.ga K ("Machine" : Str)) ("add_plain_method" : Str))
  sup_PlainMachine : SupI P K (He.ga K ("PlainMachine" : Str)) (He.ma K (He.ga K ("PlainMachine" : Str)) "__init__") (He.ma K (He.ga K ("Machine" : Str)) "__init__") ("PlainMachine.__init__" : Str)
  exc_RowError : ExcC K (He.ga K ("RowError" : Str))
  dic_STEPS : KD K w (He.ga K ("STEPS" : Str)) (stpV K)
theorem Txt.obc {P : Program} {w : World} {K : PySem.W.Frag} {mg : Str → Option Value} (T : Txt P w K mg) : ObC K := ⟨T.cls_Objects, T.noat_Objects_table, T.noat_Objects_next_id⟩
theorem Txt.mcc {P : Program} {w : World} {K : PySem.W.Frag} {mg : Str → Option Value} (T : Txt P w K mg) : McC K := ⟨T.cls_PlainMachine, fun x hx => by
  rcases List.mem_cons.mp hx with rfl | hx
  · exact T.noat_PlainMachine_code
  rcases List.mem_cons.mp hx with rfl | hx
  · exact T.noat_PlainMachine_objects
  rcases List.mem_cons.mp hx with rfl | hx
  · exact T.noat_PlainMachine_scopes
  rcases List.mem_cons.mp hx with rfl | hx
  · exact T.noat_PlainMachine_blocks
  rcases List.mem_cons.mp hx with rfl | hx
  · exact T.noat_PlainMachine_frames
  rcases List.mem_cons.mp hx with rfl | hx
  · exact T.noat_PlainMachine_events
  rcases List.mem_cons.mp hx with rfl | hx
  · exact T.noat_PlainMachine_end
  rcases List.mem_cons.mp hx with rfl | hx
  · exact T.noat_PlainMachine_ticks
  rcases List.mem_cons.mp hx with rfl | hx
  · exact T.noat_PlainMachine_next_scope
  rcases List.mem_cons.mp hx with rfl | hx
  · exact T.noat_PlainMachine_next_block
  rcases List.mem_cons.mp hx with rfl | hx
  · exact T.noat_PlainMachine_last_mark
  cases hx⟩
section
variable {P : Program} {w : World} {K : PySem.W.Frag} {mg : Str → Option Value} {base : Heap}
theorem ok_l_draws (T : Txt P w K mg) {fd : FuncData} (F : FunD K ("_law_draws" : Str) ("_law_draws" : Str) (defArgs s_l_draws) (defBody s_l_draws) (defScope s_l_draws) [] [] (He.ga K ("_law_draws" : Str)) fd) : Def P w K mg base 1 (He.ga K ("_law_draws" : Str)) fd ["script"] (sp_l_draws K) := by
  refine ⟨F.ok (CX := L2.CX P w) sc_l_draws (fun vs H Q E h => ?_) (fun cdv A outer s H vs Q E hr h => ⟨t_l_draws K E, ?_, run_l_draws h⟩), F.bindsN fun _ _ _ _ _ _ us hl => match us, hl with | [_], _ => rfl, F.kp⟩
  · obtain ⟨_, _, rfl, _⟩ := h
    rfl
  · exact (pss_cons (ps_set (i := 1) sc_l_draws.nd rfl (Or.inl rfl) (pe_lst pa_nil))
      (pss_cons (ps_for (passes_of rfl) rfl (pi_range1 (by rfl) T.free_range (pa_cons (pe_callB (call_min2 rfl) (by rfl) T.free_min (by decide +kernel) (pa_cons (pe_callB call_len (by rfl) T.free_len (by decide +kernel) (pa_cons (pv 0) pa_nil)) (pa_cons pe_int pa_nil))) pa_nil)) (pg_name (i := 2) sc_l_draws.nd rfl (Or.inl rfl)) (pss_cons (ps_set (i := 3) sc_l_draws.nd rfl (Or.inl rfl) (pe_callB call_abs (by rfl) T.free_abs (by decide +kernel) (pa_cons (pe_ix ix_list (pv 0) (pv 2) (fun _ _ => rfl)) pa_nil)))
      (pss_one (ps_if (pt_cmpR op_ge (pv 3) (pe_op op_pow pe_int pe_int) (nomark _)) (pss_one (ps_for (passes_of rfl) rfl (pi_range1 (by rfl) T.free_range (pa_cons pe_int pa_nil)) (pg_name (i := 4) sc_l_draws.nd rfl (Or.inl rfl)) (pss_one (ps_if (pt_cmpR op_gt (pv 3) pe_int (nomark _)) (pss_cons (ps_expr (pe_bm PySem.F.plainAttrs_list PySem.F.slot_list_append PySem.F.type_list_append mt_append (pv 1) (pa_cons (pe_op op_mod (pv 3) pe_int) pa_nil)))
      (pss_one (ps_set (i := 3) sc_l_draws.nd rfl (Or.inl rfl) (pe_op op_fdiv (pv 3) pe_int)))) pss_nil)))) (pss_cons (ps_set (i := 5) sc_l_draws.nd rfl (Or.inl rfl) (pe_op op_mod (pe_callTy call_int1 (by rfl) T.free_int (by decide +kernel) (pa_cons (pe_op op_add (pe_op op_add (pe_op op_mul (pe_ix ix_list (pv 0) (pv 2) (fun _ _ => rfl)) pe_int) (pe_op op_mul (pv 2) pe_int)) pe_int) pa_nil)) pe_int))
      (pss_one (ps_for (passes_of rfl) rfl (pi_range1 (by rfl) T.free_range (pa_cons pe_int pa_nil)) (pg_name (i := 4) sc_l_draws.nd rfl (Or.inl rfl)) (pss_cons (ps_set (i := 5) sc_l_draws.nd rfl (Or.inl rfl) (pe_op op_mod (pe_callTy call_int1 (by rfl) T.free_int (by decide +kernel) (pa_cons (pe_op op_add (pe_op op_add (pe_op op_mul (pv 5) (pv 5)) (pe_op op_mul (pv 4) pe_int)) pe_int) pa_nil)) pe_int))
      (pss_one (ps_expr (pe_bm PySem.F.plainAttrs_list PySem.F.slot_list_append PySem.F.type_list_append mt_append (pv 1) (pa_cons (pe_op op_mod (pv 5) pe_int) pa_nil))))))))))))
      (pss_one (ps_ret (pv 1)))))
theorem ok_l_reader (T : Txt P w K mg) {fd : FuncData} (F : FunD K ("_law_reader" : Str) ("_law_reader" : Str) (defArgs s_l_reader) (defBody s_l_reader) (defScope s_l_reader) [] [] (He.ga K ("_law_reader" : Str)) fd) : Def P w K mg base 2 (He.ga K ("_law_reader" : Str)) fd ["script"] (sp_l_reader K) := by
  obtain ⟨fd_l_draws, F_l_draws⟩ := T.d_l_draws
  have G_l_draws := ok_l_draws (P := P) (w := w) (base := base) T F_l_draws
  refine ⟨F.ok (CX := L2.CX P w) sc_l_reader (fun vs H Q E h => ?_) (fun cdv A outer s H vs Q E hr h => ⟨t_l_reader K E, ?_, run_l_reader h⟩), F.bindsN fun _ _ _ _ _ _ us hl => match us, hl with | [_], _ => rfl, F.kp⟩
  · obtain ⟨_, _, rfl, _⟩ := h
    rfl
  · exact (pss_cons (ps_set (i := 1) sc_l_reader.nd rfl (Or.inl rfl) (pe_call G_l_draws.fn (hr.mono (by decide)) rfl T.glo__law_draws G_l_draws.kp G_l_draws.bd .nil (passE (takes_of rfl rfl rfl rfl)) (pa_cons (pv 0) pa_nil)))
      (pss_cons (ps_set (i := 2) sc_l_reader.nd rfl (Or.inl rfl) pe_int)
      (pss_cons (ps_if (pt_cmpR op_gt (pe_callB call_len (by rfl) T.free_len (by decide +kernel) (pa_cons (pv 0) pa_nil)) pe_int (nomark _)) (pss_one (ps_set (i := 2) sc_l_reader.nd rfl (Or.inl rfl) (pe_op op_mod (pe_callB call_abs (by rfl) T.free_abs (by decide +kernel) (pa_cons (pe_ix ix_list (pv 0) (pe_un un_neg pe_int) (fun _ _ => rfl)) pa_nil)) pe_int))) pss_nil)
      (pss_one (ps_ret (pe_disp (pps_cons pe_str (pv 1) (pps_cons pe_str pe_int (pps_cons pe_str (pv 2) pps_nil))) (by rfl) (by rfl) (fun z => by cases z) (by decide)))))))
theorem ok_l_next (T : Txt P w K mg) {fd : FuncData} (F : FunD K ("_law_next" : Str) ("_law_next" : Str) (defArgs s_l_next) (defBody s_l_next) (defScope s_l_next) [] [] (He.ga K ("_law_next" : Str)) fd) : Def P w K mg base 1 (He.ga K ("_law_next" : Str)) fd ["draws", "many"] (sp_l_next K) := by
  refine ⟨F.ok (CX := L2.CX P w) sc_l_next (fun vs H Q E h => ?_) (fun cdv A outer s H vs Q E hr h => ⟨t_l_next K E, ?_, run_l_next h⟩), F.bindsN fun _ _ _ _ _ _ us hl => match us, hl with | [_, _], _ => rfl, F.kp⟩
  · obtain ⟨_, _, rfl, _⟩ := h
    rfl
  · have hu := hu_of hr
    exact (pss_cons (ps_set (i := 2) sc_l_next.nd rfl (Or.inl rfl) (pe_dget hu (pv 0) pe_str (fun _ _ => rfl)))
      (pss_cons (ps_dput hu (pv 0) pe_str (pe_op op_add (pv 2) pe_int) rfl)
      (pss_cons (ps_if (pt_cmpR op_lt (pv 2) (pe_callB call_len (by rfl) T.free_len (by decide +kernel) (pa_cons (pe_dget hu (pv 0) pe_str (fun _ _ => rfl)) pa_nil)) (nomark _)) (pss_one (ps_ret (pe_op op_mod (pe_ix ix_list (pe_dget hu (pv 0) pe_str (fun _ _ => rfl)) (pv 2) (fun _ _ => rfl)) (pv 1)))) pss_nil)
      (pss_cons (ps_set (i := 3) sc_l_next.nd rfl (Or.inl rfl) (pe_op op_mod (pe_callTy call_int1 (by rfl) T.free_int (by decide +kernel) (pa_cons (pe_op op_mul (pe_op op_add (pe_op op_add (pe_dget hu (pv 0) pe_str (fun _ _ => rfl)) (pe_op op_mul pe_int (pv 2))) pe_int) pe_int) pa_nil)) pe_int))
      (pss_one (ps_ret (pe_op op_mod (pe_op op_fdiv (pe_op op_mod (pe_callTy call_int1 (by rfl) T.free_int (by decide +kernel) (pa_cons (pe_op op_add (pe_op op_mul (pv 3) (pv 3)) (pv 2)) pa_nil)) pe_int) pe_int) (pv 1))))))))
theorem ok_Objects_slot (T : Txt P w K mg) {fd : FuncData} (F : FunD K ("slot" : Str) ("Objects.slot" : Str) (defArgs s_Objects_slot) (defBody s_Objects_slot) (defScope s_Objects_slot) [] [] (He.ma K (He.ga K ("Objects" : Str)) ("slot" : Str)) fd) : Def P w K mg base 1 (He.ma K (He.ga K ("Objects" : Str)) ("slot" : Str)) fd ["self", "object_id", "name"] (sp_Objects_slot K) := by
  refine ⟨F.ok (CX := L2.CX P w) sc_Objects_slot (fun vs H Q E h => ?_) (fun cdv A outer s H vs Q E hr h => ⟨t_Objects_slot K E, ?_, run_Objects_slot T.obc h⟩), F.bindsN fun _ _ _ _ _ _ us hl => match us, hl with | [_, _, _], _ => rfl, F.kp⟩
  · obtain ⟨_, _, _, _, _, _, _, rfl, _⟩ := h
    rfl
  · have hu := hu_of hr
    exact (pss_one (ps_ret (pe_dget1 hu (pe_dget hu (pe_fld (pv 0) rfl) (pv 1) (fun _ _ => rfl)) (pv 2) ⟨rfl, rfl, rfl, rfl⟩)))
theorem ok_Objects_put (T : Txt P w K mg) {fd : FuncData} (F : FunD K ("put" : Str) ("Objects.put" : Str) (defArgs s_Objects_put) (defBody s_Objects_put) (defScope s_Objects_put) [] [] (He.ma K (He.ga K ("Objects" : Str)) ("put" : Str)) fd) : Def P w K mg base 1 (He.ma K (He.ga K ("Objects" : Str)) ("put" : Str)) fd ["self", "object_id", "name", "kind", "value"] (sp_Objects_put K) := by
  refine ⟨F.ok (CX := L2.CX P w) sc_Objects_put (fun vs H Q E h => ?_) (fun cdv A outer s H vs Q E hr h => ⟨t_Objects_put K E, ?_, run_Objects_put T.obc h⟩), F.bindsN fun _ _ _ _ _ _ us hl => match us, hl with | [_, _, _, _, _], _ => rfl, F.kp⟩
  · obtain ⟨_, _, _, _, _, _, _, _, _, _, rfl, _⟩ := h
    rfl
  · have hu := hu_of hr
    exact (pss_one (ps_dput hu (pe_dget hu (pe_fld (pv 0) rfl) (pv 1) (fun _ _ => rfl)) (pv 2) (pe_tup (pa_cons (pv 3) (pa_cons (pv 4) pa_nil))) rfl))
theorem ok_Objects_drop (T : Txt P w K mg) {fd : FuncData} (F : FunD K ("drop" : Str) ("Objects.drop" : Str) (defArgs s_Objects_drop) (defBody s_Objects_drop) (defScope s_Objects_drop) [] [] (He.ma K (He.ga K ("Objects" : Str)) ("drop" : Str)) fd) : Def P w K mg base 1 (He.ma K (He.ga K ("Objects" : Str)) ("drop" : Str)) fd ["self", "object_id", "name"] (sp_Objects_drop K) := by
  refine ⟨F.ok (CX := L2.CX P w) sc_Objects_drop (fun vs H Q E h => ?_) (fun cdv A outer s H vs Q E hr h => ⟨t_Objects_drop K E, ?_, run_Objects_drop T.obc h⟩), F.bindsN fun _ _ _ _ _ _ us hl => match us, hl with | [_, _, _], _ => rfl, F.kp⟩
  · obtain ⟨_, _, _, _, _, _, _, rfl, _⟩ := h
    rfl
  · have hu := hu_of hr
    exact (pss_cons (ps_if (pt_cmp (pc_dnotin hu (pv 2) (pe_dget hu (pe_fld (pv 0) rfl) (pv 1) (fun _ _ => rfl)))) (pss_one (ps_ret pe_bl)) pss_nil)
      (pss_cons (ps_ddel (pe_dget hu (pe_fld (pv 0) rfl) (pv 1) (fun _ _ => rfl)) (pv 2))
      (pss_one (ps_ret pe_bl))))
theorem ok_Objects_assign (T : Txt P w K mg) {fd : FuncData} (F : FunD K ("assign" : Str) ("Objects.assign" : Str) (defArgs s_Objects_assign) (defBody s_Objects_assign) (defScope s_Objects_assign) [] [] (He.ma K (He.ga K ("Objects" : Str)) ("assign" : Str)) fd) : Def P w K mg base 1 (He.ma K (He.ga K ("Objects" : Str)) ("assign" : Str)) fd ["self", "object_id", "name", "value"] (sp_Objects_assign K) := by
  refine ⟨F.ok (CX := L2.CX P w) sc_Objects_assign (fun vs H Q E h => ?_) (fun cdv A outer s H vs Q E hr h => ⟨t_Objects_assign K E, ?_, run_Objects_assign T.obc h⟩), F.bindsN fun _ _ _ _ _ _ us hl => match us, hl with | [_, _, _, _], _ => rfl, F.kp⟩
  · obtain ⟨_, _, _, _, _, _, _, _, _, _, rfl, _⟩ := h
    rfl
  · have hu := hu_of hr
    exact (pss_cons (ps_asg (pe_dget hu (pe_dget hu (pe_fld (pv 0) rfl) (pv 1) (fun _ _ => rfl)) (pv 2) (fun _ _ => rfl)) (pg_tup rfl (pgs_cons (pg_name (i := 4) sc_Objects_assign.nd rfl (Or.inl rfl)) (pgs_cons (pg_name (i := 5) sc_Objects_assign.nd rfl (Or.inl rfl)) pgs_nil))))
      (pss_one (ps_dput hu (pe_dget hu (pe_fld (pv 0) rfl) (pv 1) (fun _ _ => rfl)) (pv 2) (pe_tup (pa_cons (pv 4) (pa_cons (pv 3) pa_nil))) rfl)))
theorem ok_Objects_parents (T : Txt P w K mg) {fd : FuncData} (F : FunD K ("parents" : Str) ("Objects.parents" : Str) (defArgs s_Objects_parents) (defBody s_Objects_parents) (defScope s_Objects_parents) [] [] (He.ma K (He.ga K ("Objects" : Str)) ("parents" : Str)) fd) : Def P w K mg base 1 (He.ma K (He.ga K ("Objects" : Str)) ("parents" : Str)) fd ["self", "object_id"] (sp_Objects_parents K) := by
  refine ⟨F.ok (CX := L2.CX P w) sc_Objects_parents (fun vs H Q E h => ?_) (fun cdv A outer s H vs Q E hr h => ⟨t_Objects_parents K E, ?_, run_Objects_parents T.obc T.pk h⟩), F.bindsN fun _ _ _ _ _ _ us hl => match us, hl with | [_, _], _ => rfl, F.kp⟩
  · obtain ⟨_, _, _, _, _, _, rfl, _⟩ := h
    rfl
  · have hu := hu_of hr
    exact (pss_cons (ps_set (i := 2) sc_Objects_parents.nd rfl (Or.inl rfl) (pe_lst pa_nil))
      (pss_cons (ps_lock (ps_for (passes_of rfl) rfl (pi_values (pe_dget hu (pe_fld (pv 0) rfl) (pv 1) (fun _ _ => rfl))) (pg_tup rfl (pgs_cons (pg_name (i := 3) sc_Objects_parents.nd rfl (Or.inl rfl)) (pgs_cons (pg_name (i := 4) sc_Objects_parents.nd rfl (Or.inl rfl)) pgs_nil))) (pss_one (ps_if (PW.pt (pw_and (pt_cmpR op_in_seq (pv 3) (pe_glob rfl T.glo_PARENT_KINDS rfl) (by with_unfolding_all rfl)) (pw_and1 (pt_cmpR op_eq (pe_ix ix_tup (pv 4) pe_int (fun _ _ => rfl)) pe_str (nomark _))))) (pss_one (ps_expr (pe_bm PySem.F.plainAttrs_list PySem.F.slot_list_append PySem.F.type_list_append mt_append (pv 2) (pa_cons (pe_ix ix_tup (pv 4) pe_int (fun _ _ => rfl)) pa_nil)))) pss_nil))))
      (pss_one (ps_ret (pe_callTy call_tuple_of (by rfl) T.free_tuple (by decide +kernel) (pa_cons (pv 2) pa_nil))))))
theorem ok_Objects_make (T : Txt P w K mg) {fd : FuncData} (F : FunD K ("make" : Str) ("Objects.make" : Str) (defArgs s_Objects_make) (defBody s_Objects_make) (defScope s_Objects_make) [] [] (He.ma K (He.ga K ("Objects" : Str)) ("make" : Str)) fd) : Def P w K mg base 2 (He.ma K (He.ga K ("Objects" : Str)) ("make" : Str)) fd ["self", "slots"] (sp_Objects_make K) := by
  obtain ⟨fd_Objects_put, F_Objects_put⟩ := T.d_Objects_put
  have G_Objects_put := ok_Objects_put (P := P) (w := w) (base := base) T F_Objects_put
  refine ⟨F.ok (CX := L2.CX P w) sc_Objects_make (fun vs H Q E h => ?_) (fun cdv A outer s H vs Q E hr h => ⟨t_Objects_make K E, ?_, run_Objects_make T.obc h⟩), F.bindsN fun _ _ _ _ _ _ us hl => match us, hl with | [_, _], _ => rfl, F.kp⟩
  · obtain ⟨_, _, _, _, _, _, _, _, rfl, _⟩ := h
    rfl
  · have hu := hu_of hr
    exact (pss_cons (ps_set (i := 2) sc_Objects_make.nd rfl (Or.inl rfl) (pe_fld (pv 0) rfl))
      (pss_cons (ps_fldaug (pv 0) pe_int in_add)
      (pss_cons (ps_dput hu (pe_fld (pv 0) rfl) (pv 2) pe_dnewK rfl)
      (pss_cons (ps_for (passes_of rfl) rfl (pi_tup (pv 1)) (pg_tup rfl (pgs_cons (pg_name (i := 3) sc_Objects_make.nd rfl (Or.inl rfl)) (pgs_cons (pg_name (i := 4) sc_Objects_make.nd rfl (Or.inl rfl)) (pgs_cons (pg_name (i := 5) sc_Objects_make.nd rfl (Or.inl rfl)) pgs_nil)))) (pss_one (ps_expr (pe_meth (pv 0) T.cls_Objects T.meth_Objects_put G_Objects_put.fn (hr.mono (by decide)) G_Objects_put.bd .nil (passE (takes_of rfl rfl rfl rfl)) (pa_cons (pv 2) (pa_cons (pv 3) (pa_cons (pv 4) (pa_cons (pv 5) pa_nil))))))))
      (pss_one (ps_ret (pv 2)))))))
theorem ok_Objects_init (T : Txt P w K mg) {fd : FuncData} (F : FunD K ("__init__" : Str) ("Objects.__init__" : Str) (defArgs s_Objects_init) (defBody s_Objects_init) (defScope s_Objects_init) [] [] (He.ma K (He.ga K ("Objects" : Str)) ("__init__" : Str)) fd) : Def P w K mg base 3 (He.ma K (He.ga K ("Objects" : Str)) ("__init__" : Str)) fd ["self"] (sp_Objects_init K) := by
  obtain ⟨fd_Objects_make, F_Objects_make⟩ := T.d_Objects_make
  have G_Objects_make := ok_Objects_make (P := P) (w := w) (base := base) T F_Objects_make
  obtain ⟨tk_LOBBY, i_LOBBY⟩ := T.int_LOBBY
  refine ⟨F.ok (CX := L2.CX P w) sc_Objects_init (fun vs H Q E h => ?_) (fun cdv A outer s H vs Q E hr h => ⟨t_Objects_init K E, ?_, run_Objects_init T.obc h⟩), F.bindsN fun _ _ _ _ _ _ us hl => match us, hl with | [_], _ => rfl, F.kp⟩
  · obtain ⟨_, _, rfl, _⟩ := h
    rfl
  · exact (pss_cons (ps_fld (pv 0) pe_dnewK rfl)
      (pss_cons (ps_fld (pv 0) pe_int rfl)
      (pss_one (ps_expr (pe_meth (pv 0) T.cls_Objects T.meth_Objects_make G_Objects_make.fn (hr.mono (by decide)) G_Objects_make.bd .nil (passE (takes_of rfl rfl rfl rfl)) (pa_cons (pe_tup (pa_cons (pe_tup (pa_cons pe_str (pa_cons pe_str (pa_cons (pe_tup (pa_cons pe_str (pa_cons (pe_glob rfl i_LOBBY ⟨_, rfl⟩) pa_nil))) pa_nil)))) pa_nil)) pa_nil))))))
theorem ok_outcome_of (T : Txt P w K mg) {fd : FuncData} (F : FunD K ("outcome_of" : Str) ("outcome_of" : Str) (defArgs s_outcome_of) (defBody s_outcome_of) (defScope s_outcome_of) [] [] (He.ga K ("outcome_of" : Str)) fd) : Def P w K mg base 2 (He.ga K ("outcome_of" : Str)) fd ["objects", "holders", "name"] (sp_outcome_of K) := by
  obtain ⟨fd_Objects_slot, F_Objects_slot⟩ := T.d_Objects_slot
  have G_Objects_slot := ok_Objects_slot (P := P) (w := w) (base := base) T F_Objects_slot
  refine ⟨F.ok (CX := L2.CX P w) sc_outcome_of (fun vs H Q E h => ?_) (fun cdv A outer s H vs Q E hr h => ⟨t_outcome_of K E, ?_, run_outcome_of T.obc h⟩), F.bindsN fun _ _ _ _ _ _ us hl => match us, hl with | [_, _, _], _ => rfl, F.kp⟩
  · obtain ⟨_, _, _, _, _, _, _, _, rfl, _⟩ := h
    rfl
  · exact (pss_cons (ps_if (pt_cmpR op_eq (pe_callB call_len (by rfl) T.free_len (by decide +kernel) (pa_cons (pv 1) pa_nil)) pe_int (nomark _)) (pss_one (ps_ret (pe_tup (pa_cons pe_str pa_nil)))) pss_nil)
      (pss_cons (ps_if (pt_cmpR op_gt (pe_callB call_len (by rfl) T.free_len (by decide +kernel) (pa_cons (pv 1) pa_nil)) pe_int (nomark _)) (pss_one (ps_ret (pe_tup (pa_cons pe_str pa_nil)))) pss_nil)
      (pss_cons (ps_asg (pe_meth (pv 0) T.cls_Objects T.meth_Objects_slot G_Objects_slot.fn (hr.mono (by decide)) G_Objects_slot.bd .nil (passE (takes_of rfl rfl rfl rfl)) (pa_cons (pe_ix ix_list (pv 1) pe_int (fun _ _ => rfl)) (pa_cons (pv 2) pa_nil))) (pg_tup rfl (pgs_cons (pg_name (i := 3) sc_outcome_of.nd rfl (Or.inl rfl)) (pgs_cons (pg_name (i := 4) sc_outcome_of.nd rfl (Or.inl rfl)) pgs_nil))))
      (pss_one (ps_ret (pe_tup (pa_cons pe_str (pa_cons (pe_ix ix_list (pv 1) pe_int (fun _ _ => rfl)) (pa_cons (pv 3) (pa_cons (pv 4) pa_nil))))))))))
theorem ok_search (T : Txt P w K mg) {fd : FuncData} (F : FunD K ("search" : Str) ("search" : Str) (defArgs s_search) (defBody s_search) (defScope s_search) [] [] (He.ga K ("search" : Str)) fd) : Def P w K mg base 3 (He.ga K ("search" : Str)) fd ["objects", "starts", "name"] (sp_search K) := by
  obtain ⟨fd_Objects_slot, F_Objects_slot⟩ := T.d_Objects_slot
  have G_Objects_slot := ok_Objects_slot (P := P) (w := w) (base := base) T F_Objects_slot
  obtain ⟨fd_Objects_parents, F_Objects_parents⟩ := T.d_Objects_parents
  have G_Objects_parents := ok_Objects_parents (P := P) (w := w) (base := base) T F_Objects_parents
  obtain ⟨fd_outcome_of, F_outcome_of⟩ := T.d_outcome_of
  have G_outcome_of := ok_outcome_of (P := P) (w := w) (base := base) T F_outcome_of
  refine ⟨F.ok (CX := L2.CX P w) sc_search (fun vs H Q E h => ?_) (fun cdv A outer s H vs Q E hr h => ⟨t_search K E, ?_, run_search T.obc h⟩), F.bindsN fun _ _ _ _ _ _ us hl => match us, hl with | [_, _, _], _ => rfl, F.kp⟩
  · obtain ⟨_, _, _, _, _, _, _, _, rfl, _⟩ := h
    rfl
  · have hu := hu_of hr
    exact (pss_cons (ps_set (i := 3) sc_search.nd rfl (Or.inl rfl) pe_dnewK)
      (pss_cons (ps_set (i := 4) sc_search.nd rfl (Or.inl rfl) (pe_lst pa_nil))
      (pss_cons (ps_set (i := 5) sc_search.nd rfl (Or.inl rfl) (pe_callTy call_list_of (by rfl) T.free_list (by decide +kernel) (pa_cons (pe_revT (pv 1)) pa_nil)))
      (pss_cons (ps_while (passes_of rfl) (pt_cmpR op_gt (pe_callB call_len (by rfl) T.free_len (by decide +kernel) (pa_cons (pv 5) pa_nil)) pe_int (nomark _)) (pss_cons (ps_set (i := 6) sc_search.nd rfl (Or.inl rfl) (pe_bm0 PySem.F.plainAttrs_list PySem.F.slot_list_pop PySem.F.type_list_pop mt_pop (pv 5)))
      (pss_cons (ps_if (pt_cmp (pc_din hu (pv 6) (pv 3))) (pss_one ps_continue) pss_nil)
      (pss_cons (ps_dput hu (pv 3) (pv 6) pe_bl rfl)
      (pss_one (ps_if (pt_cmpR op_notN (pe_meth (pv 0) T.cls_Objects T.meth_Objects_slot G_Objects_slot.fn (hr.mono (by decide)) G_Objects_slot.bd .nil (passE (takes_of rfl rfl rfl rfl)) (pa_cons (pv 6) (pa_cons (pv 2) pa_nil))) pe_non (nomark _)) (pss_one (ps_expr (pe_bm PySem.F.plainAttrs_list PySem.F.slot_list_append PySem.F.type_list_append mt_append (pv 4) (pa_cons (pv 6) pa_nil)))) (pss_one (ps_expr (pe_bm PySem.F.plainAttrs_list PySem.F.slot_list_extend PySem.F.type_list_extend mt_extendT (pv 5) (pa_cons (pe_revT (pe_meth (pv 0) T.cls_Objects T.meth_Objects_parents G_Objects_parents.fn (hr.mono (by decide)) G_Objects_parents.bd .nil (passE (takes_of rfl rfl rfl rfl)) (pa_cons (pv 6) pa_nil))) pa_nil))))))))))
      (pss_one (ps_ret (pe_tup (pa_cons (pe_call G_outcome_of.fn (hr.mono (by decide)) rfl T.glo_outcome_of G_outcome_of.kp G_outcome_of.bd .nil (passE (takes_of rfl rfl rfl rfl)) (pa_cons (pv 0) (pa_cons (pv 4) (pa_cons (pv 2) pa_nil)))) (pa_cons (pe_callTy (call_tupleD rfl) (by rfl) T.free_tuple (by decide +kernel) (pa_cons (pv 3) pa_nil)) pa_nil)))))))))
theorem ok_Machine_make_scope (T : Txt P w K mg) {fd : FuncData} (F : FunD K ("make_scope" : Str) ("Machine.make_scope" : Str) (defArgs s_Machine_make_scope) (defBody s_Machine_make_scope) (defScope s_Machine_make_scope) [] [] (He.ma K (He.ga K ("Machine" : Str)) ("make_scope" : Str)) fd) : Def P w K mg base 1 (He.ma K (He.ga K ("Machine" : Str)) ("make_scope" : Str)) fd ["self", "outer", "values"] (sp_Machine_make_scope K) := .never (fun _ _ _ _ h => h) (F.bindsN fun _ _ _ _ _ _ us hl => match us, hl with | [_, _, _], _ => rfl) F.kp
theorem ok_is_fast_frame (T : Txt P w K mg) {fd : FuncData} (F : FunD K ("is_fast_frame" : Str) ("is_fast_frame" : Str) (defArgs s_is_fast_frame) (defBody s_is_fast_frame) (defScope s_is_fast_frame) [] [] (He.ga K ("is_fast_frame" : Str)) fd) : Def P w K mg base 1 (He.ga K ("is_fast_frame" : Str)) fd ["frame"] (sp_is_fast_frame K) := by
  obtain ⟨tk_FAST, i_FAST⟩ := T.str_FAST
  refine ⟨F.ok (CX := L2.CX P w) sc_is_fast_frame (fun vs H Q E h => ?_) (fun cdv A outer s H vs Q E hr h => ⟨t_is_fast_frame K E, ?_, run_is_fast_frame h⟩), F.bindsN fun _ _ _ _ _ _ us hl => match us, hl with | [_], _ => rfl, F.kp⟩
  · obtain ⟨_, _, rfl, _⟩ := h
    rfl
  · exact (pss_one (ps_ret (pe_cmpR op_eq (pe_ix ix_tup (pv 0) pe_int (fun _ _ => rfl)) (pe_glob rfl i_FAST ⟨_, rfl⟩) (nomark _))))
theorem ok_stack_of (T : Txt P w K mg) {fd : FuncData} (F : FunD K ("stack_of" : Str) ("stack_of" : Str) (defArgs s_stack_of) (defBody s_stack_of) (defScope s_stack_of) [] [] (He.ga K ("stack_of" : Str)) fd) : Def P w K mg base 2 (He.ga K ("stack_of" : Str)) fd ["frame"] (sp_stack_of K) := by
  obtain ⟨fd_is_fast_frame, F_is_fast_frame⟩ := T.d_is_fast_frame
  have G_is_fast_frame := ok_is_fast_frame (P := P) (w := w) (base := base) T F_is_fast_frame
  refine ⟨F.ok (CX := L2.CX P w) sc_stack_of (fun vs H Q E h => ?_) (fun cdv A outer s H vs Q E hr h => ⟨t_stack_of K E, ?_, run_stack_of h⟩), F.bindsN fun _ _ _ _ _ _ us hl => match us, hl with | [_], _ => rfl, F.kp⟩
  · obtain ⟨_, _, rfl, _⟩ := h
    rfl
  · exact (pss_cons (ps_if (pt_val (pe_call G_is_fast_frame.fn (hr.mono (by decide)) rfl T.glo_is_fast_frame G_is_fast_frame.kp G_is_fast_frame.bd .nil (passE (takes_of rfl rfl rfl rfl)) (pa_cons (pv 0) pa_nil))) (pss_one (ps_ret (pe_ix ix_tup (pv 0) pe_int (fun _ _ => rfl)))) pss_nil)
      (pss_one (ps_ret (pe_ix ix_tup (pv 0) pe_int (fun _ _ => rfl)))))
theorem ok_moved (T : Txt P w K mg) {fd : FuncData} (F : FunD K ("moved" : Str) ("moved" : Str) (defArgs s_moved) (defBody s_moved) (defScope s_moved) [] [] (He.ga K ("moved" : Str)) fd) : Def P w K mg base 2 (He.ga K ("moved" : Str)) fd ["frame", "row", "stack"] (sp_moved K) := by
  obtain ⟨fd_is_fast_frame, F_is_fast_frame⟩ := T.d_is_fast_frame
  have G_is_fast_frame := ok_is_fast_frame (P := P) (w := w) (base := base) T F_is_fast_frame
  refine ⟨F.ok (CX := L2.CX P w) sc_moved (fun vs H Q E h => ?_) (fun cdv A outer s H vs Q E hr h => ⟨t_moved K E, ?_, run_moved h⟩), F.bindsN fun _ _ _ _ _ _ us hl => match us, hl with | [_, _, _], _ => rfl, F.kp⟩
  · obtain ⟨_, _, _, _, _, rfl, _⟩ := h
    rfl
  · exact (pss_cons (ps_if (pt_val (pe_call G_is_fast_frame.fn (hr.mono (by decide)) rfl T.glo_is_fast_frame G_is_fast_frame.kp G_is_fast_frame.bd .nil (passE (takes_of rfl rfl rfl rfl)) (pa_cons (pv 0) pa_nil))) (pss_one (ps_ret (pe_tup (StX.pa_star (pe_slice sl_tupA (pv 0) po_none (po_some pe_int)) (pa_cons (pv 1) (StX.pa_star (pe_slice sl_tupA (pv 0) (po_some pe_int) (po_some pe_int)) (pa_cons (pv 2) pa_nil))))))) pss_nil)
      (pss_one (ps_ret (pe_tup (StX.pa_star (pe_slice sl_tupA (pv 0) po_none (po_some pe_int)) (pa_cons (pv 1) (StX.pa_star (pe_slice sl_tupA (pv 0) (po_some pe_int) (po_some pe_int)) (pa_cons (pv 2) (pa_cons (pe_ix ix_tup (pv 0) pe_int (fun _ _ => rfl)) pa_nil)))))))))
theorem ok_first_values (T : Txt P w K mg) {fd : FuncData} (F : FunD K ("first_values" : Str) ("first_values" : Str) (defArgs s_first_values) (defBody s_first_values) (defScope s_first_values) [] [] (He.ga K ("first_values" : Str)) fd) : Def P w K mg base 1 (He.ga K ("first_values" : Str)) fd ["args", "many"] (sp_first_values K) := by
  refine ⟨F.ok (CX := L2.CX P w) sc_first_values (fun vs H Q E h => ?_) (fun cdv A outer s H vs Q E hr h => ⟨t_first_values K E, ?_, run_first_values h⟩), F.bindsN fun _ _ _ _ _ _ us hl => match us, hl with | [_, _], _ => rfl, F.kp⟩
  · obtain ⟨_, _, rfl, _⟩ := h
    rfl
  · exact (pss_one (ps_ret (pe_op op_catA (pv 0) (pe_op op_rep0 (pe_tup (pa_cons (pe_glob rfl T.glo_NOTHING rfl) pa_nil)) (pe_op op_sub (pv 1) (pe_callB call_len (by rfl) T.free_len (by decide +kernel) (pa_cons (pv 0) pa_nil)))))))
theorem ok_without_top (T : Txt P w K mg) {fd : FuncData} (F : FunD K ("without_top" : Str) ("without_top" : Str) (defArgs s_without_top) (defBody s_without_top) (defScope s_without_top) [] [] (He.ga K ("without_top" : Str)) fd) : Def P w K mg base 1 (He.ga K ("without_top" : Str)) fd ["stack", "many"] (sp_without_top K) := by
  refine ⟨F.ok (CX := L2.CX P w) sc_without_top (fun vs H Q E h => ?_) (fun cdv A outer s H vs Q E hr h => ⟨t_without_top K E, ?_, run_without_top h⟩), F.bindsN fun _ _ _ _ _ _ us hl => match us, hl with | [_, _], _ => rfl, F.kp⟩
  · obtain ⟨_, _, _, rfl, _⟩ := h
    rfl
  · exact (pss_cons (ps_set (i := 2) sc_without_top.nd rfl (Or.inl rfl) (pe_op op_sub (pe_callB call_len (by rfl) T.free_len (by decide +kernel) (pa_cons (pv 0) pa_nil)) (pv 1)))
      (pss_one (ps_ret (pe_tup (pa_cons (pe_slice sl_tupA (pv 0) po_none (po_some (pv 2))) (pa_cons (pe_slice sl_tupA (pv 0) (po_some (pv 2)) po_none) pa_nil))))))
theorem ok_method_index (T : Txt P w K mg) {fd : FuncData} (F : FunD K ("method_index" : Str) ("method_index" : Str) (defArgs s_method_index) (defBody s_method_index) (defScope s_method_index) [] [] (He.ga K ("method_index" : Str)) fd) : Def P w K mg base 1 (He.ga K ("method_index" : Str)) fd ["slot"] (sp_method_index K) := by
  obtain ⟨tk_METHOD, i_METHOD⟩ := T.str_METHOD
  refine ⟨F.ok (CX := L2.CX P w) sc_method_index (fun vs H Q E h => ?_) (fun cdv A outer s H vs Q E hr h => ⟨t_method_index K E, ?_, run_method_index h⟩), F.bindsN fun _ _ _ _ _ _ us hl => match us, hl with | [_], _ => rfl, F.kp⟩
  · obtain ⟨_, _, rfl, _⟩ := h
    rfl
  · exact (pss_cons (ps_asg (pv 0) (pg_tup rfl (pgs_cons (pg_name (i := 1) sc_method_index.nd rfl (Or.inl rfl)) (pgs_cons (pg_name (i := 2) sc_method_index.nd rfl (Or.inl rfl)) pgs_nil))))
      (pss_cons (ps_if (PW.pt (pw_and (pt_cmpR op_eq (pv 1) (pe_glob rfl i_METHOD ⟨_, rfl⟩) (nomark _)) (pw_and1 (pt_cmpR op_eq (pe_ix ix_tup (pv 2) pe_int (fun _ _ => rfl)) (pe_glob rfl i_METHOD ⟨_, rfl⟩) (nomark _))))) (pss_one (ps_ret (pe_ix ix_tup (pv 2) pe_int (fun _ _ => rfl)))) pss_nil)
      (pss_one (ps_ret pe_non))))
theorem ok_Machine_add_plain_frame (T : Txt P w K mg) {fd : FuncData} (F : FunD K ("add_plain_frame" : Str) ("Machine.add_plain_frame" : Str) (defArgs s_Machine_add_plain_frame) (defBody s_Machine_add_plain_frame) (defScope s_Machine_add_plain_frame) [] [] (He.ma K (He.ga K ("Machine" : Str)) ("add_plain_frame" : Str)) fd) : Def P w K mg base 2 (He.ma K (He.ga K ("Machine" : Str)) ("add_plain_frame" : Str)) fd ["self", "head", "outer", "args"] (sp_Machine_add_plain_frame K) := by
  obtain ⟨fd_first_values, F_first_values⟩ := T.d_first_values
  have G_first_values := ok_first_values (P := P) (w := w) (base := base) T F_first_values
  obtain ⟨fd_Machine_make_scope, F_Machine_make_scope⟩ := T.d_Machine_make_scope
  have G_Machine_make_scope := ok_Machine_make_scope (P := P) (w := w) (base := base) T F_Machine_make_scope
  refine ⟨F.ok (CX := L2.CX P w) sc_Machine_add_plain_frame (fun vs H Q E h => ?_) (fun cdv A outer s H vs Q E hr h => ⟨t_Machine_add_plain_frame K E, ?_, run_Machine_add_plain_frame T.mcc h⟩), F.bindsN fun _ _ _ _ _ _ us hl => match us, hl with | [_, _, _, _], _ => rfl, F.kp⟩
  · obtain ⟨_, _, _, _, _, _, _, _, _, _, _, _, _, _, _, _, _, _, _, _, rfl, _⟩ := h
    rfl
  · exact (pss_cons (ps_asg (pv 1) (pg_tup rfl (pgs_cons (pg_name (i := 4) sc_Machine_add_plain_frame.nd rfl (Or.inl rfl)) (pgs_cons (pg_name (i := 5) sc_Machine_add_plain_frame.nd rfl (Or.inl rfl)) (pgs_cons (pg_name (i := 6) sc_Machine_add_plain_frame.nd rfl (Or.inl rfl)) (pgs_cons (pg_name (i := 7) sc_Machine_add_plain_frame.nd rfl (Or.inl rfl)) (pgs_cons (pg_name (i := 8) sc_Machine_add_plain_frame.nd rfl (Or.inl rfl)) pgs_nil)))))))
      (pss_cons (ps_asg (pe_ix ix_tup (pe_ix ix_tup (pe_fld (pv 0) rfl) pe_int (fun _ _ => rfl)) (pv 5) (fun _ _ => rfl)) (pg_tup rfl (pgs_cons (pg_name (i := 9) sc_Machine_add_plain_frame.nd rfl (Or.inl rfl)) (pgs_cons (pg_name (i := 10) sc_Machine_add_plain_frame.nd rfl (Or.inl rfl)) (pgs_cons (pg_name (i := 11) sc_Machine_add_plain_frame.nd rfl (Or.inl rfl)) (pgs_cons (pg_name (i := 9) sc_Machine_add_plain_frame.nd rfl (Or.inl rfl)) pgs_nil))))))
      (pss_cons (ps_set (i := 12) sc_Machine_add_plain_frame.nd rfl (Or.inl rfl) (pe_call G_first_values.fn (hr.mono (by decide)) rfl T.glo_first_values G_first_values.kp G_first_values.bd .nil (passE (takes_of rfl rfl rfl rfl)) (pa_cons (pv 3) (pa_cons (pv 10) pa_nil))))
      (pss_cons (ps_if (pt_val (pv 11)) (pss_one (ps_set (i := 13) sc_Machine_add_plain_frame.nd rfl (Or.inl rfl) (pe_tup (pa_cons pe_str (pa_cons (pe_meth (pv 0) T.cls_PlainMachine T.inm_PlainMachine_Machine_make_scope G_Machine_make_scope.fn (hr.mono (by decide)) G_Machine_make_scope.bd .nil (passE (takes_of rfl rfl rfl rfl)) (pa_cons (pv 2) (pa_cons (pv 12) pa_nil))) pa_nil))))) (pss_one (ps_set (i := 13) sc_Machine_add_plain_frame.nd rfl (Or.inl rfl) (pe_tup (pa_cons pe_str (pa_cons (pv 12) (pa_cons (pv 2) pa_nil)))))))
      (pss_one (ps_expr (pe_bm PySem.F.plainAttrs_list PySem.F.slot_list_append PySem.F.type_list_append mt_append (pe_fld (pv 0) rfl) (pa_cons (pe_tup (pa_cons (pv 4) (pa_cons (pv 5) (pa_cons pe_int (pa_cons (pv 6) (pa_cons (pv 7) (pa_cons (pv 13) (pa_cons (pe_tup pa_nil) (pa_cons (pv 8) pa_nil))))))))) pa_nil))))))))
theorem ok_Machine_add_plain_method (T : Txt P w K mg) {fd : FuncData} (F : FunD K ("add_plain_method" : Str) ("Machine.add_plain_method" : Str) (defArgs s_Machine_add_plain_method) (defBody s_Machine_add_plain_method) (defScope s_Machine_add_plain_method) [] [] (He.ma K (He.ga K ("Machine" : Str)) ("add_plain_method" : Str)) fd) : Def P w K mg base 3 (He.ma K (He.ga K ("Machine" : Str)) ("add_plain_method" : Str)) fd ["self", "j", "self_value", "holder", "args"] (sp_Machine_add_plain_method K) := by
  obtain ⟨fd_Machine_add_plain_frame, F_Machine_add_plain_frame⟩ := T.d_Machine_add_plain_frame
  have G_Machine_add_plain_frame := ok_Machine_add_plain_frame (P := P) (w := w) (base := base) T F_Machine_add_plain_frame
  obtain ⟨tk_NO_MARK, i_NO_MARK⟩ := T.int_NO_MARK
  obtain ⟨tk_METHOD, i_METHOD⟩ := T.str_METHOD
  obtain ⟨tk_NO_SCOPE, i_NO_SCOPE⟩ := T.int_NO_SCOPE
  refine ⟨F.ok (CX := L2.CX P w) sc_Machine_add_plain_method (fun vs H Q E h => ?_) (fun cdv A outer s H vs Q E hr h => ⟨t_Machine_add_plain_method K E, ?_, run_Machine_add_plain_method T.mcc h⟩), F.bindsN fun _ _ _ _ _ _ us hl => match us, hl with | [_, _, _, _, _], _ => rfl, F.kp⟩
  · obtain ⟨_, _, _, _, _, _, _, _, _, _, _, _, _, _, _, _, _, rfl, _⟩ := h
    rfl
  · exact (pss_cons (ps_set (i := 5) sc_Machine_add_plain_method.nd rfl (Or.inl rfl) (pe_ix ix_tup (pe_ix ix_tup (pe_ix ix_tup (pe_fld (pv 0) rfl) pe_int (fun _ _ => rfl)) (pv 1) (fun _ _ => rfl)) pe_int (fun _ _ => rfl)))
      (pss_cons (ps_if (pt_val (pv 5)) (pss_one (ps_fldaug (pv 0) pe_int in_add)) pss_nil)
      (pss_cons (ps_set (i := 6) sc_Machine_add_plain_method.nd rfl (Or.inl rfl) (pe_ifExp (pt_val (pv 5)) (pe_fld (pv 0) rfl) (pe_glob rfl i_NO_MARK ⟨_, rfl⟩)))
      (pss_one (ps_expr (pe_meth (pv 0) T.cls_PlainMachine T.inm_PlainMachine_Machine_add_plain_frame G_Machine_add_plain_frame.fn (hr.mono (by decide)) G_Machine_add_plain_frame.bd .nil (passE (takes_of rfl rfl rfl rfl)) (pa_cons (pe_tup (pa_cons (pe_glob rfl i_METHOD ⟨_, rfl⟩) (pa_cons (pv 1) (pa_cons (pv 2) (pa_cons (pv 3) (pa_cons (pv 6) pa_nil)))))) (pa_cons (pe_glob rfl i_NO_SCOPE ⟨_, rfl⟩) (pa_cons (pv 4) pa_nil)))))))))
theorem ok_Machine_init (T : Txt P w K mg) {fd : FuncData} (F : FunD K ("__init__" : Str) ("Machine.__init__" : Str) (defArgs s_Machine_init) (defBody s_Machine_init) (defScope s_Machine_init) [] [] (He.ma K (He.ga K ("Machine" : Str)) ("__init__" : Str)) fd) : Def P w K mg base 5 (He.ma K (He.ga K ("Machine" : Str)) ("__init__" : Str)) fd ["self", "code"] (sp_Machine_init K) := by
  obtain ⟨fd_Objects_init, F_Objects_init⟩ := T.d_Objects_init
  have G_Objects_init := ok_Objects_init (P := P) (w := w) (base := base) T F_Objects_init
  obtain ⟨fd_Machine_add_plain_method, F_Machine_add_plain_method⟩ := T.d_Machine_add_plain_method
  have G_Machine_add_plain_method := ok_Machine_add_plain_method (P := P) (w := w) (base := base) T F_Machine_add_plain_method
  obtain ⟨tk_NO_MARK, i_NO_MARK⟩ := T.int_NO_MARK
  obtain ⟨tk_LOBBY, i_LOBBY⟩ := T.int_LOBBY
  refine ⟨F.ok (CX := L2.CX P w) sc_Machine_init (fun vs H Q E h => ?_) (fun cdv A outer s H vs Q E hr h => ⟨t_Machine_init K E, ?_, run_Machine_init T.mcc T.obc h⟩), F.bindsN fun _ _ _ _ _ _ us hl => match us, hl with | [_, _], _ => rfl, F.kp⟩
  · obtain ⟨_, _, _, _, _, _, rfl, _⟩ := h
    rfl
  · exact (pss_cons (ps_fld (pv 0) (pv 1) rfl)
      (pss_cons (ps_fld (pv 0) (pe_make0 T.mkr_Objects G_Objects_init.fn (hr.mono (by decide)) rfl T.glo_Objects G_Objects_init.bd .nil (passE (takes_of rfl rfl rfl rfl))) rfl)
      (pss_cons (ps_fld (pv 0) pe_dnewK rfl)
      (pss_cons (ps_fld (pv 0) pe_dnewK rfl)
      (pss_cons (ps_fld (pv 0) (pe_lst pa_nil) rfl)
      (pss_cons (ps_fld (pv 0) (pe_lst pa_nil) rfl)
      (pss_cons (ps_fld (pv 0) pe_non rfl)
      (pss_cons (ps_fld (pv 0) pe_int rfl)
      (pss_cons (ps_fld (pv 0) pe_int rfl)
      (pss_cons (ps_fld (pv 0) pe_int rfl)
      (pss_cons (ps_fld (pv 0) (pe_glob rfl i_NO_MARK ⟨_, rfl⟩) rfl)
      (pss_one (ps_expr (pe_meth (pv 0) T.cls_PlainMachine T.inm_PlainMachine_Machine_add_plain_method G_Machine_add_plain_method.fn (hr.mono (by decide)) G_Machine_add_plain_method.bd .nil (passE (takes_of rfl rfl rfl rfl)) (pa_cons (pe_ix ix_tup (pv 1) pe_int (fun _ _ => rfl)) (pa_cons (pe_tup (pa_cons pe_str (pa_cons (pe_glob rfl i_LOBBY ⟨_, rfl⟩) pa_nil))) (pa_cons (pe_glob rfl i_LOBBY ⟨_, rfl⟩) (pa_cons (pe_tup pa_nil) pa_nil))))))))))))))))))
theorem ok_PlainMachine_init (T : Txt P w K mg) : ∃ fd, SupD P w K mg base 7 (He.ma K (He.ga K ("PlainMachine" : Str)) "__init__") fd ["self", "code"] (spS (He.ga K ("PlainMachine" : Str)) (sp_Machine_init K)) := by
  obtain ⟨fd2, F2⟩ := T.d_Machine_init
  have G2 := ok_Machine_init (P := P) (w := w) (base := base) T F2
  exact sup_ok T.sup_PlainMachine G2.fn G2.bd
theorem ok_search_value (T : Txt P w K mg) {fd : FuncData} (F : FunD K ("search_value" : Str) ("search_value" : Str) (defArgs s_search_value) (defBody s_search_value) (defScope s_search_value) [] [] (He.ga K ("search_value" : Str)) fd) : Def P w K mg base 4 (He.ga K ("search_value" : Str)) fd ["objects", "value", "name"] (sp_search_value K) := by
  obtain ⟨fd_search, F_search⟩ := T.d_search
  have G_search := ok_search (P := P) (w := w) (base := base) T F_search
  refine ⟨F.ok (CX := L2.CX P w) sc_search_value (fun vs H Q E h => ?_) (fun cdv A outer s H vs Q E hr h => ⟨t_search_value K E, ?_, run_search_value h⟩), F.bindsN fun _ _ _ _ _ _ us hl => match us, hl with | [_, _, _], _ => rfl, F.kp⟩
  · obtain ⟨_, _, _, _, _, _, _, _, rfl, _⟩ := h
    rfl
  · exact (pss_cons (ps_if (pt_cmpR op_ne (pe_ix ix_tup (pv 1) pe_int (fun _ _ => rfl)) pe_str (nomark _)) (pss_one (ps_ret (pe_tup (pa_cons (pe_tup (pa_cons pe_str pa_nil)) (pa_cons (pe_tup pa_nil) pa_nil))))) pss_nil)
      (pss_one (ps_ret (pe_call G_search.fn (hr.mono (by decide)) rfl T.glo_search G_search.kp G_search.bd .nil (passE (takes_of rfl rfl rfl rfl)) (pa_cons (pv 0) (pa_cons (pe_tup (pa_cons (pe_ix ix_tup (pv 1) pe_int (fun _ _ => rfl)) pa_nil)) (pa_cons (pv 2) pa_nil)))))))
theorem ok_PlainMachine_search_send (T : Txt P w K mg) {fd : FuncData} (F : FunD K ("search_send" : Str) ("PlainMachine.search_send" : Str) (defArgs s_PlainMachine_search_send) (defBody s_PlainMachine_search_send) (defScope s_PlainMachine_search_send) [] [] (He.ma K (He.ga K ("PlainMachine" : Str)) ("search_send" : Str)) fd) : Def P w K mg base 5 (He.ma K (He.ga K ("PlainMachine" : Str)) ("search_send" : Str)) fd ["self", "receiver", "name"] (sp_PlainMachine_search_send K) := by
  obtain ⟨fd_search_value, F_search_value⟩ := T.d_search_value
  have G_search_value := ok_search_value (P := P) (w := w) (base := base) T F_search_value
  refine ⟨F.ok (CX := L2.CX P w) sc_PlainMachine_search_send (fun vs H Q E h => ?_) (fun cdv A outer s H vs Q E hr h => ⟨t_PlainMachine_search_send K E, ?_, run_PlainMachine_search_send T.mcc h⟩), F.bindsN fun _ _ _ _ _ _ us hl => match us, hl with | [_, _, _], _ => rfl, F.kp⟩
  · obtain ⟨_, _, _, _, _, _, _, _, _, _, _, _, _, rfl, _⟩ := h
    rfl
  · exact (pss_cons (ps_asg (pe_call G_search_value.fn (hr.mono (by decide)) rfl T.glo_search_value G_search_value.kp G_search_value.bd .nil (passE (takes_of rfl rfl rfl rfl)) (pa_cons (pe_fld (pv 0) rfl) (pa_cons (pv 1) (pa_cons (pv 2) pa_nil)))) (pg_tup rfl (pgs_cons (pg_name (i := 3) sc_PlainMachine_search_send.nd rfl (Or.inl rfl)) (pgs_cons (pg_name (i := 4) sc_PlainMachine_search_send.nd rfl (Or.inl rfl)) pgs_nil))))
      (pss_one (ps_ret (pv 3))))
theorem ok_PlainMachine_add_method (T : Txt P w K mg) {fd : FuncData} (F : FunD K ("add_method" : Str) ("PlainMachine.add_method" : Str) (defArgs s_PlainMachine_add_method) (defBody s_PlainMachine_add_method) (defScope s_PlainMachine_add_method) [] [] (He.ma K (He.ga K ("PlainMachine" : Str)) ("add_method" : Str)) fd) : Def P w K mg base 4 (He.ma K (He.ga K ("PlainMachine" : Str)) ("add_method" : Str)) fd ["self", "j", "self_value", "holder", "args"] (sp_PlainMachine_add_method K) := by
  obtain ⟨fd_Machine_add_plain_method, F_Machine_add_plain_method⟩ := T.d_Machine_add_plain_method
  have G_Machine_add_plain_method := ok_Machine_add_plain_method (P := P) (w := w) (base := base) T F_Machine_add_plain_method
  refine ⟨F.ok (CX := L2.CX P w) sc_PlainMachine_add_method (fun vs H Q E h => ?_) (fun cdv A outer s H vs Q E hr h => ⟨t_PlainMachine_add_method K E, ?_, run_PlainMachine_add_method T.mcc h⟩), F.bindsN fun _ _ _ _ _ _ us hl => match us, hl with | [_, _, _, _, _], _ => rfl, F.kp⟩
  · obtain ⟨_, _, _, _, _, _, _, _, _, _, _, _, _, _, _, _, _, rfl, _⟩ := h
    rfl
  · exact (pss_one (ps_expr (pe_meth (pv 0) T.cls_PlainMachine T.inm_PlainMachine_Machine_add_plain_method G_Machine_add_plain_method.fn (hr.mono (by decide)) G_Machine_add_plain_method.bd .nil (passE (takes_of rfl rfl rfl rfl)) (pa_cons (pv 1) (pa_cons (pv 2) (pa_cons (pv 3) (pa_cons (pv 4) pa_nil)))))))
theorem ok_PlainMachine_tell_change (T : Txt P w K mg) {fd : FuncData} (F : FunD K ("tell_change" : Str) ("PlainMachine.tell_change" : Str) (defArgs s_PlainMachine_tell_change) (defBody s_PlainMachine_tell_change) (defScope s_PlainMachine_tell_change) [] [] (He.ma K (He.ga K ("PlainMachine" : Str)) ("tell_change" : Str)) fd) : Def P w K mg base 1 (He.ma K (He.ga K ("PlainMachine" : Str)) ("tell_change" : Str)) fd ["self", "object_id"] (sp_PlainMachine_tell_change K) := by
  refine ⟨F.ok (CX := L2.CX P w) sc_PlainMachine_tell_change (fun vs H Q E h => ?_) (fun cdv A outer s H vs Q E hr h => ⟨t_PlainMachine_tell_change K E, ?_, run_PlainMachine_tell_change h⟩), F.bindsN fun _ _ _ _ _ _ us hl => match us, hl with | [_, _], _ => rfl, F.kp⟩
  · obtain ⟨_, _, rfl, _⟩ := h
    rfl
  · exact (pss_one ps_pass)
theorem ok_go_on (T : Txt P w K mg) {fd : FuncData} (F : FunD K ("go_on" : Str) ("go_on" : Str) (defArgs s_go_on) (defBody s_go_on) (defScope s_go_on) [] [] (He.ga K ("go_on" : Str)) fd) : Def P w K mg base 3 (He.ga K ("go_on" : Str)) fd ["machine", "frame", "stack"] (sp_go_on K) := by
  obtain ⟨fd_moved, F_moved⟩ := T.d_moved
  have G_moved := ok_moved (P := P) (w := w) (base := base) T F_moved
  refine ⟨F.ok (CX := L2.CX P w) sc_go_on (fun vs H Q E h => ?_) (fun cdv A outer s H vs Q E hr h => ⟨t_go_on K E, ?_, run_go_on T.mcc h⟩), F.bindsN fun _ _ _ _ _ _ us hl => match us, hl with | [_, _, _], _ => rfl, F.kp⟩
  · obtain ⟨_, _, _, _, _, _, _, _, _, _, _, _, _, _, _, rfl, _⟩ := h
    rfl
  · exact (pss_one (ps_asg (pe_call G_moved.fn (hr.mono (by decide)) rfl T.glo_moved G_moved.kp G_moved.bd .nil (passE (takes_of rfl rfl rfl rfl)) (pa_cons (pv 1) (pa_cons (pe_op op_add (pe_ix ix_tup (pv 1) pe_int (fun _ _ => rfl)) pe_int) (pa_cons (pv 2) pa_nil)))) (pg_sub (pe_fld (pv 0) rfl) (pe_un un_neg pe_int) set_list)))
theorem ok_push (T : Txt P w K mg) {fd : FuncData} (F : FunD K ("push" : Str) ("push" : Str) (defArgs s_push) (defBody s_push) (defScope s_push) [] [] (He.ga K ("push" : Str)) fd) : Def P w K mg base 4 (He.ga K ("push" : Str)) fd ["machine", "frame", "value"] (sp_push K) := by
  obtain ⟨fd_go_on, F_go_on⟩ := T.d_go_on
  have G_go_on := ok_go_on (P := P) (w := w) (base := base) T F_go_on
  obtain ⟨fd_stack_of, F_stack_of⟩ := T.d_stack_of
  have G_stack_of := ok_stack_of (P := P) (w := w) (base := base) T F_stack_of
  refine ⟨F.ok (CX := L2.CX P w) sc_push (fun vs H Q E h => ?_) (fun cdv A outer s H vs Q E hr h => ⟨t_push K E, ?_, run_push h⟩), F.bindsN fun _ _ _ _ _ _ us hl => match us, hl with | [_, _, _], _ => rfl, F.kp⟩
  · obtain ⟨_, _, _, _, _, _, _, _, _, _, _, _, _, _, _, rfl, _⟩ := h
    rfl
  · exact (pss_one (ps_expr (pe_call G_go_on.fn (hr.mono (by decide)) rfl T.glo_go_on G_go_on.kp G_go_on.bd .nil (passE (takes_of rfl rfl rfl rfl)) (pa_cons (pv 0) (pa_cons (pv 1) (pa_cons (pe_op op_catA (pe_call G_stack_of.fn (hr.mono (by decide)) rfl T.glo_stack_of G_stack_of.kp G_stack_of.bd .nil (passE (takes_of rfl rfl rfl rfl)) (pa_cons (pv 1) pa_nil)) (pe_tup (pa_cons (pv 2) pa_nil))) pa_nil))))))
theorem ok_do_self (T : Txt P w K mg) {fd : FuncData} (F : FunD K ("do_self" : Str) ("do_self" : Str) (defArgs s_do_self) (defBody s_do_self) (defScope s_do_self) [] [] (He.ga K ("do_self" : Str)) fd) : Def P w K mg base 5 (He.ga K ("do_self" : Str)) fd ["machine", "frame", "row"] (sp_do_self K) := by
  obtain ⟨fd_push, F_push⟩ := T.d_push
  have G_push := ok_push (P := P) (w := w) (base := base) T F_push
  refine ⟨F.ok (CX := L2.CX P w) sc_do_self (fun vs H Q E h => ?_) (fun cdv A outer s H vs Q E hr h => ⟨t_do_self K E, ?_, run_do_self h⟩), F.bindsN fun _ _ _ _ _ _ us hl => match us, hl with | [_, _, _], _ => rfl, F.kp⟩
  · obtain ⟨_, _, _, _, _, _, _, _, _, _, _, _, _, _, _, _, rfl, _⟩ := h
    rfl
  · exact (pss_one (ps_expr (pe_call G_push.fn (hr.mono (by decide)) rfl T.glo_push G_push.kp G_push.bd .nil (passE (takes_of rfl rfl rfl rfl)) (pa_cons (pv 0) (pa_cons (pv 1) (pa_cons (pe_ix ix_tup (pv 1) pe_int (fun _ _ => rfl)) pa_nil))))))
theorem ok_do_method (T : Txt P w K mg) {fd : FuncData} (F : FunD K ("do_method" : Str) ("do_method" : Str) (defArgs s_do_method) (defBody s_do_method) (defScope s_do_method) [] [] (He.ga K ("do_method" : Str)) fd) : Def P w K mg base 5 (He.ga K ("do_method" : Str)) fd ["machine", "frame", "row"] (sp_do_method K) := by
  obtain ⟨fd_push, F_push⟩ := T.d_push
  have G_push := ok_push (P := P) (w := w) (base := base) T F_push
  obtain ⟨tk_METHOD, i_METHOD⟩ := T.str_METHOD
  refine ⟨F.ok (CX := L2.CX P w) sc_do_method (fun vs H Q E h => ?_) (fun cdv A outer s H vs Q E hr h => ⟨t_do_method K E, ?_, run_do_method h⟩), F.bindsN fun _ _ _ _ _ _ us hl => match us, hl with | [_, _, _], _ => rfl, F.kp⟩
  · obtain ⟨_, _, _, _, _, _, _, _, _, _, _, _, _, _, _, _, rfl, _⟩ := h
    rfl
  · exact (pss_one (ps_expr (pe_call G_push.fn (hr.mono (by decide)) rfl T.glo_push G_push.kp G_push.bd .nil (passE (takes_of rfl rfl rfl rfl)) (pa_cons (pv 0) (pa_cons (pv 1) (pa_cons (pe_tup (pa_cons (pe_glob rfl i_METHOD ⟨_, rfl⟩) (pa_cons (pe_ix ix_tup (pv 2) pe_int (fun _ _ => rfl)) pa_nil))) pa_nil))))))
theorem ok_do_put (T : Txt P w K mg) {fd : FuncData} (F : FunD K ("do_put" : Str) ("do_put" : Str) (defArgs s_do_put) (defBody s_do_put) (defScope s_do_put) [] [] (He.ga K ("do_put" : Str)) fd) : Def P w K mg base 4 (He.ga K ("do_put" : Str)) fd ["machine", "frame", "row"] (sp_do_put K) := by
  obtain ⟨fd_without_top, F_without_top⟩ := T.d_without_top
  have G_without_top := ok_without_top (P := P) (w := w) (base := base) T F_without_top
  obtain ⟨fd_stack_of, F_stack_of⟩ := T.d_stack_of
  have G_stack_of := ok_stack_of (P := P) (w := w) (base := base) T F_stack_of
  obtain ⟨fd_go_on, F_go_on⟩ := T.d_go_on
  have G_go_on := ok_go_on (P := P) (w := w) (base := base) T F_go_on
  obtain ⟨fd_Objects_put, F_Objects_put⟩ := T.d_Objects_put
  have G_Objects_put := ok_Objects_put (P := P) (w := w) (base := base) T F_Objects_put
  obtain ⟨fd_PlainMachine_tell_change, F_PlainMachine_tell_change⟩ := T.d_PlainMachine_tell_change
  have G_PlainMachine_tell_change := ok_PlainMachine_tell_change (P := P) (w := w) (base := base) T F_PlainMachine_tell_change
  refine ⟨F.ok (CX := L2.CX P w) sc_do_put (fun vs H Q E h => ?_) (fun cdv A outer s H vs Q E hr h => ⟨t_do_put K E tNever, ?_, run_do_put T.mcc h⟩), F.bindsN fun _ _ _ _ _ _ us hl => match us, hl with | [_, _, _], _ => rfl, F.kp⟩
  · obtain ⟨_, _, _, _, _, _, _, _, _, _, _, _, _, _, _, _, rfl, _⟩ := h
    rfl
  · exact (pss_cons (ps_asg (pe_call G_without_top.fn (hr.mono (by decide)) rfl T.glo_without_top G_without_top.kp G_without_top.bd .nil (passE (takes_of rfl rfl rfl rfl)) (pa_cons (pe_call G_stack_of.fn (hr.mono (by decide)) rfl T.glo_stack_of G_stack_of.kp G_stack_of.bd .nil (passE (takes_of rfl rfl rfl rfl)) (pa_cons (pv 1) pa_nil)) (pa_cons pe_int pa_nil))) (pg_tup rfl (pgs_cons (pg_name (i := 3) sc_do_put.nd rfl (Or.inl rfl)) (pgs_cons (pg_tup rfl (pgs_cons (pg_name (i := 4) sc_do_put.nd rfl (Or.inl rfl)) (pgs_cons (pg_name (i := 5) sc_do_put.nd rfl (Or.inl rfl)) pgs_nil))) pgs_nil))))
      (pss_cons (ps_if (pt_cmpR op_ne (pe_ix ix_tup (pv 4) pe_int (fun _ _ => rfl)) pe_str (nomark _)) (pss_one ps_never) pss_nil)
      (pss_cons (ps_expr (pe_call G_go_on.fn (hr.mono (by decide)) rfl T.glo_go_on G_go_on.kp G_go_on.bd .nil (passE (takes_of rfl rfl rfl rfl)) (pa_cons (pv 0) (pa_cons (pv 1) (pa_cons (pv 3) pa_nil)))))
      (pss_cons (ps_expr (pe_meth (pe_fld (pv 0) rfl) T.cls_Objects T.meth_Objects_put G_Objects_put.fn (hr.mono (by decide)) G_Objects_put.bd .nil (passE (takes_of rfl rfl rfl rfl)) (pa_cons (pe_ix ix_tup (pv 4) pe_int (fun _ _ => rfl)) (pa_cons (pe_ix ix_tup (pv 2) pe_int (fun _ _ => rfl)) (pa_cons (pe_ix ix_tup (pv 2) pe_int (fun _ _ => rfl)) (pa_cons (pv 5) pa_nil))))))
      (pss_one (ps_expr (pe_meth (pv 0) T.cls_PlainMachine T.meth_PlainMachine_tell_change G_PlainMachine_tell_change.fn (hr.mono (by decide)) G_PlainMachine_tell_change.bd .nil (passE (takes_of rfl rfl rfl rfl)) (pa_cons (pe_ix ix_tup (pv 4) pe_int (fun _ _ => rfl)) pa_nil))))))))
theorem ok_do_found (T : Txt P w K mg) {fd : FuncData} (F : FunD K ("do_found" : Str) ("do_found" : Str) (defArgs s_do_found) (defBody s_do_found) (defScope s_do_found) [] [] (He.ga K ("do_found" : Str)) fd) : Def P w K mg base 5 (He.ga K ("do_found" : Str)) fd ["machine", "frame", "self_value", "outcome", "args"] (sp_do_found K) := by
  obtain ⟨fd_method_index, F_method_index⟩ := T.d_method_index
  have G_method_index := ok_method_index (P := P) (w := w) (base := base) T F_method_index
  obtain ⟨fd_push, F_push⟩ := T.d_push
  have G_push := ok_push (P := P) (w := w) (base := base) T F_push
  obtain ⟨fd_go_on, F_go_on⟩ := T.d_go_on
  have G_go_on := ok_go_on (P := P) (w := w) (base := base) T F_go_on
  obtain ⟨fd_stack_of, F_stack_of⟩ := T.d_stack_of
  have G_stack_of := ok_stack_of (P := P) (w := w) (base := base) T F_stack_of
  obtain ⟨fd_PlainMachine_add_method, F_PlainMachine_add_method⟩ := T.d_PlainMachine_add_method
  have G_PlainMachine_add_method := ok_PlainMachine_add_method (P := P) (w := w) (base := base) T F_PlainMachine_add_method
  refine ⟨F.ok (CX := L2.CX P w) sc_do_found (fun vs H Q E h => ?_) (fun cdv A outer s H vs Q E hr h => ⟨t_do_found K E tNever tNever, ?_, run_do_found T.mcc h⟩), F.bindsN fun _ _ _ _ _ _ us hl => match us, hl with | [_, _, _, _, _], _ => rfl, F.kp⟩
  · obtain ⟨_, _, _, _, _, _, _, _, _, _, _, _, _, _, _, _, _, _, _, _, rfl, _⟩ := h
    rfl
  · exact (pss_cons (ps_if (pt_cmpR op_ne (pe_ix ix_tup (pv 3) pe_int (fun _ _ => rfl)) pe_str (nomark _)) (pss_one ps_never) pss_nil)
      (pss_cons (ps_asg (pv 3) (pg_tup rfl (pgs_cons (pg_name (i := 5) sc_do_found.nd rfl (Or.inl rfl)) (pgs_cons (pg_name (i := 6) sc_do_found.nd rfl (Or.inl rfl)) (pgs_cons (pg_name (i := 7) sc_do_found.nd rfl (Or.inl rfl)) (pgs_cons (pg_name (i := 8) sc_do_found.nd rfl (Or.inl rfl)) pgs_nil))))))
      (pss_cons (ps_set (i := 9) sc_do_found.nd rfl (Or.inl rfl) (pe_call G_method_index.fn (hr.mono (by decide)) rfl T.glo_method_index G_method_index.kp G_method_index.bd .nil (passE (takes_of rfl rfl rfl rfl)) (pa_cons (pe_tup (pa_cons (pv 7) (pa_cons (pv 8) pa_nil))) pa_nil)))
      (pss_cons (ps_set (i := 10) sc_do_found.nd rfl (Or.inl rfl) (pe_ifExp (pt_cmpR op_isN (pv 9) pe_non (nomark _)) pe_int (pe_ix ix_tup (pe_ix ix_tup (pe_ix ix_tup (pe_fld (pv 0) rfl) pe_int (fun _ _ => rfl)) (pv 9) (fun _ _ => rfl)) pe_int (fun _ _ => rfl))))
      (pss_cons (ps_if (pt_cmpR op_ne (pe_callB call_len (by rfl) T.free_len (by decide +kernel) (pa_cons (pv 4) pa_nil)) (pv 10) (nomark _)) (pss_one ps_never) pss_nil)
      (pss_one (ps_if (pt_cmpR op_isN (pv 9) pe_non (nomark _)) (pss_one (ps_expr (pe_call G_push.fn (hr.mono (by decide)) rfl T.glo_push G_push.kp G_push.bd .nil (passE (takes_of rfl rfl rfl rfl)) (pa_cons (pv 0) (pa_cons (pv 1) (pa_cons (pv 8) pa_nil)))))) (pss_cons (ps_expr (pe_call G_go_on.fn (hr.mono (by decide)) rfl T.glo_go_on G_go_on.kp G_go_on.bd .nil (passE (takes_of rfl rfl rfl rfl)) (pa_cons (pv 0) (pa_cons (pv 1) (pa_cons (pe_call G_stack_of.fn (hr.mono (by decide)) rfl T.glo_stack_of G_stack_of.kp G_stack_of.bd .nil (passE (takes_of rfl rfl rfl rfl)) (pa_cons (pv 1) pa_nil)) pa_nil)))))
      (pss_one (ps_expr (pe_meth (pv 0) T.cls_PlainMachine T.meth_PlainMachine_add_method G_PlainMachine_add_method.fn (hr.mono (by decide)) G_PlainMachine_add_method.bd .nil (passE (takes_of rfl rfl rfl rfl)) (pa_cons (pv 9) (pa_cons (pv 2) (pa_cons (pv 6) (pa_cons (pv 4) pa_nil)))))))))))))))
theorem ok_do_send (T : Txt P w K mg) {fd : FuncData} (F : FunD K ("do_send" : Str) ("do_send" : Str) (defArgs s_do_send) (defBody s_do_send) (defScope s_do_send) [] [] (He.ga K ("do_send" : Str)) fd) : Def P w K mg base 6 (He.ga K ("do_send" : Str)) fd ["machine", "frame", "row"] (sp_do_send K) := by
  obtain ⟨fd_without_top, F_without_top⟩ := T.d_without_top
  have G_without_top := ok_without_top (P := P) (w := w) (base := base) T F_without_top
  obtain ⟨fd_stack_of, F_stack_of⟩ := T.d_stack_of
  have G_stack_of := ok_stack_of (P := P) (w := w) (base := base) T F_stack_of
  obtain ⟨fd_PlainMachine_search_send, F_PlainMachine_search_send⟩ := T.d_PlainMachine_search_send
  have G_PlainMachine_search_send := ok_PlainMachine_search_send (P := P) (w := w) (base := base) T F_PlainMachine_search_send
  obtain ⟨fd_do_found, F_do_found⟩ := T.d_do_found
  have G_do_found := ok_do_found (P := P) (w := w) (base := base) T F_do_found
  obtain ⟨fd_moved, F_moved⟩ := T.d_moved
  have G_moved := ok_moved (P := P) (w := w) (base := base) T F_moved
  refine ⟨F.ok (CX := L2.CX P w) sc_do_send (fun vs H Q E h => ?_) (fun cdv A outer s H vs Q E hr h => ⟨t_do_send K E, ?_, run_do_send T.mcc h⟩), F.bindsN fun _ _ _ _ _ _ us hl => match us, hl with | [_, _, _], _ => rfl, F.kp⟩
  · obtain ⟨_, _, _, _, _, _, _, _, _, _, _, _, _, _, _, _, rfl, _⟩ := h
    rfl
  · exact (pss_cons (ps_asg (pv 2) (pg_tup rfl (pgs_cons (pg_name (i := 3) sc_do_send.nd rfl (Or.inl rfl)) (pgs_cons (pg_name (i := 4) sc_do_send.nd rfl (Or.inl rfl)) (pgs_cons (pg_name (i := 5) sc_do_send.nd rfl (Or.inl rfl)) pgs_nil)))))
      (pss_cons (ps_asg (pe_call G_without_top.fn (hr.mono (by decide)) rfl T.glo_without_top G_without_top.kp G_without_top.bd .nil (passE (takes_of rfl rfl rfl rfl)) (pa_cons (pe_call G_stack_of.fn (hr.mono (by decide)) rfl T.glo_stack_of G_stack_of.kp G_stack_of.bd .nil (passE (takes_of rfl rfl rfl rfl)) (pa_cons (pv 1) pa_nil)) (pa_cons (pv 5) pa_nil))) (pg_tup rfl (pgs_cons (pg_name (i := 6) sc_do_send.nd rfl (Or.inl rfl)) (pgs_cons (pg_name (i := 7) sc_do_send.nd rfl (Or.inl rfl)) pgs_nil))))
      (pss_cons (ps_set (i := 8) sc_do_send.nd rfl (Or.inl rfl) (pe_meth (pv 0) T.cls_PlainMachine T.meth_PlainMachine_search_send G_PlainMachine_search_send.fn (hr.mono (by decide)) G_PlainMachine_search_send.bd .nil (passE (takes_of rfl rfl rfl rfl)) (pa_cons (pe_ix ix_tup (pv 6) (pe_un un_neg pe_int) (fun _ _ => rfl)) (pa_cons (pv 4) pa_nil))))
      (pss_one (ps_expr (pe_call G_do_found.fn (hr.mono (by decide)) rfl T.glo_do_found G_do_found.kp G_do_found.bd .nil (passE (takes_of rfl rfl rfl rfl)) (pa_cons (pv 0) (pa_cons (pe_call G_moved.fn (hr.mono (by decide)) rfl T.glo_moved G_moved.kp G_moved.bd .nil (passE (takes_of rfl rfl rfl rfl)) (pa_cons (pv 1) (pa_cons (pe_ix ix_tup (pv 1) pe_int (fun _ _ => rfl)) (pa_cons (pe_slice sl_tupA (pv 6) po_none (po_some (pe_un un_neg pe_int))) pa_nil)))) (pa_cons (pe_ix ix_tup (pv 6) (pe_un un_neg pe_int) (fun _ _ => rfl)) (pa_cons (pv 8) (pa_cons (pv 7) pa_nil)))))))))))
theorem ok_do_row (T : Txt P w K mg) {fd : FuncData} (F : FunD K ("do_row" : Str) ("do_row" : Str) (defArgs s_do_row) (defBody s_do_row) (defScope s_do_row) [] [] (He.ga K ("do_row" : Str)) fd) : Def P w K mg base 7 (He.ga K ("do_row" : Str)) fd ["machine", "frame", "row"] (sp_do_row K) := by
  obtain ⟨fd_do_self, F_do_self⟩ := T.d_do_self
  have G_do_self := ok_do_self (P := P) (w := w) (base := base) T F_do_self
  obtain ⟨fd_do_method, F_do_method⟩ := T.d_do_method
  have G_do_method := ok_do_method (P := P) (w := w) (base := base) T F_do_method
  obtain ⟨fd_do_put, F_do_put⟩ := T.d_do_put
  have G_do_put := ok_do_put (P := P) (w := w) (base := base) T F_do_put
  obtain ⟨fd_do_send, F_do_send⟩ := T.d_do_send
  have G_do_send := ok_do_send (P := P) (w := w) (base := base) T F_do_send
  have stepA : ∀ f sp, StepS K f sp → ∃ fd ps, Def P w K mg base 6 f fd ps sp := by
    rintro f sp (⟨rfl, rfl⟩ | ⟨rfl, rfl⟩ | ⟨rfl, rfl⟩ | ⟨rfl, rfl⟩)
    · exact ⟨_, _, G_do_self.mono (by decide)⟩
    · exact ⟨_, _, G_do_method.mono (by decide)⟩
    · exact ⟨_, _, G_do_put.mono (by decide)⟩
    · exact ⟨_, _, G_do_send.mono (by decide)⟩
  refine ⟨F.ok (CX := L2.CX P w) sc_do_row (fun vs H Q E h => ?_) (fun cdv A outer s H vs Q E hr h => ⟨t_do_row K w E, ?_, run_do_row T.dic_STEPS h⟩), F.bindsN fun _ _ _ _ _ _ us hl => match us, hl with | [_, _, _], _ => rfl, F.kp⟩
  · obtain ⟨_, _, _, _, _, _, _, _, _, _, _, _, _, _, _, _, _, _, rfl, _⟩ := h
    rfl
  · exact (pss_cons (ps_set (i := 3) sc_do_row.nd rfl (Or.inl rfl) (pe_ix ix_kd (pe_glob rfl T.glo_STEPS rfl) (pe_ix ix_tup (pv 2) pe_int (fun _ _ => rfl)) (fun _ _ => rfl)))
      (pss_one (ps_expr (pe_callP stepA (hr.mono (by omega)) rfl (Or.inl rfl) (passE (takes_of rfl rfl rfl rfl)) (pa_cons (pv 0) (pa_cons (pv 1) (pa_cons (pv 2) pa_nil)))))))
theorem ok_next_row (T : Txt P w K mg) {fd : FuncData} (F : FunD K ("next_row" : Str) ("next_row" : Str) (defArgs s_next_row) (defBody s_next_row) (defScope s_next_row) [] [] (He.ga K ("next_row" : Str)) fd) : Def P w K mg base 1 (He.ga K ("next_row" : Str)) fd ["machine", "frame"] (sp_next_row K) := by
  refine ⟨F.ok (CX := L2.CX P w) sc_next_row (fun vs H Q E h => ?_) (fun cdv A outer s H vs Q E hr h => ⟨t_next_row K E, ?_, run_next_row T.mcc h⟩), F.bindsN fun _ _ _ _ _ _ us hl => match us, hl with | [_, _], _ => rfl, F.kp⟩
  · obtain ⟨_, _, _, _, _, _, _, _, _, _, _, _, _, _, rfl, _⟩ := h
    rfl
  · exact (pss_one (ps_ret (pe_ix ix_tup (pe_ix ix_tup (pe_ix ix_tup (pe_ix ix_tup (pe_fld (pv 0) rfl) pe_int (fun _ _ => rfl)) (pe_ix ix_tup (pv 1) pe_int (fun _ _ => rfl)) (fun _ _ => rfl)) pe_int (fun _ _ => rfl)) (pe_ix ix_tup (pv 1) pe_int (fun _ _ => rfl)) (fun _ _ => rfl))))
theorem ok_PlainMachine_tick (T : Txt P w K mg) {fd : FuncData} (F : FunD K ("tick" : Str) ("PlainMachine.tick" : Str) (defArgs s_PlainMachine_tick) (defBody s_PlainMachine_tick) (defScope s_PlainMachine_tick) [] [] (He.ma K (He.ga K ("PlainMachine" : Str)) ("tick" : Str)) fd) : Def P w K mg base 8 (He.ma K (He.ga K ("PlainMachine" : Str)) ("tick" : Str)) fd ["self"] (sp_PlainMachine_tick K) := by
  obtain ⟨fd_do_row, F_do_row⟩ := T.d_do_row
  have G_do_row := ok_do_row (P := P) (w := w) (base := base) T F_do_row
  obtain ⟨fd_next_row, F_next_row⟩ := T.d_next_row
  have G_next_row := ok_next_row (P := P) (w := w) (base := base) T F_next_row
  refine ⟨F.ok (CX := L2.CX P w) sc_PlainMachine_tick (fun vs H Q E h => ?_) (fun cdv A outer s H vs Q E hr h => ⟨t_PlainMachine_tick K E, ?_, run_PlainMachine_tick T.mcc h⟩), F.bindsN fun _ _ _ _ _ _ us hl => match us, hl with | [_], _ => rfl, F.kp⟩
  · obtain ⟨_, _, _, _, _, _, _, _, _, _, _, _, _, _, _, _, rfl, _⟩ := h
    rfl
  · exact (pss_cons (ps_if (pt_cmpR op_notN (pe_fld (pv 0) rfl) pe_non (nomark _)) (pss_one ps_retN) pss_nil)
      (pss_cons (ps_fldaug (pv 0) pe_int in_add)
      (pss_cons (ps_set (i := 1) sc_PlainMachine_tick.nd rfl (Or.inl rfl) (pe_ix ix_list (pe_fld (pv 0) rfl) (pe_un un_neg pe_int) (fun _ _ => rfl)))
      (pss_one (ps_try_named rfl rfl sc_PlainMachine_tick.nd takes0 (fun W pn xe tk _ => (pss_one (ps_expr (pe_callS G_do_row.fn (hr.mono (by decide)) rfl T.glo_do_row G_do_row.kp G_do_row.bd (fun σ => passAt tk σ) (pa_cons (pv 0) (pa_cons (pv 1) (pa_cons (pe_callS G_next_row.fn (hr.mono (by decide)) rfl T.glo_next_row G_next_row.kp G_next_row.bd (fun σ => passAt tk σ) (pa_cons (pv 0) (pa_cons (pv 1) pa_nil))) pa_nil))))))) (.cons ⟨rfl, by decide, Or.inl T.glo_RowError⟩ rfl rfl (fun xa oe xc xd pn hz hf => (pss_one (ps_fld (pv 0) (pe_tup (pa_cons pe_str (pa_cons (pe_xf (xf_of T.exc_RowError) T.noat_RowError_problem hz hf (pv 2)) pa_nil))) rfl))) .nil))))))
theorem ok_l_chain (T : Txt P w K mg) {fd : FuncData} (F : FunD K ("_law_chain" : Str) ("_law_chain" : Str) (defArgs s_l_chain) (defBody s_l_chain) (defScope s_l_chain) [] [] (He.ga K ("_law_chain" : Str)) fd) : Def P w K mg base 3 (He.ga K ("_law_chain" : Str)) fd ["draws", "objects", "many"] (sp_l_chain K) := by
  obtain ⟨fd_l_next, F_l_next⟩ := T.d_l_next
  have G_l_next := ok_l_next (P := P) (w := w) (base := base) T F_l_next
  obtain ⟨fd_Objects_make, F_Objects_make⟩ := T.d_Objects_make
  have G_Objects_make := ok_Objects_make (P := P) (w := w) (base := base) T F_Objects_make
  refine ⟨F.ok (CX := L2.CX P w) sc_l_chain (fun vs H Q E h => ?_) (fun cdv A outer s H vs Q E hr h => ⟨t_l_chain K E, ?_, run_l_chain T.obc h⟩), F.bindsN fun _ _ _ _ _ _ us hl => match us, hl with | [_, _, _], _ => rfl, F.kp⟩
  · obtain ⟨_, _, _, _, _, _, _, rfl, _⟩ := h
    rfl
  · exact (pss_cons (ps_set (i := 3) sc_l_chain.nd rfl (Or.inl rfl) (pe_lst pa_nil))
      (pss_cons (ps_for (passes_of rfl) rfl (pi_range1 (by rfl) T.free_range (pa_cons (pv 2) pa_nil)) (pg_name (i := 4) sc_l_chain.nd rfl (Or.inl rfl)) (pss_cons (ps_set (i := 5) sc_l_chain.nd rfl (Or.inl rfl) (pe_lst (pa_cons (pe_tup (pa_cons (pe_ix ix_list (pe_lst (pa_cons pe_str (pa_cons pe_str pa_nil))) (pe_call G_l_next.fn (hr.mono (by decide)) rfl T.glo__law_next G_l_next.kp G_l_next.bd .nil (passE (takes_of rfl rfl rfl rfl)) (pa_cons (pv 0) (pa_cons pe_int pa_nil))) (fun _ _ => rfl)) (pa_cons (pe_ix ix_list (pe_lst (pa_cons pe_str (pa_cons pe_str pa_nil))) (pe_call G_l_next.fn (hr.mono (by decide)) rfl T.glo__law_next G_l_next.kp G_l_next.bd .nil (passE (takes_of rfl rfl rfl rfl)) (pa_cons (pv 0) (pa_cons pe_int pa_nil))) (fun _ _ => rfl)) (pa_cons (pe_tup (pa_cons pe_str (pa_cons (pv 4) pa_nil))) pa_nil)))) pa_nil)))
      (pss_cons (ps_if (pt_cmpR op_eq (pv 4) pe_int (nomark _)) (pss_one (ps_set (i := 5) sc_l_chain.nd rfl (Or.inl rfl) (pe_lst pa_nil))) pss_nil)
      (pss_cons (ps_if (pt_cmpR op_eq (pe_call G_l_next.fn (hr.mono (by decide)) rfl T.glo__law_next G_l_next.kp G_l_next.bd .nil (passE (takes_of rfl rfl rfl rfl)) (pa_cons (pv 0) (pa_cons pe_int pa_nil))) pe_int (nomark _)) (pss_one (ps_set (i := 5) sc_l_chain.nd rfl (Or.inl rfl) (pe_op op_cat (pe_lst (pa_cons (pe_tup (pa_cons pe_str (pa_cons pe_str (pa_cons (pe_tup (pa_cons pe_str (pa_cons (pv 4) pa_nil))) pa_nil)))) pa_nil)) (pv 5)))) pss_nil)
      (pss_cons (ps_if (PW.pt (pw_and (pt_cmpR op_eq (pe_call G_l_next.fn (hr.mono (by decide)) rfl T.glo__law_next G_l_next.kp G_l_next.bd .nil (passE (takes_of rfl rfl rfl rfl)) (pa_cons (pv 0) (pa_cons pe_int pa_nil))) pe_int (nomark _)) (pw_and1 (pt_cmpR op_gt (pv 4) pe_int (nomark _))))) (pss_cons (ps_expr (pe_bm PySem.F.plainAttrs_list PySem.F.slot_list_append PySem.F.type_list_append mt_append (pv 5) (pa_cons (pe_tup (pa_cons pe_str (pa_cons pe_str (pa_cons (pe_tup (pa_cons pe_str (pa_cons (pv 4) pa_nil))) pa_nil)))) pa_nil)))
      (pss_one (ps_expr (pe_bm PySem.F.plainAttrs_list PySem.F.slot_list_append PySem.F.type_list_append mt_append (pv 3) (pa_cons (pe_op op_add (pv 4) pe_int) pa_nil))))) pss_nil)
      (pss_one (ps_expr (pe_meth (pv 1) T.cls_Objects T.meth_Objects_make G_Objects_make.fn (hr.mono (by decide)) G_Objects_make.bd .nil (passE (takes_of rfl rfl rfl rfl)) (pa_cons (pe_callTy call_tuple_of (by rfl) T.free_tuple (by decide +kernel) (pa_cons (pv 5) pa_nil)) pa_nil)))))))))
      (pss_one (ps_ret (pv 3)))))
theorem ok_l_due (T : Txt P w K mg) {fd : FuncData} (F : FunD K ("_law_due" : Str) ("_law_due" : Str) (defArgs s_l_due) (defBody s_l_due) (defScope s_l_due) [] [] (He.ga K ("_law_due" : Str)) fd) : Def P w K mg base 1 (He.ga K ("_law_due" : Str)) fd ["many", "holders", "start", "ring"] (sp_l_due K) := by
  refine ⟨F.ok (CX := L2.CX P w) sc_l_due (fun vs H Q E h => ?_) (fun cdv A outer s H vs Q E hr h => ⟨t_l_due K E, ?_, run_l_due h⟩), F.bindsN fun _ _ _ _ _ _ us hl => match us, hl with | [_, _, _, _], _ => rfl, F.kp⟩
  · obtain ⟨_, _, _, _, _, rfl, _⟩ := h
    rfl
  · exact (pss_cons (ps_set (i := 4) sc_l_due.nd rfl (Or.inl rfl) (pe_lst pa_nil))
      (pss_cons (ps_set (i := 5) sc_l_due.nd rfl (Or.inl rfl) (pv 2))
      (pss_cons (ps_for (passes_of rfl) rfl (pi_range1 (by rfl) T.free_range (pa_cons (pv 0) pa_nil)) (pg_name (i := 6) sc_l_due.nd rfl (Or.inl rfl)) (pss_one (ps_if (PW.pt (pw_and (pt_cmpR op_gt (pv 5) pe_int (nomark _)) (pw_and1 (pt_cmpR op_notIn_seq (pv 5) (pv 1) (by with_unfolding_all rfl))))) (pss_cons (ps_expr (pe_bm PySem.F.plainAttrs_list PySem.F.slot_list_append PySem.F.type_list_append mt_append (pv 4) (pa_cons (pv 5) pa_nil)))
      (pss_cons (ps_set (i := 5) sc_l_due.nd rfl (Or.inl rfl) (pe_op op_sub (pv 5) pe_int))
      (pss_one (ps_if (PW.pt (pw_and (pt_cmpR op_eq (pv 5) pe_int (nomark _)) (pw_and1 (pt_val (pv 3))))) (pss_one (ps_set (i := 5) sc_l_due.nd rfl (Or.inl rfl) (pv 0))) pss_nil)))) pss_nil)))
      (pss_cons (ps_if (PW.pt (pw_and (pt_cmpR op_gt (pv 5) pe_int (nomark _)) (pw_and1 (pt_cmpR op_in_seq (pv 5) (pv 1) (by with_unfolding_all rfl))))) (pss_cons (ps_expr (pe_bm PySem.F.plainAttrs_list PySem.F.slot_list_append PySem.F.type_list_append mt_append (pv 4) (pa_cons (pv 5) pa_nil)))
      (pss_one (ps_ret (pe_tup (pa_cons (pe_tup (pa_cons pe_str (pa_cons (pv 5) (pa_cons pe_str (pa_cons (pe_tup (pa_cons pe_str (pa_cons (pe_op op_sub (pv 5) pe_int) pa_nil))) pa_nil))))) (pa_cons (pe_callTy call_tuple_of (by rfl) T.free_tuple (by decide +kernel) (pa_cons (pv 4) pa_nil)) pa_nil)))))) pss_nil)
      (pss_one (ps_ret (pe_tup (pa_cons (pe_tup (pa_cons pe_str pa_nil)) (pa_cons (pe_callTy call_tuple_of (by rfl) T.free_tuple (by decide +kernel) (pa_cons (pv 4) pa_nil)) pa_nil)))))))))
theorem ok_l_is_deep (T : Txt P w K mg) {fd : FuncData} (F : FunD K ("_law_is_deep" : Str) ("_law_is_deep" : Str) (defArgs s_l_is_deep) (defBody s_l_is_deep) (defScope s_l_is_deep) [] [] (He.ga K ("_law_is_deep" : Str)) fd) : Def P w K mg base 9 (He.ga K ("_law_is_deep" : Str)) fd ["ticks"] (sp_l_is_deep K) := by
  obtain ⟨fd_PlainMachine_init, G_PlainMachine_init⟩ := ok_PlainMachine_init (P := P) (w := w) (base := base) T
  obtain ⟨fd_PlainMachine_tick, F_PlainMachine_tick⟩ := T.d_PlainMachine_tick
  have G_PlainMachine_tick := ok_PlainMachine_tick (P := P) (w := w) (base := base) T F_PlainMachine_tick
  refine ⟨F.ok (CX := L2.CX P w) sc_l_is_deep (fun vs H Q E h => ?_) (fun cdv A outer s H vs Q E hr h => ⟨t_l_is_deep K E, ?_, run_l_is_deep T.mcc h⟩), F.bindsN fun _ _ _ _ _ _ us hl => match us, hl with | [_], _ => rfl, F.kp⟩
  · obtain ⟨_, rfl, _⟩ := h
    rfl
  · exact (pss_cons (ps_set (i := 1) sc_l_is_deep.nd rfl (Or.inl rfl) (pe_tup (pa_cons (pe_tup (pa_cons pe_str pa_nil)) (pa_cons (pe_tup (pa_cons pe_str (pa_cons pe_int pa_nil))) (pa_cons (pe_tup (pa_cons pe_str (pa_cons pe_str (pa_cons pe_str pa_nil)))) (pa_cons (pe_tup (pa_cons pe_str pa_nil)) (pa_cons (pe_tup (pa_cons pe_str (pa_cons pe_str (pa_cons pe_int pa_nil)))) (pa_cons (pe_tup (pa_cons pe_str pa_nil)) pa_nil))))))))
      (pss_cons (ps_set (i := 2) sc_l_is_deep.nd rfl (Or.inl rfl) (pe_tup (pa_cons (pe_tup (pa_cons pe_str pa_nil)) (pa_cons (pe_tup (pa_cons pe_str (pa_cons pe_str (pa_cons pe_int pa_nil)))) (pa_cons (pe_tup (pa_cons pe_str pa_nil)) pa_nil)))))
      (pss_cons (ps_set (i := 3) sc_l_is_deep.nd rfl (Or.inl rfl) (pe_make T.mkr_PlainMachine G_PlainMachine_init.fn (hr.mono (by decide)) rfl T.glo_PlainMachine G_PlainMachine_init.bd .nil (passE (takes_of rfl rfl rfl rfl)) (pa_cons (pe_tup (pa_cons (pe_tup (pa_cons (pe_tup (pa_cons pe_int (pa_cons pe_int (pa_cons pe_bl (pa_cons (pv 1) pa_nil))))) (pa_cons (pe_tup (pa_cons pe_int (pa_cons pe_int (pa_cons pe_bl (pa_cons (pv 2) pa_nil))))) pa_nil))) (pa_cons pe_int pa_nil))) pa_nil)))
      (pss_cons (ps_for (passes_of rfl) rfl (pi_range1 (by rfl) T.free_range (pa_cons (pe_op op_add pe_int (pe_op op_mul pe_int (pv 0))) pa_nil)) (pg_name (i := 4) sc_l_is_deep.nd rfl (Or.inl rfl)) (pss_one (ps_expr (pe_meth0 (pv 3) T.cls_PlainMachine T.meth_PlainMachine_tick G_PlainMachine_tick.fn (hr.mono (by decide)) G_PlainMachine_tick.bd .nil (passE (takes_of rfl rfl rfl rfl))))))
      (pss_one (ps_ret (pe_and (pe_cmpR op_eq (pe_callB call_len (by rfl) T.free_len (by decide +kernel) (pa_cons (pe_fld (pv 3) rfl) pa_nil)) (pe_op op_add pe_int (pv 0)) (nomark _)) (pe_and (pe_cmpR op_isN (pe_fld (pv 3) rfl) pe_non (nomark _)) (pe_one (pe_cmpR op_eq (pe_fld (pv 3) rfl) (pe_op op_add pe_int (pe_op op_mul pe_int (pv 0))) (nomark _)))))))))))
theorem ok_law (T : Txt P w K mg) {fd : FuncData} (F : FunD K ("law" : Str) ("law" : Str) (defArgs s_law) (defBody s_law) (defScope s_law) [] [] (He.ga K ("law" : Str)) fd) : Def P w K mg base 10 (He.ga K ("law" : Str)) fd ["script"] (sp_law K) := by
  obtain ⟨fd_l_reader, F_l_reader⟩ := T.d_l_reader
  have G_l_reader := ok_l_reader (P := P) (w := w) (base := base) T F_l_reader
  obtain ⟨fd_Objects_init, F_Objects_init⟩ := T.d_Objects_init
  have G_Objects_init := ok_Objects_init (P := P) (w := w) (base := base) T F_Objects_init
  obtain ⟨fd_l_next, F_l_next⟩ := T.d_l_next
  have G_l_next := ok_l_next (P := P) (w := w) (base := base) T F_l_next
  obtain ⟨fd_l_chain, F_l_chain⟩ := T.d_l_chain
  have G_l_chain := ok_l_chain (P := P) (w := w) (base := base) T F_l_chain
  obtain ⟨fd_Objects_put, F_Objects_put⟩ := T.d_Objects_put
  have G_Objects_put := ok_Objects_put (P := P) (w := w) (base := base) T F_Objects_put
  obtain ⟨fd_l_due, F_l_due⟩ := T.d_l_due
  have G_l_due := ok_l_due (P := P) (w := w) (base := base) T F_l_due
  obtain ⟨fd_search, F_search⟩ := T.d_search
  have G_search := ok_search (P := P) (w := w) (base := base) T F_search
  obtain ⟨fd_l_is_deep, F_l_is_deep⟩ := T.d_l_is_deep
  have G_l_is_deep := ok_l_is_deep (P := P) (w := w) (base := base) T F_l_is_deep
  refine ⟨F.ok (CX := L2.CX P w) sc_law (fun vs H Q E h => ?_) (fun cdv A outer s H vs Q E hr h => ⟨t_law K E, ?_, run_law h⟩), F.bindsN fun _ _ _ _ _ _ us hl => match us, hl with | [_], _ => rfl, F.kp⟩
  · obtain ⟨_, _, rfl, _⟩ := h
    rfl
  · exact (pss_cons (ps_set (i := 1) sc_law.nd rfl (Or.inl rfl) (pe_call G_l_reader.fn (hr.mono (by decide)) rfl T.glo__law_reader G_l_reader.kp G_l_reader.bd .nil (passE (takes_of rfl rfl rfl rfl)) (pa_cons (pv 0) pa_nil)))
      (pss_cons (ps_set (i := 2) sc_law.nd rfl (Or.inl rfl) (pe_make0 T.mkr_Objects G_Objects_init.fn (hr.mono (by decide)) rfl T.glo_Objects G_Objects_init.bd .nil (passE (takes_of rfl rfl rfl rfl))))
      (pss_cons (ps_set (i := 3) sc_law.nd rfl (Or.inl rfl) (pe_op op_add pe_int (pe_call G_l_next.fn (hr.mono (by decide)) rfl T.glo__law_next G_l_next.kp G_l_next.bd .nil (passE (takes_of rfl rfl rfl rfl)) (pa_cons (pv 1) (pa_cons pe_int pa_nil)))))
      (pss_cons (ps_set (i := 4) sc_law.nd rfl (Or.inl rfl) (pe_call G_l_chain.fn (hr.mono (by decide)) rfl T.glo__law_chain G_l_chain.kp G_l_chain.bd .nil (passE (takes_of rfl rfl rfl rfl)) (pa_cons (pv 1) (pa_cons (pv 2) (pa_cons (pv 3) pa_nil)))))
      (pss_cons (ps_set (i := 5) sc_law.nd rfl (Or.inl rfl) (pe_cmpR op_eq (pe_call G_l_next.fn (hr.mono (by decide)) rfl T.glo__law_next G_l_next.kp G_l_next.bd .nil (passE (takes_of rfl rfl rfl rfl)) (pa_cons (pv 1) (pa_cons pe_int pa_nil))) pe_int (nomark _)))
      (pss_cons (ps_if (pt_val (pv 5)) (pss_one (ps_expr (pe_meth (pv 2) T.cls_Objects T.meth_Objects_put G_Objects_put.fn (hr.mono (by decide)) G_Objects_put.bd .nil (passE (takes_of rfl rfl rfl rfl)) (pa_cons pe_int (pa_cons pe_str (pa_cons pe_str (pa_cons (pe_tup (pa_cons pe_str (pa_cons (pv 3) pa_nil))) pa_nil))))))) pss_nil)
      (pss_cons (ps_for (passes_of rfl) rfl (pi_list (pe_lst (pa_cons (pv 3) (pa_cons (pe_op op_add pe_int (pe_call G_l_next.fn (hr.mono (by decide)) rfl T.glo__law_next G_l_next.kp G_l_next.bd .nil (passE (takes_of rfl rfl rfl rfl)) (pa_cons (pv 1) (pa_cons (pv 3) pa_nil)))) (pa_cons (pe_op op_add pe_int (pe_call G_l_next.fn (hr.mono (by decide)) rfl T.glo__law_next G_l_next.kp G_l_next.bd .nil (passE (takes_of rfl rfl rfl rfl)) (pa_cons (pv 1) (pa_cons pe_int pa_nil)))) pa_nil))))) (pg_name (i := 6) sc_law.nd rfl (Or.inl rfl)) (pss_one (ps_if (pt_cmpR (op_neD hr.units) (pe_call G_search.fn (hr.mono (by decide)) rfl T.glo_search G_search.kp G_search.bd .nil (passE (takes_of rfl rfl rfl rfl)) (pa_cons (pv 2) (pa_cons (pe_tup (pa_cons (pv 6) pa_nil)) (pa_cons pe_str pa_nil)))) (pe_call G_l_due.fn (hr.mono (by decide)) rfl T.glo__law_due G_l_due.kp G_l_due.bd .nil (passE (takes_of rfl rfl rfl rfl)) (pa_cons (pv 3) (pa_cons (pv 4) (pa_cons (pv 6) (pa_cons (pv 5) pa_nil))))) (nomark _)) (pss_one (ps_ret pe_bl)) pss_nil)))
      (pss_one (ps_ret (pe_call G_l_is_deep.fn (hr.mono (by decide)) rfl T.glo__law_is_deep G_l_is_deep.kp G_l_is_deep.bd .nil (passE (takes_of rfl rfl rfl rfl)) (pa_cons (pe_op op_add pe_int (pe_call G_l_next.fn (hr.mono (by decide)) rfl T.glo__law_next G_l_next.kp G_l_next.bd .nil (passE (takes_of rfl rfl rfl rfl)) (pa_cons (pv 1) (pa_cons pe_int pa_nil)))) pa_nil)))))))))))
end
theorem txt_mk {P : Program} {w : World} {K : PySem.W.Frag} {h : Heap} {mg : Str → Option Value} (X : K.In h) (G : h.Ns mainGlobals mg) (c : SaysG fa fn ce dc ex w K) (pt : (P.main.scope.names.lookup ("super" : Str)).isSome = false) (pf : ((P.main.file : Str) == "/claim/cut.py") = true) : Txt P w K mg where
  free_range := He.free_ok X G (c.fact 0 (f := .free ("range" : Str)) rfl)
  free_min := He.free_ok X G (c.fact 1 (f := .free ("min" : Str)) rfl)
  free_len := He.free_ok X G (c.fact 2 (f := .free ("len" : Str)) rfl)
  free_abs := He.free_ok X G (c.fact 3 (f := .free ("abs" : Str)) rfl)
  free_int := He.free_ok X G (c.fact 4 (f := .free ("int" : Str)) rfl)
  glo__law_draws := He.glo_ok X G (c.fact 5 (f := .glo ("_law_draws" : Str)) rfl)
  glo_PARENT_KINDS := He.glo_ok X G (c.fact 6 (f := .glo ("PARENT_KINDS" : Str)) rfl)
  free_tuple := He.free_ok X G (c.fact 7 (f := .free ("tuple" : Str)) rfl)
  cls_Objects := He.cls_ok (c.fact 8 (f := .cls ("Objects" : Str)) rfl)
  meth_Objects_put := He.meth_ok (c.fact 9 (f := .meth ("Objects" : Str) ("put" : Str)) rfl)
  int_LOBBY := He.int_ok X G (c.fact 10 (f := .int ("LOBBY" : Str) 0) rfl)
  meth_Objects_make := He.meth_ok (c.fact 11 (f := .meth ("Objects" : Str) ("make" : Str)) rfl)
  meth_Objects_slot := He.meth_ok (c.fact 12 (f := .meth ("Objects" : Str) ("slot" : Str)) rfl)
  free_list := He.free_ok X G (c.fact 13 (f := .free ("list" : Str)) rfl)
  meth_Objects_parents := He.meth_ok (c.fact 14 (f := .meth ("Objects" : Str) ("parents" : Str)) rfl)
  glo_outcome_of := He.glo_ok X G (c.fact 15 (f := .glo ("outcome_of" : Str)) rfl)
  str_FAST := He.str_ok X G (c.fact 16 (f := .str ("FAST" : Str) ("fast" : Str)) rfl)
  glo_is_fast_frame := He.glo_ok X G (c.fact 17 (f := .glo ("is_fast_frame" : Str)) rfl)
  glo_NOTHING := He.glo_ok X G (c.fact 18 (f := .glo ("NOTHING" : Str)) rfl)
  str_METHOD := He.str_ok X G (c.fact 19 (f := .str ("METHOD" : Str) ("method" : Str)) rfl)
  glo_first_values := He.glo_ok X G (c.fact 20 (f := .glo ("first_values" : Str)) rfl)
  cls_PlainMachine := He.cls_ok (c.fact 21 (f := .cls ("PlainMachine" : Str)) rfl)
  int_NO_MARK := He.int_ok X G (c.fact 22 (f := .int ("NO_MARK" : Str) 0) rfl)
  int_NO_SCOPE := He.int_ok X G (c.fact 23 (f := .int ("NO_SCOPE" : Str) (-1)) rfl)
  glo_Objects := He.glo_ok X G (c.fact 24 (f := .glo ("Objects" : Str)) rfl)
  mkr_Objects := He.mkr_ok (c.fact 25 (f := .mkr ("Objects" : Str)) rfl)
  glo_search := He.glo_ok X G (c.fact 26 (f := .glo ("search" : Str)) rfl)
  glo_search_value := He.glo_ok X G (c.fact 27 (f := .glo ("search_value" : Str)) rfl)
  glo_moved := He.glo_ok X G (c.fact 28 (f := .glo ("moved" : Str)) rfl)
  glo_stack_of := He.glo_ok X G (c.fact 29 (f := .glo ("stack_of" : Str)) rfl)
  glo_go_on := He.glo_ok X G (c.fact 30 (f := .glo ("go_on" : Str)) rfl)
  glo_push := He.glo_ok X G (c.fact 31 (f := .glo ("push" : Str)) rfl)
  glo_without_top := He.glo_ok X G (c.fact 32 (f := .glo ("without_top" : Str)) rfl)
  meth_PlainMachine_tell_change := He.meth_ok (c.fact 33 (f := .meth ("PlainMachine" : Str) ("tell_change" : Str)) rfl)
  glo_method_index := He.glo_ok X G (c.fact 34 (f := .glo ("method_index" : Str)) rfl)
  meth_PlainMachine_add_method := He.meth_ok (c.fact 35 (f := .meth ("PlainMachine" : Str) ("add_method" : Str)) rfl)
  meth_PlainMachine_search_send := He.meth_ok (c.fact 36 (f := .meth ("PlainMachine" : Str) ("search_send" : Str)) rfl)
  glo_do_found := He.glo_ok X G (c.fact 37 (f := .glo ("do_found" : Str)) rfl)
  glo_STEPS := He.glo_ok X G (c.fact 38 (f := .glo ("STEPS" : Str)) rfl)
  glo_next_row := He.glo_ok X G (c.fact 39 (f := .glo ("next_row" : Str)) rfl)
  glo_do_row := He.glo_ok X G (c.fact 40 (f := .glo ("do_row" : Str)) rfl)
  glo_RowError := He.glo_ok X G (c.fact 41 (f := .glo ("RowError" : Str)) rfl)
  noat_RowError_problem := He.noat_ok (c.fact 42 (f := .noat ("RowError" : Str) ("problem" : Str)) rfl)
  glo__law_next := He.glo_ok X G (c.fact 43 (f := .glo ("_law_next" : Str)) rfl)
  glo_PlainMachine := He.glo_ok X G (c.fact 44 (f := .glo ("PlainMachine" : Str)) rfl)
  mkr_PlainMachine := He.mkr_ok (c.fact 45 (f := .mkr ("PlainMachine" : Str)) rfl)
  meth_PlainMachine_tick := He.meth_ok (c.fact 46 (f := .meth ("PlainMachine" : Str) ("tick" : Str)) rfl)
  glo__law_reader := He.glo_ok X G (c.fact 47 (f := .glo ("_law_reader" : Str)) rfl)
  glo__law_chain := He.glo_ok X G (c.fact 48 (f := .glo ("_law_chain" : Str)) rfl)
  glo__law_due := He.glo_ok X G (c.fact 49 (f := .glo ("_law_due" : Str)) rfl)
  glo__law_is_deep := He.glo_ok X G (c.fact 50 (f := .glo ("_law_is_deep" : Str)) rfl)
  glo_law := He.glo_ok X G (c.fact 51 (f := .glo ("law" : Str)) rfl)
  noat_Objects_table := He.noat_ok (c.fact 52 (f := .noat ("Objects" : Str) ("table" : Str)) rfl)
  noat_Objects_next_id := He.noat_ok (c.fact 53 (f := .noat ("Objects" : Str) ("next_id" : Str)) rfl)
  noat_PlainMachine_code := He.noat_ok (c.fact 54 (f := .noat ("PlainMachine" : Str) ("code" : Str)) rfl)
  noat_PlainMachine_objects := He.noat_ok (c.fact 55 (f := .noat ("PlainMachine" : Str) ("objects" : Str)) rfl)
  noat_PlainMachine_scopes := He.noat_ok (c.fact 56 (f := .noat ("PlainMachine" : Str) ("scopes" : Str)) rfl)
  noat_PlainMachine_blocks := He.noat_ok (c.fact 57 (f := .noat ("PlainMachine" : Str) ("blocks" : Str)) rfl)
  noat_PlainMachine_frames := He.noat_ok (c.fact 58 (f := .noat ("PlainMachine" : Str) ("frames" : Str)) rfl)
  noat_PlainMachine_events := He.noat_ok (c.fact 59 (f := .noat ("PlainMachine" : Str) ("events" : Str)) rfl)
  noat_PlainMachine_end := He.noat_ok (c.fact 60 (f := .noat ("PlainMachine" : Str) ("end" : Str)) rfl)
  noat_PlainMachine_ticks := He.noat_ok (c.fact 61 (f := .noat ("PlainMachine" : Str) ("ticks" : Str)) rfl)
  noat_PlainMachine_next_scope := He.noat_ok (c.fact 62 (f := .noat ("PlainMachine" : Str) ("next_scope" : Str)) rfl)
  noat_PlainMachine_next_block := He.noat_ok (c.fact 63 (f := .noat ("PlainMachine" : Str) ("next_block" : Str)) rfl)
  noat_PlainMachine_last_mark := He.noat_ok (c.fact 64 (f := .noat ("PlainMachine" : Str) ("last_mark" : Str)) rfl)
  d_l_draws := c.def_ 0 rfl
  d_l_reader := c.def_ 1 rfl
  d_l_next := c.def_ 2 rfl
  d_Objects_slot := c.def_ 3 rfl
  d_Objects_put := c.def_ 4 rfl
  d_Objects_drop := c.def_ 5 rfl
  d_Objects_assign := c.def_ 6 rfl
  d_Objects_parents := c.def_ 7 rfl
  d_Objects_make := c.def_ 8 rfl
  d_Objects_init := c.def_ 9 rfl
  d_outcome_of := c.def_ 10 rfl
  d_search := c.def_ 11 rfl
  d_Machine_make_scope := c.def_ 12 rfl
  d_is_fast_frame := c.def_ 13 rfl
  d_stack_of := c.def_ 14 rfl
  d_moved := c.def_ 15 rfl
  d_first_values := c.def_ 16 rfl
  d_without_top := c.def_ 17 rfl
  d_method_index := c.def_ 18 rfl
  d_Machine_add_plain_frame := c.def_ 19 rfl
  d_Machine_add_plain_method := c.def_ 20 rfl
  d_Machine_init := c.def_ 21 rfl
  d_search_value := c.def_ 22 rfl
  d_PlainMachine_search_send := c.def_ 23 rfl
  d_PlainMachine_add_method := c.def_ 24 rfl
  d_PlainMachine_tell_change := c.def_ 25 rfl
  d_go_on := c.def_ 26 rfl
  d_push := c.def_ 27 rfl
  d_do_self := c.def_ 28 rfl
  d_do_method := c.def_ 29 rfl
  d_do_put := c.def_ 30 rfl
  d_do_found := c.def_ 31 rfl
  d_do_send := c.def_ 32 rfl
  d_do_row := c.def_ 33 rfl
  d_next_row := c.def_ 34 rfl
  d_PlainMachine_tick := c.def_ 35 rfl
  d_l_chain := c.def_ 36 rfl
  d_l_due := c.def_ 37 rfl
  d_l_is_deep := c.def_ 38 rfl
  d_law := c.def_ 39 rfl
  pk := fun H => tupM_ok (allOf_at c.more 0 rfl) H
  inm_PlainMachine_Machine_make_scope := inhB_ok (allOf_at c.more 1 rfl)
  inm_PlainMachine_Machine_add_plain_frame := inhB_ok (allOf_at c.more 2 rfl)
  inm_PlainMachine_Machine_add_plain_method := inhB_ok (allOf_at c.more 3 rfl)
  sup_PlainMachine := supB_ok (st := s_ts_PlainMachine) (allOf_at c.more 4 rfl) (c.cel 0 rfl) ts_PlainMachine_is pt pf
  exc_RowError := excB_ok (allOf_at c.more 5 rfl)
  dic_STEPS := dicB_ok (allOf_at c.more 6 rfl) (c.dic 0 rfl)
theorem facts {P : Program} {w : World} {K : PySem.W.Frag} {h : Heap} {mg : Str → Option Value} {f : Addr} (X : K.In h) (G : h.Ns mainGlobals mg) (hfa : mg ("law" : Str) = some (.ref f)) (c : SaysG fa fn ce dc ex w K) (pt : (P.main.scope.names.lookup ("super" : Str)).isSome = false) (pf : ((P.main.file : Str) == "/claim/cut.py") = true) :
    ∃ fd : FuncData, (∀ (s : Shared) (v : Value), BindsTo s fd ⟨[v], []⟩ [("script", v)]) ∧ ∀ base : Heap, K.In base → base.Ns mainGlobals mg → FnOk P w K mg base (L2.CX P w) 10 f fd ["script"] (sp_law K) := by
  have T : Txt P w K mg := txt_mk X G c pt pf
  obtain ⟨fd, F⟩ := T.d_law
  have e := hfa.symm.trans (He.glo_ok X G (c.fact 51 (f := .glo "law") rfl))
  cases e
  have b := FunD.bindsA (ps := ["script"]) F fun _ _ _ _ _ _ us hl => match us, hl with | [_], _ => rfl
  refine ⟨fd, fun s v => b s [v] rfl, fun base _ _ => ?_⟩
  exact (ok_law (P := P) (w := w) (base := base) T F).fn
end Rm.K27.W27
open PySem PySem.W PySem.Calls PyProof.Rows
theorem PySem.Challenge.cw_reaimed_k27_long_chains_holds : PySem.Challenge.rw_reaimed_k27_long_chains.Holds := by
  w_on
  o_law
  refine HandSHeadRun.head_any (r := OpenLaw.row PySem.Challenge.rw_reaimed_k27_long_chains) (q := view (OpenLaw.row PySem.Challenge.rw_reaimed_k27_long_chains).prog [79]) (H := Rm.K27.W27.hk) (ob := Rm.K27.W27.ob) (M := 14000)
    (loose := Rm.K27.W27.names) (d := HandSHeadRun.topDef (OpenLaw.row PySem.Challenge.rw_reaimed_k27_long_chains).prog 79) (kwd := []) Rm.K27.W27.ob_eq (by kernel_rfl) (fun _ => by kernel_rfl) Rm.K27.W27.run
    (by kernel_rfl) (by kernel_rfl) (by kernel_rfl) (by rfl) (by first | assumption | decide +kernel) (by decide +kernel) ⟨rfl, rfl, rfl, rfl, rfl, by decide +kernel⟩ ?hw ?hc
  case hw => w_witness2
  case hc =>
    refine Rm.walk_law (l := PySem.Challenge.rw_reaimed_k27_long_chains) (n := 63) (k := 10) (x := "script") rfl (by decide) (by kernel_rfl) ⟨rfl, by decide, by decide⟩ fun w mg fa h Y G hmg0 => ?_
    obtain ⟨K, KX, c⟩ := Y
    have hmg : mg ("law" : PySem.Str) = some (.ref fa) := by
      have e : (HandSHeadRun.topDef (OpenLaw.row PySem.Challenge.rw_reaimed_k27_long_chains).prog 79).name = ("law" : PySem.Str) := by kernel_rfl
      rw [← e]
      exact hmg0
    obtain ⟨fd, hb, hF⟩ := Rm.K27.W27.facts (P := (PySem.Challenge.rw_reaimed_k27_long_chains).prog) (w := w) KX G hmg c (by kernel_rfl) (by kernel_rfl)
    exact ⟨K, fd, _, KX, hb, fun H a ns hl _ hS => ⟨a, ns, rfl, hS, hl, fun _ => rfl⟩, hF⟩
