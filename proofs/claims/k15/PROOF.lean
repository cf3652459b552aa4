import PyProof.Rows.All
import Wide.All
import OpenK.AllK
import Wide.FinOn
import HandS.ForMost
import HandS.ForExc
import HandS.Evl
import HandS.IsInst
import HandS.TupAny
import HandS.TupMul
import HandS.SetKeys
import HandS.Walk
import KE.GoesEnum
import HandS.ExcInit
import HandS.DictComp
import HandS.Zip
import HandS.Conv
import HandS.Style
import HandS.WordsDict
import HandS.Deep
import HandS.Strs
import HandS.Set
import KE.KExcIs
import HandS.Lambda
import HandS.Exc
import HandS.ExcField
import HandS.ExcOwn
import HandS.SetFor
import HandS.Gcd
import HandS.Wide
import HandS.DeepEq
import KE.KSetDisp
import KE.KMathGC
import PyProof.Rows.SortShellAny
import KE.KDictList
import HandS.DictTup
import HandS.SortInts
import PyProof.LongRange
import HandS.TupSets
import HandS.RevRange
import HandS.Small
import HandS.List
import HandS.Comp
import KE.DataMinMax
import KE.SortData
import HandS.NoneIn
import KE.KTupSum
import PySem.Challenge.RW_fullboats_k15_best_numbers
set_option Elab.async false
set_option linter.all false
set_option maxRecDepth 100000
set_option maxHeartbeats 4000000
/-! One rule an operator sign: which of the readings it is, the values tell. -/
namespace FB
open PySem PySem.Spec PyProof.Rows L2 Evl
section
variable {X : Cx}
theorem orOp {f : Value → Value → Sem Value} {r r' : R2} (h : OpR X f r) (h' : OpR X f r') : OpR X f (fun x y H Q => r x y H Q ∨ r' x y H Q) := fun pins s σ H x y v u Q I rx ry q =>
  q.elim (h pins s σ H x y v u Q I rx ry) (h' pins s σ H x y v u Q I rx ry)
theorem orCall {f : Value} {r r' : List V → Hp → VK → Prop} (h : CallR X f r) (h' : CallR X f r') : CallR X f (fun x H Q => r x H Q ∨ r' x H Q) := fun pins s σ H xs us Q I r q =>
  q.elim (h pins s σ H xs us Q I r) (h' pins s σ H xs us Q I r)
def rAddU (K : PySem.W.Frag) : R2 := fun x y H Q => (rI0 (fun i j => .int (i + j)) x y H Q ∨ rCat x y H Q) ∨ rCatA K x y H Q
theorem op_addU {K : PySem.W.Frag} (hK : X.K = K := by rfl) : OpR X (binaryOp .Add) (rAddU K) := by subst hK; exact orOp (orOp op_add op_cat) op_catA
def rMulU (K : PySem.W.Frag) : R2 := fun x y H Q => (rI CMul (fun i j => .int (i * j)) x y H Q ∨ rRep x y H Q) ∨ rRepT K x y H Q
theorem op_mulU {K : PySem.W.Frag} (hK : X.K = K := by rfl) : OpR X (binaryOp .Mult) (rMulU K) := by subst hK; exact orOp (orOp op_mul op_rep) op_repT
def rLtU : R2 := fun x y H Q => rI0 (fun i j => .bl (decide (i < j))) x y H Q ∨ (∃ i j, x = .str i ∧ y = .str j ∧ Q (.bl (decide (i.cps.toList < j.cps.toList))) H)
theorem op_ltU : OpR X (compareOp .Lt) rLtU := orOp op_lt op_lt_str
def rLeU : R2 := fun x y H Q => rI0 (fun i j => .bl (decide (i ≤ j))) x y H Q ∨ (∃ i j, x = .str i ∧ y = .str j ∧ Q (.bl (!decide (j.cps.toList < i.cps.toList))) H)
theorem op_leU : OpR X (compareOp .LtE) rLeU := orOp op_le op_le_str
abbrev rGtU : R2 := rI0 (fun i j => .bl (decide (j < i)))
theorem op_gtU : OpR X (compareOp .Gt) rGtU := op_gt
abbrev rGeU : R2 := rI0 (fun i j => .bl (decide (j ≤ i)))
theorem op_geU : OpR X (compareOp .GtE) rGeU := op_ge
def rEqU (K : PySem.W.Frag) : R2 := fun x y H Q => rEq x y H Q ∨ rEqD K x y H Q
theorem op_eqU {K : PySem.W.Frag} (hu : X.A.units + 64 < cLine) (hK : X.K = K := by rfl) : OpR X (compareOp .Eq) (rEqU K) := by subst hK; exact orOp op_eq (op_eqD hu)
def rNeU (K : PySem.W.Frag) : R2 := fun x y H Q => rNe x y H Q ∨ rNeD K x y H Q
theorem op_neU {K : PySem.W.Frag} (hu : X.A.units + 64 < cLine) (hK : X.K = K := by rfl) : OpR X (compareOp .NotEq) (rNeU K) := by subst hK; exact orOp op_ne (op_neD hu)
def rInU (K : PySem.W.Frag) (P : Program) (w : World) (neg : Bool) : R2 := fun x y H Q => rIn K neg x y H Q ∨ rSInK P w neg x y H Q
theorem op_inU {K : PySem.W.Frag} {P : Program} {w : World} (hK : X.K = K := by rfl) (hP : X.prog = P := by rfl) (hw : X.w = w := by rfl) : OpR X (compareOp .In) (rInU K P w false) := by subst hK hP hw; exact orOp op_in_seq or_sinK
theorem op_notInU {K : PySem.W.Frag} {P : Program} {w : World} (hK : X.K = K := by rfl) (hP : X.prog = P := by rfl) (hw : X.w = w := by rfl) : OpR X (compareOp .NotIn) (rInU K P w true) := by subst hK hP hw; exact orOp op_notIn_seq or_snotinK
theorem ix_U {K : PySem.W.Frag} (hK : X.K = K := by rfl) : IxR X (rIx K) := by subst hK; exact ix_seq
def rLenU (K : PySem.W.Frag) : List V → Hp → VK → Prop := fun xs H Q => ∃ x n, xs = [x] ∧ LenV K x H n ∧ Q (.int (n : Nat)) H
theorem call_lenU {K : PySem.W.Frag} (hK : X.K = K := by rfl) : CallR X (.builtin "len") (rLenU K) := by subst hK; exact call_len
def rIsiU (K : PySem.W.Frag) : List V → Hp → VK → Prop := fun xs H Q => rIsi K xs H Q ∨ rIsiT K xs H Q
theorem call_isiU {K : PySem.W.Frag} (hK : X.K = K := by rfl) : CallR X (.builtin "isinstance") (rIsiU K) := by subst hK; exact orCall call_isi call_isiT
def rIntU : List V → Hp → VK → Prop := fun xs H Q => (∃ i, xs = [.int i] ∧ Q (.int i) H) ∨ ∃ k, xs = [.bl k] ∧ Q (.int (if k then 1 else 0)) H
theorem call_intU : CallR X (.type "int") rIntU := call_int1
def rMaxU : List V → Hp → VK → Prop := fun xs H Q => ∃ i j, xs = [.int i, .int j] ∧ Q (.int (if j > i then j else i)) H
theorem call_maxU (hc : X.calm = true) : CallR X (.builtin "max") rMaxU := call_max2 hc
def rMinU : List V → Hp → VK → Prop := fun xs H Q => ∃ i j, xs = [.int i, .int j] ∧ Q (.int (if j < i then j else i)) H
theorem call_minU (hc : X.calm = true) : CallR X (.builtin "min") rMinU := call_min2 hc
def rListU (K : PySem.W.Frag) : List V → Hp → VK → Prop := fun xs H Q => ∃ p ys, xs = [.ref p] ∧ (SqL K H p ys ∨ SqT K H p ys) ∧ ∀ l, H l = none → Q (.ref l) (upd H l (.lst ys))
theorem call_listU {K : PySem.W.Frag} (hK : X.K = K := by rfl) : CallR X (.type "list") (rListU K) := by subst hK; exact call_list_of
def rTupU (K : PySem.W.Frag) : List V → Hp → VK → Prop := fun xs H Q => ∃ p ys, xs = [.ref p] ∧ ((SqL K H p ys ∧ ∀ l, H l = none → Q (.ref l) (upd H l (.tup ys))) ∨ (SqT K H p ys ∧ Q (.ref p) H))
theorem call_tupU {K : PySem.W.Frag} (hK : X.K = K := by rfl) : CallR X (.type "tuple") (rTupU K) := by subst hK; exact call_tuple_of
end
/-! ### evaluation -/
section
variable {K : PySem.W.Frag} {H H1 H2 : Hp} {Q : VK} {x y v : V} {a b p q l : Addr} {xs ys : List V} {i j : Int} {z z2 : Str} {P : Program} {w : World}
theorem x_addI : rAddU K (.int i) (.int j) H Q ↔ Q (.int (i + j)) H := by
  constructor
  · rintro ((⟨_, _, h1, h2, h⟩ | ⟨_, _, _, _, h1, _⟩) | ⟨_, _, _, _, h1, _⟩)
    · cases h1; cases h2; exact h
    · cases h1
    · cases h1
  · exact fun h => .inl (.inl ⟨i, j, rfl, rfl, h⟩)
theorem x_mulI : rMulU K (.int i) (.int j) H Q ↔ CMul i j ∧ Q (.int (i * j)) H := by
  constructor
  · rintro ((⟨_, _, h1, h2, h3, h⟩ | ⟨_, _, _, h1, _⟩) | ⟨_, _, _, h1, _⟩)
    · cases h1; cases h2; exact ⟨h3, h⟩
    · cases h1
    · cases h1
  · exact fun h => .inl (.inl ⟨i, j, rfl, rfl, h.1, h.2⟩)
theorem x_rI {C : Int → Int → Prop} {g : Int → Int → V} : rI C g (.int i) (.int j) H Q ↔ C i j ∧ Q (g i j) H := by
  constructor
  · rintro ⟨_, _, h1, h2, h3, h⟩
    cases h1; cases h2; exact ⟨h3, h⟩
  · exact fun h => ⟨i, j, rfl, rfl, h.1, h.2⟩
theorem x_rI0 {g : Int → Int → V} : rI0 g (.int i) (.int j) H Q ↔ Q (g i j) H := by
  constructor
  · rintro ⟨_, _, h1, h2, h⟩
    cases h1; cases h2; exact h
  · exact fun h => ⟨i, j, rfl, rfl, h⟩
theorem x_ltI : rLtU (.int i) (.int j) H Q ↔ Q (.bl (decide (i < j))) H := by
  constructor
  · rintro (⟨_, _, h1, h2, h⟩ | ⟨_, _, h1, _⟩)
    · cases h1; cases h2; exact h
    · cases h1
  · exact fun h => .inl ⟨i, j, rfl, rfl, h⟩
theorem x_leI : rLeU (.int i) (.int j) H Q ↔ Q (.bl (decide (i ≤ j))) H := by
  constructor
  · rintro (⟨_, _, h1, h2, h⟩ | ⟨_, _, h1, _⟩)
    · cases h1; cases h2; exact h
    · cases h1
  · exact fun h => .inl ⟨i, j, rfl, rfl, h⟩
theorem x_ltS : rLtU (.str z) (.str z2) H Q ↔ Q (.bl (decide (z.cps.toList < z2.cps.toList))) H := by
  constructor
  · rintro (⟨_, _, h1, _⟩ | ⟨_, _, h1, h2, h⟩)
    · cases h1
    · cases h1; cases h2; exact h
  · exact fun h => .inr ⟨z, z2, rfl, rfl, h⟩
theorem x_leS : rLeU (.str z) (.str z2) H Q ↔ Q (.bl (!decide (z2.cps.toList < z.cps.toList))) H := by
  constructor
  · rintro (⟨_, _, h1, _⟩ | ⟨_, _, h1, h2, h⟩)
    · cases h1
    · cases h1; cases h2; exact h
  · exact fun h => .inr ⟨z, z2, rfl, rfl, h⟩
theorem dp_int {d : PyData} (h : Dp K H (.int i) d) : d = .int i := by cases h; rfl
theorem dp_str {d : PyData} (h : Dp K H (.str z) d) : d = .str z := by cases h; rfl
theorem dp_bl {c : Bool} {d : PyData} (h : Dp K H (.bl c) d) : d = .bool c := by cases h; rfl
theorem eqv_int : PyData.eqv (.int i) (.int j) = decide (V.int i = V.int j) := by
  unfold PyData.eqv
  rw [dec_int]
theorem eqv_str : PyData.eqv (.str z) (.str z2) = decide (V.str z = V.str z2) := by
  unfold PyData.eqv
  rw [dec_str]
theorem eqv_bl {c d : Bool} : PyData.eqv (.bool c) (.bool d) = decide (V.bl c = V.bl d) := by
  unfold PyData.eqv
  rw [dec_bl]
theorem x_eqI : rEqU K (.int i) (.int j) H Q ↔ Q (.bl (decide (i = j))) H := by
  have e0 : decide (V.int i = V.int j) = decide (i = j) := by simp
  constructor
  · rintro (⟨_, h⟩ | ⟨d, e, h1, h2, _, _, h⟩)
    · rw [e0] at h; exact h
    · rw [dp_int h1, dp_int h2, eqv_int, e0] at h; exact h
  · exact fun h => .inl ⟨rfl, by rw [e0]; exact h⟩
theorem x_neI : rNeU K (.int i) (.int j) H Q ↔ Q (.bl (!decide (i = j))) H := by
  have e0 : decide (V.int i = V.int j) = decide (i = j) := by simp
  constructor
  · rintro (⟨_, h⟩ | ⟨d, e, h1, h2, _, _, h⟩)
    · rw [e0] at h; exact h
    · rw [dp_int h1, dp_int h2, eqv_int, e0] at h; exact h
  · exact fun h => .inl ⟨rfl, by rw [e0]; exact h⟩
theorem x_eqS : rEqU K (.str z) (.str z2) H Q ↔ Q (.bl (decide (z = z2))) H := by
  have e0 : decide (V.str z = V.str z2) = decide (z = z2) := by simp
  constructor
  · rintro (⟨_, h⟩ | ⟨d, e, h1, h2, _, _, h⟩)
    · rw [e0] at h; exact h
    · rw [dp_str h1, dp_str h2, eqv_str, e0] at h; exact h
  · exact fun h => .inl ⟨rfl, by rw [e0]; exact h⟩
theorem x_eqB {c d : Bool} : rEqU K (.bl c) (.bl d) H Q ↔ Q (.bl (decide (c = d))) H := by
  have e0 : decide (V.bl c = V.bl d) = decide (c = d) := by simp
  constructor
  · rintro (⟨_, h⟩ | ⟨d, e, h1, h2, _, _, h⟩)
    · rw [e0] at h; exact h
    · rw [dp_bl h1, dp_bl h2, eqv_bl, e0] at h; exact h
  · exact fun h => .inl ⟨rfl, by rw [e0]; exact h⟩
theorem x_neB {c d : Bool} : rNeU K (.bl c) (.bl d) H Q ↔ Q (.bl (!decide (c = d))) H := by
  have e0 : decide (V.bl c = V.bl d) = decide (c = d) := by simp
  constructor
  · rintro (⟨_, h⟩ | ⟨d, e, h1, h2, _, _, h⟩)
    · rw [e0] at h; exact h
    · rw [dp_bl h1, dp_bl h2, eqv_bl, e0] at h; exact h
  · exact fun h => .inl ⟨rfl, by rw [e0]; exact h⟩
def rLst (xs : List V) (H : Hp) (Q : VK) : Prop := xs.length ≤ sizeLine ∧ ∀ p, H p = none → Q (.ref p) (upd H p (.lst xs))
def rTup (xs : List V) (H : Hp) (Q : VK) : Prop := xs.length ≤ sizeLine ∧ ∀ p, H p = none → Q (.ref p) (upd H p (.tup xs))
theorem x_tLst {t : TA} {σ : L2.St} : tLst t σ H Q = t σ H fun xs H1 => rLst xs H1 Q := rfl
theorem x_tTup {t : TA} {σ : L2.St} : tTup t σ H Q = t σ H fun xs H1 => rTup xs H1 Q := rfl
theorem x_new {o : HO} (k : ∀ p H', H p = none → Ex H H' → H' p = some o → Q (.ref p) H') : ∀ p, H p = none → Q (.ref p) (upd H p o) := fun p hp => k p _ hp (Ex.new hp) upd_same
theorem small {n : Nat} (h : n ≤ 1000000) : n ≤ sizeLine := by rw [sizeLine_eq]; omega
theorem x_lst (hl : xs.length ≤ 1000000) (k : ∀ p H', H p = none → Ex H H' → H' p = some (.lst xs) → Q (.ref p) H') : rLst xs H Q := ⟨small hl, x_new k⟩
theorem x_tup (hl : xs.length ≤ 1000000) (k : ∀ p H', H p = none → Ex H H' → H' p = some (.tup xs) → Q (.ref p) H') : rTup xs H Q := ⟨small hl, x_new k⟩
/-! subscripts -/
theorem x_ixL (h : SqL K H p xs) (e : atI xs i = some v) (k : Q v H) : rIx K (.ref p) (.int i) H Q := .inl ⟨p, xs, i, v, rfl, rfl, h, e, k⟩
theorem x_ixT (h : SqT K H p xs) (e : atI xs i = some v) (k : Q v H) : rIx K (.ref p) (.int i) H Q := .inr (.inl ⟨p, xs, i, v, rfl, rfl, h, e, k⟩)
theorem x_cat (h1 : H p = some (.lst xs)) (h2 : H q = some (.lst ys)) (hl : xs.length + ys.length ≤ 1000000) (k : ∀ l H', H l = none → Ex H H' → H' l = some (.lst (xs ++ ys)) → Q (.ref l) H') : rAddU K (.ref p) (.ref q) H Q :=
  .inl (.inr ⟨p, q, xs, ys, rfl, rfl, h1, h2, small hl, x_new k⟩)
theorem x_catT (h1 : SqT K H p xs) (h2 : SqT K H q ys) (hl : xs.length + ys.length ≤ 1000000) (k : ∀ l H', (∀ x o, H x = some o → H' x = some o) → SqT K H' l (xs ++ ys) → Q (.ref l) H') : rAddU K (.ref p) (.ref q) H Q := by
  refine .inr ⟨p, q, xs, ys, rfl, rfl, h1, h2, small hl, fun e => ?_, fun e e2 => ?_, fun e e2 l hl => ?_⟩
  · subst e; exact k q H (fun _ _ h => h) h2
  · subst e2; exact k p H (fun _ _ h => h) (by rw [List.append_nil]; exact h1)
  · exact k l _ (fun x o h => by rw [upd_ne (ne_of_none h hl)]; exact h) (SqT.of upd_same)
theorem x_lenL (h : SqL K H p xs) (k : Q (.int (xs.length : Nat)) H) : rLenU K [V.ref p] H Q := ⟨_, xs.length, rfl, .inl ⟨xs, h, rfl⟩, k⟩
theorem x_lenT (h : SqT K H p xs) (k : Q (.int (xs.length : Nat)) H) : rLenU K [V.ref p] H Q := ⟨_, xs.length, rfl, .inr ⟨xs, h, rfl⟩, k⟩
theorem x_lenS (h : z.length ≤ sizeLine) (k : Q (.int (z.length : Nat)) H) : rLenU K [V.str z] H Q := ⟨_, z.length, rfl, ⟨h, rfl⟩, k⟩
theorem x_int : rIntU [.int i] H Q ↔ Q (.int i) H := by
  constructor
  · rintro (⟨_, h1, h⟩ | ⟨_, h1, _⟩)
    · cases h1; exact h
    · cases h1
  · exact fun h => .inl ⟨_, rfl, h⟩
theorem x_max : rMaxU [.int i, .int j] H Q ↔ Q (.int (if j > i then j else i)) H := by
  constructor
  · rintro ⟨_, _, h1, h⟩
    cases h1; exact h
  · exact fun h => ⟨_, _, rfl, h⟩
theorem x_min : rMinU [.int i, .int j] H Q ↔ Q (.int (if j < i then j else i)) H := by
  constructor
  · rintro ⟨_, _, h1, h⟩
    cases h1; exact h
  · exact fun h => ⟨_, _, rfl, h⟩
theorem x_listL (h : SqL K H p xs) (k : ∀ l H', H l = none → Ex H H' → H' l = some (.lst xs) → Q (.ref l) H') : rListU K [.ref p] H Q := ⟨p, xs, rfl, .inl h, x_new k⟩
theorem x_tupL (h : SqL K H p xs) (k : ∀ l H', H l = none → Ex H H' → H' l = some (.tup xs) → Q (.ref l) H') : rTupU K [.ref p] H Q := ⟨p, xs, rfl, .inl ⟨h, x_new k⟩⟩
theorem x_setL {n : Nat} {k : Hp → Prop} (h : H p = some (.lst xs)) (hj : ixN xs.length i = some n) (q : ∀ H', (∀ x o, x ≠ p → H x = some o → H' x = some o) → H' p = some (.lst (xs.set n v)) → k H') : rSetL (.ref p) (.int i) v H k :=
  ⟨p, xs, i, n, rfl, rfl, h, hj, q _ (fun x o hx e => by rw [upd_ne hx]; exact e) upd_same⟩
theorem ixN_in {n : Nat} {i : Int} (h0 : 0 ≤ i) (h1 : i < n) : ixN n i = some i.toNat := by unfold ixN; rw [if_pos h0, if_pos h1]
theorem atI_in {xs : List V} {i : Int} {v : V} (h0 : 0 ≤ i) (h : xs[i.toNat]? = some v) : atI xs i = some v := by
  have h1 : i.toNat < xs.length := (List.getElem?_eq_some_iff.mp h).1
  unfold atI
  rw [ixN_in h0 (by omega)]
  exact h
theorem x_isiI : rIsiU K [.int i, .ty "str"] H Q ↔ Q (.bl false) H := by
  constructor
  · rintro (⟨x, c, t, u, b, h1, h2, h3, h4, h⟩ | ⟨x, tp, cs, t, us, b, h1, h2⟩)
    · cases h1
      cases h2
      cases h3 with
      | base h3 =>
        cases h3
        have e : PySem.W.kitOne K (.type "int") (.type "str") = some false := by rfl
        rw [e] at h4; cases h4; exact h
    · cases h1
  · exact fun h => .inl ⟨_, _, .type "int", .type "str", false, rfl, .ty _, .base (.int i), rfl, h⟩
theorem x_isiS : rIsiU K [.str z, .ty "str"] H Q ↔ Q (.bl true) H := by
  constructor
  · rintro (⟨x, c, t, u, b, h1, h2, h3, h4, h⟩ | ⟨x, tp, cs, t, us, b, h1, h2⟩)
    · cases h1
      cases h2
      cases h3 with
      | base h3 =>
        cases h3
        have e : PySem.W.kitOne K (.type "str") (.type "str") = some true := by rfl
        rw [e] at h4; cases h4; exact h
    · cases h1
  · exact fun h => .inl ⟨_, _, .type "str", .type "str", true, rfl, .ty _, .base (.str z), rfl, h⟩
end
end FB
/-! Data that never changes: ints, texts, tuples of such. -/
namespace L2
open PySem PySem.Spec PyProof.Rows Evl FB
def isConst : HO → Prop
  | .tup _ => True
  | .frz _ _ => True
  | _ => False
/-- what never changes stands -/
def TX (H H' : Hp) : Prop := ∀ x o, H x = some o → isConst o → H' x = some o
/-- all but what stands at a and b -/
def Ex2 (a b : Addr) (H H' : Hp) : Prop := ∀ x o, H x = some o → x ≠ a → x ≠ b → H' x = some o
section
variable {K : PySem.W.Frag} {H H1 H' : Hp} {a b p x : Addr} {xs ys : List V} {v : V}
theorem TX.refl (H : Hp) : TX H H := fun _ _ h _ => h
theorem TX.trans (e : TX H H1) (f : TX H1 H') : TX H H' := fun x o h c => f x o (e x o h c) c
theorem TX.of (e : Ex H H') : TX H H' := fun x o h _ => e x o h
theorem TX.new {o : HO} (h : H p = none) : TX H (upd H p o) := TX.of (Ex.new h)
theorem TX.but (h : H p = some (.lst xs)) (e : ∀ x o, x ≠ p → H x = some o → H' x = some o) : TX H H' := fun x o hx c => e x o (fun z => by subst z; rw [h] at hx; cases hx; exact c) hx
theorem TX.upd {o : HO} (h : H p = some (.lst xs)) : TX H (upd H p o) := TX.but h fun x u hx e => by rw [upd_ne hx]; exact e
theorem TX.two (h : H a = some (.lst xs)) (h2 : H b = some (.lst ys)) (e : Ex2 a b H H') : TX H H' := fun x o hx c =>
  e x o hx (fun z => by subst z; rw [h] at hx; cases hx; exact c) (fun z => by subst z; rw [h2] at hx; cases hx; exact c)
theorem TX.rd {u : HO} (e : TX H H') (c : isConst u) (h : Rd H a u) : Rd H' a u := by
  rcases h with h | ⟨o, h⟩
  · exact .inl (e a _ h c)
  · exact .inr ⟨o, e a _ h trivial⟩
theorem TX.t (e : TX H H') (h : SqT K H a xs) : SqT K H' a xs := by
  rcases h with h | h
  · exact .inl (e.rd trivial h)
  · exact .inr h
theorem Ex2.refl (H : Hp) : Ex2 a b H H := fun _ _ h _ _ => h
theorem Ex2.of (e : Ex H H') : Ex2 a b H H' := fun x o h _ _ => e x o h
theorem Ex2.trans (e : Ex2 a b H H1) (f : Ex2 a b H1 H') : Ex2 a b H H' := fun x o h ha hb => f x o (e x o h ha hb) ha hb
theorem Ex2.ex (e : Ex2 a b H H1) (f : Ex H1 H') : Ex2 a b H H' := fun x o h ha hb => f x o (e x o h ha hb)
/-- ints, texts, tuples of such -/
inductive TupD : PyData → Prop
  | non : TupD .none
  | bl (b : Bool) : TupD (.bool b)
  | int (i : Int) : TupD (.int i)
  | str (x : Str) : TupD (.str x)
  | tup {ds : List PyData} : (∀ d ∈ ds, TupD d) → TupD (.tuple ds)
theorem TupD.all {ds : List PyData} (h : TupD (.tuple ds)) : ∀ d ∈ ds, TupD d := by
  cases h with
  | tup h => exact h
mutual
theorem Dp.tx (e : TX H H') : ∀ {v : V} {d : PyData}, Dp K H v d → TupD d → Dp K H' v d
  | _, _, .non, _ => .non
  | _, _, .bl b, _ => .bl b
  | _, _, .int i, _ => .int i
  | _, _, .str x, _ => .str x
  | _, _, .lst _ _, t => nomatch t
  | _, _, .tup h hs, .tup hd => .tup (e.t h) (DpAll.tx e hs hd)
theorem DpAll.tx (e : TX H H') : ∀ {vs : List V} {ds : List PyData}, DpAll K H vs ds → (∀ d ∈ ds, TupD d) → DpAll K H' vs ds
  | _, _, .nil, _ => .nil
  | _, _, .cons h hs, t => .cons (Dp.tx e h (t _ (List.mem_cons_self ..))) (DpAll.tx e hs fun d hd => t d (List.mem_cons_of_mem _ hd))
end
mutual
theorem Dp.ex (e : Ex H H') : ∀ {v : V} {d : PyData}, Dp K H v d → Dp K H' v d
  | _, _, .non => .non
  | _, _, .bl b => .bl b
  | _, _, .int i => .int i
  | _, _, .str x => .str x
  | _, _, .lst h hs => .lst (ex_l e h) (DpAll.ex e hs)
  | _, _, .tup h hs => .tup (ex_t e h) (DpAll.ex e hs)
theorem DpAll.ex (e : Ex H H') : ∀ {vs : List V} {ds : List PyData}, DpAll K H vs ds → DpAll K H' vs ds
  | _, _, .nil => .nil
  | _, _, .cons h hs => .cons (Dp.ex e h) (DpAll.ex e hs)
end
theorem Dp.tup_inv {ds : List PyData} (h : Dp K H v (.tuple ds)) : ∃ a xs, v = .ref a ∧ SqT K H a xs ∧ DpAll K H xs ds := by
  cases h with
  | tup h hs => exact ⟨_, _, rfl, h, hs⟩
theorem Dp.int_inv {i : Int} (h : Dp K H v (.int i)) : v = .int i := by cases h; rfl
theorem Dp.str_inv {i : Str} (h : Dp K H v (.str i)) : v = .str i := by cases h; rfl
theorem DpAll.len : ∀ {vs : List V} {ds : List PyData}, DpAll K H vs ds → vs.length = ds.length
  | _, _, .nil => rfl
  | _, _, .cons _ hs => congrArg (· + 1) hs.len
theorem DpAll.get : ∀ {vs : List V} {ds : List PyData} {i : Nat} {d : PyData}, DpAll K H vs ds → ds[i]? = some d → ∃ v, vs[i]? = some v ∧ Dp K H v d
  | _, _, _, _, .nil, e => by simp at e
  | _, _, 0, _, .cons h _, e => by simp at e; subst e; exact ⟨_, rfl, h⟩
  | _, _, i + 1, _, .cons _ hs, e => by
    obtain ⟨v, h1, h2⟩ := DpAll.get (i := i) hs (by simpa using e)
    exact ⟨v, by simpa using h1, h2⟩
theorem DpAll.get' : ∀ {vs : List V} {ds : List PyData} {i : Nat} {v : V}, DpAll K H vs ds → vs[i]? = some v → ∃ d, ds[i]? = some d ∧ Dp K H v d
  | _, _, _, _, .nil, e => by simp at e
  | _, _, 0, _, .cons h _, e => by simp at e; subst e; exact ⟨_, rfl, h⟩
  | _, _, i + 1, _, .cons _ hs, e => by
    obtain ⟨v, h1, h2⟩ := DpAll.get' (i := i) hs (by simpa using e)
    exact ⟨v, by simpa using h1, h2⟩
theorem DpAll.append : ∀ {vs ws : List V} {ds es : List PyData}, DpAll K H vs ds → DpAll K H ws es → DpAll K H (vs ++ ws) (ds ++ es)
  | _, _, _, _, .nil, h => h
  | _, _, _, _, .cons h hs, k => .cons h (hs.append k)
theorem DpAll.take : ∀ {vs : List V} {ds : List PyData} (n : Nat), DpAll K H vs ds → DpAll K H (vs.take n) (ds.take n)
  | _, _, 0, _ => .nil
  | _, _, _ + 1, .nil => .nil
  | _, _, n + 1, .cons h hs => .cons h (hs.take n)
theorem DpAll.drop : ∀ {vs : List V} {ds : List PyData} (n : Nat), DpAll K H vs ds → DpAll K H (vs.drop n) (ds.drop n)
  | _, _, 0, h => h
  | _, _, _ + 1, .nil => .nil
  | _, _, n + 1, .cons _ hs => hs.drop n
end
/-! ### a place, a station, a network -/
abbrev Net := List (List Key)
def keyD : Key → PyData
  | .inl i => .int i
  | .inr x => .str x
def stD (s : List Key) : PyData := .tuple (s.map keyD)
def netD (N : Net) : PyData := .tuple (N.map stD)
section
variable {K : PySem.W.Frag} {H H' : Hp} {v : V}
theorem keyD_t : ∀ k : Key, TupD (keyD k)
  | .inl i => .int i
  | .inr x => .str x
theorem stD_t (s : List Key) : TupD (stD s) := .tup fun d hd => by
  obtain ⟨k, _, rfl⟩ := List.mem_map.mp hd
  exact keyD_t k
theorem netD_t (N : Net) : TupD (netD N) := .tup fun d hd => by
  obtain ⟨k, _, rfl⟩ := List.mem_map.mp hd
  exact stD_t k
theorem key_dp : ∀ k : Key, Dp K H (kV k) (keyD k)
  | .inl i => .int i
  | .inr x => .str x
theorem keys_dp : ∀ s : List Key, DpAll K H (s.map kV) (s.map keyD)
  | [] => .nil
  | k :: s => .cons (key_dp k) (keys_dp s)
theorem dp_key {k : Key} (h : Dp K H v (keyD k)) : v = kV k := by
  cases k with
  | inl i => exact h.int_inv
  | inr x => exact h.str_inv
theorem dp_keys : ∀ {s : List Key} {vs : List V}, DpAll K H vs (s.map keyD) → vs = s.map kV
  | [], _, .nil => rfl
  | k :: s, _, .cons h hs => by rw [dp_key h, dp_keys hs]; rfl
/-- a station of the network stands at v -/
abbrev StAt (K : PySem.W.Frag) (H : Hp) (v : V) (s : List Key) : Prop := Dp K H v (stD s)
abbrev NetAt (K : PySem.W.Frag) (H : Hp) (v : V) (N : Net) : Prop := Dp K H v (netD N)
theorem StAt.at {s : List Key} (h : StAt K H v s) : ∃ a, v = .ref a ∧ SqT K H a (s.map kV) := by
  obtain ⟨a, xs, e, h1, h2⟩ := Dp.tup_inv h
  rw [dp_keys h2] at h1
  exact ⟨a, e, h1⟩
theorem StAt.of {a : Addr} {s : List Key} (h : SqT K H a (s.map kV)) : StAt K H (.ref a) s := .tup h (keys_dp s)
theorem NetAt.at {N : Net} (h : NetAt K H v N) : ∃ a ts, v = .ref a ∧ SqT K H a ts ∧ DpAll K H ts (N.map stD) := Dp.tup_inv h
theorem NetAt.tx {N : Net} (e : TX H H') (h : NetAt K H v N) : NetAt K H' v N := Dp.tx e h (netD_t N)
theorem StAt.tx {s : List Key} (e : TX H H') (h : StAt K H v s) : StAt K H' v s := Dp.tx e h (stD_t s)
end
end L2
/-! Loops and comprehensions, folded. -/
namespace FB
open PySem PySem.Spec PyProof.Rows L2 Evl
/-- a loop's reading -/
def Loop (J : It) (g : TG) (tb : TS) (D : Ends) (σ : L2.St) (H1 : Hp) : Prop := ∃ W : Nat → Nat → L2.St → Hp → Prop, (∃ m, W 0 m σ H1) ∧ ∀ i m σ H, W i m σ H →
  (J.stop i H ∧ D.nx σ H) ∨ (J.go i H ∧ ∃ N : L2.St → Hp → Prop, (∀ σ' H', N σ' H' → ∃ m', m' < m ∧ W (i + 1) m' σ' H') ∧ ∀ x H', J.yld i H x H' → g x σ H' fun σ2 H2 => tb { D with nx := N, ct := N, bk := D.nx } σ2 H2)
theorem x_tFor {wi : TI} {g : TG} {tb : TS} {D : Ends} {σ : L2.St} {H : Hp} : tFor wi g tb D σ H = wi σ H fun J H1 => Loop J g tb D σ H1 := rfl
theorem loop_it {J : It} {n : Nat} {G : Hp → Prop} {Y : Nat → Hp → V → Hp → Prop} {g : TG} {tb : TS} {D : Ends} {σ : L2.St} {H : Hp} (w : Walk J n G Y) (Pv : Nat → L2.St → Hp → Prop) (h0 : Pv 0 σ H) (hG : ∀ i σ H, i ≤ n → Pv i σ H → G H)
    (hs : ∀ i x σ H H', i < n → Pv i σ H → Y i H x H' → g x σ H' fun σ2 H2 => tb { D with nx := Pv (i + 1), ct := Pv (i + 1), bk := D.nx } σ2 H2) (hd : ∀ σ H, Pv n σ H → D.nx σ H) : Loop J g tb D σ H := for_it w Pv h0 hG hs hd
/-- a comprehension's reading -/
def LcL (J : It) (g : TG) (tt : TT) (te : TE) (vs : List Nat) (σ : L2.St) (H1 : Hp) (Q : VK) : Prop := ∀ D, H1 D = none → ∃ W : Nat → Nat → Hp → Prop, (∃ m, W 0 m (upd H1 D (.lst []))) ∧ ∀ i m H, W i m H →
  (J.stop i H ∧ Q (.ref D) H) ∨ (J.go i H ∧ ∃ Nx : Hp → Prop, (∀ H', Nx H' → ∃ m', m' < m ∧ W (i + 1) m' H') ∧ ∀ x H', J.yld i H x H' → g x (wipe σ vs) H' fun σ2 H2 => wipe σ2 vs = wipe σ vs ∧ tt σ2 H2 fun b H3 =>
    if b = true then te σ2 H3 fun y H4 => ∃ acc, H4 D = some (.lst acc) ∧ acc.length < sizeLine ∧ Nx (upd H4 D (.lst (acc ++ [y]))) else Nx H3)
theorem x_tLc {wi : TI} {g : TG} {tt : TT} {te : TE} {vs : List Nat} {σ : L2.St} {H : Hp} {Q : VK} : tLc wi g tt te vs σ H Q = wi σ H fun J H1 => LcL J g tt te vs σ H1 Q := rfl
/-- the item goes to the list at D -/
def Push (D : Addr) (N : Hp → Prop) : VK := fun y H4 => ∃ acc, H4 D = some (.lst acc) ∧ acc.length < sizeLine ∧ N (upd H4 D (.lst (acc ++ [y])))
theorem x_push {D : Addr} {N : Hp → Prop} {y : V} {H : Hp} {acc : List V} (h : H D = some (.lst acc)) (hl : acc.length < 1000000) (k : ∀ H5, (∀ x o, x ≠ D → H x = some o → H5 x = some o) → H5 D = some (.lst (acc ++ [y])) → N H5) : Push D N y H :=
  ⟨acc, h, by rw [sizeLine_eq]; omega, k _ (fun x o hx e => by rw [upd_ne hx]; exact e) upd_same⟩
theorem lcl_it {J : It} {n : Nat} {G : Hp → Prop} {Y : Nat → Hp → V → Hp → Prop} {g : TG} {tt : TT} {te : TE} {vs : List Nat} {σ : L2.St} {H1 : Hp} {Q : VK} (w : Walk J n G Y) (Pv : Addr → Nat → Hp → Prop)
    (h0 : ∀ D H', H1 D = none → Ex H1 H' → H' D = some (.lst []) → Pv D 0 H') (hG : ∀ D i H, i ≤ n → Pv D i H → G H)
    (hs : ∀ D i x H H', H1 D = none → i < n → Pv D i H → Y i H x H' → g x (wipe σ vs) H' fun σ2 H2 => wipe σ2 vs = wipe σ vs ∧ tt σ2 H2 fun b H3 => if b = true then te σ2 H3 (Push D (Pv D (i + 1))) else Pv D (i + 1) H3)
    (hd : ∀ D H, H1 D = none → Pv D n H → Q (.ref D) H) : LcL J g tt te vs σ H1 Q := fun D hD =>
  lc_it w (Pv D) (h0 D _ hD (Ex.new hD) upd_same) (hG D) (fun i x H H' hi p y => hs D i x H H' hD hi p y) (fun H p => hd D H hD p)
section
variable {H : Hp} {p : Addr} {xs : List V} {v : V} {Q : VK}
theorem x_menu {K : PySem.W.Frag} {r : Int} (h : H p = some (.lst xs)) (r0 : 0 ≤ r) (r1 : r < xs.length) (k : ∀ v, xs[r.toNat]? = some v → v ∈ xs → Q v H) : rIx K (.ref p) (.int r) H Q := by
  have hr : r.toNat < xs.length := by omega
  exact x_ixL (SqL.of h) (atI_in r0 (by simp [hr])) (k xs[r.toNat] (by simp [hr]) (List.getElem_mem hr))
theorem x_tyL {K : PySem.W.Frag} (h : SqL K H p xs) : tyV K "list" (.ref p) H := .inl ⟨rfl, xs, h⟩
theorem x_append (h : H p = some (.lst xs)) (hl : xs.length < 1000000) (k : ∀ H', (∀ x o, x ≠ p → H x = some o → H' x = some o) → H' p = some (.lst (xs ++ [v])) → Q .non H') : rAppend (.ref p) [v] H Q :=
  ⟨p, xs, v, rfl, rfl, h, by rw [sizeLine_eq]; omega, k _ (fun x o hx e => by rw [upd_ne hx]; exact e) upd_same⟩
theorem x_never {D : Ends} {σ : L2.St} {H : Hp} : tNever D σ H = False := rfl
/-- a list or a tuple that is read -/
def SqA (K : PySem.W.Frag) (H : Hp) (p : Addr) (xs : List V) : Prop := SqL K H p xs ∨ SqT K H p xs
theorem SqA.ex {K : PySem.W.Frag} {H' : Hp} (h : SqA K H p xs) (e : Ex H H') : SqA K H' p xs := h.elim (fun h => .inl (ex_l e h)) (fun h => .inr (ex_t e h))
theorem x_ixA {K : PySem.W.Frag} {i : Int} (h : SqA K H p xs) (e : atI xs i = some v) (k : Q v H) : rIx K (.ref p) (.int i) H Q := h.elim (fun h => x_ixL h e k) (fun h => x_ixT h e k)
theorem x_lenA {K : PySem.W.Frag} (h : SqA K H p xs) (k : Q (.int (xs.length : Nat)) H) : rLenU K [.ref p] H Q := h.elim (fun h => x_lenL h k) (fun h => x_lenT h k)
theorem x_eqD {K : PySem.W.Frag} {x y : V} {d e : PyData} (h1 : Dp K H x d) (h2 : Dp K H y e) (s1 : SeqAt.shaped d = true) (s2 : SeqAt.shaped e = true) (k : Q (.bl (PyData.eqv d e)) H) : rEqU K x y H Q := .inr ⟨d, e, h1, h2, s1, s2, k⟩
def tyN : PyData → String
  | .none => "NoneType"
  | .bool _ => "bool"
  | .int _ => "int"
  | .str _ => "str"
  | .list _ => "list"
  | .tuple _ => "tuple"
  | .dict _ => "dict"
theorem dp_ty {K : PySem.W.Frag} {d : PyData} (h : Dp K H v d) : TyX K H v (.type (tyN d)) := by
  cases h with
  | non => exact .base .non
  | bl b => exact .base (.bl b)
  | int i => exact .base (.int i)
  | str x => exact .base (.str x)
  | lst h _ =>
    rcases h with (h | ⟨o, h⟩) | ⟨o, its, n, h1, h2, _⟩
    · exact .base (.lst h)
    · exact .base (.frz h)
    · exact .kList h1 h2
  | tup h _ =>
    rcases h with (h | ⟨o, h⟩) | ⟨o, its, n, h1, h2, _⟩
    · exact .base (.tup h)
    · exact .fTuple h
    · exact .kTuple h1 h2
theorem x_isD {K : PySem.W.Frag} {d : PyData} {T : String} {b : Bool} (h : Dp K H v d) (e : PySem.W.kitOne K (.type (tyN d)) (.type T) = some b) (k : Q (.bl b) H) : rIsiU K [v, .ty T] H Q := .inl ⟨_, _, _, _, b, rfl, .ty _, dp_ty h, e, k⟩
theorem x_isD2 {K : PySem.W.Frag} {d : PyData} {A B : String} {b : Bool} {tp : Addr} (h : Dp K H v d) (ht : H tp = some (.tup [.ty A, .ty B])) (e : PySem.W.kitAny K (.type (tyN d)) [.type A, .type B] = some b) (k : Q (.bl b) H) : rIsiU K [v, .ref tp] H Q :=
  .inr ⟨v, tp, [.ty A, .ty B], _, [.type A, .type B], b, rfl, ht, .cons (.ty _) (.cons (.ty _) .nil), dp_ty h, e, k⟩
end
/-- a list, a tuple, a text that is walked -/
def rIter (K : PySem.W.Frag) (x : V) (H : Hp) (R : It → Hp → Prop) : Prop := (∃ a xs, x = .ref a ∧ SqL K H a xs ∧ R (Itl K a) H) ∨ (∃ a xs, x = .ref a ∧ SqT K H a xs ∧ R (Itt K a) H) ∨ (∃ z, x = .str z ∧ R (Its z) H)
def iU (K : PySem.W.Frag) (te : TE) : TI := fun σ H R => te σ H fun x H1 => rIter K x H1 R
theorem pi_U {X : Cx} {tg e : Expr} {te : TE} {K : PySem.W.Frag} (he : PE X e te) (hK : X.K = K := by rfl) : PI X tg e (iU K te) := by
  subst hK
  refine ⟨fun pins s σ H R I h => ?_⟩
  refine thn (he.run pins s σ H _ I h) fun v s1 ⟨x, H1, I1, r1, q1⟩ => ?_
  rcases q1 with ⟨a, xs, e, hq, q⟩ | ⟨a, xs, e, hq, q⟩ | ⟨z, e, q⟩
  · subst e
    cases r1
    obtain ⟨its, rv, p, hz⟩ := I1.list hq
    refine wpAny_pyIter_list p.isList ?_
    refine ⟨s1.heap.objs.size, [s1.heap.objs.size], _, _, H1, rfl, I1.kept (t' := s1.toks) fun b o e => Heap.get?_push_of_some _ e, turn_list a _, ⟨_, Heap.get?_push_size _ rfl, rfl, rfl⟩, fun b hb => ?_, q⟩
    have e : b = s1.heap.objs.size := by simpa using hb
    subst e
    exact I1.fpOk (Nat.le_refl _) (I1.hok.fresh (Nat.le_refl _))
  · subst e
    cases r1
    obtain ⟨its, rv, p, hz⟩ := I1.tuple hq
    refine wpAny_pyIter_tuple (show s1.heap.IsTuple a its.toArray from p) ?_
    refine ⟨s1.heap.objs.size, [s1.heap.objs.size], _, _, H1, rfl, I1.kept (t' := s1.toks) fun b o e => Heap.get?_push_of_some _ e, turn_tuple a _, ⟨_, Heap.get?_push_size _ rfl, rfl, rfl⟩, fun b hb => ?_, q⟩
    have e : b = s1.heap.objs.size := by simpa using hb
    subst e
    exact I1.fpOk (Nat.le_refl _) (I1.hok.fresh (Nat.le_refl _))
  · subst e
    obtain ⟨t, rfl⟩ := r1
    cases ha : z.cps.all (· < 128)
    · exact wpAny_pyIter_wide ha (pi_one (tk := s1.toks) I1 _ (turn_str _ z t "str_iterator" (.inr rfl)) ⟨_, Heap.get?_push_size _ rfl, rfl, rfl⟩ q)
    · exact wpAny_pyIter_ascii ha (pi_one (tk := s1.toks) I1 _ (turn_str _ z t "str_ascii_iterator" (.inl rfl)) ⟨_, Heap.get?_push_size _ rfl, rfl, rfl⟩ q)
theorem x_itL {K : PySem.W.Frag} {H : Hp} {a : Addr} {xs : List V} {R : It → Hp → Prop} (h : SqL K H a xs) (k : R (Itl K a) H) : rIter K (.ref a) H R := .inl ⟨a, xs, rfl, h, k⟩
theorem x_itT {K : PySem.W.Frag} {H : Hp} {a : Addr} {xs : List V} {R : It → Hp → Prop} (h : SqT K H a xs) (k : R (Itt K a) H) : rIter K (.ref a) H R := .inr (.inl ⟨a, xs, rfl, h, k⟩)
theorem x_itS {K : PySem.W.Frag} {H : Hp} {z : Str} {R : It → Hp → Prop} : rIter K (.str z) H R ↔ R (Its z) H := by
  constructor
  · rintro (⟨_, _, e, _⟩ | ⟨_, _, e, _⟩ | ⟨_, e, h⟩)
    · cases e
    · cases e
    · cases e; exact h
  · exact fun h => .inr (.inr ⟨z, rfl, h⟩)
theorem call_allU {X : Cx} (hc : X.calm = true) {K : PySem.W.Frag} (hK : X.K = K := by rfl) : CallR X (.builtin "all") (rAll K) := by subst hK; exact cr_all hc
end FB
/-! enumerate of a tuple. -/
namespace FB
open PySem PySem.Spec PyProof.Rows L2 Evl
/-- one argument: the count begins at 0 -/
theorem meets_enum1 {v : Value} {o : Obj} {W : Heap → Prop} (B : Begins v o W) :
    Meets (Builtin.«enumerate.__new__» ⟨[.type "enumerate", v], []⟩) (fun _ R s => W s.heap ∧
      R (.ok (.ret (.ref (s.heap.push o).objs.size))) { s with heap := (s.heap.push o).push { cls := .type "enumerate", data := .fields #[.none, .bool false, .ref s.heap.objs.size, rawInt 0, .none, .none] } }) := by
  refine .of_wp ?_
  intro prog w A R s hs
  rcases s with ⟨hp, g, d, tk, os⟩
  rcases hs with ⟨h1, h2⟩
  have sub0 := sub_enumerate
  have go : ∀ {A' : Around} {E Q : Value → Shared → Prop}, Q (.ref hp.objs.size) ⟨hp.push o, g, d, tk, os⟩ → wpAny (model prog w) A' (pyIter v) Q E ⟨hp, g, d, tk, os⟩ := by
    intro A' E Q q
    exact B.iter prog w A' E _ Q h1 q
  wp_walk using go
  apply wpAny_stack_any
  intro st
  apply wpAny_pure
  split
  case h_1 c _ _ _ _ _ =>
    by_cases hc : (c == Value.type "enumerate") = true
    all_goals (simp only [hc]; wp_walk using go)
    all_goals exact ⟨_, rfl, h2⟩
  all_goals (wp_walk using go)
  all_goals exact ⟨_, rfl, h2⟩
section
variable {prog : Program} {w : World} {A : Around} {E : Value → Shared → Prop} {s : Shared}
theorem enum_one {v : Value} {o : Obj} {W : Heap → Prop} {Q : Value → Shared → Prop} (B : Begins v o W) (h1 : W s.heap)
    (h : ∀ h', IsEnum h' (s.heap.objs.size + 1) s.heap.objs.size 0 .none → h'.get? s.heap.objs.size = some o → (∀ b u, s.heap.get? b = some u → h'.get? b = some u) → Q (.ref (s.heap.objs.size + 1)) { s with heap := h' }) :
    wpAny (model prog w) A (call (.type "enumerate") [v]) Q E s := by
  have sz : (s.heap.push o).objs.size = s.heap.objs.size + 1 := Heap.size_push ..
  have at1 := Heap.get?_push_size (s.heap.push o) (o := { cls := .type "enumerate", data := .fields #[.none, .bool false, .ref s.heap.objs.size, rawInt 0, .none, .none] }) rfl
  rw [sz] at at1
  have en : IsEnum _ (s.heap.objs.size + 1) s.heap.objs.size 0 .none := at1
  apply callType_new F.called_enumerate (by decide) (F.typeCall_enumerate_1 _) (F.newCall_enumerate_1 _) (fun x => F.args_object_init_2 x _) F.entry_enumerate_new (meets_enum1 B)
  refine ⟨h1, ?_⟩
  rw [sz]
  exact ⟨⟨_, en, rfl⟩, h _ en (Heap.get?_push_of_some _ (Heap.get?_push_size _ B.free)) (fun b u x => Heap.get?_push_of_some _ (Heap.get?_push_of_some _ x))⟩
end
/-- the tuple at a, each item in a new pair with its place -/
def IteT (K : PySem.W.Frag) (a : Addr) : It where
  go := fun i H => ∃ (xs : List V) (x : V), SqT K H a xs ∧ xs[i]? = some x
  yld := fun i H v H' => ∃ T x, v = .ref T ∧ H T = none ∧ H' = upd H T (.tup [.int (i : Nat), x]) ∧ ∀ xs, SqT K H a xs → xs[i]? = some x
  stop := fun i H => ∃ xs : List V, SqT K H a xs ∧ xs.length = i
theorem walk_enumT {K : PySem.W.Frag} {a : Addr} {xs : List V} : Walk (IteT K a) xs.length (fun H => SqT K H a xs) (YPair (fun i => some (.int (i : Nat))) (fun i => xs[i]?)) where
  goes := fun i H hi q => ⟨xs, xs[i], q, by simp [hi]⟩
  stops := fun H q => ⟨xs, q, rfl⟩
  yields := fun i H v H' _ q ⟨T, x, h1, h2, h3, h4⟩ => ⟨T, .int (i : Nat), x, h1, h2, h3, rfl, h4 xs q⟩
/-- the iterator's two objects -/
def EnT (a e it : Addr) (i : Nat) (h : Heap) : Prop := (∃ old, IsEnum h e it ((i : Nat) : Int) old) ∧ h.IsTupleIter it a i ∧ e ≠ it
theorem turn_enumT {P : Program} {w : World} {K : PySem.W.Frag} {elts : List Expr} {kk : Nat} {tpos : Pos} (a e it : Addr) : Turn P w K (.Tuple elts kk tpos) (IteT K a) [e, it] e (EnT a e it) := by
  constructor
  case mem => exact List.mem_cons_self ..
  case obj =>
    rintro i h ⟨⟨old, he⟩, ⟨o, ho, _, hd⟩, _⟩ b hb
    simp only [List.mem_cons, List.not_mem_nil, or_false] at hb
    rcases hb with rfl | rfl
    · exact ⟨_, he, fun v q => nomatch q⟩
    · exact ⟨o, ho, fun v q => by rw [hd] at q; cases q⟩
  case keep =>
    rintro i h h' ⟨⟨old, he⟩, hi, ne⟩ k
    exact ⟨⟨old, k e (by simp) _ he⟩, hi.at (fun o q => k it (by simp) o q), ne⟩
  case self =>
    rintro A i s Q E ⟨⟨old, he⟩, _⟩ h
    exact wpAny_pyIter_enum he h
  case item =>
    rintro X rfl rfl rfl hc i pins s σ H E I hf ⟨⟨old, he⟩, hit, ne⟩ ⟨xs, x, hq, hx⟩
    obtain ⟨its, rv, p, hz⟩ := I.tuple hq
    have p' : s.heap.IsTuple a its.toArray := p
    obtain ⟨u, hu, ru⟩ := rv.get hx
    have hlt : i < its.length := (List.getElem?_eq_some_iff.mp hu).1
    have nai : a ≠ it := by
      rintro rfl
      obtain ⟨o1, e1, c1, _⟩ := p'
      obtain ⟨o2, e2, c2, _⟩ := hit
      rw [e1] at e2
      cases e2
      rw [c1] at c2
      exact absurd c2 (by decide)
    have nea : e ≠ a := by
      rintro rfl
      obtain ⟨o1, e1, c1, _⟩ := p'
      have e2 : s.heap.get? e = some _ := he
      rw [e1] at e2
      cases e2
      have c : Value.type "enumerate" = Value.type "tuple" := c1
      exact absurd c (by decide)
    have hh : X.A.in1.handled = none := I.ok.hd hc
    have le : e < s.heap.objs.size := Heap.lt_size he
    have li : it < s.heap.objs.size := by
      obtain ⟨_, q, _⟩ := hit
      exact Heap.lt_size q
    have ez : ((i + 1 : Nat) : Int) = (i : Int) + 1 := by omega
    refine wpAny_pyNext_enum_itemC (Draws.tuple hh it a nai its.toArray) he ⟨hit, p'⟩ (by simpa using hlt) ne (by simp [ne, nea]) ?_
    intro y h' tk hy ho hst hT _ hk
    obtain rfl : y = u := by
      have : its[i]? = some y := by simpa using hy
      rw [hu] at this
      exact (Option.some.inj this).symm
    refine ⟨_, rfl, wpAny_letOwnedTupleGo_enum (s := { s with heap := h', toks := tk + 1 }) ho ?_⟩
    intro h2 he2 sb
    have hT2 : h2.get? s.heap.objs.size = some { cls := .type "tuple", data := .seq #[.int i tk, y] } := (sb.2 _ (Nat.ne_of_gt le)).trans hT
    have mk : ObjOk X.prog X.w (upd H s.heap.objs.size (.tup [.int (i : Nat), x])) h2 s.heap.objs.size (.tup [.int (i : Nat), x]) :=
      ⟨small (n := 2) (by omega), [.int i tk, y], .cons ⟨tk, rfl⟩ (.cons ru .nil), ⟨_, hT2, rfl, _, rfl⟩⟩
    have J : Inv X pins σ (upd H s.heap.objs.size (.tup [.int (i : Nat), x])) { s with heap := h2, toks := tk + 1 } := by
      refine I.turnedNew (ch := [e, it]) (fun b ob hb q => ?_) hf (Nat.le_refl _) mk
      simp only [List.mem_cons, List.not_mem_nil, or_false, not_or] at hb
      exact (sb.2 b hb.1).trans (hk b ob hb.1 hb.2 q)
    refine ⟨.ref s.heap.objs.size, _, J, rfl, ⟨_, x, rfl, I.hok.fresh (Nat.le_refl _), rfl, fun ys hy => by rw [I.tuple_inj hy hq]; exact hx⟩, ⟨⟨y, ?_⟩, hst.1.at (fun o q => (sb.2 it ne.symm).trans q), ne⟩, fun b hb => ?_⟩
    · rw [ez]
      exact he2
    · have lb : b < s.heap.objs.size := by
        simp only [List.mem_cons, List.not_mem_nil, or_false] at hb
        rcases hb with rfl | rfl
        · exact le
        · exact li
      rw [upd_ne (Nat.ne_of_lt lb)]
      exact (hf b hb).1
  case done =>
    rintro X rfl rfl rfl hc i pins s σ H E I hf ⟨⟨old, he⟩, hit, ne⟩ ⟨xs, hq, hx⟩
    obtain ⟨its, rv, p, hz⟩ := I.tuple hq
    have p' : s.heap.IsTuple a its.toArray := p
    have hlen := rv.length
    have hh : X.A.in1.handled = none := I.ok.hd hc
    have nai : a ≠ it := by
      rintro rfl
      obtain ⟨o1, e1, c1, _⟩ := p'
      obtain ⟨o2, e2, c2, _⟩ := hit
      rw [e1] at e2
      cases e2
      rw [c1] at c2
      exact absurd c2 (by decide)
    have hi : its.toArray.size = i := by rw [List.size_toArray, ← hlen, hx]
    obtain ⟨f0, f1, f2, f3, f4, f5⟩ := hf it (by simp)
    refine wpAny_pyNext_enum_endD (Draws.tuple hh it a nai its.toArray) he (by rw [hi]; exact ⟨hit, p'⟩) ?_
    intro h' eb
    exact ⟨rfl, I.turned (t' := s.toks) (fun b o hb q => eb b o hb q) f0 f1 f3 f4 f5⟩
def iEnumT (K : PySem.W.Frag) (ta : TA) : TI := fun σ H R => ta σ H fun vs H1 => ∃ a xs, vs = [.ref a] ∧ SqT K H1 a xs ∧ R (IteT K a) H1
theorem pi_enumT {X : Cx} {e : Expr} {ta : TA} {p pos tpos : Pos} {elts : List Expr} {kk : Nat} {K : PySem.W.Frag} (hg : Gl X "enumerate") (hm : X.mg "enumerate" = none) (ha : PA X [e] ta) (hK : X.K = K := by rfl) (hs : starEach [e] X.env = [(false, eval e X.env)] := by rfl) :
    PI X (.Tuple elts kk tpos) (.Call (.Name "enumerate" p) [e] [] pos) (iEnumT K ta) := by
  subst hK
  constructor
  intro pins s σ H R I h
  apply Call_ (ld_blt I hg hm boot_enumerate (PyProof.Rows.callWith_type1 (thn (ha.run pos pins s σ H _ I h) ?_) hs rfl))
  rintro us s1 ⟨vs, H1, I1, r1, a, xs, rfl, hq, q⟩
  cases r1 with
  | cons r rr =>
    cases rr
    cases r
    obtain ⟨its, rv, p', hz⟩ := I1.tuple hq
    refine enum_one (begins_tuple a its.toArray) p' fun h' he hit hk => wpAny_pyIter_enum he ?_
    have I2 : Inv X pins σ H1 { s1 with heap := h' } := I1.kept (t' := s1.toks) hk
    refine ⟨s1.heap.objs.size + 1, [s1.heap.objs.size + 1, s1.heap.objs.size], _, _, H1, rfl, I2, turn_enumT a (s1.heap.objs.size + 1) s1.heap.objs.size, ⟨⟨.none, he⟩, ⟨_, hit, rfl, rfl⟩, Nat.succ_ne_self _⟩, fun b hb => ?_, q⟩
    have le : s1.heap.objs.size ≤ b := by
      simp only [List.mem_cons, List.not_mem_nil, or_false] at hb
      rcases hb with rfl | rfl
      · exact Nat.le_succ _
      · exact Nat.le_refl _
    exact I1.fpOk le (I1.hok.fresh le)
section
variable {K : PySem.W.Frag} {H : Hp} {σ : L2.St}
theorem x_rU {g : Int → V} {i : Int} {Q : VK} : rU g (.int i) H Q ↔ Q (g i) H := by
  constructor
  · rintro ⟨_, h1, h⟩
    cases h1; exact h
  · exact fun h => ⟨i, rfl, h⟩
theorem x_two {n i j : Nat} {T : Addr} {x y : V} {Q : L2.St → Hp → Prop} (h : SqT K H T [x, y]) (k : Q ((σ.set i (some x)).set j (some y)) H) (hn : n = 2 := by rfl) : gTup K n (gCons (gName i) (gCons (gName j) gNil)) (.ref T) σ H Q := by
  subst hn
  exact ⟨T, _, rfl, h, rfl, x, [y], rfl, y, [], rfl, rfl, k⟩
end
/-- C(..), its __init__ keeping sp -/
def rMk (C : Addr) (sp : Sp) (dvs vs : List V) (H1 : Hp) (Q : XK) : Prop := vs.length ≤ 1000 ∧ ∀ a, H1 a = none → sp (.ref a :: (vs ++ dvs)) (upd H1 a (exo a C none))
  (fun v H2 => v = .non ∧ ∃ (d : Addr) (fs : List (Str × V)), H2 a = some (exo a C (some d)) ∧ H2 d = some (exd d fs) ∧ H1 d = none ∧ Q (.ref C) (some d) (upd (del H2 a) d (.xd fs))) (fun _ _ _ => False)
theorem x_tMkO {C : Addr} {sp : Sp} {dvs : List V} {ta : TA} {σ : L2.St} {H : Hp} {Q : XK} : tMkO C sp dvs ta σ H Q = ta σ H fun vs H1 => rMk C sp dvs vs H1 Q := rfl
end FB
/-! Dicts: made by a comprehension, walked, asked, filled; sets; zip of tuples. -/
namespace FB
open PySem PySem.Spec PyProof.Rows L2 Evl
section
variable {X : Cx}
/-- the value is locked from here on -/
def tLockV (t : TE) : TE := fun σ H Q => t σ H fun x H1 => ∃ d u, x = .ref d ∧ H1 d = some u ∧ Mut (some u) ∧ ∀ od, Q x (upd H1 d (.frz od u))
/-- name = {..} on one line, the name a local -/
theorem ps_setDc {i : Nat} {y : Str} {py : Pos} {kx vx tg iter : Expr} {ifs : List Expr} {scope : Scope} {own : List (Str × Nat)} {pos spos : Pos} {wi : TI} {g : TG} {tt : TT} {tk tv : TE} (hc : X.calm = true) (hN : X.N.Nodup) (hy : X.N[i]? = some y) (hyl : X.env.scope.names.lookup y = some .local)
    (hsw : swapsWith (.DictComp kx vx [⟨tg, iter, ifs, 0⟩] scope pos) (some (.Name y py)) spos.line X.env = pure true) (hi : PI X tg iter wi) (ok : BlkOk X.N X.env.scope scope own)
    (hg : ∀ (s : Shared) (H : Hp) (C : Addr) (cl : List (Str × Addr)) (fp : List Addr), PG (X.blk s H scope (compEnvC scope cl C X.env) fp) tg g) (ht : ∀ (s : Shared) (H : Hp) (C : Addr) (cl : List (Str × Addr)) (fp : List Addr), PTs (X.blk s H scope (compEnvC scope cl C X.env) fp) ifs tt)
    (hk : ∀ (s : Shared) (H : Hp) (C : Addr) (cl : List (Str × Addr)) (fp : List Addr), PE (X.blk s H scope (compEnvC scope cl C X.env) fp) kx tk)
    (he : ∀ (s : Shared) (H : Hp) (C : Addr) (cl : List (Str × Addr)) (fp : List Addr), PE (X.blk s H scope (compEnvC scope cl C X.env) fp) vx tv) (hs : ∀ x, foldedSetIterable iter X.env x = pure x := by intro _; rfl) :
    PS X (.Assign [.Name y py] (.DictComp kx vx [⟨tg, iter, ifs, 0⟩] scope pos) spos) (tAsg (tDc wi g tt tk tv (own.map (·.2))) (gName i)) := by
  refine ⟨fun pins s σ H D I h => ?_⟩
  rw [exec_Assign_Name_used _ _ _ _ hsw]
  refine wpAny_bind (wpAny_standAt (wpAny_bind ?_))
  show wpAny _ X.A (do let _ ← comprehension (.DictComp kx vx [⟨tg, iter, ifs, 0⟩] scope pos) scope X.env (firstIterPos [⟨tg, iter, ifs, 0⟩] pos) newDict false (eval iter X.env) (some (assign (.Name y py) X.env))) _ _ s
  have h : tDc wi g tt tk tv (own.map (·.2)) σ H (fun x H1 => gName i x σ H1 D.nx) := h
  refine wpAny_bind (thn (dc_core (Qf := fun _ s' => SP X pins D .next s') hc hN I hi ok hg ht hk he hs h fun L C s' m H' I' q hn f => ?_) fun _ s' hq => wpAny_pure (wpAny_pure hq))
  show wpAny _ _ (assign (.Name y py) X.env (.ref L)) _ _ _
  refine wpAny_assign_Name (store_ok2 (v := V.ref L) I' hN hy (.inl hyl) rfl (fun s2 I2 ⟨a, sb, ha⟩ => ?_) (.inr hyl))
  obtain ⟨f0, f1, f2, f3, f4, f5⟩ := f
  have haC : C ≠ a := by
    rcases ha with z | z
    · rw [z]; exact f1
    · exact fun e => f4 y a z e.symm
  refine ⟨m, hn.sameBut sb haC, fun h3 sb3 => ?_⟩
  exact ⟨_, H', I2.turned (t' := s2.toks) (fun b o hb e => (sb3.2 b hb).trans e) f0 f1 f3 f4 f5, q⟩
theorem sw_trueD {kx vx : Expr} {gs : List Comprehension} {scope : Scope} {pos py : Pos} {y : Str} {l : Nat} {env : Env} (hk : env.scope.kind = .function) (hy : env.scope.names.lookup y = some .local) (hl : (py.line == pos.line) = true)
    (ha : (scope.names.any fun (n, k) => n == y && (k == .local || k == .cell)) = false) : swapsWith (.DictComp kx vx gs scope pos) (some (.Name y py)) l env = pure true := by
  have ky : env.kindOf y = some .local := hy
  have hb : env.blockKind = .function := by unfold Env.blockKind; rw [hk]; rfl
  unfold swapsWith
  simp only [hb, ky, ha, Expr.pos, hl]
  rfl
end
/-- a dict comprehension's reading -/
def DcL (J : It) (g : TG) (tt : TT) (tk tv : TE) (vs : List Nat) (σ : L2.St) (H1 : Hp) (Q : VK) : Prop := ∀ D, H1 D = none → ∃ W : Nat → Nat → Hp → Prop, (∃ m, W 0 m (upd H1 D (.dK []))) ∧ ∀ i m H, W i m H →
  (J.stop i H ∧ Q (.ref D) H) ∨ (J.go i H ∧ ∃ Nx : Hp → Prop, (∀ H', Nx H' → ∃ m', m' < m ∧ W (i + 1) m' H') ∧ ∀ x H', J.yld i H x H' → g x (wipe σ vs) H' fun σ2 H2 => wipe σ2 vs = wipe σ vs ∧ tt σ2 H2 fun b H3 =>
    if b = true then tk σ2 H3 fun y H4 => tv σ2 H4 fun z H5 => ∃ kvs k, y = kV k ∧ H5 D = some (.dK kvs) ∧ kvs.length < sizeLine ∧ Nx (upd H5 D (.dK (putK kvs k z))) else Nx H3)
theorem x_tDc {wi : TI} {g : TG} {tt : TT} {tk tv : TE} {vs : List Nat} {σ : L2.St} {H : Hp} {Q : VK} : tDc wi g tt tk tv vs σ H Q = wi σ H fun J H1 => DcL J g tt tk tv vs σ H1 Q := rfl
/-- the item goes to the dict at D -/
def PutD (D : Addr) (N : Hp → Prop) (y : V) : VK := fun z H5 => ∃ kvs k, y = kV k ∧ H5 D = some (.dK kvs) ∧ kvs.length < sizeLine ∧ N (upd H5 D (.dK (putK kvs k z)))
theorem x_putD {D : Addr} {N : Hp → Prop} {k : Key} {z : V} {H : Hp} {kvs : List (Key × V)} (h : H D = some (.dK kvs)) (hl : kvs.length < 1000000) (q : ∀ H5, (∀ x o, x ≠ D → H x = some o → H5 x = some o) → H5 D = some (.dK (putK kvs k z)) → N H5) : PutD D N (kV k) z H :=
  ⟨kvs, k, rfl, h, by rw [sizeLine_eq]; omega, q _ (fun x o hx e => by rw [upd_ne hx]; exact e) upd_same⟩
theorem dcl_it {J : It} {n : Nat} {G : Hp → Prop} {Y : Nat → Hp → V → Hp → Prop} {g : TG} {tt : TT} {tk tv : TE} {vs : List Nat} {σ : L2.St} {H1 : Hp} {Q : VK} (w : Walk J n G Y) (Pv : Addr → Nat → Hp → Prop)
    (h0 : ∀ D H', H1 D = none → Ex H1 H' → H' D = some (.dK []) → Pv D 0 H') (hG : ∀ D i H, i ≤ n → Pv D i H → G H)
    (hs : ∀ D i x H H', H1 D = none → i < n → Pv D i H → Y i H x H' → g x (wipe σ vs) H' fun σ2 H2 => wipe σ2 vs = wipe σ vs ∧ tt σ2 H2 fun b H3 => if b = true then tk σ2 H3 fun y H4 => tv σ2 H4 (PutD D (Pv D (i + 1)) y) else Pv D (i + 1) H3)
    (hd : ∀ D H, H1 D = none → Pv D n H → Q (.ref D) H) : DcL J g tt tk tv vs σ H1 Q := fun D hD => by
  refine ⟨fun i m H => m = n - i ∧ i ≤ n ∧ Pv D i H, ⟨n, by simp, Nat.zero_le _, h0 D _ hD (Ex.new hD) upd_same⟩, ?_⟩
  rintro i m H ⟨rfl, hi, p⟩
  have q := hG D i H hi p
  by_cases hlt : i < n
  · exact .inr ⟨w.goes i H hlt q, Pv D (i + 1), fun H' p' => ⟨n - (i + 1), by omega, rfl, hlt, p'⟩, fun x H' y => hs D i x H H' hD hlt p (w.yields i H x H' hlt q y)⟩
  · have e : i = n := by omega
    subst e
    exact .inl ⟨w.stops H q, hd D H hD p⟩
section
variable {K : PySem.W.Frag} {H H' : Hp} {a b d p : Addr} {kvs : List (Key × V)} {k : Key} {v : V} {Q : VK} {xs ys : List V}
theorem x_lock {t : TE} {σ : L2.St} {u : HO} (h : H d = some u) (mu : Mut (some u)) (q : ∀ od H1, (∀ x o, x ≠ d → H x = some o → H1 x = some o) → (∀ x, x ≠ d → H1 x = none → H x = none) → H1 d = some (.frz od u) → t σ H1 fun v H' => H' d = some (.frz od u) ∧ Q v (upd H' d u)) : tLockE t σ H Q :=
  ⟨d, u, h, mu, fun od => q od _ (fun x o hx e => by rw [upd_ne hx]; exact e) (fun x hx e => by rw [upd_ne hx] at e; exact e) upd_same⟩
def rLockV (x : V) (H : Hp) (Q : VK) : Prop := ∃ d u, x = .ref d ∧ H d = some u ∧ Mut (some u) ∧ ∀ od, Q x (upd H d (.frz od u))
theorem x_tLockV {t : TE} {σ : L2.St} : tLockV t σ H Q = t σ H fun x H1 => rLockV x H1 Q := rfl
/-- d[k] -/
def rDGet (x y : V) (H : Hp) (Q : VK) : Prop := ∃ a v, x = .ref a ∧ DGet H a y (some v) ∧ Q v H
theorem x_tDGet {td ty : TE} {σ : L2.St} : tDGet td ty σ H Q = td σ H fun x H1 => ty σ H1 fun y H2 => rDGet x y H2 Q := rfl
theorem x_dget (h : H a = some (.dK kvs)) (e : valV kvs k = some v) (q : Q v H) : rDGet (.ref a) (kV k) H Q := ⟨a, v, rfl, by rw [← e]; exact DGet.k h, q⟩
/-- d.get(k, z) -/
def rDGet2 (a : Addr) (y z : V) (H : Hp) (Q : VK) : Prop := ∃ o, DGet H a y o ∧ Q (o.getD z) H
theorem x_tDGet2 {td ty tx : TE} {σ : L2.St} : tDGet2 td ty tx σ H Q = td σ H fun x H1 => ∃ a, x = .ref a ∧ IsD H1 a ∧ ty σ H1 fun y H2 => tx σ H2 fun z H3 => rDGet2 a y z H3 Q := rfl
theorem isD_k (h : H a = some (.dK kvs)) : IsD H a := .inl ⟨kvs, .inl h⟩
theorem x_dget2 {z : V} (h : H a = some (.dK kvs)) (q : Q ((valV kvs k).getD z) H) : rDGet2 a (kV k) z H Q := ⟨_, DGet.k h, q⟩
/-- d[k] = v -/
def rDPut (x y v : V) (H : Hp) (N : Hp → Prop) : Prop := ∃ a H4, x = .ref a ∧ DPut H a y v H4 ∧ N H4
theorem x_sDPut {td ty tv : TE} {σ : L2.St} {D : Ends} : sDPut td ty tv D σ H = tv σ H fun v H1 => td σ H1 fun x H2 => ty σ H2 fun y H3 => rDPut x y v H3 (D.nx σ) := rfl
theorem x_dput {N : Hp → Prop} (h : H a = some (.dK kvs)) (hl : kvs.length < 1000000) (q : ∀ H1, (∀ x o, x ≠ a → H x = some o → H1 x = some o) → (∀ x, x ≠ a → H1 x = none → H x = none) → H1 a = some (.dK (putK kvs k v)) → N H1) : rDPut (.ref a) (kV k) v H N :=
  ⟨a, _, rfl, DPut.k h (by rw [sizeLine_eq]; omega), q _ (fun x o hx e => by rw [upd_ne hx]; exact e) (fun x hx e => by rw [upd_ne hx] at e; exact e) upd_same⟩
/-- d.setdefault(k, z) -/
def rDSetd (a : Addr) (y z : V) (H : Hp) (Q : VK) : Prop := ∃ (kvs : List (Key × V)) (k : Key), H a = some (.dK kvs) ∧ y = kV k ∧ kvs.length < sizeLine ∧ (∀ v, valV kvs k = some v → Q v H) ∧ (valV kvs k = none → Q z (upd H a (.dK (putK kvs k z))))
theorem x_tDSetd {td ty tx : TE} {σ : L2.St} : tDSetd td ty tx σ H Q = td σ H fun x H1 => ∃ a, x = .ref a ∧ IsD H1 a ∧ ty σ H1 fun y H2 => tx σ H2 fun z H3 => rDSetd a y z H3 Q := rfl
theorem x_dsetd {z : V} (h : H a = some (.dK kvs)) (hl : kvs.length < 1000000) (q : ∀ v, valV kvs k = some v → Q v H)
    (q2 : valV kvs k = none → ∀ H1, (∀ x o, x ≠ a → H x = some o → H1 x = some o) → (∀ x, x ≠ a → H1 x = none → H x = none) → H1 a = some (.dK (putK kvs k z)) → Q z H1) : rDSetd a (kV k) z H Q :=
  ⟨kvs, k, h, rfl, by rw [sizeLine_eq]; omega, q, fun e => q2 e _ (fun x o hx e => by rw [upd_ne hx]; exact e) (fun x hx e => by rw [upd_ne hx] at e; exact e) upd_same⟩
/-- {} -/
def rDNew (H : Hp) (Q : VK) : Prop := ∀ p, H p = none → Q (.ref p) (upd H p (.dK []))
theorem x_tDNewK {σ : L2.St} : tDNewK σ H Q = rDNew H Q := rfl
theorem x_dnew (q : ∀ p H', H p = none → Ex H H' → H' p = some (.dK []) → Q (.ref p) H') : rDNew H Q := x_new q
/-- items of a locked dict -/
def rItems (x : V) (H : Hp) (R : It → Hp → Prop) : Prop := ∃ d o kvs, x = .ref d ∧ H d = some (.frz o (.dK kvs)) ∧ R (Iti d o kvs) H
theorem x_iItems {td : TE} {σ : L2.St} {R : It → Hp → Prop} : iItems td σ H R = td σ H fun x H1 => rItems x H1 R := rfl
theorem x_items {o : Obj} {R : It → Hp → Prop} (h : H d = some (.frz o (.dK kvs))) (q : R (Iti d o kvs) H) : rItems (.ref d) H R := ⟨d, o, kvs, rfl, h, q⟩
/-- tuple(range(i, j)) -/
def rTupRg (i j : Int) (H : Hp) (Q : VK) : Prop := RgOk i j ∧ ∀ q, H q = none → Q (.ref q) (upd H q (.tup (rgV i j)))
theorem x_tTupRg {te : L2.St → Hp → (Int → Int → Hp → Prop) → Prop} {σ : L2.St} : tTupRg te σ H Q = te σ H fun i j H1 => rTupRg i j H1 Q := rfl
theorem x_tRg2 {ta tb : TE} {σ : L2.St} {R : Int → Int → Hp → Prop} : tRg2 ta tb σ H R = ta σ H fun x H1 => tb σ H1 fun y H2 => ∃ i j, x = .int i ∧ y = .int j ∧ R i j H2 := rfl
theorem x_tupRg {i j : Int} (h : RgOk i j) (q : ∀ t H', H t = none → Ex H H' → H' t = some (.tup (rgV i j)) → Q (.ref t) H') : rTupRg i j H Q := ⟨h, x_new q⟩
theorem x_sum {ns : List Int} (h : SqL K H a (ns.map V.int)) (q : Q (.int ns.sum) H) : rSum K [.ref a] H Q := ⟨a, ns, rfl, h, q⟩
theorem walk_zipT (hn : xs.length = ys.length) : Walk (RZ.ItzT K a b) xs.length (fun H => SqT K H a xs ∧ SqT K H b ys) (YPair (fun i => xs[i]?) (fun i => ys[i]?)) := by
  refine ⟨fun i _ hi q => ?_, fun _ q => ⟨xs, ys, q.1, q.2, by omega⟩, fun i H v H' _ q y => ?_⟩
  · have h2 : i < ys.length := by omega
    exact ⟨xs, ys, xs[i], ys[i], q.1, q.2, by simp [hi], by simp [h2]⟩
  · obtain ⟨T, x, z, h1, h2, h3, h4, h5⟩ := y
    exact ⟨T, x, z, h1, h2, h3, h4 xs q.1, h5 ys q.2⟩
def rZip (K : PySem.W.Frag) (vs : List V) (H : Hp) (R : It → Hp → Prop) : Prop := ∃ a b xs ys, vs = [.ref a, .ref b] ∧ ((SqL K H a xs ∧ SqL K H b ys ∧ R (Itz K a b) H) ∨ (SqT K H a xs ∧ SqT K H b ys ∧ R (RZ.ItzT K a b) H))
theorem x_iZip {ta : TA} {σ : L2.St} {R : It → Hp → Prop} : RZ.iZipA K ta σ H R = ta σ H fun vs H1 => rZip K vs H1 R := rfl
theorem x_zipT {R : It → Hp → Prop} (h1 : SqT K H a xs) (h2 : SqT K H b ys) (q : R (RZ.ItzT K a b) H) : rZip K [.ref a, .ref b] H R := ⟨a, b, xs, ys, rfl, .inr ⟨h1, h2, q⟩⟩
end
end FB
/-! The seats of a network's first stations, and who feeds a place. -/
namespace FB
open PySem PySem.Spec PyProof.Rows L2 Evl
/-- a seat: its station, and where it leads -/
abbrev Seats := List (Nat × Key)
def stSeats (k : Nat) (s : List Key) : Seats := s.map fun p => (k, p)
/-- the seats of the first k stations -/
def seatsOf (N : Net) : Nat → Seats
  | 0 => []
  | k + 1 => seatsOf N k ++ stSeats k (N.getD k [])
/-- what f gives for the seats that lead to q -/
def toQ (f : Nat → Int) (q : Key) : Seats → Int
  | [] => 0
  | (i, p) :: r => (if p = q then f i else 0) + toQ f q r
theorem toQ_append {f : Nat → Int} {q : Key} : ∀ {a b : Seats}, toQ f q (a ++ b) = toQ f q a + toQ f q b
  | [], b => by simp [toQ]
  | (i, p) :: r, b => by
    show (if p = q then f i else 0) + toQ f q (r ++ b) = (if p = q then f i else 0) + toQ f q r + toQ f q b
    rw [toQ_append]; omega
theorem toQ_nil {f : Nat → Int} {q : Key} : ∀ {a : Seats}, (∀ s ∈ a, s.2 ≠ q) → toQ f q a = 0
  | [], _ => rfl
  | (i, p) :: r, h => by
    show (if p = q then f i else 0) + toQ f q r = 0
    rw [if_neg (h (i, p) (List.mem_cons_self ..)), toQ_nil fun s hs => h s (List.mem_cons_of_mem _ hs)]
    rfl
theorem toQ_congr {f g : Nat → Int} {q : Key} : ∀ {a : Seats}, (∀ s ∈ a, s.2 = q → f s.1 = g s.1) → toQ f q a = toQ g q a
  | [], _ => rfl
  | (i, p) :: r, h => by
    show (if p = q then f i else 0) + toQ f q r = (if p = q then g i else 0) + toQ g q r
    rw [toQ_congr fun s hs => h s (List.mem_cons_of_mem _ hs)]
    by_cases e : p = q
    · rw [if_pos e, if_pos e, h (i, p) (List.mem_cons_self ..) e]
    · rw [if_neg e, if_neg e]
theorem mem_seatsOf {N : Net} {i : Nat} {q : Key} : ∀ {k : Nat}, (i, q) ∈ seatsOf N k ↔ i < k ∧ q ∈ N.getD i []
  | 0 => by simp [seatsOf]
  | k + 1 => by
    show (i, q) ∈ seatsOf N k ++ stSeats k (N.getD k []) ↔ _
    rw [List.mem_append, mem_seatsOf]
    have e : (i, q) ∈ stSeats k (N.getD k []) ↔ i = k ∧ q ∈ N.getD k [] := by
      unfold stSeats
      rw [List.mem_map]
      constructor
      · rintro ⟨p, hp, e⟩
        cases e
        exact ⟨rfl, hp⟩
      · rintro ⟨rfl, h⟩
        exact ⟨q, h, rfl⟩
    rw [e]
    constructor
    · rintro (⟨h1, h2⟩ | ⟨rfl, h2⟩)
      · exact ⟨by omega, h2⟩
      · exact ⟨by omega, h2⟩
    · rintro ⟨h1, h2⟩
      by_cases z : i = k
      · subst z; exact .inr ⟨rfl, h2⟩
      · exact .inl ⟨by omega, h2⟩
theorem seatsOf_len {N : Net} (h : ∀ s ∈ N, s.length ≤ 8) : ∀ k, (seatsOf N k).length ≤ 8 * k
  | 0 => by simp [seatsOf]
  | k + 1 => by
    show (seatsOf N k ++ stSeats k (N.getD k [])).length ≤ _
    rw [List.length_append]
    have h1 := seatsOf_len h k
    have h2 : (stSeats k (N.getD k [])).length ≤ 8 := by
      unfold stSeats
      rw [List.length_map, List.getD_eq_getElem?_getD]
      cases e : N[k]? with
      | none => simp
      | some s => exact h s (List.mem_of_getElem? e)
    omega
/-! ### a place's feeders -/
abbrev Cnt := List (Nat × Int)
def cntV (G : Cnt) : List (Key × V) := G.map fun g => (.inl (g.1 : Int), .int g.2)
def cntQ (f : Nat → Int) : Cnt → Int
  | [] => 0
  | (i, c) :: r => c * f i + cntQ f r
def getC (i : Nat) : Cnt → Int
  | [] => 0
  | (j, c) :: r => if j = i then c else getC i r
def bump (i : Nat) : Cnt → Cnt
  | [] => [(i, 1)]
  | (j, c) :: r => if j = i then (j, c + 1) :: r else (j, c) :: bump i r
theorem cntQ_bump {f : Nat → Int} {i : Nat} : ∀ {G : Cnt}, cntQ f (bump i G) = cntQ f G + f i
  | [] => by simp [bump, cntQ]
  | (j, c) :: r => by
    unfold bump
    by_cases e : j = i
    · rw [if_pos e]
      show (c + 1) * f j + cntQ f r = c * f j + cntQ f r + f i
      rw [e, Int.add_mul]; omega
    · rw [if_neg e]
      show c * f j + cntQ f (bump i r) = c * f j + cntQ f r + f i
      rw [cntQ_bump]; omega
theorem val_cntV {i : Nat} : ∀ {G : Cnt}, (valV (cntV G) (.inl (i : Int))).getD (.int 0) = .int (getC i G)
  | [] => rfl
  | (j, c) :: r => by
    show (valV ((.inl (j : Int), .int c) :: cntV r) (.inl (i : Int))).getD (.int 0) = .int (if j = i then c else getC i r)
    by_cases e : j = i
    · subst e
      rw [if_pos rfl, valV_pos rfl]; rfl
    · rw [if_neg e, valV_neg (by show ¬ (Sum.inl (j : Int) : Key) = Sum.inl (i : Int); intro z; exact e (by have := Sum.inl.inj z; omega)), val_cntV]
theorem any_cntV {i : Nat} : ∀ {G : Cnt}, ((cntV G).any fun kv => decide (kv.1 = (.inl (i : Int) : Key))) = true ↔ i ∈ G.map (·.1)
  | [] => by simp [cntV]
  | (j, c) :: r => by
    show (decide ((Sum.inl (j : Int) : Key) = Sum.inl (i : Int)) || (cntV r).any fun kv => decide (kv.1 = (.inl (i : Int) : Key))) = true ↔ i ∈ j :: r.map (·.1)
    rw [Bool.or_eq_true, any_cntV, List.mem_cons, decide_eq_true_eq]
    constructor
    · rintro (h | h)
      · exact .inl (by have := Sum.inl.inj h; omega)
      · exact .inr h
    · rintro (h | h)
      · exact .inl (by rw [h])
      · exact .inr h
theorem getC_not {i : Nat} : ∀ {G : Cnt}, ¬ i ∈ G.map (·.1) → getC i G = 0
  | [], _ => rfl
  | (j, c) :: r, h => by
    rw [List.map_cons, List.mem_cons, not_or] at h
    show (if j = i then c else getC i r) = 0
    rw [if_neg (fun z => h.1 z.symm), getC_not h.2]
theorem bump_not {i : Nat} : ∀ {G : Cnt}, ¬ i ∈ G.map (·.1) → bump i G = G ++ [(i, 1)]
  | [], _ => rfl
  | (j, c) :: r, h => by
    rw [List.map_cons, List.mem_cons, not_or] at h
    show (if j = i then _ else _) = _
    rw [if_neg (fun z => h.1 z.symm), bump_not h.2]; rfl
theorem map_not {i : Nat} {y : V} : ∀ {G : Cnt}, ¬ i ∈ G.map (·.1) → (cntV G).map (fun kv => if kv.1 = (.inl (i : Int) : Key) then (kv.1, y) else kv) = cntV G
  | [], _ => rfl
  | (j, c) :: r, h => by
    rw [List.map_cons, List.mem_cons, not_or] at h
    show (if (Sum.inl (j : Int) : Key) = Sum.inl (i : Int) then _ else _) :: (cntV r).map _ = _ :: cntV r
    rw [if_neg (fun z => h.1 (by have := Sum.inl.inj z; omega)), map_not h.2]
theorem put_cntV {i : Nat} : ∀ {G : Cnt}, (G.map (·.1)).Nodup → putK (cntV G) (.inl (i : Int)) (.int (getC i G + 1)) = cntV (bump i G)
  | G, nd => by
    unfold putK
    by_cases h : i ∈ G.map (·.1)
    · rw [if_pos (any_cntV.mpr h)]
      induction G with
      | nil => simp at h
      | cons g r ih =>
        obtain ⟨j, c⟩ := g
        rw [List.map_cons, List.nodup_cons] at nd
        by_cases e : j = i
        · subst e
          show (if (Sum.inl (j : Int) : Key) = Sum.inl (j : Int) then ((Sum.inl (j : Int) : Key), V.int (getC j ((j, c) :: r) + 1)) else _) :: (cntV r).map _ = cntV (if j = j then _ else _)
          rw [if_pos rfl, if_pos rfl, map_not nd.1]
          show (_, V.int ((if j = j then c else getC j r) + 1)) :: _ = _
          rw [if_pos rfl]; rfl
        · rw [List.map_cons, List.mem_cons] at h
          have hr : i ∈ r.map (·.1) := h.resolve_left fun z => e z.symm
          show (if (Sum.inl (j : Int) : Key) = Sum.inl (i : Int) then _ else ((Sum.inl (j : Int) : Key), V.int c)) :: (cntV r).map (fun kv => if kv.1 = (.inl (i : Int) : Key) then (kv.1, V.int ((if j = i then c else getC i r) + 1)) else kv) = cntV (if j = i then _ else _)
          rw [if_neg (fun z => e (by have := Sum.inl.inj z; omega)), if_neg e, if_neg e, ih nd.2 hr]; rfl
    · rw [if_neg (fun z => h (any_cntV.mp z)), bump_not h, getC_not h]
      simp [cntV]
theorem bump_keys {i j : Nat} : ∀ {G : Cnt}, j ∈ (bump i G).map (·.1) ↔ j = i ∨ j ∈ G.map (·.1)
  | [] => by simp [bump]
  | (l, c) :: r => by
    unfold bump
    by_cases e : l = i
    · subst e
      rw [if_pos rfl]
      simp
    · rw [if_neg e, List.map_cons, List.mem_cons, bump_keys, List.map_cons, List.mem_cons]
      constructor
      · rintro (h | h | h)
        · exact .inr (.inl h)
        · exact .inl h
        · exact .inr (.inr h)
      · rintro (h | h | h)
        · exact .inr (.inl h)
        · exact .inl h
        · exact .inr (.inr h)
theorem bump_nd {i : Nat} : ∀ {G : Cnt}, (G.map (·.1)).Nodup → ((bump i G).map (·.1)).Nodup
  | [], _ => by simp [bump]
  | (l, c) :: r, nd => by
    rw [List.map_cons, List.nodup_cons] at nd
    unfold bump
    by_cases e : l = i
    · rw [if_pos e, List.map_cons, List.nodup_cons]
      exact nd
    · rw [if_neg e, List.map_cons, List.nodup_cons]
      refine ⟨fun z => ?_, bump_nd nd.2⟩
      rcases bump_keys.mp z with h | h
      · exact e h
      · exact nd.1 h
theorem bump_le {i : Nat} {b : Int} : ∀ {G : Cnt}, (∀ g ∈ G, 0 < g.2 ∧ g.2 ≤ b) → 0 ≤ b → ∀ g ∈ bump i G, 0 < g.2 ∧ g.2 ≤ b + 1
  | [], _, h0, g, hg => by
    have e : g = (i, 1) := by simpa [bump] using hg
    rw [e]; exact ⟨by show (0 : Int) < 1; decide, by show (1 : Int) ≤ b + 1; omega⟩
  | (l, c) :: r, h, h0, g, hg => by
    have hr : ∀ g ∈ r, 0 < g.2 ∧ g.2 ≤ b := fun g hg => h g (List.mem_cons_of_mem _ hg)
    have hc := h (l, c) (List.mem_cons_self ..)
    unfold bump at hg
    by_cases e : l = i
    · rw [if_pos e] at hg
      rcases List.mem_cons.mp hg with rfl | hg
      · exact ⟨by show 0 < c + 1; have := hc.1; omega, by show c + 1 ≤ b + 1; have := hc.2; omega⟩
      · have := hr g hg; exact ⟨this.1, by omega⟩
    · rw [if_neg e] at hg
      rcases List.mem_cons.mp hg with rfl | hg
      · exact ⟨hc.1, by have := hc.2; omega⟩
      · exact bump_le hr h0 g hg
theorem bump_len {i : Nat} : ∀ {G : Cnt}, (bump i G).length ≤ G.length + 1
  | [] => by simp [bump]
  | (l, c) :: r => by
    unfold bump
    by_cases e : l = i
    · rw [if_pos e]; simp
    · rw [if_neg e]
      have := @bump_len i r
      simp; omega
/-! ### dicts as functions -/
theorem putK_keys {kvs : List (Key × V)} {k : Key} {v : V} (nd : (kvs.map (·.1)).Nodup) : ((putK kvs k v).map (·.1)).Nodup := by
  unfold putK
  by_cases h : (kvs.any fun kv => decide (kv.1 = k)) = true
  · rw [if_pos h, List.map_map]
    have e : kvs.map ((·.1) ∘ fun kv => if kv.1 = k then (kv.1, v) else kv) = kvs.map (·.1) := List.map_congr_left fun a _ => by
      show (if a.1 = k then (a.1, v) else a).1 = a.1
      split <;> rfl
    rw [e]; exact nd
  · rw [if_neg h, List.map_append]
    refine nd_snoc nd fun z => h ?_
    obtain ⟨p, hp, e⟩ := List.mem_map.mp z
    exact List.any_eq_true.mpr ⟨p, hp, decide_eq_true e⟩
theorem val_of_mem : ∀ {kvs : List (Key × V)} {k : Key} {v : V}, (kvs.map (·.1)).Nodup → (k, v) ∈ kvs → valV kvs k = some v
  | p :: r, k, v, nd, h => by
    rw [List.map_cons, List.nodup_cons] at nd
    rcases List.mem_cons.mp h with e | h
    · rw [← e, valV_pos rfl]
    · rw [valV_neg (fun z => nd.1 (by rw [z]; exact List.mem_map.mpr ⟨_, h, rfl⟩)), val_of_mem nd.2 h]
theorem sq_but {K : PySem.W.Frag} {H H1 : Hp} {b d : Addr} {xs : List V} {kvs : List (Key × V)} (h : SqL K H b xs) (hd : H d = some (.dK kvs)) (e : ∀ x o, x ≠ d → H x = some o → H1 x = some o) : SqL K H1 b xs := by
  rcases h with (h | ⟨o, h⟩) | h
  · exact .inl (.inl (e _ _ (ne_of h hd (fun z => by cases z)) h))
  · exact .inl (.inr ⟨o, e _ _ (ne_of h hd (fun z => by cases z)) h⟩)
  · exact .inr h
/-- the dict at D with the feeders of all places, n stations given and the seats of L counted; H0: ahead of it all -/
structure Feed (H0 H : Hp) (D : Addr) (n : Nat) (L : Seats) (A : Key → Option Addr) (G : Key → Cnt) (kvs : List (Key × V)) : Prop where
  nd : (kvs.map (·.1)).Nodup
  val : ∀ q, valV kvs q = (A q).map V.ref
  inj : ∀ q q' a, A q = some a → A q' = some a → q = q'
  ne : ∀ q a, A q = some a → a ≠ D
  inn : ∀ q a, A q = some a → H a = some (.dK (cntV (G q)))
  new : ∀ q a, A q = some a → H0 a = none
  newD : H0 D = none
  keys : ∀ q, (A q).isSome = true ↔ (∃ i : Nat, i < n ∧ q = .inl (i : Int)) ∨ ∃ i, (i, q) ∈ L
  sum : ∀ q f, cntQ f (G q) = toQ f q L
  mem : ∀ q g, g ∈ G q → (g.1, q) ∈ L
  le : ∀ q, ∀ g ∈ G q, 0 < g.2 ∧ g.2 ≤ (L.length : Int)
  ndG : ∀ q, ((G q).map (·.1)).Nodup
  len : kvs.length ≤ n + L.length
  lenG : ∀ q, (G q).length ≤ L.length
  ex : Ex H0 H
section
variable {H0 H H2 : Hp} {D z : Addr} {n i : Nat} {L : Seats} {A : Key → Option Addr} {G : Key → Cnt} {kvs : List (Key × V)} {p : Key}
theorem Feed.empty (F : Feed H0 H D n L A G kvs) (h : A p = none) : G p = [] := by
  cases e : G p with
  | nil => rfl
  | cons g r =>
    have := (F.keys p).mpr (.inr ⟨g.1, F.mem p g (by rw [e]; exact List.mem_cons_self ..)⟩)
    rw [h] at this; cases this
/-- the heap may grow and change elsewhere -/
theorem Feed.but (F : Feed H0 H D n L A G kvs) (e : ∀ x o, H0 x = some o → H2 x = some o) (k : ∀ q a, A q = some a → H2 a = H a) : Feed H0 H2 D n L A G kvs :=
  { F with inn := fun q a h => by rw [k q a h]; exact F.inn q a h, ex := e }
theorem Feed.ex2 (F : Feed H0 H D n L A G kvs) (e : Ex H H2) : Feed H0 H2 D n L A G kvs :=
  { F with inn := fun q a h => e _ _ (F.inn q a h), ex := F.ex.trans e }
/-- one station more in the dict, nobody leads there yet -/
theorem Feed.key (F : Feed H0 H D i [] A G kvs) (hz : H0 z = none) (hzD : z ≠ D) (hzA : ∀ q a, A q = some a → a ≠ z) (h2 : ∀ x o, x ≠ D → H x = some o → H2 x = some o) (h3 : H2 z = some (.dK [])) :
    Feed H0 H2 D (i + 1) [] (fun q => if q = .inl (i : Int) then some z else A q) G (putK kvs (.inl (i : Int)) (.ref z)) where
  nd := putK_keys F.nd
  val := fun q => by
    rw [valV_put, F.val]
    by_cases e : q = .inl (i : Int)
    · rw [if_pos e, if_pos e]; rfl
    · rw [if_neg e, if_neg e]
  inj := fun q q' a h h' => by
    by_cases e : q = .inl (i : Int)
    · rw [if_pos e] at h
      by_cases e' : q' = .inl (i : Int)
      · rw [e, e']
      · rw [if_neg e'] at h'
        exact absurd (Option.some.inj h).symm (hzA _ _ h')
    · rw [if_neg e] at h
      by_cases e' : q' = .inl (i : Int)
      · rw [if_pos e'] at h'
        exact absurd (Option.some.inj h').symm (hzA _ _ h)
      · rw [if_neg e'] at h'
        exact F.inj q q' a h h'
  ne := fun q a h => by
    by_cases e : q = .inl (i : Int)
    · rw [if_pos e] at h; rw [← Option.some.inj h]; exact hzD
    · rw [if_neg e] at h; exact F.ne q a h
  inn := fun q a h => by
    by_cases e : q = .inl (i : Int)
    · rw [if_pos e] at h; rw [← Option.some.inj h, h3]
      have : G q = [] := by
        cases e2 : G q with
        | nil => rfl
        | cons g r =>
          have := F.mem q g (by rw [e2]; exact List.mem_cons_self ..)
          simp at this
      rw [this]; rfl
    · rw [if_neg e] at h; exact h2 _ _ (F.ne q a h) (F.inn q a h)
  new := fun q a h => by
    by_cases e : q = .inl (i : Int)
    · rw [if_pos e] at h; rw [← Option.some.inj h]; exact hz
    · rw [if_neg e] at h; exact F.new q a h
  newD := F.newD
  keys := fun q => by
    by_cases e : q = .inl (i : Int)
    · rw [if_pos e]
      exact ⟨fun _ => .inl ⟨i, by omega, e⟩, fun _ => rfl⟩
    · rw [if_neg e, F.keys q]
      constructor
      · rintro (⟨j, hj, h⟩ | h)
        · exact .inl ⟨j, by omega, h⟩
        · exact .inr h
      · rintro (⟨j, hj, h⟩ | h)
        · by_cases z : j = i
          · rw [z] at h; exact absurd h e
          · exact .inl ⟨j, by omega, h⟩
        · exact .inr h
  sum := F.sum
  mem := F.mem
  le := F.le
  ndG := F.ndG
  len := by
    have := length_putK kvs (.inl (i : Int)) (.ref z)
    have := F.len
    simp at *
    omega
  lenG := F.lenG
  ex := fun x o h => h2 x o (ne_of_none h F.newD) (F.ex x o h)
theorem Feed.start (h : H0 D = none) (e : Ex H0 H) : Feed H0 H D 0 [] (fun _ => none) (fun _ => []) [] where
  nd := List.nodup_nil
  val := fun q => rfl
  inj := fun _ _ _ h => nomatch h
  ne := fun _ _ h => nomatch h
  inn := fun _ _ h => nomatch h
  new := fun _ _ h => nomatch h
  newD := h
  keys := fun q => by simp
  sum := fun q f => rfl
  mem := fun _ _ h => by simp at h
  le := fun _ _ h => by simp at h
  ndG := fun _ => List.nodup_nil
  len := by simp
  lenG := fun _ => by simp
  ex := e
/-- a seat more: z is its place's dict, old or new -/
theorem Feed.seat (F : Feed H0 H D n L A G kvs) (hz : A p = some z ∨ (A p = none ∧ H0 z = none ∧ z ≠ D ∧ ∀ q a, A q = some a → a ≠ z)) (h2 : ∀ x o, x ≠ D → x ≠ z → H x = some o → H2 x = some o) (h3 : H2 z = some (.dK (cntV (bump i (G p))))) :
    Feed H0 H2 D n (L ++ [(i, p)]) (fun q => if q = p then some z else A q) (fun q => if q = p then bump i (G p) else G q) (if A p = none then putK kvs p (.ref z) else kvs) := by
  have hzD : z ≠ D := by
    rcases hz with h | h
    · exact F.ne _ _ h
    · exact h.2.2.1
  have hz0 : H0 z = none := by
    rcases hz with h | h
    · exact F.new _ _ h
    · exact h.2.1
  have hzA : ∀ q a, q ≠ p → A q = some a → a ≠ z := fun q a hq h => by
    rcases hz with h' | h'
    · intro e; subst e; exact hq (F.inj _ _ _ h h')
    · exact h'.2.2.2 q a h
  have pos : 0 ≤ (L.length : Int) := by omega
  refine { nd := ?_, val := fun q => ?_, inj := fun q q' a h h' => ?_, ne := fun q a h => ?_, inn := fun q a h => ?_, new := fun q a h => ?_, newD := F.newD, keys := fun q => ?_, sum := fun q f => ?_, mem := fun q g hg => ?_, le := fun q g hg => ?_, ndG := fun q => ?_, len := ?_, lenG := fun q => ?_, ex := fun x o h => h2 x o (ne_of_none h F.newD) (ne_of_none h hz0) (F.ex x o h) }
  · split
    · exact putK_keys F.nd
    · exact F.nd
  · by_cases e : q = p
    · subst e
      rw [if_pos rfl]
      rcases hz with h | h
      · rw [if_neg (by rw [h]; simp), F.val, h]
      · rw [if_pos h.1, valV_put, if_pos rfl]; rfl
    · rw [if_neg e]
      split
      · rw [valV_put, if_neg e]; exact F.val q
      · exact F.val q
  · by_cases e : q = p
    · by_cases e' : q' = p
      · rw [e, e']
      · rw [if_pos e] at h
        rw [if_neg e'] at h'
        exact absurd (Option.some.inj h).symm (hzA _ _ e' h')
    · rw [if_neg e] at h
      by_cases e' : q' = p
      · rw [if_pos e'] at h'
        exact absurd (Option.some.inj h').symm (hzA _ _ e h)
      · rw [if_neg e'] at h'
        exact F.inj q q' a h h'
  · by_cases e : q = p
    · rw [if_pos e] at h; rw [← Option.some.inj h]; exact hzD
    · rw [if_neg e] at h; exact F.ne q a h
  · by_cases e : q = p
    · rw [if_pos e] at h; rw [← Option.some.inj h, if_pos e]; exact h3
    · rw [if_neg e] at h
      rw [if_neg e]
      exact h2 _ _ (F.ne q a h) (hzA q a e h) (F.inn q a h)
  · by_cases e : q = p
    · rw [if_pos e] at h; rw [← Option.some.inj h]; exact hz0
    · rw [if_neg e] at h; exact F.new q a h
  · by_cases e : q = p
    · rw [if_pos e]
      refine ⟨fun _ => .inr ⟨i, ?_⟩, fun _ => rfl⟩
      rw [e]; simp
    · rw [if_neg e, F.keys q]
      constructor
      · rintro (h | ⟨j, h⟩)
        · exact .inl h
        · exact .inr ⟨j, List.mem_append_left _ h⟩
      · rintro (h | ⟨j, h⟩)
        · exact .inl h
        · rcases List.mem_append.mp h with h | h
          · exact .inr ⟨j, h⟩
          · have : (j, q) = (i, p) := by simpa using h
            exact absurd (Prod.mk.inj this).2 e
  · rw [toQ_append]
    show cntQ f (if q = p then bump i (G p) else G q) = toQ f q L + ((if p = q then f i else 0) + 0)
    by_cases e : q = p
    · subst e
      rw [if_pos rfl, if_pos rfl, cntQ_bump, F.sum]; omega
    · rw [if_neg e, if_neg (fun z => e z.symm), F.sum]; omega
  · by_cases e : q = p
    · rw [if_pos e] at hg
      have hk : g.1 ∈ (bump i (G p)).map (·.1) := List.mem_map.mpr ⟨g, hg, rfl⟩
      rcases bump_keys.mp hk with h | h
      · rw [h, e]; simp
      · obtain ⟨g', hg', e'⟩ := List.mem_map.mp h
        have := F.mem p g' hg'
        rw [e', ← e] at this
        exact List.mem_append_left _ this
    · rw [if_neg e] at hg
      exact List.mem_append_left _ (F.mem q g hg)
  · have hl : ((L ++ [(i, p)]).length : Int) = L.length + 1 := by simp
    rw [hl]
    by_cases e : q = p
    · rw [if_pos e] at hg
      exact bump_le (F.le p) pos g hg
    · rw [if_neg e] at hg
      have := F.le q g hg
      exact ⟨this.1, by omega⟩
  · by_cases e : q = p
    · rw [if_pos e]; exact bump_nd (F.ndG p)
    · rw [if_neg e]; exact F.ndG q
  · rw [List.length_append]
    have := F.len
    split
    · have := length_putK kvs p (.ref z)
      simp; omega
    · simp; omega
  · rw [List.length_append]
    have h1 := F.lenG q
    have h2 := F.lenG p
    have h3 := @bump_len i (G p)
    by_cases e : q = p
    · rw [if_pos e]; simp; omega
    · rw [if_neg e]; simp; omega
end
/-! ### states -/
def qD (q : List Int) : PyData := .tuple (q.map PyData.int)
def qsD (qs : List (List Int)) : PyData := .tuple (qs.map qD)
def stateD (p : Int) (qs : List (List Int)) : PyData := .tuple [.int p, qsD qs]
theorem qD_t (q : List Int) : TupD (qD q) := .tup fun d hd => by
  obtain ⟨k, _, rfl⟩ := List.mem_map.mp hd
  exact .int k
theorem qsD_t (qs : List (List Int)) : TupD (qsD qs) := .tup fun d hd => by
  obtain ⟨k, _, rfl⟩ := List.mem_map.mp hd
  exact qD_t k
theorem stateD_t (p : Int) (qs : List (List Int)) : TupD (stateD p qs) := .tup fun d hd => by
  simp only [List.mem_cons, List.not_mem_nil, or_false] at hd
  rcases hd with rfl | rfl
  · exact .int p
  · exact qsD_t qs
theorem ints_dp {K : PySem.W.Frag} {H : Hp} : ∀ q : List Int, DpAll K H (q.map V.int) (q.map PyData.int)
  | [] => .nil
  | i :: q => .cons (.int i) (ints_dp q)
theorem dp_ints {K : PySem.W.Frag} {H : Hp} : ∀ {q : List Int} {vs : List V}, DpAll K H vs (q.map PyData.int) → vs = q.map V.int
  | [], _, .nil => rfl
  | i :: q, _, .cons h hs => by rw [h.int_inv, dp_ints hs]; rfl
theorem q_at {K : PySem.W.Frag} {H : Hp} {v : V} {q : List Int} (h : Dp K H v (qD q)) : ∃ a, v = .ref a ∧ SqT K H a (q.map V.int) := by
  obtain ⟨a, xs, e, h1, h2⟩ := Dp.tup_inv h
  rw [dp_ints h2] at h1
  exact ⟨a, e, h1⟩
theorem qs_at {K : PySem.W.Frag} {H : Hp} {v : V} {qs : List (List Int)} (h : Dp K H v (qsD qs)) : ∃ a ts, v = .ref a ∧ SqT K H a ts ∧ DpAll K H ts (qs.map qD) := Dp.tup_inv h
theorem state_at {K : PySem.W.Frag} {H : Hp} {v : V} {p : Int} {qs : List (List Int)} (h : Dp K H v (stateD p qs)) : ∃ a u, v = .ref a ∧ SqT K H a [.int p, u] ∧ Dp K H u (qsD qs) := by
  obtain ⟨a, xs, e, h1, h2⟩ := Dp.tup_inv h
  cases h2 with
  | cons h hs =>
    cases hs with
    | cons h' hs =>
      cases hs
      rw [h.int_inv] at h1
      exact ⟨a, _, e, h1, h'⟩
/-- the queues of a network's stations -/
structure StOk (N : Net) (p : Int) (qs : List (List Int)) : Prop where
  pos : 1 ≤ p
  len : qs.length = N.length
  lt : ∀ (k : Nat) q s, qs[k]? = some q → N[k]? = some s → q.length < s.length
  nd : qs.flatten.Nodup
  rng : ∀ x ∈ qs.flatten, 1 ≤ x ∧ x < p
/-! ### sets -/
section
variable {K : PySem.W.Frag} {P : Program} {w : World} {H : Hp} {Q : VK} {p : Addr} {S : Key → Bool} {n : Nat} {k : Key}
theorem x_tSAddK {to : TE} {t : TA} {σ : L2.St} : tSAddK P w to t σ H Q = to σ H fun x H1 => (∃ a S n, x = V.ref a ∧ H1 a = some (SetK P w a S n)) ∧ t σ H1 fun xs H2 => rSAddK P w x xs H2 Q := rfl
theorem x_set0 (q : ∀ p H', H p = none → Ex H H' → H' p = some (SetK P w p (fun _ => false) 0) → Q (.ref p) H') : rSet0K P w [] H Q := ⟨rfl, fun p hp => q p _ hp (Ex.new hp) upd_same⟩
theorem x_inS (h : H p = some (SetK P w p S n)) (q : Q (.bl (S k)) H) : rInU K P w false (kV k) (.ref p) H Q := .inr ⟨k, p, S, n, rfl, rfl, h, q⟩
theorem x_sadd (h : H p = some (SetK P w p S n)) (hn : n ≤ 1000) (q : ∀ H' m, (∀ x o, x ≠ p → H x = some o → H' x = some o) → m ≤ n + 1 → H' p = some (SetK P w p (fun j => S j || decide (j = k)) m) → Q .non H') : rSAddK P w (.ref p) [kV k] H Q :=
  ⟨p, k, S, n, rfl, rfl, h, by have : (1002 : Nat) ≤ scanBound := by decide +kernel
                               omega, q _ _ (fun x o hx e => by rw [upd_ne hx]; exact e) (by split <;> omega) upd_same⟩
end
end FB
/-! Sorted texts; flat data. -/
namespace FB
open PySem PySem.Spec PyProof.Rows L2 Evl
theorem depthAll_le {m : Nat} : ∀ {ds : List PyData}, (∀ d ∈ ds, d.depth ≤ m) → PyData.depthAll ds ≤ m
  | [], _ => by simp [PyData.depthAll]
  | d :: r, h => by
    have h1 := h d (List.mem_cons_self ..)
    have h2 := depthAll_le fun d hd => h d (List.mem_cons_of_mem _ hd)
    simp [PyData.depthAll]
    omega
theorem layAll : ∀ {ds : List PyData}, (∀ d ∈ ds, d.canLay0 = true) → PyData.canLayAll0 ds = true
  | [], _ => by simp [PyData.canLayAll0]
  | d :: r, h => by
    simp [PyData.canLayAll0, h d (List.mem_cons_self ..), layAll fun d hd => h d (List.mem_cons_of_mem _ hd)]
section
variable {K : PySem.W.Frag} {H : Hp} {a b : Addr} {ka kb : List (Key × V)} {Q : VK}
end
end FB
/-! x not in a tuple of data; a tuple once. -/
namespace FB
open PySem PySem.Spec PyProof.Rows L2 Evl
open Sem (wp)
/-- a tuple once is the tuple -/
theorem tuple_mul1 (l : Addr) (items : Array Value) (n : Nat) (dd : Option Addr) (sl : Array (Option Value)) (u : Tok) :
    Meets (Builtin.«tuple.__mul__» ⟨[.ref l, .int 1 u], []⟩) (fun _ R s => s.heap.get? l = some { cls := .type "tuple", dict := dd, data := .seq items n, slots := sl } ∧ R (.ok (.ret (.ref l))) s) :=
  .of_wp fun prog w A R s h => by
    obtain ⟨hp, g, d, tk, os⟩ := s
    obtain ⟨hl, h⟩ := h
    have f1 := AutoSeq1.idx_int
    wp_walk using wpAny_loadPart' hl
    exact ⟨_, rfl, h⟩
def rMul1 (K : PySem.W.Frag) : R2 := fun x y H Q => ∃ l xs, x = .ref l ∧ y = .int 1 ∧ SqT K H l xs ∧ Q (.ref l) H
theorem op_mul1 {X : Cx} : OpR X (binaryOp .Mult) (rMul1 X.K) := by
  intro pins s σ H x y v u Q I rx ry h
  obtain ⟨l, xs, rfl, rfl, hT, q⟩ := h
  cases rx
  obtain ⟨t, rfl⟩ := ry
  obtain ⟨its, r, ⟨⟨cls, dd, data, sl⟩, ho, hc, n, hd⟩, hs⟩ := I.tuple hT
  simp only at hc hd
  subst hc hd
  refine wpAny_binaryOp_repeat_ref (T := "tuple") (U := "int") (by decide) ⟨_, ho, rfl⟩ (fun s' => typeIs_int s' 1 t) noFill_tuple_mul F.fills_int_mul F.slot_int_rmul repeat_tuple F.slot_int_index.lookup
    (call_meets F.slot_int_rmul (typeIs_int s 1 t) F.entry_int_rmul (F.args_int_rmul_2 _ _) (int_rmul_tuple 1 t l its.toArray n dd sl)
      ⟨ho, rfl, ⟨_, ho, rfl⟩, call_meets F.slot_tuple_mul ⟨_, ho, rfl⟩ F.entry_tuple_mul (F.args_tuple_mul_2 _ _) (tuple_mul1 l its.toArray n dd sl t) ⟨ho, ?_⟩⟩)
  exact ⟨.ref l, H, I, rfl, q⟩
def rMulV (K : PySem.W.Frag) : R2 := fun x y H Q => rMulU K x y H Q ∨ rMul1 K x y H Q
theorem op_mulV {X : Cx} {K : PySem.W.Frag} (hK : X.K = K := by rfl) : OpR X (binaryOp .Mult) (rMulV K) := by
  subst hK
  exact orOp op_mulU op_mul1
theorem flat_one (x : V) : ∀ n : Nat, (List.replicate n [x]).flatten = List.replicate n x
  | 0 => rfl
  | n + 1 => by rw [List.replicate_succ, List.replicate_succ, List.flatten_cons, flat_one x n]; rfl
/-- (x,) * n -/
theorem x_mulT {K : PySem.W.Frag} {H : Hp} {p : Addr} {x : V} {n : Nat} {Q : VK} (h : H p = some (.tup [x])) (h1 : 1 ≤ n) (h2 : n ≤ 1000) (q : ∀ l H', Ex H H' → H' l = some (.tup (List.replicate n x)) → Q (.ref l) H') : rMulV K (.ref p) (.int (n : Nat)) H Q := by
  by_cases e : n = 1
  · subst e
    exact .inr ⟨p, [x], rfl, rfl, SqT.of h, q p H (Ex.refl H) h⟩
  · refine .inl (.inr ⟨p, (n : Nat), [x], rfl, rfl, SqT.of h, by simp, by omega, by omega, by simp, x_new fun l H' _ e hl => q l H' e ?_⟩)
    rw [hl, Int.toNat_natCast]
    congr 2
    exact flat_one x n
end FB
/-! t.index(x), a tuple of data; x in a sequence of data. -/
namespace FB
open PySem PySem.Spec PyProof.Rows L2 Evl
open Sem (wp)
end FB
/-! Sets of ints and texts that can be sorted. -/
namespace FB
open PySem PySem.Spec PyProof.Rows L2 Evl
/-- an element's key -/
def elKey (e : Int × Value) : Key := match e.2 with
  | .int k _ => .inl k
  | .str z _ => .inr z
  | _ => .inl 0
/-- the set at a by its keys; its table can be walked -/
structure Tbl (P : Program) (w : World) (es : Array (Int × Value)) (t : SetTable) (S : Key → Bool) : Prop where
  el : ElemsOf (mixKind P w) es.toList
  mem : ∀ k, S k = true ↔ ∃ e ∈ es.toList, (mixKind P w).is k e.2 = true
  nd : (es.toList.map elKey).Nodup
  few : es.size < scanBound
  fits : t.fits es.size = true
  ris : Ris t.place.toList
  led : w.params.followText "set-order" = true ∨ t.led = true
def SetM0 (P : Program) (w : World) (h : Heap) (a : Addr) (S : Key → Bool) (n : Nat) : Prop := ∃ o es ep t, h.get? a = some o ∧ o.ExactSet ∧ o.data = .set es ep t ∧ es.size = n ∧ Tbl P w es t S
def SetM (P : Program) (w : World) (a : Addr) (S : Key → Bool) (n : Nat) : HO := .ext fun h => SetM0 P w h a S n
section
variable {P : Program} {w : World} {h h' : Heap} {a : Addr} {S : Key → Bool} {n : Nat}
theorem is_elKey {e : Int × Value} {k : Key} (q : (mixKind P w).is k e.2 = true) : elKey e = k := by
  rcases keyIs_shape (show keyIs k e.2 = true from q) with ⟨i, t, ek, ev⟩ | ⟨z, t, ek, ev⟩
  · unfold elKey; rw [ev, ek]
  · unfold elKey; rw [ev, ek]
theorem SetM0.setOf (R : SetM0 P w h a S n) : h.SetOf (mixKind P w) a S n := by
  obtain ⟨o, es, ep, t, r1, r2, r3, r4, T⟩ := R
  exact ⟨o, es, ep, t, r1, r2, r3, T.el, T.mem, T.few, T.fits, r4⟩
theorem Tbl.key {es : Array (Int × Value)} {t : SetTable} (T : Tbl P w es t S) (k : Key) : S k = true ↔ k ∈ es.toList.map elKey := by
  rw [T.mem k, List.mem_map]
  constructor
  · rintro ⟨e, he, q⟩
    exact ⟨e, he, is_elKey q⟩
  · rintro ⟨e, he, q⟩
    obtain ⟨⟨k', hk', _⟩, _⟩ := T.el e he
    have := is_elKey hk'
    rw [q] at this
    exact ⟨e, he, by rw [this]; exact hk'⟩
theorem setM_obj {H : Hp} (R : SetM0 P w h a S n) : ObjOk P w H h a (SetM P w a S n) := by
  have ⟨o, _, _, _, ho, _⟩ := R
  exact ⟨R, ⟨o, ho⟩, fun _ _ ⟨o, es, ep, t, r1, r⟩ st => ⟨o, es, ep, t, st o r1, r⟩⟩
/-- a perm of the elements in another table is the same set -/
theorem Tbl.perm {es es2 : Array (Int × Value)} {t t2 : SetTable} (T : Tbl P w es t S) (pm : es2.toList.Perm es.toList) (hf : t2.fits es2.size = true) (hr : Ris t2.place.toList) (hl : w.params.followText "set-order" = true ∨ t2.led = true) : Tbl P w es2 t2 S :=
  have sz : es2.size = es.size := by rw [← Array.length_toList, pm.length_eq, Array.length_toList]
  ⟨T.el.perm pm, fun k => (T.mem k).trans ⟨fun ⟨e, he, q⟩ => ⟨e, pm.mem_iff.mpr he, q⟩, fun ⟨e, he, q⟩ => ⟨e, pm.mem_iff.mp he, q⟩⟩, (pm.map elKey).nodup_iff.mpr T.nd, by rw [sz]; exact T.few, hf, hr, hl⟩
end
section
variable {P : Program} {w : World} {A : Around} {E : Value → Shared → Prop} {s : Shared} {a : Addr} {S : Key → Bool} {n : Nat}
/-- the new table is stored, and laid anew where it is too full -/
theorem tbl_store {g : Bool → Sem Unit} (hg : ∀ (b : Bool) (s1 : Shared) (Q' : Unit → Shared → Prop), Q' () s1 → wpAny (model P w) A (g b) Q' E s1) {o : Obj} {es es1 : Array (Int × Value)} {ep : Nat} {t t1 : SetTable} {S1 : Key → Bool}
    (ho : s.heap.get? a = some o) (hx : o.ExactSet) (hd : o.data = .set es ep t) (T1 : Tbl P w es1 t1 S1) {dummy : Bool} {R : Option Bool → Shared → Prop} (hR : ∀ h', Heap.SameBut a s.heap h' → SetM0 P w h' a S1 es1.size → R (some true) { s with heap := h' }) :
    wpAny (model P w) A (do
        storeSet a es1 t1
        if (!dummy && t1.tooFull) = true then do
            g (relayAll t1 es1 (SetTable.grown es1.size)).2.2
            storeSet a (relayAll t1 es1 (SetTable.grown es1.size)).1 (relayAll t1 es1 (SetTable.grown es1.size)).2.1
            pure (some true)
          else pure (some true)) R E s := by
  have at1 := store_at (es' := es1) (t' := t1) ho hd
  have sb := Heap.SameBut.update s.heap a (Obj.putSet es1 t1)
  refine wpAny_bind (wpAny_storeSet_of ho hd ?_ (fits_of_scanBound T1.few))
  split
  · have p2 := relayAll_perm t1 es1 (SetTable.grown es1.size)
    have T2 := T1.perm p2 (relayAll_fits t1 es1 (SetTable.grown es1.size)) (relayAll_ris t1 es1 (SetTable.grown es1.size)) (T1.led.imp id fun z => by rw [relayAll_led]; exact z)
    have sz2 : (relayAll t1 es1 (SetTable.grown es1.size)).1.size = es1.size := by rw [← Array.length_toList, p2.length_eq, Array.length_toList]
    refine wpAny_bind (hg _ _ _ (wpAny_bind (wpAny_storeSet_of at1 rfl ?_ (fits_of_scanBound T2.few))))
    exact wpAny_pure (hR _ (sb.trans (Heap.SameBut.update _ a _)) ⟨_, _, _, _, store_at at1 rfl, hx, rfl, sz2, T2⟩)
  · exact wpAny_pure (hR _ sb ⟨_, es1, _, t1, at1, hx, rfl, rfl, T1⟩)
theorem setM_hashed {k : Key} {x : Value} {Q : Bool → Shared → Prop} (hk : (mixKind P w).is k x = true) (hsc : x.scannable = true) (R : SetM0 P w s.heap a S n) (room : n + 1 < scanBound)
    (hQ : ∀ h', Heap.SameBut a s.heap h' → SetM0 P w h' a (fun j => S j || decide (j = k)) (if S k = true then n else n + 1) → Q (!S k) { s with heap := h' }) :
    wpAny (model P w) A (setAddHashed a x ((mixKind P w).hash k)) Q E s := by
  obtain ⟨o, es, ep, t, ho, hx, hd, hn, T⟩ := R
  unfold setAddHashed setAddHashedIn
  refine wpAny_holding (wpAny_bind (wpAny_setState_of ho hd T.fits ?_))
  dsimp only
  rw [byScan_of hsc T.few T.el]
  simp only [↓reduceIte]
  unfold setAddByScan
  refine wpAny_bind (wpAny_bind (wpAny_rule (wpAny_bind (wpAny_setScan_of hk ho hd T.fits T.el ?_))))
  cases found : List.findIdx? (fun e => (mixKind P w).is k e.2) es.toList with
  | some j =>
    dsimp only
    obtain ⟨hj, pj, _⟩ := List.findIdx?_eq_some_iff_getElem.mp found
    have old : S k = true := (T.mem k).mpr ⟨es.toList[j], List.getElem_mem hj, pj⟩
    have same : (fun i => S i || decide (i = k)) = S := funext fun i => by
      by_cases z : i = k
      · rw [z, old]; rfl
      · rw [decide_eq_false z, Bool.or_false]
    have q := hQ s.heap (Heap.SameBut.refl a s.heap) (by rw [same, if_pos old]; exact ⟨o, es, ep, t, ho, hx, hd, hn, T⟩)
    rw [old] at q
    exact wpAny_pure (wpAny_pure q)
  | none =>
    dsimp only
    have new : ¬ k ∈ es.toList.map elKey := fun z => by
      obtain ⟨e, he, q⟩ := (T.mem k).mp ((T.key k).mpr z)
      have c := List.findIdx?_eq_none_iff.mp found e he
      rw [q] at c
      cases c
    have no : S k = false := by
      cases q : S k with
      | false => rfl
      | true => exact absurd ((T.key k).mp q) new
    have told : ∀ (b : Bool) {s1 : Shared} {Q' : Unit → Shared → Prop}, Q' () s1 → wpAny (model P w) A (match b with | true => rule "set.scan.the-table-gave-way" | false => pure ()) Q' E s1 :=
      fun b s1 Q' q => by cases b <;> first | exact wpAny_pure q | exact wpAny_rule q
    have pm := layNew_perm t es ((mixKind P w).hash k) x
    rw [Array.toList_push] at pm
    have pc := pm.trans (List.perm_append_singleton _ _)
    have hf := layNew_fits t es ((mixKind P w).hash k) x
    have hr := layNew_ris t es ((mixKind P w).hash k) x T.ris
    have hl := layNew_led t es ((mixKind P w).hash k) x
    generalize layNew t es ((mixKind P w).hash k) x = Z at pm pc hf hr hl ⊢
    obtain ⟨es1, t1, dummy, gave⟩ := Z
    dsimp only at pm pc hf hr hl ⊢
    have sz : es1.size = n + 1 := by rw [← Array.length_toList, pc.length_eq, List.length_cons, Array.length_toList, hn]
    have pk : (es1.toList.map elKey).Perm (k :: es.toList.map elKey) := by
      have := pc.map elKey
      rw [List.map_cons, is_elKey (e := ((mixKind P w).hash k, x)) hk] at this
      exact this
    have T1 : Tbl P w es1 t1 (fun j => S j || decide (j = k)) := ⟨(T.el.push hk hsc).perm pm, mem_push_iff hk T.mem pm, pk.nodup_iff.mpr (List.nodup_cons.mpr ⟨new, T.nd⟩), by rw [sz]; exact room, hf, hr, T.led.imp id fun z => by rw [hl]; exact z⟩
    have fin : ∀ h', Heap.SameBut a s.heap h' → SetM0 P w h' a (fun j => S j || decide (j = k)) es1.size → Q true { s with heap := h' } := fun h' sb r => by
      have q := hQ h' sb
      rw [no] at q
      rw [sz] at r
      exact q r
    have off : Tbl P w es1 { t1 with plain := false } (fun j => S j || decide (j = k)) := { T1 with fits := SetTable.fits_plain_off hf }
    refine wpAny_bind (told _ ?_)
    split
    · refine wpAny_bind ?_
      rw [hashByValue_scannable 8 hsc]
      refine wpAny_pure ?_
      refine tbl_store (fun b s1 Q' q => by cases b <;> first | exact wpAny_pure q | exact wpAny_rule q) ho hx hd (t1 := _) (S1 := fun j => S j || decide (j = k)) ?_ fun h' sb r => ?_
      · split
        · exact T1
        · exact off
      · dsimp only
        exact wpAny_pure (fin h' sb r)
    · refine wpAny_bind (wpAny_pure ?_)
      simp only [↓reduceIte]
      refine tbl_store (fun b s1 Q' q => by cases b <;> first | exact wpAny_pure q | exact wpAny_rule q) ho hx hd T1 fun h' sb r => ?_
      dsimp only
      exact wpAny_pure (fin h' sb r)
end
end FB
/-! Arrivals: who joins a queue, whose boat departs. -/
namespace FB
open PySem PySem.Spec PyProof.Rows L2 Evl
/-- queues of what waits -/
abbrev QsA (α : Type) := List (List α)
abbrev Qs := QsA Int
/-- what happens: a boat with its passengers (.inl), one who finishes (.inr) -/
abbrev EvsA (α : Type) := List (Key × List α)
abbrev Evs := EvsA Int
abbrev Dep (α : Type) := QsA α → Nat → QsA α × EvsA α
section
variable {α : Type} [Inhabited α]
def joinW (N : Net) (dep : Dep α) (qs : QsA α) (j : Nat) (p : α) : QsA α × EvsA α :=
  if (qs.getD j [] ++ [p]).length = (N.getD j []).length then dep (qs.set j (qs.getD j [] ++ [p])) j else (qs.set j (qs.getD j [] ++ [p]), [])
def moveW (N : Net) (dep : Dep α) : List (Key × α) → QsA α → QsA α × EvsA α
  | [], qs => (qs, [])
  | (.inr z, p) :: r, qs => ((moveW N dep r qs).1, (.inr z, [p]) :: (moveW N dep r qs).2)
  | (.inl j, p) :: r, qs => ((moveW N dep r (joinW N dep qs j.toNat p).1).1, (joinW N dep qs j.toNat p).2 ++ (moveW N dep r (joinW N dep qs j.toNat p).1).2)
/-- f: how many stations are left at most -/
def departW (N : Net) : Nat → Dep α
  | 0 => fun qs _ => (qs, [])
  | f + 1 => fun qs st => ((moveW N (departW N f) ((N.getD st []).zip (qs.getD st [])) (qs.set st [])).1, (.inl (st : Int), qs.getD st []) :: (moveW N (departW N f) ((N.getD st []).zip (qs.getD st [])) (qs.set st [])).2)
/-- who finishes -/
def finOf : EvsA α → List (Str × α)
  | [] => []
  | (.inl _, _) :: r => finOf r
  | (.inr z, ps) :: r => (z, ps.headD default) :: finOf r
theorem finOf_append : ∀ {a b : EvsA α}, finOf (a ++ b) = finOf a ++ finOf b
  | [], _ => rfl
  | (.inl _, _) :: r, b => finOf_append (a := r)
  | (.inr z, ps) :: r, b => congrArg ((z, ps.headD default) :: ·) (finOf_append (a := r))
theorem moveW_append {N : Net} {dep : Dep α} : ∀ {a b : List (Key × α)} {qs : QsA α}, moveW N dep (a ++ b) qs = ((moveW N dep b (moveW N dep a qs).1).1, (moveW N dep a qs).2 ++ (moveW N dep b (moveW N dep a qs).1).2)
  | [], b, qs => rfl
  | (.inr z, p) :: r, b, qs => by
    show ((moveW N dep (r ++ b) qs).1, (.inr z, [p]) :: (moveW N dep (r ++ b) qs).2) = _
    rw [moveW_append]; rfl
  | (.inl j, p) :: r, b, qs => by
    show ((moveW N dep (r ++ b) (joinW N dep qs j.toNat p).1).1, (joinW N dep qs j.toNat p).2 ++ (moveW N dep (r ++ b) (joinW N dep qs j.toNat p).1).2) = _
    rw [moveW_append]
    show (_, (joinW N dep qs j.toNat p).2 ++ (_ ++ _)) = (_, ((joinW N dep qs j.toNat p).2 ++ _) ++ _)
    rw [List.append_assoc]; rfl
/-- one move more -/
theorem moveW_snoc {N : Net} {dep : Dep α} {a : List (Key × α)} {k : Key} {p : α} {qs : QsA α} : moveW N dep (a ++ [(k, p)]) qs = ((moveW N dep [(k, p)] (moveW N dep a qs).1).1, (moveW N dep a qs).2 ++ (moveW N dep [(k, p)] (moveW N dep a qs).1).2) := moveW_append
theorem move_one_r {N : Net} {dep : Dep α} {z : Str} {p : α} {qs : QsA α} : moveW N dep [(.inr z, p)] qs = (qs, [(.inr z, [p])]) := rfl
theorem move_one_l {N : Net} {dep : Dep α} {j : Int} {p : α} {qs : QsA α} : moveW N dep [(.inl j, p)] qs = joinW N dep qs j.toNat p := by
  show (_, (joinW N dep qs j.toNat p).2 ++ []) = _
  rw [List.append_nil]; rfl
/-- each queue is shorter than its boat -/
structure Short (N : Net) (qs : QsA α) : Prop where
  len : qs.length = N.length
  lt : ∀ k, k < N.length → (qs.getD k []).length < (N.getD k []).length
/-- seats lead to later stations that there are -/
def Fw (N : Net) : Prop := ∀ i, i < N.length → ∀ j : Int, (.inl j : Key) ∈ N.getD i [] → (i : Int) < j ∧ j < N.length
theorem getD_set' {l : QsA α} {i j : Nat} {x : List α} (h : i < l.length) : (l.set i x).getD j [] = if j = i then x else l.getD j [] := by
  rw [List.getD_eq_getElem?_getD, List.getElem?_set]
  by_cases e : i = j
  · subst e
    rw [if_pos rfl, if_pos rfl, if_pos h]; rfl
  · rw [if_neg e, if_neg (fun z => e z.symm), ← List.getD_eq_getElem?_getD]
/-- a departure from st on is sound: what it asks, what it leaves -/
def DepOk (N : Net) (f : Nat) (dep : Dep α) : Prop := ∀ qs st, N.length ≤ st + f → st < N.length → qs.length = N.length → (∀ k, k < N.length → k ≠ st → (qs.getD k []).length < (N.getD k []).length) → (qs.getD st []).length ≤ (N.getD st []).length → 1 ≤ (N.getD st []).length →
  Short N (dep qs st).1 ∧ ∀ k, k < st → (dep qs st).1.getD k [] = qs.getD k []
theorem joinW_ok {N : Net} {f : Nat} {dep : Dep α} (h1 : ∀ k, k < N.length → 1 ≤ (N.getD k []).length) (hd : DepOk N f dep) {qs : QsA α} {j : Nat} {p : α} (S : Short N qs) (hj : j < N.length) (hf : N.length ≤ j + f) : Short N (joinW N dep qs j p).1 ∧ ∀ k, k < j → (joinW N dep qs j p).1.getD k [] = qs.getD k [] := by
  have hjl : j < qs.length := by rw [S.len]; exact hj
  have lt := S.lt j hj
  unfold joinW
  split
  · rename_i e
    have q := hd (qs.set j (qs.getD j [] ++ [p])) j hf hj (by rw [List.length_set]; exact S.len) (fun k hk hne => by rw [getD_set' hjl, if_neg hne]; exact S.lt k hk) (by rw [getD_set' hjl, if_pos rfl]; omega) (h1 j hj)
    exact ⟨q.1, fun k hk => by rw [q.2 k hk, getD_set' hjl, if_neg (by omega)]⟩
  · rename_i e
    refine ⟨⟨by rw [List.length_set]; exact S.len, fun k hk => ?_⟩, fun k hk => by rw [getD_set' hjl, if_neg (by omega)]⟩
    rw [getD_set' hjl]
    split
    · rename_i e2
      subst e2
      have e3 : (qs.getD k [] ++ [p]).length = (qs.getD k []).length + 1 := by simp
      omega
    · exact S.lt k hk
theorem moveW_ok {N : Net} {f : Nat} {dep : Dep α} (h1 : ∀ k, k < N.length → 1 ≤ (N.getD k []).length) (hd : DepOk N f dep) {st : Nat} (hf : N.length ≤ st + 1 + f) : ∀ {ms : List (Key × α)} {qs : QsA α}, (∀ m ∈ ms, ∀ j : Int, m.1 = .inl j → (st : Int) < j ∧ j < N.length) → Short N qs →
    Short N (moveW N dep ms qs).1 ∧ ∀ k, k ≤ st → (moveW N dep ms qs).1.getD k [] = qs.getD k []
  | [], qs, _, S => ⟨S, fun _ _ => rfl⟩
  | (.inr z, p) :: r, qs, hm, S => moveW_ok h1 hd hf (ms := r) (fun m h => hm m (List.mem_cons_of_mem _ h)) S
  | (.inl j, p) :: r, qs, hm, S => by
    obtain ⟨a, b⟩ := hm _ (List.mem_cons_self ..) j rfl
    obtain ⟨S1, K1⟩ := joinW_ok h1 hd (p := p) S (j := j.toNat) (by omega) (by omega)
    obtain ⟨S2, K2⟩ := moveW_ok h1 hd hf (ms := r) (fun m h => hm m (List.mem_cons_of_mem _ h)) S1
    exact ⟨S2, fun k hk => by
      show (moveW N dep r (joinW N dep qs j.toNat p).1).1.getD k [] = _
      rw [K2 k hk, K1 k (by omega)]⟩
theorem departW_ok {N : Net} (h1 : ∀ k, k < N.length → 1 ≤ (N.getD k []).length) (fw : Fw N) : ∀ f, DepOk N f (departW (α := α) N f)
  | 0 => fun qs st h1 h2 => by omega
  | f + 1 => fun qs st hf hst hl hs hs2 h1s => by
    have hql : st < qs.length := by rw [hl]; exact hst
    have S0 : Short N (qs.set st []) := ⟨by rw [List.length_set]; exact hl, fun k hk => by
      rw [getD_set' hql]
      split
      · rename_i e; subst e; exact h1s
      · rename_i e; exact hs k hk e⟩
    obtain ⟨S1, K1⟩ := moveW_ok h1 (departW_ok h1 fw f) (st := st) (by omega) (ms := (N.getD st []).zip (qs.getD st [])) (fun m hm j e => fw st hst j (by rw [← e]; exact (List.of_mem_zip hm).1)) S0
    exact ⟨S1, fun k hk => by
      show (moveW N (departW N f) _ _).1.getD k [] = _
      rw [K1 k (by omega), getD_set' hql, if_neg (by omega)]⟩
/-! ### nobody is lost -/
theorem getD_some {qs : QsA α} {j : Nat} (h : j < qs.length) : qs[j]? = some (qs.getD j []) := by simp [List.getD_eq_getElem?_getD, h]
end
/-! ### the queues as lists in a list -/
structure QsAt (K : PySem.W.Frag) (H : Hp) (Qa : Addr) (as : List Addr) (qs : Qs) : Prop where
  at_ : H Qa = some (.lst (as.map V.ref))
  len : as.length = qs.length
  nd : as.Nodup
  ne : Qa ∉ as
  q : ∀ (i : Nat) a, as[i]? = some a → H a = some (.lst ((qs.getD i []).map V.int))
def fpD (p : Str × Int) : PyData := .tuple [.str p.1, .int p.2]
theorem fpD_t (p : Str × Int) : TupD (fpD p) := .tup fun d hd => by
  simp only [List.mem_cons, List.not_mem_nil, or_false] at hd
  rcases hd with rfl | rfl
  · exact .str _
  · exact .int _
structure FinAt (K : PySem.W.Frag) (H : Hp) (Fa : Addr) (fs : List (Str × Int)) : Prop where
  ex : ∃ ts, H Fa = some (.lst ts) ∧ DpAll K H ts (fs.map fpD)
section
variable {K : PySem.W.Frag} {H H2 : Hp} {Qa Fa a : Addr} {as : List Addr} {qs : Qs} {fs : List (Str × Int)} {j : Nat} {y : List Int}
theorem QsAt.ex (W : QsAt K H Qa as qs) (e : Ex H H2) : QsAt K H2 Qa as qs := ⟨e _ _ W.at_, W.len, W.nd, W.ne, fun i a h => e _ _ (W.q i a h)⟩
theorem QsAt.but (W : QsAt K H Qa as qs) (e : ∀ x o, x ≠ a → H x = some o → H2 x = some o) (h1 : Qa ≠ a) (h2 : a ∉ as) : QsAt K H2 Qa as qs :=
  ⟨e _ _ h1 W.at_, W.len, W.nd, W.ne, fun i b h => e _ _ (fun z => h2 (by rw [← z]; exact List.mem_of_getElem? h)) (W.q i b h)⟩
theorem QsAt.set (W : QsAt K H Qa as qs) (ha : as[j]? = some a) (e : ∀ x o, x ≠ a → H x = some o → H2 x = some o) (h2 : H2 a = some (.lst (y.map V.int))) : QsAt K H2 Qa as (qs.set j y) := by
  have hj : j < qs.length := by rw [← W.len]; exact (List.getElem?_eq_some_iff.mp ha).1
  refine ⟨e _ _ (fun z => W.ne (by rw [z]; exact List.mem_of_getElem? ha)) W.at_, by rw [List.length_set]; exact W.len, W.nd, W.ne, fun i b h => ?_⟩
  rw [getD_set' hj]
  by_cases z : i = j
  · subst z
    rw [ha] at h
    cases h
    rw [if_pos rfl, h2]
  · rw [if_neg z]
    refine e _ _ (fun z2 => z ?_) (W.q i b h)
    subst z2
    have hi := (List.getElem?_eq_some_iff.mp h).1
    exact (List.getElem?_inj hi W.nd).mp (by rw [h, ha])
theorem FinAt.tx (W : FinAt K H Fa fs) (t : TX H H2) (h : ∀ o, H Fa = some o → H2 Fa = some o) : FinAt K H2 Fa fs := by
  obtain ⟨ts, h1, h2⟩ := W.ex
  exact ⟨⟨ts, h _ h1, DpAll.tx t h2 fun d hd => by
    obtain ⟨p, _, rfl⟩ := List.mem_map.mp hd
    exact fpD_t p⟩⟩
theorem FinAt.e (W : FinAt K H Fa fs) (e : Ex H H2) : FinAt K H2 Fa fs := W.tx (TX.of e) fun o h => e _ _ h
theorem QsAt.get (W : QsAt K H Qa as qs) (hj : j < qs.length) : ∃ a, as[j]? = some a ∧ H a = some (.lst ((qs.getD j []).map V.int)) ∧ a ∈ as := by
  have hj2 : j < as.length := by rw [W.len]; exact hj
  exact ⟨as[j], List.getElem?_eq_getElem hj2, W.q j _ (List.getElem?_eq_getElem hj2), List.getElem_mem hj2⟩
/-- all but the queues and the list of who finished stand -/
def Ex3 (as : List Addr) (Fa : Addr) (H H' : Hp) : Prop := ∀ x o, H x = some o → x ≠ Fa → x ∉ as → H' x = some o
theorem Ex3.tx (e : Ex3 as Fa H H2) (W : QsAt K H Qa as qs) (F : FinAt K H Fa fs) : TX H H2 := fun x o h c => by
  obtain ⟨ts, h1, _⟩ := F.ex
  refine e x o h (fun z => by subst z; rw [h1] at h; cases h; exact c) fun z => ?_
  obtain ⟨i, hi⟩ := List.mem_iff_getElem?.mp z
  rw [W.q i x hi] at h
  cases h
  exact c
end
section
variable {K : PySem.W.Frag} {H H2 : Hp} {Qa Fa a h b : Addr} {as : List Addr} {qs : Qs} {fs : List (Str × Int)} {Q : VK} {q : List Int}
theorem QsAt.ex2 (W : QsAt K H Qa as qs) (e : Ex2 h b H H2) (h1 : Qa ≠ h ∧ Qa ≠ b) (h2 : ∀ a ∈ as, a ≠ h ∧ a ≠ b) : QsAt K H2 Qa as qs :=
  ⟨e _ _ W.at_ h1.1 h1.2, W.len, W.nd, W.ne, fun i a ha => have z := h2 a (List.mem_of_getElem? ha); e _ _ (W.q i a ha) z.1 z.2⟩
end
end FB
/-! Queues as tuples in a list, and the list of what happens. -/
namespace FB
open PySem PySem.Spec PyProof.Rows L2 Evl
section
variable {K : PySem.W.Frag} {H H' H2 : Hp} {a b Qa Ea x : Addr} {xs ys : List V}
theorem walk_zipM : Walk (RZ.ItzT K a b) (min xs.length ys.length) (fun H => SqT K H a xs ∧ SqT K H b ys) (YPair (fun i => xs[i]?) (fun i => ys[i]?)) := by
  refine ⟨fun i _ hi q => ?_, fun _ q => ⟨xs, ys, q.1, q.2, by omega⟩, fun i H v H' _ q y => ?_⟩
  · have h1 : i < xs.length := by omega
    have h2 : i < ys.length := by omega
    exact ⟨xs, ys, xs[i], ys[i], q.1, q.2, by simp [h1], by simp [h2]⟩
  · obtain ⟨T, x, z, h1, h2, h3, h4, h5⟩ := y
    exact ⟨T, x, z, h1, h2, h3, h4 xs q.1, h5 ys q.2⟩
theorem DpAll.set : ∀ {vs : List V} {ds : List PyData} {i : Nat} {v : V} {d : PyData}, DpAll K H vs ds → Dp K H v d → DpAll K H (vs.set i v) (ds.set i d)
  | _, _, _, _, _, .nil, _ => .nil
  | _, _, 0, _, _, .cons _ hs, h => .cons h hs
  | _, _, _ + 1, _, _, .cons h0 hs, h => .cons h0 (DpAll.set hs h)
section
variable {α : Type} [Inhabited α]
/-- what each passenger is, as data -/
structure PD (pd : α → PyData) : Prop where
  t : ∀ a, TupD (pd a)
def qA (pd : α → PyData) (q : List α) : PyData := .tuple (q.map pd)
def evA (pd : α → PyData) (e : Key × List α) : PyData := .tuple [keyD e.1, qA pd e.2]
variable {pd : α → PyData} {qs : QsA α} {es : EvsA α}
theorem qA_t (h : PD pd) (q : List α) : TupD (qA pd q) := .tup fun d hd => by
  obtain ⟨k, _, rfl⟩ := List.mem_map.mp hd
  exact h.t k
theorem evA_t (h : PD pd) (e : Key × List α) : TupD (evA pd e) := .tup fun d hd => by
  simp only [List.mem_cons, List.not_mem_nil, or_false] at hd
  rcases hd with rfl | rfl
  · exact keyD_t _
  · exact qA_t h _
/-- data in a list -/
structure LsAt (K : PySem.W.Frag) (H : Hp) (a : Addr) (ds : List PyData) : Prop where
  ex : ∃ ts, H a = some (.lst ts) ∧ DpAll K H ts ds
theorem LsAt.tx {ds : List PyData} (W : LsAt K H a ds) (td : ∀ d ∈ ds, TupD d) (t : TX H H2) (h : ∀ o, H a = some o → H2 a = some o) : LsAt K H2 a ds := by
  obtain ⟨ts, h1, h2⟩ := W.ex
  exact ⟨⟨ts, h _ h1, DpAll.tx t h2 td⟩⟩
theorem LsAt.ex2 {ds : List PyData} (W : LsAt K H a ds) (e : Ex H H2) : LsAt K H2 a ds := by
  obtain ⟨ts, h1, h2⟩ := W.ex
  exact ⟨⟨ts, e _ _ h1, DpAll.ex e h2⟩⟩
abbrev QtAt (K : PySem.W.Frag) (H : Hp) (Qa : Addr) (pd : α → PyData) (qs : QsA α) : Prop := LsAt K H Qa (qs.map (qA pd))
abbrev EvAt (K : PySem.W.Frag) (H : Hp) (Ea : Addr) (pd : α → PyData) (es : EvsA α) : Prop := LsAt K H Ea (es.map (evA pd))
theorem qs_t (h : PD pd) : ∀ d ∈ qs.map (qA pd), TupD d := fun d hd => by
  obtain ⟨q, _, rfl⟩ := List.mem_map.mp hd
  exact qA_t h q
theorem es_t (h : PD pd) : ∀ d ∈ es.map (evA pd), TupD d := fun d hd => by
  obtain ⟨q, _, rfl⟩ := List.mem_map.mp hd
  exact evA_t h q
theorem QtAt.get (W : QtAt K H Qa pd qs) {j : Nat} (hj : j < qs.length) : ∃ ts b vs, H Qa = some (.lst ts) ∧ DpAll K H ts (qs.map (qA pd)) ∧ ts[j]? = some (.ref b) ∧ SqT K H b vs ∧ DpAll K H vs ((qs.getD j []).map pd) := by
  obtain ⟨ts, h1, h2⟩ := W.ex
  obtain ⟨v, hv, hd⟩ := h2.get (show (qs.map (qA pd))[j]? = some (qA pd (qs.getD j [])) by simp [List.getD_eq_getElem?_getD, hj])
  obtain ⟨b, vs, rfl, h3, h4⟩ := Dp.tup_inv hd
  exact ⟨ts, b, vs, h1, h2, hv, h3, h4⟩
/-! ### how much happens -/
/-- everybody's way still to go, twice -/
def wayW (n : Nat) : Nat → QsA α → Nat
  | _, [] => 0
  | k, q :: r => q.length * (2 * (n - k)) + wayW n (k + 1) r
theorem wayW_set {n : Nat} : ∀ {qs : QsA α} {k j : Nat} {q : List α}, j < qs.length → wayW n k (qs.set j q) + (qs.getD j []).length * (2 * (n - (k + j))) = wayW n k qs + q.length * (2 * (n - (k + j)))
  | [], _, _, _, h => by simp at h
  | q0 :: r, k, 0, q, _ => by
    show q.length * (2 * (n - k)) + wayW n (k + 1) r + q0.length * (2 * (n - (k + 0))) = q0.length * (2 * (n - k)) + wayW n (k + 1) r + q.length * (2 * (n - (k + 0)))
    simp only [Nat.add_zero]; omega
  | q0 :: r, k, j + 1, q, h => by
    have ih := wayW_set (n := n) (qs := r) (k := k + 1) (j := j) (q := q) (by simpa using h)
    show q0.length * (2 * (n - k)) + wayW n (k + 1) (r.set j q) + (r.getD j []).length * (2 * (n - (k + (j + 1)))) = q0.length * (2 * (n - k)) + wayW n (k + 1) r + q.length * (2 * (n - (k + (j + 1))))
    have e : k + (j + 1) = k + 1 + j := by omega
    rw [e]; omega
theorem wayW_le {n : Nat} : ∀ {qs : QsA α} {k : Nat}, wayW n k qs ≤ qs.flatten.length * (2 * n)
  | [], _ => by simp [wayW]
  | q :: r, k => by
    show q.length * (2 * (n - k)) + wayW n (k + 1) r ≤ _
    have h1 := wayW_le (n := n) (qs := r) (k := k + 1)
    have h2 : q.length * (2 * (n - k)) ≤ q.length * (2 * n) := Nat.mul_le_mul_left _ (by omega)
    rw [List.flatten_cons, List.length_append, Nat.add_mul]
    omega
/-- what a departure costs at most -/
def DepW (N : Net) (f : Nat) (dep : Dep α) : Prop := ∀ qs st, qs.length = N.length → st < N.length → N.length ≤ st + f → 1 ≤ (qs.getD st []).length → wayW N.length 0 (dep qs st).1 + (dep qs st).2.length ≤ wayW N.length 0 qs ∧ (dep qs st).1.length = qs.length
theorem joinW_way {N : Net} {f : Nat} {dep : Dep α} (hd : DepW N f dep) {qs : QsA α} {j : Nat} {p : α} (hl : qs.length = N.length) (hj : j < N.length) (hf : N.length ≤ j + f) : wayW N.length 0 (joinW N dep qs j p).1 + (joinW N dep qs j p).2.length ≤ wayW N.length 0 qs + 2 * (N.length - j) ∧ (joinW N dep qs j p).1.length = qs.length := by
  have h0 := wayW_set (n := N.length) (qs := qs) (k := 0) (j := j) (q := qs.getD j [] ++ [p]) (by omega)
  rw [List.length_append, show [p].length = 1 from rfl, Nat.add_mul, Nat.zero_add, Nat.one_mul] at h0
  unfold joinW
  split
  · obtain ⟨a, b⟩ := hd (qs.set j (qs.getD j [] ++ [p])) j (by rw [List.length_set]; exact hl) hj hf (by rw [getD_set' (by omega), if_pos rfl]; simp)
    refine ⟨?_, by rw [b, List.length_set]⟩
    omega
  · refine ⟨?_, by rw [List.length_set]⟩
    show wayW N.length 0 (qs.set j (qs.getD j [] ++ [p])) + 0 ≤ _
    omega
theorem moveW_way {N : Net} {f : Nat} {dep : Dep α} (hd : DepW N f dep) {st : Nat} (hf : N.length ≤ st + 1 + f) (hst : st < N.length) : ∀ {ms : List (Key × α)} {qs : QsA α}, (∀ m ∈ ms, ∀ j : Int, m.1 = .inl j → (st : Int) < j ∧ j < N.length) → qs.length = N.length →
    wayW N.length 0 (moveW N dep ms qs).1 + (moveW N dep ms qs).2.length + ms.length ≤ wayW N.length 0 qs + ms.length * (2 * (N.length - st)) ∧ (moveW N dep ms qs).1.length = qs.length
  | [], qs, _, _ => by simp [moveW]
  | (.inr z, p) :: r, qs, hm, hl => by
    obtain ⟨a, b⟩ := moveW_way hd hf hst (ms := r) (qs := qs) (fun m h => hm m (List.mem_cons_of_mem _ h)) hl
    refine ⟨?_, b⟩
    show wayW N.length 0 (moveW N dep r qs).1 + ((moveW N dep r qs).2.length + 1) + (r.length + 1) ≤ wayW N.length 0 qs + (r.length + 1) * (2 * (N.length - st))
    rw [Nat.add_mul, Nat.one_mul]
    omega
  | (.inl j, p) :: r, qs, hm, hl => by
    obtain ⟨j1, j2⟩ := hm _ (List.mem_cons_self ..) j rfl
    obtain ⟨a1, b1⟩ := joinW_way (N := N) hd (p := p) (j := j.toNat) hl (by omega) (by omega)
    obtain ⟨a2, b2⟩ := moveW_way hd hf hst (ms := r) (qs := (joinW N dep qs j.toNat p).1) (fun m h => hm m (List.mem_cons_of_mem _ h)) (b1.trans hl)
    refine ⟨?_, b2.trans b1⟩
    show wayW N.length 0 (moveW N dep r (joinW N dep qs j.toNat p).1).1 + ((joinW N dep qs j.toNat p).2 ++ (moveW N dep r (joinW N dep qs j.toNat p).1).2).length + (r.length + 1) ≤ wayW N.length 0 qs + (r.length + 1) * (2 * (N.length - st))
    rw [List.length_append, Nat.add_mul, Nat.one_mul]
    omega
theorem departW_way {N : Net} (fw : Fw N) : ∀ f, DepW N f (departW (α := α) N f)
  | 0 => fun qs st hl hst hf _ => absurd hf (by omega)
  | f + 1 => fun qs st hl hst hf h1 => by
    obtain ⟨a, b⟩ := moveW_way (departW_way fw f) (st := st) (by omega) hst (ms := (N.getD st []).zip (qs.getD st [])) (qs := qs.set st []) (fun m hm j e => by
      exact fw st hst j (by rw [← e]; exact (List.of_mem_zip hm).1)) (by rw [List.length_set]; exact hl)
    refine ⟨?_, b.trans (List.length_set ..)⟩
    have h0 := wayW_set (n := N.length) (qs := qs) (k := 0) (j := st) (q := []) (by omega)
    rw [Nat.zero_add, List.length_nil, Nat.zero_mul] at h0
    have hz : ((N.getD st []).zip (qs.getD st [])).length ≤ (qs.getD st []).length := by rw [List.length_zip]; omega
    generalize hm : ((N.getD st []).zip (qs.getD st [])).length = m at a hz
    show wayW N.length 0 (moveW (α := α) N (departW N f) ((N.getD st []).zip (qs.getD st [])) (qs.set st [])).1 + ((moveW (α := α) N (departW N f) ((N.getD st []).zip (qs.getD st [])) (qs.set st [])).2.length + 1) ≤ _
    have hp : m * (2 * (N.length - st)) - m + 1 ≤ (qs.getD st []).length * (2 * (N.length - st)) := by
      generalize hX : 2 * (N.length - st) = X
      have hX2 : 2 ≤ X := by omega
      generalize (qs.getD st []).length = L at hz h1
      have hle : m * X ≤ L * X := Nat.mul_le_mul_right _ hz
      by_cases e : m = 0
      · subst e
        have : 1 * X ≤ L * X := Nat.mul_le_mul_right _ h1
        omega
      · have : m ≤ m * X := Nat.le_mul_of_pos_right _ (by omega)
        omega
    have hm2 : m ≤ m * (2 * (N.length - st)) := Nat.le_mul_of_pos_right _ (by omega)
    omega
/-- whoever finishes is told -/
def EvOk (es : EvsA α) : Prop := ∀ e ∈ es, ∀ z, e.1 = .inr z → e.2 ≠ []
theorem EvOk.nil : EvOk ([] : EvsA α) := fun _ h => by cases h
theorem EvOk.cons {e : Key × List α} {es : EvsA α} (h1 : ∀ z, e.1 = .inr z → e.2 ≠ []) (h2 : EvOk es) : EvOk (e :: es) := fun x h => by
  rcases List.mem_cons.mp h with rfl | h
  · exact h1
  · exact h2 x h
theorem EvOk.append {a b : EvsA α} (h1 : EvOk a) (h2 : EvOk b) : EvOk (a ++ b) := fun x h => (List.mem_append.mp h).elim (h1 x) (h2 x)
/-- who finishes does so at a port of the network -/
def FinS (N : Net) (es : EvsA α) : Prop := ∀ x ∈ finOf es, ∃ k, (.inr x.1 : Key) ∈ N.getD k []
theorem FinS.append {N : Net} {a b : EvsA α} (h1 : FinS N a) (h2 : FinS N b) : FinS N (a ++ b) := fun x h => by
  rw [finOf_append] at h
  exact (List.mem_append.mp h).elim (h1 x) (h2 x)
theorem FinS.nil {N : Net} : FinS N ([] : EvsA α) := fun _ h => by cases h
end
end
end FB
/-! What a caught error says of itself. -/
namespace FB
open PySem PySem.Spec PyProof.Rows L2 Evl
/-! ### list.count of flat items -/
def rCntF (K : PySem.W.Frag) : V → List V → Hp → VK → Prop := fun x xs H Q => ∃ (a : Addr) (ys : List V) (y : V), x = .ref a ∧ xs = [y] ∧ SqL K H a ys ∧ flatV y = true ∧ ys.all flatV = true ∧ Q (.int (ys.countP (fun z => eqV z y) : Nat)) H
theorem count_flat {y : V} : ∀ {ys : List V} {us : List Value}, Vals ys us → ys.all flatV = true → us.countP (eqU y) = ys.countP (fun z => eqV z y)
  | _, _, .nil, _ => rfl
  | z :: ys, u :: us, .cons r rr, f => by
    rw [List.all_cons, Bool.and_eq_true] at f
    rw [List.countP_cons, List.countP_cons, count_flat rr f.2, eqU_of r f.1]
theorem mt_countF {X : Cx} : MtR X "list.count" (rCntF X.K) := by
  intro pins s σ H x xs v us Q I rx rxs h
  obtain ⟨a, ys, y, rfl, rfl, hs, fy, fys, q⟩ := h
  cases rx
  obtain ⟨uy, rfl, ry⟩ := rxs.one
  obtain ⟨its, rv, ⟨⟨cls, dd, data, sl⟩, n, ho, hc, hdn, hd⟩, hlen⟩ := I.list hs
  cases hc
  cases hd
  refine call_meets PySem.F.slot_list_count ⟨_, ho, rfl⟩ PySem.F.entry_list_count (PySem.F.args_list_count_2 _ _)
    (SeqAt.list_countAt a its.toArray n dd sl uy (eqU y)) ⟨ho, fun u hu => mem_eqAt ry fy rv fys u (List.mem_toArray.mp hu), ?_⟩
  rw [show its.toArray.toList.countP (eqU y) = ys.countP (fun z => eqV z y) from count_flat rv fys]
  exact ⟨.int (ys.countP (fun z => eqV z y) : Nat), H, I.tok _, ⟨_, rfl⟩, q⟩
/-! ### isinstance of the caught error -/
/-- what an own error class says of itself -/
structure ErC (K : PySem.W.Frag) (D : Addr) : Prop where
  cl : (PySem.W.clsIn K D).isSome = true
  ga : PySem.W.findIn K (.ref D) "__getattribute__" = some (some (.builtin "BaseException.__getattribute__"))
  gt : PySem.W.findIn K (.ref D) "__getattr__" = some none
  sb : PySem.W.subIn K (.ref D) (.type "BaseException") = some true
  ca : PySem.W.findIn K (.ref D) "__class__" = some (some (.builtin "object.__class__"))
  sp : PySem.W.specialIn K (.builtin "object.__class__") "__get__" = some (some (.builtin "getset_descriptor.__get__"))
  tk : PySem.W.takesIn K (.builtin "object.__class__") = some true
  mr : PySem.W.mroIn K D (.type "object") = some true
/-- the error's own dict, if it has one, stands -/
def HasD (H : Hp) (d : Option Addr) : Prop := d = none ∨ ∃ dd fs, d = some dd ∧ H dd = some (.xd fs)
/-! ### == and != of ints and texts alone -/
section
variable {H : Hp} {Q : VK} {i j : Int} {z z2 : Str}
end
/-! ### a tuple's slices -/
/-! ### the errors -/
def errNames : List Str := ["InvalidNetwork", "InvalidState", "InvalidCount", "UnknownStation", "UnknownSeat", "UnknownPort", "UnknownPassenger", "EmptyBoat", "InvalidRates", "InvalidLengths", "InvalidPassengers", "TooManyCandidates", "Contradiction"]
/-- the error classes: C i is the i-th, CF is above all -/
structure Errs (K : PySem.W.Frag) (mg : Str → Option Value) (CF : Addr) (C : Nat → Addr) : Prop where
  gF : mg "FerryError" = some (.ref CF)
  g : ∀ i, i < 13 → mg (errNames.getD i "") = some (.ref (C i))
  b_ValueError : mg "ValueError" = none
  c : ∀ i, i < 13 → ErC K (C i)
  isi : ∀ i j, i < 13 → j < 13 → PySem.W.kitOne K (.ref (C i)) (.ref (C j)) = some (decide (i = j))
  isv : ∀ i, i < 13 → PySem.W.kitOne K (.ref (C i)) (.type "ValueError") = some true
  exF : ∀ i, i < 13 → PySem.W.exmOne K (.ref (C i)) (.ref CF) = some true
  xf : XfC K (C 0)
  no_station : PySem.W.findIn K (.ref (C 0)) "station" = some none
  no_seat : PySem.W.findIn K (.ref (C 0)) "seat" = some none
/-- the i-th error, with fields if it is the first -/
def ErrIs (C : Nat → Addr) (i : Nat) (st se : V) (cls : Value) (d : Option Addr) (H : Hp) : Prop := cls = .ref (C i) ∧ (if i = 0 then ∃ dd, d = some dd ∧ H dd = some (.xd [("seat", se), ("station", st)]) else d = none)
theorem ErrIs.has {C : Nat → Addr} {i : Nat} {st se : V} {cls : Value} {d : Option Addr} {H : Hp} (h : ErrIs C i st se cls d H) : HasD H d := by
  obtain ⟨_, h⟩ := h
  split at h
  · obtain ⟨dd, rfl, hx⟩ := h; exact .inr ⟨dd, _, rfl, hx⟩
  · exact .inl h
end FB
set_option maxHeartbeats 1000000
/-! Tables of code objects through a law; a def whose code object is known. -/
namespace FB
open PySem PySem.Spec PyProof.Rows L2 Evl LamX
/-- all but the source of draws and the tables stands -/
def ExN (a b : Addr) (H H' : Hp) : Prop := ∀ x o, H x = some o → x ≠ a → x ≠ b → (∀ ps, o ≠ .tbl ps) → H' x = some o
section
variable {H H1 H2 : Hp} {a b : Addr} {T : List (Addr × Str)}
theorem ExN.trans (e : ExN a b H H1) (f : ExN a b H1 H2) : ExN a b H H2 := fun x o h h1 h2 n => f x o (e x o h h1 h2 n) h1 h2 n
theorem ExN.ex (e : ExN a b H H1) (f : Ex H1 H2) : ExN a b H H2 := fun x o h h1 h2 n => f x o (e x o h h1 h2 n)
end
section
variable {P : Program} {w : World} {K : PySem.W.Frag} {mg : Str → Option Value} {base : Heap}
/-- a def of the code object c -/
theorem okC {c : Addr} {x qual : Str} {st : Stmt} {f : Addr} {fd : FuncData} {N ps : List Str} {k : Nat} {sp : Sp} (F : Fun K x qual st f fd) (hc : fd.code = .ref c) (S : FnScope N ps (defScope st)) (len : ∀ vs H Q E, sp vs H Q E → vs.length = ps.length)
    (hbody : ∀ (A : Around) (outer : List Env) (s : Shared) (H : Hp) (vs : List V) (Q : VK) (E : XK), Room k (A.deeper (envOfC qual (defScope st) s.heap.objs.size f (.ref c))) → sp vs H Q E →
      ∃ t, PSs (cxOf CX0 P w K mg base N qual (defScope st) f (.ref c) A outer s H E).nox (defBody st) t ∧ t { nx := fun _ H' => Q .non H', rt := Q } (L2.start N vs) H) : FnOk P w K mg base CX0 (k + 1) f fd ps sp := by
  obtain ⟨oc, od, kV, doc, pm, an, cdv, ct, osl, rfl, lk, hcd⟩ := F.ex
  obtain rfl : cdv = .ref c := hc
  exact fn_of lk hcd S len fun A outer s H vs Q E hr hsp => by
    obtain ⟨t, h, q⟩ := hbody A outer s H vs Q E hr hsp
    exact ⟨t, h.nox, q⟩
end
end FB
set_option maxHeartbeats 4000000
set_option exponentiation.threshold 3000
/-! Sets of ints and texts: made, filled, asked, sorted; {x}; gcd, lcm. -/
namespace FB
open PySem PySem.Spec PyProof.Rows L2 Evl
section
variable {P : Program} {w : World} {A : Around} {E : Value → Shared → Prop} {s : Shared} {a : Addr} {S : Key → Bool} {n : Nat}
theorem setM_fresh {h : Heap} : SetM0 P w (h.push { cls := .type "set", dict := none, data := .set #[] 0 (.fresh 0 0 (!w.params.followText "set-order")) }) h.objs.size (fun _ => false) 0 :=
  ⟨_, #[], 0, _, Heap.get?_push_size _ rfl, ⟨rfl, rfl, rfl⟩, rfl, rfl, ⟨fun e he => by simp at he, fun k => by simp, by simp, by decide, by rfl, List.Pairwise.nil, by
    show _ ∨ (!w.params.followText "set-order") = true
    cases w.params.followText "set-order" <;> simp⟩⟩
theorem setM_at {h h' : Heap} (R : SetM0 P w h a S n) (k : ∀ o, h.get? a = some o → h'.get? a = some o) : SetM0 P w h' a S n := by
  obtain ⟨o, es, ep, t, ho, r⟩ := R
  exact ⟨o, es, ep, t, k o ho, r⟩
theorem setM_add {k : Key} {x : Value} {Q : Value → Shared → Prop} (hk : (mixKind P w).is k x = true) (hsc : x.scannable = true) (R : SetM0 P w s.heap a S n) (room : n + 1 < scanBound)
    (q : ∀ h', Heap.SameBut a s.heap h' → SetM0 P w h' a (fun j => S j || decide (j = k)) (if S k = true then n else n + 1) → Q .none { s with heap := h', toks := s.toks + 1 }) :
    wpAny (model P w) A (call (.builtin "set.add") [.ref a, x]) Q E s := by
  refine wpAny_call_entry PySem.F.slot_set_add R.setOf.typeIs PySem.F.entry_set_add ?_ (PySem.F.args_set_add_2 _ _)
  unfold Builtin.«set.add» Builtin.Frozenset.oneOther; simp only [List.isEmpty_nil, bind_assoc]
  unfold Builtin.Frozenset.addrOf setAdd; refine wpAny_bind (wpAny_pure ?_)
  try dsimp only
  refine wpAny_bind (wpAny_pure ?_)
  try dsimp only
  refine wpAny_bind (wpAny_holding (wpAny_bind ((mixKind P w).pyHash hk (setM_hashed (s := { s with toks := s.toks + 1 }) hk hsc R room fun g sb r => ?_))))
  show wpAny (model P w) _ (ret Value.none) _ _ _
  exact wpAny_pure ⟨_, rfl, q g sb r⟩
/-- the members, sorted: ints -/
theorem setM_sortedI {Q : Value → Shared → Prop} (R : SetM0 P w s.heap a S n) (hh : A.handled = none) (hI : ∀ k, S k = true → ∃ i : Int, k = .inl i)
    (q : ∀ s' p (out : Array Value) (c : Nat) (ns : List Int), (∀ b o, s.heap.get? b = some o → s'.heap.get? b = some o) → s'.gens = s.gens → s'.os = s.os → s.heap.objs.size ≤ p →
      s'.heap.get? p = some (seqObj "list" out c) → IntsAre out.toList ns → ns.Pairwise (· < ·) → (∀ i : Int, i ∈ ns ↔ S (.inl i) = true) → ns.length = n → Q (.ref p) s') :
    wpAny (model P w) A (call (.builtin "sorted") [.ref a]) Q E s := by
  obtain ⟨o, es, ep, t, ho, hx, hd, hn, T⟩ := R
  have hlen : es.toList.length = n := by rw [Array.length_toList]; exact hn
  have few := T.few
  refine Calls.call_function_entry kind_sorted plain_sorted entry_sorted (args_sorted1 _) (show wpAny (model P w) _ (Builtin.«sorted» _) _ _ _ from ?_)
  unfold Builtin.«sorted»; refine wpAny_bind (m := checkCount "sorted" 1 1 _) (wpAny_pure (wpAny_bind (collect_set (A := A.in1) hh ⟨o, ho, hx.1, hd⟩ T.fits T.few T.ris T.led fun s1 vs k1 hz g1 o1 pm => ?_)))
  have vl : vs.length = n := by rw [pm.length_eq, List.length_map]; exact hlen
  have el : ∀ e ∈ es.toList, ∃ (i : Int) (tk : Tok), e.2 = .int i tk ∧ elKey e = .inl i := fun e he => by
    obtain ⟨⟨k, hk, _⟩, _⟩ := T.el e he
    obtain ⟨i, rfl⟩ := hI k ((T.mem k).mpr ⟨e, he, hk⟩)
    rcases keyIs_shape (show keyIs (.inl i) e.2 = true from hk) with ⟨j, tk, ek, ev⟩ | ⟨z, tk, ek, ev⟩
    · cases ek; exact ⟨i, tk, ev, is_elKey hk⟩
    · cases ek
  have hin : IntsAre vs (vs.map Builtin.Re.reRawOf) := ints_of vs fun v hv => by
    obtain ⟨e, he, rfl⟩ := List.mem_map.mp (pm.mem_iff.mp hv)
    obtain ⟨i, tk, ev, _⟩ := el e he
    exact ⟨i, tk, ev⟩
  have pk : (vs.map Builtin.Re.reRawOf).Perm (es.toList.map fun e => Builtin.Re.reRawOf e.2) := by
    have := pm.map Builtin.Re.reRawOf
    rwa [List.map_map] at this
  refine wpAny_bind (wpAny_newList ?_ (by rw [vl, ← hlen, sizeLine_eq, Array.length_toList]; unfold scanBound at few; omega))
  have oL : (s1.heap.push (seqObj "list" vs.toArray 0)).get? s1.heap.objs.size = some (seqObj "list" vs.toArray 0) := Heap.get?_push_size _ rfl
  refine wpAny_bind (wpAny_holding (wpAny_call_entry PyProof.Rows.slot_list_sort ⟨_, oL, rfl⟩ PyProof.Rows.entry_list_sort (list_sort_treeAny oL hin (by rw [vl, ← hlen, sizeLine_eq, Array.length_toList]; unfold scanBound at few; omega) fun out ns b1 b2 b3 => ⟨_, rfl, ?_⟩) (args_list_sort _)))
  obtain ⟨c, hc⟩ := sortedHeap_at (vs := vs) (out := out) oL
  have pn : ns.Perm (es.toList.map fun e => Builtin.Re.reRawOf e.2) := b2.trans pk
  have raw : ∀ e ∈ es.toList, elKey e = .inl (Builtin.Re.reRawOf e.2) := fun e he => by
    obtain ⟨i, tk, ev, ek⟩ := el e he
    rw [ek, ev]; rfl
  have mk : es.toList.map elKey = (es.toList.map fun e => Builtin.Re.reRawOf e.2).map Sum.inl := by
    rw [List.map_map]; exact List.map_congr_left fun e he => raw e he
  have nd : (es.toList.map fun e => Builtin.Re.reRawOf e.2).Nodup := by
    have := T.nd
    rw [mk] at this
    exact (List.pairwise_map.mp this).imp fun h e => h (by rw [e])
  refine wpAny_pure ⟨_, rfl, q _ s1.heap.objs.size out c ns (fun b u e => ?_) g1 o1 hz hc b1 (lt_of_le_nodup ns b3 (pn.nodup_iff.mpr nd)) (fun i => ?_) (by rw [pn.length_eq, List.length_map]; exact hlen)⟩
  · have e1 := k1 b u e
    have lb := Heap.lt_size e1
    show (sortedHeap (s1.heap.push (seqObj "list" vs.toArray 0)) s1.heap.objs.size vs out).get? b = some u
    rw [sortedHeap_old (Nat.ne_of_lt lb) (by rw [size_push']; exact Nat.lt_succ_of_lt lb)]; exact Heap.get?_push_of_some _ e1
  · rw [pn.mem_iff, T.key, mk]
    simp
theorem strs_of : ∀ (l : List Value), (∀ v ∈ l, ∃ k tk, v = Value.str k tk) → ∃ ss : List Str, StrsAre l ss ∧ ∀ z, z ∈ ss ↔ ∃ tk, Value.str z tk ∈ l
  | [], _ => ⟨[], .nil, fun z => by simp⟩
  | v :: l, h => by
    obtain ⟨k, tk, rfl⟩ := h v (List.mem_cons_self ..)
    obtain ⟨ss, h1, h2⟩ := strs_of l fun u hu => h u (List.mem_cons_of_mem _ hu)
    refine ⟨k :: ss, .cons k tk h1, fun z => ?_⟩
    rw [List.mem_cons, h2]
    constructor
    · rintro (rfl | ⟨t, ht⟩)
      · exact ⟨tk, List.mem_cons_self ..⟩
      · exact ⟨t, List.mem_cons_of_mem _ ht⟩
    · rintro ⟨t, ht⟩
      rcases List.mem_cons.mp ht with e | e
      · cases e; exact .inl rfl
      · exact .inr ⟨t, e⟩
/-- the members, sorted: texts -/
theorem setM_sortedS {Q : Value → Shared → Prop} (R : SetM0 P w s.heap a S n) (hh : A.handled = none) (hI : ∀ k, S k = true → ∃ z : Str, k = .inr z)
    (q : ∀ s' p (out : Array Value) (c : Nat) (zs : List Str), (∀ b o, s.heap.get? b = some o → s'.heap.get? b = some o) → s'.gens = s.gens → s'.os = s.os → s.heap.objs.size ≤ p →
      s'.heap.get? p = some (seqObj "list" out c) → StrsAre out.toList zs → sortedS zs = true → zs.Nodup → (∀ z : Str, z ∈ zs ↔ S (.inr z) = true) → zs.length = n → Q (.ref p) s') :
    wpAny (model P w) A (call (.builtin "sorted") [.ref a]) Q E s := by
  obtain ⟨o, es, ep, t, ho, hx, hd, hn, T⟩ := R
  have hlen : es.toList.length = n := by rw [Array.length_toList]; exact hn
  have few := T.few
  refine Calls.call_function_entry kind_sorted plain_sorted entry_sorted (args_sorted1 _) (show wpAny (model P w) _ (Builtin.«sorted» _) _ _ _ from ?_)
  unfold Builtin.«sorted»; refine wpAny_bind (m := checkCount "sorted" 1 1 _) (wpAny_pure (wpAny_bind (collect_set (A := A.in1) hh ⟨o, ho, hx.1, hd⟩ T.fits T.few T.ris T.led fun s1 vs k1 hz g1 o1 pm => ?_)))
  have vl : vs.length = n := by rw [pm.length_eq, List.length_map]; exact hlen
  have el : ∀ e ∈ es.toList, ∃ (z : Str) (tk : Tok), e.2 = .str z tk ∧ elKey e = .inr z := fun e he => by
    obtain ⟨⟨k, hk, _⟩, _⟩ := T.el e he
    obtain ⟨z, rfl⟩ := hI k ((T.mem k).mpr ⟨e, he, hk⟩)
    rcases keyIs_shape (show keyIs (.inr z) e.2 = true from hk) with ⟨j, tk, ek, ev⟩ | ⟨y, tk, ek, ev⟩
    · cases ek
    · cases ek; exact ⟨z, tk, ev, is_elKey hk⟩
  obtain ⟨ss, hS, hm⟩ := strs_of vs fun v hv => by
    obtain ⟨e, he, rfl⟩ := List.mem_map.mp (pm.mem_iff.mp hv)
    obtain ⟨z, tk, ev, _⟩ := el e he
    exact ⟨z, tk, ev⟩
  refine wpAny_bind (wpAny_newList ?_ (by rw [vl, ← hlen, sizeLine_eq, Array.length_toList]; unfold scanBound at few; omega))
  have oL : (s1.heap.push (seqObj "list" vs.toArray 0)).get? s1.heap.objs.size = some (seqObj "list" vs.toArray 0) := Heap.get?_push_size _ rfl
  refine wpAny_bind (wpAny_holding (wpAny_call_entry PyProof.Rows.slot_list_sort ⟨_, oL, rfl⟩ PyProof.Rows.entry_list_sort (list_sort_treeKAny strKind_oneLt oL hS.keysOf (fun v₁ v₂ rest e => keyKind_strs (by rw [← e]; exact hS)) (by rw [vl, ← hlen, sizeLine_eq, Array.length_toList]; unfold scanBound at few; omega) fun st' b1 b2 => ⟨_, rfl, ?_⟩) (args_list_sort _)))
  obtain ⟨zs, c1, c2, c3⟩ := sorted_out_str hS b1 b2
  obtain ⟨c, hc⟩ := sortedHeap_at (vs := vs) (out := (arrOf st').map (·.2)) oL
  have strV : ∀ {l : List Value} {ss : List Str}, StrsAre l ss → l.map (fun v => match v with | .str z _ => z | _ => ⟨#[]⟩) = ss := fun {l ss} h => by
    induction h with
    | nil => rfl
    | cons y t r ih => rw [List.map_cons, ih]
  have ps : ss.Perm (es.toList.map fun e => match e.2 with | .str z _ => z | _ => ⟨#[]⟩) := by
    have := pm.map (fun v => match v with | .str z _ => z | _ => (⟨#[]⟩ : Str))
    rw [strV hS, List.map_map] at this
    exact this
  have mk : es.toList.map elKey = (es.toList.map fun e => match e.2 with | .str z _ => z | _ => (⟨#[]⟩ : Str)).map Sum.inr := by
    rw [List.map_map]
    exact List.map_congr_left fun e he => by
      obtain ⟨z, tk, ev, ek⟩ := el e he
      rw [ek]
      show _ = Sum.inr (match e.2 with | .str z _ => z | _ => (⟨#[]⟩ : Str))
      rw [ev]
  have nd : (es.toList.map fun e => match e.2 with | .str z _ => z | _ => (⟨#[]⟩ : Str)).Nodup := by
    have := T.nd
    rw [mk] at this
    exact (List.pairwise_map.mp this).imp fun h e => h (by rw [e])
  have pz := c2.trans ps
  refine wpAny_pure ⟨_, rfl, q _ s1.heap.objs.size _ c zs (fun b u e => ?_) g1 o1 hz hc c1 c3 (pz.nodup_iff.mpr nd) (fun z => ?_) (by rw [pz.length_eq, List.length_map]; exact hlen)⟩
  · have e1 := k1 b u e
    have lb := Heap.lt_size e1
    show (sortedHeap (s1.heap.push (seqObj "list" vs.toArray 0)) s1.heap.objs.size vs _).get? b = some u
    rw [sortedHeap_old (Nat.ne_of_lt lb) (by rw [size_push']; exact Nat.lt_succ_of_lt lb)]; exact Heap.get?_push_of_some _ e1
  · rw [pz.mem_iff, T.key, mk]
    simp
end
/-! ### the rules -/
section
variable {X : Cx} {pins : List (Addr × Obj)} {σ : L2.St} {H : Hp} {s : Shared} {a : Addr} {S : Key → Bool} {n : Nat}
theorem setM_get {P : Program} {w : World} (hP : X.prog = P) (hw : X.w = w) (I : Inv X pins σ H s) (ha : H a = some (SetM P w a S n)) : SetM0 X.prog X.w s.heap a S n := by
  subst hP hw
  exact (I.hok a _ ha).1
/-- set() -/
def rSetNew (P : Program) (w : World) : List V → Hp → VK → Prop := fun xs H Q => xs = [] ∧ ∀ p, H p = none → Q (.ref p) (upd H p (SetM P w p (fun _ => false) 0))
theorem call_setM {P : Program} {w : World} (hP : X.prog = P := by rfl) (hw : X.w = w := by rfl) : CallR X (.type "set") (rSetNew P w) := by
  subst hP hw
  intro pins s σ H xs us Q I r ⟨ex, q⟩
  subst ex
  cases r
  exact setR_new fun _ => ⟨.ref _, upd H s.heap.objs.size (SetM X.prog X.w s.heap.objs.size (fun _ => false) 0), I.laid (t' := s.toks) (fun b u e => Heap.get?_push_of_some _ e) (Nat.le_refl _) (setM_obj setM_fresh), rfl, q _ (I.hok.fresh (Nat.le_refl _))⟩
/-- m.add(k) -/
def rSetAdd (P : Program) (w : World) : V → List V → Hp → VK → Prop := fun x xs H Q => ∃ (a : Addr) (k : Key) (S : Key → Bool) (n : Nat), x = V.ref a ∧ xs = [kV k] ∧ H a = some (SetM P w a S n) ∧ n + 1 < scanBound ∧
  Q .non (upd H a (SetM P w a (fun j => S j || decide (j = k)) (if S k = true then n else n + 1)))
theorem inv_add {k : Key} {h' : Heap} (I : Inv X pins σ H s) (ha : H a = some (SetM X.prog X.w a S n)) (sb : Heap.SameBut a s.heap h') (r : SetM0 X.prog X.w h' a (fun j => S j || decide (j = k)) (if S k = true then n else n + 1)) :
    Inv X pins σ (upd H a (SetM X.prog X.w a (fun j => S j || decide (j = k)) (if S k = true then n else n + 1))) { s with heap := h', toks := s.toks + 1 } :=
  I.write (e := a) (t' := s.toks + 1) (by rw [ha]; exact True.intro) (.inl rfl) (fun b u hb hu => (sb.2 b hb).trans hu) (let ⟨o, _, _, _, e, _⟩ := r; ⟨o, e⟩) (setM_obj r)
theorem mt_setAdd : MtR X "set.add" (rSetAdd X.prog X.w) := fun pins s σ H x xs v us Q I rx rxs ⟨a, k, S, n, ex, exs, ha, room, q⟩ => by
  subst ex exs
  cases rx
  cases rxs with
  | cons ry rt =>
    cases rt
    exact setM_add (kV_is ry) (key_scan ry) (setM_get rfl rfl I ha) room fun g sb r => ⟨.non, _, inv_add I ha sb r, rfl, q⟩
def tSetAdd (P : Program) (w : World) (to : TE) (t : TA) : TE := fun σ H Q => to σ H fun x H1 => (∃ a S n, x = V.ref a ∧ H1 a = some (SetM P w a S n)) ∧ t σ H1 fun xs H2 => rSetAdd P w x xs H2 Q
variable {o e : Expr} {es : List Expr} {to : TE} {t : TA} {ap cp : Pos}
theorem pe_setAdd {P : Program} {w : World} (ho : PE X o to) (ha : PA X (e :: es) t) (hP : X.prog = P := by rfl) (hw : X.w = w := by rfl) (h1 : attributeBase o "add" X.env (eval o X.env) = eval o X.env := by rfl)
    (h2 : ((backTo cp (starEach (e :: es) X.env)).all (fun x => !x.1) && (backToKw cp (keywordEach [] X.env)).all (fun x => x.1.isSome) && decide ((e :: es).length + ([] : List Keyword).length + (if ([] : List Keyword).isEmpty then 0 else 1) < 30)) = true := by rfl)
    (h3 : (ap.endLine == cp.line) = true := by rfl) (h4 : starEach (e :: es) X.env = (false, eval e X.env) :: starEach es X.env := by rfl) (h5 : (backTo cp (starEach es X.env)).any (·.1) = false := by rfl) : PE X (.Call (.Attribute o "add" ap) (e :: es) [] cp) (tSetAdd P w to t) := by
  subst hP hw
  refine ⟨fun pins s σ H Q I h => wpAny_Call_method_late h1 h2 h3 rfl (thn (ho.run pins s σ H _ I h) fun v s1 ⟨x, H1, I1, r1, ty, q1⟩ => ?_)⟩
  obtain ⟨a, S, n, rfl, hka⟩ := ty
  have R := (setM_get rfl rfl I1 hka).setOf
  cases r1
  refine ⟨"set", "set.add", PySem.F.plainAttrs_set, PySem.F.slot_set_add, PySem.F.type_set_add, R.typeIs, R.noDict, ?_⟩
  have run := ha.run cp pins s1 σ H1 _ I1 q1
  rw [h4] at run ⊢
  exact Calls.callWith_builtin (show (false || (backTo cp (starEach es X.env)).any (·.1)) = false by rw [h5]; rfl) (Calls.evalArgs_plain (thn run fun us s2 ⟨vs, H2, I2, r2, q2⟩ => mt_setAdd pins s2 σ H2 (.ref a) vs (.ref a) us Q I2 rfl r2 q2))
/-- k in m, k not in m -/
def rSetIn (P : Program) (w : World) (neg : Bool) : V → V → Hp → VK → Prop := fun x y H Q => ∃ (k : Key) (a : Addr) (S : Key → Bool) (n : Nat), x = kV k ∧ y = V.ref a ∧ H a = some (SetM P w a S n) ∧ Q (.bl (if neg then !S k else S k)) H
theorem op_inM {P : Program} {w : World} (hP : X.prog = P := by rfl) (hw : X.w = w := by rfl) : OpR X (compareOp .In) (rSetIn P w false) := by
  subst hP hw
  intro pins s σ H x y v u Q I rx ry ⟨k, a, S, n, ex, ey, ha, q⟩
  subst ex ey
  cases ry
  exact wpAny_inSet_of (kV_is rx) (key_scan rx) (setM_get rfl rfl I ha).setOf ⟨.bl (S k), H, I.tok _, rfl, q⟩
/-- sorted(m): ints; texts -/
def rSortM (P : Program) (w : World) : List V → Hp → VK → Prop := fun vs H Q => ∃ (a : Addr) (S : Key → Bool) (n : Nat), vs = [V.ref a] ∧ H a = some (SetM P w a S n) ∧ n ≤ 1000 ∧
  (((∀ k, S k = true → ∃ i : Int, k = .inl i) ∧ ∀ (ns : List Int) (p : Addr), ns.Pairwise (· < ·) → (∀ i : Int, i ∈ ns ↔ S (.inl i) = true) → ns.length = n → H p = none → Q (.ref p) (upd H p (.lst (ns.map V.int)))) ∨
   ((∀ k, S k = true → ∃ z : Str, k = .inr z) ∧ ∀ (zs : List Str) (p : Addr), sortedS zs = true → zs.Nodup → (∀ z : Str, z ∈ zs ↔ S (.inr z) = true) → zs.length = n → H p = none → Q (.ref p) (upd H p (.lst (zs.map V.str)))))
theorem call_sortM {P : Program} {w : World} (hc : X.calm = true) (hP : X.prog = P := by rfl) (hw : X.w = w := by rfl) : CallR X (.builtin "sorted") (rSortM P w) := by
  subst hP hw
  intro pins s σ H vs us Q I r ⟨a, S, n, ex, ha, hn, hq⟩
  subst ex
  rw [Vals.ref1 r]
  have lay : ∀ (s' : Shared) (p : Nat) (out : Array Value) (c : Nat) (ys : List V), (∀ b o, s.heap.get? b = some o → s'.heap.get? b = some o) → s'.gens = s.gens → s'.os = s.os → s.heap.objs.size ≤ p →
      s'.heap.get? p = some (seqObj "list" out c) → ys.length ≤ 1000 → Vals ys out.toList → (H p = none → Q (.ref p) (upd H p (.lst ys))) → EP X pins σ Q (.ref p) s' := by
    intro s' p out c ys k g o hp hg hl hv q
    have hl2 : ys.length ≤ sizeLine := by rw [sizeLine_eq]; omega
    have hn : H p = none := I.hok.fresh hp
    have J : Inv X pins σ (upd H p (.lst ys)) { s with heap := s'.heap, gens := s'.gens, drawn := s'.drawn, toks := s'.toks } := I.call (ch := []) (Un.laid k hp hn) (I.hok.laid k hp ⟨hl2, out.toList, c, hv, hg⟩) (by rw [g]; exact I.bare) (fun _ z => nomatch z)
    have e : s' = { s with heap := s'.heap, gens := s'.gens, drawn := s'.drawn, toks := s'.toks } := by
      cases s'; cases s; cases o; rfl
    rw [e]
    exact ⟨.ref p, _, J, rfl, q hn⟩
  rcases hq with ⟨hI, q⟩ | ⟨hI, q⟩
  · exact setM_sortedI (setM_get rfl rfl I ha) (I.ok.hd hc) hI fun s' p out c ns k g o hp hg hi hs hm hl => lay s' p out c (ns.map V.int) k g o hp hg (by rw [List.length_map]; omega) (vals_of_ints hi) fun hn => q ns p hs hm hl hn
  · exact setM_sortedS (setM_get rfl rfl I ha) (I.ok.hd hc) hI fun s' p out c zs k g o hp hg hi hs nd hm hl => lay s' p out c (zs.map V.str) k g o hp hg (by rw [List.length_map]; omega) (vals_of_strs hi) fun hn => q zs p hs nd hm hl hn
/-- {x} -/
def tSet1 (P : Program) (w : World) (t : TE) : TE := fun σ H Q => ∀ p, H p = none → t σ (upd H p (SetM P w p (fun _ => false) 0)) fun x H1 => ∃ k : Key, x = kV k ∧ H1 p = some (SetM P w p (fun _ => false) 0) ∧ Q (.ref p) (upd H1 p (SetM P w p (fun j => decide (j = k)) 1))
theorem newSet_at {P : Program} {w : World} {A : Around} {E : Value → Shared → Prop} {Q : Value → Shared → Prop} (q : Q (.ref s.heap.objs.size) { s with heap := s.heap.push { cls := .type "set", dict := none, data := .set #[] 0 (.fresh 0 0 (!w.params.followText "set-order")) } }) :
    wpAny (model P w) A (newSet (.type "set")) Q E s := by
  unfold newSet
  unfold setsByText
  refine wpAny_bind (wpAny_bind (wpAny_askSetting (wpAny_pure ?_)))
  dsimp only
  exact wpAny_newObj_type q
theorem pe_set1 {P : Program} {w : World} {te : TE} {ps : Pos} (h : PE X e te) (hcd : PySem.W.kdsCode X.K X.env.code = true) (hP : X.prog = P := by rfl) (hw : X.w = w := by rfl) (hs : PySem.W.kdsPlain e = true := by rfl) : PE X (.Set [e] 0 ps) (tSet1 P w te) := by
  subst hP hw
  refine ⟨fun pins s σ H Q I hq => ?_⟩
  rw [arm_eval_Set]
  refine wpAny_bind (wpAny_standAt (wpAny_bind (PySem.W.kds_main I.kIn hcd fun b => ?_)))
  rw [PySem.W.kds_star [e] (by rw [List.all_cons, hs]; rfl), arm_evalEach_cons]
  show wpAny (model X.prog X.w) X.A (setDisplay (displayRoad 0 [e]) b [(false, eval e X.env >>= fun v => standAt ps >>= fun _ => pure v)]) _ _ s
  unfold setDisplay
  have road : displayRoad 0 [e] = .oneByOne := by unfold displayRoad; simp
  rw [road]
  rw [if_neg (show ¬ ((DisplayRoad.oneByOne == DisplayRoad.constants) = true) from by decide)]
  refine wpAny_bind (newSet_at ?_)
  dsimp only
  simp only [List.length_cons, List.length_nil, List.findIdx?_cons, List.findIdx?_nil, Option.getD_none, List.take_succ_cons, List.take_zero, List.map_cons, List.map_nil, List.drop_succ_cons, List.drop_zero, List.drop_nil, List.take_nil]
  rw [show (if 0 + 1 > 30 then 0 else ((if false = true then some 0 else Option.map (fun i => i + 1) none) : Option Nat).getD (0 + 1)) = 1 from rfl, List.take_succ_cons, List.take_zero, List.drop_succ_cons, List.drop_zero, List.map_cons, List.map_nil, List.forIn_nil]
  have fresh : H s.heap.objs.size = none := I.hok.fresh (Nat.le_refl _)
  have I0 : Inv X pins σ (upd H s.heap.objs.size (SetM X.prog X.w s.heap.objs.size (fun _ => false) 0)) { s with heap := s.heap.push { cls := .type "set", dict := none, data := .set #[] 0 (.fresh 0 0 (!X.w.params.followText "set-order")) } } :=
    I.laid (t' := s.toks) (fun b u e => Heap.get?_push_of_some _ e) (Nat.le_refl _) (setM_obj setM_fresh)
  refine wpAny_bind (wpAny_holding (wpAny_bind (PySem.W.kds_all ps [e] _ _ (thn (h.run pins _ σ _ _ I0 (hq _ fresh)) fun v s1 ⟨x, H1, I1, r1, k, ex, hm, q⟩ => ?_))))
  subst ex
  refine wpAny_bind (wpAny_holding ?_)
  rw [List.forIn_cons]
  have R := setM_get rfl rfl I1 hm
  refine wpAny_bind (wpAny_bind (wpAny_bind ?_))
  unfold setAdd; refine wpAny_holding (wpAny_bind ((mixKind X.prog X.w).pyHash (kV_is r1) (setM_hashed (s := { s1 with toks := s1.toks + 1 }) (kV_is r1) (key_scan r1) R (by decide) fun g sb r => ?_)))
  have J := inv_add I1 hm sb r
  have eS : (fun j => (fun _ : Key => false) j || decide (j = k)) = fun j => decide (j = k) := by funext j; simp
  rw [show (if (fun _ : Key => false) k = true then 0 else 0 + 1) = 1 from rfl, eS] at J
  refine wpAny_pure ?_
  dsimp only
  rw [List.forIn_nil]
  refine wpAny_pure ?_
  rw [if_neg (show ¬ ((DisplayRoad.oneByOne == DisplayRoad.unsure) = true) from by decide)]
  exact wpAny_pure (wpAny_bind (wpAny_pure (wpAny_pure (wpAny_pure ⟨.ref _, _, J, rfl, q⟩))))
/-! ### readings -/
section
variable {P : Program} {w : World} {H : Hp} {Q : VK} {a : Addr} {S : Key → Bool} {n : Nat} {k : Key}
theorem x_setNew (q : ∀ p H', H p = none → Ex H H' → H' p = some (SetM P w p (fun _ => false) 0) → Q (.ref p) H') : rSetNew P w [] H Q := ⟨rfl, fun p hp => q p _ hp (Ex.new hp) upd_same⟩
def rSetAddI (P : Program) (w : World) (x : V) (H : Hp) : Prop := ∃ a S n, x = V.ref a ∧ H a = some (SetM P w a S n)
theorem x_tSetAdd {to : TE} {t : TA} {σ : L2.St} : tSetAdd P w to t σ H Q = to σ H fun x H1 => rSetAddI P w x H1 ∧ t σ H1 fun xs H2 => rSetAdd P w x xs H2 Q := rfl
theorem x_setIs (h : H a = some (SetM P w a S n)) : rSetAddI P w (.ref a) H := ⟨a, S, n, rfl, h⟩
theorem x_setAdd (h : H a = some (SetM P w a S n)) (hn : n < 1000) (q : ∀ H', (∀ x o, x ≠ a → H x = some o → H' x = some o) → (∀ x, x ≠ a → H' x = none → H x = none) → H' a = some (SetM P w a (fun j => S j || decide (j = k)) (if S k = true then n else n + 1)) → Q .non H') :
    rSetAdd P w (.ref a) [kV k] H Q :=
  ⟨a, k, S, n, rfl, rfl, h, by unfold scanBound; omega, q _ (fun x o hx e => by rw [upd_ne hx]; exact e) (fun x hx e => by rw [upd_ne hx] at e; exact e) upd_same⟩
theorem x_setIn {neg : Bool} (h : H a = some (SetM P w a S n)) (q : Q (.bl (if neg then !S k else S k)) H) : rSetIn P w neg (kV k) (.ref a) H Q := ⟨k, a, S, n, rfl, rfl, h, q⟩
theorem x_sortMI (h : H a = some (SetM P w a S n)) (hn : n ≤ 1000) (hI : ∀ k, S k = true → ∃ i : Int, k = .inl i)
    (q : ∀ (ns : List Int) (p : Addr) (H' : Hp), ns.Pairwise (· < ·) → (∀ i : Int, i ∈ ns ↔ S (.inl i) = true) → ns.length = n → H p = none → Ex H H' → H' p = some (.lst (ns.map V.int)) → Q (.ref p) H') : rSortM P w [.ref a] H Q :=
  ⟨a, S, n, rfl, h, hn, .inl ⟨hI, fun ns p h1 h2 h3 h4 => q ns p _ h1 h2 h3 h4 (Ex.new h4) upd_same⟩⟩
theorem x_sortMS (h : H a = some (SetM P w a S n)) (hn : n ≤ 1000) (hI : ∀ k, S k = true → ∃ z : Str, k = .inr z)
    (q : ∀ (zs : List Str) (p : Addr) (H' : Hp), sortedS zs = true → zs.Nodup → (∀ z : Str, z ∈ zs ↔ S (.inr z) = true) → zs.length = n → H p = none → Ex H H' → H' p = some (.lst (zs.map V.str)) → Q (.ref p) H') : rSortM P w [.ref a] H Q :=
  ⟨a, S, n, rfl, h, hn, .inr ⟨hI, fun zs p h1 h2 h3 h4 h5 => q zs p _ h1 h2 h3 h4 h5 (Ex.new h5) upd_same⟩⟩
theorem x_tSet1I {i : Int} {σ : L2.St} (q : ∀ p H', H p = none → Ex H H' → H' p = some (SetM P w p (fun j => decide (j = (.inl i : Key))) 1) → Q (.ref p) H') : tSet1 P w (tC (.int i)) σ H Q := fun p hp =>
  ⟨.inl i, rfl, upd_same, by rw [upd_upd]; exact q p _ hp (Ex.new hp) upd_same⟩
end
end
/-! ### gcd and lcm, numbers of any size that stay small enough -/
section
variable {X : Cx}
def rGcdU (vs : List V) (H : Hp) (Q : VK) : Prop := ∃ a b : Int, vs = [.int a, .int b] ∧ Q (.int ((Nat.gcd a.natAbs b.natAbs : Nat) : Int)) H
theorem call_gcdU : CallR X (.builtin "math.gcd") rGcdU := cr_gcd
def rLcmU (vs : List V) (H : Hp) (Q : VK) : Prop := ∃ a b : Nat, vs = [.int a, .int b] ∧ a < 2 ^ 1000 ∧ b < 2 ^ 1000 ∧ Q (.int ((Nat.lcm a b : Nat) : Int)) H
theorem call_lcmU : CallR X (.builtin "math.lcm") rLcmU := by
  intro pins s σ H vs us Q I r ⟨a, b, ex, ha, hb, q⟩
  subst ex
  obtain ⟨t, u, rfl⟩ := Vals.int2 r
  have l1 : (max 1 (a : Int).natAbs).log2 ≤ 999 := PySem.W.mg_log (by show max 1 (a : Int).natAbs < 2 ^ 1000; rw [Int.natAbs_natCast]; exact Nat.max_lt.mpr ⟨by decide, ha⟩)
  have l2 : (max (a : Int).natAbs (b : Int).natAbs).log2 ≤ 999 := PySem.W.mg_log (by show max (a : Int).natAbs (b : Int).natAbs < 2 ^ 1000; rw [Int.natAbs_natCast, Int.natAbs_natCast]; exact Nat.max_lt.mpr ⟨ha, hb⟩)
  have e1 : (Nat.lcm 1 (a : Int).natAbs).lcm (b : Int).natAbs = Nat.lcm a b := by rw [PySem.W.mc_lcm_one, Int.natAbs_natCast, Int.natAbs_natCast]
  have hs : ((((Nat.lcm 1 (a : Int).natAbs).lcm (b : Int).natAbs : Nat) : Int)).natAbs.log2 < bitsLine := by
    rw [e1, Int.natAbs_natCast]
    have : Nat.lcm a b < 2 ^ 2000 := Nat.lt_of_le_of_lt (PySem.W.mc_lcm_le a b) (by
      rw [show (2 : Nat) ^ 2000 = 2 ^ 1000 * 2 ^ 1000 by rw [← Nat.pow_add]]
      exact Nat.mul_lt_mul'' ha hb)
    have h3 : (Nat.lcm a b).log2 ≤ 1999 := PySem.W.mg_log this
    have : bitsLine = 134217728 := by decide
    omega
  have m := PySem.W.mg_run_lcm (a : Int) t (b : Int) u (by omega) (by omega) hs
  rw [e1] at m
  exact PySem.call_function_meets PySem.W.MGF.kind_lcm PySem.W.MGF.plain_lcm PySem.W.MGF.entry_lcm (PySem.W.MGF.args_lcm _ _) m.meets ⟨.int _, H, I.tok _, ⟨_, rfl⟩, q⟩
end
end FB
/-! zip of a tuple and a list: each side by a flag (a tuple: true). -/
namespace FB
open PySem PySem.Spec PyProof.Rows L2 Evl
def ItAt (tp : Bool) (h : Heap) (i l : Addr) (k : Nat) : Prop := match tp with | true => h.IsTupleIter i l k | false => h.IsListIter i l k
def CoAt (tp : Bool) (h : Heap) (l : Addr) (us : Array Value) : Prop := match tp with | true => h.IsTuple l us | false => h.IsList l us
section
variable {tp : Bool} {h h' : Heap} {i l c : Addr} {k : Nat} {us : Array Value}
theorem ItAt.but (t : ItAt tp h i l k) (e : Heap.ExtBut c h h') (n : i ≠ c) : ItAt tp h' i l k := by
  cases tp
  · exact Heap.IsListIter.extBut t e n
  · exact Heap.IsTupleIter.extBut t e n
theorem CoAt.but (t : CoAt tp h l us) (e : Heap.ExtBut c h h') (n : l ≠ c) : CoAt tp h' l us := by
  cases tp
  · exact Heap.IsList.extBut t e n
  · exact Heap.IsTuple.extBut t e n
theorem ItAt.kept (t : ItAt tp h i l k) (e : ∀ o, h.get? i = some o → h'.get? i = some o) : ItAt tp h' i l k := by
  cases tp
  · exact Heap.IsListIter.at t e
  · exact Heap.IsTupleIter.at t e
theorem ItAt.ob (t : ItAt tp h i l k) : ∃ o, h.get? i = some o ∧ ∀ v, o.data ≠ .cell v := by
  cases tp
  · obtain ⟨o, e, _, d⟩ := t
    exact ⟨o, e, fun v z => by rw [d] at z; cases z⟩
  · obtain ⟨o, e, _, d⟩ := t
    exact ⟨o, e, fun v z => by rw [d] at z; cases z⟩
theorem CoAt.ob (t : CoAt tp h l us) : ∃ o, h.get? l = some o := by
  cases tp
  · obtain ⟨o, e, _⟩ := t
    exact ⟨o, e⟩
  · obtain ⟨o, e, _⟩ := t
    exact ⟨o, e⟩
end
section
variable {P : Program} {w : World} {A : Around} {E : Value → Shared → Prop} {s : Shared} {tp tq : Bool} {i l : Addr} {k : Nat} {us : Array Value} {u : Value}
variable {z a1 a2 j l2 : Addr} {k2 : Nat} {ws : Array Value} {v x y : Value}
/-- what stands around a zip object: its two iterators and the tuple that it hands out -/
structure Zp (tp tq : Bool) (h : Heap) (z a1 a2 i j l l2 : Addr) (k k2 : Nat) (us ws : Array Value) (x y f : Value) : Prop where
  ap : ZipApart z a1 a2 i j l l2
  zip : IsZip h z a1 a2 f
  its : IsPair h a1 (.ref i) (.ref j)
  out : IsPair h a2 x y
  one : ItAt tp h i l k
  two : ItAt tq h j l2 k2
  co : CoAt tp h l us
  co2 : CoAt tq h l2 ws
section
variable {f : Value} {h : Heap}
end
end
/-- a tuple at a and a list at b, turn by turn: a new pair -/
def ItzX (K : PySem.W.Frag) (a b : Addr) : It :=
  ⟨fun i H => ∃ (xs ys : List V) (x y : V), SqT K H a xs ∧ SqL K H b ys ∧ xs[i]? = some x ∧ ys[i]? = some y,
    fun i H v H' => ∃ T x y, v = .ref T ∧ H T = none ∧ H' = upd H T (.tup [x, y]) ∧ (∀ xs, SqT K H a xs → xs[i]? = some x) ∧ ∀ ys, SqL K H b ys → ys[i]? = some y,
    fun i H => ∃ xs ys : List V, SqT K H a xs ∧ SqL K H b ys ∧ (xs.length ≤ i ∨ ys.length ≤ i)⟩
section
variable {P : Program} {w : World} {A : Around} {E : Value → Shared → Prop} {s : Shared} {a b : Addr} {us ws : Array Value}
end
def iZipX (K : PySem.W.Frag) (ta : TA) : TI := fun σ H R => ta σ H fun vs H1 => ∃ a b xs ys, vs = [.ref a, .ref b] ∧ SqT K H1 a xs ∧ SqL K H1 b ys ∧ R (ItzX K a b) H1
theorem x_iZipX {K : PySem.W.Frag} {ta : TA} {σ : L2.St} {H : Hp} {R : It → Hp → Prop} : iZipX K ta σ H R = ta σ H fun vs H1 => ∃ a b xs ys, vs = [.ref a, .ref b] ∧ SqT K H1 a xs ∧ SqL K H1 b ys ∧ R (ItzX K a b) H1 := rfl
end FB
/-! list(d.values()); k in d; loops over a dict's keys; == of dicts of tuples. -/
namespace FB
open PySem PySem.Spec PyProof.Rows L2 Evl
theorem vals_snd {kvs : List (Key × V)} {vs : List (Key × Value)} (r : KV kvs vs) : Vals (kvs.map (·.2)) (vs.map (·.2)) := by
  unfold KV at r
  induction r with
  | nil => exact .nil
  | cons h _ ih => exact .cons h.2 ih
/-- the view of the values of the dict at d -/
def ViewO (v d : Addr) : HO := .ext fun h => h.IsValuesView v d
section
variable {X : Cx}
def rVals : V → List V → Hp → VK → Prop := fun x xs H Q => ∃ (d : Addr) (kvs : List (Key × V)), x = .ref d ∧ xs = [] ∧ H d = some (.dK kvs) ∧ ∀ v, H v = none → Q (.ref v) (upd H v (ViewO v d))
theorem mt_vals : MtR X "dict.values" rVals := by
  intro pins s σ H x xs v us Q I rx rxs ⟨d, kvs, ex, exs, hd, q⟩
  subst ex exs
  cases rx
  cases rxs
  obtain ⟨_, lo, vs, _, dd⟩ := dk_of I.hok hd
  refine call_meetsIn PySem.F.slot_dict_values dd.typeIs PySem.F.entry_dict_values (PySem.F.args_dict_values_1 _) (meets_dict_values (mixKind X.prog X.w) d lo) ⟨⟨vs, dd⟩, ?_⟩
  have view : (s.heap.push { cls := .type "dict_values", data := .fields #[.ref d] }).IsValuesView s.heap.objs.size d := ⟨_, Heap.get?_push_size _ rfl, rfl, rfl⟩
  refine ⟨.ref s.heap.objs.size, upd H s.heap.objs.size (ViewO s.heap.objs.size d), I.laid (t' := s.toks) (fun b u e => Heap.get?_push_of_some _ e) (Nat.le_refl _) ⟨view, ⟨_, Heap.get?_push_size _ rfl⟩, fun h1 h2 r k => let ⟨o, e, c, f⟩ := r; ⟨o, k _ e, c, f⟩⟩, rfl, q _ (I.hok.fresh (Nat.le_refl _))⟩
end
section
variable {K : PySem.W.Frag} {H : Hp} {Q : VK} {a b d v : Addr} {kvs ka kb : List (Key × V)} {k : Key}
theorem x_tyD (h : H d = some (.dK kvs)) : tyV K "dict" (.ref d) H := .inr (.inr (.inl ⟨rfl, .inl ⟨kvs, h⟩⟩))
theorem x_vals (h : H d = some (.dK kvs)) (q : ∀ v H', H v = none → Ex H H' → H' v = some (ViewO v d) → Q (.ref v) H') : rVals (.ref d) [] H Q := ⟨d, kvs, rfl, rfl, h, fun v hv => q v _ hv (Ex.new hv) upd_same⟩
/-- k in d -/
def rDIn (y x : V) (H : Hp) (Q : VK) : Prop := ∃ a o, x = .ref a ∧ DGet H a y o ∧ Q (.bl o.isSome) H
theorem x_tDIn {ty td : TE} {σ : L2.St} : tDIn ty td σ H Q = ty σ H fun y H1 => td σ H1 fun x H2 => rDIn y x H2 Q := rfl
/-- keys of a locked dict -/
def rKeys (x : V) (H : Hp) (R : It → Hp → Prop) : Prop := ∃ d o, x = .ref d ∧ ((∃ kvs, H d = some (.frz o (.dK kvs)) ∧ R (Itk d o kvs) H) ∨ ∃ kvs, H d = some (.frz o (.dT kvs)) ∧ R (Itkt d o kvs) H)
theorem x_iKeys {td : TE} {σ : L2.St} {R : It → Hp → Prop} : iKeys td σ H R = td σ H fun x H1 => rKeys x H1 R := rfl
end
end FB
set_option maxHeartbeats 1000000
/-! own classes: fields, methods, instances; while without a rule of monotony -/
namespace FB
open PySem PySem.Spec PyProof.Rows L2 Evl
section
variable {K : PySem.W.Frag} {H : Hp} {Q : VK} {ta tv : TE} {t : TA} {f m : Str} {σ : L2.St} {D : Ends} {C : Addr} {sp : Sp} {dvs : List V} {E : XK} {a dx : Addr} {fs : List (Str × V)} {v : V}
def rFld (K : PySem.W.Frag) (x : V) (f : Str) (H : Hp) (Q : VK) : Prop := ∃ a C dx fs v, x = .ref a ∧ H a = some (.ins C dx fs) ∧ Cls K C ∧ NoAttr K C f ∧ fs.lookup f = some v ∧ Q v H
theorem x_tFld : tFld K ta f σ H Q = ta σ H fun x H1 => rFld K x f H1 Q := rfl
theorem x_fld (h : H a = some (.ins C dx fs)) (c : Cls K C) (n : NoAttr K C f) (l : fs.lookup f = some v) (q : Q v H) : rFld K (.ref a) f H Q := ⟨a, C, dx, fs, v, rfl, h, c, n, l, q⟩
def rMethO (C : Addr) (m : Str) (x : V) (H : Hp) (G : Prop) : Prop := ∃ a dx fs, x = .ref a ∧ H a = some (.ins C dx fs) ∧ fs.lookup m = none ∧ G
theorem x_tMeth : tMeth C m sp dvs E ta t σ H Q = ta σ H fun x H1 => rMethO C m x H1 (t σ H1 fun vs H2 => sp (x :: (vs ++ dvs)) H2 Q E) := rfl
theorem x_meth {G : Prop} (h : H a = some (.ins C dx fs)) (l : fs.lookup m = none) (g : G) : rMethO C m (.ref a) H G := ⟨a, dx, fs, rfl, h, l, g⟩
def rSetF (K : PySem.W.Frag) (x : V) (f : Str) (y : V) (H : Hp) (N : Hp → Prop) : Prop := ∃ a C dx fs, x = .ref a ∧ H a = some (.ins C dx fs) ∧ Cls K C ∧ NoAttr K C f ∧ fs.length < 1000 ∧ N (upd H a (.ins C dx (putF f y fs)))
theorem x_sFld : sFld K ta tv f D σ H = tv σ H fun y H1 => ta σ H1 fun x H2 => rSetF K x f y H2 (D.nx σ) := rfl
theorem x_setF {N : Hp → Prop} {y : V} (h : H a = some (.ins C dx fs)) (c : Cls K C) (n : NoAttr K C f) (l : fs.length < 1000) (q : ∀ H', (∀ x o, x ≠ a → H x = some o → H' x = some o) → (∀ x, x ≠ a → H' x = none → H x = none) → H' a = some (.ins C dx (putF f y fs)) → N H') : rSetF K (.ref a) f y H N :=
  ⟨a, C, dx, fs, rfl, h, c, n, l, q _ (fun x o hx e => by rw [upd_ne hx]; exact e) (fun x hx e => by rw [upd_ne hx] at e; exact e) upd_same⟩
def rMakeO (C : Addr) (sp : Sp) (dvs : List V) (E : XK) (vs : List V) (H : Hp) (Q : VK) : Prop := ∀ x dx, H x = none → H dx = none → dx ≠ x → sp (.ref x :: (vs ++ dvs)) (upd (upd H dx (.own x)) x (.ins C dx [])) (fun v H2 => v = .non ∧ Q (.ref x) H2) E
theorem x_tMake : tMake C sp dvs E t σ H Q = t σ H fun vs H1 => rMakeO C sp dvs E vs H1 Q := rfl
theorem x_make {vs : List V} (q : ∀ x dx H', H x = none → Ex H H' → H' x = some (.ins C dx []) → sp (.ref x :: (vs ++ dvs)) H' (fun v H2 => v = .non ∧ Q (.ref x) H2) E) : rMakeO C sp dvs E vs H Q := fun x dx hx hd ne => q x dx _ hx (fun b o e => by
    rw [upd_ne (ne_of_none e hx), upd_ne (ne_of_none e hd)]; exact e) upd_same
theorem x_ipI {g : Int → Int → Int} {i j : Int} : ipI g (.int i) (.int j) H Q ↔ Q (.int (g i j)) H := by
  constructor
  · rintro ⟨_, _, e1, e2, q⟩
    cases e1; cases e2; exact q
  · exact fun q => ⟨_, _, rfl, rfl, q⟩
def rDNotIn (y x : V) (H : Hp) (Q : VK) : Prop := ∃ a o, x = .ref a ∧ DGet H a y o ∧ Q (.bl (!o.isSome)) H
theorem x_tDNotIn {ty td : TE} : tDNotIn ty td σ H Q = ty σ H fun y H1 => td σ H1 fun x H2 => rDNotIn y x H2 Q := rfl
theorem x_dNotIn {kvs : List (Key × V)} {k : Key} (h : H a = some (.dK kvs)) (q : Q (.bl (!(valV kvs k).isSome)) H) : rDNotIn (kV k) (.ref a) H Q := ⟨a, _, rfl, DGet.k h, q⟩
end
theorem while_raw {c : TT} {tb : TS} {D : Ends} {σ : L2.St} {H : Hp} (Pv : L2.St → Hp → Prop) (μ : L2.St → Hp → Nat) (h0 : Pv σ H)
    (hs : ∀ σ H, Pv σ H → ∀ R : Bool → Hp → Prop, (∀ H1, tb { D with nx := fun σ' H' => Pv σ' H' ∧ μ σ' H' < μ σ H, ct := fun σ' H' => Pv σ' H' ∧ μ σ' H' < μ σ H, bk := D.nx } σ H1 → R true H1) → (∀ H1, D.nx σ H1 → R false H1) → c σ H R) : tWhile c tb D σ H := by
  refine ⟨fun m σ H => m = μ σ H ∧ Pv σ H, ⟨_, rfl, h0⟩, ?_⟩
  rintro m σ H ⟨rfl, p⟩
  exact hs σ H p _ (fun H1 q => ⟨_, fun σ' H' ⟨p', l⟩ => ⟨_, l, rfl, p'⟩, q⟩) fun H1 q => q
/-- a method of a class: its code, where it stands, how it is called -/
structure Mf (K : PySem.W.Frag) (C : Addr) (m qual : Str) (st : Stmt) (ps : List Str) (f : Addr) (fd : FuncData) : Prop where
  F : Fun K m qual st f fd
  m : Meth K C m f
  b : Binds K fd ps []
/-- a class with its own __init__ -/
structure Cf (K : PySem.W.Frag) (mg : Str → Option Value) (x qual : Str) (C : Addr) (st : Stmt) (ps : List Str) (f : Addr) (fd : FuncData) : Prop where
  F : Fun K "__init__" qual st f fd
  mkK : Mk K C f
  g : mg x = some (.ref C)
  b : Binds K fd ps []
  cls : Cls K C
end FB
set_option maxHeartbeats 4000000
/-! xs[i] += e of a list; x in a tuple of data. -/
namespace FB
open PySem PySem.Spec PyProof.Rows L2 Evl
open Sem (wp)
end FB
/-! Tuples made at run time whose object is known to have no dict of its own: a method of theirs may be called. -/
namespace FB
open PySem PySem.Spec PyProof.Rows L2 Evl
open Sem (wp)
/-- a tuple whose object is known, with no dict -/
def Tz (H : Hp) (a : Addr) (xs : List V) : Prop := ∃ o : Obj, H a = some (.frz o (.tup xs)) ∧ o.dict = none
theorem Tz.t {K : PySem.W.Frag} {H : Hp} {a : Addr} {xs : List V} (h : Tz H a xs) : SqT K H a xs := let ⟨o, h, _⟩ := h; .inl (.inr ⟨o, h⟩)
theorem Tz.ex {H H' : Hp} {a : Addr} {xs : List V} (h : Tz H a xs) (e : Ex H H') : Tz H' a xs := let ⟨o, h, d⟩ := h; ⟨o, e _ _ h, d⟩
theorem Tz.keep {H H' : Hp} {a : Addr} {xs : List V} (h : Tz H a xs) (e : ∀ o, H a = some o → H' a = some o) : Tz H' a xs := let ⟨o, h, d⟩ := h; ⟨o, e _ h, d⟩
theorem Tz.tx {H H' : Hp} {a : Addr} {xs : List V} (h : Tz H a xs) (e : TX H H') : Tz H' a xs := let ⟨o, h, d⟩ := h; ⟨o, e _ _ h trivial, d⟩
def tyZ (K : PySem.W.Frag) (T : String) (x : V) (H : Hp) : Prop := tyV K T x H ∨ (T = "tuple" ∧ ∃ a xs, x = .ref a ∧ Tz H a xs)
section
variable {X : Cx}
def tBMZ (K : PySem.W.Frag) (T : String) (r : V → List V → Hp → VK → Prop) (to : TE) (t : TA) : TE := fun σ H Q => to σ H fun x H1 => tyZ K T x H1 ∧ t σ H1 fun xs H2 => r x xs H2 Q
variable {o e : Expr} {es : List Expr} {to : TE} {t : TA} {name : Str} {apos cpos : Pos} {T id : String} {r : V → List V → Hp → VK → Prop}
/-- a display -/
def rTupZ (xs : List V) (H : Hp) (Q : VK) : Prop := xs.length ≤ sizeLine ∧ ∀ (p : Addr) (o : Obj), H p = none → o.dict = none → Q (.ref p) (upd H p (.frz o (.tup xs)))
def tTupZ (t : TA) : TE := fun σ H Q => t σ H fun xs H1 => rTupZ xs H1 Q
end
end FB
/-! Queues and events whose tuples are known to have no dict. -/
namespace FB
open PySem PySem.Spec PyProof.Rows L2 Evl
section
variable {α : Type} [Inhabited α] {pd : α → PyData} {qs : QsA α} {es : EvsA α} {K : PySem.W.Frag} {H H2 : Hp} {Qa Ea : Addr}
def QtZ (K : PySem.W.Frag) (H : Hp) (Qa : Addr) (pd : α → PyData) (qs : QsA α) : Prop := ∃ ts, H Qa = some (.lst ts) ∧ ts.length = qs.length ∧ ∀ (i : Nat) q, qs[i]? = some q → ∃ b ps, ts[i]? = some (.ref b) ∧ Tz H b ps ∧ DpAll K H ps (q.map pd)
def EvZ (K : PySem.W.Frag) (H : Hp) (Ea : Addr) (pd : α → PyData) (es : EvsA α) : Prop := ∃ ts, H Ea = some (.lst ts) ∧ ts.length = es.length ∧ ∀ (i : Nat) e, es[i]? = some e → ∃ b y pb ps, ts[i]? = some (.ref b) ∧ SqT K H b [y, .ref pb] ∧ Dp K H y (keyD e.1) ∧ Tz H pb ps ∧ DpAll K H ps (e.2.map pd)
theorem DpAll.ofAt {ds : List PyData} : ∀ {ts : List V}, ts.length = ds.length → (∀ (i : Nat) d, ds[i]? = some d → ∃ v, ts[i]? = some v ∧ Dp K H v d) → DpAll K H ts ds := by
  induction ds with
  | nil => intro ts h _; cases ts with
    | nil => exact .nil
    | cons _ _ => cases h
  | cons d r ih => intro ts h g; cases ts with
    | nil => cases h
    | cons v vs =>
      obtain ⟨w, hw, hd⟩ := g 0 d rfl
      obtain rfl := Option.some.inj hw
      exact .cons hd (ih (by simpa using h) fun i d hd => g (i + 1) d hd)
theorem QtZ.at (W : QtZ K H Qa pd qs) : QtAt K H Qa pd qs := by
  obtain ⟨ts, h1, h2, h3⟩ := W
  refine ⟨⟨ts, h1, DpAll.ofAt (by rw [List.length_map]; exact h2) fun i d hd => ?_⟩⟩
  obtain ⟨q, hq, rfl⟩ : ∃ q, qs[i]? = some q ∧ qA pd q = d := by simpa using hd
  obtain ⟨b, ps, e1, e2, e3⟩ := h3 i q hq
  exact ⟨_, e1, .tup e2.t e3⟩
theorem EvZ.at (W : EvZ K H Ea pd es) : EvAt K H Ea pd es := by
  obtain ⟨ts, h1, h2, h3⟩ := W
  refine ⟨⟨ts, h1, DpAll.ofAt (by rw [List.length_map]; exact h2) fun i d hd => ?_⟩⟩
  obtain ⟨e, he, rfl⟩ : ∃ e, es[i]? = some e ∧ evA pd e = d := by simpa using hd
  obtain ⟨b, y, pb, ps, e1, e2, e3, e4, e5⟩ := h3 i e he
  exact ⟨_, e1, .tup e2 (.cons e3 (.cons (.tup e4.t e5) .nil))⟩
theorem pds_tx (hp : PD pd) (t : TX H H2) {ps : List V} {q : List α} (h : DpAll K H ps (q.map pd)) : DpAll K H2 ps (q.map pd) := DpAll.tx t h fun d hd => by
  obtain ⟨y, _, rfl⟩ := List.mem_map.mp hd
  exact hp.t y
theorem QtZ.tx (W : QtZ K H Qa pd qs) (hp : PD pd) (t : TX H H2) (h : ∀ o, H Qa = some o → H2 Qa = some o) : QtZ K H2 Qa pd qs := by
  obtain ⟨ts, h1, h2, h3⟩ := W
  exact ⟨ts, h _ h1, h2, fun i q hq => let ⟨b, ps, e1, e2, e3⟩ := h3 i q hq; ⟨b, ps, e1, e2.tx t, pds_tx hp t e3⟩⟩
theorem EvZ.tx (W : EvZ K H Ea pd es) (hp : PD pd) (t : TX H H2) (h : ∀ o, H Ea = some o → H2 Ea = some o) : EvZ K H2 Ea pd es := by
  obtain ⟨ts, h1, h2, h3⟩ := W
  exact ⟨ts, h _ h1, h2, fun i e he => let ⟨b, y, pb, ps, e1, e2, e3, e4, e5⟩ := h3 i e he; ⟨b, y, pb, ps, e1, t.t e2, Dp.tx t e3 (keyD_t _), e4.tx t, pds_tx hp t e5⟩⟩
theorem QtZ.get (W : QtZ K H Qa pd qs) {j : Nat} (hj : j < qs.length) : ∃ ts b vs, H Qa = some (.lst ts) ∧ ts.length = qs.length ∧ ts[j]? = some (.ref b) ∧ Tz H b vs ∧ DpAll K H vs ((qs.getD j []).map pd) := by
  obtain ⟨ts, h1, h2, h3⟩ := W
  obtain ⟨b, vs, e1, e2, e3⟩ := h3 j (qs.getD j []) (by simp [List.getD_eq_getElem?_getD, hj])
  exact ⟨ts, b, vs, h1, h2, e1, e2, e3⟩
theorem QtZ.set (W : QtZ K H Qa pd qs) (hp : PD pd) {ts : List V} {j : Nat} {q : List α} {b : Addr} {ps : List V} (h1 : H Qa = some (.lst ts)) (t : TX H H2) (h2 : H2 Qa = some (.lst (ts.set j (.ref b)))) (z : Tz H2 b ps) (d : DpAll K H2 ps (q.map pd)) : QtZ K H2 Qa pd (qs.set j q) := by
  obtain ⟨ts', g1, g2, g3⟩ := W
  rw [h1] at g1
  cases g1
  refine ⟨_, h2, by rw [List.length_set, List.length_set]; exact g2, fun i q' hq => ?_⟩
  rw [List.getElem?_set] at hq
  by_cases e : j = i
  · subst e
    rw [if_pos rfl] at hq
    by_cases hl : j < qs.length
    · rw [if_pos hl] at hq
      obtain rfl := Option.some.inj hq
      exact ⟨b, ps, by rw [List.getElem?_set, if_pos rfl, if_pos (by omega)], z, d⟩
    · rw [if_neg hl] at hq; cases hq
  · rw [if_neg e] at hq
    obtain ⟨b', ps', e1, e2, e3⟩ := g3 i q' hq
    exact ⟨b', ps', by rw [List.getElem?_set, if_neg e]; exact e1, e2.tx t, pds_tx hp t e3⟩
theorem EvZ.snoc (W : EvZ K H Ea pd es) (hp : PD pd) {ts : List V} {k : Key} {q : List α} {b pb : Addr} {y : V} {ps : List V} (h1 : H Ea = some (.lst ts)) (t : TX H H2) (h2 : H2 Ea = some (.lst (ts ++ [.ref b]))) (hb : SqT K H2 b [y, .ref pb]) (hy : Dp K H2 y (keyD k)) (z : Tz H2 pb ps) (d : DpAll K H2 ps (q.map pd)) : EvZ K H2 Ea pd (es ++ [(k, q)]) := by
  obtain ⟨ts', g1, g2, g3⟩ := W
  rw [h1] at g1
  cases g1
  refine ⟨_, h2, by rw [List.length_append, List.length_append, g2]; rfl, fun i e he => ?_⟩
  by_cases hi : i < es.length
  · rw [List.getElem?_append_left hi] at he
    obtain ⟨b', y', pb', ps', e1, e2, e3, e4, e5⟩ := g3 i e he
    exact ⟨b', y', pb', ps', by rw [List.getElem?_append_left (by omega)]; exact e1, t.t e2, Dp.tx t e3 (keyD_t _), e4.tx t, pds_tx hp t e5⟩
  · rw [List.getElem?_append_right (by omega)] at he
    obtain ⟨hl, _⟩ := List.getElem?_eq_some_iff.mp he
    have hi2 : i = es.length := by simp at hl; omega
    subst hi2
    rw [Nat.sub_self] at he
    obtain rfl := Option.some.inj he
    exact ⟨b, y, pb, ps, by rw [List.getElem?_append_right (by omega), g2, Nat.sub_self]; rfl, hb, hy, z, d⟩
theorem QtZ.snoc (W : QtZ K H Qa pd qs) (hp : PD pd) {ts : List V} {q : List α} {b : Addr} {ps : List V} (h1 : H Qa = some (.lst ts)) (t : TX H H2) (h2 : H2 Qa = some (.lst (ts ++ [.ref b]))) (z : Tz H2 b ps) (d : DpAll K H2 ps (q.map pd)) : QtZ K H2 Qa pd (qs ++ [q]) := by
  obtain ⟨ts', g1, g2, g3⟩ := W
  rw [h1] at g1
  cases g1
  refine ⟨_, h2, by rw [List.length_append, List.length_append, g2]; rfl, fun i e he => ?_⟩
  by_cases hi : i < qs.length
  · rw [List.getElem?_append_left hi] at he
    obtain ⟨b', ps', e1, e4, e5⟩ := g3 i e he
    exact ⟨b', ps', by rw [List.getElem?_append_left (by omega)]; exact e1, e4.tx t, pds_tx hp t e5⟩
  · rw [List.getElem?_append_right (by omega)] at he
    obtain ⟨hl, _⟩ := List.getElem?_eq_some_iff.mp he
    have hi2 : i = qs.length := by simp at hl; omega
    subst hi2
    rw [Nat.sub_self] at he
    obtain rfl := Option.some.inj he
    exact ⟨b, ps, by rw [List.getElem?_append_right (by omega), g2, Nat.sub_self]; rfl, z, d⟩
end
end FB
/-! zip of three tuples. -/
namespace FB
open PySem PySem.Spec PyProof.Rows L2 Evl
/-- the tuples at a, b and c, turn by turn: a new triple -/
def Itz3 (K : PySem.W.Frag) (a b c : Addr) : It :=
  ⟨fun i H => ∃ (xs ys zs : List V) (x y z : V), SqT K H a xs ∧ SqT K H b ys ∧ SqT K H c zs ∧ xs[i]? = some x ∧ ys[i]? = some y ∧ zs[i]? = some z,
    fun i H v H' => ∃ T x y z, v = .ref T ∧ H T = none ∧ H' = upd H T (.tup [x, y, z]) ∧ (∀ xs, SqT K H a xs → xs[i]? = some x) ∧ (∀ ys, SqT K H b ys → ys[i]? = some y) ∧ ∀ zs, SqT K H c zs → zs[i]? = some z,
    fun i H => ∃ xs ys zs : List V, SqT K H a xs ∧ SqT K H b ys ∧ SqT K H c zs ∧ i = xs.length ∧ i = ys.length ∧ i = zs.length⟩
def iZip3 (K : PySem.W.Frag) (ta : TA) : TI := fun σ H R => ta σ H fun vs H1 => ∃ a b c xs ys zs, vs = [.ref a, .ref b, .ref c] ∧ SqT K H1 a xs ∧ SqT K H1 b ys ∧ SqT K H1 c zs ∧ R (Itz3 K a b c) H1
theorem x_iZip3 {K : PySem.W.Frag} {ta : TA} {σ : L2.St} {H : Hp} {R : It → Hp → Prop} : iZip3 K ta σ H R = ta σ H fun vs H1 => ∃ a b c xs ys zs, vs = [.ref a, .ref b, .ref c] ∧ SqT K H1 a xs ∧ SqT K H1 b ys ∧ SqT K H1 c zs ∧ R (Itz3 K a b c) H1 := rfl
end FB
/-! four names -/
namespace FB
open PySem PySem.Spec PyProof.Rows L2 Evl
end FB
/-! sorted(d.items()) of ints to ints; sorted of pairs. -/
namespace FB
open PySem PySem.Spec PyProof.Rows L2 Evl
open L2.DX (itemsO itemsO_ok takeT pget)
section
variable {X : Cx}
def intKV (x : Int × Int) : Key × V := (.inl x.1, .int x.2)
end
theorem sorted_onePair : ∀ {a b : List (Int × Int)}, a.Pairwise (fun x y => SrtO.lexB x y = true) → b.Pairwise (fun x y => SrtO.lexB x y = true) → (∀ x, x ∈ a ↔ x ∈ b) → a = b
  | [], [], _, _, _ => rfl
  | [], y :: b, _, _, h => by have := (h y).mpr (List.mem_cons_self ..); cases this
  | x :: a, [], _, _, h => by have := (h x).mp (List.mem_cons_self ..); cases this
  | x :: a, y :: b, ha, hb, h => by
    obtain ⟨a1, a2⟩ := List.pairwise_cons.mp ha
    obtain ⟨b1, b2⟩ := List.pairwise_cons.mp hb
    have irr : ∀ z : Int × Int, ¬ SrtO.lexB z z = true := fun z hz => by
      have := SrtO.lexB_iff.mp hz; omega
    have hxy : x = y := by
      rcases List.mem_cons.mp ((h x).mp (List.mem_cons_self ..)) with e | e
      · exact e
      · rcases List.mem_cons.mp ((h y).mpr (List.mem_cons_self ..)) with e2 | e2
        · exact e2.symm
        · have h1 := SrtO.lexB_iff.mp (a1 y e2)
          have h2 := SrtO.lexB_iff.mp (b1 x e)
          omega
    subst hxy
    refine congrArg _ (sorted_onePair a2 b2 fun z => ⟨fun hz => ?_, fun hz => ?_⟩)
    · rcases List.mem_cons.mp ((h z).mp (List.mem_cons_of_mem _ hz)) with e | e
      · exact absurd (e ▸ a1 z hz) (irr x)
      · exact e
    · rcases List.mem_cons.mp ((h z).mpr (List.mem_cons_of_mem _ hz)) with e | e
      · exact absurd (e ▸ b1 z hz) (irr x)
      · exact e
/-- sorted, without doubles: strictly -/
theorem sorted_strict {a : List (Int × Int)} (h : a.Pairwise fun x y => SrtO.lexB y x = false) (n : a.Nodup) : a.Pairwise fun x y => SrtO.lexB x y = true := by
  refine List.Pairwise.imp₂ (R := fun x y => SrtO.lexB y x = false) (S := fun x y => x ≠ y) (fun x y h1 h2 => ?_) h n
  have := SrtO.lexB_no.mp h1
  refine SrtO.lexB_iff.mpr ?_
  have h3 : ¬ (x.1 = y.1 ∧ x.2 = y.2) := fun e => h2 (Prod.ext e.1 e.2)
  omega
section
variable {K : PySem.W.Frag}
end
end FB
/-! range(a, b) over numbers of any size. -/
namespace FB
open PySem PySem.Spec PyProof.Rows L2 Evl
open Sem (wp)
theorem turn_long {P : Program} {w : World} {K : PySem.W.Frag} {tg : Expr} (it : Addr) (lo : Int) (n : Nat) : Turn P w K tg (Itr lo n) [it] it (fun i h => IsLongIter h it (lo + (i : Nat) * 1) ((n : Int) - (i : Nat)) 1) where
  mem := by simp
  obj := fun i h st b hb => by
    have e : b = it := by simpa using hb
    subst e
    exact ⟨_, st, fun v z => by
      have z' : Data.fields _ = Data.cell v := z
      cases z'⟩
  keep := fun i h h' st k => k it (by simp) _ st
  item := by
    intro X hP hw hK hc i pins s σ H E I hf st hg
    subst hP hw hK
    obtain ⟨f0, f1, f2, f3, f4, f5⟩ := hf it (by simp)
    have W := Walks.longrange (prog := X.prog) (w := X.w) (I.ok.hd hc) it lo 1 n
    refine W.item i s _ _ hg st fun v h' tk hv st' kk => ?_
    obtain ⟨t, rfl⟩ := hv
    have I1 : Inv X pins σ H { s with heap := h', toks := tk } := I.turned (fun b o hb e => kk b o (by simpa using hb) e) f0 f1 f3 f4 f5
    refine ⟨_, rfl, go_of (s := { s with heap := h', toks := tk }) (n := "longrange_iterator") st' rfl rfl (by decide) ⟨.int (lo + i), H, I1, ⟨t, ?_⟩, ⟨rfl, rfl⟩, st', fun b hb => (hf b hb).1⟩⟩
    rw [Int.mul_one]
  done := by
    intro X hP hw hK hc i pins s σ H E I hf st hg
    subst hP hw hK
    obtain ⟨f0, f1, f2, f3, f4, f5⟩ := hf it (by simp)
    exact wpAny_pyNext_long_end (I.ok.hd hc) st (by have : n ≤ i := hg; omega) fun h' eb => ⟨rfl, I.turned (t' := s.toks) (fun b o hb e => eb b o hb e) f0 f1 f3 f4 f5⟩
  self := fun _ _ _ _ _ st h => wpAny_pyIter_longiter st h
section
variable {X : Cx} {tg : Expr}
theorem range_itW {pins : List (Addr × Obj)} {σ : L2.St} {H : Hp} {s : Shared} {R : It → Hp → Prop} {E : Value → Shared → Prop} {lo hi : Int} {t u v : Tok} {tk : Nat} (I : Inv X pins σ H s)
    (q : R (Itr lo (hi - lo).toNat) H) : wpAny (model X.prog X.w) X.A (pyIter (.ref s.heap.objs.size)) (PIE X pins σ tg R) E { s with heap := s.heap.push { cls := .type "range", data := .fields #[.int lo t, .int hi u, .int 1 v] }, toks := tk } := by
  have I1 : Inv X pins σ H { s with heap := s.heap.push { cls := .type "range", data := .fields #[.int lo t, .int hi u, .int 1 v] }, toks := tk } := I.kept fun b o e => Heap.get?_push_of_some _ e
  have e1 : lo + ((0 : Nat) : Int) * 1 = lo := by simp
  have e2 : (((hi - lo).toNat : Nat) : Int) - ((0 : Nat) : Int) = Builtin.Range.rangeSize lo hi 1 := by rw [rangeSize_one]; split <;> omega
  cases hsm : Builtin.Range.small lo hi 1 with
  | true =>
    refine wpAny_pyIter_range (IsRange.new ..) hsm ?_
    refine ⟨(s.heap.push { cls := .type "range", data := .fields #[.int lo t, .int hi u, .int 1 v] }).objs.size, [(s.heap.push { cls := .type "range", data := .fields #[.int lo t, .int hi u, .int 1 v] }).objs.size], _, _, H, rfl,
      I1.kept (t' := tk) fun b o e => Heap.get?_push_of_some _ e, turn_range _ lo (hi - lo).toNat, ?_, fun b hb => ?_, q⟩
    · show IsRangeIter _ _ (lo + ((0 : Nat) : Int) * 1) ((((hi - lo).toNat : Nat) : Int) - ((0 : Nat) : Int)) 1
      rw [e1, e2]
      exact Heap.get?_push_size _ rfl
    · have e : b = (s.heap.push { cls := .type "range", data := .fields #[.int lo t, .int hi u, .int 1 v] }).objs.size := by simpa using hb
      subst e
      exact I1.fpOk (Nat.le_refl _) (I1.hok.fresh (Nat.le_refl _))
  | false =>
    refine wpAny_pyIter_longrange (IsRange.new ..) hsm ?_
    refine ⟨(s.heap.push { cls := .type "range", data := .fields #[.int lo t, .int hi u, .int 1 v] }).objs.size, [(s.heap.push { cls := .type "range", data := .fields #[.int lo t, .int hi u, .int 1 v] }).objs.size], _, _, H, rfl,
      I1.kept (t' := tk) fun b o e => Heap.get?_push_of_some _ e, turn_long _ lo (hi - lo).toNat, ?_, fun b hb => ?_, q⟩
    · show IsLongIter _ _ (lo + ((0 : Nat) : Int) * 1) ((((hi - lo).toNat : Nat) : Int) - ((0 : Nat) : Int)) 1
      rw [e1, e2]
      exact Heap.get?_push_size _ rfl
    · have e : b = (s.heap.push { cls := .type "range", data := .fields #[.int lo t, .int hi u, .int 1 v] }).objs.size := by simpa using hb
      subst e
      exact I1.fpOk (Nat.le_refl _) (I1.hok.fresh (Nat.le_refl _))
def iRng2W (ta : TA) : TI := fun σ H R => ta σ H fun vs H1 => ∃ i j : Int, vs = [.int i, .int j] ∧ R (Itr i (j - i).toNat) H1
theorem pi_range2W {a b : Expr} {ta : TA} {p pos : Pos} (hg : Gl X "range") (hm : X.mg "range" = none) (ha : PA X [a, b] ta) (hs : starEach [a, b] X.env = [(false, eval a X.env), (false, eval b X.env)] := by rfl) (hs2 : starEach [b] X.env = [(false, eval b X.env)] := by rfl) :
    PI X tg (.Call (.Name "range" p) [a, b] [] pos) (iRng2W ta) := by
  refine ⟨fun pins s σ H R I h => ?_⟩
  refine Call_ (ld_blt I hg hm boot_range (PyProof.Rows.callWith_type1 (thn (ha.run pos pins s σ H _ I h) fun us s1 ⟨vs, H1, I1, r1, q1⟩ => ?_) (by rw [hs, hs2]) (by rw [hs2]; rfl)))
  obtain ⟨i, j, e, q⟩ := q1
  subst e
  cases r1 with
  | cons r rr =>
    cases rr with
    | cons r' rr =>
      cases rr
      obtain ⟨t, rfl⟩ := r
      obtain ⟨t', rfl⟩ := r'
      exact call_range_2 (range_itW I1 q)
end
end FB
namespace K
open PySem PySem.Spec PyProof.Rows L2 Evl FB
def top (i : Nat) : Stmt := PySem.Challenge.pw_fullboats_k15_best_numbers.main.body.getD i (.Pass ⟨0, 0, 0, 0⟩)
/-- a def of the text as it stands behind the top -/
structure Df (K : PySem.W.Frag) (mg : Str → Option Value) (x : Str) (st : Stmt) (ps : List Str) (f : Addr) (fd : FuncData) : Prop where
  F : Fun K x x st f fd
  g : mg x = some (.ref f)
  b : Binds K fd ps []
structure Bt (mg : Str → Option Value) : Prop where
  b_range : mg "range" = none
  b_tuple : mg "tuple" = none
  b_min : mg "min" = none
  b_isinstance : mg "isinstance" = none
  b_str : mg "str" = none
  b_dict : mg "dict" = none
  b_bool : mg "bool" = none
  b_sorted : mg "sorted" = none
  b_set : mg "set" = none
  b_enumerate : mg "enumerate" = none
  b_all : mg "all" = none
  b_len : mg "len" = none
  b_list : mg "list" = none
  b_int : mg "int" = none
  b_max : mg "max" = none
  b_sum : mg "sum" = none
  b_zip : mg "zip" = none
  b_abs : mg "abs" = none
  b_reversed : mg "reversed" = none
  b_any : mg "any" = none
local macro_rules | `(tactic| walk_at "run") => `(tactic| try simp only [tSeq, tAsg, tVar, tC, gName, L2.start, List.map_cons, List.map_nil, List.cons_append, List.nil_append, List.length_cons, List.length_nil, List.replicate, List.getElem?_cons_zero, List.getElem?_cons_succ, Option.some.injEq, exists_eq_left', List.set_cons_zero, List.set_cons_succ, V.ref.injEq, tRet, x_tLst, x_tTup, tCons, tCB, tNil, tOp, x_addI, x_mulI, x_rI, x_rI0, x_ltI, x_leI, x_ltS, x_leS, x_eqI, x_neI, x_eqS, x_eqB, x_neB, x_isiI, x_isiS, x_int, x_max, x_min, cxOf, tIfS, tNext, tTest, V.bl.injEq, decide_eq_true_eq, gSub, tAnd, tOr, tNot, tB, tDrop, tBM, x_tFor, iRng1, iList, iTup, x_tLc, tYes, tCall, tIf, tAndV, tOrV, tNotV, tChain, List.append_nil, tUn, if_true, wipe, true_and, x_never, iU, x_itS])
abbrev s_l_mix : Stmt := top 61
theorem sc_l_mix : FnScope ["_law_script", "_law_seed", "_law_mixed", "_law_cell"] ["_law_script", "_law_seed"] (defScope s_l_mix) := ⟨rfl, rfl, rfl, by decide +kernel, rfl, by decide +kernel, by decide +kernel⟩
/-- the law's source of draws: its list at a, its cells at b -/
def Gen (H : Hp) (a b : Addr) : Prop := ∃ (m c : Int) (ns : List Int), H a = some (.lst [.int m, .ref b, .int c]) ∧ H b = some (.lst (ns.map V.int)) ∧ ns.length ≤ 63
section
variable {P : Program} {w : World} {K : PySem.W.Frag} {mg : Str → Option Value} {base : Heap}
def spMix (K : PySem.W.Frag) : Sp := fun vs H Q _ => ∃ (a : Addr) (ns : List Int) (z : Int), vs = [.ref a, .int z] ∧ SqL K H a (ns.map V.int) ∧ ns.length ≤ 63 ∧ ∀ (p b : Addr) (H' : Hp), Ex H H' → H p = none → H b = none → Gen H' p b → Q (.ref p) H'
theorem ok_l_mix {f : Addr} {fd : FuncData} (D : Df K mg "_law_mix" s_l_mix ["_law_script", "_law_seed"] f fd) (T : Bt mg) : FnOk P w K mg base CX0 1 f fd ["_law_script", "_law_seed"] (spMix K) := by
  refine D.F.ok sc_l_mix (fun vs H Q E h => ?_) (fun cdv A outer s H vs Q E hr h => ?_)
  · obtain ⟨a, ns, z, rfl, _⟩ := h
    rfl
  · obtain ⟨a, ns, z, rfl, hS, hl, k⟩ := h
    refine ⟨_, (pss_cons (ps_set (i := 2) sc_l_mix.nd rfl (Or.inl rfl) (pv 1))
      (pss_cons (ps_for PassesOwn.never rfl (pi_U (K := K) (pv 0)) (pg_name (i := 3) sc_l_mix.nd rfl (Or.inl rfl)) (pss_one (ps_set (i := 2) sc_l_mix.nd rfl (Or.inl rfl) (pe_op op_modN (pe_op (op_addU (K := K)) (pe_op (op_addU (K := K)) (pe_op (op_mulU (K := K)) (pv 2) pe_int) (pe_op op_modN (pv 3) pe_int)) pe_int) pe_int))))
      (pss_one (ps_ret (pe_lst (pa_cons (pv 2) (pa_cons (pe_callTy (call_listU (K := K)) (by rfl) T.b_list (by decide +kernel) (pa_cons (pv 0) pa_nil)) (pa_cons pe_int pa_nil)))))))), ?_⟩
    walk_at "run"
    refine x_itL hS (loop_it (walk_list (xs := ns.map V.int)) (fun i σ H' => ∃ (m : Int) (u : Option V), σ = [some (.ref a), some (.int z), some (.int m), u] ∧ H' = H) ⟨z, _, rfl, rfl⟩ (fun i σ H' _ ⟨_, _, _, e⟩ => e ▸ hS) ?_ ?_)
    · rintro i y σ H' _ _ ⟨m, u, rfl, rfl⟩ ⟨rfl, hi⟩
      obtain ⟨n, _, rfl⟩ : ∃ n, ns[i]? = some n ∧ V.int n = y := by simpa using hi
      walk_at "run"
      refine ⟨.inr (by decide), by decide, by decide, _, _, rfl, trivial⟩
    · rintro σ H' ⟨m, u, rfl, rfl⟩
      walk_at "run"
      refine x_listL hS fun l H1 nl e1 h1 => ?_
      walk_at "run"
      refine x_lst (by simp) fun p H2 np e2 h2 => ?_
      exact k p l _ (e1.trans e2) (fresh_back e1 np) nl ⟨m, 0, ns, h2, e2 _ _ h1, hl⟩
theorem ints_ne {ns : List Int} {m c : Int} {b : Addr} : ns.map V.int ≠ [.int m, .ref b, .int c] := by
  intro h
  match ns, h with
  | [], h => cases h
  | [_], h => cases h
  | _ :: _ :: _, h =>
    simp at h
theorem Gen.ne {H : Hp} {a b : Addr} (g : Gen H a b) : a ≠ b := by
  obtain ⟨m, c, ns, h1, h2, _⟩ := g
  exact ne_of h1 h2 (fun z => ints_ne (HO.lst.inj z).symm)
theorem log_lim {n : Int} (h0 : 0 < n) (h1 : n < 1000000000000000000000) : n.natAbs.log2 < 9000 := by
  have h : n.natAbs < 2 ^ 70 := by
    have : (2 : Nat) ^ 70 = 1180591620717411303424 := by decide
    omega
  exact Nat.lt_trans ((Nat.log2_lt (by omega)).mpr h) (by decide)
abbrev s_l_next : Stmt := top 62
theorem sc_l_next : FnScope ["_law_h", "_law_limit", "_law_cell"] ["_law_h", "_law_limit"] (defScope s_l_next) := ⟨rfl, rfl, rfl, by decide +kernel, rfl, by decide +kernel, by decide +kernel⟩
def spNext : Sp := fun vs H Q _ => ∃ (a b : Addr) (n : Int), vs = [.ref a, .int n] ∧ Gen H a b ∧ 0 < n ∧ n < 1000000000000000000000 ∧ ∀ (r : Int) (H' : Hp), 0 ≤ r → r < n → Gen H' a b → Ex2 a b H H' → Q (.int r) H'
theorem ok_l_next {f : Addr} {fd : FuncData} (D : Df K mg "_law_next" s_l_next ["_law_h", "_law_limit"] f fd) (T : Bt mg) : FnOk P w K mg base CX0 1 f fd ["_law_h", "_law_limit"] spNext := by
  refine D.F.ok sc_l_next (fun vs H Q E h => ?_) (fun cdv A outer s H vs Q E hr h => ?_)
  · obtain ⟨a, b, n, rfl, _⟩ := h
    rfl
  · obtain ⟨a, b, n, rfl, ⟨m, c, ns, hA, hB, hl⟩, h0, h1, k⟩ := h
    refine ⟨_, (pss_cons (ps_set (i := 2) sc_l_next.nd rfl (Or.inl rfl) (pe_ix (ix_U (K := K)) (pe_op (op_addU (K := K)) (pe_ix (ix_U (K := K)) (pv 0) pe_int (fun _ _ => rfl)) (pe_lst (pa_cons pe_int pa_nil))) (pe_op op_modN (pe_callTy call_intU (by rfl) T.b_int (by decide +kernel) (pa_cons (pe_ix (ix_U (K := K)) (pv 0) pe_int (fun _ _ => rfl)) pa_nil)) (pe_callB (call_maxU rfl) (by rfl) T.b_max (by decide +kernel) (pa_cons pe_int (pa_cons (pe_callB (call_lenU (K := K)) (by rfl) T.b_len (by decide +kernel) (pa_cons (pe_ix (ix_U (K := K)) (pv 0) pe_int (fun _ _ => rfl)) pa_nil)) pa_nil)))) (fun _ _ => rfl)))
      (pss_cons (ps_if (pt_cmpR (op_geU) (pv 2) (pe_op op_pow pe_int pe_int) (nomark _)) (pss_cons (ps_asg (pe_op op_fdivW (pv 2) (pv 1)) (pg_sub (pe_ix (ix_U (K := K)) (pv 0) pe_int (fun _ _ => rfl)) (pe_op op_modN (pe_callTy call_intU (by rfl) T.b_int (by decide +kernel) (pa_cons (pe_ix (ix_U (K := K)) (pv 0) pe_int (fun _ _ => rfl)) pa_nil)) (pe_callB (call_lenU (K := K)) (by rfl) T.b_len (by decide +kernel) (pa_cons (pe_ix (ix_U (K := K)) (pv 0) pe_int (fun _ _ => rfl)) pa_nil))) set_list))
      (pss_one (ps_ret (pe_op op_modN (pe_callTy call_intU (by rfl) T.b_int (by decide +kernel) (pa_cons (pv 2) pa_nil)) (pv 1))))) pss_nil)
      (pss_cons (ps_asg (pe_op op_modN (pe_op (op_addU (K := K)) (pe_op (op_addU (K := K)) (pe_op (op_mulU (K := K)) (pe_ix (ix_U (K := K)) (pv 0) pe_int (fun _ _ => rfl)) pe_int) (pe_op (op_mulU (K := K)) (pv 2) pe_int)) pe_int) pe_int) (pg_sub (pv 0) pe_int set_list))
      (pss_cons (ps_asg (pe_op (op_addU (K := K)) (pe_ix (ix_U (K := K)) (pv 0) pe_int (fun _ _ => rfl)) pe_int) (pg_sub (pv 0) pe_int set_list))
      (pss_one (ps_ret (pe_op op_modN (pe_op op_fdivN (pe_ix (ix_U (K := K)) (pv 0) pe_int (fun _ _ => rfl)) pe_int) (pv 1)))))))), ?_⟩
    walk_at "run"
    refine x_ixL (SqL.of hA) rfl ?_
    refine x_lst (by simp) fun p H1 np e1 hp => ?_
    refine x_cat (e1 _ _ hB) hp (by simp; omega) fun l H2 nl e2 hL => ?_
    have hA2 := e2 _ _ (e1 _ _ hA)
    have hB2 := e2 _ _ (e1 _ _ hB)
    refine x_ixL (SqL.of hA2) rfl ?_
    walk_at "run"
    refine x_ixL (SqL.of hA2) rfl ?_
    refine x_lenL (SqL.of hB2) ?_
    walk_at "run"
    have hn : (List.map V.int ns).length = ns.length := List.length_map ..
    rw [hn]
    refine ⟨by split <;> omega, ?_⟩
    generalize hd : (if (ns.length : Int) > 1 then (ns.length : Int) else 1) = d
    have d0 : 0 < d := by rw [← hd]; split <;> omega
    have d1 : d ≤ ns.length ∨ (ns = [] ∧ d = 1) := by
      rw [← hd]
      split
      · exact .inl (Int.le_refl _)
      · by_cases z : ns = []
        · exact .inr ⟨z, rfl⟩
        · have := List.length_pos_iff.mpr z
          exact .inl (by omega)
    have k0 : 0 ≤ c.fmod d := Int.fmod_nonneg_of_pos _ d0
    have k1 : c.fmod d < d := Int.fmod_lt_of_pos _ d0
    obtain ⟨cell, hc, hc0⟩ : ∃ cell : Int, (List.map V.int ns ++ [V.int 0])[(c.fmod d).toNat]? = some (V.int cell) ∧ (cell ≠ 0 → ns ≠ []) := by
      rcases d1 with h | ⟨h, h'⟩
      · have hk : (c.fmod d).toNat < ns.length := by omega
        refine ⟨ns[(c.fmod d).toNat], ?_, fun _ z => by subst z; simp at hk⟩
        rw [List.getElem?_append_left (by simpa using hk)]
        simp [hk]
      · subst h
        subst h'
        have z : c.fmod 1 = 0 := by omega
        rw [z]
        exact ⟨0, rfl, fun z => (z rfl).elim⟩
    refine x_ixL (SqL.of hL) (atI_in k0 hc) ?_
    walk_at "run"
    refine ⟨⟨by decide, by decide, by decide⟩, ?_⟩
    split
    · rename_i hge
      have hge : (10 : Int) ^ Int.toNat 18 ≤ cell := hge
      have hne : ns ≠ [] := hc0 (by intro z; rw [z] at hge; exact absurd hge (by decide))
      have hp' := List.length_pos_iff.mpr hne
      refine ⟨⟨h0, log_lim h0 h1⟩, ?_⟩
      refine x_ixL (SqL.of hA2) rfl ?_
      refine x_ixL (SqL.of hA2) rfl ?_
      walk_at "run"
      refine x_ixL (SqL.of hA2) rfl ?_
      refine x_lenL (SqL.of hB2) ?_
      walk_at "run"
      rw [hn]
      have q0 : 0 ≤ c.fmod ns.length := Int.fmod_nonneg_of_pos _ (by omega)
      have q1 : c.fmod ns.length < ns.length := Int.fmod_lt_of_pos _ (by omega)
      refine ⟨by omega, ?_⟩
      refine x_setL hB2 (ixN_in q0 (by simpa using q1)) fun H3 e3 hB3 => ?_
      walk_at "run"
      refine ⟨by omega, ?_⟩
      have nab : a ≠ b := Gen.ne ⟨m, c, ns, hA2, hB2, hl⟩
      refine k _ H3 (Int.fmod_nonneg_of_pos _ h0) (Int.fmod_lt_of_pos _ h0) ⟨m, c, ns.set (c.fmod ns.length).toNat (cell / n), e3 _ _ nab hA2, by rw [hB3, List.map_set], by simpa using hl⟩ fun x o h _ hb => e3 _ _ hb (e2 _ _ (e1 _ _ h))
    · refine x_ixL (SqL.of hA2) rfl ?_
      walk_at "run"
      refine ⟨.inr (by decide), .inr (by decide), by decide, ?_⟩
      refine x_setL hA2 rfl fun H3 e3 hA3 => ?_
      refine x_ixL (SqL.of hA3) rfl ?_
      walk_at "run"
      refine x_setL hA3 rfl fun H4 e4 hA4 => ?_
      refine x_ixL (SqL.of hA4) rfl ?_
      walk_at "run"
      refine ⟨⟨by decide, by decide⟩, by omega, ?_⟩
      have nab : b ≠ a := (Gen.ne ⟨m, c, ns, hA2, hB2, hl⟩).symm
      refine k _ H4 (Int.fmod_nonneg_of_pos _ h0) (Int.fmod_lt_of_pos _ h0) ⟨_, _, ns, hA4, e4 _ _ nab (e3 _ _ nab hB2), hl⟩ fun x o h ha _ => e4 _ _ ha (e3 _ _ ha (e2 _ _ (e1 _ _ h)))
end
theorem Gen.ex {H H' : Hp} {a b : Addr} (g : Gen H a b) (e : Ex H H') : Gen H' a b := by
  obtain ⟨m, c, ns, h1, h2, h3⟩ := g
  exact ⟨m, c, ns, e _ _ h1, e _ _ h2, h3⟩
theorem Gen.na {H : Hp} {a b p : Addr} (g : Gen H a b) (h : H p = none) : p ≠ a := by
  obtain ⟨m, c, ns, h1, h2, h3⟩ := g
  exact (ne_of_none h1 h).symm
theorem Gen.nb {H : Hp} {a b p : Addr} (g : Gen H a b) (h : H p = none) : p ≠ b := by
  obtain ⟨m, c, ns, h1, h2, h3⟩ := g
  exact (ne_of_none h2 h).symm
theorem Gen.tx {H H' : Hp} {a b : Addr} (g : Gen H a b) (e : Ex2 a b H H') : TX H H' := by
  obtain ⟨m, c, ns, h1, h2, h3⟩ := g
  exact TX.two h1 h2 e
theorem Gen.but {H H' : Hp} {a b p : Addr} (g : Gen H a b) (ha : p ≠ a) (hb : p ≠ b) (e : ∀ x o, x ≠ p → H x = some o → H' x = some o) : Gen H' a b := by
  obtain ⟨m, c, ns, h1, h2, h3⟩ := g
  exact ⟨m, c, ns, e _ _ ha.symm h1, e _ _ hb.symm h2, h3⟩
theorem x_next {H : Hp} {a b : Addr} {n : Int} {Q : VK} {E : XK} (g : Gen H a b) (h0 : 0 < n) (h1 : n < 1000000000000000000000) (k : ∀ r H', 0 ≤ r → r < n → Gen H' a b → Ex2 a b H H' → Q (.int r) H') : spNext [.ref a, .int n] H Q E :=
  ⟨a, b, n, rfl, g, h0, h1, k⟩
def W4 : List Str := ["a", "b", "west", "abcdefgh"]
/-- a place that is drawn for a seat of the station st of n -/
def PlOk (st n : Int) : Key → Prop
  | .inl j => st < j ∧ j < n
  | .inr z => z ∈ W4
abbrev s_l_place : Stmt := top 64
theorem sc_l_place : FnScope ["_law_h", "_law_station", "_law_count", "_law_far"] ["_law_h", "_law_station", "_law_count"] (defScope s_l_place) := ⟨rfl, rfl, rfl, by decide +kernel, rfl, by decide +kernel, by decide +kernel⟩
/-- a network that is drawn -/
structure Drawn (N : Net) (most : Int) : Prop where
  pos : 1 ≤ N.length
  le : (N.length : Int) ≤ most
  st : ∀ (k : Nat) s, N[k]? = some s → 1 ≤ s.length ∧ s.length ≤ 8 ∧ ∀ p ∈ s, PlOk k N.length p
section
variable {P : Program} {w : World} {K : PySem.W.Frag} {mg : Str → Option Value} {base : Heap}
def spPlace : Sp := fun vs H Q _ => ∃ (a b : Addr) (st n : Int), vs = [.ref a, .int st, .int n] ∧ Gen H a b ∧ 0 ≤ st ∧ st < n ∧ n ≤ 1000000 ∧ ∀ (k : Key) (H' : Hp), PlOk st n k → Gen H' a b → Ex2 a b H H' → Q (kV k) H'
theorem ok_l_place {f f1 : Addr} {fd fd1 : FuncData} (D : Df K mg "_law_place" s_l_place ["_law_h", "_law_station", "_law_count"] f fd) (T : Bt mg) (D_l_next : Df K mg "_law_next" s_l_next ["_law_h", "_law_limit"] f1 fd1) :
    FnOk P w K mg base CX0 2 f fd ["_law_h", "_law_station", "_law_count"] spPlace := by
  have G_l_next : FnOk P w K mg base CX0 1 f1 fd1 _ _ := ok_l_next D_l_next T
  refine D.F.ok sc_l_place (fun vs H Q E h => ?_) (fun cdv A outer s H vs Q E hr h => ?_)
  · obtain ⟨a, b, st, n, rfl, _⟩ := h
    rfl
  · obtain ⟨a, b, st, n, rfl, g, h0, h1, h2, k⟩ := h
    refine ⟨_, (pss_cons (ps_if (PW.pt (pw_and (pt_cmpR (op_ltU) (pe_op (op_addU (K := K)) (pv 1) pe_int) (pv 2) (nomark _)) (pw_and1 (pt_cmpR (op_gtU) (pe_call (G_l_next) (hr.mono (by decide)) rfl D_l_next.g D_l_next.F.kp D_l_next.b .nil pass0 (pa_cons (pv 0) (pa_cons pe_int pa_nil))) pe_int (nomark _))))) (pss_cons (ps_set (i := 3) sc_l_place.nd rfl (Or.inl rfl) (pe_ix (ix_U (K := K)) (pe_lst (pa_cons pe_int (pa_cons pe_int (pa_cons (pv 2) pa_nil)))) (pe_call (G_l_next) (hr.mono (by decide)) rfl D_l_next.g D_l_next.F.kp D_l_next.b .nil pass0 (pa_cons (pv 0) (pa_cons pe_int pa_nil))) (fun _ _ => rfl)))
      (pss_one (ps_ret (pe_op (op_addU (K := K)) (pe_op (op_addU (K := K)) (pv 1) pe_int) (pe_call (G_l_next) (hr.mono (by decide)) rfl D_l_next.g D_l_next.F.kp D_l_next.b .nil pass0 (pa_cons (pv 0) (pa_cons (pe_callB (call_maxU rfl) (by rfl) T.b_max (by decide +kernel) (pa_cons pe_int (pa_cons (pe_callB (call_minU rfl) (by rfl) T.b_min (by decide +kernel) (pa_cons (pv 3) (pa_cons (pe_op op_sub (pe_op op_sub (pv 2) (pv 1)) pe_int) pa_nil))) pa_nil))) pa_nil))))))) pss_nil)
      (pss_one (ps_ret (pe_ix (ix_U (K := K)) (pe_lst (pa_cons pe_str (pa_cons pe_str (pa_cons pe_str (pa_cons pe_str pa_nil))))) (pe_call (G_l_next) (hr.mono (by decide)) rfl D_l_next.g D_l_next.F.kp D_l_next.b .nil pass0 (pa_cons (pv 0) (pa_cons pe_int pa_nil))) (fun _ _ => rfl))))), ?_⟩
    walk_at "run"
    have tail : ∀ H1, Gen H1 a b → Ex2 a b H H1 → rLst [V.str "a", V.str "b", V.str "west", V.str "abcdefgh"] H1 fun x H1 => spNext [V.ref a, V.int 4] H1 (fun y H2 => rIx K x y H2 Q) E0 := by
      intro H1 g1 e1
      refine x_lst (by simp) fun p H2 np e2 hp => ?_
      refine x_next (g1.ex e2) (by decide) (by decide) fun r H3 r0 r1 g3 e3 => ?_
      have hp3 := e3 _ _ hp (g1.na np) (g1.nb np)
      have e := (e1.ex e2).trans e3
      obtain rfl | rfl | rfl | rfl : r = 0 ∨ r = 1 ∨ r = 2 ∨ r = 3 := by omega
      · exact x_ixL (SqL.of hp3) rfl (k (.inr "a") _ (.head _) g3 e)
      · exact x_ixL (SqL.of hp3) rfl (k (.inr "b") _ (.tail _ (.head _)) g3 e)
      · exact x_ixL (SqL.of hp3) rfl (k (.inr "west") _ (.tail _ (.tail _ (.head _))) g3 e)
      · exact x_ixL (SqL.of hp3) rfl (k (.inr "abcdefgh") _ (.tail _ (.tail _ (.tail _ (.head _)))) g3 e)
    split
    · refine x_next g (by decide) (by decide) fun r H1 r0 r1 g1 e1 => ?_
      walk_at "run"
      split
      · refine x_lst (by simp) fun p H2 np e2 hp => ?_
        refine x_next (g1.ex e2) (by decide) (by decide) fun r H3 r0 r1 g3 e3 => ?_
        have hp3 := e3 _ _ hp (g1.na np) (g1.nb np)
        have e := (e1.ex e2).trans e3
        have fin : ∀ far : Int, 1 ≤ far → far ≤ 1000000 → rMinU [V.int far, V.int (n - st - 1)] H3 fun x H1 => rMaxU [V.int 1, x] H1 fun x H1 => spNext [V.ref a, x] H1 (fun y H2 => rAddU K (V.int (st + 1)) y H2 Q) E0 := by
          intro far f0 f1
          walk_at "run"
          refine x_next g3 (by split <;> (split at * <;> omega)) (by split <;> (split at * <;> omega)) fun r H4 r0 r1 g4 e4 => ?_
          walk_at "run"
          exact k (.inl (st + 1 + r)) _ ⟨by omega, by revert r1; split <;> (split at * <;> omega)⟩ g4 (e.trans e4)
        obtain rfl | rfl | rfl : r = 0 ∨ r = 1 ∨ r = 2 := by omega
        · exact x_ixL (SqL.of hp3) rfl (fin _ (by omega) (by omega))
        · exact x_ixL (SqL.of hp3) rfl (fin _ (by omega) (by omega))
        · exact x_ixL (SqL.of hp3) rfl (fin _ (by omega) (by omega))
      · exact tail _ g1 e1
    · rw [if_neg Bool.false_ne_true]
      exact tail _ g (Ex2.refl _)
abbrev s_l_network : Stmt := top 65
theorem sc_l_network : FnScope ["_law_h", "_law_most", "_law_count", "_law_network_here", "_law_station", "_law_seats", "_law_seat"] ["_law_h", "_law_most"] (defScope s_l_network) := ⟨rfl, rfl, rfl, by decide +kernel, rfl, by decide +kernel, by decide +kernel⟩
def spNetwork (K : PySem.W.Frag) : Sp := fun vs H Q _ => ∃ (a b : Addr) (most : Int), vs = [.ref a, .int most] ∧ Gen H a b ∧ 1 ≤ most ∧ most ≤ 1000 ∧ ∀ (v : V) (N : Net) (H' : Hp), Drawn N most → NetAt K H' v N → Gen H' a b → Ex2 a b H H' → Q v H'
theorem ok_l_network {f f1 f2 : Addr} {fd fd1 fd2 : FuncData} (D : Df K mg "_law_network" s_l_network ["_law_h", "_law_most"] f fd) (T : Bt mg) (D_l_next : Df K mg "_law_next" s_l_next ["_law_h", "_law_limit"] f1 fd1)
    (D_l_place : Df K mg "_law_place" s_l_place ["_law_h", "_law_station", "_law_count"] f2 fd2) :
    FnOk P w K mg base CX0 3 f fd ["_law_h", "_law_most"] (spNetwork K) := by
  have G_l_next : FnOk P w K mg base CX0 1 f1 fd1 _ _ := ok_l_next D_l_next T
  have G_l_place : FnOk P w K mg base CX0 2 f2 fd2 _ _ := ok_l_place D_l_place T D_l_next
  refine D.F.ok sc_l_network (fun vs H Q E h => ?_) (fun cdv A outer s H vs Q E hr h => ?_)
  · obtain ⟨a, b, n, rfl, _⟩ := h
    rfl
  · obtain ⟨a, b, most, rfl, g, h0, h1, k⟩ := h
    refine ⟨_, (pss_cons (ps_set (i := 2) sc_l_network.nd rfl (Or.inr rfl) (pe_op (op_addU (K := K)) pe_int (pe_call (G_l_next) (hr.mono (by decide)) rfl D_l_next.g D_l_next.F.kp D_l_next.b .nil pass0 (pa_cons (pv 0) (pa_cons (pv 1) pa_nil)))))
      (pss_cons (ps_set (i := 3) sc_l_network.nd rfl (Or.inl rfl) (pe_lst pa_nil))
      (pss_cons (ps_for PassesOwn.never rfl (pi_range1 (by rfl) T.b_range (pa_cons (pv 2) pa_nil)) (pg_name (i := 4) sc_l_network.nd rfl (Or.inr rfl)) (pss_cons (ps_set (i := 5) sc_l_network.nd rfl (Or.inl rfl) (pe_op (op_addU (K := K)) pe_int (pe_call (G_l_next) (hr.mono (by decide)) rfl D_l_next.g D_l_next.F.kp D_l_next.b .nil pass0 (pa_cons (pv 0) (pa_cons (pe_ix (ix_U (K := K)) (pe_lst (pa_cons pe_int (pa_cons pe_int (pa_cons pe_int pa_nil)))) (pe_call (G_l_next) (hr.mono (by decide)) rfl D_l_next.g D_l_next.F.kp D_l_next.b .nil pass0 (pa_cons (pv 0) (pa_cons pe_int pa_nil))) (fun _ _ => rfl)) pa_nil)))))
      (pss_one (ps_expr (pe_bm PySem.F.plainAttrs_list PySem.F.slot_list_append PySem.F.type_list_append mt_append (pv 3) (pa_cons (pe_callTy (call_tupU (K := K)) (by rfl) T.b_tuple (by decide +kernel) (pa_cons (pe_lc (own := [("_law_seat", 6)]) (g := gName 6) (tt := tYes) rfl sc_l_network.nd (pi_range1 (by rfl) T.b_range (pa_cons (pv 5) pa_nil)) (blkOk_by (own := [("_law_seat", 6)]) (N := ["_law_h", "_law_most", "_law_count", "_law_network_here", "_law_station", "_law_seats", "_law_seat"]) (sc := defScope s_l_network) (by decide +kernel)) (fun _ _ _ _ _ => (pg_name (i := 6) sc_l_network.nd rfl (Or.inl rfl))) (fun _ _ _ _ _ => pts_nil) (fun _ _ _ _ _ => (pe_call (G_l_place) (hr.mono (by decide)) rfl D_l_place.g D_l_place.F.kp D_l_place.b .nil pass0 (pa_cons (pv 0) (pa_cons (pv 4) (pa_cons (pv 2) pa_nil)))))) pa_nil)) pa_nil))))))
      (pss_one (ps_ret (pe_callTy (call_tupU (K := K)) (by rfl) T.b_tuple (by decide +kernel) (pa_cons (pv 3) pa_nil))))))), ?_⟩
    walk_at "run"
    refine x_next g (by omega) (by omega) fun r H1 r0 r1 g1 e1 => ?_
    walk_at "run"
    refine x_lst (by simp) fun L H2 nL e2 hL => ?_
    obtain ⟨n, hn⟩ : ∃ n : Nat, 1 + r = (n : Int) := ⟨(1 + r).toNat, by omega⟩
    rw [hn]
    refine ⟨n, rfl, by omega, by omega, ?_⟩
    have hn1 : 1 ≤ n := by omega
    have nLa := (g1.na nL)
    have nLb := (g1.nb nL)
    have e02 : Ex2 a b H H2 := e1.ex e2
    refine loop_it walk_range (fun i σ H' => ∃ (u5 u6 u4 : Option V) (ts : List V) (M : Net), σ = [some (.ref a), some (.int most), some (.int n), some (.ref L), u4, u5, u6] ∧ H' L = some (.lst ts) ∧ DpAll K H' ts (M.map stD) ∧ M.length = i ∧ Gen H' a b ∧ (∀ x o, H x = some o → x ≠ a → x ≠ b → H' x = some o) ∧
      ∀ (k : Nat) s, M[k]? = some s → 1 ≤ s.length ∧ s.length ≤ 8 ∧ ∀ p ∈ s, PlOk k n p) ⟨_, _, _, [], [], rfl, hL, .nil, rfl, g1.ex e2, e02, fun k s h => by simp at h⟩ (fun _ _ _ _ _ => trivial) ?_ ?_
    · rintro i x σ H3 H3' hi ⟨u5, u6, u4, ts, M, rfl, hL3, hts, hM, g3, e3, hok⟩ ⟨eH, rfl⟩
      subst eH
      have hi : i < n := by simpa using hi
      walk_at "run"
      refine x_lst (by simp) fun p H4 np e4 hp => ?_
      refine x_next (g3.ex e4) (by decide) (by decide) fun r H5 r0 r1 g5 e5 => ?_
      have hp5 := e5 _ _ hp (g3.na np) (g3.nb np)
      have hL5 := e5 _ _ (e4 _ _ hL3) nLa nLb
      have e35 := (Ex2.of e4).trans e5
      have t35 := (TX.of e4).trans ((g3.ex e4).tx e5)
      refine x_menu hp5 r0 (by simpa using r1) fun v _ hv => ?_
      obtain ⟨q, rfl, q0, q1⟩ : ∃ q : Int, v = .int q ∧ 2 ≤ q ∧ q ≤ 8 := by
        simp at hv
        rcases hv with rfl | rfl | rfl <;> exact ⟨_, rfl, by omega, by omega⟩
      refine x_next g5 (by omega) (by omega) fun r H6 r0 r1 g6 e6 => ?_
      obtain ⟨m, hm⟩ : ∃ m : Nat, 1 + r = (m : Int) := ⟨(1 + r).toNat, by omega⟩
      have hL6 := e6 _ _ hL5 nLa nLb
      walk_at "run"
      rw [hm]
      refine ⟨x_tyL (SqL.of hL6), m, rfl, by omega, by omega, ?_⟩
      refine lcl_it walk_range (fun D j H' => ∃ acc : List Key, H' D = some (.lst (acc.map kV)) ∧ acc.length = j ∧ (∀ p ∈ acc, PlOk i n p) ∧ Gen H' a b ∧ ∀ x o, H6 x = some o → x ≠ a → x ≠ b → H' x = some o)
        (fun D H' hD e h => ⟨[], h, rfl, (by simp), g6.ex e, fun x o hx _ _ => e _ _ hx⟩) (fun _ _ _ _ _ => trivial) ?_ ?_
      · rintro D j x H7 H7' hD hj ⟨acc, hacc, hl, hok, g7, e7⟩ ⟨eH, rfl⟩
        subst eH
        have hj : j < m := by simpa using hj
        walk_at "run"
        refine ⟨a, b, _, _, rfl, g7, by omega, by omega, by omega, fun k H8 hk g8 e8 => ?_⟩
        refine x_push (e8 _ _ hacc (g6.na hD) (g6.nb hD)) (by simp; omega) fun H9 e9 h9 => ⟨acc ++ [k], by rw [h9]; simp, by simp [hl], ?_, g8.but (g6.na hD) (g6.nb hD) e9, fun x o hx ha hb => e9 _ _ (ne_of_none hx hD) (e8 _ _ (e7 _ _ hx ha hb) ha hb)⟩
        intro p hp
        rcases List.mem_append.mp hp with h | h
        · exact hok p h
        · obtain rfl : p = k := by simpa using h
          have e : (0 : Int) + i = i := by omega
          rw [e] at hk
          exact hk
      · rintro D H7 hD ⟨acc, hacc, hl, hok', g7, e7⟩
        have hl : acc.length = m := by simpa using hl
        refine x_tupL (SqL.of hacc) fun t H8 nt e8 ht => ?_
        have hL8 := e8 _ _ (e7 _ _ hL6 nLa nLb)
        refine x_append hL8 (by rw [hts.len]; simp; omega) fun H9 e9 h9 => ?_
        have t9 : TX H3' H9 := (((t35.trans (g5.tx e6)).trans (g6.tx e7)).trans (TX.of e8)).trans (TX.but hL8 e9)
        have hL7 := e7 _ _ hL6 nLa nLb
        have nLt : L ≠ t := ne_of_none hL7 nt
        refine ⟨some (.int m), u6, some (.int (0 + (i : Int))), ts ++ [.ref t], M ++ [acc], rfl, h9, ?_, by simp [hM], (g7.ex e8).but nLa nLb e9, fun x o hx ha hb => ?_, ?_⟩
        · rw [List.map_append]
          exact DpAll.append (DpAll.tx t9 hts fun d hd => (netD_t M).all d hd) (.cons (StAt.of (SqT.of (e9 _ _ nLt.symm ht))) .nil)
        · exact e9 _ _ (fun z => by subst z; exact absurd (e1 _ _ hx ha hb) (by rw [nL]; simp)) (e8 _ _ (e7 _ _ (e6 _ _ (e5 _ _ (e4 _ _ (e3 _ _ hx ha hb)) ha hb) ha hb) ha hb))
        · intro k s hs
          by_cases hk : k < M.length
          · rw [List.getElem?_append_left hk] at hs
            exact hok k s hs
          · rw [List.getElem?_append_right (by omega)] at hs
            have hz : k - M.length = 0 := by
              have := (List.getElem?_eq_some_iff.mp hs).1
              simp at this
              omega
            rw [hz] at hs
            obtain rfl : acc = s := by simpa using hs
            exact ⟨by omega, by omega, fun p hp => by
              have e : k = i := by omega
              rw [e]; exact hok' p hp⟩
    · rintro σ H3 ⟨u5, u6, u4, ts, M, rfl, hL3, hts, hM, g3, e3, hok⟩
      walk_at "run"
      refine x_tupL (SqL.of hL3) fun p H4 np e4 hp => ?_
      have hM : M.length = n := by simpa using hM
      refine k _ M _ ⟨by omega, by omega, fun k s h => by rw [hM]; exact hok k s h⟩ (.tup (SqT.of hp) (DpAll.ex e4 hts)) (g3.ex e4) (Ex2.ex e3 e4)
end
section
variable {P : Program} {w : World} {K : PySem.W.Frag} {mg : Str → Option Value} {base : Heap}
theorem FnOk.never {CX : CXT} {k : Nat} {f : Addr} {fd : FuncData} {ps : List Str} : FnOk P w K mg base CX k f fd ps (fun _ _ _ _ => False) := ⟨fun _ _ _ _ h => h.elim, fun _ _ _ _ _ _ _ _ _ _ _ _ _ h => h.elim⟩
abbrev s_l_alike : Stmt := top 63
theorem sc_l_alike : FnScope ["_law_found", "_law_due", "_law_k"] ["_law_found", "_law_due"] (defScope s_l_alike) := ⟨rfl, rfl, rfl, by decide +kernel, rfl, by decide +kernel, by decide +kernel⟩
theorem mem_depth : ∀ {ds : List PyData} {e : PyData}, e ∈ ds → e.depth ≤ PyData.depthAll ds
  | x :: r, e, h => by
    rw [PyData.depthAll]
    rcases List.mem_cons.mp h with rfl | h
    · omega
    · have := mem_depth h
      omega
theorem mem_lay : ∀ {ds : List PyData} {e : PyData}, PyData.canLayAll0 ds = true → e ∈ ds → e.canLay0 = true
  | x :: r, e, hc, h => by
    rw [PyData.canLayAll0, Bool.and_eq_true] at hc
    rcases List.mem_cons.mp h with rfl | h
    · exact hc.1
    · exact mem_lay hc.2 h
theorem shaped_mk {d : PyData} (h : d.canLay0 = true) (h2 : d.depth ≤ 64) : SeqAt.shaped d = true := by
  unfold SeqAt.shaped
  rw [h]
  simpa using h2
theorem shaped_get {d : PyData} (h : SeqAt.shaped d = true) : d.canLay0 = true ∧ d.depth ≤ 64 := by
  unfold SeqAt.shaped at h
  simpa using h
theorem shaped_l {ds : List PyData} {e : PyData} (h : SeqAt.shaped (.list ds) = true) (he : e ∈ ds) : SeqAt.shaped e = true ∧ e.depth + 1 ≤ (PyData.list ds).depth := by
  obtain ⟨h1, h2⟩ := shaped_get h
  rw [PyData.canLay0] at h1
  rw [PyData.depth] at h2 ⊢
  have := mem_depth he
  exact ⟨shaped_mk (mem_lay h1 he) (by omega), by omega⟩
theorem shaped_t {ds : List PyData} {e : PyData} (h : SeqAt.shaped (.tuple ds) = true) (he : e ∈ ds) : SeqAt.shaped e = true ∧ e.depth + 1 ≤ (PyData.tuple ds).depth := by
  obtain ⟨h1, h2⟩ := shaped_get h
  rw [PyData.canLay0] at h1
  rw [PyData.depth] at h2 ⊢
  have := mem_depth he
  exact ⟨shaped_mk (mem_lay h1 he) (by omega), by omega⟩
theorem eqv_same {d : PyData} (h : SeqAt.shaped d = true) : PyData.eqv d d = true := SeqAt.eqv_refl d (shaped_get h).1
/-- no list or tuple in it is very long -/
inductive SmD : PyData → Prop
  | non : SmD .none
  | bl (b : Bool) : SmD (.bool b)
  | int (i : Int) : SmD (.int i)
  | str (x : Str) : SmD (.str x)
  | lst {ds : List PyData} : ds.length ≤ 1000000 → (∀ d ∈ ds, SmD d) → SmD (.list ds)
  | tup {ds : List PyData} : ds.length ≤ 1000000 → (∀ d ∈ ds, SmD d) → SmD (.tuple ds)
/-- the same data on both sides, not deeper than n -/
def spAlike (K : PySem.W.Frag) : Nat → Sp
  | 0 => fun _ _ _ _ => False
  | n + 1 => fun vs H Q _ => ∃ (x y : V) (d : PyData), vs = [x, y] ∧ Dp K H x d ∧ Dp K H y d ∧ SeqAt.shaped d = true ∧ d.depth ≤ n ∧ SmD d ∧ ∀ H', Ex H H' → Q (.bl true) H'
theorem ok_l_alike {f : Addr} {fd : FuncData} (D : Df K mg "_law_alike" s_l_alike ["_law_found", "_law_due"] f fd) (T : Bt mg) : ∀ n, FnOk P w K mg base CX0 n f fd ["_law_found", "_law_due"] (spAlike K n)
  | 0 => FnOk.never
  | n + 1 => by
    have D_l_alike := D
    have G_l_alike : FnOk P w K mg base CX0 n f fd _ _ := ok_l_alike D T n
    refine D.F.ok sc_l_alike (fun vs H Q E h => ?_) (fun cdv A outer s H vs Q E hr h => ?_)
    · obtain ⟨a, b, n, rfl, _⟩ := h
      rfl
    · obtain ⟨x, y, d, rfl, hx, hy, sh, hd, sm, k⟩ := h
      have hu := hr.units
      refine ⟨_, (pss_cons (ps_if (pt_val (pe_callB (call_isiU (K := K)) (by rfl) T.b_isinstance (by decide +kernel) (pa_cons (pv 1) (pa_cons (pe_bltn (v := .ty "dict") (by rfl) T.b_dict (by decide +kernel) rfl) pa_nil)))) pss_never pss_nil)
      (pss_cons (ps_if (pt_val (pe_callB (call_isiU (K := K)) (by rfl) T.b_isinstance (by decide +kernel) (pa_cons (pv 1) (pa_cons (pe_tup (pa_cons (pe_bltn (v := .ty "tuple") (by rfl) T.b_tuple (by decide +kernel) rfl) (pa_cons (pe_bltn (v := .ty "list") (by rfl) T.b_list (by decide +kernel) rfl) pa_nil))) pa_nil)))) (pss_cons (ps_if (PW.pt (pw_or (pt_not (pt_val (pe_callB (call_isiU (K := K)) (by rfl) T.b_isinstance (by decide +kernel) (pa_cons (pv 0) (pa_cons (pe_tup (pa_cons (pe_bltn (v := .ty "tuple") (by rfl) T.b_tuple (by decide +kernel) rfl) (pa_cons (pe_bltn (v := .ty "list") (by rfl) T.b_list (by decide +kernel) rfl) pa_nil))) pa_nil))))) (pw_or1 (pt_cmpR (op_neU (K := K) hu) (pe_callB (call_isiU (K := K)) (by rfl) T.b_isinstance (by decide +kernel) (pa_cons (pv 0) (pa_cons (pe_bltn (v := .ty "list") (by rfl) T.b_list (by decide +kernel) rfl) pa_nil))) (pe_callB (call_isiU (K := K)) (by rfl) T.b_isinstance (by decide +kernel) (pa_cons (pv 1) (pa_cons (pe_bltn (v := .ty "list") (by rfl) T.b_list (by decide +kernel) rfl) pa_nil))) (nomark _))))) (pss_one (ps_ret pe_bl)) pss_nil)
      (pss_cons (ps_if (pt_cmpR (op_neU (K := K) hu) (pe_callB (call_lenU (K := K)) (by rfl) T.b_len (by decide +kernel) (pa_cons (pv 0) pa_nil)) (pe_callB (call_lenU (K := K)) (by rfl) T.b_len (by decide +kernel) (pa_cons (pv 1) pa_nil)) (nomark _)) (pss_one (ps_ret pe_bl)) pss_nil)
      (pss_one (ps_ret (pe_cmpR (op_eqU (K := K) hu) (pe_lc (own := [("_law_k", 2)]) (g := gName 2) (tt := _) rfl sc_l_alike.nd (pi_range1 (by rfl) T.b_range (pa_cons (pe_callB (call_lenU (K := K)) (by rfl) T.b_len (by decide +kernel) (pa_cons (pv 1) pa_nil)) pa_nil)) (blkOk_by (own := [("_law_k", 2)]) (N := ["_law_found", "_law_due", "_law_k"]) (sc := defScope s_l_alike) (by decide +kernel)) (fun _ _ _ _ _ => (pg_name (i := 2) sc_l_alike.nd rfl (Or.inl rfl))) (fun _ _ _ _ _ => (pts_one (pt_not (pt_val (pe_call (G_l_alike) hr rfl D_l_alike.g D_l_alike.F.kp D_l_alike.b .nil pass0 (pa_cons (pe_ix (ix_U (K := K)) (pv 0) (pv 2) (fun _ _ => rfl)) (pa_cons (pe_ix (ix_U (K := K)) (pv 1) (pv 2) (fun _ _ => rfl)) pa_nil))))))) (fun _ _ _ _ _ => (pv 2))) (pe_lst pa_nil) (nomark _)))))) pss_nil)
      (pss_cons (ps_if (PW.pt (pw_or (pt_cmpR op_isN (pv 1) pe_non (nomark _)) (pw_or1 (pt_val (pe_callB (call_isiU (K := K)) (by rfl) T.b_isinstance (by decide +kernel) (pa_cons (pv 1) (pa_cons (pe_bltn (v := .ty "str") (by rfl) T.b_str (by decide +kernel) rfl) pa_nil))))))) (pss_one (ps_ret (pe_and (pe_cmpR (op_eqU (K := K) hu) (pv 0) (pv 1) (nomark _)) (pe_one (pe_cmpR (op_eqU (K := K) hu) (pe_callB (call_isiU (K := K)) (by rfl) T.b_isinstance (by decide +kernel) (pa_cons (pv 0) (pa_cons (pe_bltn (v := .ty "str") (by rfl) T.b_str (by decide +kernel) rfl) pa_nil))) (pe_callB (call_isiU (K := K)) (by rfl) T.b_isinstance (by decide +kernel) (pa_cons (pv 1) (pa_cons (pe_bltn (v := .ty "str") (by rfl) T.b_str (by decide +kernel) rfl) pa_nil))) (nomark _)))))) pss_nil)
      (pss_one (ps_ret (pe_and (pe_callB (call_isiU (K := K)) (by rfl) T.b_isinstance (by decide +kernel) (pa_cons (pv 0) (pa_cons (pe_bltn (v := .ty "int") (by rfl) T.b_int (by decide +kernel) rfl) pa_nil))) (pe_and (pe_cmpR (op_eqU (K := K) hu) (pe_callB (call_isiU (K := K)) (by rfl) T.b_isinstance (by decide +kernel) (pa_cons (pv 0) (pa_cons (pe_bltn (v := .ty "bool") (by rfl) T.b_bool (by decide +kernel) rfl) pa_nil))) (pe_callB (call_isiU (K := K)) (by rfl) T.b_isinstance (by decide +kernel) (pa_cons (pv 1) (pa_cons (pe_bltn (v := .ty "bool") (by rfl) T.b_bool (by decide +kernel) rfl) pa_nil))) (nomark _)) (pe_one (pe_cmpR (op_eqU (K := K) hu) (pv 0) (pv 1) (nomark _)))))))))), ?_⟩
      walk_at "run"
      -- a tuple or a list: the items
      have seq : ∀ (ds : List PyData) (a b : Addr) (xs ys : List V) (H1 : Hp), Ex H H1 → x = .ref a → y = .ref b → SqA K H1 a xs → SqA K H1 b ys → DpAll K H1 xs ds → DpAll K H1 ys ds → ds.length ≤ 1000000 → (∀ e ∈ ds, SeqAt.shaped e = true ∧ e.depth + 1 ≤ n ∧ SmD e) →
          rLenU K [x] H1 fun x_8 H1 => rLenU K [y] H1 fun y_2 H2 => rNeU K x_8 y_2 H2 fun x_9 H' => ∃ k, x_9 = V.bl k ∧ if k = true then Q (V.bl false) H' else rLenU K [y] H' fun x_10 H1 => ∃ j, [x_10] = [V.int j] ∧ -2 ^ 62 ≤ j ∧ j < 2 ^ 62 ∧
            LcL (Itr 0 j.toNat) (gName 2) (tNot (tB (tCall (spAlike K n) [] E0 (tCons (tOp (rIx K) (tVar 0) (tVar 2)) (tCons (tOp (rIx K) (tVar 1) (tVar 2)) tNil))))) (tVar 2) [2] [some x, some y, none] H1 fun x H1 => rLst [] H1 fun y H2 => rEqU K x y H2 Q := by
        intro ds a b xs ys H1 e1 hxa hyb ha hb dx dy hlen hds
        subst hxa hyb
        have lx := dx.len
        have ly := dy.len
        refine x_lenA ha (x_lenA hb ?_)
        rw [lx, ly]
        walk_at "run"
        rw [if_neg (by simp)]
        refine x_lenA hb ⟨_, rfl, by omega, by omega, ?_⟩
        refine lcl_it walk_range (fun D i H' => H' D = some (.lst []) ∧ Ex H1 H') (fun D H' _ e h => ⟨h, e⟩) (fun _ _ _ _ _ => trivial) ?_ ?_
        · rintro D i v H2 H2' hD hi ⟨hD2, e2⟩ ⟨eH, rfl⟩
          subst eH
          have hi : i < ys.length := by simpa using hi
          obtain ⟨v1, hv1⟩ : ∃ v, xs[i]? = some v := ⟨xs[i], by simp⟩
          obtain ⟨v2, hv2⟩ : ∃ v, ys[i]? = some v := ⟨ys[i], by simp⟩
          obtain ⟨e, he, hd1⟩ := dx.get' hv1
          obtain ⟨e', he', hd2⟩ := dy.get' hv2
          obtain rfl : e = e' := by rw [he] at he'; exact Option.some.inj he'
          have hm := hds e (List.mem_of_getElem? he)
          have hz : (0 : Int) + i = (i : Int) := by omega
          walk_at "run"
          rw [hz]
          refine x_ixA (ha.ex e2) (atI_nat hv1) (x_ixA (hb.ex e2) (atI_nat hv2) ?_)
          obtain ⟨m, rfl⟩ : ∃ m, n = m + 1 := ⟨n - 1, by omega⟩
          refine ⟨_, _, e, rfl, Dp.ex e2 hd1, Dp.ex e2 hd2, hm.1, by omega, hm.2.2, fun H4 e4 => ⟨true, rfl, ?_⟩⟩
          rw [if_neg (by simp)]
          exact ⟨e4 _ _ hD2, e2.trans e4⟩
        · rintro D H2 hD ⟨hD2, e2⟩
          refine x_lst (by simp) fun p H3 np e3 hp => ?_
          refine x_eqD (.lst (SqL.of (e3 _ _ hD2)) .nil) (.lst (SqL.of hp) .nil) rfl rfl ?_
          exact k H3 (e1.trans (e2.trans e3))
      -- a scalar
      have e0 := eqv_same sh
      have eqd : ∀ (H1 : Hp) (Q1 : VK), Ex H H1 → Q1 (.bl true) H1 → rEqU K x y H1 Q1 := fun H1 Q1 e q => x_eqD (Dp.ex e hx) (Dp.ex e hy) sh sh (by rw [e0]; exact q)
      cases d with
      | dict _ => cases hx
      | list ds =>
        obtain ⟨a, xs, rfl, hxs, dx⟩ : ∃ a xs, x = .ref a ∧ SqL K H a xs ∧ DpAll K H xs ds := by
          cases hx with
          | lst h1 h2 => exact ⟨_, _, rfl, h1, h2⟩
        obtain ⟨b, ys, rfl, hys, dy⟩ : ∃ b ys, y = .ref b ∧ SqL K H b ys ∧ DpAll K H ys ds := by
          cases hy with
          | lst h1 h2 => exact ⟨_, _, rfl, h1, h2⟩
        obtain ⟨hlen, hsm⟩ : ds.length ≤ 1000000 ∧ ∀ d ∈ ds, SmD d := by
          cases sm with
          | lst h1 h2 => exact ⟨h1, h2⟩
        refine x_isD hy rfl ?_
        refine ⟨false, rfl, ?_⟩
        rw [if_neg Bool.false_ne_true]
        refine x_tup (by simp) fun p H1 np e1 hp => ?_
        refine x_isD2 (Dp.ex e1 hy) hp rfl ?_
        refine ⟨true, rfl, ?_⟩
        rw [if_pos rfl]
        refine x_tup (by simp) fun p2 H2 np2 e2 hp2 => ?_
        have e02 := e1.trans e2
        refine x_isD2 (Dp.ex e02 hx) hp2 rfl ?_
        refine ⟨true, rfl, ?_⟩
        rw [if_neg (by simp)]
        refine x_isD (Dp.ex e02 hx) rfl (x_isD (Dp.ex e02 hy) rfl ?_)
        walk_at "run"
        rw [if_neg (by simp)]
        refine seq ds a b xs ys H2 e02 rfl rfl (.inl (ex_l e02 hxs)) (.inl (ex_l e02 hys)) (DpAll.ex e02 dx) (DpAll.ex e02 dy) hlen fun e he => ?_
        have := shaped_l sh he
        exact ⟨this.1, by omega, hsm e he⟩
      | tuple ds =>
        obtain ⟨a, xs, rfl, hxs, dx⟩ := Dp.tup_inv hx
        obtain ⟨b, ys, rfl, hys, dy⟩ := Dp.tup_inv hy
        obtain ⟨hlen, hsm⟩ : ds.length ≤ 1000000 ∧ ∀ d ∈ ds, SmD d := by
          cases sm with
          | tup h1 h2 => exact ⟨h1, h2⟩
        refine x_isD hy rfl ?_
        refine ⟨false, rfl, ?_⟩
        rw [if_neg Bool.false_ne_true]
        refine x_tup (by simp) fun p H1 np e1 hp => ?_
        refine x_isD2 (Dp.ex e1 hy) hp rfl ?_
        refine ⟨true, rfl, ?_⟩
        rw [if_pos rfl]
        refine x_tup (by simp) fun p2 H2 np2 e2 hp2 => ?_
        have e02 := e1.trans e2
        refine x_isD2 (Dp.ex e02 hx) hp2 rfl ?_
        refine ⟨true, rfl, ?_⟩
        rw [if_neg (by simp)]
        refine x_isD (Dp.ex e02 hx) rfl (x_isD (Dp.ex e02 hy) rfl ?_)
        walk_at "run"
        rw [if_neg (by simp)]
        refine seq ds a b xs ys H2 e02 rfl rfl (.inr (ex_t e02 hxs)) (.inr (ex_t e02 hys)) (DpAll.ex e02 dx) (DpAll.ex e02 dy) hlen fun e he => ?_
        have := shaped_t sh he
        exact ⟨this.1, by omega, hsm e he⟩
      | none =>
        obtain rfl : y = .non := by cases hy; rfl
        refine x_isD hy rfl ⟨false, rfl, ?_⟩
        rw [if_neg Bool.false_ne_true]
        refine x_tup (by simp) fun p H1 np e1 hp => ?_
        refine x_isD2 (Dp.ex e1 hy) hp rfl ⟨false, rfl, ?_⟩
        rw [if_neg Bool.false_ne_true, if_pos rfl]
        refine eqd H1 _ e1 ⟨true, rfl, ?_⟩
        rw [if_pos rfl]
        refine x_isD (Dp.ex e1 hx) rfl (x_isD (Dp.ex e1 hy) rfl ?_)
        walk_at "run"
        exact k H1 e1
      | str z =>
        obtain rfl : y = .str z := by cases hy; rfl
        refine x_isD hy rfl ⟨false, rfl, ?_⟩
        rw [if_neg Bool.false_ne_true]
        refine x_tup (by simp) fun p H1 np e1 hp => ?_
        refine x_isD2 (Dp.ex e1 hy) hp rfl ⟨false, rfl, ?_⟩
        rw [if_neg Bool.false_ne_true, if_neg (by simp)]
        refine x_isD (Dp.ex e1 hy) rfl ⟨true, rfl, ?_⟩
        rw [if_pos rfl]
        refine eqd H1 _ e1 ⟨true, rfl, ?_⟩
        rw [if_pos rfl]
        refine x_isD (Dp.ex e1 hx) rfl (x_isD (Dp.ex e1 hy) rfl ?_)
        walk_at "run"
        exact k H1 e1
      | int z =>
        obtain rfl : y = .int z := by cases hy; rfl
        refine x_isD hy rfl ⟨false, rfl, ?_⟩
        rw [if_neg Bool.false_ne_true]
        refine x_tup (by simp) fun p H1 np e1 hp => ?_
        refine x_isD2 (Dp.ex e1 hy) hp rfl ⟨false, rfl, ?_⟩
        rw [if_neg Bool.false_ne_true, if_neg (by simp)]
        refine x_isD (Dp.ex e1 hy) rfl ⟨false, rfl, ?_⟩
        rw [if_neg Bool.false_ne_true]
        refine x_isD (Dp.ex e1 hx) rfl ⟨true, rfl, ?_⟩
        rw [if_pos rfl]
        refine x_isD (Dp.ex e1 hx) rfl (x_isD (Dp.ex e1 hy) rfl ?_)
        walk_at "run"
        exact eqd H1 _ e1 (k H1 e1)
      | bool z =>
        obtain rfl : y = .bl z := by cases hy; rfl
        refine x_isD hy rfl ⟨false, rfl, ?_⟩
        rw [if_neg Bool.false_ne_true]
        refine x_tup (by simp) fun p H1 np e1 hp => ?_
        refine x_isD2 (Dp.ex e1 hy) hp rfl ⟨false, rfl, ?_⟩
        rw [if_neg Bool.false_ne_true, if_neg (by simp)]
        refine x_isD (Dp.ex e1 hy) rfl ⟨false, rfl, ?_⟩
        rw [if_neg Bool.false_ne_true]
        refine x_isD (Dp.ex e1 hx) rfl ⟨true, rfl, ?_⟩
        rw [if_pos rfl]
        refine x_isD (Dp.ex e1 hx) rfl (x_isD (Dp.ex e1 hy) rfl ?_)
        walk_at "run"
        exact eqd H1 _ e1 (k H1 e1)
end
local macro_rules | `(tactic| walk_at "run") => `(tactic| try simp only [tSeq, tAsg, tVar, tC, gName, L2.start, List.map_cons, List.map_nil, List.cons_append, List.nil_append, List.length_cons, List.length_nil, List.replicate, List.getElem?_cons_zero, List.getElem?_cons_succ, Option.some.injEq, exists_eq_left', List.set_cons_zero, List.set_cons_succ, V.ref.injEq, tRet, x_tLst, x_tTup, tCons, tCB, tNil, tOp, x_addI, x_mulI, x_rI, x_rI0, x_ltI, x_leI, x_ltS, x_leS, x_eqI, x_neI, x_eqS, x_eqB, x_neB, x_isiI, x_isiS, x_int, x_max, x_min, cxOf, tIfS, tNext, tTest, V.bl.injEq, decide_eq_true_eq, gSub, tAnd, tOr, tNot, tB, tDrop, tBM, x_tFor, iRng1, iList, iTup, x_tLc, tYes, tCall, tIf, tAndV, tOrV, tNotV, tChain, List.append_nil, tUn, if_true, wipe, true_and, x_never, iU, x_itS, kV])
/-- the program's constants -/
abbrev s_is_letters : Stmt := top 18
structure Ct (K : PySem.W.Frag) (mg : Str → Option Value) : Prop where
  g_MAX_LETTERS : ∃ t, mg "MAX_LETTERS" = some (.int 8 t)
  g_MAX_SEATS : ∃ t, mg "MAX_SEATS" = some (.int 8 t)
  g_MAX_STATIONS : ∃ t, mg "MAX_STATIONS" = some (.int 40 t)
  is_letters : ∃ f fd, Df K mg "is_letters" s_is_letters ["text"] f fd
def okc (c : Nat) : Bool := decide (97 ≤ c) && decide (c ≤ 122)
theorem one_lt (c d : Nat) : decide (([c] : List Nat) < [d]) = decide (c < d) := by
  have e : (([c] : List Nat) < [d]) ↔ c < d := by
    simp [List.cons_lt_cons_iff]
  simp [e]
/-- one to eight letters -/
def wordB (z : Str) : Bool := decide (1 ≤ z.length) && decide (z.length ≤ 8) && z.cps.toList.all okc
/-- a seat of the station st of n may lead to it -/
def placeB (st n : Int) : Key → Bool
  | .inl j => decide (st < j) && decide (j < n)
  | .inr z => wordB z
section
variable {P : Program} {w : World} {K : PySem.W.Frag} {mg : Str → Option Value} {base : Heap}
theorem sc_is_letters : FnScope ["text", "letter"] ["text"] (defScope s_is_letters) := ⟨rfl, rfl, rfl, by decide +kernel, rfl, by decide +kernel, by decide +kernel⟩
/-- letters a to z, at least one -/
def lettersB (z : Str) : Bool := decide (1 ≤ z.length) && z.cps.toList.all okc
def spLetters : Sp := fun vs H Q _ => ∃ z : Str, vs = [.str z] ∧ z.length ≤ 100000 ∧ ∀ H', Ex H H' → Q (.bl (lettersB z)) H'
theorem ok_is_letters {f : Addr} {fd : FuncData} (D : Df K mg "is_letters" s_is_letters ["text"] f fd) (T : Bt mg) : FnOk P w K mg base CX0 1 f fd ["text"] spLetters := by
  refine D.F.ok sc_is_letters (fun vs H Q E h => ?_) (fun cdv A outer s H vs Q E hr h => ?_)
  · obtain ⟨z, rfl, _⟩ := h
    rfl
  · obtain ⟨z, rfl, hl, k⟩ := h
    refine ⟨_, (pss_one (ps_ret (pe_and (pe_cmpR (op_gtU) (pe_callB (call_lenU (K := K)) (by rfl) T.b_len (by decide +kernel) (pa_cons (pv 0) pa_nil)) pe_int (nomark _)) (pe_one (pe_callB (call_allU (K := K) rfl) (by rfl) T.b_all (by decide +kernel) (pa_cons (pe_lc (own := [("letter", 1)]) (g := gName 1) (tt := tYes) rfl sc_is_letters.nd (pi_U (K := K) (pv 0)) (blkOk_by (own := [("letter", 1)]) (N := ["text", "letter"]) (sc := defScope s_is_letters) (by decide +kernel)) (fun _ _ _ _ _ => (pg_name (i := 1) sc_is_letters.nd rfl (Or.inl rfl))) (fun _ _ _ _ _ => pts_nil) (fun _ _ _ _ _ => (pe_chain (op_leU) (op_leU) pe_str (pv 1) pe_str))) pa_nil)))))), ?_⟩
    walk_at "run"
    refine x_lenS (by rw [sizeLine_eq]; omega) ?_
    walk_at "run"
    by_cases h1 : (0 : Int) < (z.length : Nat)
    · rw [if_pos h1]
      walk_at "run"
      have hz : z.cps.size = z.cps.toList.length := by simp
      have hzl : z.cps.size = z.length := rfl
      refine lcl_it walk_str (fun D i H' => H' D = some (.lst (((z.cps.toList.take i).map okc).map V.bl)) ∧ Ex H H') (fun D H' _ e h => ⟨h, e⟩) (fun _ _ _ _ _ => trivial) ?_ ?_
      · rintro D i v H2 H2' hD hi ⟨hD2, e2⟩ ⟨eH, c, hc, rfl⟩
        subst eH
        have hc' : z.cps.toList[i]? = some c := by simpa using hc
        walk_at "run"
        have ea : (Str.ofString "a").cps.toList = [97] := by decide +kernel
        have ez : (Str.ofString "z").cps.toList = [122] := by decide +kernel
        rw [ea]
        show if (!decide (([c] : List Nat) < [97])) = true then _ else _
        rw [one_lt]
        have push : ∀ b, b = okc c → Push D (fun H' => H' D = some (.lst (((z.cps.toList.take (i + 1)).map okc).map V.bl)) ∧ Ex H H') (.bl b) H2' := fun b hb => by
          refine x_push hD2 (by simp; omega) fun H5 e5 h5 => ⟨?_, fun x o hx => e5 _ _ (ne_of_none hx hD) (e2 _ _ hx)⟩
          rw [h5, List.take_add_one, hc', hb]
          simp
        by_cases g1 : c < 97
        · rw [if_neg (by simp [g1])]
          refine push _ ?_
          unfold okc
          simp; omega
        · rw [if_pos (by simp [g1])]
          rw [ez]
          show Push D _ (V.bl (!decide (([122] : List Nat) < [c]))) H2'
          rw [one_lt]
          refine push _ ?_
          unfold okc
          by_cases g2 : 122 < c
          · have : ¬ c ≤ 122 := by omega
            simp [g2, this]
          · have h1 : 97 ≤ c := by omega
            have h2 : c ≤ 122 := by omega
            simp [g2, h1, h2]
      · rintro D H2 hD ⟨hD2, e2⟩
        refine ⟨D, _, rfl, SqL.of hD2, ?_⟩
        have e : (((z.cps.toList.take z.cps.size).map okc).all id) = lettersB z := by
          rw [hz, List.take_length]
          unfold lettersB
          have a1 : decide (1 ≤ z.length) = true := by simp; omega
          rw [a1, List.all_map]
          rfl
        rw [e]
        exact k H2 e2
    · rw [if_neg h1]
      have q := k H (Ex.refl H)
      have e : lettersB z = false := by unfold lettersB; have : ¬ 1 ≤ z.length := by omega
                                        simp [this]
      rw [e] at q
      exact q
abbrev s_is_word : Stmt := top 19
theorem sc_is_word : FnScope ["text"] ["text"] (defScope s_is_word) := ⟨rfl, rfl, rfl, by decide +kernel, rfl, by decide +kernel, by decide +kernel⟩
def spWord : Sp := fun vs H Q _ => ∃ z : Str, vs = [.str z] ∧ z.length ≤ 1000 ∧ ∀ H', Ex H H' → Q (.bl (wordB z)) H'
theorem ok_is_word {f : Addr} {fd : FuncData} (D : Df K mg "is_word" s_is_word ["text"] f fd) (T : Bt mg) (C : Ct K mg) : FnOk P w K mg base CX0 2 f fd ["text"] spWord := by
  obtain ⟨f1, fd1, D_is_letters⟩ := C.is_letters
  have G_is_letters : FnOk P w K mg base CX0 1 f1 fd1 _ _ := ok_is_letters D_is_letters T
  refine D.F.ok sc_is_word (fun vs H Q E h => ?_) (fun cdv A outer s H vs Q E hr h => ?_)
  · obtain ⟨z, rfl, _⟩ := h
    rfl
  · obtain ⟨z, rfl, hl, k⟩ := h
    obtain ⟨tl, g_MAX_LETTERS⟩ := C.g_MAX_LETTERS
    refine ⟨_, (pss_one (ps_ret (pe_and (pe_cmpR (op_leU) (pe_callB (call_lenU (K := K)) (by rfl) T.b_len (by decide +kernel) (pa_cons (pv 0) pa_nil)) (pe_glob (v := .int 8) rfl g_MAX_LETTERS ⟨_, rfl⟩) (nomark _)) (pe_one (pe_call (G_is_letters) (hr.mono (by decide)) rfl D_is_letters.g D_is_letters.F.kp D_is_letters.b .nil pass0 (pa_cons (pv 0) pa_nil)))))), ?_⟩
    walk_at "run"
    refine x_lenS (by rw [sizeLine_eq]; omega) ?_
    walk_at "run"
    by_cases h8 : ((z.length : Nat) : Int) ≤ 8
    · rw [if_pos h8]
      refine ⟨z, rfl, by omega, fun H1 e1 => ?_⟩
      have e : lettersB z = wordB z := by
        unfold lettersB wordB
        have a2 : decide (z.length ≤ 8) = true := by simp; omega
        rw [a2, Bool.and_true]
      rw [e]
      exact k H1 e1
    · rw [if_neg h8]
      have q := k H (Ex.refl H)
      have e : wordB z = false := by unfold wordB; have : ¬ z.length ≤ 8 := by omega
                                     simp [this]
      rw [e] at q
      exact q
abbrev s_is_place : Stmt := top 20
theorem sc_is_place : FnScope ["place", "station", "stations"] ["place", "station", "stations"] (defScope s_is_place) := ⟨rfl, rfl, rfl, by decide +kernel, rfl, by decide +kernel, by decide +kernel⟩
def spPlaceQ : Sp := fun vs H Q _ => ∃ (k : Key) (st n : Int), vs = [kV k, .int st, .int n] ∧ (∀ z, k = .inr z → z.length ≤ 1000) ∧ ∀ H', Ex H H' → Q (.bl (placeB st n k)) H'
theorem ok_is_place {f f1 : Addr} {fd fd1 : FuncData} (D : Df K mg "is_place" s_is_place ["place", "station", "stations"] f fd) (T : Bt mg) (C : Ct K mg) (D_is_word : Df K mg "is_word" s_is_word ["text"] f1 fd1) :
    FnOk P w K mg base CX0 3 f fd ["place", "station", "stations"] spPlaceQ := by
  have G_is_word : FnOk P w K mg base CX0 2 f1 fd1 _ _ := ok_is_word D_is_word T C
  refine D.F.ok sc_is_place (fun vs H Q E h => ?_) (fun cdv A outer s H vs Q E hr h => ?_)
  · obtain ⟨k, st, n, rfl, _⟩ := h
    rfl
  · obtain ⟨key, st, n, rfl, hl, k⟩ := h
    refine ⟨_, (pss_cons (ps_if (pt_val (pe_callB (call_isiU (K := K)) (by rfl) T.b_isinstance (by decide +kernel) (pa_cons (pv 0) (pa_cons (pe_bltn (v := .ty "str") (by rfl) T.b_str (by decide +kernel) rfl) pa_nil)))) (pss_one (ps_ret (pe_call (G_is_word) (hr.mono (by decide)) rfl D_is_word.g D_is_word.F.kp D_is_word.b .nil pass0 (pa_cons (pv 0) pa_nil)))) pss_nil)
      (pss_one (ps_ret (pe_chain (op_ltU) (op_ltU) (pv 1) (pv 0) (pv 2))))), ?_⟩
    cases key with
    | inl j =>
      walk_at "run"
      rw [if_neg Bool.false_ne_true]
      by_cases h : st < j
      · rw [if_pos h]
        have e : placeB st n (.inl j) = decide (j < n) := by unfold placeB; simp [h]
        rw [← e]
        exact k H (Ex.refl H)
      · rw [if_neg h]
        have e : placeB st n (.inl j) = false := by unfold placeB; simp [h]
        rw [← e]
        exact k H (Ex.refl H)
    | inr z =>
      walk_at "run"
      exact ⟨z, rfl, hl z rfl, k⟩
end
local macro_rules | `(tactic| walk_at "run") => `(tactic| try simp only [tSeq, tAsg, tVar, tC, gName, L2.start, List.map_cons, List.map_nil, List.cons_append, List.nil_append, List.length_cons, List.length_nil, List.replicate, List.getElem?_cons_zero, List.getElem?_cons_succ, Option.some.injEq, exists_eq_left', List.set_cons_zero, List.set_cons_succ, V.ref.injEq, tRet, x_tLst, x_tTup, tCons, tCB, tNil, tOp, x_addI, x_mulI, x_rI, x_rI0, x_ltI, x_leI, x_ltS, x_leS, x_eqI, x_neI, x_eqS, x_eqB, x_neB, x_isiI, x_isiS, x_int, x_max, x_min, cxOf, tIfS, tNext, tTest, V.bl.injEq, decide_eq_true_eq, gSub, tAnd, tOr, tNot, tB, tDrop, tBM, x_tFor, iRng1, iList, iTup, x_tLc, tYes, tCall, tIf, tAndV, tOrV, tNotV, tChain, List.append_nil, tUn, if_true, wipe, true_and, x_never, iU, x_itS, kV, Nat.reduceAdd, Nat.reduceSub, List.replicate_zero, x_rU, x_tMkO, iEnumT])
/-- a network without fault -/
structure ValidN (N : Net) : Prop where
  pos : 1 ≤ N.length
  le : N.length ≤ 40
  st : ∀ (k : Nat) s, N[k]? = some s → 1 ≤ s.length ∧ s.length ≤ 8 ∧ ∀ p ∈ s, placeB k N.length p = true ∧ ∀ z, p = .inr z → z.length ≤ 1000
theorem wordB_W4 {z : Str} (h : z ∈ W4) : wordB z = true ∧ z.length ≤ 8 := by
  unfold W4 at h
  simp only [List.mem_cons, List.not_mem_nil, or_false] at h
  rcases h with rfl | rfl | rfl | rfl <;> exact ⟨by decide +kernel, by decide +kernel⟩
theorem Drawn.valid {N : Net} {most : Int} (D : Drawn N most) (h : most ≤ 40) : ValidN N where
  pos := D.pos
  le := by have := D.le; omega
  st := fun k s hk => by
    obtain ⟨h1, h2, h3⟩ := D.st k s hk
    refine ⟨h1, h2, fun p hp => ?_⟩
    have := h3 p hp
    cases p with
    | inl j =>
      obtain ⟨a, b⟩ := this
      exact ⟨by unfold placeB; simp; omega, fun z e => by cases e⟩
    | inr z =>
      have := wordB_W4 this
      exact ⟨this.1, fun y e => by cases e; omega⟩
theorem ValidN.seat {N : Net} (h : ValidN N) {i : Nat} {s : List Key} (hs : N[i]? = some s) {j : Int} (hp : (.inl j : Key) ∈ s) : (i : Int) < j ∧ j < N.length := by
  have := ((h.st i s hs).2.2 _ hp).1
  unfold placeB at this
  simpa using this
section
variable {P : Program} {w : World} {K : PySem.W.Frag} {mg : Str → Option Value} {base : Heap}
def spCheckOk (K : PySem.W.Frag) : Sp := fun vs H Q _ => ∃ (v : V) (N : Net), vs = [v] ∧ NetAt K H v N ∧ ValidN N ∧ ∀ H', Ex H H' → Q .non H'
abbrev s_check_network : Stmt := top 21
theorem sc_check_network : FnScope ["network", "station", "seats", "seat", "place"] ["network"] (defScope s_check_network) := ⟨rfl, rfl, rfl, by decide +kernel, rfl, by decide +kernel, by decide +kernel⟩
theorem ok_check_network0 {f f1 f2 : Addr} {fd fd1 fd2 : FuncData} (D : Df K mg "check_network" s_check_network ["network"] f fd) (T : Bt mg) (Ck : Ct K mg) (D_is_word : Df K mg "is_word" s_is_word ["text"] f1 fd1)
    (D_is_place : Df K mg "is_place" s_is_place ["place", "station", "stations"] f2 fd2) :
    FnOk P w K mg base CX0 4 f fd ["network"] (spCheckOk K) := by
  have G_is_place : FnOk P w K mg base CX0 3 f2 fd2 _ _ := ok_is_place D_is_place T Ck D_is_word
  refine D.F.ok sc_check_network (fun vs H Q E h => ?_) (fun cdv A outer s H vs Q E hr h => ?_)
  · obtain ⟨v, N, rfl, _⟩ := h
    rfl
  · obtain ⟨v, N, rfl, hN, hV, k1⟩ := h
    have hu := hr.units
    obtain ⟨tML, g_MAX_STATIONS⟩ := Ck.g_MAX_STATIONS
    obtain ⟨tMS, g_MAX_SEATS⟩ := Ck.g_MAX_SEATS
    refine ⟨_, (pss_cons (ps_if (pt_cmpR (op_eqU (K := K) hu) (pe_callB (call_lenU (K := K)) (by rfl) T.b_len (by decide +kernel) (pa_cons (pv 0) pa_nil)) pe_int (nomark _)) pss_never pss_nil)
      (pss_one (ps_for PassesOwn.never rfl (pi_enumT (by rfl) T.b_enumerate (pa_cons (pv 0) pa_nil)) (pg_tup rfl (pgs_cons (pg_name (i := 1) sc_check_network.nd rfl (Or.inl rfl)) (pgs_cons (pg_name (i := 2) sc_check_network.nd rfl (Or.inl rfl)) pgs_nil))) (pss_cons (ps_if (PW.pt (pw_or (pt_cmpR (op_eqU (K := K) hu) (pv 1) (pe_glob (v := .int 40) rfl g_MAX_STATIONS ⟨_, rfl⟩) (nomark _)) (pw_or1 (pt_not (pt_chain (op_leU) (op_leU) pe_int (pe_callB (call_lenU (K := K)) (by rfl) T.b_len (by decide +kernel) (pa_cons (pv 2) pa_nil)) (pe_glob (v := .int 8) rfl g_MAX_SEATS ⟨_, rfl⟩)))))) pss_never pss_nil)
      (pss_one (ps_for PassesOwn.never rfl (pi_enumT (by rfl) T.b_enumerate (pa_cons (pv 2) pa_nil)) (pg_tup rfl (pgs_cons (pg_name (i := 3) sc_check_network.nd rfl (Or.inl rfl)) (pgs_cons (pg_name (i := 4) sc_check_network.nd rfl (Or.inl rfl)) pgs_nil))) (pss_one (ps_if (pt_not (pt_val (pe_call (G_is_place) (hr.mono (by decide)) rfl D_is_place.g D_is_place.F.kp D_is_place.b .nil pass0 (pa_cons (pv 4) (pa_cons (pv 1) (pa_cons (pe_callB (call_lenU (K := K)) (by rfl) T.b_len (by decide +kernel) (pa_cons (pv 0) pa_nil)) pa_nil)))))) pss_never pss_nil)))))))), ?_⟩
    walk_at "run"
    obtain ⟨a, ts, rfl, hT, hts⟩ := hN.at
    have hl : ts.length = N.length := by rw [hts.len, List.length_map]
    have hp := hV.pos
    have h40 := hV.le
    refine x_lenT hT ?_
    rw [hl]
    walk_at "run"
    rw [if_neg (by omega)]
    refine ⟨_, _, rfl, hT, loop_it walk_enumT (fun i σ H' => ∃ u1 u2 u3 u4, σ = [some (.ref a), u1, u2, u3, u4] ∧ Ex H H') ⟨_, _, _, _, rfl, Ex.refl H⟩
      (fun i σ H' _ ⟨_, _, _, _, _, e⟩ => ex_t e hT) ?_ ?_⟩
    · rintro i v σ H1 H2 hi ⟨u1, u2, u3, u4, rfl, e1⟩ ⟨T0, x, y, rfl, hT0, rfl, hx, hy⟩
      obtain rfl : V.int (i : Nat) = x := Option.some.inj hx
      have e2 : Ex H (upd H1 T0 (.tup [.int (i : Nat), y])) := e1.trans (Ex.new hT0)
      refine x_two (SqT.of upd_same) ?_
      generalize upd H1 T0 (.tup [.int (i : Nat), y]) = H2 at e2
      obtain ⟨sD, hs, hy2⟩ := hts.get' hy
      obtain ⟨s, hsN, rfl⟩ : ∃ s, N[i]? = some s ∧ stD s = sD := by simpa using hs
      obtain ⟨b, rfl, hB⟩ := StAt.at hy2
      obtain ⟨s1, s2, s3⟩ := hV.st i s hsN
      walk_at "run"
      rw [if_neg (by omega)]
      refine x_lenT (ex_t e2 hB) ?_
      rw [List.length_map]
      walk_at "run"
      rw [if_pos (by omega), if_neg (by simp; omega)]
      refine ⟨_, _, rfl, ex_t e2 hB, loop_it walk_enumT (fun j σ H' => ∃ u3 u4, σ = [some (.ref a), some (.int i), some (.ref b), u3, u4] ∧ Ex H H') ⟨_, _, rfl, e2⟩
        (fun j σ H' _ ⟨_, _, _, e⟩ => ex_t e hB) ?_ ?_⟩
      · rintro j v σ H3 H4 hj ⟨u3, u4, rfl, e3⟩ ⟨T1, x, y, rfl, hT1, rfl, hx, hy⟩
        obtain rfl : V.int (j : Nat) = x := Option.some.inj hx
        have e4 : Ex H (upd H3 T1 (.tup [.int (j : Nat), y])) := e3.trans (Ex.new hT1)
        refine x_two (SqT.of upd_same) ?_
        generalize upd H3 T1 (.tup [.int (j : Nat), y]) = H4 at e4
        obtain ⟨p, hp, rfl⟩ : ∃ p, s[j]? = some p ∧ kV p = y := by simpa using hy
        have hpm := s3 p (List.mem_of_getElem? hp)
        walk_at "run"
        refine x_lenT (ex_t e4 hT) ?_
        rw [hl]
        refine ⟨p, i, N.length, rfl, hpm.2, fun H5 e5 => ⟨_, rfl, ?_⟩⟩
        rw [if_neg (by rw [hpm.1]; decide)]
        exact ⟨_, _, rfl, e4.trans e5⟩
      · rintro σ H3 ⟨u3, u4, rfl, e3⟩
        exact ⟨_, _, _, _, rfl, e3⟩
    · rintro σ H1 ⟨u1, u2, u3, u4, rfl, e1⟩
      exact k1 H1 e1
end
/-- what is enough of a network for the counting -/
structure CntN (N : Net) : Prop where
  le : N.length ≤ 40
  st : ∀ s ∈ N, 1 ≤ s.length ∧ s.length ≤ 8
  fw : ∀ (i : Nat) s, N[i]? = some s → ∀ j : Int, (.inl j : Key) ∈ s → (i : Int) < j ∧ j < N.length
theorem ValidN.cnt {N : Net} (h : ValidN N) : CntN N :=
  ⟨h.le, fun s hs => by
    obtain ⟨k, hk⟩ := List.mem_iff_getElem?.mp hs
    obtain ⟨a, b, _⟩ := h.st k s hk
    exact ⟨a, b⟩, fun i s hs j hj => h.seat hs hj⟩
theorem seats_len {N : Net} (h : CntN N) {k : Nat} (hk : k ≤ N.length) : (seatsOf N k).length ≤ 320 := by
  have := seatsOf_len (N := N) (fun s hs => (h.st s hs).2) k
  have := h.le
  omega
local macro_rules | `(tactic| walk_at "run") => `(tactic| try simp only [tSeq, tAsg, tVar, tC, gName, L2.start, List.map_cons, List.map_nil, List.cons_append, List.nil_append, List.length_cons, List.length_nil, List.replicate, List.getElem?_cons_zero, List.getElem?_cons_succ, Option.some.injEq, exists_eq_left', List.set_cons_zero, List.set_cons_succ, V.ref.injEq, tRet, x_tLst, x_tTup, tCons, tCB, tNil, tOp, x_addI, x_mulI, x_rI, x_rI0, x_ltI, x_leI, x_ltS, x_leS, x_eqI, x_neI, x_eqS, x_eqB, x_neB, x_isiI, x_isiS, x_int, x_max, x_min, cxOf, tIfS, tNext, tTest, V.bl.injEq, decide_eq_true_eq, gSub, tAnd, tOr, tNot, tB, tDrop, tBM, x_tFor, iRng1, iList, iTup, x_tLc, tYes, tCall, tIf, tAndV, tOrV, tNotV, tChain, List.append_nil, tUn, if_true, wipe, true_and, x_never, iU, x_itS, kV, Nat.reduceAdd, Nat.reduceSub, List.replicate_zero, x_rU, x_tMkO, iEnumT, x_tDc, x_tDGet, x_tDGet2, x_sDPut, x_tDSetd, x_tDNewK, x_iItems, x_iZip])
section
variable {P : Program} {w : World} {K : PySem.W.Frag} {mg : Str → Option Value} {base : Heap}
abbrev s_find_feeders : Stmt := top 52
theorem sc_find_feeders : FnScope ["network", "station", "feeders", "seats", "place", "sources"] ["network"] (defScope s_find_feeders) := ⟨rfl, rfl, rfl, by decide +kernel, rfl, by decide +kernel, by decide +kernel⟩
def spFeed (K : PySem.W.Frag) : Sp := fun vs H Q _ => ∃ (v : V) (N : Net), vs = [v] ∧ NetAt K H v N ∧ CntN N ∧ ∀ H' D A G kvs, Feed H H' D N.length (seatsOf N N.length) A G kvs → H' D = some (.dK kvs) → Q (.ref D) H'
theorem ok_find_feeders {f : Addr} {fd : FuncData} (D : Df K mg "find_feeders" s_find_feeders ["network"] f fd) (T : Bt mg) : FnOk P w K mg base CX0 1 f fd ["network"] (spFeed K) := by
  refine D.F.ok sc_find_feeders (fun vs H Q E h => ?_) (fun cdv A outer s H vs Q E hr h => ?_)
  · obtain ⟨v, N, rfl, _⟩ := h
    rfl
  · obtain ⟨v, N, rfl, hN, hC, q⟩ := h
    have hu1 := hu_of hr
    refine ⟨_, (pss_cons (ps_setDc (i := 2) (own := [("station", 1)]) (g := gName 1) (tt := tYes) rfl sc_find_feeders.nd rfl rfl (sw_trueD rfl rfl rfl (by decide +kernel)) (pi_range1 (by rfl) T.b_range (pa_cons (pe_callB (call_lenU (K := K)) (by rfl) T.b_len (by decide +kernel) (pa_cons (pv 0) pa_nil)) pa_nil)) (blkOk_by (own := [("station", 1)]) (N := ["network", "station", "feeders", "seats", "place", "sources"]) (sc := defScope s_find_feeders) (by decide +kernel)) (fun _ _ _ _ _ => (pg_name (i := 1) sc_find_feeders.nd rfl (Or.inl rfl))) (fun _ _ _ _ _ => pts_nil) (fun _ _ _ _ _ => (pv 1)) (fun _ _ _ _ _ => pe_dnewK))
      (pss_cons (ps_for PassesOwn.never rfl (pi_enumT (by rfl) T.b_enumerate (pa_cons (pv 0) pa_nil)) (pg_tup rfl (pgs_cons (pg_name (i := 1) sc_find_feeders.nd rfl (Or.inl rfl)) (pgs_cons (pg_name (i := 3) sc_find_feeders.nd rfl (Or.inl rfl)) pgs_nil))) (pss_one (ps_for PassesOwn.never rfl (pi_U (K := K) (pv 3)) (pg_name (i := 4) sc_find_feeders.nd rfl (Or.inl rfl)) (pss_cons (ps_set (i := 5) sc_find_feeders.nd rfl (Or.inl rfl) (pe_dsetd (pv 2) (pv 4) pe_dnewK ⟨rfl, rfl, rfl, rfl⟩))
      (pss_one (ps_dput hu1 (pv 5) (pv 1) (pe_op (op_addU (K := K)) (pe_dget2 hu1 (pv 5) (pv 1) pe_int ⟨rfl, rfl, rfl, rfl⟩) pe_int) rfl))))))
      (pss_one (ps_ret (pv 2))))), ?_⟩
    walk_at "run"
    obtain ⟨a, ts, rfl, hT, hts⟩ := hN.at
    have hl : ts.length = N.length := by rw [hts.len, List.length_map]
    have h40 := hC.le
    refine x_lenT hT ?_
    rw [hl]
    refine ⟨_, rfl, by omega, by omega, ?_⟩
    refine dcl_it walk_range (fun D i H' => ∃ A G kvs, Feed H H' D i [] A G kvs ∧ H' D = some (.dK kvs)) (fun D H' hD e h => ⟨_, _, _, Feed.start hD e, h⟩) (fun _ _ _ _ _ => trivial) ?_ ?_
    · rintro D i x H1 H1' hD hi ⟨A, G, kvs, F, hd⟩ ⟨eH, rfl⟩
      subst eH
      walk_at "run"
      have hi : i < N.length := by simpa using hi
      have hz : (0 : Int) + i = (i : Int) := by omega
      rw [hz]
      refine x_dnew fun z H2 nz e2 h2 => ?_
      have hl2 := F.len
      refine x_putD (k := .inl (i : Int)) (e2 _ _ hd) (by simp at hl2; omega) fun H3 e3 h3 => ⟨_, _, _, F.key (fresh_back F.ex nz) (ne_of_none hd nz).symm (fun q a h => ne_of_none (F.inn q a h) nz) (fun x o hx h => e3 _ _ hx (e2 _ _ h)) (e3 _ _ (ne_of_none hd nz).symm h2), h3⟩
    · rintro D H1 hD ⟨A, G, kvs, F, hd⟩
      walk_at "run"
      have hn : (((N.length : Nat) : Int)).toNat = N.length := by omega
      rw [hn] at F
      refine ⟨_, _, rfl, ex_t F.ex hT, loop_it walk_enumT (fun i σ H' => ∃ u1 u3 u4 u5 A G kvs, σ = [some (.ref a), u1, some (.ref D), u3, u4, u5] ∧ Feed H H' D N.length (seatsOf N i) A G kvs ∧ H' D = some (.dK kvs)) ⟨_, _, _, _, _, _, _, rfl, F, hd⟩
        (fun i σ H' _ ⟨_, _, _, _, _, _, _, _, F, _⟩ => ex_t F.ex hT) ?_ ?_⟩
      · rintro i v σ H2 H3 hi ⟨u1, u3, u4, u5, A, G, kvs, rfl, F, hd⟩ ⟨T0, x, y, rfl, hT0, rfl, hx, hy⟩
        obtain rfl : V.int (i : Nat) = x := Option.some.inj hx
        have e2 : Ex H2 (upd H2 T0 (.tup [.int (i : Nat), y])) := Ex.new hT0
        refine x_two (SqT.of upd_same) ?_
        generalize upd H2 T0 (.tup [.int (i : Nat), y]) = H3 at e2
        have F := F.ex2 e2
        have hd := e2 _ _ hd
        obtain ⟨sD, hs, hy2⟩ := hts.get' hy
        obtain ⟨s, hsN, rfl⟩ : ∃ s, N[i]? = some s ∧ stD s = sD := by simpa using hs
        obtain ⟨b, rfl, hB⟩ := StAt.at hy2
        have hiN : i < N.length := (List.getElem?_eq_some_iff.mp hsN).1
        have hs8 := (hC.st s (List.mem_of_getElem? hsN)).2
        have hLi := seats_len hC (k := i) (by omega)
        walk_at "run"
        refine x_itT (ex_t F.ex hB) (loop_it walk_tup (fun j σ H' => ∃ u4 u5 A G kvs, σ = [some (.ref a), some (.int i), some (.ref D), some (.ref b), u4, u5] ∧ Feed H H' D N.length (seatsOf N i ++ stSeats i (s.take j)) A G kvs ∧ H' D = some (.dK kvs)) ⟨_, _, _, _, _, rfl, by simpa [stSeats] using F, hd⟩
          (fun j σ H' _ ⟨_, _, _, _, _, _, F, _⟩ => ex_t F.ex hB) ?_ ?_)
        · rintro j x σ H4 H4' hj ⟨u4, u5, A, G, kvs, rfl, F, hd⟩ ⟨eH, hx⟩
          subst eH
          obtain ⟨p, hp, rfl⟩ : ∃ p, s[j]? = some p ∧ kV p = x := by simpa using hx
          have hL : (seatsOf N i ++ stSeats i (s.take j)).length ≤ 328 := by
            rw [List.length_append]
            have : (stSeats i (s.take j)).length ≤ 8 := by unfold stSeats; simp; omega
            omega
          have hkl := F.len
          have hLe : seatsOf N i ++ stSeats i (s.take (j + 1)) = (seatsOf N i ++ stSeats i (s.take j)) ++ [(i, p)] := by
            unfold stSeats
            rw [List.take_add_one, hp, List.map_append, List.append_assoc]
            rfl
          rw [hLe]
          generalize seatsOf N i ++ stSeats i (s.take j) = L at F hL hkl
          walk_at "run"
          refine ⟨isD_k hd, x_dnew fun z H5 nz e5 h5 => ?_⟩
          have nz0 := fresh_back F.ex nz
          have nzA : ∀ q a, A q = some a → a ≠ z := fun q a h => ne_of_none (F.inn q a h) nz
          have F := F.ex2 e5
          have hd5 := e5 _ _ hd
          -- the place's dict is at z2; it is asked, and put
          have fin : ∀ (z2 : Addr) (H6 : Hp) (kvs2 : List (Key × V)), (A p = some z2 ∨ (A p = none ∧ H z2 = none ∧ z2 ≠ D ∧ ∀ q a, A q = some a → a ≠ z2)) → (∀ x o, x ≠ D → H5 x = some o → H6 x = some o) → H6 D = some (.dK kvs2) → kvs2 = (if A p = none then putK kvs p (.ref z2) else kvs) → H6 z2 = some (.dK (cntV (G p))) →
              IsD H6 z2 ∧ rDGet2 z2 (V.int (i : Nat)) (V.int 0) H6 fun x H1 => rAddU K x (V.int 1) H1 fun v H1 => rDPut (V.ref z2) (V.int (i : Nat)) v H1
                ((fun σ H' => ∃ u4 u5 A G kvs, σ = [some (V.ref a), some (V.int (i : Nat)), some (V.ref D), some (V.ref b), u4, u5] ∧ Feed H H' D N.length (L ++ [(i, p)]) A G kvs ∧ H' D = some (.dK kvs)) [some (V.ref a), some (V.int (i : Nat)), some (V.ref D), some (V.ref b), some (kV p), some (V.ref z2)]) := by
            intro z2 H6 kvs2 hz e6 hd6 hk6 h6
            refine ⟨isD_k h6, x_dget2 (k := .inl (i : Int)) h6 ?_⟩
            rw [val_cntV]
            walk_at "run"
            have hg := F.lenG p
            refine x_dput (k := .inl (i : Int)) h6 (by unfold cntV; simp; omega) fun H7 e7 _ h7 => ?_
            rw [put_cntV (F.ndG p)] at h7
            have hzD : z2 ≠ D := by
              rcases hz with h | h
              · exact F.ne _ _ h
              · exact h.2.2.1
            refine ⟨_, _, _, _, _, rfl, F.seat hz (fun x o h1 h2 h => e7 _ _ h2 (e6 _ _ h1 h)) h7, ?_⟩
            rw [← hk6]
            exact e7 _ _ hzD.symm hd6
          refine x_dsetd hd5 (by omega) (fun v hv => ?_) (fun hv H6 e6 _ h6 => ?_)
          · rw [F.val] at hv
            obtain ⟨z2, hz2, rfl⟩ : ∃ z2, A p = some z2 ∧ V.ref z2 = v := by simpa using hv
            walk_at "run"
            exact fin z2 H5 kvs (.inl hz2) (fun _ _ _ h => h) hd5 (by rw [if_neg (by rw [hz2]; simp)]) (F.inn _ _ hz2)
          · rw [F.val] at hv
            have hA : A p = none := by simpa using hv
            have zD : z ≠ D := (ne_of_none hd nz).symm
            walk_at "run"
            exact fin z H6 _ (.inr ⟨hA, nz0, zD, nzA⟩) e6 h6 (by rw [if_pos hA]) (by rw [F.empty hA]; exact e6 _ _ zD h5)
        · rintro σ H4 ⟨u4, u5, A, G, kvs, rfl, F, hd⟩
          refine ⟨_, _, _, _, A, G, kvs, rfl, ?_, hd⟩
          have e : seatsOf N (i + 1) = seatsOf N i ++ stSeats i s := by
            show seatsOf N i ++ stSeats i (N.getD i []) = _
            rw [List.getD_eq_getElem?_getD, hsN]; rfl
          rw [e]
          have e2 : s.take ((s.map kV).length) = s := by rw [List.length_map, List.take_length]
          rw [e2] at F
          exact F
      · rintro σ H4 ⟨u1, u3, u4, u5, A, G, kvs, rfl, F, hd⟩
        walk_at "run"
        rw [hl] at F
        exact q _ _ _ _ _ F hd
end
/-- what boats bs carry to a place with the feeders G -/
def brought (bs : List Int) (G : Cnt) : Int := cntQ (fun i => bs.getD i 0) G
theorem sum_brought {bs : List Int} : ∀ {G : Cnt}, (G.map fun g => g.2 * bs.getD g.1 0).sum = brought bs G
  | [] => rfl
  | (i, c) :: r => by
    rw [List.map_cons, List.sum_cons, sum_brought]; rfl
theorem ex_unlock {H H1 H2 : Hp} {d : Addr} {u : HO} (h : H d = some u) (e : ∀ x o, x ≠ d → H x = some o → H1 x = some o) (f : Ex H1 H2) : Ex H (upd H2 d u) := fun x o hx => by
  by_cases z : x = d
  · subst z
    rw [upd_same, ← h, hx]
  · rw [upd_ne z]; exact f _ _ (e _ _ z hx)
/-- how many join the station k, by the boats bs so far -/
def joins (N : Net) (c : Int) (bs : List Int) (k : Nat) : Int := if k = 0 then c else toQ (fun i => bs.getD i 0) (.inl (k : Int)) (seatsOf N N.length)
/-- the boats of the first k stations -/
def bts (N : Net) (ls : List Int) (c : Int) : Nat → List Int
  | 0 => []
  | k + 1 => bts N ls c k ++ [(ls.getD k 0 + joins N c (bts N ls c k) k).fdiv ((N.getD k []).length : Nat)]
theorem bts_len {N : Net} {ls : List Int} {c : Int} : ∀ {k}, (bts N ls c k).length = k
  | 0 => rfl
  | k + 1 => by
    show (bts N ls c k ++ [_]).length = k + 1
    rw [List.length_append, bts_len]; rfl
section
variable {P : Program} {w : World} {K : PySem.W.Frag} {mg : Str → Option Value} {base : Heap}
abbrev s_count_brought : Stmt := top 53
theorem sc_count_brought : FnScope ["sources", "boats", "station", "seats"] ["sources", "boats"] (defScope s_count_brought) := ⟨rfl, rfl, rfl, by decide +kernel, rfl, by decide +kernel, by decide +kernel⟩
def spBrought (K : PySem.W.Frag) : Sp := fun vs H Q _ => ∃ (d b : Addr) (G : Cnt) (bs : List Int), vs = [.ref d, .ref b] ∧ H d = some (.dK (cntV G)) ∧ SqL K H b (bs.map V.int) ∧ G.length ≤ 1000 ∧ (∀ g ∈ G, g.1 < bs.length ∧ 0 < g.2 ∧ g.2 ≤ 1000) ∧ ∀ H', Ex H H' → Q (.int (brought bs G)) H'
theorem ok_count_brought {f : Addr} {fd : FuncData} (D : Df K mg "count_brought" s_count_brought ["sources", "boats"] f fd) (T : Bt mg) : FnOk P w K mg base CX0 1 f fd ["sources", "boats"] (spBrought K) := by
  refine D.F.ok sc_count_brought (fun vs H Q E h => ?_) (fun cdv A outer s H vs Q E hr h => ?_)
  · obtain ⟨v, b, G, N, rfl, _⟩ := h
    rfl
  · obtain ⟨d, b, G, bs, rfl, hd, hb, hl, hG, q⟩ := h
    have hu1 := hu_of hr
    refine ⟨_, (pss_one (ps_ret (pe_callB (cr_sum rfl) (by rfl) T.b_sum (by decide +kernel) (pa_cons (pe_lock (pe_lc (own := [("station", 2), ("seats", 3)]) (g := gTup K 2 (gCons (gName 2) (gCons (gName 3) gNil))) (tt := tYes) rfl sc_count_brought.nd (pi_items (pv 0)) (blkOk_by (own := [("station", 2), ("seats", 3)]) (N := ["sources", "boats", "station", "seats"]) (sc := defScope s_count_brought) (by decide +kernel)) (fun _ _ _ _ _ => (pg_tup rfl (pgs_cons (pg_name (i := 2) sc_count_brought.nd rfl (Or.inl rfl)) (pgs_cons (pg_name (i := 3) sc_count_brought.nd rfl (Or.inl rfl)) pgs_nil)))) (fun _ _ _ _ _ => pts_nil) (fun _ _ _ _ _ => (pe_op (op_mulU (K := K)) (pv 3) (pe_ix (ix_U (K := K)) (pv 1) (pv 2) (fun _ _ => rfl)))))) pa_nil)))), ?_⟩
    walk_at "run"
    refine x_lock hd trivial fun od H1 e1 n1 h1 => ?_
    walk_at "run"
    refine x_items h1 (lcl_it walk_items (fun D i H' => Ex H1 H' ∧ H' D = some (.lst (((G.take i).map fun g => g.2 * bs.getD g.1 0).map V.int))) (fun D H' hD e h => ⟨e, h⟩) (fun D i H' _ h => h.1 _ _ h1) ?_ ?_)
    · rintro D i x H2 H3 hD hi ⟨e2, h2⟩ ⟨T0, x, y, rfl, hT0, rfl, hx, hy⟩
      have e3 : Ex H2 (upd H2 T0 (.tup [x, y])) := Ex.new hT0
      refine x_two (SqT.of upd_same) ?_
      generalize upd H2 T0 (.tup [x, y]) = H3 at e3
      obtain ⟨g, hg, rfl, rfl⟩ : ∃ g, G[i]? = some g ∧ V.int (g.1 : Nat) = x ∧ V.int g.2 = y := by
        cases e : G[i]? with
        | none => simp [cntV, e] at hx
        | some g =>
          simp [cntV, e] at hx hy
          exact ⟨g, rfl, hx, hy⟩
      obtain ⟨g1, g2, g3⟩ := hG g (List.mem_of_getElem? hg)
      walk_at "run"
      refine x_ixL (ex_l (e2.trans e3) (sq_but hb hd e1)) (atI_nat (v := .int (bs.getD g.1 0)) (by simp [List.getD_eq_getElem?_getD, g1])) ?_
      walk_at "run"
      refine ⟨.inl ⟨by omega, by omega⟩, ?_⟩
      refine x_push (e3 _ _ h2) (by simp; omega) fun H5 e5 h5 => ⟨fun x o hx => e5 _ _ (ne_of_none hx hD) (e3 _ _ (e2 _ _ hx)), ?_⟩
      rw [h5, List.take_add_one, hg]
      simp
    · rintro D H2 hD ⟨e2, h2⟩
      have hle : (cntV G).length = G.length := by unfold cntV; simp
      rw [hle, List.take_length] at h2
      have hDd : D ≠ d := fun z => by subst z; rw [h1] at hD; cases hD
      refine ⟨e2 _ _ h1, x_sum (ns := G.map fun g => g.2 * bs.getD g.1 0) (SqL.of (by rw [upd_ne hDd]; exact h2)) ?_⟩
      rw [sum_brought]
      exact q _ (ex_unlock hd e1 e2)
abbrev s_count_departures : Stmt := top 54
theorem sc_count_departures : FnScope ["network", "feeders", "lengths", "arrivals", "boats", "station", "seats", "joined"] ["network", "feeders", "lengths", "arrivals"] (defScope s_count_departures) := ⟨rfl, rfl, rfl, by decide +kernel, rfl, by decide +kernel, by decide +kernel⟩
def spDep (K : PySem.W.Frag) : Sp := fun vs H Q _ => ∃ (v : V) (N : Net) (D l : Addr) (H0 : Hp) (A : Key → Option Addr) (G : Key → Cnt) (kvs : List (Key × V)) (ls : List Int) (c : Int), vs = [v, .ref D, .ref l, .int c] ∧ NetAt K H v N ∧ CntN N ∧ Feed H0 H D N.length (seatsOf N N.length) A G kvs ∧ H D = some (.dK kvs) ∧
  SqL K H l (ls.map V.int) ∧ ls.length = N.length ∧ ∀ H' p, Ex H H' → H p = none → H' p = some (.lst ((bts N ls c N.length).map V.int)) → Q (.ref p) H'
theorem ok_count_departures {f f1 : Addr} {fd fd1 : FuncData} (D : Df K mg "count_departures" s_count_departures ["network", "feeders", "lengths", "arrivals"] f fd) (T : Bt mg) (D_count_brought : Df K mg "count_brought" s_count_brought ["sources", "boats"] f1 fd1) : FnOk P w K mg base CX0 2 f fd ["network", "feeders", "lengths", "arrivals"] (spDep K) := by
  have G_count_brought : FnOk P w K mg base CX0 1 f1 fd1 _ _ := ok_count_brought D_count_brought T
  refine D.F.ok sc_count_departures (fun vs H Q E h => ?_) (fun cdv A outer s H vs Q E hr h => ?_)
  · obtain ⟨v, N, D, l, H0, A, G, kvs, ls, c, rfl, _⟩ := h
    rfl
  · obtain ⟨v, N, D, l, H0, A, G, kvs, ls, c, rfl, hN, hC, F, hD, hls, hll, q⟩ := h
    have hu := hr.units
    have hu1 := hu_of hr
    refine ⟨_, (pss_cons (ps_set (i := 4) sc_count_departures.nd rfl (Or.inl rfl) (pe_lst pa_nil))
      (pss_cons (ps_for PassesOwn.never rfl (pi_enumT (by rfl) T.b_enumerate (pa_cons (pv 0) pa_nil)) (pg_tup rfl (pgs_cons (pg_name (i := 5) sc_count_departures.nd rfl (Or.inl rfl)) (pgs_cons (pg_name (i := 6) sc_count_departures.nd rfl (Or.inl rfl)) pgs_nil))) (pss_cons (ps_set (i := 7) sc_count_departures.nd rfl (Or.inl rfl) (pe_ifExp (pt_cmpR (op_eqU (K := K) hu) (pv 5) pe_int (nomark _)) (pv 3) (pe_call (G_count_brought) (hr.mono (by decide)) rfl D_count_brought.g D_count_brought.F.kp D_count_brought.b .nil pass0 (pa_cons (pe_dget hu1 (pv 1) (pv 5) (fun _ _ => rfl)) (pa_cons (pv 4) pa_nil)))))
      (pss_one (ps_expr (pe_bm PySem.F.plainAttrs_list PySem.F.slot_list_append PySem.F.type_list_append mt_append (pv 4) (pa_cons (pe_op op_fdivN (pe_op (op_addU (K := K)) (pe_ix (ix_U (K := K)) (pv 2) (pv 5) (fun _ _ => rfl)) (pv 7)) (pe_callB (call_lenU (K := K)) (by rfl) T.b_len (by decide +kernel) (pa_cons (pv 6) pa_nil))) pa_nil))))))
      (pss_one (ps_ret (pv 4))))), ?_⟩
    walk_at "run"
    obtain ⟨a, ts, rfl, hT, hts⟩ := hN.at
    have hl : ts.length = N.length := by rw [hts.len, List.length_map]
    have h40 := hC.le
    refine x_lst (by simp) fun B H1 nB e1 hB => ?_
    refine ⟨_, _, rfl, ex_t e1 hT, loop_it walk_enumT (fun i σ H' => ∃ u5 u6 u7, σ = [some (.ref a), some (.ref D), some (.ref l), some (.int c), some (.ref B), u5, u6, u7] ∧ Ex H H' ∧ H' B = some (.lst ((bts N ls c i).map V.int))) ⟨_, _, _, rfl, e1, hB⟩
      (fun i σ H' _ ⟨_, _, _, _, e, _⟩ => ex_t e hT) ?_ ?_⟩
    · rintro i v σ H2 H3 hi ⟨u5, u6, u7, rfl, e2, hB2⟩ ⟨T0, x, y, rfl, hT0, rfl, hx, hy⟩
      obtain rfl : V.int (i : Nat) = x := Option.some.inj hx
      have e3 : Ex H2 (upd H2 T0 (.tup [.int (i : Nat), y])) := Ex.new hT0
      refine x_two (SqT.of upd_same) ?_
      generalize upd H2 T0 (.tup [.int (i : Nat), y]) = H3 at e3
      have hB3 := e3 _ _ hB2
      have e03 := e2.trans e3
      obtain ⟨sD, hs, hy2⟩ := hts.get' hy
      obtain ⟨s, hsN, rfl⟩ : ∃ s, N[i]? = some s ∧ stD s = sD := by simpa using hs
      obtain ⟨b, rfl, hb⟩ := StAt.at hy2
      have hiN : i < N.length := (List.getElem?_eq_some_iff.mp hsN).1
      obtain ⟨hs1, hs8⟩ := hC.st s (List.mem_of_getElem? hsN)
      -- behind the name joined
      have fin : ∀ (j : Int) (H4 : Hp), j = joins N c (bts N ls c i) i → Ex H3 H4 → rIx K (V.ref l) (V.int (i : Nat)) H4 fun x H1 => rAddU K x (V.int j) H1 fun x H1 => rLenU K [V.ref b] H1 fun y H2 => rI CDivN (fun i j => V.int (i.fdiv j)) x y H2 fun v H1 =>
          rAppend (V.ref B) [v] H1 fun x H' => (fun σ H' => ∃ u5 u6 u7, σ = [some (V.ref a), some (V.ref D), some (V.ref l), some (V.int c), some (V.ref B), u5, u6, u7] ∧ Ex H H' ∧ H' B = some (.lst ((bts N ls c (i + 1)).map V.int))) [some (V.ref a), some (V.ref D), some (V.ref l), some (V.int c), some (V.ref B), some (V.int (i : Nat)), some (V.ref b), some (V.int j)] H' := by
        rintro j H4 rfl e4
        refine x_ixL (ex_l (e03.trans e4) hls) (atI_nat (v := .int (ls.getD i 0)) (by simp [List.getD_eq_getElem?_getD, hll, hiN])) ?_
        walk_at "run"
        refine x_lenT (ex_t (e03.trans e4) hb) ?_
        rw [List.length_map]
        walk_at "run"
        refine ⟨⟨by omega, by omega⟩, x_append (e4 _ _ hB3) (by rw [List.length_map, bts_len]; omega) fun H5 e5 h5 => ?_⟩
        refine ⟨_, _, _, rfl, fun x o hx => e5 _ _ (ne_of_none hx nB) (e4 _ _ (e03 _ _ hx)), ?_⟩
        rw [h5]
        show _ = some (HO.lst (List.map V.int (bts N ls c i ++ [_])))
        have hg : N.getD i [] = s := by rw [List.getD_eq_getElem?_getD, hsN]; rfl
        rw [List.map_append, hg]
        rfl
      walk_at "run"
      by_cases h0 : i = 0
      · rw [if_pos (by omega)]
        exact ⟨x_tyL (SqL.of hB3), fin c H3 (by unfold joins; rw [if_pos h0]) (Ex.refl _)⟩
      · rw [if_neg (by omega)]
        obtain ⟨dq, hdq⟩ : ∃ dq, A (.inl (i : Int)) = some dq := by
          have := (F.keys (.inl (i : Int))).mpr (.inl ⟨i, hiN, rfl⟩)
          exact Option.isSome_iff_exists.mp this
        refine x_dget (k := .inl (i : Int)) (e03 _ _ hD) (by rw [F.val, hdq]; rfl) ?_
        have hlen := seats_len hC (k := N.length) (Nat.le_refl _)
        have hlg := F.lenG (.inl (i : Int))
        refine ⟨dq, B, _, _, rfl, e03 _ _ (F.inn _ _ hdq), SqL.of hB3, by omega, fun g hg => ⟨?_, (F.le _ g hg).1, by have := (F.le _ g hg).2; omega⟩, fun H4 e4 => ⟨x_tyL (SqL.of (e4 _ _ hB3)), fin _ H4 ?_ e4⟩⟩
        · rw [bts_len]
          have hm := F.mem _ g hg
          obtain ⟨h1, h2⟩ := mem_seatsOf.mp hm
          have hgN : N[g.1]? = some (N.getD g.1 []) := by simp [List.getD_eq_getElem?_getD, h1]
          have := hC.fw g.1 _ hgN _ h2
          omega
        · unfold joins brought
          rw [if_neg h0, F.sum]
    · rintro σ H2 ⟨u5, u6, u7, rfl, e2, hB2⟩
      walk_at "run"
      rw [hl] at hB2
      exact q H2 B e2 nB hB2
end
local macro_rules | `(tactic| walk_at "run") => `(tactic| try simp only [tSeq, tAsg, tVar, tC, gName, L2.start, List.map_cons, List.map_nil, List.cons_append, List.nil_append, List.length_cons, List.length_nil, List.replicate, List.getElem?_cons_zero, List.getElem?_cons_succ, Option.some.injEq, exists_eq_left', List.set_cons_zero, List.set_cons_succ, V.ref.injEq, tRet, x_tLst, x_tTup, tCons, tCB, tNil, tOp, x_addI, x_mulI, x_rI, x_rI0, x_ltI, x_leI, x_ltS, x_leS, x_eqI, x_neI, x_eqS, x_eqB, x_neB, x_isiI, x_isiS, x_int, x_max, x_min, cxOf, tIfS, tNext, tTest, V.bl.injEq, decide_eq_true_eq, gSub, tAnd, tOr, tNot, tB, tDrop, tBM, x_tFor, iRng1, iList, iTup, x_tLc, tYes, tCall, tIf, tAndV, tOrV, tNotV, tChain, List.append_nil, tUn, if_true, wipe, true_and, x_never, iU, x_itS, kV, Nat.reduceAdd, Nat.reduceSub, List.replicate_zero, x_rU, x_tMkO, iEnumT, x_tDc, x_tDGet, x_tDGet2, x_sDPut, x_tDSetd, x_tDNewK, x_iItems, x_iZip, x_tSAddK])
section
variable {P : Program} {w : World} {K : PySem.W.Frag} {mg : Str → Option Value} {base : Heap}
/-- a def that goes by another name -/
structure Dfa (K : PySem.W.Frag) (mg : Str → Option Value) (x y : Str) (st : Stmt) (ps : List Str) (f : Addr) (fd : FuncData) : Prop where
  F : Fun K y y st f fd
  g : mg x = some (.ref f)
  b : Binds K fd ps []
abbrev s_check_passengers : Stmt := top 26
theorem sc_check_passengers : FnScope ["next_passenger", "queues", "waiting", "queue", "passenger"] ["next_passenger", "queues"] (defScope s_check_passengers) := ⟨rfl, rfl, rfl, by decide +kernel, rfl, by decide +kernel, by decide +kernel⟩
def spPass (K : PySem.W.Frag) : Sp := fun vs H Q _ => ∃ (v : V) (p : Int) (qs : List (List Int)), vs = [.int p, v] ∧ Dp K H v (qsD qs) ∧ qs.flatten.Nodup ∧ (∀ x ∈ qs.flatten, 1 ≤ x ∧ x < p) ∧ qs.flatten.length ≤ 1000 ∧ ∀ H', Ex H H' → Q .non H'
theorem ok_check_passengers {f : Addr} {fd : FuncData} (D : Dfa K mg "check_passengers_states" "check_passengers" s_check_passengers ["next_passenger", "queues"] f fd) (T : Bt mg) : FnOk P w K mg base CX0 1 f fd ["next_passenger", "queues"] (spPass K) := by
  refine D.F.ok sc_check_passengers (fun vs H Q E h => ?_) (fun cdv A outer s H vs Q E hr h => ?_)
  · obtain ⟨v, p, qs, rfl, _⟩ := h
    rfl
  · obtain ⟨v, p, qs, rfl, hv, nd, rg, hl, q⟩ := h
    have hu := hr.units
    refine ⟨_, (pss_cons (ps_set (i := 2) sc_check_passengers.nd rfl (Or.inl rfl) (pe_callTy0 cr_set0K (by rfl) T.b_set (by decide +kernel)))
      (pss_one (ps_for PassesOwn.never rfl (pi_U (K := K) (pv 1)) (pg_name (i := 3) sc_check_passengers.nd rfl (Or.inl rfl)) (pss_one (ps_for PassesOwn.never rfl (pi_U (K := K) (pv 3)) (pg_name (i := 4) sc_check_passengers.nd rfl (Or.inl rfl)) (pss_cons (ps_if (pt_not (pt_chain (op_leU) (op_ltU) pe_int (pv 4) (pv 0))) pss_never pss_nil)
      (pss_cons (ps_if (pt_cmpR ((op_inU (K := K) (P := P) (w := w))) (pv 4) (pv 2) (by rfl)) pss_never pss_nil)
      (pss_one (ps_expr (pe_saddK (pv 2) (pa_cons (pv 4) pa_nil))))))))))), ?_⟩
    walk_at "run"
    obtain ⟨a, ts, rfl, hT, hts⟩ := qs_at hv
    have hlt : ts.length = qs.length := by rw [hts.len, List.length_map]
    refine x_set0 fun S H1 nS e1 hS => ?_
    refine x_itT (ex_t e1 hT) (loop_it walk_tup (fun i σ H' => ∃ u3 u4 W n, σ = [some (.int p), some (.ref a), some (.ref S), u3, u4] ∧ Ex H H' ∧ H' S = some (SetK P w S W n) ∧ n ≤ (qs.take i).flatten.length ∧ ∀ x : Int, W (.inl x) = true ↔ x ∈ (qs.take i).flatten) ⟨_, _, _, _, rfl, e1, hS, by simp, by simp⟩
      (fun i σ H' _ ⟨_, _, _, _, _, e, _⟩ => ex_t e hT) ?_ ?_)
    · rintro i x σ H2 H2' hi ⟨u3, u4, W, n, rfl, e2, hS2, hn, hW⟩ ⟨eH, hx⟩
      subst eH
      obtain ⟨d, hd, hd2⟩ := hts.get' hx
      obtain ⟨qi, hq, rfl⟩ : ∃ q, qs[i]? = some q ∧ qD q = d := by simpa using hd
      obtain ⟨b, rfl, hb⟩ := q_at hd2
      have htk : (qs.take (i + 1)).flatten = (qs.take i).flatten ++ qi := by
        rw [List.take_add_one, hq, List.flatten_append]; simp
      have hpre : ((qs.take i).flatten ++ qi) <+: qs.flatten := by
        rw [← htk]
        have : qs.flatten = (qs.take (i + 1)).flatten ++ (qs.drop (i + 1)).flatten := by rw [← List.flatten_append, List.take_append_drop]
        rw [this]; exact List.prefix_append _ _
      have hlen := hpre.length_le
      rw [List.length_append] at hlen
      have nd2 : ((qs.take i).flatten ++ qi).Nodup := nd.sublist hpre.sublist
      walk_at "run"
      refine x_itT (ex_t e2 hb) (loop_it walk_tup (fun j σ H' => ∃ u4 W n, σ = [some (.int p), some (.ref a), some (.ref S), some (.ref b), u4] ∧ Ex H H' ∧ H' S = some (SetK P w S W n) ∧ n ≤ ((qs.take i).flatten ++ qi.take j).length ∧ ∀ x : Int, W (.inl x) = true ↔ x ∈ (qs.take i).flatten ++ qi.take j) ⟨_, _, _, rfl, e2, hS2, by simpa using hn, by simpa using hW⟩
        (fun i σ H' _ ⟨_, _, _, _, e, _⟩ => ex_t e hb) ?_ ?_)
      · rintro j y σ H3 H3' hj ⟨u4, W, n, rfl, e3, hS3, hn, hW⟩ ⟨eH, hy⟩
        subst eH
        obtain ⟨z, hz, rfl⟩ : ∃ z, qi[j]? = some z ∧ V.int z = y := by simpa using hy
        have hj2 : j < qi.length := (List.getElem?_eq_some_iff.mp hz).1
        have hzm : z ∈ qs.flatten := hpre.subset (List.mem_append_right _ (List.mem_of_getElem? hz))
        obtain ⟨z1, z2⟩ := rg z hzm
        have htj : qi.take (j + 1) = qi.take j ++ [z] := by rw [List.take_add_one, hz]; rfl
        have hnot : ¬ z ∈ (qs.take i).flatten ++ qi.take j := by
          have hp2 : ((qs.take i).flatten ++ qi.take j ++ [z]) <+: ((qs.take i).flatten ++ qi) := by
            rw [List.append_assoc, ← htj]
            exact List.prefix_append_right_inj _ |>.mpr (List.take_prefix _ _)
          have nd3 := nd2.sublist hp2.sublist
          rw [List.nodup_append] at nd3
          intro hm
          exact nd3.2.2 z hm z (by simp) rfl
        have hWz : W (.inl z) = false := by
          cases e : W (.inl z) with
          | false => rfl
          | true => exact absurd ((hW z).mp e) hnot
        walk_at "run"
        rw [if_pos (by omega)]
        rw [if_neg (by simp; omega)]
        refine x_inS (k := .inl z) hS3 ?_
        rw [hWz]
        refine ⟨_, rfl, ?_⟩
        rw [if_neg Bool.false_ne_true]
        have hln : ((qs.take i).flatten ++ qi.take j).length ≤ 1000 := by
          rw [List.length_append, List.length_take]; omega
        refine ⟨⟨_, _, _, rfl, hS3⟩, x_sadd (k := .inl z) hS3 (by omega) fun H4 m e4 hm h4 => ?_⟩
        refine ⟨_, _, _, rfl, fun x o hx => e4 _ _ (ne_of_none hx nS) (e3 _ _ hx), h4, ?_, fun x => ?_⟩
        · rw [htj, ← List.append_assoc, List.length_append]
          simp only [List.length_cons, List.length_nil]
          omega
        · rw [htj, ← List.append_assoc, List.mem_append, ← hW x]
          simp
      · rintro σ H3 ⟨u4, W, n, rfl, e3, hS3, hn, hW⟩
        have hlq : qi.take ((qi.map V.int).length) = qi := by rw [List.length_map, List.take_length]
        rw [hlq, ← htk] at hn hW
        exact ⟨_, _, _, _, rfl, e3, hS3, hn, hW⟩
    · rintro σ H2 ⟨u3, u4, W, n, rfl, e2, _⟩
      exact q H2 e2
end
theorem flat_len : ∀ {qs : List (List Int)} {N : Net}, qs.length = N.length → (∀ (k : Nat) q s, qs[k]? = some q → N[k]? = some s → q.length < s.length) → (∀ s ∈ N, s.length ≤ 8) → qs.flatten.length ≤ 8 * N.length
  | [], _, _, _, _ => by simp
  | q :: qs, [], h, _, _ => by simp at h
  | q :: qs, s :: N, h, hlt, h8 => by
    have h1 := hlt 0 q s rfl rfl
    have h2 := h8 s (List.mem_cons_self ..)
    have h3 := flat_len (qs := qs) (N := N) (by simpa using h) (fun k q' s' a b => hlt (k + 1) q' s' (by simpa using a) (by simpa using b)) (fun s hs => h8 s (List.mem_cons_of_mem _ hs))
    rw [List.flatten_cons, List.length_append, List.length_cons]
    omega
section
variable {P : Program} {w : World} {K : PySem.W.Frag} {mg : Str → Option Value} {base : Heap}
abbrev s_check_state : Stmt := top 25
theorem sc_check_state : FnScope ["network", "state", "next_passenger", "queues", "seats", "queue"] ["network", "state"] (defScope s_check_state) := ⟨rfl, rfl, rfl, by decide +kernel, rfl, by decide +kernel, by decide +kernel⟩
def spState (K : PySem.W.Frag) : Sp := fun vs H Q _ => ∃ (v u : V) (N : Net) (p : Int) (qs : List (List Int)), vs = [v, u] ∧ NetAt K H v N ∧ ValidN N ∧ Dp K H u (stateD p qs) ∧ StOk N p qs ∧ ∀ H', Ex H H' → Q .non H'
theorem ok_check_state {f f1 f2 f3 f4 : Addr} {fd fd1 fd2 fd3 fd4 : FuncData} (D : Df K mg "check_state" s_check_state ["network", "state"] f fd) (T : Bt mg) (Ck : Ct K mg)
    (D_check_network : Df K mg "check_network" s_check_network ["network"] f1 fd1) (D_check_passengers : Dfa K mg "check_passengers_states" "check_passengers" s_check_passengers ["next_passenger", "queues"] f2 fd2) (D_is_word : Df K mg "is_word" s_is_word ["text"] f3 fd3)
    (D_is_place : Df K mg "is_place" s_is_place ["place", "station", "stations"] f4 fd4) : FnOk P w K mg base CX0 5 f fd ["network", "state"] (spState K) := by
  have G_check_network : FnOk P w K mg base CX0 4 f1 fd1 _ _ := ok_check_network0 D_check_network T Ck D_is_word D_is_place
  have G_check_passengers : FnOk P w K mg base CX0 1 f2 fd2 _ _ := ok_check_passengers D_check_passengers T
  refine D.F.ok sc_check_state (fun vs H Q E h => ?_) (fun cdv A outer s H vs Q E hr h => ?_)
  · obtain ⟨v, u, N, p, qs, rfl, _⟩ := h
    rfl
  · obtain ⟨v, u, N, p, qs, rfl, hN, hV, hu2, hO, q⟩ := h
    have hu := hr.units
    refine ⟨_, (pss_cons (ps_expr (pe_call (G_check_network) (hr.mono (by decide)) rfl D_check_network.g D_check_network.F.kp D_check_network.b .nil pass0 (pa_cons (pv 0) pa_nil)))
      (pss_cons (ps_asg (pv 1) (pg_tup rfl (pgs_cons (pg_name (i := 2) sc_check_state.nd rfl (Or.inl rfl)) (pgs_cons (pg_name (i := 3) sc_check_state.nd rfl (Or.inl rfl)) pgs_nil))))
      (pss_cons (ps_if (pt_cmpR (op_ltU) (pv 2) pe_int (nomark _)) pss_never pss_nil)
      (pss_cons (ps_if (pt_cmpR (op_neU (K := K) hu) (pe_callB (call_lenU (K := K)) (by rfl) T.b_len (by decide +kernel) (pa_cons (pv 3) pa_nil)) (pe_callB (call_lenU (K := K)) (by rfl) T.b_len (by decide +kernel) (pa_cons (pv 0) pa_nil)) (nomark _)) pss_never pss_nil)
      (pss_cons (ps_for PassesOwn.never rfl (RZ.pi_zipA (by rfl) T.b_zip (pa_cons (pv 0) (pa_cons (pv 3) pa_nil))) (pg_tup rfl (pgs_cons (pg_name (i := 4) sc_check_state.nd rfl (Or.inl rfl)) (pgs_cons (pg_name (i := 5) sc_check_state.nd rfl (Or.inl rfl)) pgs_nil))) (pss_one (ps_if (pt_cmpR (op_geU) (pe_callB (call_lenU (K := K)) (by rfl) T.b_len (by decide +kernel) (pa_cons (pv 5) pa_nil)) (pe_callB (call_lenU (K := K)) (by rfl) T.b_len (by decide +kernel) (pa_cons (pv 4) pa_nil)) (nomark _)) pss_never pss_nil)))
      (pss_one (ps_expr (pe_call (G_check_passengers) (hr.mono (by decide)) rfl D_check_passengers.g D_check_passengers.F.kp D_check_passengers.b .nil pass0 (pa_cons (pv 2) (pa_cons (pv 3) pa_nil)))))))))), ?_⟩
    walk_at "run"
    refine ⟨v, N, rfl, hN, hV, fun H1 e1 => ?_⟩
    obtain ⟨a, y, rfl, hS, hy⟩ := state_at hu2
    refine x_two (ex_t e1 hS) ?_
    obtain ⟨b, ts, rfl, hT, hts⟩ := qs_at hy
    obtain ⟨c, us, rfl, hU, hus⟩ := hN.at
    have hlt : ts.length = qs.length := by rw [hts.len, List.length_map]
    have hlu : us.length = N.length := by rw [hus.len, List.length_map]
    have hp := hO.pos
    have hql := hO.len
    walk_at "run"
    rw [if_neg (by omega)]
    refine x_lenT (ex_t e1 hT) (x_lenT (ex_t e1 hU) ?_)
    rw [hlt, hlu]
    walk_at "run"
    rw [if_neg (by simp; omega)]
    refine x_zipT (ex_t e1 hU) (ex_t e1 hT) ?_
    refine loop_it (walk_zipT (by omega)) (fun i σ H' => ∃ u4 u5, σ = [some (.ref c), some (.ref a), some (.int p), some (.ref b), u4, u5] ∧ Ex H H') ⟨_, _, rfl, e1⟩ (fun i σ H' _ ⟨_, _, _, e⟩ => ⟨ex_t e hU, ex_t e hT⟩) ?_ ?_
    · rintro i v σ H2 H3 hi ⟨u4, u5, rfl, e2⟩ ⟨T0, x, y, rfl, hT0, rfl, hx, hy⟩
      have e3 : Ex H (upd H2 T0 (.tup [x, y])) := e2.trans (Ex.new hT0)
      refine x_two (SqT.of upd_same) ?_
      generalize upd H2 T0 (.tup [x, y]) = H3 at e3
      obtain ⟨sD, hs, hx2⟩ := hus.get' hx
      obtain ⟨s, hsN, rfl⟩ : ∃ s, N[i]? = some s ∧ stD s = sD := by simpa using hs
      obtain ⟨b1, rfl, hb1⟩ := StAt.at hx2
      obtain ⟨qD', hq, hy2⟩ := hts.get' hy
      obtain ⟨qi, hqi, rfl⟩ : ∃ s, qs[i]? = some s ∧ qD s = qD' := by simpa using hq
      obtain ⟨b2, rfl, hb2⟩ := q_at hy2
      have := hO.lt i qi s hqi hsN
      walk_at "run"
      refine x_lenT (ex_t e3 hb2) (x_lenT (ex_t e3 hb1) ?_)
      rw [List.length_map, List.length_map]
      walk_at "run"
      rw [if_neg (by omega)]
      exact ⟨_, _, rfl, e3⟩
    · rintro σ H2 ⟨u4, u5, rfl, e2⟩
      walk_at "run"
      have hfl := flat_len hql hO.lt (fun s hs => (hV.cnt.st s hs).2)
      have h40 := hV.le
      exact ⟨_, p, qs, rfl, Dp.ex e2 hy, hO.nd, hO.rng, by omega, fun H3 e3 => q H3 (e2.trans e3)⟩
end
section
variable {P : Program} {w : World} {K : PySem.W.Frag} {mg : Str → Option Value} {base : Heap}
abbrev s_check_count : Stmt := top 13
theorem sc_check_count : FnScope ["count", "least", "most"] ["count", "least", "most"] (defScope s_check_count) := ⟨rfl, rfl, rfl, by decide +kernel, rfl, by decide +kernel, by decide +kernel⟩
def spCount : Sp := fun vs H Q _ => ∃ c l m : Int, vs = [.int c, .int l, .int m] ∧ l ≤ c ∧ c ≤ m ∧ Q .non H
theorem ok_check_count {f : Addr} {fd : FuncData} (D : Df K mg "check_count" s_check_count ["count", "least", "most"] f fd) : FnOk P w K mg base CX0 1 f fd ["count", "least", "most"] spCount := by
  refine D.F.ok sc_check_count (fun vs H Q E h => ?_) (fun cdv A outer s H vs Q E hr h => ?_)
  · obtain ⟨v, u, N, rfl, _⟩ := h
    rfl
  · obtain ⟨c, l, m, rfl, h1, h2, q⟩ := h
    refine ⟨_, (pss_one (ps_if (pt_not (pt_chain (op_leU) (op_leU) (pv 1) (pv 0) (pv 2))) pss_never pss_nil)), ?_⟩
    walk_at "run"
    rw [if_pos h1, if_neg (by simp; omega)]
    exact q
abbrev s_queue_lengths : Stmt := top 28
theorem sc_queue_lengths : FnScope ["state", "queue"] ["state"] (defScope s_queue_lengths) := ⟨rfl, rfl, rfl, by decide +kernel, rfl, by decide +kernel, by decide +kernel⟩
def lens (qs : List (List Int)) : List Int := qs.map fun q => ((q.length : Nat) : Int)
def spLens (K : PySem.W.Frag) : Sp := fun vs H Q _ => ∃ (v : V) (p : Int) (qs : List (List Int)), vs = [v] ∧ Dp K H v (stateD p qs) ∧ qs.length ≤ 1000 ∧ (∀ q ∈ qs, q.length ≤ 1000) ∧ ∀ H' l, Ex H H' → H l = none → H' l = some (.lst ((lens qs).map V.int)) → Q (.ref l) H'
theorem ok_queue_lengths {f : Addr} {fd : FuncData} (D : Df K mg "queue_lengths" s_queue_lengths ["state"] f fd) (T : Bt mg) : FnOk P w K mg base CX0 1 f fd ["state"] (spLens K) := by
  refine D.F.ok sc_queue_lengths (fun vs H Q E h => ?_) (fun cdv A outer s H vs Q E hr h => ?_)
  · obtain ⟨v, p, qs, rfl, _⟩ := h
    rfl
  · obtain ⟨v, p, qs, rfl, hv, hl, hl2, q⟩ := h
    refine ⟨_, (pss_one (ps_ret (pe_lc (own := [("queue", 1)]) (g := gName 1) (tt := tYes) rfl sc_queue_lengths.nd (pi_U (K := K) (pe_ix (ix_U (K := K)) (pv 0) pe_int (fun _ _ => rfl))) (blkOk_by (own := [("queue", 1)]) (N := ["state", "queue"]) (sc := defScope s_queue_lengths) (by decide +kernel)) (fun _ _ _ _ _ => (pg_name (i := 1) sc_queue_lengths.nd rfl (Or.inl rfl))) (fun _ _ _ _ _ => pts_nil) (fun _ _ _ _ _ => (pe_callB (call_lenU (K := K)) (by rfl) T.b_len (by decide +kernel) (pa_cons (pv 1) pa_nil)))))), ?_⟩
    walk_at "run"
    obtain ⟨a, y, rfl, hS, hy⟩ := state_at hv
    refine x_ixT hS rfl ?_
    obtain ⟨b, ts, rfl, hT, hts⟩ := qs_at hy
    have hlt : ts.length = qs.length := by rw [hts.len, List.length_map]
    refine x_itT hT (lcl_it walk_tup (fun D i H' => Ex H H' ∧ H' D = some (.lst ((lens (qs.take i)).map V.int))) (fun D H' hD e h => ⟨e, by simpa [lens] using h⟩) (fun D i H' _ h => ex_t h.1 hT) ?_ ?_)
    · rintro D i x H2 H2' hD hi ⟨e2, h2⟩ ⟨eH, hx⟩
      subst eH
      obtain ⟨d, hd, hd2⟩ := hts.get' hx
      obtain ⟨qi, hq, rfl⟩ : ∃ q, qs[i]? = some q ∧ qD q = d := by simpa using hd
      obtain ⟨b2, rfl, hb⟩ := q_at hd2
      walk_at "run"
      refine x_lenT (ex_t e2 hb) ?_
      rw [List.length_map]
      refine x_push h2 (by unfold lens; simp; omega) fun H5 e5 h5 => ⟨fun x o hx => e5 _ _ (ne_of_none hx hD) (e2 _ _ hx), ?_⟩
      rw [h5, List.take_add_one, hq]
      simp [lens]
    · rintro D H2 hD ⟨e2, h2⟩
      rw [hlt, List.take_length] at h2
      exact q H2 D e2 hD h2
end
local macro_rules | `(tactic| walk_at "run") => `(tactic| try simp only [tSeq, tAsg, tVar, tC, gName, L2.start, List.map_cons, List.map_nil, List.cons_append, List.nil_append, List.length_cons, List.length_nil, List.replicate, List.getElem?_cons_zero, List.getElem?_cons_succ, Option.some.injEq, exists_eq_left', List.set_cons_zero, List.set_cons_succ, V.ref.injEq, tRet, x_tLst, x_tTup, tCons, tCB, tNil, tOp, x_addI, x_mulI, x_rI, x_rI0, x_ltI, x_leI, x_ltS, x_leS, x_eqI, x_neI, x_eqS, x_eqB, x_neB, x_isiI, x_isiS, x_int, x_max, x_min, cxOf, tIfS, tNext, tTest, V.bl.injEq, decide_eq_true_eq, gSub, tAnd, tOr, tNot, tB, tDrop, tBM, x_tFor, iRng1, iList, iTup, x_tLc, tYes, tCall, tIf, tAndV, tOrV, tNotV, tChain, List.append_nil, tUn, if_true, wipe, true_and, x_never, iU, x_itS, kV, Nat.reduceAdd, Nat.reduceSub, List.replicate_zero, x_rU, x_tMkO, iEnumT, x_tDc, x_tDGet, x_tDGet2, x_sDPut, x_tDSetd, x_tDNewK, x_iItems, x_iZip, x_tSAddK, x_tLockV])
/-- the program's constants of the counting -/
structure Cm (mg : Str → Option Value) : Prop where
  g_MAX_COUNT : ∃ t, mg "MAX_COUNT" = some (.int 1000000000000000000 t)
/-- what reaches a place by the boats bs -/
def reach (N : Net) (bs : List Int) (q : Key) : Int := toQ (fun i => bs.getD i 0) q (seatsOf N N.length)
/-- the dict kvs holds for each port that somebody reaches how many do -/
structure Fin (T : Str → Int) (kvs : List (Key × V)) : Prop where
  nd : (kvs.map (·.1)).Nodup
  str : ∀ p ∈ kvs, ∃ z, p.1 = .inr z
  val : ∀ z, valV kvs (.inr z) = if 0 < T z then some (.int (T z)) else none
/-- .. for the ports among ks -/
structure FinK (T : Str → Int) (ks : List Key) (kvs : List (Key × V)) : Prop where
  nd : (kvs.map (·.1)).Nodup
  str : ∀ p ∈ kvs, ∃ z, p.1 = .inr z
  yes : ∀ z : Str, (Sum.inr z : Key) ∈ ks → 0 < T z → valV kvs (.inr z) = some (V.int (T z))
  no : ∀ z : Str, ¬ ((Sum.inr z : Key) ∈ ks ∧ 0 < T z) → valV kvs (.inr z) = none
theorem FinK.nil {T : Str → Int} : FinK T [] [] := ⟨List.nodup_nil, fun _ h => (by simp at h), fun _ h => (by simp at h), fun _ _ => rfl⟩
theorem FinK.other {T : Str → Int} {ks : List Key} {kvs : List (Key × V)} {k : Key} (F : FinK T ks kvs) (h : ∀ z, k = .inr z → ¬ 0 < T z) : FinK T (ks ++ [k]) kvs where
  nd := F.nd
  str := F.str
  yes := fun z h1 h2 => by
    rcases List.mem_append.mp h1 with h1 | h1
    · exact F.yes z h1 h2
    · exact absurd h2 (h z (List.mem_singleton.mp h1).symm)
  no := fun z h1 => F.no z fun h2 => h1 ⟨List.mem_append_left _ h2.1, h2.2⟩
theorem FinK.put {T : Str → Int} {ks : List Key} {kvs : List (Key × V)} {y : Str} (F : FinK T ks kvs) (h : 0 < T y) : FinK T (ks ++ [.inr y]) (putK kvs (.inr y) (.int (T y))) where
  nd := putK_keys F.nd
  str := fun p hp => by
    unfold putK at hp
    split at hp
    · obtain ⟨p', hp', rfl⟩ := List.mem_map.mp hp
      split
      · exact F.str p' hp'
      · exact F.str p' hp'
    · rcases List.mem_append.mp hp with hp | hp
      · exact F.str p hp
      · rw [List.mem_singleton.mp hp]; exact ⟨y, rfl⟩
  yes := fun z h1 h2 => by
    rw [valV_put]
    by_cases e : (Sum.inr z : Key) = .inr y
    · rw [if_pos e]
      cases e
      rfl
    · rw [if_neg e]
      rcases List.mem_append.mp h1 with h1 | h1
      · exact F.yes z h1 h2
      · exact absurd (List.mem_singleton.mp h1) e
  no := fun z h1 => by
    rw [valV_put]
    by_cases e : (Sum.inr z : Key) = .inr y
    · cases e
      exact absurd ⟨List.mem_append_right _ (List.mem_singleton.mpr rfl), h⟩ h1
    · rw [if_neg e]
      exact F.no z fun h2 => h1 ⟨List.mem_append_left _ h2.1, h2.2⟩
section
variable {P : Program} {w : World} {K : PySem.W.Frag} {mg : Str → Option Value} {base : Heap}
end
local macro_rules | `(tactic| walk_at "run") => `(tactic| try simp only [tSeq, tAsg, tVar, tC, gName, L2.start, List.map_cons, List.map_nil, List.cons_append, List.nil_append, List.length_cons, List.length_nil, List.replicate, List.getElem?_cons_zero, List.getElem?_cons_succ, Option.some.injEq, exists_eq_left', List.set_cons_zero, List.set_cons_succ, V.ref.injEq, tRet, x_tLst, x_tTup, tCons, tCB, tNil, tOp, x_addI, x_mulI, x_rI, x_rI0, x_ltI, x_leI, x_ltS, x_leS, x_eqI, x_neI, x_eqS, x_eqB, x_neB, x_isiI, x_isiS, x_int, x_max, x_min, cxOf, tIfS, tNext, tTest, V.bl.injEq, decide_eq_true_eq, gSub, tAnd, tOr, tNot, tB, tDrop, tBM, x_tFor, iRng1, iList, iTup, x_tLc, tYes, tCall, tIf, tAndV, tOrV, tNotV, tChain, List.append_nil, tUn, if_true, wipe, true_and, x_never, iU, x_itS, kV, Nat.reduceAdd, Nat.reduceSub, List.replicate_zero, x_rU, x_tMkO, iEnumT, x_tDc, x_tDGet, x_tDGet2, x_sDPut, x_tDSetd, x_tDNewK, x_iItems, x_iZip, x_tSAddK, x_tLockV, x_tTupRg, x_tRg2, tPar, tPar3, tBM0])
/-- a network on which boats depart: stations of one to eight seats, seats lead on -/
structure JN (N : Net) : Prop where
  le : N.length ≤ 40
  st : ∀ k, k < N.length → 1 ≤ (N.getD k []).length ∧ (N.getD k []).length ≤ 8
  fw : Fw N
section
variable {P : Program} {w : World} {K : PySem.W.Frag} {mg : Str → Option Value} {base : Heap}
theorem FnOk.absurd {CX : CXT} {k : Nat} {f : Addr} {fd : FuncData} {ps : List Str} {sp : Sp} (h : ∀ vs H Q E, sp vs H Q E → False) : FnOk P w K mg base CX k f fd ps sp :=
  ⟨fun _ _ _ _ x => (h _ _ _ _ x).elim, fun _ _ _ _ _ _ _ _ _ _ _ _ _ x => (h _ _ _ _ x).elim⟩
end
end K
set_option maxHeartbeats 1000000
namespace FB
open PySem PySem.Spec PyProof.Rows L2 Evl
/-! what moves at an arrival, counted: boats, who joins, who stays -/
section
variable {α : Type} [Inhabited α]
theorem toQ_add {f g : Nat → Int} {q : Key} : ∀ {a : Seats}, toQ (fun i => f i + g i) q a = toQ f q a + toQ g q a
  | [] => rfl
  | (i, p) :: r => by
    show (if p = q then f i + g i else 0) + toQ (fun i => f i + g i) q r = (if p = q then f i else 0) + toQ f q r + ((if p = q then g i else 0) + toQ g q r)
    rw [toQ_add]
    split <;> omega
theorem toQ_sub {f g : Nat → Int} {q : Key} : ∀ {a : Seats}, toQ (fun i => f i - g i) q a = toQ f q a - toQ g q a
  | [] => rfl
  | (i, p) :: r => by
    show (if p = q then f i - g i else 0) + toQ (fun i => f i - g i) q r = (if p = q then f i else 0) + toQ f q r - ((if p = q then g i else 0) + toQ g q r)
    rw [toQ_sub]
    split <;> omega
theorem toQ_zero {q : Key} : ∀ {a : Seats}, toQ (fun _ => 0) q a = 0
  | [] => rfl
  | (i, p) :: r => by
    show (if p = q then (0 : Int) else 0) + toQ (fun _ => 0) q r = 0
    rw [toQ_zero]
    split <;> omega
theorem toQ_mono {f g : Nat → Int} {q : Key} : ∀ {a : Seats}, (∀ s ∈ a, s.2 = q → f s.1 ≤ g s.1) → toQ f q a ≤ toQ g q a
  | [], _ => Int.le_refl _
  | (i, p) :: r, h => by
    show (if p = q then f i else 0) + toQ f q r ≤ (if p = q then g i else 0) + toQ g q r
    have h2 := toQ_mono (a := r) fun s hs => h s (List.mem_cons_of_mem _ hs)
    by_cases e : p = q
    · have h1 : f i ≤ g i := h (i, p) (List.mem_cons_self ..) e
      rw [if_pos e, if_pos e]; omega
    · rw [if_neg e, if_neg e]; omega
/-- how many of these keys are q -/
def cntK (q : Key) : List Key → Int
  | [] => 0
  | p :: r => (if p = q then 1 else 0) + cntK q r
theorem toQ_st {st k : Nat} {q : Key} : ∀ {s : List Key}, toQ (fun i => if i = st then 1 else 0) q (stSeats k s) = if k = st then cntK q s else 0
  | [] => by
    show (0 : Int) = _
    split <;> rfl
  | p :: r => by
    show (if p = q then (if k = st then (1 : Int) else 0) else 0) + toQ (fun i => if i = st then 1 else 0) q (stSeats k r) = if k = st then (if p = q then 1 else 0) + cntK q r else 0
    rw [toQ_st]
    split <;> split <;> omega
theorem toQ_one {N : Net} {st : Nat} {q : Key} : ∀ {n : Nat}, toQ (fun i => if i = st then 1 else 0) q (seatsOf N n) = if st < n then cntK q (N.getD st []) else 0
  | 0 => rfl
  | n + 1 => by
    show toQ _ q (seatsOf N n ++ stSeats n (N.getD n [])) = _
    rw [toQ_append, toQ_one, toQ_st]
    by_cases e : n = st
    · subst e
      rw [if_neg (by omega), if_pos rfl, if_pos (by omega)]; omega
    · rw [if_neg e]
      by_cases h : st < n
      · rw [if_pos h, if_pos (by omega)]; omega
      · rw [if_neg h, if_neg (by omega)]; rfl
/-- the boats of a station -/
def dn : EvsA α → Nat → Int
  | [], _ => 0
  | e :: r, k => (if e.1 = .inl (k : Int) then 1 else 0) + dn r k
/-- the passengers of a place -/
def pn : EvsA α → Key → Int
  | [], _ => 0
  | e :: r, q => (if e.1 = q then (e.2.length : Int) else 0) + pn r q
theorem dn_append : ∀ {a b : EvsA α} {k : Nat}, dn (a ++ b) k = dn a k + dn b k
  | [], b, k => by show dn b k = 0 + dn b k; omega
  | e :: r, b, k => by
    show (if e.1 = .inl (k : Int) then (1 : Int) else 0) + dn (r ++ b) k = (if e.1 = .inl (k : Int) then 1 else 0) + dn r k + dn b k
    rw [dn_append]; omega
theorem pn_append : ∀ {a b : EvsA α} {q : Key}, pn (a ++ b) q = pn a q + pn b q
  | [], b, q => by show pn b q = 0 + pn b q; omega
  | e :: r, b, q => by
    show (if e.1 = q then (e.2.length : Int) else 0) + pn (r ++ b) q = (if e.1 = q then (e.2.length : Int) else 0) + pn r q + pn b q
    rw [pn_append]; omega
theorem dn_nn {k : Nat} : ∀ {a : EvsA α}, 0 ≤ dn a k
  | [] => Int.le_refl _
  | e :: r => by
    have := dn_nn (k := k) (a := r)
    show 0 ≤ (if e.1 = .inl (k : Int) then (1 : Int) else 0) + dn r k
    split <;> omega
/-- what goes in and what comes out: c joins from outside -/
structure Flow (N : Net) (qs : QsA α) (c : Key → Int) (r : QsA α × EvsA α) : Prop where
  len : r.1.length = qs.length
  q : ∀ k, k < N.length → ((r.1.getD k []).length : Int) + ((N.getD k []).length : Int) * dn r.2 k = ((qs.getD k []).length : Int) + c (.inl (k : Int)) + toQ (dn r.2) (.inl (k : Int)) (seatsOf N N.length)
  p : ∀ z, pn r.2 (.inr z) = c (.inr z) + toQ (dn r.2) (.inr z) (seatsOf N N.length)
  s : ∀ k : Nat, k < N.length → pn r.2 (.inl (k : Int)) = ((N.getD k []).length : Int) * dn r.2 k
theorem Flow.none {N : Net} {qs : QsA α} : Flow N qs (fun _ => 0) (qs, []) := by
  have z : ∀ q, toQ (dn ([] : EvsA α)) q (seatsOf N N.length) = 0 := fun q => toQ_zero
  refine ⟨rfl, fun k hk => ?_, fun y => ?_, fun k hk => ?_⟩
  · rw [z]
    show ((qs.getD k []).length : Int) + ((N.getD k []).length : Int) * 0 = _
    rw [Int.mul_zero]; omega
  · rw [z]; rfl
  · show (0 : Int) = ((N.getD k []).length : Int) * 0
    rw [Int.mul_zero]
/-- one after the other -/
theorem Flow.then {N : Net} {qs : QsA α} {c d : Key → Int} {r s : QsA α × EvsA α} (h1 : Flow N qs c r) (h2 : Flow N r.1 d s) : Flow N qs (fun q => c q + d q) (s.1, r.2 ++ s.2) := by
  have z : ∀ q, toQ (dn (r.2 ++ s.2)) q (seatsOf N N.length) = toQ (dn r.2) q (seatsOf N N.length) + toQ (dn s.2) q (seatsOf N N.length) := fun q => by
    rw [← toQ_add]
    exact toQ_congr fun _ _ _ => dn_append
  refine ⟨h2.len.trans h1.len, fun k hk => ?_, fun y => ?_, fun k hk => ?_⟩
  · have a := h1.q k hk
    have b := h2.q k hk
    rw [z, dn_append, Int.mul_add]
    show ((s.1.getD k []).length : Int) + _ = _
    try dsimp only
    omega
  · have a := h1.p y
    have b := h2.p y
    rw [z, pn_append]
    try dsimp only
    omega
  · have a := h1.s k hk
    have b := h2.s k hk
    rw [dn_append, pn_append, Int.mul_add]
    omega
theorem Flow.c {N : Net} {qs : QsA α} {c d : Key → Int} {r : QsA α × EvsA α} (h : Flow N qs c r) (e : ∀ q, c q = d q) : Flow N qs d r := by
  have : c = d := funext e
  exact this ▸ h
def DepFlow (N : Net) (f : Nat) (dep : Dep α) : Prop := ∀ qs st, N.length ≤ st + f → st < N.length → qs.length = N.length → (qs.getD st []).length = (N.getD st []).length → Flow N qs (fun _ => 0) (dep qs st)
def at1 (j : Nat) (q : Key) : Int := if q = .inl (j : Int) then 1 else 0
theorem joinW_flow {N : Net} {f : Nat} {dep : Dep α} (hd : DepFlow N f dep) {qs : QsA α} {j : Nat} {p : α} (hl : qs.length = N.length) (hj : j < N.length) (hf : N.length ≤ j + f) : Flow N qs (at1 j) (joinW N dep qs j p) := by
  have hjl : j < qs.length := by rw [hl]; exact hj
  have put : ∀ {c : Key → Int} {r : QsA α × EvsA α}, Flow N (qs.set j (qs.getD j [] ++ [p])) (fun _ => 0) r → Flow N qs (at1 j) r := fun {c r} F => by
    refine ⟨by rw [F.len, List.length_set], fun k hk => ?_, fun z => ?_, F.s⟩
    · have a := F.q k hk
      rw [getD_set' hjl] at a
      unfold at1
      by_cases e : k = j
      · subst e
        rw [if_pos rfl, List.length_append, List.length_singleton] at a
        rw [if_pos rfl]; omega
      · rw [if_neg e] at a
        rw [if_neg (by simp; omega)]; omega
    · have a := F.p z
      unfold at1
      rw [if_neg (by simp)]; omega
  unfold joinW
  split
  · rename_i e
    exact put (c := fun _ => 0) (hd _ j hf hj (by rw [List.length_set]; exact hl) (by rw [getD_set' hjl, if_pos rfl]; exact e))
  · exact put (c := fun _ => 0) Flow.none
theorem moveW_flow {N : Net} {f : Nat} {dep : Dep α} (hd : DepFlow N f dep) {st : Nat} (hf : N.length ≤ st + 1 + f) : ∀ {ms : List (Key × α)} {qs : QsA α}, (∀ m ∈ ms, ∀ j : Int, m.1 = .inl j → (st : Int) < j ∧ j < N.length) → qs.length = N.length → Flow N qs (fun q => cntK q (ms.map (·.1))) (moveW N dep ms qs)
  | [], qs, _, hl => Flow.none
  | (.inr z, p) :: r, qs, hm, hl => by
    have F := moveW_flow hd hf (ms := r) (fun m h => hm m (List.mem_cons_of_mem _ h)) hl
    have one : Flow N qs (fun q => if (.inr z : Key) = q then 1 else 0) (qs, [((.inr z : Key), [p])]) := by
      have d0 : ∀ k : Nat, dn [((.inr z : Key), [p])] k = 0 := fun k => by
        show (if (.inr z : Key) = .inl (k : Int) then (1 : Int) else 0) + 0 = 0
        rw [if_neg (by simp)]; rfl
      have z0 : ∀ q, toQ (dn [((.inr z : Key), [p])]) q (seatsOf N N.length) = 0 := fun q => (toQ_congr fun s _ _ => d0 s.1).trans toQ_zero
      refine ⟨rfl, fun k hk => ?_, fun y => ?_, fun k hk => ?_⟩
      · rw [z0]
        dsimp only
        rw [d0, if_neg (by simp), Int.mul_zero]; omega
      · rw [z0]
        show (if (.inr z : Key) = .inr y then (([p].length : Nat) : Int) else 0) + 0 = _
        try dsimp only
        by_cases e : (.inr z : Key) = .inr y
        · rw [if_pos e, if_pos e]; rfl
        · rw [if_neg e, if_neg e]
      · rw [d0, Int.mul_zero]
        show (if (.inr z : Key) = .inl (k : Int) then (([p].length : Nat) : Int) else 0) + 0 = 0
        rw [if_neg (by simp)]; rfl
    exact one.then F
  | (.inl j, p) :: r, qs, hm, hl => by
    obtain ⟨a, b⟩ := hm _ (List.mem_cons_self ..) j rfl
    have F1 := joinW_flow hd (p := p) hl (j := j.toNat) (by omega) (by omega)
    have F2 := moveW_flow hd hf (ms := r) (fun m h => hm m (List.mem_cons_of_mem _ h)) (F1.len.trans hl)
    refine (F1.then F2).c fun q => ?_
    show at1 j.toNat q + _ = (if (.inl j : Key) = q then 1 else 0) + _
    have : at1 j.toNat q = if (.inl j : Key) = q then 1 else 0 := by
      unfold at1
      rw [show ((j.toNat : Nat) : Int) = j by omega]
      by_cases e : q = .inl j
      · rw [if_pos e, if_pos e.symm]
      · rw [if_neg e, if_neg fun z => e z.symm]
    rw [this]
theorem departW_flow {N : Net} (fw : Fw N) : ∀ f, DepFlow N f (departW (α := α) N f)
  | 0 => fun qs st h1 h2 => by omega
  | f + 1 => fun qs st hf hst hl hs => by
    have hql : st < qs.length := by rw [hl]; exact hst
    have F := moveW_flow (departW_flow fw f) (st := st) (by omega) (ms := (N.getD st []).zip (qs.getD st [])) (qs := qs.set st []) (fun m hm j e => fw st hst j (by rw [← e]; exact (List.of_mem_zip hm).1)) (by rw [List.length_set]; exact hl)
    have hz : ((N.getD st []).zip (qs.getD st [])).map (·.1) = N.getD st [] := List.map_fst_zip (by omega)
    rw [hz] at F
    have dn' : ∀ (es : EvsA α) (k : Nat), dn (((.inl (st : Int) : Key), qs.getD st []) :: es) k = (if k = st then 1 else 0) + dn es k := fun es k => by
      show (if (.inl (st : Int) : Key) = .inl (k : Int) then (1 : Int) else 0) + dn es k = _
      by_cases e : k = st
      · subst e; rw [if_pos rfl, if_pos rfl]
      · rw [if_neg e, if_neg (by simp; omega)]
    have z : ∀ (es : EvsA α) (q : Key), toQ (dn (((.inl (st : Int) : Key), qs.getD st []) :: es)) q (seatsOf N N.length) = cntK q (N.getD st []) + toQ (dn es) q (seatsOf N N.length) := fun es q => by
      have h1 : toQ (dn (((.inl (st : Int) : Key), qs.getD st []) :: es)) q (seatsOf N N.length) = toQ (fun i => (if i = st then 1 else 0) + dn es i) q (seatsOf N N.length) := toQ_congr fun s _ _ => dn' es s.1
      rw [h1, toQ_add, toQ_one, if_pos hst]
    refine ⟨by show (moveW N (departW N f) _ _).1.length = _; rw [F.len, List.length_set], fun k hk => ?_, fun y => ?_, fun k hk => ?_⟩
    · have a := F.q k hk
      rw [getD_set' hql] at a
      show ((((moveW N (departW N f) _ _).1).getD k []).length : Int) + ((N.getD k []).length : Int) * dn (((.inl (st : Int) : Key), qs.getD st []) :: (moveW N (departW N f) _ _).2) k = _ + 0 + toQ (dn (((.inl (st : Int) : Key), qs.getD st []) :: (moveW N (departW N f) _ _).2)) _ _
      rw [z, dn', Int.mul_add]
      by_cases e : k = st
      · subst e
        rw [if_pos rfl] at a
        rw [if_pos rfl, Int.mul_one]
        have : (([] : List α).length : Int) = 0 := rfl
        omega
      · rw [if_neg e] at a
        rw [if_neg e, Int.mul_zero]
        omega
    · have a := F.p y
      show pn (((.inl (st : Int) : Key), qs.getD st []) :: (moveW N (departW N f) _ _).2) (.inr y) = 0 + toQ (dn (((.inl (st : Int) : Key), qs.getD st []) :: (moveW N (departW N f) _ _).2)) _ _
      rw [z]
      show (if (.inl (st : Int) : Key) = .inr y then ((qs.getD st []).length : Int) else 0) + pn _ (.inr y) = _
      rw [if_neg (by simp)]
      omega
    · have a := F.s k hk
      show pn (((.inl (st : Int) : Key), qs.getD st []) :: (moveW N (departW N f) _ _).2) (.inl (k : Int)) = _ * dn (((.inl (st : Int) : Key), qs.getD st []) :: (moveW N (departW N f) _ _).2) k
      rw [dn', Int.mul_add]
      show (if (.inl (st : Int) : Key) = .inl (k : Int) then ((qs.getD st []).length : Int) else 0) + pn _ (.inl (k : Int)) = _
      by_cases e : k = st
      · subst e
        rw [if_pos rfl, if_pos rfl, Int.mul_one]; omega
      · rw [if_neg (by simp; omega), if_neg e, Int.mul_zero]; omega
end
end FB
namespace FB
open PySem PySem.Spec PyProof.Rows L2 Evl
/-! who comes to a place at an arrival: those who waited there, then those from earlier stations -/
section
variable {α : Type} [Inhabited α]
/-- all passengers of a place, in order -/
def evP : EvsA α → Key → List α
  | [], _ => []
  | e :: r, q => (if e.1 = q then e.2 else []) ++ evP r q
theorem evP_append : ∀ {a b : EvsA α} {q : Key}, evP (a ++ b) q = evP a q ++ evP b q
  | [], b, q => rfl
  | e :: r, b, q => by
    show (if e.1 = q then e.2 else []) ++ evP (r ++ b) q = (if e.1 = q then e.2 else []) ++ evP r q ++ evP b q
    rw [evP_append, List.append_assoc]
theorem evP_len : ∀ {a : EvsA α} {q : Key}, ((evP a q).length : Int) = pn a q
  | [], q => rfl
  | e :: r, q => by
    show (((if e.1 = q then e.2 else []) ++ evP r q).length : Int) = (if e.1 = q then (e.2.length : Int) else 0) + pn r q
    rw [← evP_len (a := r), List.length_append]
    split <;> simp
/-- S k x: x may wait at k -/
structure Ln (N : Net) (S S' : Nat → α → Prop) (R : α → Prop) (qs : QsA α) (r : QsA α × EvsA α) : Prop where
  len : r.1.length = qs.length
  st : ∀ k, k < N.length → ∃ js, evP r.2 (.inl (k : Int)) ++ r.1.getD k [] = qs.getD k [] ++ js ∧ ∀ x ∈ js, S' k x
  ok : ∀ k, k < N.length → ∀ x ∈ r.1.getD k [], S k x
  pt : ∀ z, ∀ x ∈ evP r.2 (.inr z), R x
  ev : ∀ e ∈ r.2, ∀ k : Nat, e.1 = .inl (k : Int) → ∀ x ∈ e.2, S k x
structure LnR (S S' : Nat → α → Prop) (R : α → Prop) : Prop where
  mono : ∀ k j x, S k x → k < j → S' j x
  weak : ∀ j x, S' j x → S j x
  any : ∀ k x, S k x → R x
variable {N : Net} {S S' : Nat → α → Prop} {R : α → Prop}
theorem Ln.none {qs : QsA α} (h : ∀ k, k < N.length → ∀ x ∈ qs.getD k [], S k x) : Ln N S S' R qs (qs, []) :=
  ⟨rfl, fun k hk => ⟨[], by simp [evP], by simp⟩, h, fun z x hx => by simp [evP] at hx, fun e he => by simp at he⟩
theorem Ln.then {qs : QsA α} {r s : QsA α × EvsA α} (h1 : Ln N S S' R qs r) (h2 : Ln N S S' R r.1 s) : Ln N S S' R qs (s.1, r.2 ++ s.2) := by
  refine ⟨h2.len.trans h1.len, fun k hk => ?_, h2.ok, fun z x hx => ?_, fun e he => ?_⟩
  · obtain ⟨a, ha, ha'⟩ := h1.st k hk
    obtain ⟨b, hb, hb'⟩ := h2.st k hk
    refine ⟨a ++ b, ?_, fun x hx => (List.mem_append.mp hx).elim (ha' x) (hb' x)⟩
    show evP (r.2 ++ s.2) _ ++ s.1.getD k [] = _
    rw [evP_append, List.append_assoc, hb, ← List.append_assoc, ha, List.append_assoc]
  · dsimp only at hx
    rw [evP_append] at hx
    exact (List.mem_append.mp hx).elim (h1.pt z x) (h2.pt z x)
  · exact (List.mem_append.mp he).elim (h1.ev e) (h2.ev e)
def DepLn (N : Net) (S S' : Nat → α → Prop) (R : α → Prop) (f : Nat) (dep : Dep α) : Prop := ∀ qs st, N.length ≤ st + f → st < N.length → qs.length = N.length → (qs.getD st []).length = (N.getD st []).length → (∀ k, k < N.length → ∀ x ∈ qs.getD k [], S k x) → Ln N S S' R qs (dep qs st)
theorem joinW_ln {f : Nat} {dep : Dep α} (hd : DepLn N S S' R f dep) {qs : QsA α} {j : Nat} {p : α} (hl : qs.length = N.length) (hj : j < N.length) (hf : N.length ≤ j + f) (h : ∀ k, k < N.length → ∀ x ∈ qs.getD k [], S k x) (hp : S' j p) (hp2 : S j p) : Ln N S S' R qs (joinW N dep qs j p) := by
  have hjl : j < qs.length := by rw [hl]; exact hj
  have h' : ∀ k, k < N.length → ∀ x ∈ (qs.set j (qs.getD j [] ++ [p])).getD k [], S k x := fun k hk x hx => by
    rw [getD_set' hjl] at hx
    split at hx
    · rename_i e
      subst e
      rcases List.mem_append.mp hx with hx | hx
      · exact h k hk x hx
      · rw [List.mem_singleton.mp hx]; exact hp2
    · exact h k hk x hx
  have put : ∀ {r : QsA α × EvsA α}, Ln N S S' R (qs.set j (qs.getD j [] ++ [p])) r → Ln N S S' R qs r := fun {r} F => by
    refine ⟨by rw [F.len, List.length_set], fun k hk => ?_, F.ok, F.pt, F.ev⟩
    obtain ⟨js, e, hs⟩ := F.st k hk
    rw [getD_set' hjl] at e
    by_cases z : k = j
    · subst z
      rw [if_pos rfl] at e
      exact ⟨p :: js, by rw [e]; simp, fun x hx => (List.mem_cons.mp hx).elim (fun z => z ▸ hp) (hs x)⟩
    · rw [if_neg z] at e
      exact ⟨js, e, hs⟩
  unfold joinW
  split
  · rename_i e
    exact put (hd _ j hf hj (by rw [List.length_set]; exact hl) (by rw [getD_set' hjl, if_pos rfl]; exact e) h')
  · exact put (Ln.none h')
theorem moveW_ln (L : LnR S S' R) {f : Nat} {dep : Dep α} (hd : DepLn N S S' R f dep) {st : Nat} (hf : N.length ≤ st + 1 + f) : ∀ {ms : List (Key × α)} {qs : QsA α}, (∀ m ∈ ms, ∀ j : Int, m.1 = .inl j → (st : Int) < j ∧ j < N.length) → (∀ m ∈ ms, S st m.2) → qs.length = N.length → (∀ k, k < N.length → ∀ x ∈ qs.getD k [], S k x) → Ln N S S' R qs (moveW N dep ms qs)
  | [], qs, _, _, hl, h => Ln.none h
  | (.inr z, p) :: r, qs, hm, hs, hl, h => by
    have F := moveW_ln L hd hf (ms := r) (fun m h => hm m (List.mem_cons_of_mem _ h)) (fun m h => hs m (List.mem_cons_of_mem _ h)) hl h
    have one : Ln N S S' R qs (qs, [((.inr z : Key), [p])]) := by
      refine ⟨rfl, fun k hk => ⟨[], ?_, by simp⟩, h, fun y x hx => ?_, fun e he k hk => ?_⟩
      · show ((if (.inr z : Key) = .inl (k : Int) then [p] else []) ++ []) ++ qs.getD k [] = _
        rw [if_neg (by simp)]; simp
      · have hx : x ∈ (if (.inr z : Key) = .inr y then [p] else []) ++ [] := hx
        split at hx
        · simp at hx
          rw [hx]
          exact L.any st p (hs _ (List.mem_cons_self ..))
        · simp at hx
      · rw [List.mem_singleton.mp he] at hk
        cases hk
    exact one.then F
  | (.inl j, p) :: r, qs, hm, hs, hl, h => by
    obtain ⟨a, b⟩ := hm _ (List.mem_cons_self ..) j rfl
    have sp : S' j.toNat p := L.mono st _ p (hs _ (List.mem_cons_self ..)) (by omega)
    have F1 := joinW_ln hd (p := p) hl (j := j.toNat) (by omega) (by omega) h sp (L.weak _ _ sp)
    have F2 := moveW_ln L hd hf (ms := r) (fun m h => hm m (List.mem_cons_of_mem _ h)) (fun m h => hs m (List.mem_cons_of_mem _ h)) (F1.len.trans hl) F1.ok
    exact F1.then F2
theorem departW_ln (L : LnR S S' R) (fw : Fw N) : ∀ f, DepLn N S S' R f (departW (α := α) N f)
  | 0 => fun qs st h1 h2 => by omega
  | f + 1 => fun qs st hf hst hl hs h => by
    have hql : st < qs.length := by rw [hl]; exact hst
    have F := moveW_ln L (departW_ln L fw f) (st := st) (by omega) (ms := (N.getD st []).zip (qs.getD st [])) (qs := qs.set st []) (fun m hm j e => fw st hst j (by rw [← e]; exact (List.of_mem_zip hm).1)) (fun m hm => h st hst _ (List.of_mem_zip hm).2) (by rw [List.length_set]; exact hl) (fun k hk x hx => by
      rw [getD_set' hql] at hx
      split at hx
      · simp at hx
      · exact h k hk x hx)
    refine ⟨by show (moveW N (departW N f) _ _).1.length = _; rw [F.len, List.length_set], fun k hk => ?_, F.ok, fun z x hx => ?_, fun e he k hk x hx => ?_⟩
    · obtain ⟨js, e, hj⟩ := F.st k hk
      rw [getD_set' hql] at e
      refine ⟨js, ?_, hj⟩
      show ((if (.inl (st : Int) : Key) = .inl (k : Int) then qs.getD st [] else []) ++ evP (moveW N (departW N f) ((N.getD st []).zip (qs.getD st [])) (qs.set st [])).2 _) ++ (moveW N (departW N f) ((N.getD st []).zip (qs.getD st [])) (qs.set st [])).1.getD k [] = _
      by_cases z : k = st
      · subst z
        rw [if_pos rfl] at e
        rw [if_pos rfl, List.append_assoc]
        rw [e, List.nil_append]
      · rw [if_neg z] at e
        rw [if_neg (by simp; omega), List.nil_append]
        exact e
    · have hx : x ∈ (if (.inl (st : Int) : Key) = .inr z then qs.getD st [] else []) ++ evP _ _ := hx
      rw [if_neg (by simp)] at hx
      exact F.pt z x (by simpa using hx)
    · rcases List.mem_cons.mp he with he | he
      · rw [he] at hk hx
        have : st = k := by have := Sum.inl.inj hk; omega
        subst this
        exact h st hst x hx
      · exact F.ev e he k hk x hx
end
end FB
set_option exponentiation.threshold 20000
namespace K
open PySem PySem.Spec PyProof.Rows L2 Evl FB
local macro_rules | `(tactic| walk_at "run") => `(tactic| try simp only [tSeq, tAsg, tVar, tC, gName, L2.start, List.map_cons, List.map_nil, List.cons_append, List.nil_append, List.length_cons, List.length_nil, List.replicate, List.getElem?_cons_zero, List.getElem?_cons_succ, Option.some.injEq, exists_eq_left', List.set_cons_zero, List.set_cons_succ, V.ref.injEq, tRet, x_tLst, x_tTup, tCons, tCB, tNil, tOp, x_addI, x_mulI, x_rI, x_rI0, x_ltI, x_leI, x_ltS, x_leS, x_eqI, x_neI, x_eqS, x_eqB, x_neB, x_isiI, x_isiS, x_int, x_max, x_min, cxOf, tIfS, tNext, tTest, V.bl.injEq, decide_eq_true_eq, gSub, tAnd, tOr, tNot, tB, tDrop, tBM, x_tFor, iRng1, iList, iTup, x_tLc, tYes, tCall, tIf, tAndV, tOrV, tNotV, tChain, List.append_nil, tUn, if_true, wipe, true_and, x_never, iU, x_itS, kV, Nat.reduceAdd, Nat.reduceSub, List.replicate_zero, x_rU, x_tMkO, iEnumT, x_tDc, x_tDGet, x_tDGet2, x_sDPut, x_tDSetd, x_tDNewK, x_iItems, x_iZip, x_tSAddK, x_tLockV, x_tTupRg, x_tRg2, tPar, tPar3, tBM0, tSl, tNoPart, tPart, x_tSetAdd, x_tDIn, x_iKeys, x_iZipX, tWhile, x_iZip3, iRevR, tRg1])
/-! boats and passengers by a time; one arrival more -/
/-- the boats of a station by a time -/
def bt (N : Net) (ls : List Int) (t : Int) (k : Nat) : Int := (bts N ls t N.length).getD k 0
/-- how many came to a place by a time -/
def jq (N : Net) (ls : List Int) (t : Int) (q : Key) : Int := if q = .inl 0 then t else toQ (bt N ls t) q (seatsOf N N.length)
section
variable {N : Net} {ls : List Int}
theorem bts_pre {t : Int} {k : Nat} : ∀ {n : Nat}, k < n → (bts N ls t n).getD k 0 = (bts N ls t (k + 1)).getD k 0
  | 0, h => by omega
  | n + 1, h => by
    by_cases e : k = n
    · rw [e]
    · rw [← bts_pre (n := n) (by omega)]
      show (bts N ls t n ++ [_]).getD k 0 = _
      rw [List.getD_eq_getElem?_getD, List.getElem?_append_left (by rw [bts_len]; omega), ← List.getD_eq_getElem?_getD]
theorem joins_eq (fw : Fw N) {t : Int} {k : Nat} (hk : k < N.length) : joins N t (bts N ls t k) k = jq N ls t (.inl (k : Int)) := by
  unfold joins jq
  by_cases e : k = 0
  · subst e; rw [if_pos (by rfl), if_pos (by rfl)]
  · rw [if_neg e, if_neg (by simp; omega)]
    refine toQ_congr fun s hs hq => ?_
    obtain ⟨i, q⟩ := s
    have hq : q = .inl (k : Int) := hq
    subst hq
    obtain ⟨h1, h2⟩ := mem_seatsOf.mp hs
    have := fw i h1 _ h2
    show (bts N ls t k).getD i 0 = (bts N ls t N.length).getD i 0
    rw [bts_pre (n := k) (by omega), bts_pre (n := N.length) (by omega)]
theorem bt_eq (fw : Fw N) {t : Int} {k : Nat} (hk : k < N.length) : bt N ls t k = (ls.getD k 0 + jq N ls t (.inl (k : Int))).fdiv ((N.getD k []).length : Nat) := by
  unfold bt
  rw [bts_pre hk]
  show (bts N ls t k ++ [_]).getD k 0 = _
  rw [List.getD_eq_getElem?_getD, List.getElem?_append_right (by rw [bts_len]; omega), bts_len, Nat.sub_self]
  show (ls.getD k 0 + joins N t (bts N ls t k) k).fdiv _ = _
  rw [joins_eq fw hk]
/-- a seat that leads to a station is ahead of it -/
theorem seat_lt (fw : Fw N) {i k : Nat} (h : (i, (.inl (k : Int) : Key)) ∈ seatsOf N N.length) : i < k := by
  obtain ⟨h1, h2⟩ := mem_seatsOf.mp h
  have := fw i h1 _ h2
  omega
theorem jq_rec (fw : Fw N) {P : Nat → Prop} (h : ∀ k, k < N.length → (∀ i, i < k → P i) → P k) : ∀ k, k < N.length → P k := by
  intro k
  induction k using Nat.strongRecOn with
  | ind k ih => exact fun hk => h k hk fun i hi => ih i hi (by omega)
theorem bt_mono (fw : Fw N) (h1 : ∀ k, k < N.length → 1 ≤ (N.getD k []).length) {t u : Int} (htu : t ≤ u) : ∀ k, k < N.length → bt N ls t k ≤ bt N ls u k := by
  refine jq_rec fw fun k hk ih => ?_
  have h := h1 k hk
  have hj : jq N ls t (.inl (k : Int)) ≤ jq N ls u (.inl (k : Int)) := by
    unfold jq
    by_cases e : k = 0
    · subst e; rw [if_pos (by rfl), if_pos (by rfl)]; exact htu
    · rw [if_neg (by simp; omega), if_neg (by simp; omega)]
      refine toQ_mono fun s hs hq => ih _ ?_
      obtain ⟨i, q⟩ := s
      have hq : q = .inl (k : Int) := hq
      subst hq
      exact seat_lt fw hs
  rw [bt_eq fw hk, bt_eq fw hk, Int.fdiv_eq_ediv_of_nonneg _ (by omega), Int.fdiv_eq_ediv_of_nonneg _ (by omega)]
  exact Int.ediv_le_ediv (by omega) (by omega)
theorem jq_mono (fw : Fw N) (h1 : ∀ k, k < N.length → 1 ≤ (N.getD k []).length) {t u : Int} (htu : t ≤ u) (q : Key) : jq N ls t q ≤ jq N ls u q := by
  unfold jq
  split
  · exact htu
  · refine toQ_mono fun s hs hq => bt_mono fw h1 htu _ ?_
    obtain ⟨i, q⟩ := s
    exact (mem_seatsOf.mp hs).1
/-- the lengths at the beginning -/
structure Lens (N : Net) (ls : List Int) : Prop where
  len : ls.length = N.length
  nn : ∀ k, k < N.length → 0 ≤ ls.getD k 0
  lt : ∀ k, k < N.length → ls.getD k 0 < ((N.getD k []).length : Int)
theorem Lens.pos (L : Lens N ls) : ∀ k, k < N.length → 1 ≤ (N.getD k []).length := fun k hk => by
  have := L.nn k hk
  have := L.lt k hk
  omega
theorem bt_zero (fw : Fw N) (L : Lens N ls) : ∀ k, k < N.length → bt N ls 0 k = 0 := by
  refine jq_rec fw fun k hk ih => ?_
  have hj : jq N ls 0 (.inl (k : Int)) = 0 := by
    unfold jq
    split
    · rfl
    · rw [toQ_congr (g := fun _ => 0) fun s hs hq => ih _ ?_]
      · exact toQ_zero
      · obtain ⟨i, q⟩ := s
        have hq : q = .inl (k : Int) := hq
        subst hq
        exact seat_lt fw hs
  have := L.nn k hk
  have := L.lt k hk
  rw [bt_eq fw hk, hj, Int.fdiv_eq_ediv_of_nonneg _ (by omega), Int.add_zero]
  exact Int.ediv_eq_zero_of_lt (by omega) (by omega)
theorem jq_zero (fw : Fw N) (L : Lens N ls) (q : Key) : jq N ls 0 q = 0 := by
  unfold jq
  split
  · rfl
  · rw [toQ_congr (g := fun _ => 0) fun s hs _ => bt_zero fw L _ ?_]
    · exact toQ_zero
    · obtain ⟨i, q⟩ := s
      exact (mem_seatsOf.mp hs).1
/-- how many wait at a station at a time -/
def wt (N : Net) (ls : List Int) (t : Int) (k : Nat) : Int := ls.getD k 0 + jq N ls t (.inl (k : Int)) - bt N ls t k * ((N.getD k []).length : Int)
theorem wt_lt (fw : Fw N) (L : Lens N ls) {t : Int} {k : Nat} (hk : k < N.length) : 0 ≤ wt N ls t k ∧ wt N ls t k < ((N.getD k []).length : Int) := by
  have h1 := L.pos k hk
  unfold wt
  rw [bt_eq fw hk, Int.fdiv_eq_ediv_of_nonneg _ (by omega)]
  have a := Int.emod_nonneg (ls.getD k 0 + jq N ls t (.inl (k : Int))) (b := ((N.getD k []).length : Int)) (by omega)
  have b := Int.emod_lt_of_pos (ls.getD k 0 + jq N ls t (.inl (k : Int))) (b := ((N.getD k []).length : Int)) (by omega)
  have c := Int.emod_add_ediv_mul (ls.getD k 0 + jq N ls t (.inl (k : Int))) ((N.getD k []).length : Int)
  omega
variable {α : Type} [Inhabited α]
/-- one arrival more: the boats, who comes, who waits -/
theorem step_all (fw : Fw N) (L : Lens N ls) {t : Int} {qs : QsA α} {r : QsA α × EvsA α} (hq : ∀ k, k < N.length → ((qs.getD k []).length : Int) = wt N ls t k) (F : Flow N qs (at1 0) r) (S : Short N r.1) : ∀ k, k < N.length → dn r.2 k = bt N ls (t + 1) k - bt N ls t k := by
  refine jq_rec fw fun k hk ih => ?_
  have a := F.q k hk
  have hj : at1 0 (.inl (k : Int)) + toQ (dn r.2) (.inl (k : Int)) (seatsOf N N.length) = jq N ls (t + 1) (.inl (k : Int)) - jq N ls t (.inl (k : Int)) := by
    have e1 : toQ (dn r.2) (.inl (k : Int)) (seatsOf N N.length) = toQ (bt N ls (t + 1)) (.inl (k : Int)) (seatsOf N N.length) - toQ (bt N ls t) (.inl (k : Int)) (seatsOf N N.length) := by
      rw [← toQ_sub]
      refine toQ_congr fun s hs hq => ih _ ?_
      obtain ⟨i, q⟩ := s
      have hq : q = .inl (k : Int) := hq
      subst hq
      exact seat_lt fw hs
    by_cases e : k = 0
    · subst e
      have z : toQ (dn r.2) (.inl ((0 : Nat) : Int)) (seatsOf N N.length) = 0 := toQ_nil fun s hs hq => by
        obtain ⟨i, q⟩ := s
        have hq : q = .inl ((0 : Nat) : Int) := hq
        subst hq
        have := seat_lt fw hs
        omega
      rw [z]
      unfold jq at1
      rw [if_pos (by rfl), if_pos (by rfl), if_pos (by rfl)]; omega
    · rw [e1]
      unfold jq at1
      rw [if_neg (by simp; omega), if_neg (by simp; omega), if_neg (by simp; omega)]; omega
  have hs := S.lt k hk
  have h1 := L.pos k hk
  have h2 := hq k hk
  unfold wt at h2
  have hb : bt N ls (t + 1) k = dn r.2 k + bt N ls t k := by
    rw [bt_eq (t := t + 1) fw hk, Int.fdiv_eq_ediv_of_nonneg _ (by omega)]
    have e : ls.getD k 0 + jq N ls (t + 1) (.inl (k : Int)) = ((r.1.getD k []).length : Int) + ((N.getD k []).length : Int) * (dn r.2 k + bt N ls t k) := by
      rw [Int.mul_add, Int.mul_comm _ (bt N ls t k)]
      omega
    rw [e, Int.add_mul_ediv_left _ _ (by omega), Int.ediv_eq_zero_of_lt (by omega) (by omega)]
    omega
  omega
theorem step_wt (fw : Fw N) (L : Lens N ls) {t : Int} {qs : QsA α} {r : QsA α × EvsA α} (hq : ∀ k, k < N.length → ((qs.getD k []).length : Int) = wt N ls t k) (F : Flow N qs (at1 0) r) (S : Short N r.1) (q : Key) (hn : (∃ k : Nat, k < N.length ∧ q = .inl (k : Int)) ∨ ∃ z, q = .inr z) :
    at1 0 q + toQ (dn r.2) q (seatsOf N N.length) = jq N ls (t + 1) q - jq N ls t q := by
  have e1 : toQ (dn r.2) q (seatsOf N N.length) = toQ (bt N ls (t + 1)) q (seatsOf N N.length) - toQ (bt N ls t) q (seatsOf N N.length) := by
    rw [← toQ_sub]
    refine toQ_congr fun s hs _ => step_all fw L hq F S _ ?_
    obtain ⟨i, q⟩ := s
    exact (mem_seatsOf.mp hs).1
  by_cases e : q = .inl 0
  · subst e
    have z : toQ (dn r.2) (.inl 0) (seatsOf N N.length) = 0 := toQ_nil fun s hs hq => by
      obtain ⟨i, q⟩ := s
      have hq : q = .inl ((0 : Nat) : Int) := hq
      subst hq
      have := seat_lt fw hs
      omega
    rw [z]
    unfold jq at1
    rw [if_pos (by rfl), if_pos (by rfl), if_pos (by rfl)]; omega
  · rw [e1]
    unfold jq at1
    rw [if_neg e, if_neg e, if_neg (by simpa using e)]; omega
end
local macro_rules | `(tactic| walk_at "run") => `(tactic| try simp only [tSeq, tAsg, tVar, tC, gName, L2.start, List.map_cons, List.map_nil, List.cons_append, List.nil_append, List.length_cons, List.length_nil, List.replicate, List.getElem?_cons_zero, List.getElem?_cons_succ, Option.some.injEq, exists_eq_left', List.set_cons_zero, List.set_cons_succ, V.ref.injEq, tRet, x_tLst, x_tTup, tCons, tCB, tNil, tOp, x_addI, x_mulI, x_rI, x_rI0, x_ltI, x_leI, x_ltS, x_leS, x_eqI, x_neI, x_eqS, x_eqB, x_neB, x_isiI, x_isiS, x_int, x_max, x_min, cxOf, tIfS, tNext, tTest, V.bl.injEq, decide_eq_true_eq, gSub, tAnd, tOr, tNot, tB, tDrop, tBM, x_tFor, iRng1, iList, iTup, x_tLc, tYes, tCall, tIf, tAndV, tOrV, tNotV, tChain, List.append_nil, tUn, if_true, wipe, true_and, x_never, iU, x_itS, kV, Nat.reduceAdd, Nat.reduceSub, List.replicate_zero, x_rU, x_tMkO, iEnumT, x_tDc, x_tDGet, x_tDGet2, x_sDPut, x_tDSetd, x_tDNewK, x_iItems, x_iZip, x_tSAddK, x_tLockV, x_tTupRg, x_tRg2, tPar, tPar3, tBM0, tSl, tNoPart, tPart, x_tSetAdd, x_tDIn, x_iKeys, x_iZipX, x_iZip3, iRevR, tRg1, x_tFld, x_tMeth, x_sFld, x_tMake, tAug, x_ipI, x_tDNotIn, iRng2])
/-! class Timetable: what it is, boats_by, joined_by, first_number -/
section
variable {P : Program} {w : World} {K : PySem.W.Frag} {mg : Str → Option Value} {base : Heap}
theorem putK_le1 {kvs : List (Key × V)} {k : Key} {v : V} : (putK kvs k v).length ≤ kvs.length + 1 := by
  unfold putK
  split <;> simp
/-- where its parts stand -/
structure Tm where
  a : Addr
  dx : Addr
  l : Addr
  D : Addr
  Kd : Addr
  v : V
  u : V
  H0 : Hp
  A : Key → Option Addr
  G : Key → Cnt
  kvs : List (Key × V)
  av : List Addr
def Tm.fs (M : Tm) (p : Int) : List (Str × V) := [("network", M.v), ("next_passenger", .int p), ("waiting", M.u), ("lengths", .ref M.l), ("feeders", .ref M.D), ("known_boats", .ref M.Kd)]
/-- the class's facts -/
structure TF (K : PySem.W.Frag) (C : Addr) : Prop where
  c : Cls K C
  network : NoAttr K C "network"
  next_passenger : NoAttr K C "next_passenger"
  waiting : NoAttr K C "waiting"
  lengths : NoAttr K C "lengths"
  feeders : NoAttr K C "feeders"
  known_boats : NoAttr K C "known_boats"
/-- a table of a network with lengths ls, c times known at most -/
structure TT (K : PySem.W.Frag) (C : Addr) (N : Net) (ls : List Int) (p : Int) (qs : Qs) (M : Tm) (c : Nat) (H : Hp) : Prop where
  ins : H M.a = some (.ins C M.dx (M.fs p))
  net : NetAt K H M.v N
  wai : Dp K H M.u (qsD qs)
  len : H M.l = some (.lst (ls.map V.int))
  feed : Feed M.H0 H M.D N.length (seatsOf N N.length) M.A M.G M.kvs
  fd : H M.D = some (.dK M.kvs)
  kD : M.Kd ≠ M.D
  kA : ∀ q a, M.A q = some a → a ≠ M.Kd
  kH : M.H0 M.Kd = none
  avs : ∀ y ∈ M.av, ∃ o, H y = some o
  lav : M.l ∉ M.av
  kav : M.Kd ∉ M.av
  cache : ∃ ks, H M.Kd = some (.dK ks) ∧ ks.length ≤ c ∧ ∀ k x, valV ks k = some x → ∃ (t : Int) (l : Addr), k = .inl t ∧ x = .ref l ∧ H l = some (.lst ((bts N ls t N.length).map V.int)) ∧ l ∉ M.av
/-- all but its dict of times stands -/
def ExK (M : Tm) (H H' : Hp) : Prop := ∀ x o, x ≠ M.Kd → H x = some o → H' x = some o
theorem ExK.of {M : Tm} {H H' : Hp} (e : Ex H H') : ExK M H H' := fun x o _ h => e x o h
theorem ExK.trans {M : Tm} {H H1 H2 : Hp} (a : ExK M H H1) (b : ExK M H1 H2) : ExK M H H2 := fun x o n h => b x o n (a x o n h)
theorem ExK.ex {M : Tm} {H0 H H' : Hp} (b : ExK M H H') (e : Ex H0 H) (n : H0 M.Kd = none) : Ex H0 H' := fun x o h => b x o (ne_of_none h n) (e x o h)
section
variable {C : Addr} {N : Net} {ls : List Int} {p : Int} {qs : Qs} {M : Tm} {c : Nat} {H H' : Hp}
theorem TT.ex (T : TT K C N ls p qs M c H) (e : Ex H H') : TT K C N ls p qs M c H' := by
  obtain ⟨ks, h1, h2, h3⟩ := T.cache
  exact ⟨e _ _ T.ins, Dp.ex e T.net, Dp.ex e T.wai, e _ _ T.len, T.feed.ex2 e, e _ _ T.fd, T.kD, T.kA, T.kH, (fun y hy => by obtain ⟨o, ho⟩ := T.avs y hy; exact ⟨o, e _ _ ho⟩), T.lav, T.kav, ks, e _ _ h1, h2, fun k x h => by
    obtain ⟨t, l, a, b, d, d2⟩ := h3 k x h
    exact ⟨t, l, a, b, e _ _ d, d2⟩⟩
theorem TT.le {d : Nat} (T : TT K C N ls p qs M c H) (h : c ≤ d) : TT K C N ls p qs M d H := by
  obtain ⟨ks, h1, h2, h3⟩ := T.cache
  exact { T with cache := ⟨ks, h1, by omega, h3⟩ }
theorem TT.tx (T : TT K C N ls p qs M c H) (e : ExK M H H') : TX H H' := by
  obtain ⟨ks, h1, _⟩ := T.cache
  exact fun x o h cc => e x o (fun z => by rw [z, h1] at h; cases h; cases cc) h
theorem TT.put {l : Addr} {t' : Int} {ks : List (Key × V)} (T : TT K C N ls p qs M c H) (h1 : H M.Kd = some (.dK ks)) (h2 : ks.length ≤ c) (h3 : ∀ k x, valV ks k = some x → ∃ (t : Int) (l : Addr), k = .inl t ∧ x = .ref l ∧ H l = some (.lst ((bts N ls t N.length).map V.int)) ∧ l ∉ M.av) (hl : H l = some (.lst ((bts N ls t' N.length).map V.int))) (hla : l ∉ M.av)
    (e : ExK M H H') (h : H' M.Kd = some (.dK (putK ks (.inl t') (.ref l)))) : TT K C N ls p qs M (c + 1) H' := by
  have ne : ∀ x o, H x = some o → (∀ ks, o ≠ .dK ks) → x ≠ M.Kd := fun x o hx hn z => hn ks (by rw [z, h1] at hx; exact (Option.some.inj hx).symm)
  have t := T.tx e
  refine ⟨e _ _ (ne _ _ T.ins fun ks z => by cases z) T.ins, NetAt.tx t T.net, Dp.tx t T.wai (qsD_t qs), e _ _ (ne _ _ T.len fun ks z => by cases z) T.len, ?_, e _ _ (fun z => T.kD z.symm) T.fd, T.kD, T.kA, T.kH, (fun y hy => by
    obtain ⟨o, ho⟩ := T.avs y hy
    exact ⟨o, e _ _ (fun z => T.kav (z ▸ hy)) ho⟩), T.lav, T.kav, ?_⟩
  · refine T.feed.but (fun x o hx => e _ _ (fun z => ?_) (T.feed.ex _ _ hx)) fun q a ha => ?_
    · rw [z, T.kH] at hx; cases hx
    · rw [T.feed.inn q a ha]
      exact e _ _ (T.kA q a ha) (T.feed.inn q a ha)
  · refine ⟨_, h, Nat.le_trans putK_le1 (by omega), fun k x hx => ?_⟩
    have keep : ∀ (l : Addr) (xs : List V), H l = some (.lst xs) → H' l = some (.lst xs) := fun l xs hl => e _ _ (ne _ _ hl fun ks z => by cases z) hl
    rw [valV_put] at hx
    split at hx
    · rename_i hk
      exact ⟨t', l, hk, (Option.some.inj hx).symm, keep _ _ hl, hla⟩
    · obtain ⟨t', l', a, b, d, d2⟩ := h3 k x hx
      exact ⟨t', l', a, b, keep _ _ d, d2⟩
/-- a list of objects that is not its own is changed, a new object is made -/
theorem TT.keep {D a : Addr} {xs : List V} (T : TT K C N ls p qs M c H) (hN : 1 ≤ N.length) (hl : ls.length = N.length) (hD : H D = some (.lst xs)) (hx : ∀ x ∈ xs, ∃ r, x = .ref r) (h0 : M.H0 D = none) (hD' : ∃ o, H' D = some o) (ha : a = D ∨ H a = none) (e0 : ∀ x o, H x = some o → x ≠ D → x ≠ a → H' x = some o) : TT K C N ls p qs M c H' := by
  have e : ∀ x o, H x = some o → x ≠ D → H' x = some o := fun x o h hd => e0 x o h hd (ha.elim (fun z => z ▸ hd) fun ha => ne_of_none h ha)
  have ne : ∀ x o, H x = some o → (∀ ys, o ≠ .lst ys) → x ≠ D := fun x o h hn z => hn xs (by rw [z, hD] at h; exact (Option.some.inj h).symm)
  have ni : ∀ x (ns : List Int), H x = some (.lst (ns.map V.int)) → 1 ≤ ns.length → x ≠ D := fun x ns h h1 z => by
    rw [z, hD] at h
    cases ns with
    | nil => simp at h1
    | cons n r =>
      have h2 : xs = V.int n :: r.map V.int := by cases h; rfl
      obtain ⟨y, hy⟩ := hx (.int n) (by rw [h2]; exact List.mem_cons_self ..)
      cases hy
  have t : TX H H' := fun x o h cc => e x o h (ne x o h fun ys z => by rw [z] at cc; cases cc)
  have k0 : ∀ x o, H x = some o → (∀ ys, o ≠ .lst ys) → H' x = some o := fun x o h hn => e x o h (ne x o h hn)
  obtain ⟨ks, h1, h2, h3⟩ := T.cache
  refine ⟨k0 _ _ T.ins (fun ys z => by cases z), NetAt.tx t T.net, Dp.tx t T.wai (qsD_t qs), e _ _ T.len (ni _ _ T.len (by omega)), ?_, k0 _ _ T.fd (fun ys z => by cases z), T.kD, T.kA, T.kH, (fun y hy => by
    obtain ⟨o, ho⟩ := T.avs y hy
    by_cases z : y = D
    · rw [z]; exact hD'
    · exact ⟨o, e _ _ ho z⟩), T.lav, T.kav, ks, k0 _ _ h1 (fun ys z => by cases z), h2, fun k x h => ?_⟩
  · refine T.feed.but (fun x o h => e x o (T.feed.ex _ _ h) (ne_of_none h h0)) fun q b hb => ?_
    rw [T.feed.inn q b hb]
    exact k0 _ _ (T.feed.inn q b hb) (fun ys z => by cases z)
  · obtain ⟨t, l, a1, b1, d1, d2⟩ := h3 k x h
    exact ⟨t, l, a1, b1, e _ _ d1 (ni _ _ d1 (by rw [bts_len]; omega)), d2⟩
/-- what is new may be avoided -/
theorem TT.avoid {D : Addr} (T : TT K C N ls p qs M c H) (hD : H D = none) (e : Ex H H') (hD' : ∃ o, H' D = some o) : TT K C N ls p qs { M with av := D :: M.av } c H' := by
  obtain ⟨ks, h1, h2, h3⟩ := T.cache
  have W := T.ex e
  exact ⟨W.ins, W.net, W.wai, W.len, W.feed, W.fd, W.kD, W.kA, W.kH, fun y hy => (List.mem_cons.mp hy).elim (fun z => z ▸ hD') (W.avs y), fun hy => (List.mem_cons.mp hy).elim (ne_of_none T.len hD) W.lav, fun hy => (List.mem_cons.mp hy).elim (ne_of_none h1 hD) W.kav, ks, e _ _ h1, h2, fun k x h => by
    obtain ⟨t, l, a1, b1, d1, d2⟩ := h3 k x h
    exact ⟨t, l, a1, b1, e _ _ d1, fun hy => (List.mem_cons.mp hy).elim (ne_of_none d1 hD) d2⟩⟩
theorem TT.forget {D : Addr} (T : TT K C N ls p qs { M with av := D :: M.av } c H) : TT K C N ls p qs M c H := by
  obtain ⟨ks, h1, h2, h3⟩ := T.cache
  exact ⟨T.ins, T.net, T.wai, T.len, T.feed, T.fd, T.kD, T.kA, T.kH, fun y hy => T.avs y (List.mem_cons_of_mem _ hy), fun hy => T.lav (List.mem_cons_of_mem _ hy), fun hy => T.kav (List.mem_cons_of_mem _ hy), ks, h1, h2, fun k x h => by
    obtain ⟨t, l, a1, b1, d1, d2⟩ := h3 k x h
    exact ⟨t, l, a1, b1, d1, fun hy => d2 (List.mem_cons_of_mem _ hy)⟩⟩
end
end
end K
set_option maxHeartbeats 4000000
/-! set(xs) of a list of ints and texts: a set that can be sorted. -/
namespace FB
open PySem PySem.Spec PyProof.Rows L2 Evl
section
variable {prog : Program} {w : World} {A : Around} {E : Value → Shared → Prop} {R : Result → Shared → Prop} {s : Shared}
/-- at S there is the set of the keys ks -/
def HasKeys (prog : Program) (w : World) (h : Heap) (S : Addr) (ks : List Key) : Prop := ∃ (T : Key → Bool) (m : Nat), SetM0 prog w h S T m ∧ m ≤ ks.length ∧ ∀ k, T k = true ↔ k ∈ ks
theorem HasKeys.at {h h' : Heap} {S : Addr} {ks : List Key} (r : HasKeys prog w h S ks) (k : ∀ o, h.get? S = some o → h'.get? S = some o) : HasKeys prog w h' S ks := by
  obtain ⟨T, m, z, q⟩ := r
  exact ⟨T, m, setM_at z k, q⟩
theorem HasKeys.add {h' : Heap} {S : Addr} {ks : List Key} {T : Key → Bool} {m : Nat} {k : Key} (hm : m ≤ ks.length) (hT : ∀ k, T k = true ↔ k ∈ ks) (r : SetM0 prog w h' S (fun j => T j || decide (j = k)) (if T k = true then m else m + 1)) : HasKeys prog w h' S (ks ++ [k]) :=
  ⟨_, _, r, by rw [List.length_append, List.length_singleton]; split <;> omega, fun j => by rw [Bool.or_eq_true, hT, decide_eq_true_eq, List.mem_append, List.mem_singleton]⟩
/-- the loop of set.update over what a walk yields -/
theorem setM_update {I : Addr} {fp wr : List Addr} {G : Array GenState → Array GenState → Prop} {n : Nat} {Y : Nat → Value → Prop} {St : Nat → Shared → Prop} (W : WalksS prog w A.in1 I fp wr G n Y St) {S : Addr} (hSf : S ∉ fp) {ks : List Key} (hn : ks.length = n) (hb : n < 1000)
    (hv : ∀ i v, Y i v → ∃ k, ks[i]? = some k ∧ L2.RelV (kV k) v) : ∀ (k i : Nat) (s : Shared), n - i = k → i ≤ n → St i s → HasKeys prog w s.heap S (ks.take i) →
      (∀ s', Moved (S :: wr) G s s' → HasKeys prog w s'.heap S ks → R (.ok (.ret .none)) s') → codeAny (model prog w) A (.builtin "set.update.loop" ⟨[.ref S, .ref I], []⟩) R s := by
  have far : S ∉ wr := fun z => hSf (W.sub _ z)
  intro k
  induction k with
  | zero =>
    intro i s hk hi st r fin
    obtain rfl : i = n := by omega
    refine codeAny_builtin F.entry_set_update_loop (Around.under_plainId F.plain_set_update_loop _ ▸ (show wpAny _ A.in1 (pyNext (.ref I) >>= _) _ _ s from wpAny_bind (W.done s _ _ st fun s' hm => ?_)))
    refine (show wpAny _ A.in1 (ret Value.none) _ _ s' from wpAny_pure (fin s' (hm.mono fun b z => List.mem_cons_of_mem _ z) ?_))
    rw [← hn, List.take_length] at r
    exact r.at fun o e => hm.heap S o far e
  | succ k ih =>
    intro i s hk hi st r fin
    have lt : i < n := by omega
    refine codeAny_builtin F.entry_set_update_loop (Around.under_plainId F.plain_set_update_loop _ ▸ (show wpAny _ A.in1 (pyNext (.ref I) >>= _) _ _ s from wpAny_bind (W.item i s _ _ lt st fun v s' hY st' hm => ?_)))
    obtain ⟨key, hkey, rv⟩ := hv i v hY
    obtain ⟨T, m, R0, hm0, hT⟩ := r.at fun o e => hm.heap S o far e
    have hl : (ks.take i).length ≤ i := by rw [List.length_take]; omega
    refine (show wpAny _ A.in1 (holding [v] (setAdd S v) >>= _) _ _ s' from wpAny_bind (wpAny_holding ?_))
    unfold setAdd
    refine wpAny_holding (wpAny_bind ((mixKind prog w).pyHash (kV_is rv) (setM_hashed (s := { s' with toks := s'.toks + 1 }) (kV_is rv) (key_scan rv) R0 (by unfold scanBound; omega) fun h' sb r2 => ?_)))
    have tk : ks.take (i + 1) = ks.take i ++ [key] := by rw [List.take_add_one, hkey]; rfl
    have ne : ∀ b ∈ fp, b ≠ S := fun b hb z => hSf (z ▸ hb)
    refine wpAny_pure ⟨plainId_quiet F.plain_set_update_loop _, ih (i + 1) _ (by omega) lt (W.frame _ s' _ _ st' (Nat.le_succ _) fun b hb o e => (sb.2 b (ne b hb)).trans e) (tk ▸ HasKeys.add hm0 hT r2) fun s2 hm2 r3 => fin s2 (Moved.trans W.gtrans ((hm.mono fun b z => List.mem_cons_of_mem _ z).then_heap (Nat.le_succ _) fun b o hb e => (sb.2 b fun z => hb (z ▸ List.mem_cons_self)).trans e) hm2) r3⟩
abbrev freshSet (w : World) : Obj := { cls := .type "set", dict := none, data := .set #[] 0 (.fresh 0 0 (!w.params.followText "set-order")) }
/-- set(l) -/
theorem call_set_keys {l : Addr} {its : Array Value} {ks : List Key} {Q : Value → Shared → Prop} (hh : A.handled = none) (hl : s.heap.IsList l its) (hv : ∀ (i : Nat) (v : Value), its[i]? = some v → ∃ k, ks[i]? = some k ∧ L2.RelV (kV k) v) (hn : ks.length = its.size) (hb : its.size < 1000)
    (h : ∀ (h' : Heap) (tk : Nat), HasKeys prog w h' s.heap.objs.size ks → (∀ b o, b < s.heap.objs.size → s.heap.get? b = some o → h'.get? b = some o) → Q (.ref s.heap.objs.size) { s with heap := h', toks := tk }) : wpAny (model prog w) A (call (.type "set") [.ref l]) Q E s := by
  generalize hob : ({ cls := .type "set", dict := none, data := .set #[] 0 (.fresh 0 0 (!w.params.followText "set-order")) } : Obj) = ob
  have hcls : ob.cls = .type "set" := by rw [← hob]
  obtain ⟨c, tl, hmro⟩ := F.called_set.mro
  have made := F.called_set.made; have sub := F.called_set.sub; have c1 := F.called_set.notType; have c2 := F.called_set.canCreate; have c3 := F.typeCall_set_1 (.ref l)
  refine wpAny_call (codeAny_of_tree (show wpAny _ _ (callAny (.type "set") _) _ _ _ from wpAny_pure ⟨Code.quiet_builtin _ (by decide +kernel), codeAny_builtin F.entry_type_call ?_⟩))
  rw [Around.under_plain (weight_type_call_type "set" [.ref l] []) rfl]
  repeat (any_goals (first | assumption | wp_step))
  refine codeAny_mono (code_set_led1 (.ref l) (E := E) (Q₁ := fun obj s₁ => obj = .ref s.heap.objs.size ∧ s₁ = { s with heap := s.heap.push ob }) (by rw [← hob]; exact ⟨rfl, rfl⟩)) fun r s₁ hr => ?_
  rcases r with e | fl
  · exact hr
  rcases fl with obj | _ | _ | _ <;> first | exact hr.elim | skip
  obtain ⟨rfl, rfl⟩ := hr
  have oS : (s.heap.push ob).get? s.heap.objs.size = some ob := Heap.get?_push_size _ (by rw [← hob]; rfl)
  have hT : Shared.TypeIs { s with heap := s.heap.push ob } (.ref s.heap.objs.size) "set" := ⟨_, oS, hcls⟩
  have i1 := F.called_set.init.lookup; have i2 := F.called_set.init.bind (.ref s.heap.objs.size)
  repeat (any_goals (first | assumption | wp_step))
  refine codeAny_mono (codeAny_call_builtin (R := wants (fun r s2 => r = .none ∧ ∃ h' tk, s2 = { s with heap := h', toks := tk } ∧ HasKeys prog w h' s.heap.objs.size ks ∧ (∀ b o, b < s.heap.objs.size → s.heap.get? b = some o → h'.get? b = some o)) E) F.called_set.init.plain F.entry_set_init (check_set_init_1 hT ?_)) fun r2 s2 hr2 => ?_
  · subst hob
    obtain ⟨⟨ocls, odict, odata, oslots⟩, hol, hcl, nl, hdl⟩ := hl
    obtain rfl : ocls = .type "list" := hcl
    obtain rfl : odata = .seq its nl := hdl
    have hol2 : (s.heap.push (freshSet w)).get? l = some { cls := .type "list", dict := odict, data := .seq its nl, slots := oslots } := Heap.get?_push_of_some _ hol
    have hl1 : (s.heap.push (freshSet w)).IsList l its := ⟨_, hol2, rfl, nl, rfl⟩
    have s1 := F.sub_list_set; have s2 := F.sub_list_frozenset; have s3 : (Value.type "list" == Value.type "dict") = false := by decide
    unfold Builtin.«set.__init__» noKeywords Builtin.Frozenset.updateFrom
    generalize hPI : pyIter = PI
    wp_walk
    subst hPI
    apply wpAny_pyIter_list hl1
    apply wpAny_bind
    apply wpAny_runValue
    have lS := Heap.lt_size hol
    have nI : l ≠ (s.heap.push (freshSet w)).objs.size := by rw [Heap.size_push]; exact Nat.ne_of_lt (Nat.lt_succ_of_lt lS)
    have nS : s.heap.objs.size ∉ [(s.heap.push (freshSet w)).objs.size, l] := by
      rw [Heap.size_push]
      intro z
      rcases List.mem_cons.mp z with z | z
      · exact absurd z (Nat.ne_of_lt (Nat.lt_succ_self _))
      · exact absurd (List.mem_singleton.mp z) (Nat.ne_of_gt lS)
    refine setM_update ((Walks.list (A := A.in1.in1.in1) (by simp [hh]) _ l nI its).toS) nS (ks := ks) hn hb hv (its.size - 0) 0 _ (by omega) (Nat.zero_le _) ⟨⟨_, Heap.get?_push_size _ rfl, rfl, rfl⟩, hl1.push _⟩ ?_ fun s' hm hS => ?_
    · refine HasKeys.at (h := s.heap.push (freshSet w)) ?_ fun o e => Heap.get?_push_of_some _ e
      exact ⟨_, 0, setM_fresh, Nat.zero_le _, fun k => by simp⟩
    · obtain ⟨h', g', d', tk', os'⟩ := s'
      obtain rfl : g' = s.gens := hm.gens
      obtain rfl : d' = s.drawn := hm.drawn
      obtain rfl : os' = s.os := hm.os
      show wpAny _ _ _ _ _ _
      refine wpAny_pure (show wpAny _ _ (ret Value.none) _ _ _ from wpAny_pure ⟨rfl, h', tk', rfl, hS, fun b o hlt e => ?_⟩)
      refine hm.heap b o (fun z => ?_) (Heap.get?_push_of_some _ (Heap.get?_push_of_some _ e))
      rcases List.mem_cons.mp z with z | z
      · exact absurd z (Nat.ne_of_lt hlt)
      · rw [List.mem_singleton.mp z, Heap.size_push] at hlt
        exact absurd hlt (by intro q; exact Nat.lt_irrefl _ (Nat.lt_trans (Nat.lt_succ_self _) q))
  · rcases r2 with e | fl
    · exact hr2
    rcases fl with obj | _ | _ | _ <;> first | exact hr2.elim | skip
    obtain ⟨rfl, h', tk, rfl, hS, kk⟩ := hr2
    repeat (any_goals (first | assumption | wp_step))
    exact h _ _ hS kk
end
section
variable {X : Cx}
theorem vals_key : ∀ {ks : List Key} {us : List Value}, Vals (ks.map kV) us → us.length = ks.length ∧ ∀ (i : Nat) (v : Value), us[i]? = some v → ∃ k, ks[i]? = some k ∧ L2.RelV (kV k) v
  | [], us, r => by
    cases r
    exact ⟨rfl, fun i v h => by simp at h⟩
  | k :: ks, us, r => by
    cases r with
    | cons r1 r2 =>
      obtain ⟨h1, h2⟩ := vals_key r2
      refine ⟨by rw [List.length_cons, List.length_cons, h1], fun i v h => ?_⟩
      cases i with
      | zero =>
        simp at h
        exact ⟨k, rfl, h ▸ r1⟩
      | succ i =>
        simp at h
        simpa using h2 i v h
def rSetL (K : PySem.W.Frag) (P : Program) (w : World) : List V → Hp → VK → Prop := fun xs H Q => ∃ (l : Addr) (ks : List Key), xs = [.ref l] ∧ SqL K H l (ks.map kV) ∧ ks.length < 1000 ∧
  ∀ p S n, H p = none → n ≤ ks.length → (∀ k, S k = true ↔ k ∈ ks) → Q (.ref p) (upd H p (SetM P w p S n))
theorem call_setL {K : PySem.W.Frag} {P : Program} {w : World} (hc : X.calm = true) (hK : X.K = K := by rfl) (hP : X.prog = P := by rfl) (hw : X.w = w := by rfl) : CallR X (.type "set") (rSetL K P w) := by
  subst hK hP hw
  intro pins s σ H xs us Q I r ⟨l, ks, ex, hl, hn, q⟩
  subst ex
  rw [Vals.ref1 r]
  obtain ⟨its, rv, pl, hz⟩ := I.list hl
  obtain ⟨e1, e2⟩ := vals_key rv
  refine call_set_keys (I.ok.hd hc) pl.isList (ks := ks) (by simpa using e2) (by simpa using e1.symm) (by rw [List.size_toArray, e1]; exact hn) fun h' tk hS k => ?_
  obtain ⟨T, m, R, hm, hT⟩ := hS
  have kp : ∀ b o, s.heap.get? b = some o → h'.get? b = some o := fun b o e => k b o (Heap.lt_size e) e
  exact ⟨.ref _, upd H s.heap.objs.size (SetM X.prog X.w s.heap.objs.size T m), I.laid (t' := tk) kp (Nat.le_refl _) (setM_obj R), rfl, q _ T m (I.hok.fresh (Nat.le_refl _)) hm hT⟩
theorem x_setOfL {K : PySem.W.Frag} {P : Program} {w : World} {H : Hp} {Q : VK} {l : Addr} {ks : List Key} (h : SqL K H l (ks.map kV)) (hn : ks.length < 1000) (q : ∀ p S n H', H p = none → Ex H H' → H' p = some (SetM P w p S n) → n ≤ ks.length → (∀ k, S k = true ↔ k ∈ ks) → Q (.ref p) H') : rSetL K P w [.ref l] H Q :=
  ⟨l, ks, rfl, h, hn, fun p S n hp h1 h2 => q p S n _ hp (Ex.new hp) upd_same h1 h2⟩
end
end FB
/-! the empty tuple times n; a slice from behind the end. -/
namespace FB
open PySem PySem.Spec PyProof.Rows L2 Evl
open Sem (wp)
end FB
set_option maxHeartbeats 1000000
namespace K
open PySem PySem.Spec PyProof.Rows L2 Evl FB
local macro_rules | `(tactic| walk_at "run") => `(tactic| try simp only [tSeq, tAsg, tVar, tC, gName, L2.start, List.map_cons, List.map_nil, List.cons_append, List.nil_append, List.length_cons, List.length_nil, List.replicate, List.getElem?_cons_zero, List.getElem?_cons_succ, Option.some.injEq, exists_eq_left', List.set_cons_zero, List.set_cons_succ, V.ref.injEq, tRet, x_tLst, x_tTup, tCons, tCB, tNil, tOp, x_addI, x_mulI, x_rI, x_rI0, x_ltI, x_leI, x_ltS, x_leS, x_eqI, x_neI, x_eqS, x_eqB, x_neB, x_isiI, x_isiS, x_int, x_max, x_min, cxOf, tIfS, tNext, tTest, V.bl.injEq, decide_eq_true_eq, gSub, tAnd, tOr, tNot, tB, tDrop, tBM, x_tFor, iRng1, iList, iTup, x_tLc, tYes, tCall, tIf, tAndV, tOrV, tNotV, tChain, List.append_nil, tUn, if_true, wipe, true_and, x_never, iU, x_itS, kV, Nat.reduceAdd, Nat.reduceSub, List.replicate_zero, x_rU, x_tMkO, iEnumT, x_tDc, x_tDGet, x_tDGet2, x_sDPut, x_tDSetd, x_tDNewK, x_iItems, x_iZip, x_tSAddK, x_tLockV, x_tTupRg, x_tRg2, tPar, tPar3, tBM0, tSl, tNoPart, tPart, x_tSetAdd, x_tDIn, x_iKeys, x_iZipX, x_iZip3, iRevR, tRg1, x_tFld, x_tMeth, x_sFld, x_tMake, tAug, x_ipI, x_tDNotIn, iRng2])
/-! Timetable: boats_by, joined_by, first_number -/
theorem lk_ne {f g : Str} {v : V} {r : List (Str × V)} (h : (f == g) = false) : List.lookup f ((g, v) :: r) = List.lookup f r := by
  rw [List.lookup_cons, h]
theorem lk_eq {f : Str} {v : V} {r : List (Str × V)} : List.lookup f ((f, v) :: r) = some v := by
  rw [List.lookup_cons, beq_self_eq_true]
section
variable {M : Tm} {p : Int}
theorem fs_network : (M.fs p).lookup ("network" : Str) = some (M.v) := by
  unfold Tm.fs
  exact lk_eq
theorem fs_next_passenger : (M.fs p).lookup ("next_passenger" : Str) = some (.int p) := by
  unfold Tm.fs
  rw [lk_ne (by decide +kernel)]
  exact lk_eq
theorem fs_waiting : (M.fs p).lookup ("waiting" : Str) = some (M.u) := by
  unfold Tm.fs
  rw [lk_ne (by decide +kernel)]
  rw [lk_ne (by decide +kernel)]
  exact lk_eq
theorem fs_lengths : (M.fs p).lookup ("lengths" : Str) = some (.ref M.l) := by
  unfold Tm.fs
  rw [lk_ne (by decide +kernel)]
  rw [lk_ne (by decide +kernel)]
  rw [lk_ne (by decide +kernel)]
  exact lk_eq
theorem fs_feeders : (M.fs p).lookup ("feeders" : Str) = some (.ref M.D) := by
  unfold Tm.fs
  rw [lk_ne (by decide +kernel)]
  rw [lk_ne (by decide +kernel)]
  rw [lk_ne (by decide +kernel)]
  rw [lk_ne (by decide +kernel)]
  exact lk_eq
theorem fs_known_boats : (M.fs p).lookup ("known_boats" : Str) = some (.ref M.Kd) := by
  unfold Tm.fs
  rw [lk_ne (by decide +kernel)]
  rw [lk_ne (by decide +kernel)]
  rw [lk_ne (by decide +kernel)]
  rw [lk_ne (by decide +kernel)]
  rw [lk_ne (by decide +kernel)]
  exact lk_eq
theorem fs_boats_by : (M.fs p).lookup ("boats_by" : Str) = none := by
  unfold Tm.fs
  rw [lk_ne (by decide +kernel), lk_ne (by decide +kernel), lk_ne (by decide +kernel), lk_ne (by decide +kernel), lk_ne (by decide +kernel), lk_ne (by decide +kernel)]
  rfl
theorem fs_joined_by : (M.fs p).lookup ("joined_by" : Str) = none := by
  unfold Tm.fs
  rw [lk_ne (by decide +kernel), lk_ne (by decide +kernel), lk_ne (by decide +kernel), lk_ne (by decide +kernel), lk_ne (by decide +kernel), lk_ne (by decide +kernel)]
  rfl
theorem fs_time_of : (M.fs p).lookup ("time_of" : Str) = none := by
  unfold Tm.fs
  rw [lk_ne (by decide +kernel), lk_ne (by decide +kernel), lk_ne (by decide +kernel), lk_ne (by decide +kernel), lk_ne (by decide +kernel), lk_ne (by decide +kernel)]
  rfl
theorem fs_first_number : (M.fs p).lookup ("first_number" : Str) = none := by
  unfold Tm.fs
  rw [lk_ne (by decide +kernel), lk_ne (by decide +kernel), lk_ne (by decide +kernel), lk_ne (by decide +kernel), lk_ne (by decide +kernel), lk_ne (by decide +kernel)]
  rfl
theorem fs_labels : (M.fs p).lookup ("labels" : Str) = none := by
  unfold Tm.fs
  rw [lk_ne (by decide +kernel), lk_ne (by decide +kernel), lk_ne (by decide +kernel), lk_ne (by decide +kernel), lk_ne (by decide +kernel), lk_ne (by decide +kernel)]
  rfl
theorem fs_arrival_at : (M.fs p).lookup ("arrival_at" : Str) = none := by
  unfold Tm.fs
  rw [lk_ne (by decide +kernel), lk_ne (by decide +kernel), lk_ne (by decide +kernel), lk_ne (by decide +kernel), lk_ne (by decide +kernel), lk_ne (by decide +kernel)]
  rfl
theorem fs_source : (M.fs p).lookup ("source" : Str) = none := by
  unfold Tm.fs
  rw [lk_ne (by decide +kernel), lk_ne (by decide +kernel), lk_ne (by decide +kernel), lk_ne (by decide +kernel), lk_ne (by decide +kernel), lk_ne (by decide +kernel)]
  rfl
theorem fs_passenger : (M.fs p).lookup ("passenger" : Str) = none := by
  unfold Tm.fs
  rw [lk_ne (by decide +kernel), lk_ne (by decide +kernel), lk_ne (by decide +kernel), lk_ne (by decide +kernel), lk_ne (by decide +kernel), lk_ne (by decide +kernel)]
  rfl
end
section
variable {P : Program} {w : World} {K : PySem.W.Frag} {mg : Str → Option Value} {base : Heap}
abbrev s_Timetable_boats_by : Stmt := inClass (top 57) 1
theorem sc_Timetable_boats_by : FnScope ["self", "time"] ["self", "time"] (defScope s_Timetable_boats_by) := ⟨rfl, rfl, rfl, by decide +kernel, rfl, by decide +kernel, by decide +kernel⟩
def spBy (K : PySem.W.Frag) (C : Addr) : Sp := fun vs H Q _ => ∃ (N : Net) (ls : List Int) (p : Int) (qs : Qs) (M : Tm) (c : Nat) (t : Int), vs = [.ref M.a, .int t] ∧ TT K C N ls p qs M c H ∧ CntN N ∧ ls.length = N.length ∧ c < 900000 ∧
  ∀ H' l, TT K C N ls p qs M (c + 1) H' → ExK M H H' → H' l = some (.lst ((bts N ls t N.length).map V.int)) → Q (.ref l) H'
theorem ok_boats_by {C f f1 : Addr} {fd fd1 : FuncData} (D : Mf K C "boats_by" "Timetable.boats_by" s_Timetable_boats_by ["self", "time"] f fd) (F : TF K C) (D_count_departures : Df K mg "count_departures" s_count_departures ["network", "feeders", "lengths", "arrivals"] f1 fd1)
    (G_count_departures : FnOk P w K mg base CX0 2 f1 fd1 ["network", "feeders", "lengths", "arrivals"] (spDep K)) : FnOk P w K mg base CX0 3 f fd ["self", "time"] (spBy K C) := by
  refine D.F.ok sc_Timetable_boats_by (fun vs H Q E h => ?_) (fun cdv A outer s H vs Q E hr h => ?_)
  · obtain ⟨N, ls, p, qs, M, c, t, rfl, _⟩ := h
    rfl
  · obtain ⟨N, ls, p, qs, M, c, t, rfl, W, hC, hll, hc, q⟩ := h
    have hu := hr.units
    have hu1 := hu_of hr
    refine ⟨_, (pss_cons (ps_if (pt_cmp (pc_dnotin hu1 (pv 1) (pe_fld (pv 0) rfl))) (pss_one (ps_dput hu1 (pe_fld (pv 0) rfl) (pv 1) (pe_call (G_count_departures) (hr.mono (by decide)) rfl D_count_departures.g D_count_departures.F.kp D_count_departures.b .nil pass0 (pa_cons (pe_fld (pv 0) rfl) (pa_cons (pe_fld (pv 0) rfl) (pa_cons (pe_fld (pv 0) rfl) (pa_cons (pv 1) pa_nil))))) rfl)) pss_nil)
      (pss_one (ps_ret (pe_dget hu1 (pe_fld (pv 0) rfl) (pv 1) (fun _ _ => rfl))))), ?_⟩
    walk_at "run"
    obtain ⟨ks, h1, h2, h3⟩ := W.cache
    refine x_fld W.ins F.c F.known_boats fs_known_boats ?_
    refine x_dNotIn (k := .inl t) h1 ⟨_, rfl, ?_⟩
    cases hv : valV ks (.inl t) with
    | none =>
      rw [if_pos (by rfl)]
      refine x_fld W.ins F.c F.network fs_network (x_fld W.ins F.c F.feeders fs_feeders (x_fld W.ins F.c F.lengths fs_lengths ?_))
      refine ⟨M.v, N, M.D, M.l, M.H0, M.A, M.G, M.kvs, ls, t, rfl, W.net, hC, W.feed, W.fd, SqL.of W.len, hll, fun H1 l e1 nl hl => ?_⟩
      have W1 := W.ex e1
      refine x_fld W1.ins F.c F.known_boats fs_known_boats (x_dput (k := .inl t) (e1 _ _ h1) (by omega) fun H2 e2 n2 h2' => ?_)
      walk_at "run"
      have W2 := W1.put (e1 _ _ h1) h2 (fun k x hx => by
        obtain ⟨t', l', a, b, d, d2⟩ := h3 k x hx
        exact ⟨t', l', a, b, e1 _ _ d, d2⟩) hl (fun hy => by
        obtain ⟨o, ho⟩ := W.avs l hy
        rw [nl] at ho; cases ho) e2 h2'
      refine x_fld W2.ins F.c F.known_boats fs_known_boats (x_dget (k := .inl t) h2' (by rw [valV_put, if_pos rfl]) ?_)
      exact q H2 l W2 ((ExK.of e1).trans e2) (e2 _ _ (fun z => by rw [z, e1 _ _ h1] at hl; cases hl) hl)
    | some x =>
      obtain ⟨t', l, e, rfl, hl, _⟩ := h3 _ _ hv
      cases e
      rw [if_neg (by simp)]
      exact x_fld W.ins F.c F.known_boats fs_known_boats (x_dget (k := .inl t) h1 hv (q H l (W.le (by omega)) (ExK.of (Ex.refl H)) hl))
abbrev s_Timetable_joined_by : Stmt := inClass (top 57) 2
theorem sc_Timetable_joined_by : FnScope ["self", "place", "time"] ["self", "place", "time"] (defScope s_Timetable_joined_by) := ⟨rfl, rfl, rfl, by decide +kernel, rfl, by decide +kernel, by decide +kernel⟩
/-- a station, or a place that a seat leads to -/
def PlIn (N : Net) (q : Key) : Prop := (∃ i : Nat, i < N.length ∧ q = .inl (i : Int)) ∨ ∃ i, (i, q) ∈ seatsOf N N.length
def spJd (K : PySem.W.Frag) (C : Addr) : Sp := fun vs H Q _ => ∃ (N : Net) (ls : List Int) (p : Int) (qs : Qs) (M : Tm) (c : Nat) (t : Int) (z : Key), vs = [.ref M.a, kV z, .int t] ∧ TT K C N ls p qs M c H ∧ CntN N ∧ ls.length = N.length ∧ c < 900000 ∧ PlIn N z ∧
  ∀ H', TT K C N ls p qs M (c + 1) H' → ExK M H H' → Q (.int (jq N ls t z)) H'
theorem ok_joined_by {C f f1 f2 : Addr} {fd fd1 fd2 : FuncData} (D : Mf K C "joined_by" "Timetable.joined_by" s_Timetable_joined_by ["self", "place", "time"] f fd) (T : Bt mg) (F : TF K C) (M_boats_by : Mf K C "boats_by" "Timetable.boats_by" s_Timetable_boats_by ["self", "time"] f1 fd1)
    (G_boats_by : FnOk P w K mg base CX0 3 f1 fd1 ["self", "time"] (spBy K C)) (D_count_brought : Df K mg "count_brought" s_count_brought ["sources", "boats"] f2 fd2) : FnOk P w K mg base CX0 4 f fd ["self", "place", "time"] (spJd K C) := by
  have G_count_brought : FnOk P w K mg base CX0 1 f2 fd2 _ _ := ok_count_brought D_count_brought T
  refine D.F.ok sc_Timetable_joined_by (fun vs H Q E h => ?_) (fun cdv A outer s H vs Q E hr h => ?_)
  · obtain ⟨N, ls, p, qs, M, c, t, k, rfl, _⟩ := h
    rfl
  · obtain ⟨N, ls, p, qs, M, c, t, z, rfl, W, hC, hll, hc, hk, q⟩ := h
    have hu := hr.units
    have hu1 := hu_of hr
    refine ⟨_, (pss_cons (ps_if (pt_cmpR (op_eqU (K := K) hu) (pv 1) pe_int (nomark _)) (pss_one (ps_ret (pv 2))) pss_nil)
      (pss_one (ps_ret (pe_call (G_count_brought) (hr.mono (by decide)) rfl D_count_brought.g D_count_brought.F.kp D_count_brought.b .nil pass0 (pa_cons (pe_dget hu1 (pe_fld (pv 0) rfl) (pv 1) (fun _ _ => rfl)) (pa_cons (pe_meth (pv 0) F.c M_boats_by.m (G_boats_by) (hr.mono (by decide)) M_boats_by.b .nil pass0 (pa_cons (pv 2) pa_nil)) pa_nil)))))), ?_⟩
    have feed : z ≠ .inl 0 → rFld K (.ref M.a) "feeders" H fun x H1 => rDGet x (kV z) H1 fun x H1 => rMethO C "boats_by" (.ref M.a) H1 (spBy K C [.ref M.a, .int t] H1 (fun x_1 H1 => spBrought K [x, x_1] H1 Q E0) E0) := by
      intro hz
      have hs : (M.A z).isSome = true := (W.feed.keys _).mpr hk
      obtain ⟨d, hd⟩ := Option.isSome_iff_exists.mp hs
      refine x_fld W.ins F.c F.feeders fs_feeders (x_dget (k := z) W.fd (by rw [W.feed.val, hd]; rfl) ?_)
      refine x_meth W.ins fs_boats_by ?_
      refine ⟨N, ls, p, qs, M, c, t, rfl, W, hC, hll, hc, fun H1 l W1 e1 hl => ?_⟩
      have h40 := hC.le
      have hL := seatsOf_len (N := N) (fun s hs => (hC.st s hs).2) N.length
      refine ⟨d, l, M.G z, _, rfl, W1.feed.inn _ _ hd, SqL.of hl, ?_, fun g hg => ?_, fun H2 e2 => ?_⟩
      · have := W1.feed.lenG z
        omega
      · have h1 := W1.feed.le _ g hg
        have h2 := (mem_seatsOf.mp (W1.feed.mem _ g hg)).1
        rw [bts_len]
        omega
      · have e : brought (bts N ls t N.length) (M.G z) = jq N ls t z := by
          unfold brought jq
          rw [W1.feed.sum, if_neg hz]
          rfl
        rw [e]
        exact q H2 (W1.ex e2) (e1.trans (ExK.of e2))
    cases z with
    | inl i =>
      walk_at "run"
      by_cases hz : i = 0
      · rw [if_pos hz]
        have : jq N ls t (.inl i) = t := by
          unfold jq
          rw [if_pos (by rw [hz])]
        have q1 := q H (W.le (by omega)) (ExK.of (Ex.refl H))
        rw [this] at q1
        exact q1
      · rw [if_neg hz]
        exact feed fun e => hz (Sum.inl.inj e)
    | inr y =>
      walk_at "run"
      refine .inl ⟨rfl, _, rfl, ?_⟩
      rw [if_neg (by simp)]
      exact feed fun e => by cases e
abbrev s_Timetable_first_number : Stmt := inClass (top 57) 4
theorem sc_Timetable_first_number : FnScope ["self", "station", "boat_number"] ["self", "station", "boat_number"] (defScope s_Timetable_first_number) := ⟨rfl, rfl, rfl, by decide +kernel, rfl, by decide +kernel, by decide +kernel⟩
def spFst (K : PySem.W.Frag) (C : Addr) : Sp := fun vs H Q _ => ∃ (N : Net) (ls : List Int) (p : Int) (qs : Qs) (M : Tm) (c : Nat) (k : Nat) (n : Int), vs = [.ref M.a, .int (k : Int), .int n] ∧ TT K C N ls p qs M c H ∧ CntN N ∧ ls.length = N.length ∧ k < N.length ∧
  Q (.int ((n - 1) * ((N.getD k []).length : Int) - ls.getD k 0 + 1)) H
theorem ok_first_number {C f : Addr} {fd : FuncData} (D : Mf K C "first_number" "Timetable.first_number" s_Timetable_first_number ["self", "station", "boat_number"] f fd) (T : Bt mg) (F : TF K C) : FnOk P w K mg base CX0 1 f fd ["self", "station", "boat_number"] (spFst K C) := by
  refine D.F.ok sc_Timetable_first_number (fun vs H Q E h => ?_) (fun cdv A outer s H vs Q E hr h => ?_)
  · obtain ⟨N, ls, p, qs, M, c, k, n, rfl, _⟩ := h
    rfl
  · obtain ⟨N, ls, p, qs, M, c, k, n, rfl, W, hC, hll, hk, q⟩ := h
    refine ⟨_, (pss_one (ps_ret (pe_op (op_addU (K := K)) (pe_op op_sub (pe_op (op_mulU (K := K)) (pe_op op_sub (pv 2) pe_int) (pe_callB (call_lenU (K := K)) (by rfl) T.b_len (by decide +kernel) (pa_cons (pe_ix (ix_U (K := K)) (pe_fld (pv 0) rfl) (pv 1) (fun _ _ => rfl)) pa_nil))) (pe_ix (ix_U (K := K)) (pe_fld (pv 0) rfl) (pv 1) (fun _ _ => rfl))) pe_int))), ?_⟩
    walk_at "run"
    obtain ⟨na, ts, hv, hT, hts⟩ := NetAt.at W.net
    have hsN : N[k]? = some (N.getD k []) := by simp [List.getD_eq_getElem?_getD, hk]
    obtain ⟨sv, hsv, hsd⟩ := hts.get (i := k) (d := stD (N.getD k [])) (by rw [List.getElem?_map, hsN]; rfl)
    obtain ⟨sb, rfl, hB⟩ := StAt.at hsd
    refine x_fld W.ins F.c F.network fs_network ?_
    rw [hv]
    refine x_ixT hT (atI_nat hsv) (x_lenT hB ?_)
    rw [List.length_map]
    have h8 := (hC.st _ (List.mem_of_getElem? hsN)).2
    walk_at "run"
    refine ⟨.inr ⟨by omega, by omega⟩, ?_⟩
    refine x_fld W.ins F.c F.lengths fs_lengths (x_ixL (SqL.of W.len) (v := .int (ls.getD k 0)) (atI_nat (by simp [List.getD_eq_getElem?_getD, hll, hk])) ?_)
    walk_at "run"
    exact q
end
/-! Timetable: time_of -/
section
variable {P : Program} {w : World} {K : PySem.W.Frag} {mg : Str → Option Value} {base : Heap}
abbrev s_Timetable_time_of : Stmt := inClass (top 57) 3
theorem sc_Timetable_time_of : FnScope ["self", "place", "number", "step", "before"] ["self", "place", "number"] (defScope s_Timetable_time_of) := ⟨rfl, rfl, rfl, by decide +kernel, rfl, by decide +kernel, by decide +kernel⟩
/-- the number that stands in a slot -/
def slotI (σ : L2.St) (i : Nat) : Int := match σ[i]? with
  | some (some (.int n)) => n
  | _ => 0
theorem pow_lt60 {i : Nat} (h : (2 : Int) ^ i < 1000000000000000000000000000) : i < 90 := by
  by_cases e : i < 90
  · exact e
  · have h1 : (2 : Nat) ^ 90 ≤ 2 ^ i := Nat.pow_le_pow_right (by decide) (by omega)
    have h2 : ((2 ^ i : Nat) : Int) = (2 : Int) ^ i := by simp
    have h3 : (1000000000000000000000000000 : Nat) ≤ 2 ^ 90 := by decide
    omega
def spTime (K : PySem.W.Frag) (C : Addr) : Sp := fun vs H Q _ => ∃ (N : Net) (ls : List Int) (p : Int) (qs : Qs) (M : Tm) (c : Nat) (z : Key) (n T0 : Int), vs = [.ref M.a, kV z, .int n] ∧ TT K C N ls p qs M c H ∧ CntN N ∧ Lens N ls ∧ Fw N ∧ c < 890000 ∧ PlIn N z ∧ 1 ≤ n ∧ n ≤ jq N ls T0 z ∧ 0 ≤ T0 ∧ T0 ≤ 1000000000000000000000000000 ∧
  ∀ H' t, TT K C N ls p qs M (c + 200) H' → ExK M H H' → 1 ≤ t → t ≤ T0 → jq N ls (t - 1) z < n → n ≤ jq N ls t z → Q (.int t) H'
theorem ok_time_of {C f f1 : Addr} {fd fd1 : FuncData} (D : Mf K C "time_of" "Timetable.time_of" s_Timetable_time_of ["self", "place", "number"] f fd) (F : TF K C) (M_joined_by : Mf K C "joined_by" "Timetable.joined_by" s_Timetable_joined_by ["self", "place", "time"] f1 fd1)
    (G_joined_by : FnOk P w K mg base CX0 4 f1 fd1 ["self", "place", "time"] (spJd K C)) : FnOk P w K mg base CX0 5 f fd ["self", "place", "number"] (spTime K C) := by
  refine D.F.ok sc_Timetable_time_of (fun vs H Q E h => ?_) (fun cdv A outer s H vs Q E hr h => ?_)
  · obtain ⟨N, ls, p, qs, M, c, z, n, T0, rfl, _⟩ := h
    rfl
  · obtain ⟨N, ls, p, qs, M, c, z, n, T0, rfl, W, hC, L, fw, hc, hk, hn, hnT, hT0, hT1, q⟩ := h
    have hu := hr.units
    have mono : ∀ {t u : Int}, t ≤ u → jq N ls t z ≤ jq N ls u z := fun h => jq_mono fw L.pos h _
    obtain ⟨zv, hzv⟩ : ∃ zv, zv = kV z := ⟨_, rfl⟩
    rw [← hzv]
    refine ⟨_, (pss_cons (ps_set (i := 3) sc_Timetable_time_of.nd rfl (Or.inl rfl) pe_int)
      (pss_cons (ps_while PassesOwn.never (pt_cmpR (op_ltU) (pe_meth (pv 0) F.c M_joined_by.m (G_joined_by) (hr.mono (by decide)) M_joined_by.b .nil pass0 (pa_cons (pv 1) (pa_cons (pv 3) pa_nil))) (pv 2) (nomark _)) (pss_one (ps_set (i := 3) sc_Timetable_time_of.nd rfl (Or.inl rfl) (pe_op (op_mulU (K := K)) pe_int (pv 3)))))
      (pss_cons (ps_set (i := 4) sc_Timetable_time_of.nd rfl (Or.inl rfl) pe_int)
      (pss_cons (ps_while PassesOwn.never (pt_cmpR (op_gtU) (pv 3) pe_int (nomark _)) (pss_cons (ps_if (pt_cmpR (op_ltU) (pe_meth (pv 0) F.c M_joined_by.m (G_joined_by) (hr.mono (by decide)) M_joined_by.b .nil pass0 (pa_cons (pv 1) (pa_cons (pe_op (op_addU (K := K)) (pv 4) (pv 3)) pa_nil))) (pv 2) (nomark _)) (pss_one (ps_aug (i := 4) sc_Timetable_time_of.nd rfl (Or.inl rfl) (pv 3) ip_add)) pss_nil)
      (pss_one (ps_set (i := 3) sc_Timetable_time_of.nd rfl (Or.inl rfl) (pe_op op_fdivN (pv 3) pe_int)))))
      (pss_one (ps_ret (pe_op (op_addU (K := K)) (pv 4) pe_int))))))), ?_⟩
    walk_at "run"
    refine while_raw (fun σ H' => ∃ i : Nat, σ = [some (.ref M.a), some zv, some (.int n), some (.int ((2 : Int) ^ i)), none] ∧ TT K C N ls p qs M (c + i) H' ∧ ExK M H H' ∧ i ≤ 90) (fun σ _ => (4000000000000000000000000000 - slotI σ 3).toNat) ⟨0, by rw [Int.pow_zero], W, ExK.of (Ex.refl H), by decide⟩ ?_
    rintro σ H1 ⟨i, rfl, W1, e1, hi⟩ R hT hF
    walk_at "run"
    refine x_meth W1.ins fs_joined_by ?_
    refine ⟨N, ls, p, qs, M, c + i, (2 : Int) ^ i, z, by rw [hzv], W1, hC, L.len, by omega, hk, fun H2 W2 e2 => ?_⟩
    walk_at "run"
    have e12 := e1.trans e2
    have hpos : (1 : Int) ≤ 2 ^ i := by
      have : 0 < 2 ^ i := Nat.pow_pos (n := i) (show 0 < 2 by decide)
      have h2 : ((2 ^ i : Nat) : Int) = (2 : Int) ^ i := by simp
      omega
    by_cases hlt : jq N ls ((2 : Int) ^ i) z < n
    · rw [decide_eq_true hlt]
      have hst : (2 : Int) ^ i < T0 := Int.not_le.mp fun h => by
        have := mono h
        omega
      refine hT H2 ?_
      walk_at "run"
      refine ⟨.inl ⟨by decide, by decide⟩, ⟨i + 1, by rw [Int.pow_succ, Int.mul_comm], W2, e12, ?_⟩, ?_⟩
      · have := pow_lt60 (show (2 : Int) ^ i < 1000000000000000000000000000 by omega)
        omega
      · show (4000000000000000000000000000 - 2 * (2 : Int) ^ i).toNat < (4000000000000000000000000000 - (2 : Int) ^ i).toNat
        omega
    · rw [decide_eq_false hlt]
      refine hF H2 ?_
      walk_at "run"
      have hj0 := jq_zero fw L z
      refine while_raw (fun σ H' => ∃ (st bf : Int) (u : Nat), σ = [some (.ref M.a), some zv, some (.int n), some (.int st), some (.int bf)] ∧ TT K C N ls p qs M (c + u) H' ∧ ExK M H H' ∧ 0 ≤ bf ∧ jq N ls bf z < n ∧
        ((∃ i : Nat, st = (2 : Int) ^ i ∧ u + i ≤ 190 ∧ n ≤ jq N ls (bf + 2 * st) z) ∨ (st = 0 ∧ u ≤ 191 ∧ n ≤ jq N ls (bf + 1) z))) (fun σ _ => (slotI σ 3).toNat)
        ⟨(2 : Int) ^ i, 0, i + 1, rfl, W2, e12, by decide, by omega, .inl ⟨i, rfl, by omega, Int.le_trans (Int.not_lt.mp hlt) (mono (by omega))⟩⟩ ?_
      rintro σ H3 ⟨st, bf, u, rfl, W3, e3, hb0, hbn, hor⟩ R hT hF
      walk_at "run"
      rcases hor with ⟨i2, rfl, hu2, hn2⟩ | ⟨rfl, hu2, hn2⟩
      · have hpos2 : (1 : Int) ≤ 2 ^ i2 := by
          have : 0 < 2 ^ i2 := Nat.pow_pos (n := i2) (show 0 < 2 by decide)
          have h2 : ((2 ^ i2 : Nat) : Int) = (2 : Int) ^ i2 := by simp
          omega
        rw [decide_eq_true (show (0 : Int) < 2 ^ i2 by omega)]
        refine hT H3 ?_
        walk_at "run"
        refine x_meth W3.ins fs_joined_by ?_
        refine ⟨N, ls, p, qs, M, c + u, bf + (2 : Int) ^ i2, z, by rw [hzv], W3, hC, L.len, by omega, hk, fun H4 W4 e4 => ?_⟩
        walk_at "run"
        have e34 := e3.trans e4
        have fin : ∀ bf2 : Int, 0 ≤ bf2 → jq N ls bf2 z < n → n ≤ jq N ls (bf2 + (2 : Int) ^ i2) z → (∃ (st bf : Int) (u : Nat), [some (V.ref M.a), some zv, some (.int n), some (.int (((2 : Int) ^ i2).fdiv 2)), some (.int bf2)] = [some (V.ref M.a), some zv, some (.int n), some (.int st), some (.int bf)] ∧ TT K C N ls p qs M (c + u) H4 ∧ ExK M H H4 ∧ 0 ≤ bf ∧ jq N ls bf z < n ∧
            ((∃ i : Nat, st = (2 : Int) ^ i ∧ u + i ≤ 190 ∧ n ≤ jq N ls (bf + 2 * st) z) ∨ (st = 0 ∧ u ≤ 191 ∧ n ≤ jq N ls (bf + 1) z))) ∧ (((2 : Int) ^ i2).fdiv 2).toNat < ((2 : Int) ^ i2).toNat := fun bf2 h1 h2 h3 => by
          rw [Int.fdiv_eq_ediv_of_nonneg _ (by decide)]
          refine ⟨?_, by omega⟩
          cases i2 with
          | zero => exact ⟨_, bf2, u + 1, rfl, W4, e34, h1, h2, .inr ⟨by decide, by omega, by rw [Int.pow_zero] at h3; exact h3⟩⟩
          | succ i3 =>
            have e : (2 : Int) ^ (i3 + 1) / 2 = 2 ^ i3 := by
              rw [Int.pow_succ]
              omega
            refine ⟨_, bf2, u + 1, rfl, W4, e34, h1, h2, .inl ⟨i3, e, by omega, ?_⟩⟩
            rw [e]
            rw [Int.pow_succ] at h3
            rw [Int.mul_comm 2]
            exact h3
        by_cases h5 : jq N ls (bf + (2 : Int) ^ i2) z < n
        · rw [if_pos h5]
          refine ⟨⟨by decide, by decide⟩, fin _ (by omega) h5 ?_⟩
          have : bf + (2 : Int) ^ i2 + (2 : Int) ^ i2 = bf + 2 * 2 ^ i2 := by omega
          rw [this]
          exact hn2
        · rw [if_neg h5]
          exact ⟨⟨by decide, by decide⟩, fin _ hb0 hbn (Int.not_lt.mp h5)⟩
      · rw [decide_eq_false (by decide)]
        refine hF H3 ?_
        walk_at "run"
        have hbT : bf < T0 := Int.not_le.mp fun h => by
          have := mono h
          omega
        exact q H3 (bf + 1) (W3.le (by omega)) e3 (by omega) (by omega) (by rw [Int.add_sub_cancel]; exact hbn) hn2
end
local macro_rules | `(tactic| walk_at "run") => `(tactic| try simp only [tSeq, tAsg, tVar, tC, gName, L2.start, List.map_cons, List.map_nil, List.cons_append, List.nil_append, List.length_cons, List.length_nil, List.replicate, List.getElem?_cons_zero, List.getElem?_cons_succ, Option.some.injEq, exists_eq_left', List.set_cons_zero, List.set_cons_succ, V.ref.injEq, tRet, x_tLst, x_tTup, tCons, tCB, tNil, tOp, x_addI, x_mulI, x_rI, x_rI0, x_ltI, x_leI, x_ltS, x_leS, x_eqI, x_neI, x_eqS, x_eqB, x_neB, x_isiI, x_isiS, x_int, x_max, x_min, cxOf, tIfS, tNext, tTest, V.bl.injEq, decide_eq_true_eq, gSub, tAnd, tOr, tNot, tB, tDrop, tBM, x_tFor, iRng1, iList, iTup, x_tLc, tYes, tCall, tIf, tAndV, tOrV, tNotV, tChain, List.append_nil, tUn, if_true, wipe, true_and, x_never, iU, x_itS, kV, Nat.reduceAdd, Nat.reduceSub, List.replicate_zero, x_rU, x_tMkO, iEnumT, x_tDc, x_tDGet, x_tDGet2, x_sDPut, x_tDSetd, x_tDNewK, x_iItems, x_iZip, x_tSAddK, x_tLockV, x_tTupRg, x_tRg2, tPar, tPar3, tBM0, tSl, tNoPart, tPart, x_tSetAdd, x_tDIn, x_iKeys, x_iZipX, x_iZip3, iRevR, tRg1, x_tFld, x_tMeth, x_sFld, x_tMake, tAug, x_ipI, x_tDNotIn])
/-! nobody comes twice: how many come to a station at most; labels -/
section
variable {N : Net} {ls : List Int}
def totS (f : Nat → Int) : Seats → Int
  | [] => 0
  | (i, _) :: r => f i + totS f r
theorem totS_append {f : Nat → Int} : ∀ {a b : Seats}, totS f (a ++ b) = totS f a + totS f b
  | [], b => by show totS f b = 0 + totS f b; omega
  | (i, p) :: r, b => by
    show f i + totS f (r ++ b) = f i + totS f r + totS f b
    rw [totS_append]; omega
def sumJ (f : Nat → Int) (L : Seats) : Nat → Int
  | 0 => 0
  | m + 1 => sumJ f L m + toQ f (.inl ((m + 1 : Nat) : Int)) L
theorem sumJ_nil {f : Nat → Int} : ∀ m, sumJ f [] m = 0
  | 0 => rfl
  | m + 1 => by
    show sumJ f [] m + 0 = 0
    rw [sumJ_nil]; rfl
theorem sumJ_cons {f : Nat → Int} {i : Nat} {p : Key} {r : Seats} (h : 0 ≤ f i) : ∀ m, (sumJ f ((i, p) :: r) m ≤ sumJ f r m + f i) ∧ ((∀ j : Nat, 1 ≤ j → j ≤ m → p ≠ .inl (j : Int)) → sumJ f ((i, p) :: r) m = sumJ f r m)
  | 0 => by
    refine ⟨?_, fun _ => rfl⟩
    show (0 : Int) ≤ 0 + f i
    omega
  | m + 1 => by
    obtain ⟨h1, h2⟩ := sumJ_cons (p := p) (r := r) h m
    have e : sumJ f ((i, p) :: r) (m + 1) = sumJ f ((i, p) :: r) m + ((if p = .inl ((m + 1 : Nat) : Int) then f i else 0) + toQ f (.inl ((m + 1 : Nat) : Int)) r) := rfl
    have e2 : sumJ f r (m + 1) = sumJ f r m + toQ f (.inl ((m + 1 : Nat) : Int)) r := rfl
    refine ⟨?_, fun hj => ?_⟩
    · by_cases hp : p = .inl ((m + 1 : Nat) : Int)
      · have := h2 fun j j1 j2 z => by
          rw [hp] at z
          have := Sum.inl.inj z
          omega
        rw [e, if_pos hp]; omega
      · rw [e, if_neg hp]; omega
    · rw [e, if_neg (hj (m + 1) (by omega) (by omega)), h2 fun j j1 j2 => hj j j1 (by omega)]; omega
theorem sumJ_le {f : Nat → Int} (m : Nat) : ∀ {L : Seats}, (∀ s ∈ L, 0 ≤ f s.1) → sumJ f L m ≤ totS f L
  | [], _ => by rw [sumJ_nil]; exact Int.le_refl _
  | (i, p) :: r, h => by
    have h1 : sumJ f ((i, p) :: r) m ≤ sumJ f r m + f i := (sumJ_cons (i := i) (p := p) (r := r) (h (i, p) (List.mem_cons_self ..)) m).1
    have h2 := sumJ_le m (L := r) fun s hs => h s (List.mem_cons_of_mem _ hs)
    show _ ≤ f i + totS f r
    omega
theorem totS_st {f : Nat → Int} {k : Nat} : ∀ {s : List Key}, totS f (stSeats k s) = (s.length : Int) * f k
  | [] => by show (0 : Int) = ((0 : Nat) : Int) * f k; omega
  | p :: r => by
    show f k + totS f (stSeats k r) = _
    rw [totS_st, List.length_cons, Int.natCast_add, Int.add_mul]
    omega
/-- the seats behind a station do not lead to it -/
theorem toQ_pre (fw : Fw N) {f : Nat → Int} {j k : Nat} (hj : j ≤ k) : ∀ {n : Nat}, k ≤ n → n ≤ N.length → toQ f (.inl (j : Int)) (seatsOf N n) = toQ f (.inl (j : Int)) (seatsOf N k)
  | 0, h1, _ => by rw [show k = 0 by omega]
  | n + 1, h1, h2 => by
    by_cases e : k = n + 1
    · rw [e]
    · rw [← toQ_pre fw hj (n := n) (by omega) (by omega)]
      show toQ f _ (seatsOf N n ++ stSeats n (N.getD n [])) = _
      rw [toQ_append]
      have : toQ f (.inl (j : Int)) (stSeats n (N.getD n [])) = 0 := toQ_nil fun s hs hq => by
        unfold stSeats at hs
        obtain ⟨p, hp, rfl⟩ := List.mem_map.mp hs
        have hq : p = .inl (j : Int) := hq
        subst hq
        have := fw n (by omega) _ hp
        omega
      rw [this]; omega
/-- the lengths of the first stations -/
def lsum (ls : List Int) : Nat → Int
  | 0 => 0
  | k + 1 => lsum ls k + ls.getD k 0
theorem lsum_le (L : Lens N ls) (h8 : ∀ k, k < N.length → (N.getD k []).length ≤ 8) : ∀ k, k ≤ N.length → 0 ≤ lsum ls k ∧ lsum ls k ≤ 8 * k
  | 0, _ => ⟨Int.le_refl _, Int.le_refl _⟩
  | k + 1, h => by
    have := lsum_le L h8 k (by omega)
    have := L.nn k (by omega)
    have := L.lt k (by omega)
    have := h8 k (by omega)
    show 0 ≤ lsum ls k + ls.getD k 0 ∧ lsum ls k + ls.getD k 0 ≤ 8 * ((k + 1 : Nat) : Int)
    omega
theorem jq_le (fw : Fw N) (L : Lens N ls) {t : Int} (ht : 0 ≤ t) {k : Nat} (hk : k < N.length) : jq N ls t (.inl (k : Int)) ≤ t + lsum ls k := by
  cases k with
  | zero =>
    unfold jq
    rw [if_pos (by rfl)]
    show t ≤ t + 0
    omega
  | succ m =>
    have nn : ∀ i, i < N.length → 0 ≤ bt N ls t i := fun i hi => by
      have h1 := bt_mono (ls := ls) fw L.pos ht i hi
      rw [bt_zero fw L i hi] at h1
      exact h1
    -- the seats of the first stations
    have h1 := sumJ_le (f := bt N ls t) (m + 1) (L := seatsOf N (m + 1)) fun s hs => nn _ (by
      obtain ⟨i, q⟩ := s
      have := (mem_seatsOf.mp hs).1
      show i < _
      omega)
    have hJ : ∀ j : Nat, 1 ≤ j → j ≤ m + 1 → toQ (bt N ls t) (.inl (j : Int)) (seatsOf N (m + 1)) = jq N ls t (.inl (j : Int)) := fun j j1 j2 => by
      unfold jq
      rw [if_neg (by simp; omega), toQ_pre fw j2 (n := N.length) (by omega) (Nat.le_refl _)]
    have hT : ∀ n, n ≤ m + 1 → totS (bt N ls t) (seatsOf N n) ≤ lsum ls n + (if n = 0 then 0 else t) + sumJ (bt N ls t) (seatsOf N (m + 1)) (n - 1) := by
      intro n
      induction n with
      | zero =>
        intro _
        show (0 : Int) ≤ 0 + 0 + 0
        omega
      | succ n ih =>
        intro hn
        have ih := ih (by omega)
        have w := (wt_lt (t := t) fw L (k := n) (by omega)).1
        unfold wt at w
        have e1 : totS (bt N ls t) (seatsOf N (n + 1)) = totS (bt N ls t) (seatsOf N n) + ((N.getD n []).length : Int) * bt N ls t n := by
          show totS _ (seatsOf N n ++ stSeats n (N.getD n [])) = _
          rw [totS_append, totS_st]
        have e2 : lsum ls (n + 1) = lsum ls n + ls.getD n 0 := rfl
        rw [e1, e2, if_neg (by omega)]
        rw [Int.mul_comm] at w
        cases n with
        | zero =>
          have j0 : jq N ls t (.inl ((0 : Nat) : Int)) = t := by
            unfold jq
            rw [if_pos (by rfl)]
          rw [j0] at w
          rw [if_pos rfl] at ih
          have e3 : sumJ (bt N ls t) (seatsOf N (m + 1)) (0 - 1) = 0 := rfl
          have e4 : sumJ (bt N ls t) (seatsOf N (m + 1)) (0 + 1 - 1) = 0 := rfl
          omega
        | succ n =>
          rw [if_neg (by omega)] at ih
          have e3 : sumJ (bt N ls t) (seatsOf N (m + 1)) (n + 1 + 1 - 1) = sumJ (bt N ls t) (seatsOf N (m + 1)) n + toQ (bt N ls t) (.inl ((n + 1 : Nat) : Int)) (seatsOf N (m + 1)) := rfl
          have e4 : sumJ (bt N ls t) (seatsOf N (m + 1)) (n + 1 - 1) = sumJ (bt N ls t) (seatsOf N (m + 1)) n := rfl
          rw [hJ (n + 1) (by omega) (by omega)] at e3
          omega
    have h2 := hT (m + 1) (Nat.le_refl _)
    have e5 : sumJ (bt N ls t) (seatsOf N (m + 1)) (m + 1) = sumJ (bt N ls t) (seatsOf N (m + 1)) m + toQ (bt N ls t) (.inl ((m + 1 : Nat) : Int)) (seatsOf N (m + 1)) := rfl
    have e6 : sumJ (bt N ls t) (seatsOf N (m + 1)) (m + 1 - 1) = sumJ (bt N ls t) (seatsOf N (m + 1)) m := rfl
    rw [hJ (m + 1) (by omega) (Nat.le_refl _)] at e5
    rw [if_neg (by omega)] at h2
    omega
/-- the labels of those who wait at a station at a time -/
def lab (N : Net) (ls : List Int) (t : Int) (k : Nat) : List (Int × Int) := (List.range (wt N ls t k).toNat).map fun (i : Nat) => ((k : Int), bt N ls t k * ((N.getD k []).length : Int) - ls.getD k 0 + 1 + (i : Int))
theorem lab_len (fw : Fw N) (L : Lens N ls) {t : Int} {k : Nat} (hk : k < N.length) : ((lab N ls t k).length : Int) = wt N ls t k := by
  unfold lab
  have := (wt_lt (t := t) fw L hk).1
  rw [List.length_map, List.length_range]
  omega
/-- what a label of a time says: a station, a number that somebody has there by then -/
structure LabOk (N : Net) (ls : List Int) (t : Int) (x : Int × Int) : Prop where
  st : ∃ k : Nat, k < N.length ∧ x.1 = (k : Int) ∧ 1 - ls.getD k 0 ≤ x.2 ∧ x.2 ≤ jq N ls t (.inl (k : Int))
theorem lab_ok (fw : Fw N) (L : Lens N ls) {t : Int} (ht : 0 ≤ t) {k : Nat} (hk : k < N.length) : ∀ x ∈ lab N ls t k, x.1 = (k : Int) ∧ 1 - ls.getD k 0 ≤ x.2 ∧ x.2 ≤ jq N ls t (.inl (k : Int)) := fun x hx => by
  unfold lab at hx
  obtain ⟨i, hi, rfl⟩ := List.mem_map.mp hx
  have hi := List.mem_range.mp hi
  have h1 := bt_mono (ls := ls) fw L.pos ht k hk
  rw [bt_zero fw L k hk] at h1
  have h2 : 0 ≤ bt N ls t k * ((N.getD k []).length : Int) := Int.mul_nonneg h1 (by omega)
  have w := (wt_lt (t := t) fw L hk).1
  have e : wt N ls t k = ls.getD k 0 + jq N ls t (.inl (k : Int)) - bt N ls t k * ((N.getD k []).length : Int) := rfl
  refine ⟨rfl, ?_, ?_⟩
  · show 1 - ls.getD k 0 ≤ bt N ls t k * ((N.getD k []).length : Int) - ls.getD k 0 + 1 + (i : Int)
    omega
  · show bt N ls t k * ((N.getD k []).length : Int) - ls.getD k 0 + 1 + (i : Int) ≤ _
    omega
end
local macro_rules | `(tactic| walk_at "run") => `(tactic| try simp only [tSeq, tAsg, tVar, tC, gName, L2.start, List.map_cons, List.map_nil, List.cons_append, List.nil_append, List.length_cons, List.length_nil, List.replicate, List.getElem?_cons_zero, List.getElem?_cons_succ, Option.some.injEq, exists_eq_left', List.set_cons_zero, List.set_cons_succ, V.ref.injEq, tRet, x_tLst, x_tTup, tCons, tCB, tNil, tOp, x_addI, x_mulI, x_rI, x_rI0, x_ltI, x_leI, x_ltS, x_leS, x_eqI, x_neI, x_eqS, x_eqB, x_neB, x_isiI, x_isiS, x_int, x_max, x_min, cxOf, tIfS, tNext, tTest, V.bl.injEq, decide_eq_true_eq, gSub, tAnd, tOr, tNot, tB, tDrop, tBM, x_tFor, iRng1, iList, iTup, x_tLc, tYes, tCall, tIf, tAndV, tOrV, tNotV, tChain, List.append_nil, tUn, if_true, wipe, true_and, x_never, iU, x_itS, kV, Nat.reduceAdd, Nat.reduceSub, List.replicate_zero, x_rU, x_tMkO, iEnumT, x_tDc, x_tDGet, x_tDGet2, x_sDPut, x_tDSetd, x_tDNewK, x_iItems, x_iZip, x_tSAddK, x_tLockV, x_tTupRg, x_tRg2, tPar, tPar3, tBM0, tSl, tNoPart, tPart, x_tSetAdd, x_tDIn, x_iKeys, x_iZipX, x_iZip3, iRevR, tRg1, x_tFld, x_tMeth, x_sFld, x_tMake, tAug, x_ipI, x_tDNotIn, iRng2, iRng2W])
/-! Timetable: labels -/
def pdL (x : Int × Int) : PyData := .tuple [.int x.1, .int x.2]
theorem pdL_t : PD pdL := ⟨fun x => .tup fun d hd => by
  simp only [List.mem_cons, List.not_mem_nil, or_false] at hd
  rcases hd with rfl | rfl
  · exact .int _
  · exact .int _⟩
section
variable {P : Program} {w : World} {K : PySem.W.Frag} {mg : Str → Option Value} {base : Heap}
abbrev s_Timetable_labels : Stmt := inClass (top 57) 6
theorem sc_Timetable_labels : FnScope ["self", "station", "time", "first", "number"] ["self", "station", "time"] (defScope s_Timetable_labels) := ⟨rfl, rfl, rfl, by decide +kernel, rfl, by decide +kernel, by decide +kernel⟩
def spLab (K : PySem.W.Frag) (C : Addr) : Sp := fun vs H Q _ => ∃ (N : Net) (ls : List Int) (p : Int) (qs : Qs) (M : Tm) (c k : Nat) (t : Int), vs = [.ref M.a, .int (k : Int), .int t] ∧ TT K C N ls p qs M c H ∧ CntN N ∧ Lens N ls ∧ Fw N ∧ c < 890000 ∧ k < N.length ∧ 0 ≤ t ∧ t ≤ 1000000000000000000000000000 ∧
  ∀ H' l, TT K C N ls p qs M (c + 2) H' → ExK M H H' → Dp K H' (.ref l) (qA pdL (lab N ls t k)) → Q (.ref l) H'
theorem ok_labels {C f f1 f2 f3 : Addr} {fd fd1 fd2 fd3 : FuncData} (D : Mf K C "labels" "Timetable.labels" s_Timetable_labels ["self", "station", "time"] f fd) (T : Bt mg) (F : TF K C) (M_boats_by : Mf K C "boats_by" "Timetable.boats_by" s_Timetable_boats_by ["self", "time"] f1 fd1)
    (G_boats_by : FnOk P w K mg base CX0 3 f1 fd1 ["self", "time"] (spBy K C)) (M_joined_by : Mf K C "joined_by" "Timetable.joined_by" s_Timetable_joined_by ["self", "place", "time"] f2 fd2) (G_joined_by : FnOk P w K mg base CX0 4 f2 fd2 ["self", "place", "time"] (spJd K C))
    (M_first_number : Mf K C "first_number" "Timetable.first_number" s_Timetable_first_number ["self", "station", "boat_number"] f3 fd3) : FnOk P w K mg base CX0 5 f fd ["self", "station", "time"] (spLab K C) := by
  have G_first_number : FnOk P w K mg base CX0 1 f3 fd3 _ _ := ok_first_number M_first_number T F
  refine D.F.ok sc_Timetable_labels (fun vs H Q E h => ?_) (fun cdv A outer s H vs Q E hr h => ?_)
  · obtain ⟨N, ls, p, qs, M, c, k, t, rfl, _⟩ := h
    rfl
  · obtain ⟨N, ls, p, qs, M, c, k, t, rfl, W, hC, L, fw, hc, hk, ht0, ht1, q⟩ := h
    have hu := hr.units
    refine ⟨_, (pss_cons (ps_set (i := 3) sc_Timetable_labels.nd rfl (Or.inl rfl) (pe_meth (pv 0) F.c M_first_number.m (G_first_number) (hr.mono (by decide)) M_first_number.b .nil pass0 (pa_cons (pv 1) (pa_cons (pe_op (op_addU (K := K)) (pe_ix (ix_U (K := K)) (pe_meth (pv 0) F.c M_boats_by.m (G_boats_by) (hr.mono (by decide)) M_boats_by.b .nil pass0 (pa_cons (pv 2) pa_nil)) (pv 1) (fun _ _ => rfl)) pe_int) pa_nil))))
      (pss_one (ps_ret (pe_callTy (call_tupU (K := K)) (by rfl) T.b_tuple (by decide +kernel) (pa_cons (pe_lc (own := [("number", 4)]) (g := gName 4) (tt := tYes) rfl sc_Timetable_labels.nd (pi_range2W (by rfl) T.b_range (pa_cons (pv 3) (pa_cons (pe_op (op_addU (K := K)) (pe_meth (pv 0) F.c M_joined_by.m (G_joined_by) (hr.mono (by decide)) M_joined_by.b .nil pass0 (pa_cons (pv 1) (pa_cons (pv 2) pa_nil))) pe_int) pa_nil))) (blkOk_by (own := [("number", 4)]) (N := ["self", "station", "time", "first", "number"]) (sc := defScope s_Timetable_labels) (by decide +kernel)) (fun _ _ _ _ _ => (pg_name (i := 4) sc_Timetable_labels.nd rfl (Or.inl rfl))) (fun _ _ _ _ _ => pts_nil) (fun _ _ _ _ _ => (pe_tup (pa_cons (pv 1) (pa_cons (pv 4) pa_nil))))) pa_nil))))), ?_⟩
    walk_at "run"
    refine x_meth W.ins fs_first_number (x_meth W.ins fs_boats_by ?_)
    refine ⟨N, ls, p, qs, M, c, t, rfl, W, hC, L.len, by omega, fun H1 l1 W1 e1 h1 => ?_⟩
    refine x_ixL (SqL.of h1) (v := .int (bt N ls t k)) (atI_nat (by rw [List.getElem?_map]; unfold bt; simp [List.getD_eq_getElem?_getD, bts_len, hk])) ?_
    walk_at "run"
    refine ⟨N, ls, p, qs, M, c + 1, k, bt N ls t k + 1, rfl, W1, hC, L.len, hk, ?_⟩
    rw [Int.add_sub_cancel]
    refine x_meth W1.ins fs_joined_by ?_
    refine ⟨N, ls, p, qs, M, c + 1, t, .inl (k : Int), rfl, W1, hC, L.len, by omega, .inl ⟨k, hk, rfl⟩, fun H2 W2 e2 => ?_⟩
    walk_at "run"
    have hJ := jq_le fw L ht0 hk
    have h8 : ∀ k, k < N.length → (N.getD k []).length ≤ 8 := fun k hk => (hC.st _ (List.mem_of_getElem? (show N[k]? = some (N.getD k []) by simp [List.getD_eq_getElem?_getD, hk]))).2
    have hls := lsum_le L h8 k (by omega)
    have h40 := hC.le
    have w := wt_lt (t := t) fw L hk
    have hb1 := bt_mono (ls := ls) fw L.pos ht0 k hk
    rw [bt_zero fw L k hk] at hb1
    have hb2 : 0 ≤ bt N ls t k * ((N.getD k []).length : Int) := Int.mul_nonneg hb1 (by omega)
    have hl0 := L.lt k hk
    have hl1 := h8 k hk
    have ew : wt N ls t k = ls.getD k 0 + jq N ls t (.inl (k : Int)) - bt N ls t k * ((N.getD k []).length : Int) := rfl
    have eLab : (lab N ls t k).map pdL = (List.range (wt N ls t k).toNat).map fun (i : Nat) => pdL ((k : Int), bt N ls t k * ((N.getD k []).length : Int) - ls.getD k 0 + 1 + (i : Int)) := by
      unfold lab
      rw [List.map_map]; rfl
    obtain ⟨fst, hf⟩ : ∃ z, z = bt N ls t k * ((N.getD k []).length : Int) - ls.getD k 0 + 1 := ⟨_, rfl⟩
    rw [← hf] at eLab ⊢
    refine ⟨fst, _, rfl, ?_⟩
    rw [show (jq N ls t (.inl (k : Int)) + 1 - fst).toNat = (wt N ls t k).toNat by omega]
    refine lcl_it walk_range (fun D i H' => Ex H2 H' ∧ LsAt K H' D ((List.range i).map fun (j : Nat) => pdL ((k : Int), fst + (j : Int)))) (fun D H' hD e h => ⟨e, ⟨⟨[], h, .nil⟩⟩⟩) (fun D i H' _ _ => trivial) ?_ ?_
    · rintro D i x H3 H3' hD hi ⟨e3, hL⟩ ⟨eH, rfl⟩
      subst eH
      walk_at "run"
      refine x_tup (by simp) fun a4 H4 n4 e4 h4 => ?_
      obtain ⟨xs, hxs, hxd⟩ := (hL.ex2 e4).ex
      have hxl : xs.length = i := by rw [hxd.len, List.length_map, List.length_range]
      refine x_push hxs (by omega) fun H5 e5 h5 => ⟨fun o u h => e5 _ _ (ne_of_none h hD) (e4 _ _ (e3 _ _ h)), ⟨⟨_, h5, ?_⟩⟩⟩
      have t5 : TX H4 H5 := TX.but hxs e5
      rw [List.range_succ, List.map_append]
      exact DpAll.append (DpAll.tx t5 hxd fun d hd => by
        obtain ⟨j, _, rfl⟩ := List.mem_map.mp hd
        exact pdL_t.t _) (.cons (Dp.tx t5 (show Dp K H4 (.ref a4) (pdL ((k : Int), fst + (i : Int))) from .tup (SqT.of h4) (.cons (.int _) (.cons (.int _) .nil))) (pdL_t.t _)) .nil)
    · rintro D H3 hD ⟨e3, hL⟩
      walk_at "run"
      obtain ⟨xs, hxs, hxd⟩ := hL.ex
      refine x_tupL (SqL.of hxs) fun l4 H4 n4 e4 h4 => ?_
      refine q H4 l4 ((W2.ex e3).ex e4) ((e1.trans e2).trans (ExK.of (e3.trans e4))) (.tup (SqT.of h4) ?_)
      rw [eLab]
      exact DpAll.ex e4 hxd
end
end K
set_option maxHeartbeats 4000000
/-! list.extend of a tuple -/
namespace FB
open PySem PySem.Spec PyProof.Rows L2 Evl
open Sem (wp)
theorem list_extend_tup (l : Addr) (items : Array Value) (n : Nat) (b : Addr) (items2 : Array Value) (n2 : Nat) (dd : Option Addr) (sl : Array (Option Value)) (hs0 : ¬(!items.isEmpty && Builtin.List.listTooLong (items.size + items2.size)) = true) (hs1 : items.size ≤ sizeLine) (hs2 : items.size + items2.size ≤ sizeLine + 1) :
    Meets (Builtin.«list.extend» ⟨[.ref l, .ref b], []⟩) (fun _ R s => s.heap.get? l = some { cls := .type "list", dict := none, data := .seq items n, slots := #[] } ∧ s.heap.get? b = some { cls := .type "tuple", dict := dd, data := .seq items2 n2, slots := sl } ∧ R (.ok (.ret Value.none)) { s with heap := s.heap.update l (Obj.mapSeq fun x => x ++ items2), toks := s.toks }) :=
  .of_wp fun prog w A R s h => by
    obtain ⟨hp, g, d, tk, os⟩ := s; obtain ⟨hl, hb, h⟩ := h; have f1 := AutoSeq1.idx_int; have f2 := AutoSeq1.sub_tuple_tuple; have f3 := AutoSeq1.sub_list_list; have f4 := AutoSeq1.sub_tuple_list; have f5 := AutoSeq1.sub_list_tuple
    have hz' : (items ++ items2).size ≤ sizeLine + 1 := by rw [Array.size_append]; exact hs2
    wp_walk using (wpAny_updateSeq hl rfl (hz := hs1) (_hz' := hz')), AutoSeq1.wpAny_loadPart' hl, AutoSeq1.wpAny_loadPart' hb
    exact ⟨_, rfl, h⟩
/-- list.extend of a list or a tuple -/
def rExtU (K : PySem.W.Frag) : V → List V → Hp → VK → Prop := fun x vs H Q => rExtend x vs H Q ∨ ∃ l b xs zs, x = .ref l ∧ vs = [.ref b] ∧ H l = some (.lst xs) ∧ SqT K H b zs ∧ xs.length + zs.length ≤ sizeLine ∧ Q .non (upd H l (.lst (xs ++ zs)))
theorem mt_extendU {X : Cx} {K : PySem.W.Frag} (hK : X.K = K := by rfl) : MtM X "list.extend" (rExtU K) := by
  subst hK
  intro pins s σ H x vs v us Q I rx rv h
  rcases h with h | h
  · exact mt_extend pins s σ H x vs v us Q I rx rv h
  obtain ⟨l, b, xs, zs, rfl, rfl, hH, hB, hz, q⟩ := h
  cases rx
  obtain ⟨u, rfl, ru⟩ := rv.one
  cases ru
  obtain ⟨z, its, n, r, hl, e⟩ := I.lstM hH
  obtain ⟨its2, r2, ⟨⟨cls, dd, data, sl⟩, ho, hc, n2, hd⟩, hs⟩ := I.tuple hB
  simp only at hc hd
  subst hc hd
  have hl2 := r2.length
  have hsz : its.toArray.size + its2.toArray.size ≤ sizeLine := by rw [List.size_toArray, List.size_toArray]; omega
  have hlong : ¬ (!its.toArray.isEmpty && Builtin.List.listTooLong (its.toArray.size + its2.toArray.size)) = true := by
    rw [notLongL hsz, Bool.and_false]
    exact Bool.false_ne_true
  refine call_meets F.slot_list_extend ⟨_, e, rfl⟩ F.entry_list_extend (F.args_list_extend_2 _ _)
    (list_extend_tup l its.toArray n b its2.toArray n2 dd sl hlong (by rw [List.size_toArray]; omega) (by omega)) ⟨e, ho, ?_⟩
  refine ⟨.non, _, I.lset (its' := its ++ its2) hH e (by simp) (r.append r2) ?_, rfl, q⟩
  rw [List.length_append]
  omega
theorem x_extT {K : PySem.W.Frag} {H : Hp} {Q : VK} {l b : Addr} {xs zs : List V} (h1 : H l = some (.lst xs)) (h2 : SqT K H b zs) (hl : xs.length + zs.length ≤ 1000000) (k : ∀ H', (∀ x o, x ≠ l → H x = some o → H' x = some o) → H' l = some (.lst (xs ++ zs)) → Q .non H') : rExtU K (.ref l) [.ref b] H Q :=
  .inr ⟨l, b, xs, zs, rfl, rfl, h1, h2, small hl, k _ (fun x o hx h => by rw [upd_ne hx]; exact h) upd_same⟩
end FB
namespace K
open PySem PySem.Spec PyProof.Rows L2 Evl FB
local macro_rules | `(tactic| walk_at "run") => `(tactic| try simp only [tSeq, tAsg, tVar, tC, gName, L2.start, List.map_cons, List.map_nil, List.cons_append, List.nil_append, List.length_cons, List.length_nil, List.replicate, List.getElem?_cons_zero, List.getElem?_cons_succ, Option.some.injEq, exists_eq_left', List.set_cons_zero, List.set_cons_succ, V.ref.injEq, tRet, x_tLst, x_tTup, tCons, tCB, tNil, tOp, x_addI, x_mulI, x_rI, x_rI0, x_ltI, x_leI, x_ltS, x_leS, x_eqI, x_neI, x_eqS, x_eqB, x_neB, x_isiI, x_isiS, x_int, x_max, x_min, cxOf, tIfS, tNext, tTest, V.bl.injEq, decide_eq_true_eq, gSub, tAnd, tOr, tNot, tB, tDrop, tBM, x_tFor, iRng1, iList, iTup, x_tLc, tYes, tCall, tIf, tAndV, tOrV, tNotV, tChain, List.append_nil, tUn, if_true, wipe, true_and, x_never, iU, x_itS, kV, Nat.reduceAdd, Nat.reduceSub, List.replicate_zero, x_rU, x_tMkO, iEnumT, x_tDc, x_tDGet, x_tDGet2, x_sDPut, x_tDSetd, x_tDNewK, x_iItems, x_iZip, x_tSAddK, x_tLockV, x_tTupRg, x_tRg2, tPar, tPar3, tBM0])
section
variable {P : Program} {w : World} {K : PySem.W.Frag} {mg : Str → Option Value} {base : Heap} {α : Type} [Inhabited α] {pd : α → PyData}
abbrev s_join_queue : Stmt := top 29
theorem sc_join_queue : FnScope ["network", "queues", "station", "passenger", "events"] ["network", "queues", "station", "passenger", "events"] (defScope s_join_queue) := ⟨rfl, rfl, rfl, by decide +kernel, rfl, by decide +kernel, by decide +kernel⟩
abbrev s_depart : Stmt := top 30
theorem sc_depart : FnScope ["network", "queues", "station", "events", "passengers", "place", "passenger"] ["network", "queues", "station", "events"] (defScope s_depart) := ⟨rfl, rfl, rfl, by decide +kernel, rfl, by decide +kernel, by decide +kernel⟩
/-- a passenger joins a queue of the package -/
def spJoinP (K : PySem.W.Frag) (pd : α → PyData) (f : Nat) : Sp := fun vs H Q _ => ∃ (v x : V) (N : Net) (Qa Ea : Addr) (qs : QsA α) (es : EvsA α) (j : Nat) (p : α), vs = [v, .ref Qa, .int (j : Int), x, .ref Ea] ∧ NetAt K H v N ∧ JN N ∧ Dp K H x (pd p) ∧ QtAt K H Qa pd qs ∧ EvAt K H Ea pd es ∧ Qa ≠ Ea ∧
  Short N qs ∧ j < N.length ∧ N.length ≤ j + f ∧ es.length + (wayW N.length 0 qs + 2 * (N.length - j)) ≤ 900000 ∧
  ∀ H', Ex2 Qa Ea H H' → QtAt K H' Qa pd (joinW N (departW N f) qs j p).1 → EvAt K H' Ea pd (es ++ (joinW N (departW N f) qs j p).2) → Q .non H'
def spDepartP (K : PySem.W.Frag) (pd : α → PyData) (f : Nat) : Sp := fun vs H Q _ => ∃ (v : V) (N : Net) (Qa Ea : Addr) (qs : QsA α) (es : EvsA α) (st : Nat), vs = [v, .ref Qa, .int (st : Int), .ref Ea] ∧ NetAt K H v N ∧ JN N ∧ QtAt K H Qa pd qs ∧ EvAt K H Ea pd es ∧ Qa ≠ Ea ∧
  qs.length = N.length ∧ (∀ k, k < N.length → k ≠ st → (qs.getD k []).length < (N.getD k []).length) ∧ (qs.getD st []).length ≤ (N.getD st []).length ∧ 1 ≤ (qs.getD st []).length ∧ st < N.length ∧ N.length ≤ st + f ∧ es.length + wayW N.length 0 qs ≤ 900000 ∧
  ∀ H', Ex2 Qa Ea H H' → QtAt K H' Qa pd (departW N f qs st).1 → EvAt K H' Ea pd (es ++ (departW N f qs st).2) → Q .non H'
theorem ok_join_queue (hp : PD pd) {f g : Addr} {fd gd : FuncData} {l n : Nat} (D : Df K mg "join_queue" s_join_queue ["network", "queues", "station", "passenger", "events"] f fd) (T : Bt mg) (D_depart : Df K mg "depart" s_depart ["network", "queues", "station", "events"] g gd)
    (G_depart : FnOk P w K mg base CX0 l g gd ["network", "queues", "station", "events"] (spDepartP K pd n)) : FnOk P w K mg base CX0 (l + 1) f fd ["network", "queues", "station", "passenger", "events"] (spJoinP K pd n) := by
  refine D.F.ok sc_join_queue (fun vs H Q E h => ?_) (fun cdv A outer s H vs Q E hr h => ?_)
  · obtain ⟨v, x, N, Qa, Ea, qs, es, j, p, rfl, _⟩ := h
    rfl
  · obtain ⟨v, x, N, Qa, Ea, qs, es, j, p, rfl, hN, hJ, hx, hQ, hE, hne, S, hj, hf, hb, q⟩ := h
    have hu := hr.units
    refine ⟨_, (pss_cons (ps_asg (pe_op (op_addU (K := K)) (pe_ix (ix_U (K := K)) (pv 1) (pv 2) (fun _ _ => rfl)) (pe_tup (pa_cons (pv 3) pa_nil))) (pg_sub (pv 1) (pv 2) set_list))
      (pss_one (ps_if (pt_cmpR (op_eqU (K := K) hu) (pe_callB (call_lenU (K := K)) (by rfl) T.b_len (by decide +kernel) (pa_cons (pe_ix (ix_U (K := K)) (pv 1) (pv 2) (fun _ _ => rfl)) pa_nil)) (pe_callB (call_lenU (K := K)) (by rfl) T.b_len (by decide +kernel) (pa_cons (pe_ix (ix_U (K := K)) (pv 0) (pv 2) (fun _ _ => rfl)) pa_nil)) (nomark _)) (pss_one (ps_expr (pe_call (G_depart) hr rfl D_depart.g D_depart.F.kp D_depart.b .nil pass0 (pa_cons (pv 0) (pa_cons (pv 1) (pa_cons (pv 2) (pa_cons (pv 4) pa_nil))))))) pss_nil))), ?_⟩
    walk_at "run"
    have hjq : j < qs.length := by rw [S.len]; exact hj
    obtain ⟨ts, b, vs, hQa, hts, htj, hbv, hvs⟩ := QtAt.get hQ hjq
    obtain ⟨vn, us, rfl, hU, hus⟩ := hN.at
    obtain ⟨h1s, h8s⟩ := hJ.st j hj
    have hlt := S.lt j hj
    have hvl : vs.length = (qs.getD j []).length := by rw [hvs.len, List.length_map]
    have htl : ts.length = qs.length := by rw [hts.len, List.length_map]
    refine x_ixL (SqL.of hQa) (atI_nat htj) (x_tup (by simp) fun t1 H1 nt1 e1 h1 => ?_)
    refine x_catT (ex_t e1 hbv) (SqT.of h1) (by simp; omega) fun t2 H2 e2 h2 => ?_
    walk_at "run"
    have hix : ixN ts.length (j : Int) = some j := by unfold ixN; rw [if_pos (by omega), if_pos (by omega)]; simp
    refine x_setL (e2 _ _ (e1 _ _ hQa)) hix fun H3 e3 h3 => ?_
    have e12 : Ex H H2 := fun x o h => e2 _ _ (e1 _ _ h)
    have t3 : TX H H3 := (TX.of e12).trans (TX.but (e2 _ _ (e1 _ _ hQa)) e3)
    have hQ3 : QtAt K H3 Qa pd (qs.set j (qs.getD j [] ++ [p])) := ⟨⟨_, h3, by
      rw [List.map_set]
      refine DpAll.set (DpAll.tx t3 hts (qs_t hp)) ?_
      unfold qA
      rw [List.map_append]
      refine .tup ((TX.but (e2 _ _ (e1 _ _ hQa)) e3).t h2) ?_
      refine DpAll.append (DpAll.tx t3 hvs fun d hd => ?_) (.cons (Dp.tx t3 hx (hp.t p)) .nil)
      obtain ⟨y, _, rfl⟩ := List.mem_map.mp hd
      exact hp.t y⟩⟩
    have hE3 : EvAt K H3 Ea pd es := hE.tx (es_t hp) t3 fun o h => e3 _ _ hne.symm (e12 _ _ h)
    have ex3 : Ex2 Qa Ea H H3 := fun x o h h1 _ => e3 _ _ h1 (e12 _ _ h)
    have htj3 : (ts.set j (.ref t2))[j]? = some (.ref t2) := by rw [List.getElem?_set_self (by omega)]
    refine x_ixL (SqL.of h3) (atI_nat htj3) (x_lenT ((TX.but (e2 _ _ (e1 _ _ hQa)) e3).t h2) ?_)
    obtain ⟨sv, hsv, hsd⟩ := hus.get (show (N.map stD)[j]? = some (stD (N.getD j [])) by simp [List.getD_eq_getElem?_getD, hj])
    obtain ⟨c, rfl, hcs⟩ := StAt.at hsd
    refine x_ixT (t3.t hU) (atI_nat hsv) (x_lenT (t3.t hcs) ?_)
    rw [List.length_map, List.length_append, show [x].length = 1 from rfl]
    walk_at "run"
    have hlen : (qs.getD j [] ++ [p]).length = (qs.getD j []).length + 1 := by simp
    by_cases e : (qs.getD j [] ++ [p]).length = (N.getD j []).length
    · rw [if_pos (by omega)]
      have hjw : joinW N (departW N n) qs j p = departW N n (qs.set j (qs.getD j [] ++ [p])) j := by unfold joinW; rw [if_pos e]
      rw [hjw] at q
      have hw := wayW_set (n := N.length) (qs := qs) (k := 0) (j := j) (q := qs.getD j [] ++ [p]) hjq
      rw [List.length_append, show [p].length = 1 from rfl, Nat.add_mul, Nat.zero_add, Nat.one_mul] at hw
      refine ⟨_, N, Qa, Ea, _, es, j, rfl, hN.tx t3, hJ, hQ3, hE3, hne, by rw [List.length_set]; exact S.len, fun k hk hn => by rw [getD_set' hjq, if_neg hn]; exact S.lt k hk, by rw [getD_set' hjq, if_pos rfl]; omega, by rw [getD_set' hjq, if_pos rfl]; simp, hj, hf, by omega, fun H4 ex4 hQ4 hE4 => ?_⟩
      exact q H4 (fun x o h h1 h2 => ex4 x o (ex3 x o h h1 h2) h1 h2) hQ4 hE4
    · rw [if_neg (by omega)]
      have hjw : joinW N (departW N n) qs j p = (qs.set j (qs.getD j [] ++ [p]), []) := by unfold joinW; rw [if_neg e]
      rw [hjw] at q
      exact q H3 ex3 hQ3 (by simpa using hE3)
theorem ok_depart (hp : PD pd) {f g : Addr} {fd gd : FuncData} {l n : Nat} (D : Df K mg "depart" s_depart ["network", "queues", "station", "events"] f fd) (T : Bt mg) (D_join_queue : Df K mg "join_queue" s_join_queue ["network", "queues", "station", "passenger", "events"] g gd)
    (G_join_queue : FnOk P w K mg base CX0 l g gd ["network", "queues", "station", "passenger", "events"] (spJoinP K pd n)) : FnOk P w K mg base CX0 (l + 1) f fd ["network", "queues", "station", "events"] (spDepartP K pd (n + 1)) := by
  refine D.F.ok sc_depart (fun vs H Q E h => ?_) (fun cdv A outer s H vs Q E hr h => ?_)
  · obtain ⟨v, N, Qa, Ea, qs, es, st, rfl, _⟩ := h
    rfl
  · obtain ⟨v, N, Qa, Ea, qs, es, st, rfl, hN, hJ, hQ, hE, hne, hl, hsh, hle, h1q, hst, hf, hb, q⟩ := h
    have hu := hr.units
    refine ⟨_, (pss_cons (ps_set (i := 4) sc_depart.nd rfl (Or.inl rfl) (pe_ix (ix_U (K := K)) (pv 1) (pv 2) (fun _ _ => rfl)))
      (pss_cons (ps_asg (pe_tup pa_nil) (pg_sub (pv 1) (pv 2) set_list))
      (pss_cons (ps_expr (pe_bm PySem.F.plainAttrs_list PySem.F.slot_list_append PySem.F.type_list_append mt_append (pv 3) (pa_cons (pe_tup (pa_cons (pv 2) (pa_cons (pv 4) pa_nil))) pa_nil)))
      (pss_one (ps_for PassesOwn.never rfl (RZ.pi_zipA (by rfl) T.b_zip (pa_cons (pe_ix (ix_U (K := K)) (pv 0) (pv 2) (fun _ _ => rfl)) (pa_cons (pv 4) pa_nil))) (pg_tup rfl (pgs_cons (pg_name (i := 5) sc_depart.nd rfl (Or.inl rfl)) (pgs_cons (pg_name (i := 6) sc_depart.nd rfl (Or.inl rfl)) pgs_nil))) (pss_one (ps_if (pt_val (pe_callB (call_isiU (K := K)) (by rfl) T.b_isinstance (by decide +kernel) (pa_cons (pv 5) (pa_cons (pe_bltn (v := .ty "str") (by rfl) T.b_str (by decide +kernel) rfl) pa_nil)))) (pss_one (ps_expr (pe_bm PySem.F.plainAttrs_list PySem.F.slot_list_append PySem.F.type_list_append mt_append (pv 3) (pa_cons (pe_tup (pa_cons (pv 5) (pa_cons (pe_tup (pa_cons (pv 6) pa_nil)) pa_nil))) pa_nil)))) (pss_one (ps_expr (pe_call (G_join_queue) hr rfl D_join_queue.g D_join_queue.F.kp D_join_queue.b .nil pass0 (pa_cons (pv 0) (pa_cons (pv 1) (pa_cons (pv 5) (pa_cons (pv 6) (pa_cons (pv 3) pa_nil))))))))))))))), ?_⟩
    walk_at "run"
    have hsq : st < qs.length := by omega
    obtain ⟨ts, b, vs, hQa, hts, htj, hbv, hvs⟩ := QtAt.get hQ hsq
    obtain ⟨vn, us, rfl, hU, hus⟩ := hN.at
    obtain ⟨h1s, h8s⟩ := hJ.st st hst
    have hvl : vs.length = (qs.getD st []).length := by rw [hvs.len, List.length_map]
    have htl : ts.length = qs.length := by rw [hts.len, List.length_map]
    have hix : ixN ts.length (st : Int) = some st := by unfold ixN; rw [if_pos (by omega), if_pos (by omega)]; simp
    refine x_ixL (SqL.of hQa) (atI_nat htj) (x_tup (by simp) fun t1 H1 nt1 e1 h1 => ?_)
    walk_at "run"
    refine x_setL (e1 _ _ hQa) hix fun H2 e2 h2 => ?_
    have t12 : TX H1 H2 := TX.but (e1 _ _ hQa) e2
    have t2 : TX H H2 := (TX.of e1).trans t12
    have hQ2 : QtAt K H2 Qa pd (qs.set st []) := ⟨⟨_, h2, by
      rw [List.map_set]
      exact DpAll.set (DpAll.tx t2 hts (qs_t hp)) (.tup (t12.t (SqT.of h1)) .nil)⟩⟩
    have hE2 : EvAt K H2 Ea pd es := hE.tx (es_t hp) t2 fun o h => e2 _ _ hne.symm (e1 _ _ h)
    have ex2 : Ex2 Qa Ea H H2 := fun x o h h1 _ => e2 _ _ h1 (e1 _ _ h)
    obtain ⟨eS, hEa, heS⟩ := hE2.ex
    have hel : eS.length = es.length := by rw [heS.len, List.length_map]
    refine ⟨x_tyL (SqL.of hEa), x_tup (by simp) fun t3 H3 nt3 e3 h3 => ?_⟩
    refine x_append (e3 _ _ hEa) (by omega) fun H4 e4 h4 => ?_
    have t24 : TX H2 H4 := (TX.of e3).trans (TX.but (e3 _ _ hEa) e4)
    have t4 : TX H H4 := t2.trans t24
    have hEt3 : Ea ≠ t3 := ne_of_none hEa nt3
    have hbq : Dp K H4 (.ref b) (qA pd (qs.getD st [])) := Dp.tx t4 (.tup hbv hvs) (qA_t hp _)
    have hE4 : EvAt K H4 Ea pd (es ++ [(.inl (st : Int), qs.getD st [])]) := ⟨⟨_, h4, by
      rw [List.map_append]
      refine DpAll.append (DpAll.tx t24 heS (es_t hp)) (.cons (.tup (SqT.of (e4 _ _ hEt3.symm h3)) (.cons (.int _) (.cons hbq .nil))) .nil)⟩⟩
    have hQ4 : QtAt K H4 Qa pd (qs.set st []) := hQ2.tx (qs_t hp) t24 fun o h => e4 _ _ hne (e3 _ _ h)
    have ex4 : Ex2 Qa Ea H H4 := fun x o h h1 h2 => e4 _ _ h2 (e3 _ _ (ex2 x o h h1 h2))
    obtain ⟨sv, hsv, hsd⟩ := hus.get (show (N.map stD)[st]? = some (stD (N.getD st [])) by simp [List.getD_eq_getElem?_getD, hst])
    obtain ⟨c, rfl, hcs⟩ := StAt.at hsd
    refine x_ixT (t4.t hU) (atI_nat hsv) (x_zipT (t4.t hcs) (t4.t hbv) ?_)
    have hw := wayW_set (n := N.length) (qs := qs) (k := 0) (j := st) (q := []) hsq
    rw [Nat.zero_add, List.length_nil, Nat.zero_mul] at hw
    have h1k : ∀ k, k < N.length → 1 ≤ (N.getD k []).length := fun k hk => (hJ.st k hk).1
    have S0 : Short N (qs.set st []) := ⟨by rw [List.length_set]; exact hl, fun k hk => by
      rw [getD_set' hsq]
      split
      · rename_i e; subst e; exact h1s
      · rename_i e; exact hsh k hk e⟩
    have hdep := departW_ok (α := α) h1k hJ.fw n
    have hway := departW_way (α := α) hJ.fw n
    have hzl : ((N.getD st []).zip (qs.getD st [])).length = (qs.getD st []).length := by rw [List.length_zip]; omega
    have hmem : ∀ i, ∀ m ∈ ((N.getD st []).zip (qs.getD st [])).take i, ∀ j : Int, m.1 = .inl j → (st : Int) < j ∧ j < N.length := fun i m hm j e =>
      hJ.fw st hst j (by rw [← e]; exact (List.of_mem_zip (List.mem_of_mem_take hm)).1)
    have hmn : min ((N.getD st []).map kV).length vs.length = (qs.getD st []).length := by rw [List.length_map]; omega
    refine loop_it walk_zipM (fun i σ H' => ∃ u5 u6, σ = [some (.ref vn), some (.ref Qa), some (.int (st : Int)), some (.ref Ea), some (.ref b), u5, u6] ∧ Ex2 Qa Ea H H' ∧ TX H4 H' ∧
      QtAt K H' Qa pd (moveW (α := α) N (departW N n) (((N.getD st []).zip (qs.getD st [])).take i) (qs.set st [])).1 ∧ EvAt K H' Ea pd ((es ++ [(.inl (st : Int), qs.getD st [])]) ++ (moveW (α := α) N (departW N n) (((N.getD st []).zip (qs.getD st [])).take i) (qs.set st [])).2)) ⟨_, _, rfl, ex4, TX.refl _, hQ4, by simpa [moveW] using hE4⟩
      (fun i σ H' _ ⟨_, _, _, _, t, _, _⟩ => ⟨(t4.trans t).t hcs, (t4.trans t).t hbv⟩) ?_ ?_
    · rintro i v σ H5 H6 hi ⟨u5, u6, rfl, ex5, t5, hQ5, hE5⟩ ⟨T0, x, y, rfl, hT0, rfl, hx, hy⟩
      rw [hmn] at hi
      have e6 : Ex H5 (upd H5 T0 (.tup [x, y])) := Ex.new hT0
      refine x_two (SqT.of upd_same) ?_
      generalize upd H5 T0 (.tup [x, y]) = H6 at e6
      have t6 : TX H4 H6 := t5.trans (TX.of e6)
      obtain ⟨S5, K5⟩ := moveW_ok h1k hdep (st := st) (by omega) (ms := ((N.getD st []).zip (qs.getD st [])).take i) (hmem i) S0
      obtain ⟨W5, L5⟩ := moveW_way (f := n) hway (st := st) (by omega) hst (ms := ((N.getD st []).zip (qs.getD st [])).take i) (qs := qs.set st []) (hmem i) (by rw [List.length_set]; exact hl)
      have hlen5 : (((N.getD st []).zip (qs.getD st [])).take i).length = i := by rw [List.length_take]; omega
      rw [hlen5] at W5
      obtain ⟨k, hk⟩ : ∃ k, (N.getD st [])[i]? = some k := ⟨(N.getD st [])[i]'(by omega), List.getElem?_eq_getElem (by omega)⟩
      obtain ⟨p, hp2⟩ : ∃ p, (qs.getD st [])[i]? = some p := ⟨(qs.getD st [])[i]'(by omega), List.getElem?_eq_getElem (by omega)⟩
      have hzi : ((N.getD st []).zip (qs.getD st []))[i]? = some (k, p) := by
        rw [List.getElem?_zip_eq_some]
        exact ⟨hk, hp2⟩
      have htk : ((N.getD st []).zip (qs.getD st [])).take (i + 1) = ((N.getD st []).zip (qs.getD st [])).take i ++ [(k, p)] := by rw [List.take_add_one, hzi]; rfl
      rw [htk, moveW_snoc]
      have hQ6 := hQ5.ex2 e6
      have hE6 := hE5.ex2 e6
      have ex6 : Ex2 Qa Ea H H6 := ex5.ex e6
      generalize moveW (α := α) N (departW N n) (((N.getD st []).zip (qs.getD st [])).take i) (qs.set st []) = R at hQ6 hE6 S5 K5 L5 W5
      obtain rfl : kV k = x := by
        change ((N.getD st []).map kV)[i]? = some x at hx
        have : ((N.getD st []).map kV)[i]? = some (kV k) := by simp only [List.getElem?_map, hk]; rfl
        rw [this] at hx
        exact Option.some.inj hx
      obtain ⟨dp, hdp, hyd⟩ := DpAll.get' (DpAll.tx t4 hvs fun d hd => by
        obtain ⟨y, _, rfl⟩ := List.mem_map.mp hd
        exact hp.t y) hy
      obtain rfl : pd p = dp := by
        have : ((qs.getD st []).map pd)[i]? = some (pd p) := by simp only [List.getElem?_map, hp2]; rfl
        rw [this] at hdp
        exact Option.some.inj hdp
      have hy6 : Dp K H6 y (pd p) := Dp.tx t6 hyd (hp.t p)
      have hiX : i * (2 * (N.length - st)) + 2 * (N.length - st) ≤ (qs.getD st []).length * (2 * (N.length - st)) := by
        have := Nat.mul_le_mul_right (2 * (N.length - st)) (show i + 1 ≤ (qs.getD st []).length by omega)
        rw [Nat.add_mul, Nat.one_mul] at this
        exact this
      walk_at "run"
      cases k with
      | inl j =>
        have hj := hJ.fw st hst j (List.mem_of_getElem? hk)
        obtain ⟨j', rfl⟩ : ∃ j' : Nat, j = (j' : Int) := ⟨j.toNat, by omega⟩
        walk_at "run"
        rw [if_neg Bool.false_ne_true]
        have hjo := move_one_l (N := N) (dep := departW N n) (j := (j' : Int)) (p := p) (qs := R.1)
        rw [Int.toNat_natCast] at hjo
        rw [hjo]
        refine ⟨_, y, N, Qa, Ea, R.1, _, j', p, rfl, hN.tx (t4.trans t6), hJ, hy6, hQ6, hE6, hne, S5, by omega, by omega, ?_, fun H7 ex7 hQ7 hE7 => ?_⟩
        · rw [List.length_append, List.length_append, List.length_singleton]; omega
        · refine ⟨_, _, rfl, fun x o h h1 h2 => ex7 x o (ex6 x o h h1 h2) h1 h2, t6.trans ?_, hQ7, ?_⟩
          · obtain ⟨_, a1, _⟩ := hQ6.ex
            obtain ⟨_, a2, _⟩ := hE6.ex
            exact TX.two a1 a2 ex7
          · rw [← List.append_assoc]
            exact hE7
      | inr z =>
        walk_at "run"
        obtain ⟨es6, hEa6, hes6⟩ := hE6.ex
        have hl6 : es6.length = es.length + 1 + R.2.length := by rw [hes6.len, List.length_map, List.length_append, List.length_append, List.length_singleton]
        refine ⟨x_tyL (SqL.of hEa6), x_tup (by simp) fun t7 H7 nt7 e7 h7 => x_tup (by simp) fun t8 H8 nt8 e8 h8 => ?_⟩
        refine x_append (e8 _ _ (e7 _ _ hEa6)) (by omega) fun H9 e9 h9 => ?_
        have hE7' : Ea ≠ t7 := ne_of_none hEa6 nt7
        have hE8' : Ea ≠ t8 := ne_of_none (e7 _ _ hEa6) nt8
        have t69 : TX H6 H9 := ((TX.of e7).trans (TX.of e8)).trans (TX.but (e8 _ _ (e7 _ _ hEa6)) e9)
        rw [move_one_r]
        refine ⟨_, _, rfl, fun x o h h1 h2 => e9 _ _ h2 (e8 _ _ (e7 _ _ (ex6 x o h h1 h2))), t6.trans t69, hQ6.tx (qs_t hp) t69 fun o h => e9 _ _ hne (e8 _ _ (e7 _ _ h)), ⟨⟨_, h9, ?_⟩⟩⟩
        rw [← List.append_assoc, List.map_append]
        refine DpAll.append (DpAll.tx t69 hes6 (es_t hp)) (.cons (.tup (SqT.of (e9 _ _ hE8'.symm h8)) (.cons (.str z) (.cons (.tup (SqT.of (e9 _ _ hE7'.symm (e8 _ _ h7))) (.cons (Dp.tx t69 hy6 (hp.t p)) .nil)) .nil))) .nil)
    · rintro σ H5 ⟨u5, u6, rfl, ex5, t5, hQ5, hE5⟩
      rw [hmn] at hQ5 hE5
      have ht : ((N.getD st []).zip (qs.getD st [])).take (qs.getD st []).length = (N.getD st []).zip (qs.getD st []) := List.take_of_length_le (by omega)
      rw [ht] at hQ5 hE5
      refine q H5 ex5 hQ5 ?_
      rw [List.append_assoc] at hE5
      exact hE5
theorem ok_p_pair (hp : PD pd) {f g : Addr} {fd gd : FuncData} (D_join_queue : Df K mg "join_queue" s_join_queue ["network", "queues", "station", "passenger", "events"] f fd) (T : Bt mg) (D_depart : Df K mg "depart" s_depart ["network", "queues", "station", "events"] g gd) : ∀ n : Nat,
    FnOk P w K mg base CX0 (2 * n) g gd ["network", "queues", "station", "events"] (spDepartP K pd n) ∧ FnOk P w K mg base CX0 (2 * n + 1) f fd ["network", "queues", "station", "passenger", "events"] (spJoinP K pd n)
  | 0 => by
    have h0 : FnOk P w K mg base CX0 (2 * 0) g gd ["network", "queues", "station", "events"] (spDepartP K pd 0) := FnOk.absurd fun vs H Q E ⟨_, _, _, _, _, _, _, _, _, _, _, _, _, _, _, _, _, h1, h2, _⟩ => by omega
    exact ⟨h0, ok_join_queue hp D_join_queue T D_depart h0⟩
  | n + 1 => by
    have h0 : FnOk P w K mg base CX0 (2 * (n + 1)) g gd ["network", "queues", "station", "events"] (spDepartP K pd (n + 1)) := ok_depart hp D_depart T D_join_queue (ok_p_pair hp D_join_queue T D_depart n).2
    exact ⟨h0, ok_join_queue hp D_join_queue T D_depart h0⟩
end
end K
set_option maxHeartbeats 1000000
namespace K
open PySem PySem.Spec PyProof.Rows L2 Evl FB
local macro_rules | `(tactic| walk_at "run") => `(tactic| try simp only [tSeq, tAsg, tVar, tC, gName, L2.start, List.map_cons, List.map_nil, List.cons_append, List.nil_append, List.length_cons, List.length_nil, List.replicate, List.getElem?_cons_zero, List.getElem?_cons_succ, Option.some.injEq, exists_eq_left', List.set_cons_zero, List.set_cons_succ, V.ref.injEq, tRet, x_tLst, x_tTup, tCons, tCB, tNil, tOp, x_addI, x_mulI, x_rI, x_rI0, x_ltI, x_leI, x_ltS, x_leS, x_eqI, x_neI, x_eqS, x_eqB, x_neB, x_isiI, x_isiS, x_int, x_max, x_min, cxOf, tIfS, tNext, tTest, V.bl.injEq, decide_eq_true_eq, gSub, tAnd, tOr, tNot, tB, tDrop, tBM, x_tFor, iRng1, iList, iTup, x_tLc, tYes, tCall, tIf, tAndV, tOrV, tNotV, tChain, List.append_nil, tUn, if_true, wipe, true_and, x_never, iU, x_itS, kV, Nat.reduceAdd, Nat.reduceSub, List.replicate_zero, x_rU, x_tMkO, iEnumT, x_tDc, x_tDGet, x_tDGet2, x_sDPut, x_tDSetd, x_tDNewK, x_iItems, x_iZip, x_tSAddK, x_tLockV, x_tTupRg, x_tRg2, tPar, tPar3, tBM0, tSl, tNoPart, tPart, x_tSetAdd, x_tDIn, x_iKeys, x_iZipX, x_iZip3, iRevR, tRg1, x_tFld, x_tMeth, x_sFld, x_tMake, tAug, x_ipI, x_tDNotIn, iRng2])
/-! class Arrival; arrival_at -/
structure AF (K : PySem.W.Frag) (C : Addr) : Prop where
  c : Cls K C
  events : NoAttr K C "events"
  queues : NoAttr K C "queues"
def arrFs (Qa Ea : Addr) : List (Str × V) := putF "queues" (.ref Qa) (putF "events" (.ref Ea) [])
theorem qe_ne : ¬ (("events" : Str) = "queues") := by decide +kernel
theorem af_queues {Qa Ea : Addr} : (arrFs Qa Ea).lookup ("queues" : Str) = some (.ref Qa) := by
  unfold arrFs
  rw [lookup_putF, if_pos rfl]
theorem af_events {Qa Ea : Addr} : (arrFs Qa Ea).lookup ("events" : Str) = some (.ref Ea) := by
  unfold arrFs
  rw [lookup_putF, if_neg qe_ne, lookup_putF, if_pos rfl]
theorem af_line {Qa Ea : Addr} : (arrFs Qa Ea).lookup ("line" : Str) = none := by
  unfold arrFs
  rw [lookup_putF, if_neg (by decide +kernel), lookup_putF, if_neg (by decide +kernel)]
  rfl
section
variable {P : Program} {w : World} {K : PySem.W.Frag} {mg : Str → Option Value} {base : Heap}
abbrev s_Arrival___init : Stmt := inClass (top 56) 0
theorem sc_Arrival___init : FnScope ["self", "network", "queues", "newcomer"] ["self", "network", "queues", "newcomer"] (defScope s_Arrival___init) := ⟨rfl, rfl, rfl, by decide +kernel, rfl, by decide +kernel, by decide +kernel⟩
theorem tx_ins {H H' : Hp} {a C dx : Addr} {fs : List (Str × V)} (h1 : H a = some (.ins C dx fs)) (e : ∀ x o, x ≠ a → H x = some o → H' x = some o) : TX H H' := fun x o h cc => e x o (fun z => by rw [z, h1] at h; cases h; cases cc) h
/-- one arrival of labels -/
abbrev arrL (N : Net) (qs : QsA (Int × Int)) (x : Int × Int) : QsA (Int × Int) × EvsA (Int × Int) := joinW N (departW N 8) qs 0 x
def spArr (K : PySem.W.Frag) (C : Addr) : Sp := fun vs H Q _ => ∃ (N : Net) (a dx Qa : Addr) (v y : V) (qs : QsA (Int × Int)) (x : Int × Int), vs = [.ref a, v, .ref Qa, y] ∧ H a = some (.ins C dx []) ∧ NetAt K H v N ∧ JN N ∧ N.length ≤ 8 ∧ 1 ≤ N.length ∧ Dp K H y (pdL x) ∧ QtAt K H Qa pdL qs ∧ Short N qs ∧ qs.flatten.length ≤ 64 ∧ Qa ≠ a ∧
  ∀ H' Ea, (∀ x o, x ≠ a → x ≠ Qa → H x = some o → H' x = some o) → H' a = some (.ins C dx (arrFs Qa Ea)) → QtAt K H' Qa pdL (arrL N qs x).1 → EvAt K H' Ea pdL (arrL N qs x).2 → Q .non H'
theorem ok_Arrival_init {C f f1 f2 : Addr} {fd fd1 fd2 : FuncData} (D : Cf K mg "Arrival" "Arrival.__init__" C s_Arrival___init ["self", "network", "queues", "newcomer"] f fd) (T : Bt mg) (F : AF K C) (D_join_queue : Df K mg "join_queue" s_join_queue ["network", "queues", "station", "passenger", "events"] f1 fd1) (D_depart : Df K mg "depart" s_depart ["network", "queues", "station", "events"] f2 fd2) : FnOk P w K mg base CX0 18 f fd ["self", "network", "queues", "newcomer"] (spArr K C) := by
  have G_join_queue : FnOk P w K mg base CX0 17 f1 fd1 _ (spJoinP K pdL 8) := (ok_p_pair pdL_t D_join_queue T D_depart 8).2
  refine D.F.ok sc_Arrival___init (fun vs H Q E h => ?_) (fun cdv A outer s H vs Q E hr h => ?_)
  · obtain ⟨N, a, dx, Qa, v, y, qs, x, rfl, _⟩ := h
    rfl
  · obtain ⟨N, a, dx, Qa, v, y, qs, x, rfl, ha, hN, hJ, h8, h1, hy, hQ, S, hfl, hne, q⟩ := h
    refine ⟨_, (pss_cons (ps_fld (pv 0) (pe_lst pa_nil) rfl)
      (pss_cons (ps_fld (pv 0) (pv 2) rfl)
      (pss_one (ps_expr (pe_call (G_join_queue) (hr.mono (by decide)) rfl D_join_queue.g D_join_queue.F.kp D_join_queue.b .nil pass0 (pa_cons (pv 1) (pa_cons (pv 2) (pa_cons pe_int (pa_cons (pv 3) (pa_cons (pe_fld (pv 0) rfl) pa_nil)))))))))), ?_⟩
    walk_at "run"
    refine x_lst (by simp) fun Ea H1 nE e1 hE => ?_
    have haE : Ea ≠ a := (ne_of_none ha nE).symm
    refine x_setF (e1 _ _ ha) F.c F.events (by simp) fun H2 e2 n2 h2 => ?_
    walk_at "run"
    refine x_setF h2 F.c F.queues (by show 1 < 1000; decide) fun H3 e3 n3 h3 => ?_
    walk_at "run"
    have h3' : H3 a = some (.ins C dx (arrFs Qa Ea)) := h3
    refine x_fld h3' F.c F.events af_events ?_
    have t3 : TX H H3 := (TX.of e1).trans ((tx_ins (e1 _ _ ha) e2).trans (tx_ins h2 e3))
    have hQE : Qa ≠ Ea := by
      obtain ⟨ts, hq, _⟩ := hQ.ex
      exact ne_of_none hq nE
    have hw := wayW_le (n := N.length) (qs := qs) (k := 0)
    have hb2 : qs.flatten.length * (2 * N.length) ≤ 64 * 16 := Nat.mul_le_mul hfl (by omega)
    refine ⟨v, y, N, Qa, Ea, qs, [], 0, x, rfl, NetAt.tx t3 hN, hJ, Dp.tx t3 hy (pdL_t.t x), LsAt.tx hQ (qs_t pdL_t) t3 (fun o h => e3 _ _ hne (e2 _ _ hne (e1 _ _ h))), ⟨⟨[], e3 _ _ haE (e2 _ _ haE hE), .nil⟩⟩, hQE, S, h1, by omega, by rw [List.length_nil]; omega, fun H4 ex4 hQ4 hE4 => ?_⟩
    rw [List.nil_append] at hE4
    exact q H4 Ea (fun b o hb1 hb2 h => ex4 _ _ (e3 _ _ hb1 (e2 _ _ hb1 (e1 _ _ h))) hb2 (ne_of_none h nE)) (ex4 _ _ h3' hne.symm haE.symm) hQ4 hE4
end
/-! Arrival.line -/
section
variable {P : Program} {w : World} {K : PySem.W.Frag} {mg : Str → Option Value} {base : Heap}
abbrev s_Arrival_line : Stmt := inClass (top 56) 1
theorem sc_Arrival_line : FnScope ["self", "place", "labels", "at", "passengers"] ["self", "place"] (defScope s_Arrival_line) := ⟨rfl, rfl, rfl, by decide +kernel, rfl, by decide +kernel, by decide +kernel⟩
def spLine (K : PySem.W.Frag) (C : Addr) : Sp := fun vs H Q _ => ∃ (a dx Qa Ea : Addr) (qs : QsA (Int × Int)) (es : EvsA (Int × Int)) (k : Nat), vs = [.ref a, .int (k : Int)] ∧ H a = some (.ins C dx (arrFs Qa Ea)) ∧ QtAt K H Qa pdL qs ∧ EvAt K H Ea pdL es ∧ k < qs.length ∧ (evP es (.inl (k : Int))).length + (qs.getD k []).length ≤ 10000 ∧
  ∀ H' l, Ex H H' → LsAt K H' l ((evP es (.inl (k : Int)) ++ qs.getD k []).map pdL) → Q (.ref l) H'
theorem ok_line {C f : Addr} {fd : FuncData} (D : Mf K C "line" "Arrival.line" s_Arrival_line ["self", "place"] f fd) (T : Bt mg) (F : AF K C) : FnOk P w K mg base CX0 1 f fd ["self", "place"] (spLine K C) := by
  refine D.F.ok sc_Arrival_line (fun vs H Q E h => ?_) (fun cdv A outer s H vs Q E hr h => ?_)
  · obtain ⟨a, dx, Qa, Ea, qs, es, k, rfl, _⟩ := h
    rfl
  · obtain ⟨a, dx, Qa, Ea, qs, es, k, rfl, ha, hQ, hE, hk, hlen, q⟩ := h
    have hu := hr.units
    refine ⟨_, (pss_cons (ps_set (i := 2) sc_Arrival_line.nd rfl (Or.inl rfl) (pe_lst pa_nil))
      (pss_cons (ps_for PassesOwn.never rfl (pi_U (K := K) (pe_fld (pv 0) rfl)) (pg_tup rfl (pgs_cons (pg_name (i := 3) sc_Arrival_line.nd rfl (Or.inl rfl)) (pgs_cons (pg_name (i := 4) sc_Arrival_line.nd rfl (Or.inl rfl)) pgs_nil))) (pss_one (ps_if (pt_cmpR (op_eqU (K := K) hu) (pv 3) (pv 1) (nomark _)) (pss_one (ps_expr (pe_bm PySem.F.plainAttrs_list PySem.F.slot_list_extend PySem.F.type_list_extend (mt_extendU (K := K)) (pv 2) (pa_cons (pv 4) pa_nil)))) pss_nil)))
      (pss_cons (ps_if (pt_not (pt_val (pe_callB (call_isiU (K := K)) (by rfl) T.b_isinstance (by decide +kernel) (pa_cons (pv 1) (pa_cons (pe_bltn (v := .ty "str") (by rfl) T.b_str (by decide +kernel) rfl) pa_nil))))) (pss_one (ps_expr (pe_bm PySem.F.plainAttrs_list PySem.F.slot_list_extend PySem.F.type_list_extend (mt_extendU (K := K)) (pv 2) (pa_cons (pe_ix (ix_U (K := K)) (pe_fld (pv 0) rfl) (pv 1) (fun _ _ => rfl)) pa_nil)))) pss_nil)
      (pss_one (ps_ret (pv 2)))))), ?_⟩
    walk_at "run"
    refine x_lst (by simp) fun L H1 nL e1 hL => ?_
    refine x_fld (e1 _ _ ha) F.c F.events af_events ?_
    obtain ⟨ts, hEa, hts⟩ := hE.ex
    have htl : ts.length = es.length := by rw [hts.len, List.length_map]
    refine x_itL (ex_l e1 (SqL.of hEa)) ?_
    refine loop_it walk_list (fun i σ H' => ∃ u3 u4, σ = [some (.ref a), some (.int (k : Nat)), some (.ref L), u3, u4] ∧ Ex H H' ∧ LsAt K H' L ((evP (es.take i) (.inl (k : Int))).map pdL)) ⟨_, _, rfl, e1, ⟨⟨[], hL, .nil⟩⟩⟩ (fun i σ H' _ ⟨_, _, _, e, _⟩ => ex_l e (SqL.of hEa)) ?_ ?_
    · rintro i x σ H2 H2' hi ⟨u3, u4, rfl, e2, hLs⟩ ⟨eH, hx⟩
      subst eH
      obtain ⟨d, hd, hz⟩ := hts.get' hx
      obtain ⟨e, he, rfl⟩ : ∃ e, es[i]? = some e ∧ evA pdL e = d := by simpa using hd
      obtain ⟨b, ys, rfl, hB, hys⟩ := Dp.tup_inv hz
      have hyl : ys.length = 2 := hys.len
      obtain ⟨y0, y1, rfl⟩ : ∃ x y, ys = [x, y] := match ys, hyl with
        | [x, y], _ => ⟨x, y, rfl⟩
      cases hys with
      | cons hy0 hys2 =>
      cases hys2 with
      | cons hy1 _ =>
      refine x_two (ex_t e2 hB) ?_
      obtain ⟨pb, ps, rfl, hPb, hps⟩ := Dp.tup_inv hy1
      have hev : evP (es.take (i + 1)) (.inl (k : Int)) = evP (es.take i) (.inl (k : Int)) ++ (if e.1 = .inl (k : Int) then e.2 else []) := by
        rw [List.take_add_one, he]
        show evP (es.take i ++ [e]) _ = _
        rw [evP_append]
        show _ ++ ((if e.1 = .inl (k : Int) then e.2 else []) ++ []) = _
        rw [List.append_nil]
      have hle : (evP (es.take (i + 1)) (.inl (k : Int))).length ≤ (evP es (.inl (k : Int))).length := by
        conv => rhs; rw [← List.take_append_drop (i + 1) es, evP_append, List.length_append]
        omega
      walk_at "run"
      obtain ⟨xs, hxs, hxd⟩ := hLs.ex
      have hxl : xs.length = (evP (es.take i) (.inl (k : Int))).length := by rw [hxd.len, List.length_map]
      obtain ⟨bb, hbb, heq⟩ : ∃ bb : Bool, (bb = true ↔ e.1 = .inl (k : Int)) ∧ ∀ Q : VK, Q (.bl bb) H2' → rEqU K y0 (.int (k : Int)) H2' Q := by
        cases h1 : e.1 with
        | inl j =>
          rw [h1] at hy0
          obtain rfl : y0 = .int j := hy0.int_inv
          exact ⟨decide (V.int j = V.int (k : Int)), by simp, fun Q h => .inl ⟨rfl, h⟩⟩
        | inr z =>
          rw [h1] at hy0
          have hy0 : Dp K H y0 (.str z) := hy0
          cases hy0
          exact ⟨decide (V.str z = V.int (k : Int)), by simp, fun Q h => .inl ⟨rfl, h⟩⟩
      refine heq _ ⟨bb, rfl, ?_⟩
      cases bb with
      | true =>
        rw [if_pos rfl]
        rw [if_pos (hbb.mp rfl)] at hev
        have hpl : ps.length = e.2.length := by rw [hps.len, List.length_map]
        rw [hev, List.length_append] at hle
        refine ⟨x_tyL (SqL.of hxs), x_extT hxs (ex_t e2 hPb) (by omega) fun H3 e3 h3 => ⟨_, _, rfl, fun o u h => e3 _ _ (ne_of_none h nL) (e2 _ _ h), ⟨⟨_, h3, ?_⟩⟩⟩⟩
        have t3 : TX H2' H3 := TX.but hxs e3
        rw [hev, List.map_append]
        exact DpAll.append (DpAll.tx t3 hxd fun d hd => by
          obtain ⟨j, _, rfl⟩ := List.mem_map.mp hd
          exact pdL_t.t _) (DpAll.tx t3 (DpAll.ex e2 hps) fun d hd => by
          obtain ⟨j, _, rfl⟩ := List.mem_map.mp hd
          exact pdL_t.t _)
      | false =>
        rw [if_neg (by decide)]
        rw [if_neg (fun z => by have := hbb.mpr z; cases this), List.append_nil] at hev
        exact ⟨_, _, rfl, e2, by rw [hev]; exact hLs⟩
    · rintro σ H2 ⟨u3, u4, rfl, e2, hLs⟩
      rw [List.take_of_length_le (by omega)] at hLs
      walk_at "run"
      rw [if_pos (by decide)]
      obtain ⟨xs, hxs, hxd⟩ := hLs.ex
      have hxl : xs.length = (evP es (.inl (k : Int))).length := by rw [hxd.len, List.length_map]
      obtain ⟨qv, hQa, hqv⟩ := hQ.ex
      obtain ⟨zv, hzv, hzd⟩ := hqv.get (i := k) (d := qA pdL (qs.getD k [])) (by rw [List.getElem?_map]; simp [List.getD_eq_getElem?_getD, hk])
      obtain ⟨qb, zs, rfl, hQB, hzs⟩ := Dp.tup_inv hzd
      have hzl : zs.length = (qs.getD k []).length := by rw [hzs.len, List.length_map]
      refine ⟨x_tyL (SqL.of hxs), x_fld (e2 _ _ ha) F.c F.queues af_queues (x_ixL (SqL.of (e2 _ _ hQa)) (atI_nat hzv) (x_extT hxs (ex_t e2 hQB) (by omega) fun H3 e3 h3 => ?_))⟩
      have t3 : TX H2 H3 := TX.but hxs e3
      refine q H3 L (fun o u h => e3 _ _ (ne_of_none h nL) (e2 _ _ h)) ⟨⟨_, h3, ?_⟩⟩
      rw [List.map_append]
      exact DpAll.append (DpAll.tx t3 hxd fun d hd => by
        obtain ⟨j, _, rfl⟩ := List.mem_map.mp hd
        exact pdL_t.t _) (DpAll.tx t3 (DpAll.ex e2 hzs) fun d hd => by
        obtain ⟨j, _, rfl⟩ := List.mem_map.mp hd
        exact pdL_t.t _)
end
/-! Timetable.arrival_at -/
section
variable {P : Program} {w : World} {K : PySem.W.Frag} {mg : Str → Option Value} {base : Heap}
abbrev s_Timetable_arrival_at : Stmt := inClass (top 57) 7
theorem sc_Timetable_arrival_at : FnScope ["self", "time", "queues", "station"] ["self", "time"] (defScope s_Timetable_arrival_at) := ⟨rfl, rfl, rfl, by decide +kernel, rfl, by decide +kernel, by decide +kernel⟩
/-- the labels of all stations at a time -/
def labs (N : Net) (ls : List Int) (t : Int) : QsA (Int × Int) := (List.range N.length).map (lab N ls t)
theorem flat8 {α : Type} : ∀ {qs : List (List α)}, (∀ q ∈ qs, q.length ≤ 8) → qs.flatten.length ≤ 8 * qs.length
  | [], _ => by simp
  | q :: r, h => by
    have h1 := flat8 (qs := r) fun x hx => h x (List.mem_cons_of_mem _ hx)
    have h2 := h q (List.mem_cons_self ..)
    rw [List.flatten_cons, List.length_append, List.length_cons]
    omega
theorem labs_at {N : Net} {ls : List Int} {t : Int} {k : Nat} (hk : k < N.length) : (labs N ls t).getD k [] = lab N ls t k := by
  unfold labs
  rw [List.getD_eq_getElem?_getD, List.getElem?_map, List.getElem?_range hk]; rfl
theorem labs_len {N : Net} {ls : List Int} {t : Int} : (labs N ls t).length = N.length := by
  unfold labs; simp
theorem labs_short {N : Net} {ls : List Int} {t : Int} (fw : Fw N) (L : Lens N ls) : Short N (labs N ls t) := by
  refine ⟨labs_len, fun k hk => ?_⟩
  rw [labs_at hk]
  have h1 := lab_len (t := t) fw L hk
  have h2 := (wt_lt (t := t) fw L hk).2
  omega
theorem labs_flat {N : Net} {ls : List Int} {t : Int} (fw : Fw N) (L : Lens N ls) (J : JN N) (h8 : N.length ≤ 8) : (labs N ls t).flatten.length ≤ 64 := by
  have h := flat8 (qs := labs N ls t) fun q hq => by
    unfold labs at hq
    obtain ⟨k, hk, rfl⟩ := List.mem_map.mp hq
    have hk := List.mem_range.mp hk
    have h1 := lab_len (t := t) fw L hk
    have h2 := (wt_lt (t := t) fw L hk).2
    have h3 := (J.st k hk).2
    omega
  rw [labs_len] at h
  omega
def spAt (K : PySem.W.Frag) (C CA : Addr) : Sp := fun vs H Q _ => ∃ (N : Net) (ls : List Int) (p : Int) (qs : Qs) (M : Tm) (c : Nat) (t : Int), vs = [.ref M.a, .int t] ∧ TT K C N ls p qs M c H ∧ CntN N ∧ Lens N ls ∧ JN N ∧ N.length ≤ 8 ∧ 1 ≤ N.length ∧ c < 880000 ∧ 1 ≤ t ∧ t ≤ 1000000000000000000000000000 ∧
  ∀ H' a dx Qa Ea, TT K C N ls p qs M (c + 20) H' → ExK M H H' → H' a = some (.ins CA dx (arrFs Qa Ea)) → QtAt K H' Qa pdL (arrL N (labs N ls (t - 1)) (0, t)).1 → EvAt K H' Ea pdL (arrL N (labs N ls (t - 1)) (0, t)).2 → Q (.ref a) H'
theorem ok_arrival_at {C CA f f1 f2 f3 f4 : Addr} {fd fd1 fd2 fd3 fd4 : FuncData} (D : Mf K C "arrival_at" "Timetable.arrival_at" s_Timetable_arrival_at ["self", "time"] f fd) (T : Bt mg) (F : TF K C) (FA : AF K CA) (M_labels : Mf K C "labels" "Timetable.labels" s_Timetable_labels ["self", "station", "time"] f1 fd1)
    (G_labels : FnOk P w K mg base CX0 5 f1 fd1 ["self", "station", "time"] (spLab K C)) (C_Arrival : Cf K mg "Arrival" "Arrival.__init__" CA s_Arrival___init ["self", "network", "queues", "newcomer"] f2 fd2) (D_join_queue : Df K mg "join_queue" s_join_queue ["network", "queues", "station", "passenger", "events"] f3 fd3) (D_depart : Df K mg "depart" s_depart ["network", "queues", "station", "events"] f4 fd4) :
    FnOk P w K mg base CX0 20 f fd ["self", "time"] (spAt K C CA) := by
  have G_Arrival : FnOk P w K mg base CX0 18 f2 fd2 _ _ := ok_Arrival_init C_Arrival T FA D_join_queue D_depart
  refine D.F.ok sc_Timetable_arrival_at (fun vs H Q E h => ?_) (fun cdv A outer s H vs Q E hr h => ?_)
  · obtain ⟨N, ls, p, qs, M, c, t, rfl, _⟩ := h
    rfl
  · obtain ⟨N, ls, p, qs, M, c, t, rfl, W, hC, L, J, h8, h1, hc, ht0, ht1, q⟩ := h
    refine ⟨_, (pss_cons (ps_setLc (i := 2) (own := [("station", 3)]) (g := gName 3) (tt := tYes) rfl sc_Timetable_arrival_at.nd rfl rfl (sw_true rfl rfl rfl (by decide +kernel)) (pi_range1 (by rfl) T.b_range (pa_cons (pe_callB (call_lenU (K := K)) (by rfl) T.b_len (by decide +kernel) (pa_cons (pe_fld (pv 0) rfl) pa_nil)) pa_nil)) (blkOk_by (own := [("station", 3)]) (N := ["self", "time", "queues", "station"]) (sc := defScope s_Timetable_arrival_at) (by decide +kernel)) (fun _ _ _ _ _ => (pg_name (i := 3) sc_Timetable_arrival_at.nd rfl (Or.inl rfl))) (fun _ _ _ _ _ => pts_nil) (fun _ _ _ _ _ => (pe_meth (pv 0) F.c M_labels.m (G_labels) (hr.mono (by decide)) M_labels.b .nil pass0 (pa_cons (pv 3) (pa_cons (pe_op op_sub (pv 1) pe_int) pa_nil)))))
      (pss_one (ps_ret (pe_make C_Arrival.mkK (G_Arrival) (hr.mono (by decide)) rfl C_Arrival.g C_Arrival.b .nil pass0 (pa_cons (pe_fld (pv 0) rfl) (pa_cons (pv 2) (pa_cons (pe_tup (pa_cons pe_int (pa_cons (pv 1) pa_nil))) pa_nil))))))), ?_⟩
    walk_at "run"
    refine x_fld W.ins F.c F.network fs_network ?_
    obtain ⟨na, ts, hv, hT, hts⟩ := NetAt.at W.net
    have htl : ts.length = N.length := by rw [hts.len, List.length_map]
    rw [hv]
    refine x_lenT hT ?_
    rw [htl]
    refine ⟨(N.length : Int), rfl, by omega, by omega, ?_⟩
    rw [Int.toNat_natCast]
    have hH0 : ∀ x, H x = none → M.H0 x = none := fun x hx => fresh_back W.feed.ex hx
    refine lcl_it walk_range (fun D i H' => TT K C N ls p qs M (c + 2 * i) H' ∧ ExK M H H' ∧ ∃ as : List Addr, H' D = some (.lst (as.map V.ref)) ∧ DpAll K H' (as.map V.ref) (((List.range i).map (lab N ls (t - 1))).map (qA pdL))) (fun D H' hD e h => ⟨W.ex e, ExK.of e, [], h, .nil⟩) (fun D i H' _ _ => trivial) ?_ ?_
    · rintro D i x H3 H3' hD hi ⟨W3, e3, as, hL, hLd⟩ ⟨eH, rfl⟩
      subst eH
      have ei : (0 : Int) + (i : Nat) = (i : Nat) := by omega
      simp only [ei]
      walk_at "run"
      refine x_meth W3.ins fs_labels ?_
      refine ⟨N, ls, p, qs, M, c + 2 * i, i, t - 1, rfl, W3, hC, L, J.fw, by omega, hi, by omega, by omega, fun H4 l W4 e4 hl => ?_⟩
      have hDK : D ≠ M.Kd := by
        obtain ⟨ks, hk, _⟩ := W.cache
        exact (ne_of_none hk hD).symm
      have hL4 := e4 _ _ hDK hL
      have hal : as.length = i := by
        have := hLd.len
        rw [List.length_map, List.length_map, List.length_map, List.length_range] at this
        exact this
      have qt : ∀ d ∈ (((List.range i).map (lab N ls (t - 1))).map (qA pdL)), TupD d := fun d hd => by
        obtain ⟨j, _, rfl⟩ := List.mem_map.mp hd
        exact qA_t pdL_t _
      have t34 := W3.tx e4
      refine x_push hL4 (by rw [List.length_map]; omega) fun H5 e5 h5 => ?_
      have t45 : TX H4 H5 := TX.but hL4 e5
      refine ⟨W4.keep (a := D) h1 L.len hL4 (fun x hx => ?_) (hH0 _ hD) ⟨_, h5⟩ (.inl rfl) (fun x o h hx _ => e5 x o hx h), fun x o hx h => e5 _ _ (ne_of_none h hD) (e4 _ _ hx (e3 _ _ hx h)), as ++ [l], by rw [h5, List.map_append]; rfl, ?_⟩
      · obtain ⟨r, _, rfl⟩ := List.mem_map.mp hx
        exact ⟨r, rfl⟩
      · rw [List.range_succ, List.map_append, List.map_append, List.map_append]
        exact DpAll.append (DpAll.tx (t34.trans t45) hLd qt) (.cons (Dp.tx t45 hl (qA_t pdL_t _)) .nil)
    · rintro D H3 hD ⟨W3, e3, as, hL, hLd⟩
      walk_at "run"
      have hDK : D ≠ M.Kd := by
        obtain ⟨ks, hk, _⟩ := W.cache
        exact (ne_of_none hk hD).symm
      refine x_fld W3.ins F.c F.network fs_network (x_tup (by simp) fun nc H4 n4 e4 h4 => ?_)
      refine x_make fun a dx H5 na5 e5 h5 => ?_
      have hL5 := e5 _ _ (e4 _ _ hL)
      have W5 := (W3.ex e4).ex e5
      have hDa : D ≠ a := ne_of_none (e4 _ _ hL) na5
      have fw := J.fw
      refine ⟨N, a, dx, D, M.v, .ref nc, labs N ls (t - 1), (0, t), rfl, h5, W5.net, J, h8, h1, .tup (SqT.of (e5 _ _ h4)) (.cons (.int 0) (.cons (.int t) .nil)), ⟨⟨_, hL5, DpAll.ex (e4.trans e5) hLd⟩⟩, labs_short fw L, labs_flat fw L J h8, hDa, fun H6 Ea e6 h6 hQ6 hE6 => ?_⟩
      refine ⟨rfl, q H6 a dx D Ea ?_ ?_ h6 hQ6 hE6⟩
      · have W6 : TT K C N ls p qs M (c + 2 * N.length) H6 := by
          refine TT.keep (W3.ex e4) h1 L.len (e4 _ _ hL) (fun x hx => ?_) (hH0 _ hD) (let ⟨_, hh, _⟩ := hQ6.ex; ⟨_, hh⟩) (.inr na5) fun x o h hx ha => e6 _ _ ha hx (e5 _ _ h)
          obtain ⟨r, _, rfl⟩ := List.mem_map.mp hx
          exact ⟨r, rfl⟩
        exact W6.le (by omega)
      · have na : H a = none := by
          cases hh : H a with
          | none => rfl
          | some o =>
            by_cases z : a = M.Kd
            · obtain ⟨ks, hk, _⟩ := (W3.ex e4).cache
              rw [z, hk] at na5; cases na5
            · have := e4 _ _ (e3 _ _ z hh)
              rw [this] at na5; cases na5
        exact fun x o hx h => e6 _ _ (ne_of_none h na) (ne_of_none h hD) (e5 _ _ (e4 _ _ (e3 _ _ hx h)))
end
end K
/-! passengers under other names move alike -/
namespace FB
open PySem PySem.Spec PyProof.Rows L2 Evl
section
variable {α β : Type} [Inhabited α] [Inhabited β] {N : Net} (f : α → β)
def mapQ (qs : QsA α) : QsA β := qs.map (List.map f)
def mapE (es : EvsA α) : EvsA β := es.map fun e => (e.1, e.2.map f)
variable {f}
theorem mapQ_at {qs : QsA α} {j : Nat} : (mapQ f qs).getD j [] = (qs.getD j []).map f := by
  unfold mapQ
  rw [List.getD_eq_getElem?_getD, List.getElem?_map, List.getD_eq_getElem?_getD]
  cases qs[j]? <;> rfl
theorem mapQ_set {qs : QsA α} {j : Nat} {q : List α} : (mapQ f qs).set j (q.map f) = mapQ f (qs.set j q) := by
  unfold mapQ
  rw [List.map_set]
def DepMap (f : α → β) (d : Dep α) (d' : Dep β) : Prop := ∀ qs st, d' (mapQ f qs) st = (mapQ f (d qs st).1, mapE f (d qs st).2)
theorem joinW_map {d : Dep α} {d' : Dep β} (h : DepMap f d d') (qs : QsA α) (j : Nat) (p : α) : joinW N d' (mapQ f qs) j (f p) = (mapQ f (joinW N d qs j p).1, mapE f (joinW N d qs j p).2) := by
  have e : (mapQ f qs).getD j [] ++ [f p] = (qs.getD j [] ++ [p]).map f := by
    rw [mapQ_at, List.map_append]; rfl
  unfold joinW
  rw [e, mapQ_set, List.length_map]
  split
  · exact h _ _
  · rfl
theorem moveW_map {d : Dep α} {d' : Dep β} (h : DepMap f d d') : ∀ (ms : List (Key × α)) (qs : QsA α), moveW N d' (ms.map fun m => (m.1, f m.2)) (mapQ f qs) = (mapQ f (moveW N d ms qs).1, mapE f (moveW N d ms qs).2)
  | [], qs => rfl
  | (.inr z, p) :: r, qs => by
    have ih := moveW_map h r qs
    show ((moveW N d' (r.map fun m => (m.1, f m.2)) (mapQ f qs)).1, (.inr z, [f p]) :: (moveW N d' (r.map fun m => (m.1, f m.2)) (mapQ f qs)).2) = _
    rw [ih]
    rfl
  | (.inl j, p) :: r, qs => by
    have h1 := joinW_map (N := N) h qs j.toNat p
    have ih := moveW_map h r (joinW N d qs j.toNat p).1
    show ((moveW N d' (r.map fun m => (m.1, f m.2)) (joinW N d' (mapQ f qs) j.toNat (f p)).1).1, (joinW N d' (mapQ f qs) j.toNat (f p)).2 ++ (moveW N d' (r.map fun m => (m.1, f m.2)) (joinW N d' (mapQ f qs) j.toNat (f p)).1).2) = _
    rw [h1]
    dsimp only
    rw [ih]
    show (_, mapE f _ ++ mapE f _) = (_, mapE f (_ ++ _))
    unfold mapE
    rw [List.map_append]
    rfl
theorem departW_map : ∀ n : Nat, DepMap f (departW (α := α) N n) (departW (α := β) N n)
  | 0 => fun qs st => rfl
  | n + 1 => fun qs st => by
    have hz : (N.getD st []).zip ((mapQ f qs).getD st []) = ((N.getD st []).zip (qs.getD st [])).map fun m => (m.1, f m.2) := by
      rw [mapQ_at, List.zip_map_right]; rfl
    have hs : (mapQ f qs).set st [] = mapQ f (qs.set st []) := mapQ_set (q := [])
    show ((moveW N (departW N n) ((N.getD st []).zip ((mapQ f qs).getD st [])) ((mapQ f qs).set st [])).1, (.inl (st : Int), (mapQ f qs).getD st []) :: (moveW N (departW N n) ((N.getD st []).zip ((mapQ f qs).getD st [])) ((mapQ f qs).set st [])).2) = _
    rw [hz, hs, moveW_map (departW_map n), mapQ_at]
    rfl
end
end FB
namespace K
open PySem PySem.Spec PyProof.Rows L2 Evl FB
local macro_rules | `(tactic| walk_at "run") => `(tactic| try simp only [tSeq, tAsg, tVar, tC, gName, L2.start, List.map_cons, List.map_nil, List.cons_append, List.nil_append, List.length_cons, List.length_nil, List.replicate, List.getElem?_cons_zero, List.getElem?_cons_succ, Option.some.injEq, exists_eq_left', List.set_cons_zero, List.set_cons_succ, V.ref.injEq, tRet, x_tLst, x_tTup, tCons, tCB, tNil, tOp, x_addI, x_mulI, x_rI, x_rI0, x_ltI, x_leI, x_ltS, x_leS, x_eqI, x_neI, x_eqS, x_eqB, x_neB, x_isiI, x_isiS, x_int, x_max, x_min, cxOf, tIfS, tNext, tTest, V.bl.injEq, decide_eq_true_eq, gSub, tAnd, tOr, tNot, tB, tDrop, tBM, x_tFor, iRng1, iList, iTup, x_tLc, tYes, tCall, tIf, tAndV, tOrV, tNotV, tChain, List.append_nil, tUn, if_true, wipe, true_and, x_never, iU, x_itS, kV, Nat.reduceAdd, Nat.reduceSub, List.replicate_zero, x_rU, x_tMkO, iEnumT, x_tDc, x_tDGet, x_tDGet2, x_sDPut, x_tDSetd, x_tDNewK, x_iItems, x_iZip, x_tSAddK, x_tLockV, x_tTupRg, x_tRg2, tPar, tPar3, tBM0, tSl, tNoPart, tPart, x_tSetAdd, x_tDIn, x_iKeys, x_iZipX, x_iZip3, iRevR, tRg1, x_tFld, x_tMeth, x_sFld, x_tMake, tAug, x_ipI, x_tDNotIn, iRng2])
/-! who stands in a line at an arrival; passengers by labels -/
section
variable {N : Net} {ls : List Int}
theorem dn_le {α : Type} {k : Nat} : ∀ {es : EvsA α}, dn es k ≤ (es.length : Int)
  | [] => Int.le_refl _
  | e :: r => by
    have := dn_le (k := k) (es := r)
    show (if e.1 = .inl (k : Int) then (1 : Int) else 0) + dn r k ≤ _
    rw [List.length_cons]
    split <;> omega
/-- a label that stands for somebody at a time -/
def LabR (N : Net) (ls : List Int) (t : Int) (x : Int × Int) : Prop := ∃ k : Nat, k < N.length ∧ x.1 = (k : Int) ∧ 1 - ls.getD k 0 ≤ x.2 ∧ x.2 ≤ jq N ls t (.inl (k : Int))
/-- a label that is there at an arrival: the newcomer's, or of one who waited -/
def LabN (N : Net) (ls : List Int) (t : Int) (x : Int × Int) : Prop := x = (0, t) ∨ ∃ k : Nat, k < N.length ∧ x ∈ lab N ls (t - 1) k
theorem LabN.r (J : JN N) (L : Lens N ls) {t : Int} (ht : 1 ≤ t) (hp : 1 ≤ N.length) {x : Int × Int} (h : LabN N ls t x) : LabR N ls t x := by
  have hj0 : jq N ls t (.inl ((0 : Nat) : Int)) = t := by
    unfold jq
    rw [if_pos (by rfl)]
  rcases h with rfl | ⟨j, hj, hx⟩
  · have hl0 := L.nn 0 hp
    exact ⟨0, hp, rfl, by show 1 - ls.getD 0 0 ≤ t; omega, by rw [hj0]; exact Int.le_refl _⟩
  · obtain ⟨e1, e2, e3⟩ := lab_ok J.fw L (by omega) hj x hx
    have := jq_mono (ls := ls) J.fw L.pos (show t - 1 ≤ t by omega) (.inl (j : Int))
    exact ⟨j, hj, e1, e2, by omega⟩
/-- the line of a station at an arrival: its length; its last are from earlier stations -/
theorem line_all (J : JN N) (L : Lens N ls) (h8 : N.length ≤ 8) {t : Int} (ht : 1 ≤ t) {k : Nat} (hk : k < N.length) :
    let r := arrL N (labs N ls (t - 1)) (0, t)
    (evP r.2 (.inl (k : Int))).length + (r.1.getD k []).length ≤ 10000 ∧ r.1.length = N.length ∧ ((r.1.getD k []).length : Int) = wt N ls t k ∧ ∃ js : List (Int × Int), evP r.2 (.inl (k : Int)) ++ r.1.getD k [] = lab N ls (t - 1) k ++ js ∧ (js.length : Int) = jq N ls t (.inl (k : Int)) - jq N ls (t - 1) (.inl (k : Int)) ∧ ∀ x ∈ js, LabN N ls t x ∧ (x.1 < (k : Int) ∨ (k = 0 ∧ x = (0, t))) := by
  intro r
  have fw := J.fw
  have hp : 1 ≤ N.length := by omega
  have S0 := labs_short (t := t - 1) fw L
  have F : Flow N (labs N ls (t - 1)) (at1 0) r := joinW_flow (departW_flow fw 8) labs_len hp (by omega)
  have S : Short N r.1 := (joinW_ok L.pos (departW_ok L.pos fw 8) S0 hp (by omega)).1
  have hq : ∀ j, j < N.length → (((labs N ls (t - 1)).getD j []).length : Int) = wt N ls (t - 1) j := fun j hj => by rw [labs_at hj]; exact lab_len fw L hj
  have st := step_wt fw L hq F S (.inl (k : Int)) (.inl ⟨k, hk, rfl⟩)
  rw [Int.sub_add_cancel] at st
  have LR : LnR (fun j x => LabN N ls t x ∧ x.1 ≤ (j : Int)) (fun j x => LabN N ls t x ∧ x.1 ≤ (j : Int) ∧ (x.1 < (j : Int) ∨ (j = 0 ∧ x = (0, t)))) (LabN N ls t) := ⟨fun a b x h hab => ⟨h.1, by have := h.2; omega, .inl (by have := h.2; omega)⟩, fun b x h => ⟨h.1, h.2.1⟩, fun a x h => h.1⟩
  have new : LabN N ls t (0, t) := .inl rfl
  have G : Ln N (fun j x => LabN N ls t x ∧ x.1 ≤ (j : Int)) (fun j x => LabN N ls t x ∧ x.1 ≤ (j : Int) ∧ (x.1 < (j : Int) ∨ (j = 0 ∧ x = (0, t)))) (LabN N ls t) (labs N ls (t - 1)) r := by
    refine joinW_ln (departW_ln LR fw 8) labs_len hp (by omega) (fun j hj x hx => ?_) ⟨new, Int.le_refl _, .inr ⟨rfl, rfl⟩⟩ ⟨new, Int.le_refl _⟩
    rw [labs_at hj] at hx
    obtain ⟨e1, e2, e3⟩ := lab_ok fw L (by omega) hj x hx
    exact ⟨.inr ⟨j, hj, hx⟩, by omega⟩
  obtain ⟨js, e, hs⟩ := G.st k hk
  rw [labs_at hk] at e
  have a := F.q k hk
  have b := F.s k hk
  have le := congrArg List.length e
  rw [List.length_append, List.length_append] at le
  have pl := evP_len (a := r.2) (q := .inl (k : Int))
  have hw := (joinW_way (departW_way (α := Int × Int) fw 8) (qs := labs N ls (t - 1)) (j := 0) (p := (0, t)) labs_len hp (by omega)).1
  have hw2 := wayW_le (n := N.length) (qs := labs N ls (t - 1)) (k := 0)
  have hfl := labs_flat (t := t - 1) fw L J h8
  have hb2 : (labs N ls (t - 1)).flatten.length * (2 * N.length) ≤ 64 * 16 := Nat.mul_le_mul hfl (by omega)
  have hes : r.2.length ≤ 1040 := by
    show (joinW N (departW N 8) _ _ _).2.length ≤ _
    omega
  have hd := dn_le (k := k) (es := r.2)
  have hd0 := dn_nn (k := k) (a := r.2)
  have h8k := (J.st k hk).2
  have hS := S.lt k hk
  have hmul : ((N.getD k []).length : Int) * dn r.2 k ≤ 8 * 1040 := by
    have h1 : ((N.getD k []).length : Int) * dn r.2 k ≤ 8 * dn r.2 k := Int.mul_le_mul_of_nonneg_right (by omega) hd0
    omega
  rw [labs_at hk] at a
  have dd := step_all fw L hq F S k hk
  rw [Int.sub_add_cancel] at dd
  have hwt : ((r.1.getD k []).length : Int) = wt N ls t k := by
    have w0 := lab_len (t := t - 1) fw L hk
    have u1 : wt N ls (t - 1) k = ls.getD k 0 + jq N ls (t - 1) (.inl (k : Int)) - bt N ls (t - 1) k * ((N.getD k []).length : Int) := rfl
    have u2 : wt N ls t k = ls.getD k 0 + jq N ls t (.inl (k : Int)) - bt N ls t k * ((N.getD k []).length : Int) := rfl
    have u3 : ((N.getD k []).length : Int) * dn r.2 k = bt N ls t k * ((N.getD k []).length : Int) - bt N ls (t - 1) k * ((N.getD k []).length : Int) := by
      rw [dd, Int.mul_comm, Int.sub_mul]
    omega
  refine ⟨by omega, by rw [F.len, labs_len], hwt, js, e, by omega, fun x hx => ⟨(hs x hx).1, ?_⟩⟩
  exact (hs x hx).2.2
/-- the line of a station at an arrival -/
def lineW (N : Net) (ls : List Int) (t : Int) (k : Nat) : List (Int × Int) := evP (arrL N (labs N ls (t - 1)) (0, t)).2 (.inl (k : Int)) ++ (arrL N (labs N ls (t - 1)) (0, t)).1.getD k []
/-- whom a number stands for, before the arrival that gave it -/
def Src (N : Net) (ls : List Int) (k : Nat) (n : Int) (x : Int × Int) : Prop := ∃ t : Int, 1 ≤ t ∧ jq N ls (t - 1) (.inl (k : Int)) < n ∧ n ≤ jq N ls t (.inl (k : Int)) ∧ (lineW N ls t k)[(((lineW N ls t k).length : Int) + (n - jq N ls t (.inl (k : Int)) - 1)).toNat]? = some x
theorem Src.same (J : JN N) (L : Lens N ls) {k : Nat} {n : Int} {x y : Int × Int} (h1 : Src N ls k n x) (h2 : Src N ls k n y) : x = y := by
  obtain ⟨t, a1, a2, a3, a4⟩ := h1
  obtain ⟨u, b1, b2, b3, b4⟩ := h2
  have e : t = u := by
    by_cases h : t < u
    · have := jq_mono (ls := ls) J.fw L.pos (show t ≤ u - 1 by omega) (.inl (k : Int))
      omega
    · by_cases h' : u < t
      · have := jq_mono (ls := ls) J.fw L.pos (show u ≤ t - 1 by omega) (.inl (k : Int))
        omega
      · omega
  subst e
  rw [a4] at b4
  exact Option.some.inj b4
/-- who has a number at a station -/
inductive PsgR (N : Net) (ls : List Int) (p : Int) (qs : Qs) : Nat → Int → Int → Prop
  | old {k : Nat} {n z : Int} : n ≤ 0 → (qs.getD k [])[(((qs.getD k []).length : Int) + (n - 1)).toNat]? = some z → PsgR N ls p qs k n z
  | new {k : Nat} {n z : Int} : k = 0 → 0 < n → z = p + n - 1 → PsgR N ls p qs k n z
  | step {k k2 : Nat} {n n2 z : Int} : 1 ≤ k → 0 < n → Src N ls k n ((k2 : Int), n2) → PsgR N ls p qs k2 n2 z → PsgR N ls p qs k n z
theorem PsgR.same (J : JN N) (L : Lens N ls) {p : Int} {qs : Qs} {k : Nat} {n z y : Int} (h1 : PsgR N ls p qs k n z) : PsgR N ls p qs k n y → z = y := by
  induction h1 with
  | old a1 a2 =>
    intro h2
    cases h2 with
    | old b1 b2 => rw [a2] at b2; exact Option.some.inj b2
    | new b1 b2 b3 => omega
    | step b1 b2 b3 b4 => omega
  | new a1 a2 a3 =>
    intro h2
    cases h2 with
    | old b1 b2 => omega
    | new b1 b2 b3 => omega
    | step b1 b2 b3 b4 => omega
  | step a1 a2 a3 a4 ih =>
    intro h2
    cases h2 with
    | old b1 b2 => omega
    | new b1 b2 b3 => omega
    | step b1 b2 b3 b4 =>
      have e := Src.same J L a3 b3
      have e1 := congrArg Prod.fst e
      have e2 := congrArg Prod.snd e
      dsimp only at e1 e2
      have e1 := Int.ofNat.inj e1
      subst e1 e2
      exact ih b4
open Classical in
noncomputable def psi (N : Net) (ls : List Int) (p : Int) (qs : Qs) (x : Int × Int) : Int := if h : ∃ z, PsgR N ls p qs x.1.toNat x.2 z then Classical.choose h else 0
theorem psi_eq (J : JN N) (L : Lens N ls) {p : Int} {qs : Qs} {k : Nat} {n z : Int} (h : PsgR N ls p qs k n z) : psi N ls p qs ((k : Int), n) = z := by
  have hx : ∃ z, PsgR N ls p qs ((k : Int), n).1.toNat ((k : Int), n).2 z := ⟨z, h⟩
  unfold psi
  rw [dif_pos hx]
  exact PsgR.same J L (Classical.choose_spec hx) h
/-- the law's way: one arrival after the other -/
def arrI (N : Net) (qs : Qs) (p : Int) : Qs × Evs := joinW N (departW N 8) qs 0 p
def runI (N : Net) (qs : Qs) (p : Int) : Nat → Qs
  | 0 => qs
  | t + 1 => (arrI N (runI N qs p t) (p + (t : Int))).1
structure LenQ (N : Net) (ls : List Int) (qs : Qs) : Prop where
  len : qs.length = N.length
  eq : ∀ k, k < N.length → ls.getD k 0 = ((qs.getD k []).length : Int)
theorem lab_get {t : Int} {k i : Nat} (hi : i < (lab N ls t k).length) : (lab N ls t k)[i]? = some ((k : Int), bt N ls t k * ((N.getD k []).length : Int) - ls.getD k 0 + 1 + (i : Int)) := by
  unfold lab at hi ⊢
  rw [List.length_map, List.length_range] at hi
  rw [List.getElem?_map, List.getElem?_range hi]; rfl
theorem run_labs (J : JN N) (L : Lens N ls) (h8 : N.length ≤ 8) (hp1 : 1 ≤ N.length) {p : Int} {qs : Qs} (LQ : LenQ N ls qs) : ∀ t : Nat, (∀ k, k < N.length → ∀ x ∈ lab N ls t k, ∃ z, PsgR N ls p qs k x.2 z) ∧ runI N qs p t = mapQ (psi N ls p qs) (labs N ls t)
  | 0 => by
    have hb : ∀ k, k < N.length → ∀ i, i < (qs.getD k []).length → ∀ z, (qs.getD k [])[i]? = some z → PsgR N ls p qs k (1 - ls.getD k 0 + (i : Int)) z := fun k hk i hi z hz => by
      have := LQ.eq k hk
      refine .old (by omega) ?_
      rw [show (((qs.getD k []).length : Int) + (1 - ls.getD k 0 + (i : Int) - 1)).toNat = i by omega]
      exact hz
    have hw : ∀ k, k < N.length → wt N ls ((0 : Nat) : Int) k = ((qs.getD k []).length : Int) := fun k hk => by
      unfold wt
      show ls.getD k 0 + jq N ls 0 _ - bt N ls 0 k * _ = _
      rw [bt_zero J.fw L k hk, jq_zero J.fw L, LQ.eq k hk]; omega
    have hx : ∀ k, k < N.length → ∀ i, i < (lab N ls ((0 : Nat) : Int) k).length → (lab N ls ((0 : Nat) : Int) k)[i]? = some ((k : Int), 1 - ls.getD k 0 + (i : Int)) ∧ i < (qs.getD k []).length := fun k hk i hi => by
      have h1 := lab_len (t := ((0 : Nat) : Int)) J.fw L hk
      rw [hw k hk] at h1
      have hb0 : bt N ls ((0 : Nat) : Int) k = 0 := bt_zero J.fw L k hk
      refine ⟨?_, by omega⟩
      rw [lab_get hi, hb0, Int.zero_mul]
      exact congrArg (fun m => some ((k : Int), m)) (by omega)
    refine ⟨fun k hk x hxm => ?_, ?_⟩
    · obtain ⟨i, hi⟩ := List.mem_iff_getElem?.mp hxm
      have hil := (List.getElem?_eq_some_iff.mp hi).1
      obtain ⟨e, hq⟩ := hx k hk i hil
      rw [e] at hi
      cases hi
      exact ⟨_, hb k hk i hq _ (List.getElem?_eq_getElem hq)⟩
    · refine List.ext_getElem? fun k => ?_
      by_cases hk : k < N.length
      · have h1 : (runI N qs p 0)[k]? = some (qs.getD k []) := by
          show qs[k]? = _
          simp [List.getD_eq_getElem?_getD, LQ.len, hk]
        have h2 : (mapQ (psi N ls p qs) (labs N ls ((0 : Nat) : Int)))[k]? = some ((lab N ls ((0 : Nat) : Int) k).map (psi N ls p qs)) := by
          unfold mapQ labs
          rw [List.getElem?_map, List.getElem?_map, List.getElem?_range hk]; rfl
        rw [h1, h2]
        refine congrArg some (List.ext_getElem? fun i => ?_)
        have hll := lab_len (t := ((0 : Nat) : Int)) J.fw L hk
        rw [hw k hk] at hll
        by_cases hi : i < (qs.getD k []).length
        · obtain ⟨e, _⟩ := hx k hk i (by omega)
          rw [List.getElem?_map, e, List.getElem?_eq_getElem hi]
          exact congrArg some (psi_eq J L (hb k hk i hi _ (List.getElem?_eq_getElem hi))).symm
        · rw [List.getElem?_eq_none (by omega), List.getElem?_eq_none (by rw [List.length_map]; omega)]
      · rw [List.getElem?_eq_none (by show qs.length ≤ k; rw [LQ.len]; omega), List.getElem?_eq_none (by unfold mapQ; rw [List.length_map, labs_len]; omega)]
  | t + 1 => by
    obtain ⟨ihE, ih⟩ := run_labs J L h8 hp1 LQ (p := p) t
    have ec : ((t + 1 : Nat) : Int) = (t : Int) + 1 := by omega
    rw [ec]
    have hT1 : (1 : Int) ≤ (t : Int) + 1 := by omega
    have hTT : (t : Int) + 1 - 1 = (t : Int) := by omega
    have hj0 : ∀ u : Int, jq N ls u (.inl ((0 : Nat) : Int)) = u := fun u => by
      unfold jq
      rw [if_pos (by rfl)]
    have newP : PsgR N ls p qs 0 ((t : Int) + 1) (p + (t : Int)) := .new rfl (by omega) (by omega)
    have hp0 : psi N ls p qs (0, (t : Int) + 1) = p + (t : Int) := psi_eq J L newP
    have hrun : runI N qs p (t + 1) = mapQ (psi N ls p qs) (arrL N (labs N ls (t : Int)) (0, (t : Int) + 1)).1 := by
      show (joinW N (departW N 8) (runI N qs p t) 0 (p + (t : Int))).1 = _
      rw [ih, ← hp0, joinW_map (departW_map 8)]
    have key : ∀ k, k < N.length → ((arrL N (labs N ls (t : Int)) (0, (t : Int) + 1)).1.getD k []).length = (lab N ls ((t : Int) + 1) k).length ∧ (arrL N (labs N ls (t : Int)) (0, (t : Int) + 1)).1.length = N.length ∧ ∀ i, i < (lab N ls ((t : Int) + 1) k).length → ∃ (x : Int × Int) (m z : Int), (lab N ls ((t : Int) + 1) k)[i]? = some ((k : Int), m) ∧ ((arrL N (labs N ls (t : Int)) (0, (t : Int) + 1)).1.getD k [])[i]? = some x ∧ PsgR N ls p qs k m z ∧ psi N ls p qs x = z := by
      intro k hk
      have la := line_all J L h8 hT1 hk
      rw [hTT] at la
      obtain ⟨_, hrl, hrw, js, hline, hjs, hjo⟩ := la
      have hl1 := lab_len (t := (t : Int) + 1) J.fw L hk
      have hl0 := lab_len (t := (t : Int)) J.fw L hk
      refine ⟨by omega, hrl, fun i hi => ?_⟩
      have hle := congrArg List.length hline
      rw [List.length_append, List.length_append] at hle
      have u2 : wt N ls ((t : Int) + 1) k = ls.getD k 0 + jq N ls ((t : Int) + 1) (.inl (k : Int)) - bt N ls ((t : Int) + 1) k * ((N.getD k []).length : Int) := rfl
      have u1 : wt N ls (t : Int) k = ls.getD k 0 + jq N ls (t : Int) (.inl (k : Int)) - bt N ls (t : Int) k * ((N.getD k []).length : Int) := rfl
      obtain ⟨x, hx⟩ : ∃ x, ((arrL N (labs N ls (t : Int)) (0, (t : Int) + 1)).1.getD k [])[i]? = some x := ⟨_, List.getElem?_eq_getElem (by omega)⟩
      obtain ⟨m, hm⟩ : ∃ m, m = bt N ls ((t : Int) + 1) k * ((N.getD k []).length : Int) - ls.getD k 0 + 1 + (i : Int) := ⟨_, rfl⟩
      have hlg := lab_get hi
      rw [← hm] at hlg
      have hxl : (lab N ls (t : Int) k ++ js)[(evP (arrL N (labs N ls (t : Int)) (0, (t : Int) + 1)).2 (.inl (k : Int))).length + i]? = some x := by
        rw [← hline, List.getElem?_append_right (by omega), Nat.add_sub_cancel_left]
        exact hx
      refine ⟨x, m, ?_⟩
      by_cases hmj : m ≤ jq N ls (t : Int) (.inl (k : Int))
      · have hil : (evP (arrL N (labs N ls (t : Int)) (0, (t : Int) + 1)).2 (.inl (k : Int))).length + i < (lab N ls (t : Int) k).length := by omega
        rw [List.getElem?_append_left hil, lab_get hil] at hxl
        have ex : x = ((k : Int), m) := by
          rw [← Option.some.inj hxl]
          exact congrArg (fun z => ((k : Int), z)) (by omega)
        obtain ⟨z, hz⟩ := ihE k hk x (by rw [← Option.some.inj hxl]; exact List.mem_of_getElem? (lab_get hil))
        rw [ex] at hz
        exact ⟨z, hlg, hx, hz, by rw [ex]; exact psi_eq J L hz⟩
      · rw [List.getElem?_append_right (by omega)] at hxl
        obtain ⟨h1, h2⟩ := hjo x (List.mem_of_getElem? hxl)
        obtain ⟨k2, hk2, ek2, _, _⟩ := LabN.r J L hT1 hp1 h1
        have hj1 := jq_mono (ls := ls) J.fw L.pos (show (0 : Int) ≤ (t : Int) by omega) (.inl (k : Int))
        rw [jq_zero J.fw L] at hj1
        have hmle : m ≤ jq N ls ((t : Int) + 1) (.inl (k : Int)) := by omega
        by_cases h0 : k = 0
        · subst h0
          have ex : x = (0, (t : Int) + 1) := h2.elim (fun h => by omega) fun h => h.2
          rw [hj0] at hmj hmle
          have em : m = (t : Int) + 1 := by omega
          subst em
          exact ⟨_, hlg, hx, newP, by rw [ex]; exact hp0⟩
        · have hlt : x.1 < (k : Int) := h2.elim id fun h => absurd h.1 h0
          obtain ⟨z, hz⟩ : ∃ z, PsgR N ls p qs k2 x.2 z := by
            rcases h1 with rfl | ⟨k', hk', hx'⟩
            · have : k2 = 0 := by
                have : (0 : Int) = (k2 : Int) := ek2
                omega
              subst this
              exact ⟨_, newP⟩
            · rw [hTT] at hx'
              obtain ⟨e1, _, _⟩ := lab_ok J.fw L (by omega) hk' x hx'
              have : k2 = k' := by omega
              subst this
              exact ihE k2 hk2 x hx'
          have ex : x = ((k2 : Int), x.2) := by rw [← ek2]
          have hsrc : Src N ls k m ((k2 : Int), x.2) := by
            refine ⟨(t : Int) + 1, hT1, by rw [hTT]; omega, hmle, ?_⟩
            unfold lineW
            rw [hTT, hline, List.length_append, ← ex]
            rw [List.getElem?_append_right (by omega)]
            rw [show (((lab N ls (t : Int) k).length + js.length : Nat) : Int) + (m - jq N ls ((t : Int) + 1) (.inl (k : Int)) - 1) = (((evP (arrL N (labs N ls (t : Int)) (0, (t : Int) + 1)).2 (.inl (k : Int))).length + i : Nat) : Int) by omega]
            exact hxl
          refine ⟨z, hlg, hx, .step (by omega) (by omega) hsrc hz, ?_⟩
          rw [ex]
          exact psi_eq J L hz
    refine ⟨fun k hk x hxm => ?_, ?_⟩
    · obtain ⟨i, hi⟩ := List.mem_iff_getElem?.mp hxm
      obtain ⟨_, _, h3⟩ := key k hk
      obtain ⟨x', m, z, h4, _, h6, _⟩ := h3 i (List.getElem?_eq_some_iff.mp hi).1
      rw [hi] at h4
      cases h4
      exact ⟨z, h6⟩
    · rw [hrun]
      refine List.ext_getElem? fun k => ?_
      have hrl := (key 0 hp1).2.1
      unfold mapQ
      rw [List.getElem?_map, List.getElem?_map]
      by_cases hk : k < N.length
      · obtain ⟨h1, _, h3⟩ := key k hk
        have e1 : (arrL N (labs N ls (t : Int)) (0, (t : Int) + 1)).1[k]? = some ((arrL N (labs N ls (t : Int)) (0, (t : Int) + 1)).1.getD k []) := by
          rw [List.getD_eq_getElem?_getD, List.getElem?_eq_getElem (by omega)]; rfl
        have e2 : (labs N ls ((t : Int) + 1))[k]? = some (lab N ls ((t : Int) + 1) k) := by
          unfold labs
          rw [List.getElem?_map, List.getElem?_range hk]; rfl
        rw [e1, e2]
        refine congrArg some (List.ext_getElem? fun i => ?_)
        rw [List.getElem?_map, List.getElem?_map]
        by_cases hi : i < (lab N ls ((t : Int) + 1) k).length
        · obtain ⟨x, m, z, h4, h5, h6, h7⟩ := h3 i hi
          rw [h4, h5]
          exact congrArg some (h7.trans (psi_eq J L h6).symm)
        · rw [List.getElem?_eq_none (by omega), List.getElem?_eq_none (by omega)]
      · rw [List.getElem?_eq_none (by omega), List.getElem?_eq_none (by rw [labs_len]; omega)]
end
end K
set_option maxHeartbeats 4000000
/-! a tuple times two, also the empty one (as F7). -/
namespace FB
open PySem PySem.Spec PyProof.Rows L2 Evl
open Sem (wp)
/-- a method's call in a comprehension's block: the reading names K -/
theorem pe_toK {X : Cx} {K : PySem.W.Frag} {e : Expr} {T : String} {r : V → List V → Hp → VK → Prop} {to : TE} {t : TA} (h : PE X e (tBM X.K T r to t)) (hK : X.K = K := by rfl) : PE X e (tBM K T r to t) := hK ▸ h
/-- list.count in a comprehension's block -/
theorem mt_countFK {X : Cx} {K : PySem.W.Frag} (hK : X.K = K := by rfl) : MtR X "list.count" (rCntF K) := by subst hK; exact mt_countF
end FB
/-! (x,) * n, n = 0 too. -/
namespace FB
open PySem PySem.Spec PyProof.Rows L2 Evl
open Sem (wp)
theorem tuple_mul0 (l : Addr) (items : Array Value) (n : Nat) (dd : Option Addr) (sl : Array (Option Value)) (u : Tok) (c1 : (items.isEmpty || (0 : Int) == 1) = false) :
    Meets (Builtin.«tuple.__mul__» ⟨[.ref l, .int 0 u], []⟩) (fun _ R s => s.heap.get? l = some { cls := .type "tuple", dict := dd, data := .seq items n, slots := sl } ∧
      R (.ok (.ret (Value.ref s.heap.objs.size))) { s with heap := s.heap.push { cls := Value.type "tuple", data := Data.seq #[] }, toks := s.toks }) :=
  .of_wp fun prog w A R s h => by
    obtain ⟨hp, g, d, tk, os⟩ := s
    obtain ⟨hl, h⟩ := h
    have f1 := AutoSeq1.idx_int
    wp_walk using wpAny_loadPart' hl
    repeat (first
      | (refine wpAny_ite_false (decide_eq_false (by rw [c1]; exact Bool.false_ne_true)) ?_; wp_walk using wpAny_loadPart' hl))
    exact ⟨_, rfl, h⟩
def rMul0 (K : PySem.W.Frag) : R2 := fun x y H Q => ∃ l xs, x = .ref l ∧ y = .int 0 ∧ SqT K H l xs ∧ xs ≠ [] ∧ ∀ p, H p = none → Q (.ref p) (upd H p (.tup []))
theorem op_mul0 {X : Cx} : OpR X (binaryOp .Mult) (rMul0 X.K) := by
  intro pins s σ H x y v u Q I rx ry h
  obtain ⟨l, xs, rfl, rfl, hT, hne, q⟩ := h
  cases rx
  obtain ⟨t, rfl⟩ := ry
  obtain ⟨its, r, ⟨⟨cls, dd, data, sl⟩, ho, hc, n, hd⟩, hs⟩ := I.tuple hT
  simp only at hc hd
  subst hc hd
  have hle : its.length = xs.length := r.length.symm
  have hi : its.toArray.isEmpty = false := by
    cases its with
    | nil => exact absurd (List.eq_nil_of_length_eq_zero hle.symm) hne
    | cons a b => rfl
  have c1 : (its.toArray.isEmpty || (0 : Int) == 1) = false := by rw [hi]; rfl
  refine wpAny_binaryOp_repeat_ref (T := "tuple") (U := "int") (by decide) ⟨_, ho, rfl⟩ (fun s' => typeIs_int s' 0 t) noFill_tuple_mul F.fills_int_mul F.slot_int_rmul repeat_tuple F.slot_int_index.lookup
    (call_meets F.slot_int_rmul (typeIs_int s 0 t) F.entry_int_rmul (F.args_int_rmul_2 _ _) (int_rmul_tuple 0 t l its.toArray n dd sl)
      ⟨ho, rfl, ⟨_, ho, rfl⟩, call_meets F.slot_tuple_mul ⟨_, ho, rfl⟩ F.entry_tuple_mul (F.args_tuple_mul_2 _ _) (tuple_mul0 l its.toArray n dd sl t c1) ⟨ho, ?_⟩⟩)
  refine ⟨.ref s.heap.objs.size, _, I.laid (t' := s.toks) (o := .tup []) (fun b ob q => Heap.get?_push_of_some _ q) (Nat.le_refl _) ?_, rfl, q _ (I.hok.fresh (Nat.le_refl _))⟩
  exact ⟨by simp [sizeLine_eq], _, .nil, IsTup.new _ _⟩
/-- (x,) * n, n from 0 on -/
def rMulZ (K : PySem.W.Frag) : R2 := fun x y H Q => rMulV K x y H Q ∨ rMul0 K x y H Q
theorem op_mulZ {X : Cx} {K : PySem.W.Frag} (hK : X.K = K := by rfl) : OpR X (binaryOp .Mult) (rMulZ K) := by
  subst hK
  exact orOp op_mulV op_mul0
theorem x_mulZ {K : PySem.W.Frag} {H : Hp} {p : Addr} {x : V} {n : Nat} {Q : VK} (h : H p = some (.tup [x])) (h2 : n ≤ 1000) (q : ∀ l H', Ex H H' → H' l = some (.tup (List.replicate n x)) → Q (.ref l) H') : rMulZ K (.ref p) (.int (n : Nat)) H Q := by
  by_cases e : n = 0
  · subst e
    exact .inr ⟨p, [x], rfl, rfl, SqT.of h, by simp, x_new fun l H' _ e hl => q l H' e hl⟩
  · exact .inl (x_mulT h (by omega) h2 q)
end FB
set_option maxHeartbeats 1000000
namespace K
open PySem PySem.Spec PyProof.Rows L2 Evl FB
local macro_rules | `(tactic| walk_at "run") => `(tactic| try simp only [tSeq, tAsg, tVar, tC, gName, L2.start, List.map_cons, List.map_nil, List.cons_append, List.nil_append, List.length_cons, List.length_nil, List.replicate, List.getElem?_cons_zero, List.getElem?_cons_succ, Option.some.injEq, exists_eq_left', List.set_cons_zero, List.set_cons_succ, V.ref.injEq, tRet, x_tLst, x_tTup, tCons, tCB, tNil, tOp, x_addI, x_mulI, x_rI, x_rI0, x_ltI, x_leI, x_ltS, x_leS, x_eqI, x_neI, x_eqS, x_eqB, x_neB, x_isiI, x_isiS, x_int, x_max, x_min, cxOf, tIfS, tNext, tTest, V.bl.injEq, decide_eq_true_eq, gSub, tAnd, tOr, tNot, tB, tDrop, tBM, x_tFor, iRng1, iList, iTup, x_tLc, tYes, tCall, tIf, tAndV, tOrV, tNotV, tChain, List.append_nil, tUn, if_true, wipe, true_and, x_never, iU, x_itS, kV, Nat.reduceAdd, Nat.reduceSub, List.replicate_zero, x_rU, x_tMkO, iEnumT, x_tDc, x_tDGet, x_tDGet2, x_sDPut, x_tDSetd, x_tDNewK, x_iItems, x_iZip, x_tSAddK, x_tLockV, x_tTupRg, x_tRg2, tPar, tPar3, tBM0, tSl, tNoPart, tPart, x_tSetAdd, x_tDIn, x_iKeys, x_iZipX, x_iZip3, iRevR, tRg1, x_tFld, x_tMeth, x_sFld, x_tMake, tAug, x_ipI, x_tDNotIn, iRng2, tAugS, tBMZ, tTupZ])
/-! one period of arrivals: what it records, and where that stands -/
abbrev Row := List Int × Int
def rowD (r : Row) : PyData := .tuple [.tuple (r.1.map PyData.int), .int r.2]
theorem rowD_t (r : Row) : TupD (rowD r) := .tup fun d hd => by
  rcases List.mem_cons.mp hd with rfl | hd
  · exact .tup fun d hd => by
      obtain ⟨i, _, rfl⟩ := List.mem_map.mp hd
      exact .int i
  · rw [List.mem_singleton.mp hd]; exact .int _
theorem rows_t {rs : List Row} : ∀ d ∈ rs.map rowD, TupD d := fun d hd => by
  obtain ⟨r, _, rfl⟩ := List.mem_map.mp hd
  exact rowD_t r
def intsD (l : List Int) : PyData := .tuple (l.map PyData.int)
/-- a tuple of ints that was made at run time; a list of such -/
def RawT (H : Hp) (b : Addr) (l : List Int) : Prop := H b = some (.tup (l.map V.int))
structure RawL (H : Hp) (a : Addr) (ls : List (List Int)) : Prop where
  ex : ∃ bs : List Addr, H a = some (.lst (bs.map V.ref)) ∧ bs.length = ls.length ∧ ∀ (i : Nat) (b : Addr) (l : List Int), bs[i]? = some b → ls[i]? = some l → RawT H b l
section
variable {K : PySem.W.Frag} {H H' : Hp} {a b : Addr} {l : List Int} {ls : List (List Int)}
theorem RawT.tx (h : RawT H b l) (t : TX H H') : RawT H' b l := t _ _ h trivial
theorem ints_dp : ∀ r : List Int, DpAll K H (r.map V.int) (r.map PyData.int)
  | [] => .nil
  | i :: r => .cons (.int i) (ints_dp r)
theorem RawT.dp (h : RawT H b l) : Dp K H (.ref b) (intsD l) := .tup (SqT.of h) (ints_dp l)
theorem RawL.tx (h : RawL H a ls) (t : TX H H') (k : ∀ o, H a = some o → H' a = some o) : RawL H' a ls := by
  obtain ⟨bs, h1, h2, h3⟩ := h.ex
  exact ⟨⟨bs, k _ h1, h2, fun i b l g1 g2 => (h3 i b l g1 g2).tx t⟩⟩
theorem RawL.ex2 (h : RawL H a ls) (e : Ex H H') : RawL H' a ls := h.tx (TX.of e) fun o => e _ _
theorem RawL.snoc {xs : List V} (h : RawL H a ls) (g : H a = some (.lst xs)) (t : TX H H') (k : H' a = some (.lst (xs ++ [.ref b]))) (hb : RawT H' b l) : RawL H' a (ls ++ [l]) := by
  obtain ⟨bs, h1, h2, h3⟩ := h.ex
  rw [h1] at g
  obtain rfl : bs.map V.ref = xs := by cases g; rfl
  refine ⟨⟨bs ++ [b], by rw [List.map_append]; exact k, by simp [h2], fun i b' l' g1 g2 => ?_⟩⟩
  rcases Nat.lt_or_ge i bs.length with q | q
  · rw [List.getElem?_append_left q] at g1
    rw [List.getElem?_append_left (h2 ▸ q)] at g2
    exact (h3 i b' l' g1 g2).tx t
  · rw [List.getElem?_append_right q] at g1
    rw [List.getElem?_append_right (h2 ▸ q)] at g2
    have hi : i - bs.length = 0 := by
      obtain ⟨w, _⟩ := List.getElem?_eq_some_iff.mp g1
      simp at w
      omega
    rw [hi] at g1
    rw [← h2, hi] at g2
    cases g1
    cases g2
    exact hb
theorem RawL.nil (h : H a = some (.lst [])) : RawL H a [] := ⟨⟨[], h, rfl, fun _ _ _ h => by simp at h⟩⟩
theorem RawL.lst (h : RawL H a ls) : ∃ xs, H a = some (.lst xs) ∧ xs.length = ls.length := by
  obtain ⟨bs, h1, h2, _⟩ := h.ex
  exact ⟨_, h1, by simpa using h2⟩
end
abbrev RowsF := Key → List Row
def addR (R : RowsF) (k : Key) (r : Row) : RowsF := fun x => if x = k then R x ++ [r] else R x
def addE (t : Int) : RowsF → Evs → RowsF
  | R, [] => R
  | R, e :: es => addE t (addR R e.1 (e.2, t)) es
theorem addE_snoc {t : Int} {e : Key × List Int} : ∀ {es : Evs} {R : RowsF}, addE t R (es ++ [e]) = addR (addE t R es) e.1 (e.2, t)
  | [], _ => rfl
  | _ :: es, _ => addE_snoc (es := es)
structure CyS where
  qs : Qs
  R : RowsF
  L : List (List Int)
  A : List (Key → Nat)
def cyStep (N : Net) (S : CyS) (t : Int) : CyS := ⟨(arrI N S.qs t).1, addE t S.R (arrI N S.qs t).2, S.L ++ [lens S.qs], S.A ++ [fun k => (S.R k).length]⟩
def cyRun (N : Net) (q0 : Qs) : Nat → CyS
  | 0 => ⟨q0, fun _ => [], [], []⟩
  | n + 1 => cyStep N (cyRun N q0 n) ((n : Int) + 1)
/-- a dict of lists of rows -/
structure RwAt (K : PySem.W.Frag) (H : Hp) (Fp : Addr → Prop) (D : Addr) (R : RowsF) (A : Key → Option Addr) (kvs : List (Key × V)) (cl c : Nat) : Prop where
  d : H D = some (.dK kvs)
  fd : Fp D
  val : ∀ k, valV kvs k = (A k).map V.ref
  ls : ∀ k b, A k = some b → LsAt K H b ((R k).map rowD)
  fl : ∀ k b, A k = some b → Fp b
  no : ∀ k, A k = none → R k = []
  inj : ∀ k k' b, A k = some b → A k' = some b → k = k'
  nd : (kvs.map (·.1)).Nodup
  len : kvs.length ≤ cl
  tot : ∀ k, (R k).length ≤ c
section
variable {K : PySem.W.Frag} {H H' : Hp} {Fp Fp' : Addr → Prop} {D : Addr} {R : RowsF} {A : Key → Option Addr} {kvs : List (Key × V)} {cl c : Nat} {k : Key} {b z : Addr} {r : Row}
theorem ls_ne_dK {ds : List PyData} {a d : Addr} {kvs : List (Key × V)} (h : LsAt K H a ds) (hd : H d = some (.dK kvs)) : a ≠ d := fun z => by
  obtain ⟨ts, h1, _⟩ := h.ex
  rw [z, hd] at h1; cases h1
theorem RwAt.keep (W : RwAt K H Fp D R A kvs cl c) (e : ∀ x o, Fp x → H x = some o → H' x = some o) (t : TX H H') : RwAt K H' Fp D R A kvs cl c :=
  ⟨e _ _ W.fd W.d, W.fd, W.val, fun k b h => (W.ls k b h).tx rows_t t fun o => e _ _ (W.fl k b h), W.fl, W.no, W.inj, W.nd, W.len, W.tot⟩
theorem RwAt.mono (W : RwAt K H Fp D R A kvs cl c) (m : ∀ x o, H x = some o → Fp x → Fp' x) : RwAt K H Fp' D R A kvs cl c :=
  ⟨W.d, m _ _ W.d W.fd, W.val, W.ls, fun k b h => by
    obtain ⟨ts, h1, _⟩ := (W.ls k b h).ex
    exact m _ _ h1 (W.fl k b h), W.no, W.inj, W.nd, W.len, W.tot⟩
theorem RwAt.app (W : RwAt K H Fp D R A kvs cl c) (hb : A k = some b) (e : ∀ x o, x ≠ b → H x = some o → H' x = some o) (t : TX H H') (h : LsAt K H' b ((R k ++ [r]).map rowD)) : RwAt K H' Fp D (addR R k r) A kvs cl (c + 1) := by
  have hD : D ≠ b := (ls_ne_dK (W.ls k b hb) W.d).symm
  refine ⟨e _ _ hD W.d, W.fd, W.val, fun k' b' hb' => ?_, W.fl, fun k' hk' => ?_, W.inj, W.nd, W.len, fun k' => ?_⟩
  · unfold addR
    by_cases q : k' = k
    · subst q
      rw [hb] at hb'
      cases hb'
      rw [if_pos rfl]; exact h
    · rw [if_neg q]
      exact (W.ls k' b' hb').tx rows_t t fun o => e _ _ fun z => q (W.inj _ _ _ (z ▸ hb') hb)
  · unfold addR
    rw [if_neg (fun z => by rw [z, hb] at hk'; cases hk')]
    exact W.no k' hk'
  · have := W.tot k'
    unfold addR
    split
    · rw [List.length_append]; simp; omega
    · omega
theorem RwAt.new (W : RwAt K H Fp D R A kvs cl c) (hk : A k = none) (hz : H z = none) (fz : Fp z) (e : ∀ x o, x ≠ D → H x = some o → H' x = some o) (t : TX H H') (hd : H' D = some (.dK (putK kvs k (.ref z)))) (h : H' z = some (.lst [])) :
    RwAt K H' Fp D R (fun x => if x = k then some z else A x) (putK kvs k (.ref z)) (cl + 1) c := by
  have ne : ∀ k' b', A k' = some b' → b' ≠ z := fun k' b' hb' q => by
    obtain ⟨ts, h1, _⟩ := (W.ls k' b' hb').ex
    rw [q, hz] at h1; cases h1
  refine ⟨hd, W.fd, fun k' => ?_, fun k' b' hb' => ?_, fun k' b' hb' => ?_, fun k' hk' => ?_, fun k1 k2 b' h1 h2 => ?_, putK_keys W.nd, ?_, W.tot⟩
  · rw [valV_put]
    by_cases q : k' = k
    · simp [q]
    · simp [q, W.val]
  · have hb' : (if k' = k then some z else A k') = some b' := hb'
    by_cases q : k' = k
    · rw [if_pos q] at hb'
      cases hb'
      rw [q, W.no k hk]
      exact ⟨⟨[], h, .nil⟩⟩
    · rw [if_neg q] at hb'
      exact (W.ls k' b' hb').tx rows_t t fun o => e _ _ (ls_ne_dK (W.ls k' b' hb') W.d)
  · have hb' : (if k' = k then some z else A k') = some b' := hb'
    by_cases q : k' = k
    · rw [if_pos q] at hb'; cases hb'; exact fz
    · rw [if_neg q] at hb'; exact W.fl k' b' hb'
  · have hk' : (if k' = k then some z else A k') = none := hk'
    by_cases q : k' = k
    · rw [if_pos q] at hk'; cases hk'
    · rw [if_neg q] at hk'; exact W.no k' hk'
  · have h1 : (if k1 = k then some z else A k1) = some b' := h1
    have h2 : (if k2 = k then some z else A k2) = some b' := h2
    by_cases q1 : k1 = k
    · rw [if_pos q1] at h1
      cases h1
      by_cases q2 : k2 = k
      · rw [q1, q2]
      · rw [if_neg q2] at h2
        exact (ne _ _ h2 rfl).elim
    · rw [if_neg q1] at h1
      by_cases q2 : k2 = k
      · rw [if_pos q2] at h2
        cases h2
        exact (ne _ _ h1 rfl).elim
      · rw [if_neg q2] at h2
        exact W.inj _ _ _ h1 h2
  · have := putK_le1 (kvs := kvs) (k := k) (v := .ref z)
    have := W.len
    omega
end
/-- a dict that tells numbers -/
def CtAt (H : Hp) (r : Addr) (c : Key → Nat) : Prop := ∃ kvs, H r = some (.dK kvs) ∧ ∀ k, (valV kvs k).getD (.int 0) = .int (c k : Int)
structure RaAt (H : Hp) (Fp : Addr → Prop) (D Ra : Addr) (cs : List (Key → Nat)) : Prop where
  ex : ∃ rs : List Addr, H Ra = some (.lst (rs.map V.ref)) ∧ rs.length = cs.length ∧ ∀ (i : Nat) (r : Addr) (c : Key → Nat), rs[i]? = some r → cs[i]? = some c → CtAt H r c ∧ Fp r ∧ r ≠ D
  fr : Fp Ra
theorem RaAt.keep {H H' : Hp} {Fp : Addr → Prop} {D Ra : Addr} {cs : List (Key → Nat)} (W : RaAt H Fp D Ra cs) (e : ∀ x o, Fp x → H x = some o → H' x = some o) : RaAt H' Fp D Ra cs := by
  obtain ⟨rs, h1, h2, h3⟩ := W.ex
  exact ⟨⟨rs, e _ _ W.fr h1, h2, fun i r c hr hc => by
    obtain ⟨⟨kvs, g1, g2⟩, g3, g4⟩ := h3 i r c hr hc
    exact ⟨⟨kvs, e _ _ g3 g1, g2⟩, g3, g4⟩⟩, W.fr⟩
theorem RaAt.mono {H : Hp} {Fp Fp' : Addr → Prop} {D Ra : Addr} {cs : List (Key → Nat)} (W : RaAt H Fp D Ra cs) (m : ∀ x o, H x = some o → Fp x → Fp' x) : RaAt H Fp' D Ra cs := by
  obtain ⟨rs, h1, h2, h3⟩ := W.ex
  exact ⟨⟨rs, h1, h2, fun i r c hr hc => by
    obtain ⟨⟨kvs, g1, g2⟩, g3, g4⟩ := h3 i r c hr hc
    exact ⟨⟨kvs, g1, g2⟩, m _ _ g1 g3, g4⟩⟩, m _ _ h1 W.fr⟩
theorem RaAt.snoc {H H' : Hp} {Fp : Addr → Prop} {D Ra z : Addr} {cs : List (Key → Nat)} {c : Key → Nat} {xs : List V} (W : RaAt H Fp D Ra cs) (h : H Ra = some (.lst xs)) (e : ∀ x o, x ≠ Ra → H x = some o → H' x = some o) (hR : H' Ra = some (.lst (xs ++ [.ref z]))) (hz : CtAt H z c) (fz : Fp z) (zD : z ≠ D) : RaAt H' Fp D Ra (cs ++ [c]) := by
  obtain ⟨rs, h1, h2, h3⟩ := W.ex
  rw [h1] at h
  obtain rfl : rs.map V.ref = xs := by cases h; rfl
  have kp : ∀ r c, CtAt H r c → CtAt H' r c := fun r c ⟨kvs, g1, g2⟩ => ⟨kvs, e _ _ (fun q => by rw [q, h1] at g1; cases g1) g1, g2⟩
  refine ⟨⟨rs ++ [z], by rw [List.map_append]; exact hR, by simp [h2], fun i r c' hr hc => ?_⟩, W.fr⟩
  rcases Nat.lt_or_ge i rs.length with g | g
  · rw [List.getElem?_append_left g] at hr
    rw [List.getElem?_append_left (h2 ▸ g)] at hc
    obtain ⟨a1, a2, a3⟩ := h3 i r c' hr hc
    exact ⟨kp _ _ a1, a2, a3⟩
  · rw [List.getElem?_append_right g] at hr
    rw [List.getElem?_append_right (h2 ▸ g)] at hc
    have hi : i - rs.length = 0 := by
      obtain ⟨w, _⟩ := List.getElem?_eq_some_iff.mp hr
      simp at w
      omega
    rw [hi] at hr
    rw [← h2, hi] at hc
    cases hr
    cases hc
    exact ⟨kp _ _ hz, fz, zD⟩
/-- where a cycle stands -/
structure Cy where
  a : Addr
  dx : Addr
  v : V
  D : Addr
  La : Addr
  Ra : Addr
def Cy.fs (M : Cy) (per : Nat) : List (Str × V) := [("network", M.v), ("period", .int (per : Int)), ("rows", .ref M.D), ("lengths_at", .ref M.La), ("rows_at", .ref M.Ra)]
structure CF (K : PySem.W.Frag) (C : Addr) : Prop where
  c : Cls K C
  network : NoAttr K C "network"
  period : NoAttr K C "period"
  rows : NoAttr K C "rows"
  lengths_at : NoAttr K C "lengths_at"
  rows_at : NoAttr K C "rows_at"
/-- a cycle with its records, at most c events -/
structure CyT (K : PySem.W.Frag) (C : Addr) (H : Hp) (Fp : Addr → Prop) (N : Net) (per : Nat) (S : CyS) (M : Cy) (c : Nat) : Prop where
  ins : H M.a = some (.ins C M.dx (M.fs per))
  fa : Fp M.a
  net : NetAt K H M.v N
  rw_ : ∃ A kvs, RwAt K H Fp M.D S.R A kvs c c ∧ ∀ k b, A k = some b → b ≠ M.La ∧ b ≠ M.Ra ∧ S.R k ≠ []
  la : RawL H M.La S.L
  fl : Fp M.La
  ra : RaAt H Fp M.D M.Ra S.A
  ne : M.La ≠ M.Ra
section
variable {K : PySem.W.Frag} {C : Addr} {H H' : Hp} {Fp Fp' : Addr → Prop} {N : Net} {per : Nat} {S : CyS} {M : Cy} {c : Nat} {y : Addr}
theorem CyT.keep (W : CyT K C H Fp N per S M c) (e : ∀ x o, Fp x → H x = some o → H' x = some o) (t : TX H H') : CyT K C H' Fp N per S M c := by
  obtain ⟨A, kvs, h1, h2⟩ := W.rw_
  exact ⟨e _ _ W.fa W.ins, W.fa, NetAt.tx t W.net, ⟨A, kvs, h1.keep e t, h2⟩, W.la.tx t fun o => e _ _ W.fl, W.fl, W.ra.keep e, W.ne⟩
theorem CyT.ex (W : CyT K C H Fp N per S M c) (e : Ex H H') : CyT K C H' Fp N per S M c := W.keep (fun x o _ h => e x o h) (TX.of e)
theorem CyT.mono (W : CyT K C H Fp N per S M c) (m : ∀ x o, H x = some o → Fp x → Fp' x) : CyT K C H Fp' N per S M c := by
  obtain ⟨A, kvs, h1, h2⟩ := W.rw_
  obtain ⟨ts, g, _⟩ := W.la.lst
  exact ⟨W.ins, m _ _ W.ins W.fa, W.net, ⟨A, kvs, h1.mono m, h2⟩, W.la, m _ _ g W.fl, W.ra.mono m, W.ne⟩
/-- what is new is none of it -/
theorem CyT.avoid (W : CyT K C H Fp N per S M c) (hy : H y = none) : CyT K C H (fun x => Fp x ∧ x ≠ y) N per S M c := W.mono fun x o h f => ⟨f, ne_of_none h hy⟩
theorem CyT.le {d : Nat} (W : CyT K C H Fp N per S M c) (h : c ≤ d) : CyT K C H Fp N per S M d := by
  obtain ⟨A, kvs, h1, h2⟩ := W.rw_
  exact { W with rw_ := ⟨A, kvs, { h1 with len := Nat.le_trans h1.len h, tot := fun k => Nat.le_trans (h1.tot k) h }, h2⟩ }
theorem CyT.setL {l : List Int} {xs : List V} (W : CyT K C H Fp N per S M c) (h : H M.La = some (.lst xs)) (e : ∀ x o, x ≠ M.La → H x = some o → H' x = some o) (hL : RawL H' M.La (S.L ++ [l])) : CyT K C H' Fp N per { S with L := S.L ++ [l] } M c := by
  have t : TX H H' := TX.but h e
  obtain ⟨A, kvs, h1, h2⟩ := W.rw_
  refine ⟨e _ _ (fun z => by have := W.ins; rw [z, h] at this; cases this) W.ins, W.fa, NetAt.tx t W.net, ⟨A, kvs, ⟨e _ _ (fun z => by have := h1.d; rw [z, h] at this; cases this) h1.d, h1.fd, h1.val, fun k b hb => (h1.ls k b hb).tx rows_t t fun o => e _ _ (h2 k b hb).1, h1.fl, h1.no, h1.inj, h1.nd, h1.len, h1.tot⟩, h2⟩, hL, W.fl, ?_, W.ne⟩
  obtain ⟨rs, g1, g2, g3⟩ := W.ra.ex
  exact ⟨⟨rs, e _ _ W.ne.symm g1, g2, fun i r c hr hc => by
    obtain ⟨⟨ks, a1, a2⟩, a3, a4⟩ := g3 i r c hr hc
    exact ⟨⟨ks, e _ _ (fun z => by rw [z, h] at a1; cases a1) a1, a2⟩, a3, a4⟩⟩, W.ra.fr⟩
theorem CyT.setA {z : Addr} {ct : Key → Nat} {xs : List V} (W : CyT K C H Fp N per S M c) (h : H M.Ra = some (.lst xs)) (e : ∀ x o, x ≠ M.Ra → H x = some o → H' x = some o) (hR : H' M.Ra = some (.lst (xs ++ [.ref z]))) (hz : CtAt H z ct) (fz : Fp z) (zD : z ≠ M.D) : CyT K C H' Fp N per { S with A := S.A ++ [ct] } M c := by
  have t : TX H H' := TX.but h e
  obtain ⟨A, kvs, h1, h2⟩ := W.rw_
  refine ⟨e _ _ (fun z => by have := W.ins; rw [z, h] at this; cases this) W.ins, W.fa, NetAt.tx t W.net, ⟨A, kvs, ⟨e _ _ (fun z => by have := h1.d; rw [z, h] at this; cases this) h1.d, h1.fd, h1.val, fun k b hb => (h1.ls k b hb).tx rows_t t fun o => e _ _ (h2 k b hb).2.1, h1.fl, h1.no, h1.inj, h1.nd, h1.len, h1.tot⟩, h2⟩, W.la.tx t fun o => e _ _ W.ne, W.fl, W.ra.snoc h e hR hz fz zD, W.ne⟩
theorem CyT.setR {R' : RowsF} {A' : Key → Option Addr} {kvs' : List (Key × V)} {c' : Nat} (W : CyT K C H Fp N per S M c) (t : TX H H') (e : ∀ x o, x ≠ M.D → (∀ k b, A' k = some b → x ≠ b) → H x = some o → H' x = some o)
    (hb : ∀ k b, A' k = some b → b ≠ M.La ∧ b ≠ M.Ra ∧ (H b = none ∨ ∃ xs, H b = some (.lst xs))) (ne : ∀ k b, A' k = some b → R' k ≠ []) (h : RwAt K H' Fp M.D R' A' kvs' c' c') : CyT K C H' Fp N per { S with R := R' } M c' := by
  obtain ⟨A, kvs, h1, h2⟩ := W.rw_
  have nl : ∀ x o, H x = some o → (∀ xs, o ≠ .lst xs) → ∀ k b, A' k = some b → x ≠ b := fun x o hx ho k b hk z => by
    rcases (hb k b hk).2.2 with g | ⟨xs, g⟩
    · rw [z, g] at hx; cases hx
    · rw [z, g] at hx; exact ho xs (Option.some.inj hx).symm
  obtain ⟨ts, g, _⟩ := W.la.lst
  refine ⟨e _ _ (fun z => by have := W.ins; rw [z, h1.d] at this; cases this) (nl _ _ W.ins fun xs z => by cases z) W.ins, W.fa, NetAt.tx t W.net, ⟨A', kvs', h, fun k b hk => ⟨(hb k b hk).1, (hb k b hk).2.1, ne k b hk⟩⟩, W.la.tx t fun o ho => e _ _ (fun z => by rw [z, h1.d] at g; cases g) (fun k b hk z => (hb k b hk).1 z.symm) ho, W.fl, ?_, W.ne⟩
  obtain ⟨rs, g1, g2, g3⟩ := W.ra.ex
  exact ⟨⟨rs, e _ _ (fun z => by rw [z, h1.d] at g1; cases g1) (fun k b hk z => (hb k b hk).2.1 z.symm) g1, g2, fun i r c hr hc => by
    obtain ⟨⟨ks, a1, a2⟩, a3, a4⟩ := g3 i r c hr hc
    exact ⟨⟨ks, e _ _ a4 (nl _ _ a1 fun xs z => by cases z) a1, a2⟩, a3, a4⟩⟩, W.ra.fr⟩
theorem CyT.putQ {qs : Qs} (W : CyT K C H Fp N per S M c) : CyT K C H Fp N per { S with qs := qs } M c := ⟨W.ins, W.fa, W.net, W.rw_, W.la, W.fl, W.ra, W.ne⟩
end
local macro_rules | `(tactic| walk_at "run") => `(tactic| try simp only [tSeq, tAsg, tVar, tC, gName, L2.start, List.map_cons, List.map_nil, List.cons_append, List.nil_append, List.length_cons, List.length_nil, List.replicate, List.getElem?_cons_zero, List.getElem?_cons_succ, Option.some.injEq, exists_eq_left', List.set_cons_zero, List.set_cons_succ, V.ref.injEq, tRet, x_tLst, x_tTup, tCons, tCB, tNil, tOp, x_addI, x_mulI, x_rI, x_rI0, x_ltI, x_leI, x_ltS, x_leS, x_eqI, x_neI, x_eqS, x_eqB, x_neB, x_isiI, x_isiS, x_int, x_max, x_min, cxOf, tIfS, tNext, tTest, V.bl.injEq, decide_eq_true_eq, gSub, tAnd, tOr, tNot, tB, tDrop, tBM, x_tFor, iRng1, iList, iTup, x_tLc, tYes, tCall, tIf, tAndV, tOrV, tNotV, tChain, List.append_nil, tUn, if_true, wipe, true_and, x_never, iU, x_itS, kV, Nat.reduceAdd, Nat.reduceSub, List.replicate_zero, x_rU, x_tMkO, iEnumT, x_tDc, x_tDGet, x_tDGet2, x_sDPut, x_tDSetd, x_tDNewK, x_iItems, x_iZip, x_tSAddK, x_tLockV, x_tTupRg, x_tRg2, tPar, tPar3, tBM0, tSl, tNoPart, tPart, x_tSetAdd, x_tDIn, x_iKeys, x_iZipX, x_iZip3, iRevR, tRg1, x_tFld, x_tMeth, x_sFld, x_tMake, tAug, x_ipI, x_tDNotIn, iRng2])
/-! Timetable.source -/
section
variable {P : Program} {w : World} {K : PySem.W.Frag} {mg : Str → Option Value} {base : Heap}
theorem atI_neg {α : Type} {xs : List α} {i : Int} {v : α} (h0 : i < 0) (h1 : -(xs.length : Int) ≤ i) (h : xs[((xs.length : Int) + i).toNat]? = some v) : atI xs i = some v := by
  unfold atI ixN
  rw [if_neg (by omega), if_pos h1]
  rw [Int.add_comm] at h
  exact h
abbrev s_Timetable_source : Stmt := inClass (top 57) 8
theorem sc_Timetable_source : FnScope ["self", "place", "number", "time", "line"] ["self", "place", "number"] (defScope s_Timetable_source) := ⟨rfl, rfl, rfl, by decide +kernel, rfl, by decide +kernel, by decide +kernel⟩
def spSrc (K : PySem.W.Frag) (C : Addr) : Sp := fun vs H Q _ => ∃ (N : Net) (ls : List Int) (p : Int) (qs : Qs) (M : Tm) (c k : Nat) (n T0 : Int), vs = [.ref M.a, .int (k : Int), .int n] ∧ TT K C N ls p qs M c H ∧ CntN N ∧ Lens N ls ∧ JN N ∧ N.length ≤ 8 ∧ c < 870000 ∧ k < N.length ∧ 1 ≤ k ∧ 1 ≤ n ∧ n ≤ jq N ls T0 (.inl (k : Int)) ∧ 0 ≤ T0 ∧ T0 ≤ 1000000000000000000000000000 ∧
  ∀ H' l (k2 : Nat) (n2 : Int), TT K C N ls p qs M (c + 230) H' → ExK M H H' → SqT K H' l [.int (k2 : Int), .int n2] → k2 < k → 1 - ls.getD k2 0 ≤ n2 → n2 ≤ jq N ls T0 (.inl (k2 : Int)) → Src N ls k n ((k2 : Int), n2) → Q (.ref l) H'
theorem ok_source {C CA f f1 f2 f3 f4 : Addr} {fd fd1 fd2 fd3 fd4 : FuncData} (D : Mf K C "source" "Timetable.source" s_Timetable_source ["self", "place", "number"] f fd) (T : Bt mg) (F : TF K C) (FA : AF K CA) (M_time_of : Mf K C "time_of" "Timetable.time_of" s_Timetable_time_of ["self", "place", "number"] f1 fd1) (G_time_of : FnOk P w K mg base CX0 5 f1 fd1 ["self", "place", "number"] (spTime K C))
    (M_arrival_at : Mf K C "arrival_at" "Timetable.arrival_at" s_Timetable_arrival_at ["self", "time"] f2 fd2) (G_arrival_at : FnOk P w K mg base CX0 20 f2 fd2 ["self", "time"] (spAt K C CA)) (M_line : Mf K CA "line" "Arrival.line" s_Arrival_line ["self", "place"] f3 fd3)
    (M_joined_by : Mf K C "joined_by" "Timetable.joined_by" s_Timetable_joined_by ["self", "place", "time"] f4 fd4) (G_joined_by : FnOk P w K mg base CX0 4 f4 fd4 ["self", "place", "time"] (spJd K C)) : FnOk P w K mg base CX0 21 f fd ["self", "place", "number"] (spSrc K C) := by
  have G_line : FnOk P w K mg base CX0 1 f3 fd3 _ _ := ok_line M_line T FA
  refine D.F.ok sc_Timetable_source (fun vs H Q E h => ?_) (fun cdv A outer s H vs Q E hr h => ?_)
  · obtain ⟨N, ls, p, qs, M, c, k, n, T0, rfl, _⟩ := h
    rfl
  · obtain ⟨N, ls, p, qs, M, c, k, n, T0, rfl, W, hC, L, J, h8, hc, hk, hk1, hn, hnT, hT0, hT1, q⟩ := h
    refine ⟨_, (pss_cons (ps_set (i := 3) sc_Timetable_source.nd rfl (Or.inl rfl) (pe_meth (pv 0) F.c M_time_of.m (G_time_of) (hr.mono (by decide)) M_time_of.b .nil pass0 (pa_cons (pv 1) (pa_cons (pv 2) pa_nil))))
      (pss_cons (ps_set (i := 4) sc_Timetable_source.nd rfl (Or.inl rfl) (pe_meth (pe_meth (pv 0) F.c M_arrival_at.m (G_arrival_at) (hr.mono (by decide)) M_arrival_at.b .nil pass0 (pa_cons (pv 3) pa_nil)) FA.c M_line.m (G_line) (hr.mono (by decide)) M_line.b .nil pass0 (pa_cons (pv 1) pa_nil)))
      (pss_one (ps_ret (pe_ix (ix_U (K := K)) (pv 4) (pe_op op_sub (pe_op op_sub (pv 2) (pe_meth (pv 0) F.c M_joined_by.m (G_joined_by) (hr.mono (by decide)) M_joined_by.b .nil pass0 (pa_cons (pv 1) (pa_cons (pv 3) pa_nil)))) pe_int) (fun _ _ => rfl)))))), ?_⟩
    walk_at "run"
    refine x_meth W.ins fs_time_of ?_
    refine ⟨N, ls, p, qs, M, c, .inl (k : Int), n, T0, rfl, W, hC, L, J.fw, by omega, .inl ⟨k, hk, rfl⟩, hn, hnT, hT0, hT1, fun H1 t W1 e1 ht1 htT hlo hhi => ?_⟩
    walk_at "run"
    refine x_meth W1.ins fs_arrival_at ?_
    refine ⟨N, ls, p, qs, M, c + 200, t, rfl, W1, hC, L, J, h8, by omega, by omega, ht1, by omega, fun H2 a dx Qa Ea W2 e2 ha hQ hE => ?_⟩
    obtain ⟨hlen, hrl, _, js, hline, hjs, hjo⟩ := line_all J L h8 ht1 hk
    refine x_meth ha af_line ?_
    refine ⟨a, dx, Qa, Ea, _, _, k, rfl, ha, hQ, hE, by omega, hlen, fun H3 l e3 hl => ?_⟩
    walk_at "run"
    have W3 := W2.ex e3
    refine x_meth W3.ins fs_joined_by ?_
    refine ⟨N, ls, p, qs, M, c + 200 + 20, t, .inl (k : Int), rfl, W3, hC, L.len, by omega, .inl ⟨k, hk, rfl⟩, fun H4 W4 e4 => ?_⟩
    walk_at "run"
    obtain ⟨xs, hxs, hxd⟩ := hl.ex
    have hlK : l ≠ M.Kd := by
      obtain ⟨ks, hk, _⟩ := W3.cache
      exact fun z => by rw [z, hk] at hxs; cases hxs
    rw [hline] at hxd
    have hxl : xs.length = (lab N ls (t - 1) k).length + js.length := by rw [hxd.len, List.length_map, List.length_append]
    obtain ⟨m, hm, hm2⟩ : ∃ m : Nat, m < js.length ∧ ((xs.length : Int) + (n - jq N ls t (.inl (k : Int)) - 1)).toNat = (lab N ls (t - 1) k).length + m := ⟨((js.length : Int) + (n - jq N ls t (.inl (k : Int)) - 1)).toNat, by omega, by omega⟩
    obtain ⟨x, hx⟩ : ∃ x, js[m]? = some x := ⟨js[m], by simp [hm]⟩
    obtain ⟨hln, hlt⟩ := hjo x (List.mem_of_getElem? hx)
    obtain ⟨k2, hk2, ex1, hx2, hx3⟩ := LabN.r J L ht1 (by omega) hln
    have hx4 : x.1 < (k : Int) := hlt.elim id fun h => absurd h.1 (by omega)
    have hsrc : Src N ls k n ((k2 : Int), x.2) := by
      refine ⟨t, ht1, hlo, hhi, ?_⟩
      unfold lineW
      rw [hline, List.length_append, ← ex1]
      rw [show (((lab N ls (t - 1) k).length + js.length : Nat) : Int) = (xs.length : Int) by omega, hm2]
      rw [List.getElem?_append_right (by omega), Nat.add_sub_cancel_left]
      exact hx
    obtain ⟨v, hv, hvd⟩ := hxd.get (i := (lab N ls (t - 1) k).length + m) (d := pdL x) (by
      rw [List.getElem?_map, List.getElem?_append_right (by omega), Nat.add_sub_cancel_left, hx]; rfl)
    obtain ⟨b, ys, rfl, hB, hys⟩ := Dp.tup_inv hvd
    have hys2 : ys = [.int (k2 : Int), .int x.2] := by
      cases hys with
      | cons hy0 hys =>
      cases hys with
      | cons hy1 hys =>
      cases hys
      rw [hy0.int_inv, hy1.int_inv, ex1]
    rw [hys2] at hB
    have t34 := W3.tx e4
    have e14 : ExK M H H4 := e1.trans (e2.trans ((ExK.of e3).trans e4))
    refine x_ixL (SqL.of (e4 _ _ hlK hxs)) (atI_neg (by omega) (by omega) (by rw [hm2]; exact hv)) ?_
    have hT := jq_mono (ls := ls) J.fw L.pos htT (.inl (k2 : Int))
    exact q H4 b k2 x.2 (W4.le (by omega)) e14 (t34.t hB) (by omega) hx2 (by omega) hsrc
end
/-! Timetable.passenger -/
section
variable {P : Program} {w : World} {K : PySem.W.Frag} {mg : Str → Option Value} {base : Heap}
abbrev s_Timetable_passenger : Stmt := inClass (top 57) 9
theorem sc_Timetable_passenger : FnScope ["self", "place", "number"] ["self", "place", "number"] (defScope s_Timetable_passenger) := ⟨rfl, rfl, rfl, by decide +kernel, rfl, by decide +kernel, by decide +kernel⟩
def spPsg (K : PySem.W.Frag) (C : Addr) : Sp := fun vs H Q _ => ∃ (N : Net) (ls : List Int) (p : Int) (qs : Qs) (M : Tm) (c k : Nat) (n T0 : Int), vs = [.ref M.a, .int (k : Int), .int n] ∧ TT K C N ls p qs M c H ∧ CntN N ∧ Lens N ls ∧ LenQ N ls qs ∧ JN N ∧ N.length ≤ 8 ∧ c < 860000 ∧ k < N.length ∧ 1 - ls.getD k 0 ≤ n ∧ n ≤ jq N ls T0 (.inl (k : Int)) ∧ 0 ≤ T0 ∧ T0 ≤ 1000000000000000000000000000 ∧
  ∀ H' z, TT K C N ls p qs M (c + 2000) H' → ExK M H H' → PsgR N ls p qs k n z → Q (.int z) H'
theorem ok_passenger {C f f1 : Addr} {fd fd1 : FuncData} (D : Mf K C "passenger" "Timetable.passenger" s_Timetable_passenger ["self", "place", "number"] f fd) (T : Bt mg) (F : TF K C) (M_source : Mf K C "source" "Timetable.source" s_Timetable_source ["self", "place", "number"] f1 fd1) (G_source : FnOk P w K mg base CX0 21 f1 fd1 ["self", "place", "number"] (spSrc K C)) :
    FnOk P w K mg base CX0 22 f fd ["self", "place", "number"] (spPsg K C) := by
  refine D.F.ok sc_Timetable_passenger (fun vs H Q E h => ?_) (fun cdv A outer s H vs Q E hr h => ?_)
  · obtain ⟨N, ls, p, qs, M, c, k, n, T0, rfl, _⟩ := h
    rfl
  · obtain ⟨N, ls, p, qs, M, c, k, n, T0, rfl, W, hC, L, LQ, J, h8, hc, hk, hn, hnT, hT0, hT1, q⟩ := h
    have hu := hr.units
    refine ⟨_, (pss_cons (ps_while PassesOwn.never (PW.pt (pw_and (pt_cmpR (op_neU (K := K) hu) (pv 1) pe_int (nomark _)) (pw_and1 (pt_cmpR (op_gtU) (pv 2) pe_int (nomark _))))) (pss_one (ps_asg (pe_meth (pv 0) F.c M_source.m (G_source) (hr.mono (by decide)) M_source.b .nil pass0 (pa_cons (pv 1) (pa_cons (pv 2) pa_nil))) (pg_tup rfl (pgs_cons (pg_name (i := 1) sc_Timetable_passenger.nd rfl (Or.inl rfl)) (pgs_cons (pg_name (i := 2) sc_Timetable_passenger.nd rfl (Or.inl rfl)) pgs_nil))))))
      (pss_cons (ps_if (pt_cmpR (op_gtU) (pv 2) pe_int (nomark _)) (pss_one (ps_ret (pe_op op_sub (pe_op (op_addU (K := K)) (pe_fld (pv 0) rfl) (pv 2)) pe_int))) pss_nil)
      (pss_one (ps_ret (pe_ix (ix_U (K := K)) (pe_ix (ix_U (K := K)) (pe_fld (pv 0) rfl) (pv 1) (fun _ _ => rfl)) (pe_op op_sub (pv 2) pe_int) (fun _ _ => rfl)))))), ?_⟩
    walk_at "run"
    refine while_raw (fun σ H' => ∃ (k2 : Nat) (n2 : Int), σ = [some (.ref M.a), some (.int (k2 : Int)), some (.int n2)] ∧ TT K C N ls p qs M (c + 230 * (k - k2)) H' ∧ ExK M H H' ∧ k2 ≤ k ∧ 1 - ls.getD k2 0 ≤ n2 ∧ n2 ≤ jq N ls T0 (.inl (k2 : Int)) ∧ ∀ z, PsgR N ls p qs k2 n2 z → PsgR N ls p qs k n z) (fun σ _ => (slotI σ 1).toNat) ⟨k, n, rfl, W.le (by omega), ExK.of (Ex.refl H), Nat.le_refl _, hn, hnT, fun _ h => h⟩ ?_
    rintro σ H1 ⟨k2, n2, rfl, W1, e1, hk2, hn2, hj2, hps⟩ R hT hF
    walk_at "run"
    by_cases hz : k2 ≠ 0 ∧ 0 < n2
    · obtain ⟨hz1, hz2⟩ := hz
      rw [if_pos (by simp; omega), decide_eq_true hz2]
      refine hT H1 ?_
      walk_at "run"
      refine x_meth W1.ins fs_source ?_
      refine ⟨N, ls, p, qs, M, c + 230 * (k - k2), k2, n2, T0, rfl, W1, hC, L, J, h8, by omega, by omega, by omega, by omega, hj2, hT0, hT1, fun H2 l k3 n3 W2 e2 hl hlt hn3 hj3 hsrc => ?_⟩
      refine x_two hl ?_
      walk_at "run"
      refine ⟨⟨k3, n3, rfl, W2.le (by omega), e1.trans e2, by omega, hn3, hj3, fun z hz => hps z (.step (by omega) (by omega) hsrc hz)⟩, ?_⟩
      show ((k3 : Int)).toNat < ((k2 : Int)).toNat
      omega
    · suffices h : R false H1 by
        by_cases h0 : k2 = 0
        · rw [if_neg (by simp; omega)]; exact h
        · rw [if_pos (by simp; omega), decide_eq_false fun h2 => hz ⟨h0, h2⟩]; exact h
      refine hF H1 ?_
      walk_at "run"
      by_cases hp : 0 < n2
      · rw [if_pos hp]
        refine x_fld W1.ins F.c F.next_passenger fs_next_passenger ?_
        walk_at "run"
        exact q H1 _ (W1.le (by omega)) e1 (hps _ (.new (Classical.not_not.mp fun h => hz ⟨h, hp⟩) hp rfl))
      · rw [if_neg hp]
        refine x_fld W1.ins F.c F.waiting fs_waiting ?_
        obtain ⟨ub, ts, hu2, hT2, hts⟩ := qs_at W1.wai
        rw [hu2]
        have hkq : k2 < qs.length := by rw [LQ.len]; omega
        obtain ⟨zv, hzv, hzd⟩ := hts.get (i := k2) (d := qD (qs.getD k2 [])) (by rw [List.getElem?_map]; simp [List.getD_eq_getElem?_getD, hkq])
        obtain ⟨qb, rfl, hQB⟩ := q_at hzd
        refine x_ixT hT2 (atI_nat hzv) ?_
        walk_at "run"
        have hle := LQ.eq k2 (by omega)
        obtain ⟨m, hm, hm2⟩ : ∃ m : Nat, m < (qs.getD k2 []).length ∧ (((qs.getD k2 []).length : Int) + (n2 - 1)).toNat = m := ⟨(((qs.getD k2 []).length : Int) + (n2 - 1)).toNat, by omega, rfl⟩
        obtain ⟨x, hx⟩ : ∃ x, (qs.getD k2 [])[m]? = some x := ⟨(qs.getD k2 [])[m], List.getElem?_eq_getElem hm⟩
        refine x_ixT hQB (v := .int x) (atI_neg (by omega) (by rw [List.length_map]; omega) (by rw [List.length_map, hm2, List.getElem?_map, hx]; rfl)) ?_
        exact q H1 _ (W1.le (by omega)) e1 (hps _ (.old (by omega) (by rw [hm2]; exact hx)))
end
/-! Timetable.__init__ -/
theorem putF_ne {f g : Str} {y v : V} {r : List (Str × V)} (h : ¬ g = f) : putF f y ((g, v) :: r) = (g, v) :: putF f y r := by
  show (if g = f then (g, y) :: r else (g, v) :: putF f y r) = _
  rw [if_neg h]
theorem tm_fs {v u l D k : V} {p : Int} : putF "known_boats" k (putF "feeders" D (putF "lengths" l (putF "waiting" u (putF "next_passenger" (.int p) (putF "network" v []))))) = ([("network", v), ("next_passenger", .int p), ("waiting", u), ("lengths", l), ("feeders", D), ("known_boats", k)] : List (Str × V)) := by
  rw [show putF "network" v [] = ([("network", v)] : List (Str × V)) from rfl]
  rw [putF_ne (f := "next_passenger") (by decide +kernel), show ∀ y : V, putF "next_passenger" y [] = ([("next_passenger", y)] : List (Str × V)) from fun _ => rfl]
  rw [putF_ne (f := "waiting") (by decide +kernel), putF_ne (f := "waiting") (by decide +kernel), show ∀ y : V, putF "waiting" y [] = ([("waiting", y)] : List (Str × V)) from fun _ => rfl]
  rw [putF_ne (f := "lengths") (by decide +kernel), putF_ne (f := "lengths") (by decide +kernel), putF_ne (f := "lengths") (by decide +kernel), show ∀ y : V, putF "lengths" y [] = ([("lengths", y)] : List (Str × V)) from fun _ => rfl]
  rw [putF_ne (f := "feeders") (by decide +kernel), putF_ne (f := "feeders") (by decide +kernel), putF_ne (f := "feeders") (by decide +kernel), putF_ne (f := "feeders") (by decide +kernel), show ∀ y : V, putF "feeders" y [] = ([("feeders", y)] : List (Str × V)) from fun _ => rfl]
  rw [putF_ne (f := "known_boats") (by decide +kernel), putF_ne (f := "known_boats") (by decide +kernel), putF_ne (f := "known_boats") (by decide +kernel), putF_ne (f := "known_boats") (by decide +kernel), putF_ne (f := "known_boats") (by decide +kernel), show ∀ y : V, putF "known_boats" y [] = ([("known_boats", y)] : List (Str × V)) from fun _ => rfl]
theorem Feed.forget {H0 H : Hp} {D a : Addr} {n : Nat} {L : Seats} {A : Key → Option Addr} {G : Key → Cnt} {kvs : List (Key × V)} (F : Feed H0 H D n L A G kvs) : Feed (fun x => if x = a then none else H0 x) H D n L A G kvs :=
  { F with
    new := fun q b h => by
      show (if b = a then none else H0 b) = none
      split
      · rfl
      · exact F.new q b h
    newD := by
      show (if D = a then none else H0 D) = none
      split
      · rfl
      · exact F.newD
    ex := fun x o h => by
      have h : (if x = a then none else H0 x) = some o := h
      split at h
      · cases h
      · exact F.ex x o h }
section
variable {P : Program} {w : World} {K : PySem.W.Frag} {mg : Str → Option Value} {base : Heap}
abbrev s_Timetable___init : Stmt := inClass (top 57) 0
theorem sc_Timetable___init : FnScope ["self", "network", "state"] ["self", "network", "state"] (defScope s_Timetable___init) := ⟨rfl, rfl, rfl, by decide +kernel, rfl, by decide +kernel, by decide +kernel⟩
def spTmI (K : PySem.W.Frag) (C : Addr) : Sp := fun vs H Q _ => ∃ (N : Net) (p : Int) (qs : Qs) (a dx : Addr) (v u : V), vs = [.ref a, v, u] ∧ H a = some (.ins C dx []) ∧ NetAt K H v N ∧ CntN N ∧ Dp K H u (stateD p qs) ∧ qs.length ≤ 1000 ∧ (∀ q ∈ qs, q.length ≤ 1000) ∧
  ∀ H' (M : Tm), M.a = a → TT K C N (lens qs) p qs M 0 H' → (∀ x o, x ≠ a → H x = some o → H' x = some o) → H M.Kd = none → M.Kd ≠ a → Q .non H'
theorem ok_Timetable_init {C f f1 f2 : Addr} {fd fd1 fd2 : FuncData} (D : Cf K mg "Timetable" "Timetable.__init__" C s_Timetable___init ["self", "network", "state"] f fd) (T : Bt mg) (F : TF K C) (D_queue_lengths : Df K mg "queue_lengths" s_queue_lengths ["state"] f1 fd1) (D_find_feeders : Df K mg "find_feeders" s_find_feeders ["network"] f2 fd2) : FnOk P w K mg base CX0 2 f fd ["self", "network", "state"] (spTmI K C) := by
  have G_queue_lengths : FnOk P w K mg base CX0 1 f1 fd1 _ _ := ok_queue_lengths D_queue_lengths T
  have G_find_feeders : FnOk P w K mg base CX0 1 f2 fd2 _ _ := ok_find_feeders D_find_feeders T
  refine D.F.ok sc_Timetable___init (fun vs H Q E h => ?_) (fun cdv A outer s H vs Q E hr h => ?_)
  · obtain ⟨N, p, qs, a, dx, v, u, rfl, _⟩ := h
    rfl
  · obtain ⟨N, p, qs, a, dx, v, u, rfl, ha, hN, hC, hu, hq1, hq2, q⟩ := h
    refine ⟨_, (pss_cons (ps_fld (pv 0) (pv 1) rfl)
      (pss_cons (ps_fld (pv 0) (pe_ix (ix_U (K := K)) (pv 2) pe_int (fun _ _ => rfl)) rfl)
      (pss_cons (ps_fld (pv 0) (pe_ix (ix_U (K := K)) (pv 2) pe_int (fun _ _ => rfl)) rfl)
      (pss_cons (ps_fld (pv 0) (pe_call (G_queue_lengths) (hr.mono (by decide)) rfl D_queue_lengths.g D_queue_lengths.F.kp D_queue_lengths.b .nil pass0 (pa_cons (pv 2) pa_nil)) rfl)
      (pss_cons (ps_fld (pv 0) (pe_call (G_find_feeders) (hr.mono (by decide)) rfl D_find_feeders.g D_find_feeders.F.kp D_find_feeders.b .nil pass0 (pa_cons (pv 1) pa_nil)) rfl)
      (pss_one (ps_fld (pv 0) pe_dnewK rfl))))))), ?_⟩
    walk_at "run"
    refine x_setF ha F.c F.network (by simp) fun H1 e1 n1 h1 => ?_
    have t1 := tx_ins ha e1
    walk_at "run"
    obtain ⟨ua, uy, rfl, hUa, hUy⟩ := state_at (Dp.tx t1 hu (stateD_t p qs))
    refine x_ixT hUa (v := .int p) rfl (x_setF h1 F.c F.next_passenger (by show 1 < 1000; decide) fun H2 e2 n2 h2 => ?_)
    have t2 := tx_ins h1 e2
    walk_at "run"
    refine x_ixT (t2.t hUa) (v := uy) rfl (x_setF h2 F.c F.waiting (by show 2 < 1000; decide) fun H3 e3 n3 h3 => ?_)
    have t3 := t2.trans (tx_ins h2 e3)
    walk_at "run"
    have hu3 : Dp K H3 (.ref ua) (stateD p qs) := Dp.tx (t1.trans t3) hu (stateD_t p qs)
    refine ⟨.ref ua, p, qs, rfl, hu3, hq1, hq2, fun H4 l e4 nl hl => ?_⟩
    have h4 := e4 _ _ h3
    refine x_setF h4 F.c F.lengths (by show 3 < 1000; decide) fun H5 e5 n5 h5 => ?_
    walk_at "run"
    have hla : l ≠ a := (ne_of_none h3 nl).symm
    have t5 := (TX.of e4).trans (tx_ins h4 e5)
    refine ⟨v, N, rfl, NetAt.tx (t1.trans (t3.trans t5)) hN, hC, fun H6 Df A G kvs FF hD => ?_⟩
    have e6 : Ex H5 H6 := FF.ex
    have h6 := e6 _ _ h5
    refine x_setF h6 F.c F.feeders (by show 4 < 1000; decide) fun H7 e7 n7 h7 => ?_
    have t7 := (TX.of e6).trans (tx_ins h6 e7)
    walk_at "run"
    refine x_dnew fun Kd H8 nK e8 hK => ?_
    have h8 := e8 _ _ h7
    refine x_setF h8 F.c F.known_boats (by show 5 < 1000; decide) fun H9 e9 n9 h9 => ?_
    walk_at "run"
    have hDa : Df ≠ a := fun z => by rw [z] at FF; have := FF.newD; rw [h5] at this; cases this
    have hAa : ∀ q b, A q = some b → b ≠ a := fun q b h z => by
      have := FF.new q b h
      rw [z, h5] at this; cases this
    have hKa : Kd ≠ a := (ne_of_none h7 nK).symm
    have e59 : ∀ x o, x ≠ a → H5 x = some o → H9 x = some o := fun x o hx h => e9 _ _ hx (e8 _ _ (e7 _ _ hx (e6 _ _ h)))
    have e69 : ∀ x o, x ≠ a → H6 x = some o → H9 x = some o := fun x o hx h => e9 _ _ hx (e8 _ _ (e7 _ _ hx h))
    have t9 := (TX.of e8).trans (tx_ins h8 e9)
    have hKD : H5 Kd = none := by
      cases h : H5 Kd with
      | none => rfl
      | some o =>
        have := e7 _ _ hKa (e6 _ _ h)
        rw [this] at nK; cases nK
    have fin : ∀ x o, x ≠ a → H x = some o → H9 x = some o := fun x o hx h => e59 x o hx (e5 _ _ hx (e4 _ _ (e3 _ _ hx (e2 _ _ hx (e1 _ _ hx h)))))
    refine q H9 ⟨a, dx, l, Df, Kd, v, uy, (fun x => if x = a then none else H5 x), A, G, kvs, []⟩ rfl ⟨?_, ?_, ?_, ?_, ?_, ?_, ?_, ?_, ?_, ?_, ?_, ?_, ?_⟩ fin ?_ hKa
    · rw [tm_fs] at h9
      exact h9
    · exact NetAt.tx (t1.trans (t3.trans (t5.trans (t7.trans t9)))) hN
    · exact Dp.tx (t3.trans (t5.trans (t7.trans t9))) hUy (qsD_t qs)
    · exact e59 _ _ hla (e5 _ _ hla hl)
    · refine (Feed.forget (a := a) FF).but (fun x o h => ?_) fun q b hb => ?_
      · have h : (if x = a then none else H5 x) = some o := h
        split at h
        · cases h
        · rename_i hx
          exact e59 _ _ hx h
      · rw [FF.inn q b hb]
        exact e69 _ _ (hAa q b hb) (FF.inn q b hb)
    · exact e69 _ _ hDa hD
    · exact (ne_of_none (e7 _ _ hDa hD) nK).symm
    · exact fun q b hb => ne_of_none (e7 _ _ (hAa q b hb) (FF.inn q b hb)) nK
    · show (if Kd = a then none else H5 Kd) = none
      rw [if_neg hKa]; exact hKD
    · exact fun y hy => by cases hy
    · exact fun hy => by cases hy
    · exact fun hy => by cases hy
    · exact ⟨[], e9 _ _ hKa hK, Nat.le_refl _, fun k x h => by cases h⟩
    · cases h : H Kd with
      | none => rfl
      | some o =>
        have := e5 _ _ hKa (e4 _ _ (e3 _ _ hKa (e2 _ _ hKa (e1 _ _ hKa h))))
        rw [this] at hKD; cases hKD
end
/-! advance -/
section
variable {P : Program} {w : World} {K : PySem.W.Frag} {mg : Str → Option Value} {base : Heap}
theorem lens_len {qs : Qs} : (lens qs).length = qs.length := by unfold lens; simp
theorem lens_at {qs : Qs} {k : Nat} (hk : k < qs.length) : (lens qs).getD k 0 = ((qs.getD k []).length : Int) := by
  unfold lens
  simp [List.getD_eq_getElem?_getD, hk]
theorem lensQ {N : Net} {p : Int} {qs : Qs} (h : StOk N p qs) : LenQ N (lens qs) qs := ⟨h.len, fun k hk => lens_at (by rw [h.len]; exact hk)⟩
theorem lensL {N : Net} {p : Int} {qs : Qs} (h : StOk N p qs) : Lens N (lens qs) := by
  refine ⟨by rw [lens_len, h.len], fun k hk => ?_, fun k hk => ?_⟩
  · rw [lens_at (by rw [h.len]; exact hk)]; omega
  · rw [lens_at (by rw [h.len]; exact hk)]
    have h1 : qs[k]? = some (qs.getD k []) := by simp [List.getD_eq_getElem?_getD, h.len, hk]
    have h2 : N[k]? = some (N.getD k []) := by simp [List.getD_eq_getElem?_getD, hk]
    have := h.lt k _ _ h1 h2
    omega
theorem jn_of {N : Net} (h : ValidN N) : JN N := by
  have at_ : ∀ k, k < N.length → N[k]? = some (N.getD k []) := fun k hk => by simp [List.getD_eq_getElem?_getD, hk]
  refine ⟨h.le, fun k hk => ?_, fun i hi j hj => ?_⟩
  · obtain ⟨a, b, _⟩ := h.st k _ (at_ k hk)
    exact ⟨a, b⟩
  · exact h.seat (at_ i hi) hj
end
/-! Timetable: departure_time, boat_passengers -/
section
variable {M : Tm} {p : Int}
end
/-- a boat that has departed by a time: its last passenger has come -/
theorem boat_by {N : Net} {ls : List Int} (fw : Fw N) (L : Lens N ls) {t : Int} {k : Nat} (hk : k < N.length) (b : Int) : b ≤ bt N ls t k ↔ b * ((N.getD k []).length : Int) - ls.getD k 0 ≤ jq N ls t (.inl (k : Int)) := by
  have h1 := L.pos k hk
  rw [bt_eq fw hk, Int.fdiv_eq_ediv_of_nonneg _ (by omega), Int.le_ediv_iff_mul_le (by omega)]
  omega
section
variable {P : Program} {w : World} {K : PySem.W.Frag} {mg : Str → Option Value} {base : Heap}
end
/-! lines and sources of ports -/
theorem toQ_bound {f : Nat → Int} {q : Key} {B : Int} (hB : 0 ≤ B) : ∀ {L : Seats}, (∀ s ∈ L, f s.1 ≤ B) → toQ f q L ≤ (L.length : Int) * B
  | [], _ => by show (0 : Int) ≤ ((0 : Nat) : Int) * B; omega
  | (i, p) :: r, h => by
    have h1 : f i ≤ B := h (i, p) (List.mem_cons_self ..)
    have h2 := toQ_bound (q := q) hB (L := r) fun s hs => h s (List.mem_cons_of_mem _ hs)
    show (if p = q then f i else 0) + toQ f q r ≤ ((r.length + 1 : Nat) : Int) * B
    rw [Int.natCast_add, Int.add_mul]
    split <;> omega
theorem line_port {N : Net} {ls : List Int} (J : JN N) (L : Lens N ls) (h8 : N.length ≤ 8) (hp : 1 ≤ N.length) {t : Int} (ht : 1 ≤ t) (z : Str) :
    let r := arrL N (labs N ls (t - 1)) (0, t)
    (evP r.2 (.inr z)).length ≤ 100000 ∧ ((evP r.2 (.inr z)).length : Int) = jq N ls t (.inr z) - jq N ls (t - 1) (.inr z) ∧ ∀ x ∈ evP r.2 (.inr z), LabN N ls t x := by
  intro r
  have fw := J.fw
  have S0 := labs_short (t := t - 1) fw L
  have F : Flow N (labs N ls (t - 1)) (at1 0) r := joinW_flow (departW_flow fw 8) labs_len hp (by omega)
  have S : Short N r.1 := (joinW_ok L.pos (departW_ok L.pos fw 8) S0 hp (by omega)).1
  have hq : ∀ j, j < N.length → (((labs N ls (t - 1)).getD j []).length : Int) = wt N ls (t - 1) j := fun j hj => by rw [labs_at hj]; exact lab_len fw L hj
  have st := step_wt fw L hq F S (.inr z) (.inr ⟨z, rfl⟩)
  rw [Int.sub_add_cancel] at st
  have LR : LnR (fun j x => LabN N ls t x ∧ x.1 ≤ (j : Int)) (fun j x => LabN N ls t x ∧ x.1 ≤ (j : Int) ∧ (x.1 < (j : Int) ∨ (j = 0 ∧ x = (0, t)))) (LabN N ls t) := ⟨fun a b x h hab => ⟨h.1, by have := h.2; omega, .inl (by have := h.2; omega)⟩, fun b x h => ⟨h.1, h.2.1⟩, fun a x h => h.1⟩
  have new : LabN N ls t (0, t) := .inl rfl
  have G : Ln N (fun j x => LabN N ls t x ∧ x.1 ≤ (j : Int)) (fun j x => LabN N ls t x ∧ x.1 ≤ (j : Int) ∧ (x.1 < (j : Int) ∨ (j = 0 ∧ x = (0, t)))) (LabN N ls t) (labs N ls (t - 1)) r := by
    refine joinW_ln (departW_ln LR fw 8) labs_len hp (by omega) (fun j hj x hx => ?_) ⟨new, Int.le_refl _, .inr ⟨rfl, rfl⟩⟩ ⟨new, Int.le_refl _⟩
    rw [labs_at hj] at hx
    obtain ⟨e1, e2, e3⟩ := lab_ok fw L (by omega) hj x hx
    exact ⟨.inr ⟨j, hj, hx⟩, by omega⟩
  have a := F.p z
  have pl := evP_len (a := r.2) (q := .inr z)
  have hw := (joinW_way (departW_way (α := Int × Int) fw 8) (qs := labs N ls (t - 1)) (j := 0) (p := (0, t)) labs_len hp (by omega)).1
  have hw2 := wayW_le (n := N.length) (qs := labs N ls (t - 1)) (k := 0)
  have hfl := labs_flat (t := t - 1) fw L J h8
  have hb2 : (labs N ls (t - 1)).flatten.length * (2 * N.length) ≤ 64 * 16 := Nat.mul_le_mul hfl (by omega)
  have hes : r.2.length ≤ 1040 := by
    show (joinW N (departW N 8) _ _ _).2.length ≤ _
    omega
  have hsl := seatsOf_len (N := N) (fun s hs => by
    obtain ⟨k, hk⟩ := List.mem_iff_getElem?.mp hs
    have hkl := (List.getElem?_eq_some_iff.mp hk).1
    have := (J.st k hkl).2
    rw [List.getD_eq_getElem?_getD, hk] at this
    exact this) N.length
  have htb := toQ_bound (f := dn r.2) (q := .inr z) (B := 1040) (by decide) (L := seatsOf N N.length) fun s _ => by
    have := dn_le (k := s.1) (es := r.2)
    omega
  have hat : at1 0 (.inr z) = 0 := by
    unfold at1
    rw [if_neg (by simp)]
  refine ⟨by omega, by omega, fun x hx => G.pt z x hx⟩
section
variable {P : Program} {w : World} {K : PySem.W.Frag} {mg : Str → Option Value} {base : Heap}
def spLineP (K : PySem.W.Frag) (C : Addr) : Sp := fun vs H Q _ => ∃ (a dx Qa Ea : Addr) (qs : QsA (Int × Int)) (es : EvsA (Int × Int)) (z : Str), vs = [.ref a, .str z] ∧ H a = some (.ins C dx (arrFs Qa Ea)) ∧ QtAt K H Qa pdL qs ∧ EvAt K H Ea pdL es ∧ (evP es (.inr z)).length ≤ 100000 ∧
  ∀ H' l, Ex H H' → LsAt K H' l ((evP es (.inr z)).map pdL) → Q (.ref l) H'
theorem ok_lineP {C f : Addr} {fd : FuncData} (D : Mf K C "line" "Arrival.line" s_Arrival_line ["self", "place"] f fd) (T : Bt mg) (F : AF K C) : FnOk P w K mg base CX0 1 f fd ["self", "place"] (spLineP K C) := by
  refine D.F.ok sc_Arrival_line (fun vs H Q E h => ?_) (fun cdv A outer s H vs Q E hr h => ?_)
  · obtain ⟨a, dx, Qa, Ea, qs, es, z, rfl, _⟩ := h
    rfl
  · obtain ⟨a, dx, Qa, Ea, qs, es, z, rfl, ha, hQ, hE, hlen, q⟩ := h
    have hu := hr.units
    refine ⟨_, (pss_cons (ps_set (i := 2) sc_Arrival_line.nd rfl (Or.inl rfl) (pe_lst pa_nil))
      (pss_cons (ps_for PassesOwn.never rfl (pi_U (K := K) (pe_fld (pv 0) rfl)) (pg_tup rfl (pgs_cons (pg_name (i := 3) sc_Arrival_line.nd rfl (Or.inl rfl)) (pgs_cons (pg_name (i := 4) sc_Arrival_line.nd rfl (Or.inl rfl)) pgs_nil))) (pss_one (ps_if (pt_cmpR (op_eqU (K := K) hu) (pv 3) (pv 1) (nomark _)) (pss_one (ps_expr (pe_bm PySem.F.plainAttrs_list PySem.F.slot_list_extend PySem.F.type_list_extend (mt_extendU (K := K)) (pv 2) (pa_cons (pv 4) pa_nil)))) pss_nil)))
      (pss_cons (ps_if (pt_not (pt_val (pe_callB (call_isiU (K := K)) (by rfl) T.b_isinstance (by decide +kernel) (pa_cons (pv 1) (pa_cons (pe_bltn (v := .ty "str") (by rfl) T.b_str (by decide +kernel) rfl) pa_nil))))) (pss_one (ps_expr (pe_bm PySem.F.plainAttrs_list PySem.F.slot_list_extend PySem.F.type_list_extend (mt_extendU (K := K)) (pv 2) (pa_cons (pe_ix (ix_U (K := K)) (pe_fld (pv 0) rfl) (pv 1) (fun _ _ => rfl)) pa_nil)))) pss_nil)
      (pss_one (ps_ret (pv 2)))))), ?_⟩
    walk_at "run"
    refine x_lst (by simp) fun L H1 nL e1 hL => ?_
    refine x_fld (e1 _ _ ha) F.c F.events af_events ?_
    obtain ⟨ts, hEa, hts⟩ := hE.ex
    have htl : ts.length = es.length := by rw [hts.len, List.length_map]
    refine x_itL (ex_l e1 (SqL.of hEa)) ?_
    refine loop_it walk_list (fun i σ H' => ∃ u3 u4, σ = [some (.ref a), some (.str z), some (.ref L), u3, u4] ∧ Ex H H' ∧ LsAt K H' L ((evP (es.take i) (.inr z)).map pdL)) ⟨_, _, rfl, e1, ⟨⟨[], hL, .nil⟩⟩⟩ (fun i σ H' _ ⟨_, _, _, e, _⟩ => ex_l e (SqL.of hEa)) ?_ ?_
    · rintro i x σ H2 H2' hi ⟨u3, u4, rfl, e2, hLs⟩ ⟨eH, hx⟩
      subst eH
      obtain ⟨d, hd, hz⟩ := hts.get' hx
      obtain ⟨e, he, rfl⟩ : ∃ e, es[i]? = some e ∧ evA pdL e = d := by simpa using hd
      obtain ⟨b, ys, rfl, hB, hys⟩ := Dp.tup_inv hz
      have hyl : ys.length = 2 := hys.len
      obtain ⟨y0, y1, rfl⟩ : ∃ x y, ys = [x, y] := match ys, hyl with
        | [x, y], _ => ⟨x, y, rfl⟩
      cases hys with
      | cons hy0 hys2 =>
      cases hys2 with
      | cons hy1 _ =>
      refine x_two (ex_t e2 hB) ?_
      obtain ⟨pb, ps, rfl, hPb, hps⟩ := Dp.tup_inv hy1
      have hev : evP (es.take (i + 1)) (.inr z) = evP (es.take i) (.inr z) ++ (if e.1 = .inr z then e.2 else []) := by
        rw [List.take_add_one, he]
        show evP (es.take i ++ [e]) _ = _
        rw [evP_append]
        show _ ++ ((if e.1 = .inr z then e.2 else []) ++ []) = _
        rw [List.append_nil]
      have hle : (evP (es.take (i + 1)) (.inr z)).length ≤ (evP es (.inr z)).length := by
        conv => rhs; rw [← List.take_append_drop (i + 1) es, evP_append, List.length_append]
        omega
      walk_at "run"
      obtain ⟨xs, hxs, hxd⟩ := hLs.ex
      have hxl : xs.length = (evP (es.take i) (.inr z)).length := by rw [hxd.len, List.length_map]
      obtain ⟨bb, hbb, heq⟩ : ∃ bb : Bool, (bb = true ↔ e.1 = .inr z) ∧ ∀ Q : VK, Q (.bl bb) H2' → rEqU K y0 (.str z) H2' Q := by
        cases h1 : e.1 with
        | inl j =>
          rw [h1] at hy0
          obtain rfl : y0 = .int j := hy0.int_inv
          exact ⟨decide (V.int j = V.str z), by simp, fun Q h => .inl ⟨rfl, h⟩⟩
        | inr z2 =>
          rw [h1] at hy0
          have hy0 : Dp K H y0 (.str z2) := hy0
          cases hy0
          exact ⟨decide (V.str z2 = V.str z), by simp, fun Q h => .inl ⟨rfl, h⟩⟩
      refine heq _ ⟨bb, rfl, ?_⟩
      cases bb with
      | true =>
        rw [if_pos rfl]
        rw [if_pos (hbb.mp rfl)] at hev
        have hpl : ps.length = e.2.length := by rw [hps.len, List.length_map]
        rw [hev, List.length_append] at hle
        refine ⟨x_tyL (SqL.of hxs), x_extT hxs (ex_t e2 hPb) (by omega) fun H3 e3 h3 => ⟨_, _, rfl, fun o u h => e3 _ _ (ne_of_none h nL) (e2 _ _ h), ⟨⟨_, h3, ?_⟩⟩⟩⟩
        have t3 : TX H2' H3 := TX.but hxs e3
        rw [hev, List.map_append]
        exact DpAll.append (DpAll.tx t3 hxd fun d hd => by
          obtain ⟨j, _, rfl⟩ := List.mem_map.mp hd
          exact pdL_t.t _) (DpAll.tx t3 (DpAll.ex e2 hps) fun d hd => by
          obtain ⟨j, _, rfl⟩ := List.mem_map.mp hd
          exact pdL_t.t _)
      | false =>
        rw [if_neg (by decide)]
        rw [if_neg (fun z => by have := hbb.mpr z; cases this), List.append_nil] at hev
        exact ⟨_, _, rfl, e2, by rw [hev]; exact hLs⟩
    · rintro σ H2 ⟨u3, u4, rfl, e2, hLs⟩
      rw [List.take_of_length_le (by omega)] at hLs
      walk_at "run"
      rw [if_neg (by decide)]
      exact q H2 L e2 hLs
end
/-! Timetable.source, Timetable.passenger of ports -/
/-- whom a number at a port stands for, before the arrival that gave it -/
def SrcP (N : Net) (ls : List Int) (z : Str) (n : Int) (x : Int × Int) : Prop := ∃ t : Int, 1 ≤ t ∧ jq N ls (t - 1) (.inr z) < n ∧ n ≤ jq N ls t (.inr z) ∧ (evP (arrL N (labs N ls (t - 1)) (0, t)).2 (.inr z))[(((evP (arrL N (labs N ls (t - 1)) (0, t)).2 (.inr z)).length : Int) + (n - jq N ls t (.inr z) - 1)).toNat]? = some x
/-- who has a number at a port -/
def PsgP (N : Net) (ls : List Int) (p : Int) (qs : Qs) (z : Str) (n y : Int) : Prop := ∃ (k2 : Nat) (n2 : Int), SrcP N ls z n ((k2 : Int), n2) ∧ PsgR N ls p qs k2 n2 y
section
variable {P : Program} {w : World} {K : PySem.W.Frag} {mg : Str → Option Value} {base : Heap}
theorem fn_or9 {CX : CXT} {k : Nat} {f : Addr} {fd : FuncData} {ps : List Str} {sp sp' : Sp} (F : FnOk P w K mg base CX k f fd ps sp) (G : FnOk P w K mg base CX k f fd ps sp') : FnOk P w K mg base CX k f fd ps (fun vs H Q E => sp vs H Q E ∨ sp' vs H Q E) :=
  ⟨fun vs H Q E q => q.elim (F.len vs H Q E) (G.len vs H Q E), fun A outer s H args us vs Q E hr e0 hb r q => q.elim (F.run A outer s H args us vs Q E hr e0 hb r) (G.run A outer s H args us vs Q E hr e0 hb r)⟩
def spSrcP (K : PySem.W.Frag) (C : Addr) : Sp := fun vs H Q _ => ∃ (N : Net) (ls : List Int) (p : Int) (qs : Qs) (M : Tm) (c : Nat) (z : Str) (n T0 : Int), vs = [.ref M.a, .str z, .int n] ∧ TT K C N ls p qs M c H ∧ CntN N ∧ Lens N ls ∧ JN N ∧ N.length ≤ 8 ∧ 1 ≤ N.length ∧ c < 870000 ∧ PlIn N (.inr z) ∧ 1 ≤ n ∧ n ≤ jq N ls T0 (.inr z) ∧ 0 ≤ T0 ∧ T0 ≤ 1000000000000000000000000000 ∧
  ∀ H' l (k2 : Nat) (n2 : Int), TT K C N ls p qs M (c + 230) H' → ExK M H H' → SqT K H' l [.int (k2 : Int), .int n2] → k2 < N.length → 1 - ls.getD k2 0 ≤ n2 → n2 ≤ jq N ls T0 (.inl (k2 : Int)) → SrcP N ls z n ((k2 : Int), n2) → Q (.ref l) H'
theorem ok_sourceP {C CA f f1 f2 f3 f4 : Addr} {fd fd1 fd2 fd3 fd4 : FuncData} (D : Mf K C "source" "Timetable.source" s_Timetable_source ["self", "place", "number"] f fd) (T : Bt mg) (F : TF K C) (FA : AF K CA) (M_time_of : Mf K C "time_of" "Timetable.time_of" s_Timetable_time_of ["self", "place", "number"] f1 fd1) (G_time_of : FnOk P w K mg base CX0 5 f1 fd1 ["self", "place", "number"] (spTime K C))
    (M_arrival_at : Mf K C "arrival_at" "Timetable.arrival_at" s_Timetable_arrival_at ["self", "time"] f2 fd2) (G_arrival_at : FnOk P w K mg base CX0 20 f2 fd2 ["self", "time"] (spAt K C CA)) (M_line : Mf K CA "line" "Arrival.line" s_Arrival_line ["self", "place"] f3 fd3)
    (M_joined_by : Mf K C "joined_by" "Timetable.joined_by" s_Timetable_joined_by ["self", "place", "time"] f4 fd4) (G_joined_by : FnOk P w K mg base CX0 4 f4 fd4 ["self", "place", "time"] (spJd K C)) : FnOk P w K mg base CX0 21 f fd ["self", "place", "number"] (spSrcP K C) := by
  have G_line : FnOk P w K mg base CX0 1 f3 fd3 _ _ := ok_lineP M_line T FA
  refine D.F.ok sc_Timetable_source (fun vs H Q E h => ?_) (fun cdv A outer s H vs Q E hr h => ?_)
  · obtain ⟨N, ls, p, qs, M, c, z, n, T0, rfl, _⟩ := h
    rfl
  · obtain ⟨N, ls, p, qs, M, c, z, n, T0, rfl, W, hC, L, J, h8, hp1, hc, hpl, hn, hnT, hT0, hT1, q⟩ := h
    refine ⟨_, (pss_cons (ps_set (i := 3) sc_Timetable_source.nd rfl (Or.inl rfl) (pe_meth (pv 0) F.c M_time_of.m (G_time_of) (hr.mono (by decide)) M_time_of.b .nil pass0 (pa_cons (pv 1) (pa_cons (pv 2) pa_nil))))
      (pss_cons (ps_set (i := 4) sc_Timetable_source.nd rfl (Or.inl rfl) (pe_meth (pe_meth (pv 0) F.c M_arrival_at.m (G_arrival_at) (hr.mono (by decide)) M_arrival_at.b .nil pass0 (pa_cons (pv 3) pa_nil)) FA.c M_line.m (G_line) (hr.mono (by decide)) M_line.b .nil pass0 (pa_cons (pv 1) pa_nil)))
      (pss_one (ps_ret (pe_ix (ix_U (K := K)) (pv 4) (pe_op op_sub (pe_op op_sub (pv 2) (pe_meth (pv 0) F.c M_joined_by.m (G_joined_by) (hr.mono (by decide)) M_joined_by.b .nil pass0 (pa_cons (pv 1) (pa_cons (pv 3) pa_nil)))) pe_int) (fun _ _ => rfl)))))), ?_⟩
    walk_at "run"
    refine x_meth W.ins fs_time_of ?_
    refine ⟨N, ls, p, qs, M, c, .inr z, n, T0, rfl, W, hC, L, J.fw, by omega, hpl, hn, hnT, hT0, hT1, fun H1 t W1 e1 ht1 htT hlo hhi => ?_⟩
    walk_at "run"
    refine x_meth W1.ins fs_arrival_at ?_
    refine ⟨N, ls, p, qs, M, c + 200, t, rfl, W1, hC, L, J, h8, hp1, by omega, ht1, by omega, fun H2 a dx Qa Ea W2 e2 ha hQ hE => ?_⟩
    obtain ⟨hlen, hjs, hjo⟩ := line_port J L h8 hp1 ht1 z
    refine x_meth ha af_line ?_
    refine ⟨a, dx, Qa, Ea, _, _, z, rfl, ha, hQ, hE, hlen, fun H3 l e3 hl => ?_⟩
    walk_at "run"
    have W3 := W2.ex e3
    refine x_meth W3.ins fs_joined_by ?_
    refine ⟨N, ls, p, qs, M, c + 200 + 20, t, .inr z, rfl, W3, hC, L.len, by omega, hpl, fun H4 W4 e4 => ?_⟩
    walk_at "run"
    obtain ⟨xs, hxs, hxd⟩ := hl.ex
    have hlK : l ≠ M.Kd := by
      obtain ⟨ks, hk, _⟩ := W3.cache
      exact fun z => by rw [z, hk] at hxs; cases hxs
    obtain ⟨es, hes⟩ : ∃ es, es = evP (arrL N (labs N ls (t - 1)) (0, t)).2 (.inr z) := ⟨_, rfl⟩
    have hxl : xs.length = es.length := by rw [hxd.len, List.length_map, hes]
    rw [← hes] at hxd hjs hjo
    obtain ⟨m, hm, hm2⟩ : ∃ m : Nat, m < es.length ∧ ((es.length : Int) + (n - jq N ls t (.inr z) - 1)).toNat = m := ⟨((es.length : Int) + (n - jq N ls t (.inr z) - 1)).toNat, by omega, rfl⟩
    obtain ⟨x, hx⟩ : ∃ x, es[m]? = some x := ⟨es[m], by simp [hm]⟩
    have hln := hjo x (List.mem_of_getElem? hx)
    obtain ⟨k2, hk2, ex1, hx2, hx3⟩ := LabN.r J L ht1 hp1 hln
    have hsrc : SrcP N ls z n ((k2 : Int), x.2) := by
      refine ⟨t, ht1, hlo, hhi, ?_⟩
      rw [← hes, hm2, ← ex1]
      exact hx
    obtain ⟨v, hv, hvd⟩ := hxd.get (i := m) (d := pdL x) (by rw [List.getElem?_map, hx]; rfl)
    obtain ⟨b, ys, rfl, hB, hys⟩ := Dp.tup_inv hvd
    have hys2 : ys = [.int (k2 : Int), .int x.2] := by
      cases hys with
      | cons hy0 hys =>
      cases hys with
      | cons hy1 hys =>
      cases hys
      rw [hy0.int_inv, hy1.int_inv, ex1]
    rw [hys2] at hB
    have t34 := W3.tx e4
    have e14 : ExK M H H4 := e1.trans (e2.trans ((ExK.of e3).trans e4))
    refine x_ixL (SqL.of (e4 _ _ hlK hxs)) (atI_neg (by omega) (by omega) (by rw [hxl, hm2]; exact hv)) ?_
    have hT := jq_mono (ls := ls) J.fw L.pos htT (.inl (k2 : Int))
    exact q H4 b k2 x.2 (W4.le (by omega)) e14 (t34.t hB) hk2 hx2 (by omega) hsrc
end
/-! Timetable.passenger of ports -/
section
variable {P : Program} {w : World} {K : PySem.W.Frag} {mg : Str → Option Value} {base : Heap}
/-- the place's number, much for a port -/
def slotP (σ : L2.St) (i : Nat) : Nat := match σ[i]? with
  | some (some (.int n)) => n.toNat
  | _ => 1000
def spPsgPt (K : PySem.W.Frag) (C : Addr) : Sp := fun vs H Q _ => ∃ (N : Net) (ls : List Int) (p : Int) (qs : Qs) (M : Tm) (c : Nat) (z : Str) (n T0 : Int), vs = [.ref M.a, .str z, .int n] ∧ TT K C N ls p qs M c H ∧ CntN N ∧ Lens N ls ∧ LenQ N ls qs ∧ JN N ∧ N.length ≤ 8 ∧ 1 ≤ N.length ∧ c < 860000 ∧ PlIn N (.inr z) ∧ 1 ≤ n ∧ n ≤ jq N ls T0 (.inr z) ∧ 0 ≤ T0 ∧ T0 ≤ 1000000000000000000000000000 ∧
  ∀ H' y, TT K C N ls p qs M (c + 2300) H' → ExK M H H' → PsgP N ls p qs z n y → Q (.int y) H'
theorem ok_passengerP {C f f1 : Addr} {fd fd1 : FuncData} (D : Mf K C "passenger" "Timetable.passenger" s_Timetable_passenger ["self", "place", "number"] f fd) (T : Bt mg) (F : TF K C) (M_source : Mf K C "source" "Timetable.source" s_Timetable_source ["self", "place", "number"] f1 fd1) (G1 : FnOk P w K mg base CX0 21 f1 fd1 ["self", "place", "number"] (spSrc K C)) (G2 : FnOk P w K mg base CX0 21 f1 fd1 ["self", "place", "number"] (spSrcP K C)) :
    FnOk P w K mg base CX0 22 f fd ["self", "place", "number"] (spPsgPt K C) := by
  have G_source := fn_or9 G1 G2
  refine D.F.ok sc_Timetable_passenger (fun vs H Q E h => ?_) (fun cdv A outer s H vs Q E hr h => ?_)
  · obtain ⟨N, ls, p, qs, M, c, z, n, T0, rfl, _⟩ := h
    rfl
  · obtain ⟨N, ls, p, qs, M, c, z, n, T0, rfl, W, hC, L, LQ, J, h8, hp1, hc, hpl, hn, hnT, hT0, hT1, q⟩ := h
    have hu := hr.units
    refine ⟨_, (pss_cons (ps_while PassesOwn.never (PW.pt (pw_and (pt_cmpR (op_neU (K := K) hu) (pv 1) pe_int (nomark _)) (pw_and1 (pt_cmpR (op_gtU) (pv 2) pe_int (nomark _))))) (pss_one (ps_asg (pe_meth (pv 0) F.c M_source.m (G_source) (hr.mono (by decide)) M_source.b .nil pass0 (pa_cons (pv 1) (pa_cons (pv 2) pa_nil))) (pg_tup rfl (pgs_cons (pg_name (i := 1) sc_Timetable_passenger.nd rfl (Or.inl rfl)) (pgs_cons (pg_name (i := 2) sc_Timetable_passenger.nd rfl (Or.inl rfl)) pgs_nil))))))
      (pss_cons (ps_if (pt_cmpR (op_gtU) (pv 2) pe_int (nomark _)) (pss_one (ps_ret (pe_op op_sub (pe_op (op_addU (K := K)) (pe_fld (pv 0) rfl) (pv 2)) pe_int))) pss_nil)
      (pss_one (ps_ret (pe_ix (ix_U (K := K)) (pe_ix (ix_U (K := K)) (pe_fld (pv 0) rfl) (pv 1) (fun _ _ => rfl)) (pe_op op_sub (pv 2) pe_int) (fun _ _ => rfl)))))), ?_⟩
    walk_at "run"
    refine while_raw (fun σ H' => (σ = [some (.ref M.a), some (.str z), some (.int n)] ∧ TT K C N ls p qs M c H' ∧ ExK M H H') ∨ ∃ (k2 : Nat) (n2 : Int), σ = [some (.ref M.a), some (.int (k2 : Int)), some (.int n2)] ∧ TT K C N ls p qs M (c + 230 * (1 + (N.length - k2))) H' ∧ ExK M H H' ∧ k2 < N.length ∧ 1 - ls.getD k2 0 ≤ n2 ∧ n2 ≤ jq N ls T0 (.inl (k2 : Int)) ∧ ∀ y, PsgR N ls p qs k2 n2 y → PsgP N ls p qs z n y) (fun σ _ => slotP σ 1) (.inl ⟨rfl, W, ExK.of (Ex.refl H)⟩) ?_
    rintro σ H1 hI R hT hF
    rcases hI with ⟨rfl, W1, e1⟩ | ⟨k2, n2, rfl, W1, e1, hk2, hn2, hj2, hps⟩
    · walk_at "run"
      refine .inl ⟨rfl, _, rfl, ?_⟩
      rw [if_pos (by simp), decide_eq_true (show 0 < n by omega)]
      refine hT H1 ?_
      walk_at "run"
      refine x_meth W1.ins fs_source (.inr ?_)
      refine ⟨N, ls, p, qs, M, c, z, n, T0, rfl, W1, hC, L, J, h8, hp1, by omega, hpl, hn, hnT, hT0, hT1, fun H2 l k3 n3 W2 e2 hl hlt hn3 hj3 hsrc => ?_⟩
      refine x_two hl ?_
      walk_at "run"
      refine ⟨.inr ⟨k3, n3, rfl, W2.le (by omega), e1.trans e2, hlt, hn3, hj3, fun y hy => ⟨k3, n3, hsrc, hy⟩⟩, ?_⟩
      show ((k3 : Int)).toNat < 1000
      omega
    · walk_at "run"
      by_cases hz : k2 ≠ 0 ∧ 0 < n2
      · obtain ⟨hz1, hz2⟩ := hz
        rw [if_pos (by simp; omega), decide_eq_true hz2]
        refine hT H1 ?_
        walk_at "run"
        refine x_meth W1.ins fs_source (.inl ?_)
        refine ⟨N, ls, p, qs, M, c + 230 * (1 + (N.length - k2)), k2, n2, T0, rfl, W1, hC, L, J, h8, by omega, by omega, by omega, by omega, hj2, hT0, hT1, fun H2 l k3 n3 W2 e2 hl hlt hn3 hj3 hsrc => ?_⟩
        refine x_two hl ?_
        walk_at "run"
        refine ⟨.inr ⟨k3, n3, rfl, W2.le (by omega), e1.trans e2, by omega, hn3, hj3, fun y hy => hps y (.step (by omega) (by omega) hsrc hy)⟩, ?_⟩
        show ((k3 : Int)).toNat < ((k2 : Int)).toNat
        omega
      · suffices h : R false H1 by
          by_cases h0 : k2 = 0
          · rw [if_neg (by simp; omega)]; exact h
          · rw [if_pos (by simp; omega), decide_eq_false fun h2 => hz ⟨h0, h2⟩]; exact h
        refine hF H1 ?_
        walk_at "run"
        by_cases hp : 0 < n2
        · rw [if_pos hp]
          refine x_fld W1.ins F.c F.next_passenger fs_next_passenger ?_
          walk_at "run"
          exact q H1 _ (W1.le (by omega)) e1 (hps _ (.new (Classical.not_not.mp fun h => hz ⟨h, hp⟩) hp rfl))
        · rw [if_neg hp]
          refine x_fld W1.ins F.c F.waiting fs_waiting ?_
          obtain ⟨ub, ts, hu2, hT2, hts⟩ := qs_at W1.wai
          rw [hu2]
          have hkq : k2 < qs.length := by rw [LQ.len]; omega
          obtain ⟨zv, hzv, hzd⟩ := hts.get (i := k2) (d := qD (qs.getD k2 [])) (by rw [List.getElem?_map]; simp [List.getD_eq_getElem?_getD, hkq])
          obtain ⟨qb, rfl, hQB⟩ := q_at hzd
          refine x_ixT hT2 (atI_nat hzv) ?_
          walk_at "run"
          have hle := LQ.eq k2 (by omega)
          obtain ⟨m, hm, hm2⟩ : ∃ m : Nat, m < (qs.getD k2 []).length ∧ (((qs.getD k2 []).length : Int) + (n2 - 1)).toNat = m := ⟨(((qs.getD k2 []).length : Int) + (n2 - 1)).toNat, by omega, rfl⟩
          obtain ⟨x, hx⟩ : ∃ x, (qs.getD k2 [])[m]? = some x := ⟨(qs.getD k2 [])[m], List.getElem?_eq_getElem hm⟩
          refine x_ixT hQB (v := .int x) (atI_neg (by omega) (by rw [List.length_map]; omega) (by rw [List.length_map, hm2, List.getElem?_map, hx]; rfl)) ?_
          exact q H1 _ (W1.le (by omega)) e1 (hps _ (.old (by omega) (by rw [hm2]; exact hx)))
end
/-! who finishes: by labels and by the simulation -/
section
variable {N : Net} {ls : List Int}
theorem evP_map {α β : Type} {f : α → β} : ∀ {es : EvsA α} {q : Key}, evP (mapE f es) q = (evP es q).map f
  | [], q => rfl
  | e :: r, q => by
    show (if e.1 = q then e.2.map f else []) ++ evP (mapE f r) q = ((if e.1 = q then e.2 else []) ++ evP r q).map f
    rw [evP_map, List.map_append]
    split <;> rfl
/-- what happens at an arrival of the simulation: that of the labels, with passengers -/
theorem arr_labs (J : JN N) (L : Lens N ls) (h8 : N.length ≤ 8) (hp1 : 1 ≤ N.length) {p : Int} {qs : Qs} (LQ : LenQ N ls qs) (t : Nat) : arrI N (runI N qs p t) (p + (t : Int)) = (mapQ (psi N ls p qs) (arrL N (labs N ls (t : Int)) (0, (t : Int) + 1)).1, mapE (psi N ls p qs) (arrL N (labs N ls (t : Int)) (0, (t : Int) + 1)).2) := by
  have newP : PsgR N ls p qs 0 ((t : Int) + 1) (p + (t : Int)) := .new rfl (by omega) (by omega)
  have hp0 : psi N ls p qs (0, (t : Int) + 1) = p + (t : Int) := psi_eq J L newP
  show joinW N (departW N 8) (runI N qs p t) 0 (p + (t : Int)) = _
  rw [(run_labs J L h8 hp1 LQ t).2, ← hp0, joinW_map (departW_map 8)]
/-- the n-th who finishes at a port, at its time: the one of the simulation -/
theorem fin_at (J : JN N) (L : Lens N ls) (h8 : N.length ≤ 8) (hp1 : 1 ≤ N.length) {p : Int} {qs : Qs} (LQ : LenQ N ls qs) {z : Str} {n y : Int} (h : PsgP N ls p qs z n y) {t : Nat} (h1 : jq N ls (t : Int) (.inr z) < n) (h2 : n ≤ jq N ls ((t : Int) + 1) (.inr z)) :
    (((evP (arrI N (runI N qs p t) (p + (t : Int))).2 (.inr z)).length : Int) = jq N ls ((t : Int) + 1) (.inr z) - jq N ls (t : Int) (.inr z)) ∧ (evP (arrI N (runI N qs p t) (p + (t : Int))).2 (.inr z))[(n - jq N ls (t : Int) (.inr z) - 1).toNat]? = some y := by
  obtain ⟨k2, n2, ⟨u, hu1, hu2, hu3, hu4⟩, hy⟩ := h
  have hu : u = (t : Int) + 1 := by
    by_cases h : u < (t : Int) + 1
    · have := jq_mono (ls := ls) J.fw L.pos (show u ≤ (t : Int) by omega) (.inr z)
      omega
    · by_cases h' : (t : Int) + 1 < u
      · have := jq_mono (ls := ls) J.fw L.pos (show (t : Int) + 1 ≤ u - 1 by omega) (.inr z)
        omega
      · omega
  subst hu
  have lp := line_port J L h8 hp1 hu1 z
  rw [Int.add_sub_cancel] at lp hu2 hu4
  obtain ⟨_, hlen, _⟩ := lp
  rw [arr_labs J L h8 hp1 LQ t]
  dsimp only
  rw [evP_map, List.length_map, List.getElem?_map]
  refine ⟨hlen, ?_⟩
  rw [show (n - jq N ls (t : Int) (.inr z) - 1).toNat = (((evP (arrL N (labs N ls (t : Int)) (0, (t : Int) + 1)).2 (.inr z)).length : Int) + (n - jq N ls ((t : Int) + 1) (.inr z) - 1)).toNat by omega, hu4]
  exact congrArg some (psi_eq J L hy)
end
end K
set_option maxHeartbeats 4000000
namespace K
open PySem PySem.Spec PyProof.Rows L2 Evl FB
local macro_rules | `(tactic| walk_at "run") => `(tactic| try simp only [tSeq, tAsg, tVar, tC, gName, L2.start, List.map_cons, List.map_nil, List.cons_append, List.nil_append, List.length_cons, List.length_nil, List.replicate, List.getElem?_cons_zero, List.getElem?_cons_succ, Option.some.injEq, exists_eq_left', List.set_cons_zero, List.set_cons_succ, V.ref.injEq, tRet, x_tLst, x_tTup, tCons, tCB, tNil, tOp, x_addI, x_mulI, x_rI, x_rI0, x_ltI, x_leI, x_ltS, x_leS, x_eqI, x_neI, x_eqS, x_eqB, x_neB, x_isiI, x_isiS, x_int, x_max, x_min, cxOf, tIfS, tNext, tTest, V.bl.injEq, decide_eq_true_eq, gSub, tAnd, tOr, tNot, tB, tDrop, tBM, x_tFor, iRng1, iList, iTup, x_tLc, tYes, tCall, tIf, tAndV, tOrV, tNotV, tChain, List.append_nil, tUn, if_true, wipe, true_and, x_never, iU, x_itS, kV, Nat.reduceAdd, Nat.reduceSub, List.replicate_zero, x_rU, x_tMkO, iEnumT, x_tDc, x_tDGet, x_tDGet2, x_sDPut, x_tDSetd, x_tDNewK, x_iItems, x_iZip, x_tSAddK, x_tLockV, x_tTupRg, x_tRg2, tPar, tPar3, tBM0])
/-- an own error class without fields -/
structure Rz (K : PySem.W.Frag) (mg : Str → Option Value) (x : Str) (C : Addr) : Prop where
  xP : PySem.W.excIn K C [.type "ValueError", .type "Exception", .type "BaseException", .type "object"] "ValueError.__new__" = true
  g : mg x = some (.ref C)
  kP : PySem.W.keepIn K (.ref C) = true
  bP : PySem.W.subIn K (.ref C) (.type "BaseException") = some true
  tP : PySem.W.typeIn K (.ref C) = some (.type "type")
section
variable {P : Program} {w : World} {K : PySem.W.Frag} {mg : Str → Option Value} {base : Heap} {α : Type} [Inhabited α] {pd : α → PyData}
end
end K
set_option maxHeartbeats 1000000
namespace K
open PySem PySem.Spec PyProof.Rows L2 Evl FB
local macro_rules | `(tactic| walk_at "run") => `(tactic| try simp only [tSeq, tAsg, tVar, tC, gName, L2.start, List.map_cons, List.map_nil, List.cons_append, List.nil_append, List.length_cons, List.length_nil, List.replicate, List.getElem?_cons_zero, List.getElem?_cons_succ, Option.some.injEq, exists_eq_left', List.set_cons_zero, List.set_cons_succ, V.ref.injEq, tRet, x_tLst, x_tTup, tCons, tCB, tNil, tOp, x_addI, x_mulI, x_rI, x_rI0, x_ltI, x_leI, x_ltS, x_leS, x_eqI, x_neI, x_eqS, x_eqB, x_neB, x_isiI, x_isiS, x_int, x_max, x_min, cxOf, tIfS, tNext, tTest, V.bl.injEq, decide_eq_true_eq, gSub, tAnd, tOr, tNot, tB, tDrop, tBM, x_tFor, iRng1, iList, iTup, x_tLc, tYes, tCall, tIf, tAndV, tOrV, tNotV, tChain, List.append_nil, tUn, if_true, wipe, true_and, x_never, iU, x_itS, kV, Nat.reduceAdd, Nat.reduceSub, List.replicate_zero, x_rU, x_tMkO, iEnumT, x_tDc, x_tDGet, x_tDGet2, x_sDPut, x_tDSetd, x_tDNewK, x_iItems, x_iZip, x_tSAddK, x_tLockV, x_tTupRg, x_tRg2, tPar, tPar3, tBM0, tSl, tNoPart, tPart, x_tSetAdd, x_tDIn, x_iKeys, x_iZipX, x_iZip3, iRevR, tRg1, x_tFld, x_tMeth, x_sFld, x_tMake, tAug, x_ipI, x_tDNotIn, iRng2])
/-! arrive: a state of a valid network of at most eight stations -/
section
variable {P : Program} {w : World} {K : PySem.W.Frag} {mg : Str → Option Value} {base : Heap}
end
end K
set_option maxHeartbeats 4000000
namespace K
open PySem PySem.Spec PyProof.Rows L2 Evl FB
local macro_rules | `(tactic| walk_at "run") => `(tactic| try simp only [tSeq, tAsg, tVar, tC, gName, L2.start, List.map_cons, List.map_nil, List.cons_append, List.nil_append, List.length_cons, List.length_nil, List.replicate, List.getElem?_cons_zero, List.getElem?_cons_succ, Option.some.injEq, exists_eq_left', List.set_cons_zero, List.set_cons_succ, V.ref.injEq, tRet, x_tLst, x_tTup, tCons, tCB, tNil, tOp, x_addI, x_mulI, x_rI, x_rI0, x_ltI, x_leI, x_ltS, x_leS, x_eqI, x_neI, x_eqS, x_eqB, x_neB, x_isiI, x_isiS, x_int, x_max, x_min, cxOf, tIfS, tNext, tTest, V.bl.injEq, decide_eq_true_eq, gSub, tAnd, tOr, tNot, tB, tDrop, tBM, x_tFor, iRng1, iList, iTup, x_tLc, tYes, tCall, tIf, tAndV, tOrV, tNotV, tChain, List.append_nil, tUn, if_true, wipe, true_and, x_never, iU, x_itS, kV, Nat.reduceAdd, Nat.reduceSub, List.replicate_zero, x_rU, x_tMkO, iEnumT])
/-- an own error class with an __init__ of its own, at C; its __init__ at fI -/
structure Er (K : PySem.W.Frag) (mg : Str → Option Value) (x : Str) (C fI : Addr) : Prop where
  O : OexC K C
  g : mg x = some (.ref C)
  iC : PySem.W.findIn K (.ref C) "__init__" = some (some (.ref fI))
  tI : PySem.W.typeIn K (.ref fI) = some (.type "function")
section
variable {P : Program} {w : World} {K : PySem.W.Frag} {mg : Str → Option Value} {base : Heap}
end
end K
set_option maxHeartbeats 1000000
namespace K
open PySem PySem.Spec PyProof.Rows L2 Evl FB
local macro_rules | `(tactic| walk_at "run") => `(tactic| try simp only [tSeq, tAsg, tVar, tC, gName, L2.start, List.map_cons, List.map_nil, List.cons_append, List.nil_append, List.length_cons, List.length_nil, List.replicate, List.getElem?_cons_zero, List.getElem?_cons_succ, Option.some.injEq, exists_eq_left', List.set_cons_zero, List.set_cons_succ, V.ref.injEq, tRet, x_tLst, x_tTup, tCons, tCB, tNil, tOp, x_addI, x_mulI, x_rI, x_rI0, x_ltI, x_leI, x_ltS, x_leS, x_eqI, x_neI, x_eqS, x_eqB, x_neB, x_isiI, x_isiS, x_int, x_max, x_min, cxOf, tIfS, tNext, tTest, V.bl.injEq, decide_eq_true_eq, gSub, tAnd, tOr, tNot, tB, tDrop, tBM, x_tFor, iRng1, iList, iTup, x_tLc, tYes, tCall, tIf, tAndV, tOrV, tNotV, tChain, List.append_nil, tUn, if_true, wipe, true_and, x_never, iU, x_itS, kV, Nat.reduceAdd, Nat.reduceSub, List.replicate_zero, x_rU, x_tMkO, iEnumT, x_tDc, x_tDGet, x_tDGet2, x_sDPut, x_tDSetd, x_tDNewK, x_iItems, x_iZip, x_tSAddK, x_tLockV, x_tTupRg, x_tRg2, tPar, tPar3, tBM0, tSl, tNoPart, tPart, x_tSetAdd, x_tDIn, x_iKeys, x_iZipX, tWhile, x_iZip3, iRevR, tRg1])
/-! what is reached, as the law reckons it; reachable_stations, ports, initial_state, their errors too -/
def intsOf (s : List Key) : List Int := s.filterMap fun k => match k with | .inl i => some i | .inr _ => none
def strsOf (s : List Key) : List Str := s.filterMap fun k => match k with | .inl _ => none | .inr z => some z
theorem mem_intsOf {s : List Key} {i : Int} : i ∈ intsOf s ↔ (.inl i : Key) ∈ s := by
  unfold intsOf
  rw [List.mem_filterMap]
  constructor
  · rintro ⟨k, hk, e⟩
    cases k with
    | inl j => cases e; exact hk
    | inr z => cases e
  · intro h
    exact ⟨_, h, rfl⟩
theorem mem_strsOf {s : List Key} {z : Str} : z ∈ strsOf s ↔ (.inr z : Key) ∈ s := by
  unfold strsOf
  rw [List.mem_filterMap]
  constructor
  · rintro ⟨k, hk, e⟩
    cases k with
    | inl j => cases e
    | inr y => cases e; exact hk
  · intro h
    exact ⟨_, h, rfl⟩
def fnd (N : Net) : Nat → List Int
  | 0 => [0]
  | k + 1 => if (k : Int) ∈ fnd N k then fnd N k ++ intsOf (N.getD k []) else fnd N k
def nms (N : Net) : Nat → List Str
  | 0 => []
  | k + 1 => if (k : Int) ∈ fnd N k then nms N k ++ strsOf (N.getD k []) else nms N k
theorem strsOf_len (s : List Key) : (strsOf s).length ≤ s.length := List.length_filterMap_le _ _
theorem nms_len {N : Net} (h : ∀ k, (N.getD k []).length ≤ 8) : ∀ k, (nms N k).length ≤ 8 * k
  | 0 => by show 0 ≤ _; omega
  | k + 1 => by
    have ih := nms_len h k
    have := strsOf_len (N.getD k [])
    have := h k
    unfold nms
    split
    · rw [List.length_append]; omega
    · omega
theorem ValidN.seats8 {N : Net} (h : ValidN N) (k : Nat) : (N.getD k []).length ≤ 8 := by
  rw [List.getD_eq_getElem?_getD]
  cases e : N[k]? with
  | none => simp
  | some s => exact (h.st k s e).2.1
theorem ValidN.fwd {N : Net} (h : ValidN N) {k : Nat} {i : Int} (hi : (.inl i : Key) ∈ N.getD k []) : (k : Int) < i ∧ i < N.length := by
  rw [List.getD_eq_getElem?_getD] at hi
  cases e : N[k]? with
  | none => rw [e] at hi; simp at hi
  | some s => rw [e] at hi; exact h.seat e hi
theorem fnd_nat {N : Net} (h : ValidN N) : ∀ k, ∀ i ∈ fnd N k, 0 ≤ i ∧ i < N.length
  | 0, i, hi => by
    have : i = 0 := by simpa [fnd] using hi
    have := h.pos
    omega
  | k + 1, i, hi => by
    unfold fnd at hi
    split at hi
    · rcases List.mem_append.mp hi with hi | hi
      · exact fnd_nat h k i hi
      · have := h.fwd (mem_intsOf.mp hi)
        omega
    · exact fnd_nat h k i hi
/-- what comes later lies behind -/
theorem fnd_later {N : Net} (h : ValidN N) (j : Nat) : ∀ d, ((j : Int) ∈ fnd N (j + d) ↔ (j : Int) ∈ fnd N j)
  | 0 => Iff.rfl
  | d + 1 => by
    rw [← fnd_later h j d]
    show (j : Int) ∈ (if ((j + d : Nat) : Int) ∈ fnd N (j + d) then fnd N (j + d) ++ intsOf (N.getD (j + d) []) else fnd N (j + d)) ↔ _
    split
    · rw [List.mem_append]
      refine ⟨fun z => z.elim id fun z => ?_, .inl⟩
      have := h.fwd (mem_intsOf.mp z)
      omega
    · exact Iff.rfl
theorem fnd_at {N : Net} (h : ValidN N) {j : Nat} (hj : j ≤ N.length) : (j : Int) ∈ fnd N N.length ↔ (j : Int) ∈ fnd N j := by
  have := fnd_later h j (N.length - j)
  rwa [show j + (N.length - j) = N.length by omega] at this
theorem mem_nms {N : Net} {z : Str} : ∀ k, z ∈ nms N k ↔ ∃ j : Nat, j < k ∧ (j : Int) ∈ fnd N j ∧ (.inr z : Key) ∈ N.getD j []
  | 0 => by simp [nms]
  | k + 1 => by
    have ih := mem_nms (N := N) (z := z) k
    unfold nms
    split
    · rename_i hk
      rw [List.mem_append, ih, mem_strsOf]
      constructor
      · rintro (⟨j, h1, h2⟩ | h)
        · exact ⟨j, by omega, h2⟩
        · exact ⟨k, by omega, hk, h⟩
      · rintro ⟨j, h1, h2, h3⟩
        by_cases e : j = k
        · subst e; exact .inr h3
        · exact .inl ⟨j, by omega, h2, h3⟩
    · rename_i hk
      rw [ih]
      constructor
      · rintro ⟨j, h1, h2⟩
        exact ⟨j, by omega, h2⟩
      · rintro ⟨j, h1, h2, h3⟩
        by_cases e : j = k
        · subst e; exact absurd h2 hk
        · exact ⟨j, by omega, h2, h3⟩
/-! a def that raises: by its calls that do not, and those that do -/
section
variable {P : Program} {w : World} {K : PySem.W.Frag} {mg : Str → Option Value} {base : Heap}
theorem fn_lift {CX : CXT} {k : Nat} {f : Addr} {fd : FuncData} {ps : List Str} {sp : Sp} (F : FnOk P w K mg base CX0 k f fd ps sp) : FnOk P w K mg base CX k f fd ps sp :=
  ⟨F.len, fun A outer s H args us vs Q E hr e0 hb r q => codeAny_mono (F.run A outer s H args us vs Q E hr e0 hb r q) fun res s' z => by
    cases res with
    | error e => exact (show False from z).elim
    | ok fl => cases fl <;> exact z⟩
abbrev s_reachable_stations : Stmt := top 22
theorem sc_reachable_stations : FnScope ["network", "reached", "station", "seats", "place"] ["network"] (defScope s_reachable_stations) := ⟨rfl, rfl, rfl, by decide +kernel, rfl, by decide +kernel, by decide +kernel⟩
/-- the stations that are reached, rising -/
def Rch (N : Net) (ns : List Int) : Prop := ns.Pairwise (· < ·) ∧ ∀ i : Int, i ∈ ns ↔ i ∈ fnd N N.length
def spReach (K : PySem.W.Frag) : Sp := fun vs H Q _ => ∃ (v : V) (N : Net), vs = [v] ∧ NetAt K H v N ∧ ValidN N ∧ ∀ H' l ns, Ex H H' → H l = none → H' l = some (.lst (ns.map V.int)) → Rch N ns → Q (.ref l) H'
theorem ok_reach_good {f f1 f2 f3 c : Addr} {fd fd1 fd2 fd3 : FuncData} (D : Df K mg "reachable_stations" s_reachable_stations ["network"] f fd) (hc : fd.code = .ref c) (hcd : PySem.W.kdsCode K (.ref c) = true) (T : Bt mg) (Ck : Ct K mg)
    (D_check_network : Df K mg "check_network" s_check_network ["network"] f1 fd1) (D_is_word : Df K mg "is_word" s_is_word ["text"] f2 fd2) (D_is_place : Df K mg "is_place" s_is_place ["place", "station", "stations"] f3 fd3) : FnOk P w K mg base CX0 5 f fd ["network"] (spReach K) := by
  have G_check_network : FnOk P w K mg base CX0 4 f1 fd1 _ _ := ok_check_network0 D_check_network T Ck D_is_word D_is_place
  refine okC D.F hc sc_reachable_stations (fun vs H Q E h => ?_) (fun A outer s H vs Q E hr h => ?_)
  · obtain ⟨v, N, rfl, _⟩ := h
    rfl
  · obtain ⟨v, N, rfl, hN, hV, q⟩ := h
    refine ⟨_, (pss_cons (ps_expr (pe_call (G_check_network) (hr.mono (by decide)) rfl D_check_network.g D_check_network.F.kp D_check_network.b .nil pass0 (pa_cons (pv 0) pa_nil)))
      (pss_cons (ps_set (i := 1) sc_reachable_stations.nd rfl (Or.inl rfl) (pe_set1 (P := P) (w := w) pe_int hcd))
      (pss_cons (ps_for PassesOwn.never rfl (pi_enumT (by rfl) T.b_enumerate (pa_cons (pv 0) pa_nil)) (pg_tup rfl (pgs_cons (pg_name (i := 2) sc_reachable_stations.nd rfl (Or.inl rfl)) (pgs_cons (pg_name (i := 3) sc_reachable_stations.nd rfl (Or.inl rfl)) pgs_nil))) (pss_one (ps_if (pt_cmpR (op_inM (P := P) (w := w)) (pv 2) (pv 1) (by rfl)) (pss_one (ps_for PassesOwn.never rfl (pi_U (K := K) (pv 3)) (pg_name (i := 4) sc_reachable_stations.nd rfl (Or.inl rfl)) (pss_one (ps_if (pt_not (pt_val (pe_callB (call_isiU (K := K)) (by rfl) T.b_isinstance (by decide +kernel) (pa_cons (pv 4) (pa_cons (pe_bltn (v := .ty "str") (by rfl) T.b_str (by decide +kernel) rfl) pa_nil))))) (pss_one (ps_expr (pe_setAdd (P := P) (w := w) (pv 1) (pa_cons (pv 4) pa_nil)))) pss_nil)))) pss_nil)))
      (pss_one (ps_ret (pe_callB (call_sortM (P := P) (w := w) rfl) (by rfl) T.b_sorted (by decide +kernel) (pa_cons (pv 1) pa_nil))))))), ?_⟩
    obtain ⟨na, ns, rfl, hNs, hns⟩ := hN.at
    have hnl : ns.length = N.length := by rw [hns.len, List.length_map]
    have h40 := hV.le
    have s8 := hV.seats8
    walk_at "run"
    refine ⟨.ref na, N, rfl, hN, hV, fun H1 e1 => x_tSet1I fun R H2 nR e2 hR => ?_⟩
    walk_at "run"
    have e02 := e1.trans e2
    have nR0 : H R = none := fresh_back e1 nR
    refine ⟨_, _, rfl, ex_t e02 hNs, loop_it walk_enumT (fun i σ H' => ∃ u2 u3 u4 S n, σ = [some (.ref na), some (.ref R), u2, u3, u4] ∧ Ex H H' ∧ H' R = some (SetM P w R S n) ∧ (∀ k, S k = true ↔ ∃ j : Int, k = .inl j ∧ j ∈ fnd N i) ∧ n ≤ 1 + 8 * i) ⟨_, _, _, _, 1, rfl, e02, hR, fun k => by simp [fnd], by omega⟩
      (fun i σ H' _ ⟨_, _, _, _, _, _, e, _⟩ => ex_t e hNs) ?_ ?_⟩
    · rintro i x σ H3 H4 hi ⟨u2, u3, u4, S, n, rfl, e3, hR3, RS, hn⟩ ⟨T0, x, y, rfl, hT0, rfl, hx, hy⟩
      obtain rfl : V.int (i : Nat) = x := Option.some.inj hx
      have e4 : Ex H3 (upd H3 T0 (.tup [.int (i : Nat), y])) := Ex.new hT0
      refine x_two (SqT.of upd_same) ?_
      generalize upd H3 T0 (.tup [.int (i : Nat), y]) = H4 at e4
      have hR4 := e4 _ _ hR3
      have e04 := e3.trans e4
      obtain ⟨sD, hs, hy2⟩ := hns.get' hy
      obtain ⟨s, hsN, rfl⟩ : ∃ s, N[i]? = some s ∧ stD s = sD := by simpa using hs
      obtain ⟨b, rfl, hb⟩ := StAt.at hy2
      have hiN : i < N.length := (List.getElem?_eq_some_iff.mp hsN).1
      have hg : N.getD i [] = s := by rw [List.getD_eq_getElem?_getD, hsN]; rfl
      have hs8 := s8 i
      rw [hg] at hs8
      walk_at "run"
      refine x_setIn (k := .inl (i : Int)) hR4 ?_
      rw [if_neg Bool.false_ne_true]
      have hSi : S (.inl (i : Int)) = true ↔ (i : Int) ∈ fnd N i := by
        rw [RS (.inl (i : Int))]
        constructor
        · rintro ⟨j, e, h⟩
          cases e
          exact h
        · exact fun h => ⟨_, rfl, h⟩
      have hstep : fnd N (i + 1) = if (i : Int) ∈ fnd N i then fnd N i ++ intsOf s else fnd N i := by rw [← hg]; rfl
      walk_at "run"
      cases hS : S (.inl (i : Int)) with
      | false =>
        rw [if_neg Bool.false_ne_true]
        have h0 : ¬ (i : Int) ∈ fnd N i := fun z => by rw [hSi.mpr z] at hS; cases hS
        rw [if_neg h0] at hstep
        exact ⟨_, _, _, S, n, rfl, e04, hR4, by rw [hstep]; exact RS, by omega⟩
      | true =>
        rw [if_pos rfl]
        rw [if_pos (hSi.mp hS)] at hstep
        refine x_itT (ex_t e04 hb) (loop_it walk_tup (fun k σ H' => ∃ u4 S n, σ = [some (.ref na), some (.ref R), some (.int (i : Nat)), some (.ref b), u4] ∧ Ex H H' ∧ H' R = some (SetM P w R S n) ∧ (∀ q, S q = true ↔ ∃ j : Int, q = .inl j ∧ j ∈ fnd N i ++ intsOf (s.take k)) ∧ n ≤ 1 + 8 * i + k) ⟨_, S, n, rfl, e04, hR4, by simpa [intsOf] using RS, by omega⟩ (fun k σ H' _ ⟨_, _, _, _, e, _⟩ => ex_t e hb) ?_ ?_)
        · rintro k x σ H5 H5' hk ⟨u4, S, n, rfl, e5, hR5, RS5, hn5⟩ ⟨eH, hx⟩
          subst eH
          obtain ⟨p, hpk, rfl⟩ : ∃ p, s[k]? = some p ∧ kV p = x := by simpa using hx
          have hks : k < s.length := (List.getElem?_eq_some_iff.mp hpk).1
          have htk : s.take (k + 1) = s.take k ++ [p] := by rw [List.take_add_one, hpk]; rfl
          cases p with
          | inr y =>
            walk_at "run"
            rw [if_neg (by simp)]
            refine ⟨_, S, n, rfl, e5, hR5, fun q => ?_, by omega⟩
            rw [RS5 q, htk]
            simp [intsOf]
          | inl j =>
            walk_at "run"
            rw [if_pos (by simp)]
            refine ⟨x_setIs hR5, x_setAdd (k := .inl j) hR5 (by omega) fun H6 e6 _ h6 => ?_⟩
            refine ⟨_, _, _, rfl, fun o u h => e6 _ _ (ne_of_none h nR0) (e5 _ _ h), h6, fun q => ?_, by split <;> omega⟩
            rw [Bool.or_eq_true, RS5 q, decide_eq_true_eq, htk]
            have e : intsOf (s.take k ++ [.inl j]) = intsOf (s.take k) ++ [j] := by simp [intsOf]
            rw [e, ← List.append_assoc]
            constructor
            · rintro (⟨i', e, h⟩ | rfl)
              · exact ⟨i', e, List.mem_append_left _ h⟩
              · exact ⟨j, rfl, List.mem_append_right _ (by simp)⟩
            · rintro ⟨i', e, h⟩
              rcases List.mem_append.mp h with h | h
              · exact .inl ⟨i', e, h⟩
              · exact .inr (by rw [e, List.mem_singleton.mp h])
        · rintro σ H5 ⟨u4, S, n, rfl, e5, hR5, RS5, hn5⟩
          rw [List.length_map] at RS5 hn5
          rw [List.take_length] at RS5
          exact ⟨_, _, _, S, n, rfl, e5, hR5, by rw [hstep]; exact RS5, by omega⟩
    · rintro σ H3 ⟨u2, u3, u4, S, n, rfl, e3, hR3, RS, hn⟩
      rw [hnl] at RS hn
      walk_at "run"
      refine x_sortMI hR3 (by omega) (fun k hk => ?_) fun ms p H4 hp hm hl np e4 h4 => q H4 p ms (e3.trans e4) (fresh_back e3 np) h4 ⟨hp, fun i => ?_⟩
      · obtain ⟨j, rfl, _⟩ := (RS k).mp hk
        exact ⟨_, rfl⟩
      · rw [hm, RS]
        constructor
        · rintro ⟨j, e, h⟩
          cases e
          exact h
        · exact fun h => ⟨_, rfl, h⟩
theorem Rch.len {N : Net} {ns : List Int} (h : Rch N ns) (hV : ValidN N) : ns.length ≤ 40 := by
  have hb : ∀ i ∈ ns, (0 : Int) ≤ i ∧ i < N.length := fun i hi => fnd_nat hV _ i ((h.2 i).mp hi)
  have key : ∀ (l : List Int) (lo : Int), l.Pairwise (· < ·) → (∀ i ∈ l, lo ≤ i ∧ i < N.length) → lo ≤ N.length → (l.length : Int) ≤ N.length - lo := by
    intro l
    induction l with
    | nil => intro lo _ _ h; simp; omega
    | cons x r ih =>
      intro lo p h hh
      obtain ⟨p1, p2⟩ := List.pairwise_cons.mp p
      have hx := h x (List.mem_cons_self ..)
      have := ih (x + 1) p2 (fun i hi => by
        have := p1 i hi
        have := h i (List.mem_cons_of_mem _ hi)
        omega) (by omega)
      rw [List.length_cons]
      omega
  have := key ns 0 h.1 hb (by omega)
  have := hV.le
  omega
abbrev s_ports : Stmt := top 23
theorem sc_ports : FnScope ["network", "names", "station", "place"] ["network"] (defScope s_ports) := ⟨rfl, rfl, rfl, by decide +kernel, rfl, by decide +kernel, by decide +kernel⟩
/-- the ports that are reached -/
def PortsOf (N : Net) (zs : List Str) : Prop := sortedS zs = true ∧ zs.Nodup ∧ ∀ z : Str, z ∈ zs ↔ z ∈ nms N N.length
def spPorts (K : PySem.W.Frag) : Sp := fun vs H Q _ => ∃ (v : V) (N : Net), vs = [v] ∧ NetAt K H v N ∧ ValidN N ∧ ∀ H' l zs, Ex H H' → H l = none → H' l = some (.lst (zs.map V.str)) → PortsOf N zs → Q (.ref l) H'
theorem ok_ports_good {f f1 : Addr} {fd fd1 : FuncData} (D : Df K mg "ports" s_ports ["network"] f fd) (T : Bt mg) (D_reachable_stations : Df K mg "reachable_stations" s_reachable_stations ["network"] f1 fd1)
    (G_reachable_stations : FnOk P w K mg base CX0 5 f1 fd1 ["network"] (spReach K)) : FnOk P w K mg base CX0 6 f fd ["network"] (spPorts K) := by
  refine D.F.ok sc_ports (fun vs H Q E h => ?_) (fun cdv A outer s H vs Q E hr h => ?_)
  · obtain ⟨v, N, rfl, _⟩ := h
    rfl
  · obtain ⟨v, N, rfl, hN, hV, q⟩ := h
    refine ⟨_, (pss_cons (ps_set (i := 1) sc_ports.nd rfl (Or.inl rfl) (pe_callTy0 (call_setM (P := P) (w := w)) (by rfl) T.b_set (by decide +kernel)))
      (pss_cons (ps_for PassesOwn.never rfl (pi_U (K := K) (pe_call (G_reachable_stations) (hr.mono (by decide)) rfl D_reachable_stations.g D_reachable_stations.F.kp D_reachable_stations.b .nil pass0 (pa_cons (pv 0) pa_nil))) (pg_name (i := 2) sc_ports.nd rfl (Or.inl rfl)) (pss_one (ps_for PassesOwn.never rfl (pi_U (K := K) (pe_ix (ix_U (K := K)) (pv 0) (pv 2) (fun _ _ => rfl))) (pg_name (i := 3) sc_ports.nd rfl (Or.inl rfl)) (pss_one (ps_if (pt_val (pe_callB (call_isiU (K := K)) (by rfl) T.b_isinstance (by decide +kernel) (pa_cons (pv 3) (pa_cons (pe_bltn (v := .ty "str") (by rfl) T.b_str (by decide +kernel) rfl) pa_nil)))) (pss_one (ps_expr (pe_setAdd (P := P) (w := w) (pv 1) (pa_cons (pv 3) pa_nil)))) pss_nil)))))
      (pss_one (ps_ret (pe_callB (call_sortM (P := P) (w := w) rfl) (by rfl) T.b_sorted (by decide +kernel) (pa_cons (pv 1) pa_nil)))))), ?_⟩
    obtain ⟨na, ns, rfl, hNs, hns⟩ := hN.at
    have hnl : ns.length = N.length := by rw [hns.len, List.length_map]
    have h40 := hV.le
    walk_at "run"
    refine x_setNew fun R H1 nR e1 hR => ?_
    walk_at "run"
    refine ⟨.ref na, N, rfl, Dp.ex e1 hN, hV, fun H2 l ms e2 nl hl hRc => ?_⟩
    have e02 := e1.trans e2
    have nlR : l ≠ R := fun z => by rw [z, hR] at nl; cases nl
    have hml := hRc.len hV
    refine x_itL (SqL.of hl) (loop_it walk_list (fun t σ H' => ∃ u2 u3 S n, σ = [some (.ref na), some (.ref R), u2, u3] ∧ Ex H H' ∧ H' l = some (.lst (ms.map V.int)) ∧ H' R = some (SetM P w R S n) ∧ (∀ k, S k = true ↔ ∃ z : Str, k = .inr z ∧ ∃ m ∈ ms.take t, (.inr z : Key) ∈ N.getD m.toNat []) ∧ n ≤ 8 * t) ⟨_, _, _, 0, rfl, e02, hl, e2 _ _ hR, fun k => by simp, by omega⟩
      (fun t σ H' _ ⟨_, _, _, _, _, _, h, _⟩ => SqL.of h) ?_ ?_)
    · rintro t x σ H3 H3' ht ⟨u2, u3, S, n, rfl, e3, hl3, hR3, PS3, hn⟩ ⟨eH, hx⟩
      subst eH
      rw [List.length_map] at ht
      obtain ⟨mi, hmi, rfl⟩ : ∃ m, ms[t]? = some m ∧ V.int m = x := by simpa using hx
      have hmb := fnd_nat hV _ mi ((hRc.2 mi).mp (List.mem_of_getElem? hmi))
      obtain ⟨i, rfl⟩ : ∃ i : Nat, mi = (i : Int) := ⟨mi.toNat, by omega⟩
      have hiN : i < N.length := by omega
      obtain ⟨sD, hsD, hy2⟩ := hns.get (show (N.map stD)[i]? = some (stD (N.getD i [])) by simp [List.getD_eq_getElem?_getD, hiN])
      obtain ⟨b, rfl, hb⟩ := StAt.at hy2
      have hs8 := hV.seats8 i
      walk_at "run"
      refine x_ixT (ex_t e3 hNs) (atI_nat hsD) (x_itT (ex_t e3 hb) (loop_it walk_tup (fun k σ H' => ∃ u3 S n, σ = [some (.ref na), some (.ref R), some (.int (i : Int)), u3] ∧ Ex H H' ∧ H' l = some (.lst (ms.map V.int)) ∧ H' R = some (SetM P w R S n) ∧ (∀ q, S q = true ↔ ∃ z : Str, q = .inr z ∧ ((∃ m ∈ ms.take t, (.inr z : Key) ∈ N.getD m.toNat []) ∨ (.inr z : Key) ∈ (N.getD i []).take k)) ∧ n ≤ 8 * t + k) ⟨_, S, n, rfl, e3, hl3, hR3, fun k => by rw [PS3 k]; simp, by omega⟩ (fun k σ H' _ ⟨_, _, _, _, e, _⟩ => ex_t e hb) ?_ ?_))
      · rintro k x σ H5 H5' hk ⟨u3, S, n, rfl, e5, hl5, hR5, PS5, hn5⟩ ⟨eH, hx⟩
        subst eH
        obtain ⟨p, hpk, rfl⟩ : ∃ p, (N.getD i [])[k]? = some p ∧ kV p = x := by simpa using hx
        have hks : k < (N.getD i []).length := (List.getElem?_eq_some_iff.mp hpk).1
        have htk : (N.getD i []).take (k + 1) = (N.getD i []).take k ++ [p] := by rw [List.take_add_one, hpk]; rfl
        cases p with
        | inl j =>
          walk_at "run"
          rw [if_neg Bool.false_ne_true]
          refine ⟨_, S, n, rfl, e5, hl5, hR5, fun q => ?_, by omega⟩
          rw [PS5 q, htk]
          simp
        | inr y =>
          walk_at "run"
          refine ⟨x_setIs hR5, x_setAdd (k := .inr y) hR5 (by omega) fun H6 e6 _ h6 => ?_⟩
          refine ⟨_, _, _, rfl, fun o u h => e6 _ _ (ne_of_none h nR) (e5 _ _ h), e6 _ _ nlR hl5, h6, fun q => ?_, by split <;> omega⟩
          rw [Bool.or_eq_true, PS5 q, decide_eq_true_eq, htk]
          constructor
          · rintro (⟨z, rfl, h⟩ | rfl)
            · exact ⟨z, rfl, h.imp id fun h => List.mem_append_left _ h⟩
            · exact ⟨y, rfl, .inr (List.mem_append_right _ (List.mem_singleton.mpr rfl))⟩
          · rintro ⟨z, rfl, h⟩
            rcases h with h | h
            · exact .inl ⟨z, rfl, .inl h⟩
            · rcases List.mem_append.mp h with h | h
              · exact .inl ⟨z, rfl, .inr h⟩
              · exact .inr (List.mem_singleton.mp h)
      · rintro σ H5 ⟨u3, S, n, rfl, e5, hl5, hR5, PS5, hn5⟩
        rw [List.length_map] at hn5
        refine ⟨_, _, S, n, rfl, e5, hl5, hR5, fun q => ?_, by omega⟩
        rw [PS5 q, List.length_map, List.take_length, List.take_add_one, hmi]
        constructor
        · rintro ⟨z, rfl, h⟩
          refine ⟨z, rfl, ?_⟩
          rcases h with ⟨m, hm, h⟩ | h
          · exact ⟨m, List.mem_append_left _ hm, h⟩
          · exact ⟨(i : Int), List.mem_append_right _ (by simp), by rw [Int.toNat_natCast]; exact h⟩
        · rintro ⟨z, rfl, m, hm, h⟩
          refine ⟨z, rfl, ?_⟩
          rcases List.mem_append.mp hm with hm | hm
          · exact .inl ⟨m, hm, h⟩
          · have : m = (i : Int) := by simpa using hm
            rw [this, Int.toNat_natCast] at h
            exact .inr h
    · rintro σ H3 ⟨u2, u3, S, n, rfl, e3, hl3, hR3, PS3, hn⟩
      rw [List.length_map] at PS3 hn
      rw [List.take_length] at PS3
      walk_at "run"
      refine x_sortMS hR3 (by omega) (fun k hk => (let ⟨z, e, _⟩ := (PS3 k).mp hk; ⟨z, e⟩)) fun zs p H4 h1 h2 h3 h4 np e4 h5 => q H4 p zs (e3.trans e4) (fresh_back e3 np) h5 ⟨h1, h2, fun z => ?_⟩
      rw [h3, PS3, mem_nms]
      constructor
      · rintro ⟨y, e, m, hm, h⟩
        cases e
        have hmF := (hRc.2 m).mp hm
        have hb := fnd_nat hV _ m hmF
        obtain ⟨j, rfl⟩ : ∃ j : Nat, m = (j : Int) := ⟨m.toNat, by omega⟩
        rw [Int.toNat_natCast] at h
        exact ⟨j, by omega, (fnd_at hV (by omega)).mp hmF, h⟩
      · rintro ⟨j, h1, h2, h3⟩
        exact ⟨z, rfl, (j : Int), (hRc.2 _).mpr ((fnd_at hV (by omega)).mpr h2), by rw [Int.toNat_natCast]; exact h3⟩
end
local macro_rules | `(tactic| walk_at "run") => `(tactic| try simp only [tSeq, tAsg, tVar, tC, gName, L2.start, List.map_cons, List.map_nil, List.cons_append, List.nil_append, List.length_cons, List.length_nil, List.replicate, List.getElem?_cons_zero, List.getElem?_cons_succ, Option.some.injEq, exists_eq_left', List.set_cons_zero, List.set_cons_succ, V.ref.injEq, tRet, x_tLst, x_tTup, tCons, tCB, tNil, tOp, x_addI, x_mulI, x_rI, x_rI0, x_ltI, x_leI, x_ltS, x_leS, x_eqI, x_neI, x_eqS, x_eqB, x_neB, x_isiI, x_isiS, x_int, x_max, x_min, cxOf, tIfS, tNext, tTest, V.bl.injEq, decide_eq_true_eq, gSub, tAnd, tOr, tNot, tB, tDrop, tBM, x_tFor, iRng1, iList, iTup, x_tLc, tYes, tCall, tIf, tAndV, tOrV, tNotV, tChain, List.append_nil, tUn, if_true, wipe, true_and, x_never, iU, x_itS, kV, Nat.reduceAdd, Nat.reduceSub, List.replicate_zero, x_rU, x_tMkO, iEnumT, x_tDc, x_tDGet, x_tDGet2, x_sDPut, x_tDSetd, x_tDNewK, x_iItems, x_iZip, x_tSAddK, x_tLockV, x_tTupRg, x_tRg2, tPar, tPar3, tBM0, tSl, tNoPart, tPart, x_tSetAdd, x_tDIn, x_iKeys, x_iZipX, x_iZip3, iRevR, tRg1, x_tFld, x_tMeth, x_sFld, x_tMake, tAug, x_ipI, x_tDNotIn, iRng2])
/-! whoever comes, comes by stations that are reached -/
section
variable {N : Net} {ls : List Int}
theorem toQ_some {f : Nat → Int} {q : Key} : ∀ {L : Seats}, 0 < toQ f q L → ∃ i, (i, q) ∈ L ∧ 0 < f i
  | [], h => absurd (show (0 : Int) < 0 from h) (by decide)
  | (i, p) :: r, h => by
    have h : 0 < (if p = q then f i else 0) + toQ f q r := h
    by_cases e : p = q
    · rw [if_pos e] at h
      by_cases h0 : 0 < f i
      · exact ⟨i, by rw [e]; exact List.mem_cons_self .., h0⟩
      · obtain ⟨j, hj, hf⟩ := toQ_some (f := f) (q := q) (L := r) (by omega)
        exact ⟨j, List.mem_cons_of_mem _ hj, hf⟩
    · rw [if_neg e] at h
      obtain ⟨j, hj, hf⟩ := toQ_some (f := f) (q := q) (L := r) (by omega)
      exact ⟨j, List.mem_cons_of_mem _ hj, hf⟩
theorem fnd_le (i : Int) : ∀ {a b : Nat}, a ≤ b → i ∈ fnd N a → i ∈ fnd N b
  | a, 0, h, hi => by
    have : a = 0 := by omega
    subst this
    exact hi
  | a, b + 1, h, hi => by
    by_cases e : a = b + 1
    · rw [← e]; exact hi
    · have := fnd_le i (a := a) (b := b) (by omega) hi
      unfold fnd
      split
      · exact List.mem_append_left _ this
      · exact this
theorem bt_fnd (hV : ValidN N) (fw : Fw N) (L : Lens N ls) {t : Int} : ∀ k, k < N.length → 0 < bt N ls t k → (k : Int) ∈ fnd N k := by
  refine jq_rec fw fun k hk ih hb => ?_
  have h1 := L.pos k hk
  have h2 := L.lt k hk
  have h3 := L.nn k hk
  have h4 := (boat_by fw L hk (t := t) 1).mp (by omega)
  by_cases h0 : k = 0
  · subst h0
    show ((0 : Nat) : Int) ∈ [(0 : Int)]
    simp
  · have hj : 0 < toQ (bt N ls t) (.inl (k : Int)) (seatsOf N N.length) := by
      unfold jq at h4
      rw [if_neg (by simp; omega)] at h4
      omega
    obtain ⟨i, hi, hf⟩ := toQ_some hj
    have hik := seat_lt fw hi
    have him := (mem_seatsOf.mp hi).2
    have hfi := ih i hik hf
    refine fnd_le _ (a := i + 1) (by omega) ?_
    unfold fnd
    rw [if_pos hfi]
    exact List.mem_append_right _ (mem_intsOf.mpr him)
/-- a port at which somebody finishes is one that is reached -/
theorem port_nms (hV : ValidN N) (fw : Fw N) (L : Lens N ls) {t : Int} {z : Str} (h : 0 < jq N ls t (.inr z)) : z ∈ nms N N.length ∧ PlIn N (.inr z) := by
  unfold jq at h
  rw [if_neg (by simp)] at h
  obtain ⟨i, hi, hf⟩ := toQ_some h
  obtain ⟨h1, h2⟩ := mem_seatsOf.mp hi
  exact ⟨(mem_nms _).mpr ⟨i, h1, bt_fnd hV fw L i h1 hf, h2⟩, .inr ⟨i, hi⟩⟩
end
/-! finisher -/
section
variable {P : Program} {w : World} {K : PySem.W.Frag} {mg : Str → Option Value} {base : Heap}
abbrev s_finisher : Stmt := top 59
theorem sc_finisher : FnScope ["network", "state", "port", "number", "table"] ["network", "state", "port", "number"] (defScope s_finisher) := ⟨rfl, rfl, rfl, by decide +kernel, rfl, by decide +kernel, by decide +kernel⟩
theorem inV_strs {z : Str} : ∀ {zs : List Str}, inV (.str z) (zs.map V.str) = decide (z ∈ zs) := by
  intro zs
  unfold inV
  induction zs with
  | nil => rfl
  | cons n r ih =>
    rw [List.map_cons, List.any_cons, ih]
    by_cases e : n = z
    · simp [eqV, e]
    · have : ¬ z = n := fun h => e h.symm
      simp [eqV, e, this]
/-- who finishes as the n-th at a port, and when, if by a time T0 somebody has -/
def spFinr (K : PySem.W.Frag) : Sp := fun vs H Q _ => ∃ (v u : V) (N : Net) (p : Int) (qs : Qs) (z : Str) (n T0 : Int), vs = [v, u, .str z, .int n] ∧ NetAt K H v N ∧ ValidN N ∧ N.length ≤ 8 ∧ Dp K H u (stateD p qs) ∧ StOk N p qs ∧ 1 ≤ n ∧ n ≤ 1000000000000000000 ∧ n ≤ jq N (lens qs) T0 (.inr z) ∧ 0 ≤ T0 ∧ T0 ≤ 1000000000000000000000000000 ∧
  ∀ H' r (y t : Int), Ex H H' → H' r = some (.tup [.int y, .int t]) → PsgP N (lens qs) p qs z n y → 1 ≤ t → t ≤ T0 → jq N (lens qs) (t - 1) (.inr z) < n → n ≤ jq N (lens qs) t (.inr z) → Q (.ref r) H'
theorem ok_finisher {C f f1 f2 f3 f4 f5 f6 : Addr} {fd fd1 fd2 fd3 fd4 fd5 fd6 : FuncData} (D : Df K mg "finisher" s_finisher ["network", "state", "port", "number"] f fd) (T : Bt mg) (F : TF K C) (Cm0 : Cm mg) (D_check_state : Df K mg "check_state" s_check_state ["network", "state"] f1 fd1) (G_check_state : FnOk P w K mg base CX0 5 f1 fd1 ["network", "state"] (spState K))
    (D_check_count : Df K mg "check_count" s_check_count ["count", "least", "most"] f2 fd2) (D_ports : Df K mg "ports" s_ports ["network"] f6 fd6) (G_ports : FnOk P w K mg base CX0 6 f6 fd6 ["network"] (spPorts K)) (C_Timetable : Cf K mg "Timetable" "Timetable.__init__" C s_Timetable___init ["self", "network", "state"] f3 fd3) (G_Timetable : FnOk P w K mg base CX0 2 f3 fd3 ["self", "network", "state"] (spTmI K C))
    (M_time_of : Mf K C "time_of" "Timetable.time_of" s_Timetable_time_of ["self", "place", "number"] f4 fd4) (G_time_of : FnOk P w K mg base CX0 5 f4 fd4 ["self", "place", "number"] (spTime K C)) (M_passenger : Mf K C "passenger" "Timetable.passenger" s_Timetable_passenger ["self", "place", "number"] f5 fd5) (G_passenger : FnOk P w K mg base CX0 22 f5 fd5 ["self", "place", "number"] (spPsgPt K C)) :
    FnOk P w K mg base CX0 23 f fd ["network", "state", "port", "number"] (spFinr K) := by
  have G_check_count : FnOk P w K mg base CX0 1 f2 fd2 _ _ := ok_check_count D_check_count
  obtain ⟨tMC, g_MAX_COUNT⟩ := Cm0.g_MAX_COUNT
  refine D.F.ok sc_finisher (fun vs H Q E h => ?_) (fun cdv A outer s H vs Q E hr h => ?_)
  · obtain ⟨v, u, N, p, qs, z, n, T0, rfl, _⟩ := h
    rfl
  · obtain ⟨v, u, N, p, qs, z, n, T0, rfl, hN, hV, h8, hu, hS, hn1, hn2, hnT, hT0, hT1, q⟩ := h
    refine ⟨_, (pss_cons (ps_expr (pe_call (G_check_state) (hr.mono (by decide)) rfl D_check_state.g D_check_state.F.kp D_check_state.b .nil pass0 (pa_cons (pv 0) (pa_cons (pv 1) pa_nil))))
      (pss_cons (ps_expr (pe_call (G_check_count) (hr.mono (by decide)) rfl D_check_count.g D_check_count.F.kp D_check_count.b .nil pass0 (pa_cons (pv 3) (pa_cons pe_int (pa_cons (pe_glob (v := .int 1000000000000000000) rfl g_MAX_COUNT ⟨_, rfl⟩) pa_nil)))))
      (pss_cons (ps_if (pt_cmpR ((op_notInU (K := K) (P := P) (w := w))) (pv 2) (pe_call (G_ports) (hr.mono (by decide)) rfl D_ports.g D_ports.F.kp D_ports.b .nil pass0 (pa_cons (pv 0) pa_nil)) (by rfl)) (pss_one (ps_ret pe_non)) pss_nil)
      (pss_cons (ps_set (i := 4) sc_finisher.nd rfl (Or.inl rfl) (pe_make C_Timetable.mkK (G_Timetable) (hr.mono (by decide)) rfl C_Timetable.g C_Timetable.b .nil pass0 (pa_cons (pv 0) (pa_cons (pv 1) pa_nil))))
      (pss_one (ps_ret (pe_tup (pa_cons (pe_meth (pv 4) F.c M_passenger.m (G_passenger) (hr.mono (by decide)) M_passenger.b .nil pass0 (pa_cons (pv 2) (pa_cons (pv 3) pa_nil))) (pa_cons (pe_meth (pv 4) F.c M_time_of.m (G_time_of) (hr.mono (by decide)) M_time_of.b .nil pass0 (pa_cons (pv 2) (pa_cons (pv 3) pa_nil))) pa_nil))))))))), ?_⟩
    walk_at "run"
    refine ⟨v, u, N, p, qs, rfl, hN, hV, hu, hS, fun H1 e1 => ?_⟩
    walk_at "run"
    refine ⟨n, 1, 1000000000000000000, rfl, hn1, hn2, ?_⟩
    walk_at "run"
    have L := lensL hS
    have LQ := lensQ hS
    have J := jn_of hV
    have hC := hV.cnt
    have hp1 := hV.pos
    obtain ⟨hz, hpl⟩ := port_nms hV J.fw L (t := T0) (z := z) (by omega)
    refine ⟨v, N, rfl, Dp.ex e1 hN, hV, fun H2 l zs e2 _ hl hP => ?_⟩
    refine .inl ⟨l, _, rfl, .inl (SqL.of hl), rfl, by rw [List.all_map]; exact List.all_eq_true.mpr fun _ _ => rfl, ?_⟩
    rw [if_pos rfl, inV_strs, decide_eq_true ((hP.2.2 z).mpr hz)]
    refine ⟨_, rfl, ?_⟩
    rw [if_neg (by decide)]
    walk_at "run"
    refine x_make fun a dx H3 na e3 h3 => ?_
    have e03 := e1.trans (e2.trans e3)
    have hq8 : ∀ q ∈ qs, q.length ≤ 1000 := fun q hq => by
      obtain ⟨k, hk⟩ := List.mem_iff_getElem?.mp hq
      have hkl := (List.getElem?_eq_some_iff.mp hk).1
      have hkN : k < N.length := by rw [← hS.len]; exact hkl
      have h2 : N[k]? = some (N.getD k []) := by simp [List.getD_eq_getElem?_getD, hkN]
      have := hS.lt k _ _ hk h2
      have := (J.st k hkN).2
      omega
    refine ⟨N, p, qs, a, dx, v, u, rfl, h3, Dp.ex e03 hN, hC, Dp.ex e03 hu, by rw [hS.len]; omega, hq8, fun H4 M ea W e4 nK hKa => ⟨rfl, ?_⟩⟩
    subst ea
    walk_at "run"
    refine x_meth W.ins fs_passenger ?_
    refine ⟨N, lens qs, p, qs, M, 0, z, n, T0, rfl, W, hC, L, LQ, J, h8, hp1, by decide, hpl, hn1, hnT, hT0, hT1, fun H5 y W5 e5 hy => ?_⟩
    refine x_meth W5.ins fs_time_of ?_
    refine ⟨N, lens qs, p, qs, M, 2300, .inr z, n, T0, rfl, W5.le (by decide), hC, L, J.fw, by decide, hpl, hn1, hnT, hT0, hT1, fun H6 t W6 e6 ht1 htT hlo hhi => ?_⟩
    refine x_tup (by simp) fun r H7 n7 e7 h7 => ?_
    have na0 : H M.a = none := fresh_back (e1.trans e2) na
    have nK0 : H M.Kd = none := fresh_back e03 nK
    exact q H7 r y t (fun x o h => e7 _ _ (e6 _ _ (ne_of_none h nK0) (e5 _ _ (ne_of_none h nK0) (e4 _ _ (ne_of_none h na0) (e03 _ _ h))))) h7 hy ht1 htT hlo hhi
end
/-! check_station; boat -/
section
variable {P : Program} {w : World} {K : PySem.W.Frag} {mg : Str → Option Value} {base : Heap}
end
/-! _law_run -/
section
variable {P : Program} {w : World} {K : PySem.W.Frag} {mg : Str → Option Value} {base : Heap}
theorem runI_short {N : Net} {qs : Qs} {p : Int} (hV : ValidN N) (h8 : N.length ≤ 8) (S : Short N qs) : ∀ t, Short N (runI N qs p t)
  | 0 => S
  | t + 1 => (joinW_ok (fun k hk => ((jn_of hV).st k hk).1) (departW_ok (fun k hk => ((jn_of hV).st k hk).1) (jn_of hV).fw 8) (runI_short hV h8 S t) hV.pos (by omega)).1
theorem flatS {N : Net} {qs : Qs} (hV : ValidN N) (h8 : N.length ≤ 8) (S : Short N qs) : qs.flatten.length ≤ 64 := by
  have h := flat8 (qs := qs) fun x hx => by
    obtain ⟨k, hk⟩ := List.mem_iff_getElem?.mp hx
    have hkl := (List.getElem?_eq_some_iff.mp hk).1
    have hkN : k < N.length := by rw [← S.len]; exact hkl
    have h1 := S.lt k hkN
    have h2 := ((jn_of hV).st k hkN).2
    rw [List.getD_eq_getElem?_getD, hk] at h1
    have h1 : x.length < _ := h1
    omega
  rw [S.len] at h
  omega
end
end K
set_option maxHeartbeats 4000000
namespace K
open PySem PySem.Spec PyProof.Rows L2 Evl FB
local macro_rules | `(tactic| walk_at "run") => `(tactic| try simp only [tSeq, tAsg, tVar, tC, gName, L2.start, List.map_cons, List.map_nil, List.cons_append, List.nil_append, List.length_cons, List.length_nil, List.replicate, List.getElem?_cons_zero, List.getElem?_cons_succ, Option.some.injEq, exists_eq_left', List.set_cons_zero, List.set_cons_succ, V.ref.injEq, tRet, x_tLst, x_tTup, tCons, tCB, tNil, tOp, x_addI, x_mulI, x_rI, x_rI0, x_ltI, x_leI, x_ltS, x_leS, x_eqI, x_neI, x_eqS, x_eqB, x_neB, x_isiI, x_isiS, x_int, x_max, x_min, cxOf, tIfS, tNext, tTest, V.bl.injEq, decide_eq_true_eq, gSub, tAnd, tOr, tNot, tB, tDrop, tBM, x_tFor, iRng1, iList, iTup, x_tLc, tYes, tCall, tIf, tAndV, tOrV, tNotV, tChain, List.append_nil, tUn, if_true, wipe, true_and, x_never, iU, x_itS, kV, Nat.reduceAdd, Nat.reduceSub, List.replicate_zero, x_rU, x_tMkO, iEnumT, x_tDc, x_tDGet, x_tDGet2, x_sDPut, x_tDSetd, x_tDNewK, x_iItems, x_iZip, x_tSAddK, x_tLockV])
theorem shaped_ints (ns : List Int) : SeqAt.shaped (.list (ns.map PyData.int)) = true ∧ (PyData.list (ns.map PyData.int)).depth ≤ 3 := by
  have h1 : PyData.canLayAll0 (ns.map PyData.int) = true := layAll fun d hd => by
    obtain ⟨i, _, rfl⟩ := List.mem_map.mp hd; rfl
  have h2 : PyData.depthAll (ns.map PyData.int) ≤ 1 := depthAll_le fun d hd => by
    obtain ⟨i, _, rfl⟩ := List.mem_map.mp hd; simp [PyData.depth]
  have h3 : (PyData.list (ns.map PyData.int)).depth ≤ 3 := by rw [PyData.depth]; omega
  exact ⟨shaped_mk (by rw [PyData.canLay0]; exact h1) (by omega), h3⟩
theorem sm_ints {ns : List Int} (h : ns.length ≤ 1000000) : SmD (.list (ns.map PyData.int)) := .lst (by simpa using h) fun d hd => by
  obtain ⟨i, _, rfl⟩ := List.mem_map.mp hd; exact .int i
/-- the keys as texts -/
theorem Fin.keys {T : Str → Int} {kvs : List (Key × V)} (F : Fin T kvs) : ∃ ks : List Str, kvs.map (·.1) = ks.map Sum.inr ∧ ks.Nodup ∧ ∀ z, z ∈ ks ↔ 0 < T z := by
  have : ∀ {l : List (Key × V)}, (∀ p ∈ l, ∃ z, p.1 = .inr z) → ∃ ks : List Str, l.map (·.1) = ks.map Sum.inr := fun {l} => by
    induction l with
    | nil => exact fun _ => ⟨[], rfl⟩
    | cons p r ih =>
      intro h
      obtain ⟨ks, hk⟩ := ih fun q hq => h q (List.mem_cons_of_mem _ hq)
      obtain ⟨z, hz⟩ := h p (List.mem_cons_self ..)
      exact ⟨z :: ks, by rw [List.map_cons, List.map_cons, hk, hz]⟩
  obtain ⟨ks, hk⟩ := this F.str
  have nd := F.nd
  rw [hk] at nd
  refine ⟨ks, hk, (List.pairwise_map.mp nd).imp fun h e => h (by rw [e]), fun z => ?_⟩
  have hm : z ∈ ks ↔ (Sum.inr z : Key) ∈ kvs.map (·.1) := by
    rw [hk]
    simp
  rw [hm]
  have hv := F.val z
  constructor
  · intro h
    obtain ⟨⟨k, v⟩, hp, rfl⟩ := List.mem_map.mp h
    have := val_of_mem F.nd hp
    rw [this] at hv
    by_cases e : 0 < T z
    · exact e
    · rw [if_neg e] at hv; cases hv
  · intro h
    rw [if_pos h] at hv
    exact valV_in hv
theorem Fin.same {T : Str → Int} {ka kb : List (Key × V)} (A : Fin T ka) (B : Fin T kb) : ka.length = kb.length ∧ ∀ p ∈ ka, valV kb p.1 = some p.2 ∧ flatB p.2 = true := by
  obtain ⟨ks, h1, n1, m1⟩ := A.keys
  obtain ⟨ls, h2, n2, m2⟩ := B.keys
  have hp : ks.Perm ls := (List.perm_ext_iff_of_nodup n1 n2).mpr fun z => by rw [m1, m2]
  refine ⟨?_, fun p hp => ?_⟩
  · have e1 := congrArg List.length h1
    have e2 := congrArg List.length h2
    rw [List.length_map, List.length_map] at e1 e2
    rw [e1, e2]; exact hp.length_eq
  · obtain ⟨z, hz⟩ := A.str p hp
    have hv := val_of_mem (k := p.1) (v := p.2) A.nd hp
    rw [hz] at hv ⊢
    rw [A.val] at hv
    rw [B.val, hv]
    by_cases e : 0 < T z
    · rw [if_pos e] at hv
      rw [← Option.some.inj hv]
      exact ⟨rfl, rfl⟩
    · rw [if_neg e] at hv; cases hv
section
variable {P : Program} {w : World} {K : PySem.W.Frag} {mg : Str → Option Value} {base : Heap}
end
end K
set_option maxHeartbeats 1000000
namespace K
open PySem PySem.Spec PyProof.Rows L2 Evl FB
local macro_rules | `(tactic| walk_at "run") => `(tactic| try simp only [tSeq, tAsg, tVar, tC, gName, L2.start, List.map_cons, List.map_nil, List.cons_append, List.nil_append, List.length_cons, List.length_nil, List.replicate, List.getElem?_cons_zero, List.getElem?_cons_succ, Option.some.injEq, exists_eq_left', List.set_cons_zero, List.set_cons_succ, V.ref.injEq, tRet, x_tLst, x_tTup, tCons, tCB, tNil, tOp, x_addI, x_mulI, x_rI, x_rI0, x_ltI, x_leI, x_ltS, x_leS, x_eqI, x_neI, x_eqS, x_eqB, x_neB, x_isiI, x_isiS, x_int, x_max, x_min, cxOf, tIfS, tNext, tTest, V.bl.injEq, decide_eq_true_eq, gSub, tAnd, tOr, tNot, tB, tDrop, tBM, x_tFor, iRng1, iList, iTup, x_tLc, tYes, tCall, tIf, tAndV, tOrV, tNotV, tChain, List.append_nil, tUn, if_true, wipe, true_and, x_never, iU, x_itS, kV, Nat.reduceAdd, Nat.reduceSub, List.replicate_zero, x_rU, x_tMkO, iEnumT, x_tDc, x_tDGet, x_tDGet2, x_sDPut, x_tDSetd, x_tDNewK, x_iItems, x_iZip, x_tSAddK, x_tLockV, x_tTupRg, x_tRg2, tPar, tPar3, tBM0, tSl, tNoPart, tPart, x_tSetAdd, x_tDIn, x_iKeys, x_iZipX, x_iZip3, iRevR, tRg1, x_tFld, x_tMeth, x_sFld, x_tMake, tAug, x_ipI, x_tDNotIn, iRng2])
/-! who finishes in a run, by port; data that can be compared -/
section
variable {α : Type} [Inhabited α]
/-- whoever finishes is told alone -/
def One (es : EvsA α) : Prop := ∀ e ∈ es, ∀ z, e.1 = .inr z → ∃ p, e.2 = [p]
theorem One.nil : One ([] : EvsA α) := fun _ h => by cases h
theorem One.cons {e : Key × List α} {es : EvsA α} (h1 : ∀ z, e.1 = .inr z → ∃ p, e.2 = [p]) (h2 : One es) : One (e :: es) := fun x h => by
  rcases List.mem_cons.mp h with rfl | h
  · exact h1
  · exact h2 x h
theorem One.append {a b : EvsA α} (h1 : One a) (h2 : One b) : One (a ++ b) := fun x h => (List.mem_append.mp h).elim (h1 x) (h2 x)
end
section
variable {N : Net} {ls : List Int}
end
/-- one port gets b more -/
theorem Fin.add {T T2 : Str → Int} {kvs : List (Key × V)} {z : Str} {b : Int} (F : Fin T kvs) (hb : 0 < b) (h0 : 0 ≤ T z) (h1 : T2 z = T z + b) (h2 : ∀ y, y ≠ z → T2 y = T y) : Fin T2 (putK kvs (.inr z) (.int (T z + b))) where
  nd := putK_keys F.nd
  str := fun p hp => by
    unfold putK at hp
    split at hp
    · obtain ⟨p', hp', rfl⟩ := List.mem_map.mp hp
      split
      · exact F.str p' hp'
      · exact F.str p' hp'
    · rcases List.mem_append.mp hp with hp | hp
      · exact F.str p hp
      · rw [List.mem_singleton.mp hp]; exact ⟨z, rfl⟩
  val := fun y => by
    rw [valV_put]
    by_cases e : (Sum.inr y : Key) = .inr z
    · cases e
      rw [if_pos rfl, if_pos (by omega), h1]
    · rw [if_neg e, F.val, h2 y (fun z => e (by rw [z]))]
theorem Fin.get {T : Str → Int} {kvs : List (Key × V)} {z : Str} (F : Fin T kvs) (h0 : 0 ≤ T z) : (valV kvs (.inr z)).getD (.int 0) = .int (T z) := by
  rw [F.val]
  split
  · rfl
  · have : T z = 0 := by omega
    rw [this]; rfl
theorem Fin.congr {T T2 : Str → Int} {kvs : List (Key × V)} (F : Fin T kvs) (h : ∀ z, T2 z = T z) : Fin T2 kvs := by
  obtain rfl : T2 = T := funext h
  exact F
theorem Fin.nil : Fin (fun _ => 0) [] := ⟨List.nodup_nil, fun _ h => (by simp at h), fun _ => rfl⟩
theorem Fin.short {T : Str → Int} {kvs : List (Key × V)} (F : Fin T kvs) (h : ∀ z, 0 < T z → z ∈ W4) : kvs.length ≤ 4 := by
  obtain ⟨ks, h1, n1, m1⟩ := F.keys
  have e := congrArg List.length h1
  rw [List.length_map, List.length_map] at e
  have := n1.length_le_of_subset (l₂ := W4) fun z hz => h z ((m1 z).mp hz)
  rw [e]
  exact this
/-- data that can be compared, not deep, not long -/
structure Fine (n : Nat) (d : PyData) : Prop where
  lay : d.canLay0 = true
  dep : d.depth ≤ n
  sm : SmD d
theorem Fine.mono {n m : Nat} {d : PyData} (h : Fine n d) (e : n ≤ m) : Fine m d := ⟨h.lay, Nat.le_trans h.dep e, h.sm⟩
theorem Fine.shaped {n : Nat} {d : PyData} (h : Fine n d) (e : n ≤ 64) : SeqAt.shaped d = true := shaped_mk h.lay (Nat.le_trans h.dep e)
theorem ok_W4 : ∀ z ∈ W4, PyData.strOk z = true := by decide +kernel
theorem Drawn.fin {N : Net} {most : Int} {α : Type} [Inhabited α] {es : EvsA α} (D : Drawn N most) (h : FinS N es) : ∀ x ∈ finOf es, PyData.strOk x.1 = true := fun x hx => by
  obtain ⟨k, hk⟩ := h x hx
  rw [List.getD_eq_getElem?_getD] at hk
  cases e : N[k]? with
  | none => rw [e] at hk; cases hk
  | some s =>
    rw [e] at hk
    exact ok_W4 _ ((D.st k s e).2.2 _ hk)
theorem Drawn.more {N : Net} {a b : Int} (D : Drawn N a) (h : a ≤ b) : Drawn N b := ⟨D.pos, by have := D.le; omega, D.st⟩
/-! boats told; _law_enter -/
section
variable {P : Program} {w : World} {K : PySem.W.Frag} {mg : Str → Option Value} {base : Heap}
/-- the boats told: (station, list of passengers), in lists of which S holds -/
structure BtAt (K : PySem.W.Frag) (H : Hp) (Ba : Addr) (S : Addr → Prop) (bs : List (Nat × List Int)) : Prop where
  ex : ∃ ts : List Addr, H Ba = some (.lst (ts.map V.ref)) ∧ ts.length = bs.length ∧ ∀ (t : Nat) (b : Nat × List Int), bs[t]? = some b → ∃ a l, ts[t]? = some a ∧ S l ∧ SqT K H a [.int (b.1 : Int), .ref l] ∧ H l = some (.lst (b.2.map V.int))
/-- all but fr stands -/
def ExF (fr : List Addr) (H H' : Hp) : Prop := ∀ x o, H x = some o → x ∉ fr → H' x = some o
theorem BtAt.keep {H H2 : Hp} {Ba : Addr} {fr : List Addr} {S : Addr → Prop} {bs : List (Nat × List Int)} (W : BtAt K H Ba S bs) (h : ∀ o, H Ba = some o → H2 Ba = some o) (t : TX H H2) (e : ExF fr H H2) (s : ∀ x ∈ fr, ¬ S x) : BtAt K H2 Ba S bs := by
  obtain ⟨ts, h1, h2, h3⟩ := W.ex
  exact ⟨⟨ts, h _ h1, h2, fun i b hb => by
    obtain ⟨a, l, a1, a2, a3, a4⟩ := h3 i b hb
    exact ⟨a, l, a1, a2, t.t a3, e _ _ a4 fun z => s l z a2⟩⟩⟩
theorem BtAt.ex1 {H H2 : Hp} {Ba : Addr} {S : Addr → Prop} {bs : List (Nat × List Int)} (W : BtAt K H Ba S bs) (e : Ex H H2) : BtAt K H2 Ba S bs := W.keep (fr := []) (fun _ h => e _ _ h) (TX.of e) (fun _ _ h _ => e _ _ h) (by simp)
theorem BtAt.push {H H2 : Hp} {Ba : Addr} {fr : List Addr} {S : Addr → Prop} {bs : List (Nat × List Int)} {b : Nat × List Int} {xs : List V} {a l : Addr} (W : BtAt K H Ba S bs) (h0 : H Ba = some (.lst xs)) (h : H2 Ba = some (.lst (xs ++ [.ref a]))) (t : TX H H2) (e : ExF fr H H2) (s : ∀ x ∈ fr, ¬ S x) (hl : S l) (ha : SqT K H2 a [.int (b.1 : Int), .ref l]) (hb : H2 l = some (.lst (b.2.map V.int))) : BtAt K H2 Ba S (bs ++ [b]) := by
  obtain ⟨ts, h1, h2, h3⟩ := W.ex
  rw [h0] at h1
  cases h1
  refine ⟨⟨ts ++ [a], by rw [h, List.map_append]; rfl, by simp [h2], fun i c hc => ?_⟩⟩
  by_cases hi : i < bs.length
  · rw [List.getElem?_append_left hi] at hc
    obtain ⟨a', l', a1, a2, a3, a4⟩ := h3 i c hc
    exact ⟨a', l', by rw [List.getElem?_append_left (by omega)]; exact a1, a2, t.t a3, e _ _ a4 fun z => s l' z a2⟩
  · rw [List.getElem?_append_right (by omega)] at hc
    obtain ⟨z1, z2⟩ := List.getElem?_eq_some_iff.mp hc
    have hi2 : i = bs.length := by simp at z1; omega
    have hcb : b = c := by simpa using z2
    subst hi2 hcb
    exact ⟨a, l, by rw [List.getElem?_append_right (by omega), h2]; simp, hl, ha, hb⟩
def wK (Qa Ba Fa : Addr) : List (Key × V) := [(.inr ("queues" : Str), .ref Qa), (.inr ("boats" : Str), .ref Ba), (.inr ("finished" : Str), .ref Fa)]
structure Wat (K : PySem.W.Frag) (H : Hp) (Wa Qa Ba Fa : Addr) (as : List Addr) (S : Addr → Prop) (qs : Qs) (fs : List (Str × Int)) (bs : List (Nat × List Int)) : Prop where
  w : H Wa = some (.dK (wK Qa Ba Fa))
  q : QsAt K H Qa as qs
  f : FinAt K H Fa fs
  b : BtAt K H Ba S bs
  s1 : ∀ x, H x = none → S x
  s2 : ∀ x ∈ Ba :: Fa :: as, ¬ S x
  fq : Fa ≠ Qa
  fa : Fa ∉ as
  bq : Ba ≠ Qa
  ba : Ba ∉ as
  bf : Ba ≠ Fa
end
/-! _law_log -/
section
variable {P : Program} {w : World} {K : PySem.W.Frag} {mg : Str → Option Value} {base : Heap}
/-- boats told with times -/
structure BlAt (K : PySem.W.Frag) (H : Hp) (Ba : Addr) (S : Addr → Prop) (bs : List (Nat × List Int × Int)) : Prop where
  ex : ∃ ts : List Addr, H Ba = some (.lst (ts.map V.ref)) ∧ ts.length = bs.length ∧ ∀ (t : Nat) (b : Nat × List Int × Int), bs[t]? = some b → ∃ a l, ts[t]? = some a ∧ S l ∧ SqT K H a [.int (b.1 : Int), .ref l, .int b.2.2] ∧ H l = some (.lst (b.2.1.map V.int))
theorem BlAt.keep {H H2 : Hp} {Ba : Addr} {fr : List Addr} {S : Addr → Prop} {bs : List (Nat × List Int × Int)} (W : BlAt K H Ba S bs) (h : ∀ o, H Ba = some o → H2 Ba = some o) (t : TX H H2) (e : ExF fr H H2) (s : ∀ x ∈ fr, ¬ S x) : BlAt K H2 Ba S bs := by
  obtain ⟨ts, h1, h2, h3⟩ := W.ex
  exact ⟨⟨ts, h _ h1, h2, fun i b hb => by
    obtain ⟨a, l, a1, a2, a3, a4⟩ := h3 i b hb
    exact ⟨a, l, a1, a2, t.t a3, e _ _ a4 fun z => s l z a2⟩⟩⟩
theorem BlAt.imp {H : Hp} {Ba : Addr} {S S' : Addr → Prop} {bs : List (Nat × List Int × Int)} (W : BlAt K H Ba S bs) (h : ∀ l zs, S l → H l = some (.lst zs) → S' l) : BlAt K H Ba S' bs := by
  obtain ⟨ts, h1, h2, h3⟩ := W.ex
  exact ⟨⟨ts, h1, h2, fun i b hb => by
    obtain ⟨a, l, a1, a2, a3, a4⟩ := h3 i b hb
    exact ⟨a, l, a1, h l _ a2 a4, a3, a4⟩⟩⟩
theorem BlAt.extend {H H2 : Hp} {La : Addr} {S : Addr → Prop} {bs cs : List (Nat × List Int × Int)} {xs : List V} {us : List Addr} (W : BlAt K H La S bs) (h0 : H La = some (.lst xs)) (h : H2 La = some (.lst (xs ++ us.map V.ref))) (t : TX H H2) (e : ExF [La] H H2) (s : ¬ S La) (hl : us.length = cs.length)
    (new : ∀ (t : Nat) (b : Nat × List Int × Int), cs[t]? = some b → ∃ a l, us[t]? = some a ∧ S l ∧ SqT K H2 a [.int (b.1 : Int), .ref l, .int b.2.2] ∧ H2 l = some (.lst (b.2.1.map V.int))) : BlAt K H2 La S (bs ++ cs) := by
  obtain ⟨ts, h1, h2, h3⟩ := W.ex
  rw [h0] at h1
  cases h1
  refine ⟨⟨ts ++ us, by rw [h, List.map_append], by simp [h2, hl], fun i c hc => ?_⟩⟩
  by_cases hi : i < bs.length
  · rw [List.getElem?_append_left hi] at hc
    obtain ⟨a', l', a1, a2, a3, a4⟩ := h3 i c hc
    exact ⟨a', l', by rw [List.getElem?_append_left (by omega)]; exact a1, a2, t.t a3, e _ _ a4 fun z => s (by rw [← List.mem_singleton.mp z]; exact a2)⟩
  · rw [List.getElem?_append_right (by omega)] at hc
    obtain ⟨a, l, a1, a2, a3, a4⟩ := new _ _ hc
    exact ⟨a, l, by rw [List.getElem?_append_right (by omega), h2]; exact a1, a2, a3, a4⟩
theorem way_le {N : Net} {qs : Qs} (hV : ValidN N) (h8 : N.length ≤ 8) (S : Short N qs) : wayW N.length 0 qs + 2 * (N.length - 0) ≤ 1040 := by
  have h1 := wayW_le (n := N.length) (qs := qs) (k := 0)
  have h2 := flatS hV h8 S
  have h3 : qs.flatten.length * (2 * N.length) ≤ 64 * (2 * 8) := Nat.mul_le_mul h2 (by omega)
  omega
theorem arr_len {N : Net} {qs : Qs} {p : Int} (hV : ValidN N) (h8 : N.length ≤ 8) (S : Short N qs) (t : Nat) : (arrI N (runI N qs p t) (p + (t : Int))).2.length ≤ 1040 := by
  have Sh := runI_short (p := p) hV h8 S t
  have hp := hV.pos
  have h := (joinW_way (departW_way (jn_of hV).fw 8) (qs := runI N qs p t) (j := 0) (p := p + (t : Int)) Sh.len (by omega) (by omega)).1
  have := way_le hV h8 Sh
  show (joinW N (departW N 8) (runI N qs p t) 0 (p + (t : Int))).2.length ≤ 1040
  omega
end
local macro_rules | `(tactic| walk_at "run") => `(tactic| try simp only [tSeq, tAsg, tVar, tC, gName, L2.start, List.map_cons, List.map_nil, List.cons_append, List.nil_append, List.length_cons, List.length_nil, List.replicate, List.getElem?_cons_zero, List.getElem?_cons_succ, Option.some.injEq, exists_eq_left', List.set_cons_zero, List.set_cons_succ, V.ref.injEq, tRet, x_tLst, x_tTup, tCons, tCB, tNil, tOp, x_addI, x_mulI, x_rI, x_rI0, x_ltI, x_leI, x_ltS, x_leS, x_eqI, x_neI, x_eqS, x_eqB, x_neB, x_isiI, x_isiS, x_int, x_max, x_min, cxOf, tIfS, tNext, tTest, V.bl.injEq, decide_eq_true_eq, gSub, tAnd, tOr, tNot, tB, tDrop, tBM, x_tFor, iRng1, iList, iTup, x_tLc, tYes, tCall, tIf, tAndV, tOrV, tNotV, tChain, List.append_nil, tUn, if_true, wipe, true_and, x_never, iU, x_itS, kV, Nat.reduceAdd, Nat.reduceSub, List.replicate_zero, x_rU, x_tMkO, iEnumT, x_tDc, x_tDGet, x_tDGet2, x_sDPut, x_tDSetd, x_tDNewK, x_iItems, x_iZip, x_tSAddK, x_tLockV, x_tTupRg, x_tRg2, tPar, tPar3, tBM0, tSl, tNoPart, tPart, x_tSetAdd, x_tDIn, x_iKeys, x_iZipX, x_iZip3, iRevR, tRg1, x_tFld, x_tMeth, x_sFld, x_tMake, tAug, x_ipI, x_tDNotIn, iRng2, tAugS, tBMZ, tTupZ])
/-! Cycle.run_before -/
theorem cy_network {M : Cy} {per : Nat} : (M.fs per).lookup ("network" : Str) = some M.v := by
  unfold Cy.fs
  exact lk_eq
theorem cy_period {M : Cy} {per : Nat} : (M.fs per).lookup ("period" : Str) = some (.int (per : Int)) := by
  unfold Cy.fs
  rw [lk_ne (by decide +kernel)]
  exact lk_eq
theorem cy_rows {M : Cy} {per : Nat} : (M.fs per).lookup ("rows" : Str) = some (.ref M.D) := by
  unfold Cy.fs
  rw [lk_ne (by decide +kernel), lk_ne (by decide +kernel)]
  exact lk_eq
theorem cy_lengths_at {M : Cy} {per : Nat} : (M.fs per).lookup ("lengths_at" : Str) = some (.ref M.La) := by
  unfold Cy.fs
  rw [lk_ne (by decide +kernel), lk_ne (by decide +kernel), lk_ne (by decide +kernel)]
  exact lk_eq
theorem cy_rows_at {M : Cy} {per : Nat} : (M.fs per).lookup ("rows_at" : Str) = some (.ref M.Ra) := by
  unfold Cy.fs
  rw [lk_ne (by decide +kernel), lk_ne (by decide +kernel), lk_ne (by decide +kernel), lk_ne (by decide +kernel)]
  exact lk_eq
theorem cy_run_before {M : Cy} {per : Nat} : (M.fs per).lookup ("run_before" : Str) = none := by
  unfold Cy.fs
  rw [lk_ne (by decide +kernel), lk_ne (by decide +kernel), lk_ne (by decide +kernel), lk_ne (by decide +kernel), lk_ne (by decide +kernel)]
  rfl
theorem cy_run_period {M : Cy} {per : Nat} : (M.fs per).lookup ("run_period" : Str) = none := by
  unfold Cy.fs
  rw [lk_ne (by decide +kernel), lk_ne (by decide +kernel), lk_ne (by decide +kernel), lk_ne (by decide +kernel), lk_ne (by decide +kernel)]
  rfl
theorem cy_row {M : Cy} {per : Nat} : (M.fs per).lookup ("row" : Str) = none := by
  unfold Cy.fs
  rw [lk_ne (by decide +kernel), lk_ne (by decide +kernel), lk_ne (by decide +kernel), lk_ne (by decide +kernel), lk_ne (by decide +kernel)]
  rfl
theorem pdI : PD PyData.int := ⟨fun a => .int a⟩
/-- those who waited at first -/
def zerosQ (ls : List Int) : Qs := ls.map fun l => List.replicate l.toNat 0
/-- at how many stations one can wait -/
def waitsN (N : Net) : Nat := (N.filter fun s => decide (1 < s.length)).length
theorem zeros_short {N : Net} {ls : List Int} (L : Lens N ls) : Short N (zerosQ ls) where
  len := by unfold zerosQ; rw [List.length_map]; exact L.len
  lt := fun k hk => by
    have h1 := L.nn k hk
    have h2 := L.lt k hk
    have hl : k < ls.length := by rw [L.len]; exact hk
    have e : (zerosQ ls).getD k [] = List.replicate (ls.getD k 0).toNat 0 := by
      unfold zerosQ
      simp [List.getD_eq_getElem?_getD, hl]
    rw [e, List.length_replicate]
    omega
theorem waits_le {N : Net} : waitsN N ≤ N.length := List.length_filter_le ..
theorem rep_dp {K : PySem.W.Frag} {H : Hp} : ∀ n : Nat, DpAll K H (List.replicate n (V.int 0)) ((List.replicate n (0 : Int)).map PyData.int)
  | 0 => .nil
  | n + 1 => .cons (.int 0) (rep_dp n)
section
variable {P : Program} {w : World} {K : PySem.W.Frag} {mg : Str → Option Value} {base : Heap}
abbrev s_Cycle_run_before : Stmt := inClass (top 32) 1
theorem sc_Cycle_run_before : FnScope ["self", "lengths", "queues", "periods", "passenger", "length", "seats"] ["self", "lengths"] (defScope s_Cycle_run_before) := ⟨rfl, rfl, rfl, by decide +kernel, rfl, by decide +kernel, by decide +kernel⟩
def spRunB (K : PySem.W.Frag) (C : Addr) : Sp := fun vs H Q _ => ∃ (M : Cy) (N : Net) (per : Nat) (ls : List Int) (la : Addr), vs = [.ref M.a, .ref la] ∧ H M.a = some (.ins C M.dx (M.fs per)) ∧ NetAt K H M.v N ∧ ValidN N ∧ N.length ≤ 8 ∧ RawT H la ls ∧ Lens N ls ∧ per ≤ 800 ∧
  ∀ H' l, Ex H H' → H l = none → QtAt K H' l PyData.int (runI N (zerosQ ls) (1 - ((waitsN N * per : Nat) : Int)) (waitsN N * per)) → Q (.ref l) H'
theorem ok_run_before {C f f2 : Addr} {fd fd2 : FuncData} (D : Mf K C "run_before" "Cycle.run_before" s_Cycle_run_before ["self", "lengths"] f fd) (T : Bt mg) (F : CF K C) (D_join_queue : Df K mg "join_queue" s_join_queue ["network", "queues", "station", "passenger", "events"] f2 fd2) (G_join_queue : FnOk P w K mg base CX0 17 f2 fd2 ["network", "queues", "station", "passenger", "events"] (spJoinP K PyData.int 8)) :
    FnOk P w K mg base CX0 18 f fd ["self", "lengths"] (spRunB K C) := by
  refine D.F.ok sc_Cycle_run_before (fun vs H Q E h => ?_) (fun cdv A outer s H vs Q E hr h => ?_)
  · obtain ⟨M, N, per, ls, la, rfl, _⟩ := h
    rfl
  · obtain ⟨M, N, per, ls, la, rfl, hM, hN, hV, h8, hl, L, hp, q⟩ := h
    refine ⟨_, (pss_cons (ps_setLc (i := 2) (own := [("length", 5)]) (g := gName 5) (tt := tYes) rfl sc_Cycle_run_before.nd rfl rfl (sw_true rfl rfl rfl (by decide +kernel)) (pi_U (K := K) (pv 1)) (blkOk_by (own := [("length", 5)]) (N := ["self", "lengths", "queues", "periods", "passenger", "length", "seats"]) (sc := defScope s_Cycle_run_before) (by decide +kernel)) (fun _ _ _ _ _ => (pg_name (i := 5) sc_Cycle_run_before.nd rfl (Or.inl rfl))) (fun _ _ _ _ _ => pts_nil) (fun _ _ _ _ _ => (pe_op (op_mulZ (K := K)) (pe_tup (pa_cons pe_int pa_nil)) (pv 5))))
      (pss_cons (ps_set (i := 3) sc_Cycle_run_before.nd rfl (Or.inl rfl) (pe_callB (call_lenU (K := K)) (by rfl) T.b_len (by decide +kernel) (pa_cons (pe_lc (own := [("seats", 6)]) (g := gName 6) (tt := _) rfl sc_Cycle_run_before.nd (pi_U (K := K) (pe_fld (pv 0) rfl)) (blkOk_by (own := [("seats", 6)]) (N := ["self", "lengths", "queues", "periods", "passenger", "length", "seats"]) (sc := defScope s_Cycle_run_before) (by decide +kernel)) (fun _ _ _ _ _ => (pg_name (i := 6) sc_Cycle_run_before.nd rfl (Or.inl rfl))) (fun _ _ _ _ _ => (pts_one (pt_cmpR (op_gtU) (pe_callB (call_lenU (K := K)) (by rfl) T.b_len (by decide +kernel) (pa_cons (pv 6) pa_nil)) pe_int (nomark _)))) (fun _ _ _ _ _ => (pv 6))) pa_nil)))
      (pss_cons (ps_for PassesOwn.never rfl (pi_range2W (by rfl) T.b_range (pa_cons (pe_op op_sub pe_int (pe_op (op_mulU (K := K)) (pv 3) (pe_fld (pv 0) rfl))) (pa_cons pe_int pa_nil))) (pg_name (i := 4) sc_Cycle_run_before.nd rfl (Or.inl rfl)) (pss_one (ps_expr (pe_call (G_join_queue) (hr.mono (by decide)) rfl D_join_queue.g D_join_queue.F.kp D_join_queue.b .nil pass0 (pa_cons (pe_fld (pv 0) rfl) (pa_cons (pv 2) (pa_cons pe_int (pa_cons (pv 4) (pa_cons (pe_lst pa_nil) pa_nil)))))))))
      (pss_one (ps_ret (pv 2)))))), ?_⟩
    walk_at "run"
    have hm : waitsN N * per ≤ 6400 := Nat.mul_le_mul (Nat.le_trans waits_le h8) hp
    have hlen : ls.length ≤ 8 := by rw [L.len]; exact h8
    have S0 := zeros_short L
    have J := jn_of hV
    refine x_itT (SqT.of hl) (lcl_it walk_tup (fun D i H' => Ex H H' ∧ QtAt K H' D PyData.int (zerosQ (ls.take i))) (fun D H' hD e h => ⟨e, ⟨⟨[], h, .nil⟩⟩⟩) (fun D i H' _ h => SqT.of (h.1 _ _ hl)) ?_ ?_)
    · rintro D i x H0 H1 hD hi ⟨e1, W⟩ ⟨eH, hx⟩
      subst eH
      obtain ⟨z, hz, rfl⟩ : ∃ z, ls[i]? = some z ∧ V.int z = x := by simpa using hx
      have hiN : i < N.length := by rw [← L.len]; exact (List.getElem?_eq_some_iff.mp hz).1
      have hz0 : ls.getD i 0 = z := by rw [List.getD_eq_getElem?_getD, hz]; rfl
      have z0 : 0 ≤ z := by have := L.nn i hiN; rw [hz0] at this; exact this
      have z8 : z ≤ 8 := by
        have h1 := L.lt i hiN
        have h2 := (J.st i hiN).2
        rw [hz0] at h1
        omega
      walk_at "run"
      refine x_tup (by simp) fun t H2 nt e2 ht => ?_
      have ez : z = ((z.toNat : Nat) : Int) := by omega
      rw [ez]
      refine x_mulZ ht (by omega) fun l H3 e3 hl3 => ?_
      obtain ⟨ts, g1, g2⟩ := W.ex
      have e23 := e2.trans e3
      have gl : ts.length ≤ 8 := by
        rw [g2.len]
        simp [zerosQ]
        omega
      refine x_push (e23 _ _ g1) (by omega) fun H4 e4 h4 => ?_
      refine ⟨fun o u h => e4 _ _ (ne_of_none h hD) (e23 _ _ (e1 _ _ h)), ⟨⟨_, h4, ?_⟩⟩⟩
      have t4 : TX H1 H4 := (TX.of e23).trans (TX.but (e23 _ _ g1) e4)
      rw [List.take_add_one, hz]
      unfold zerosQ
      rw [List.map_append, List.map_append]
      refine DpAll.append (DpAll.tx t4 g2 (qs_t pdI)) (.cons (.tup (SqT.of (e4 _ _ (fun z => by rw [z, e23 _ _ g1] at hl3; cases hl3) hl3)) ?_) .nil)
      exact rep_dp _
    · rintro D H1 hD ⟨e1, W⟩
      have W : QtAt K H1 D PyData.int (zerosQ ls) := by
        have e : ls.take (List.map V.int ls).length = ls := by rw [List.length_map, List.take_length]
        rw [e] at W
        exact W
      refine x_fld (e1 _ _ hM) F.c F.network cy_network ?_
      obtain ⟨Na, Nt, hNa, hNT, hNd⟩ := NetAt.at (hN.ex e1)
      rw [hNa]
      refine x_itT hNT (lcl_it walk_tup (fun D2 i H' => Ex H1 H' ∧ ∃ xs, H' D2 = some (.lst xs) ∧ xs.length = ((N.take i).filter fun s => decide (1 < s.length)).length) (fun D2 H' hD2 e h => ⟨e, [], h, rfl⟩) (fun D2 i H' _ h => ex_t h.1 hNT) ?_ ?_)
      · rintro D2 i x H0 H2 hD2 hi ⟨e2, xs, hxs, hxl⟩ ⟨eH, hx⟩
        subst eH
        obtain ⟨d, hd, hsd⟩ := hNd.get' hx
        obtain ⟨s, hs, rfl⟩ : ∃ s, N[i]? = some s ∧ stD s = d := by simpa using hd
        obtain ⟨b, rfl, hb⟩ := StAt.at (Dp.ex e2 hsd)
        walk_at "run"
        refine x_lenT hb ?_
        walk_at "run"
        have hl9 : xs.length ≤ 8 := by
          rw [hxl]
          refine Nat.le_trans (List.length_filter_le ..) ?_
          rw [List.length_take]
          omega
        have et : ((N.take (i + 1)).filter fun s => decide (1 < s.length)) = ((N.take i).filter fun s => decide (1 < s.length)) ++ if 1 < s.length then [s] else [] := by
          rw [List.take_add_one, hs, List.filter_append]
          congr 1
          show List.filter _ [s] = _
          by_cases g : 1 < s.length
          · simp [g]
          · simp [g]
        rw [et]
        by_cases g : 1 < s.length
        · rw [if_pos (by simp; omega), if_pos g]
          exact x_push hxs (by omega) fun H3 e3 h3 => ⟨fun o u h => e3 _ _ (ne_of_none h hD2) (e2 _ _ h), _, h3, by simp [hxl]⟩
        · rw [if_neg (by simp; omega), if_neg g]
          exact ⟨e2, xs, hxs, by simp [hxl]⟩
      · rintro D2 H2 hD2 ⟨e2, xs, hxs, hxl⟩
        have hNl : Nt.length = N.length := by rw [hNd.len, List.length_map]
        have hxl : xs.length = waitsN N := by
          rw [hxl, hNl, List.take_length]; rfl
        refine x_lenL (SqL.of hxs) ?_
        rw [hxl]
        have e02 := e1.trans e2
        have c1 : CMul ((waitsN N : Nat) : Int) (per : Int) := by
          exact .inr ⟨by omega, by omega⟩
        dsimp only [iRng2W]
        walk_at "run"
        refine x_fld (e02 _ _ hM) F.c F.period cy_period ?_
        rw [x_mulI]
        refine ⟨c1, ?_⟩
        walk_at "run"
        refine ⟨_, _, rfl, ?_⟩
        have en : (1 - (1 - ((waitsN N : Nat) : Int) * (per : Int))).toNat = waitsN N * per := by
          rw [show (1 : Int) - (1 - ((waitsN N : Nat) : Int) * (per : Int)) = ((waitsN N * per : Nat) : Int) by push_cast; omega]
          exact Int.toNat_natCast _
        rw [en]
        have em : (1 : Int) - ((waitsN N : Nat) : Int) * (per : Int) = 1 - ((waitsN N * per : Nat) : Int) := by push_cast; rfl
        rw [em]
        refine loop_it walk_range (fun i σ H' => ∃ u4, σ = [some (V.ref M.a), some (V.ref la), some (V.ref D), some (V.int ((waitsN N : Nat) : Int)), u4, none, none] ∧ Ex H H' ∧ QtAt K H' D PyData.int (runI N (zerosQ ls) (1 - ((waitsN N * per : Nat) : Int)) i)) ⟨_, rfl, e02, W.ex2 e2⟩ (fun _ _ _ _ _ => trivial) ?_ ?_
        · rintro i x σ H0 H3 hi ⟨u4, rfl, e3, W3⟩ ⟨eH, hx⟩
          subst eH
          have Si := runI_short hV h8 S0 (p := 1 - ((waitsN N * per : Nat) : Int)) i
          walk_at "run"
          refine x_fld (e3 _ _ hM) F.c F.network cy_network ?_
          refine x_lst (by simp) fun Ea H4 nE e4 hE => ?_
          have hDE : D ≠ Ea := by
            obtain ⟨ts, g1, _⟩ := W3.ex
            exact ne_of_none g1 nE
          refine ⟨M.v, x, N, D, Ea, _, [], 0, 1 - ((waitsN N * per : Nat) : Int) + (i : Int), rfl, (hN.ex e3).ex e4, J, ?_, W3.ex2 e4, ⟨⟨[], hE, .nil⟩⟩, hDE, Si, hV.pos, by omega, ?_, fun H5 e5 q5 _ => ?_⟩
          · rw [hx]; exact .int _
          · have := way_le hV h8 Si
            rw [List.length_nil]
            omega
          · exact ⟨_, rfl, fun o u h => e5 _ _ (e4 _ _ (e3 _ _ h)) (ne_of_none h hD) (ne_of_none (e3 _ _ h) nE), q5⟩
        · rintro σ H3 ⟨u4, rfl, e3, W3⟩
          walk_at "run"
          exact q H3 D e3 hD W3
end
/-! Cycle.run_period -/
theorem cy_qs {N : Net} {q0 : Qs} : ∀ n, (cyRun N q0 n).qs = runI N q0 1 n
  | 0 => rfl
  | n + 1 => by
    show (arrI N (cyRun N q0 n).qs ((n : Int) + 1)).1 = (arrI N (runI N q0 1 n) (1 + (n : Int))).1
    rw [cy_qs n, Int.add_comm]
section
variable {P : Program} {w : World} {K : PySem.W.Frag} {mg : Str → Option Value} {base : Heap}
abbrev s_Cycle_run_period : Stmt := inClass (top 32) 2
theorem sc_Cycle_run_period : FnScope ["self", "queues", "time", "place", "events", "passengers", "rows", "queue"] ["self", "queues"] (defScope s_Cycle_run_period) := ⟨rfl, rfl, rfl, by decide +kernel, rfl, by decide +kernel, by decide +kernel⟩
def spRunP (K : PySem.W.Frag) (C : Addr) : Sp := fun vs H Q _ => ∃ (M : Cy) (N : Net) (per : Nat) (q0 : Qs) (Qa : Addr) (Hs : Hp), vs = [.ref M.a, .ref Qa] ∧ CyT K C H (fun x => Hs x = none ∧ x ≠ Qa) N per ⟨q0, fun _ => [], [], []⟩ M 0 ∧ Ex Hs H ∧ Hs Qa = none ∧ QtAt K H Qa PyData.int q0 ∧ ValidN N ∧ N.length ≤ 8 ∧ Short N q0 ∧ per ≤ 800 ∧
  ∀ H', Ex Hs H' → CyT K C H' (fun x => Hs x = none ∧ x ≠ Qa) N per (cyRun N q0 per) M (1040 * per) → Q .non H'
theorem ok_run_period {C f f2 : Addr} {fd fd2 : FuncData} (D : Mf K C "run_period" "Cycle.run_period" s_Cycle_run_period ["self", "queues"] f fd) (T : Bt mg) (F : CF K C) (D_join_queue : Df K mg "join_queue" s_join_queue ["network", "queues", "station", "passenger", "events"] f2 fd2) (G_join_queue : FnOk P w K mg base CX0 17 f2 fd2 ["network", "queues", "station", "passenger", "events"] (spJoinP K PyData.int 8)) :
    FnOk P w K mg base CX0 18 f fd ["self", "queues"] (spRunP K C) := by
  refine D.F.ok sc_Cycle_run_period (fun vs H Q E h => ?_) (fun cdv A outer s H vs Q E hr h => ?_)
  · obtain ⟨M, N, per, q0, Qa, Hs, rfl, _⟩ := h
    rfl
  · obtain ⟨M, N, per, q0, Qa, Hs, rfl, W0, eS, sQ, hQ, hV, h8, S0, hp, q⟩ := h
    have hu1 := hu_of hr
    refine ⟨_, (pss_one (ps_for PassesOwn.never rfl (pi_range2W (by rfl) T.b_range (pa_cons pe_int (pa_cons (pe_op (op_addU (K := K)) (pe_fld (pv 0) rfl) pe_int) pa_nil))) (pg_name (i := 2) sc_Cycle_run_period.nd rfl (Or.inl rfl)) (pss_cons (ps_expr (pe_bm PySem.F.plainAttrs_list PySem.F.slot_list_append PySem.F.type_list_append mt_append (pe_fld (pv 0) rfl) (pa_cons (pe_callTy (call_tupU (K := K)) (by rfl) T.b_tuple (by decide +kernel) (pa_cons (pe_lc (own := [("queue", 7)]) (g := gName 7) (tt := tYes) rfl sc_Cycle_run_period.nd (pi_U (K := K) (pv 1)) (blkOk_by (own := [("queue", 7)]) (N := ["self", "queues", "time", "place", "events", "passengers", "rows", "queue"]) (sc := defScope s_Cycle_run_period) (by decide +kernel)) (fun _ _ _ _ _ => (pg_name (i := 7) sc_Cycle_run_period.nd rfl (Or.inl rfl))) (fun _ _ _ _ _ => pts_nil) (fun _ _ _ _ _ => (pe_callB (call_lenU (K := K)) (by rfl) T.b_len (by decide +kernel) (pa_cons (pv 7) pa_nil)))) pa_nil)) pa_nil)))
      (pss_cons (ps_expr (pe_bm PySem.F.plainAttrs_list PySem.F.slot_list_append PySem.F.type_list_append mt_append (pe_fld (pv 0) rfl) (pa_cons (pe_lock (pe_dc (own := [("place", 3), ("rows", 6)]) (g := (gTup K 2 (gCons (gName 3) (gCons (gName 6) gNil)))) (tt := tYes) rfl sc_Cycle_run_period.nd (pi_items (pe_fld (pv 0) rfl)) (blkOk_by (own := [("place", 3), ("rows", 6)]) (N := ["self", "queues", "time", "place", "events", "passengers", "rows", "queue"]) (sc := defScope s_Cycle_run_period) (by decide +kernel)) (fun _ _ _ _ _ => (pg_tup rfl (pgs_cons (pg_name (i := 3) sc_Cycle_run_period.nd rfl (Or.inl rfl)) (pgs_cons (pg_name (i := 6) sc_Cycle_run_period.nd rfl (Or.inl rfl)) pgs_nil)))) (fun _ _ _ _ _ => pts_nil) (fun _ _ _ _ _ => (pv 3)) (fun _ _ _ _ _ => (pe_callB (call_lenU (K := K)) (by rfl) T.b_len (by decide +kernel) (pa_cons (pv 6) pa_nil))))) pa_nil)))
      (pss_cons (ps_set (i := 4) sc_Cycle_run_period.nd rfl (Or.inl rfl) (pe_lst pa_nil))
      (pss_cons (ps_expr (pe_call (G_join_queue) (hr.mono (by decide)) rfl D_join_queue.g D_join_queue.F.kp D_join_queue.b .nil pass0 (pa_cons (pe_fld (pv 0) rfl) (pa_cons (pv 1) (pa_cons pe_int (pa_cons (pv 2) (pa_cons (pv 4) pa_nil)))))))
      (pss_one (ps_for PassesOwn.never rfl (pi_U (K := K) (pv 4)) (pg_tup rfl (pgs_cons (pg_name (i := 3) sc_Cycle_run_period.nd rfl (Or.inl rfl)) (pgs_cons (pg_name (i := 5) sc_Cycle_run_period.nd rfl (Or.inl rfl)) pgs_nil))) (pss_one (ps_expr (pe_bm PySem.F.plainAttrs_list PySem.F.slot_list_append PySem.F.type_list_append mt_append (pe_dsetd (pe_fld (pv 0) rfl) (pv 3) (pe_lst pa_nil) ⟨rfl, rfl, rfl, rfl⟩) (pa_cons (pe_tup (pa_cons (pv 5) (pa_cons (pv 2) pa_nil))) pa_nil)))))))))))), ?_⟩
    walk_at "run"
    dsimp only [iRng2W]
    walk_at "run"
    refine x_fld W0.ins F.c F.period cy_period ?_
    walk_at "run"
    have hM := hQ
    refine ⟨_, _, rfl, ?_⟩
    have en : ((per : Int) + 1 - 1).toNat = per := by rw [Int.add_sub_cancel]; exact Int.toNat_natCast _
    rw [en]
    refine loop_it walk_range (fun i σ H' => ∃ u2 u3 u4 u5, σ = [some (V.ref M.a), some (V.ref Qa), u2, u3, u4, u5, none, none] ∧ Ex Hs H' ∧ CyT K C H' (fun x => Hs x = none ∧ x ≠ Qa) N per (cyRun N q0 i) M (1040 * i) ∧ QtAt K H' Qa PyData.int (cyRun N q0 i).qs) ⟨_, _, _, _, rfl, eS, W0, hQ⟩ (fun _ _ _ _ _ => trivial) ?_ ?_
    · rintro i x σ H0 H1 hi ⟨u2, u3, u4, u5, rfl, e1, W, hQ1⟩ ⟨eH, hx⟩
      subst eH
      walk_at "run"
      refine x_fld W.ins F.c F.lengths_at cy_lengths_at ?_
      have ha1 := W.la.lst
      obtain ⟨lx, hl1, hl2⟩ := ha1
      refine ⟨x_tyL (SqL.of hl1), ?_⟩
      obtain ⟨qv, g1, g2⟩ := hQ1.ex
      have Si : Short N (cyRun N q0 i).qs := by rw [cy_qs]; exact runI_short hV h8 S0 i
      have hcL : ∀ n, (cyRun N q0 n).L.length = n := fun n => by
        induction n with
        | zero => rfl
        | succ n ih => show (_ ++ [_]).length = _; rw [List.length_append, ih]; rfl
      have hcA : ∀ n, (cyRun N q0 n).A.length = n := fun n => by
        induction n with
        | zero => rfl
        | succ n ih => show (_ ++ [_]).length = _; rw [List.length_append, ih]; rfl
      have hcl := hcL i
      have hca := hcA i
      have hstep : cyRun N q0 (i + 1) = cyStep N (cyRun N q0 i) ((i : Int) + 1) := rfl
      rw [hstep]
      generalize cyRun N q0 i = S at W hQ1 g2 Si hcl hca hl2
      have hqv : qv.length ≤ 8 := by rw [g2.len, List.length_map, Si.len]; exact h8
      refine x_itL (SqL.of g1) (lcl_it walk_list (fun z j H' => Ex H1 H' ∧ H' z = some (.lst (((lens S.qs).take j).map V.int))) (fun z H' hz e h => ⟨e, h⟩) (fun z j H' _ h => SqL.of (h.1 _ _ g1)) ?_ ?_)
      · rintro z j y H0 H2 hz hj ⟨e2, h2⟩ ⟨eH, hy⟩
        subst eH
        obtain ⟨d, hd, hyd⟩ := g2.get' hy
        obtain ⟨qj, hqj, rfl⟩ : ∃ q, S.qs[j]? = some q ∧ qA PyData.int q = d := by simpa using hd
        obtain ⟨b, vs, rfl, hb, hbd⟩ := Dp.tup_inv (Dp.ex e2 hyd)
        walk_at "run"
        refine x_lenT hb ?_
        refine x_push h2 (by simp; omega) fun H3 e3 h3 => ⟨fun o u h => e3 _ _ (ne_of_none h hz) (e2 _ _ h), ?_⟩
        rw [h3, hbd.len]
        unfold lens
        rw [List.length_map, ← List.map_take, ← List.map_take, List.take_add_one, hqj]
        simp
      · rintro z H2 hz ⟨e2, h2⟩
        have h2 : H2 z = some (.lst ((lens S.qs).map V.int)) := by
          have e : qv.length = (lens S.qs).length := by unfold lens; rw [g2.len, List.length_map, List.length_map]
          rw [h2, e, List.take_length]
        refine x_tupL (SqL.of h2) fun T0 H3 nT e3 hT => ?_
        have e13 := e2.trans e3
        refine x_append (e13 _ _ hl1) (by omega) fun H4 e4 h4 => ?_
        have W3 := W.ex e13
        have t34 : TX H3 H4 := TX.but (e13 _ _ hl1) e4
        have hLQ : M.La ≠ Qa := W.fl.2
        have W4 := W3.setL (l := lens S.qs) (e13 _ _ hl1) e4 ((W3.la).snoc (e13 _ _ hl1) t34 h4 (RawT.tx (l := lens S.qs) hT t34))
        have hQ4 : QtAt K H4 Qa PyData.int S.qs := (hQ1.ex2 e13).tx (qs_t pdI) t34 fun o => e4 _ _ hLQ.symm
        have eS4 : Ex Hs H4 := fun x o h => e4 _ _ (ne_of_none h W.fl.1) (e13 _ _ (e1 _ _ h))
        generalize hS4 : ({ S with L := S.L ++ [lens S.qs] } : CyS) = S4 at W4
        have q4 : S4.qs = S.qs := by rw [← hS4]
        have r4 : S4.R = S.R := by rw [← hS4]
        have a4 : S4.A = S.A := by rw [← hS4]
        refine x_fld W4.ins F.c F.rows_at cy_rows_at ?_
        obtain ⟨rs, hR1, hR2, _⟩ := W4.ra.ex
        refine ⟨x_tyL (SqL.of hR1), ?_⟩
        obtain ⟨A, kvs, RW, hA⟩ := W4.rw_
        refine x_lock RW.d trivial fun od H5 e5 n5 h5 => ?_
        have hMD : M.a ≠ M.D := fun z => by have := W4.ins; rw [z, RW.d] at this; cases this
        walk_at "run"
        refine x_fld (e5 _ _ hMD W4.ins) F.c F.rows cy_rows ?_
        refine x_items h5 (dcl_it walk_items (fun z j H' => Ex H5 H' ∧ ∃ ks, H' z = some (.dK ks) ∧ ks.length ≤ j ∧ ∀ k, (k ∈ (kvs.take j).map (fun p : Key × V => p.1) ∧ valV ks k = some (.int ((S.R k).length : Int))) ∨ (k ∉ (kvs.take j).map (fun p : Key × V => p.1) ∧ valV ks k = none)) (fun z H' hz e h => ⟨e, [], h, Nat.le_refl _, fun k => .inr ⟨by simp, rfl⟩⟩) (fun z j H' _ h => h.1 _ _ h5) ?_ ?_)
        · rintro z j x2 H6 H7 hz hj ⟨e6, ks, hk1, hk2, hk3⟩ ⟨T1, y1, y2, rfl, hT1, rfl, hy1, hy2⟩
          have e7 : Ex H6 (upd H6 T1 (.tup [y1, y2])) := Ex.new hT1
          refine x_two (SqT.of upd_same) ?_
          generalize upd H6 T1 (.tup [y1, y2]) = H7 at e7
          obtain ⟨kv, hkv⟩ : ∃ kv, kvs[j]? = some kv := ⟨kvs[j], by simp⟩
          dsimp only at hy1 hy2
          rw [hkv] at hy1 hy2
          obtain rfl : kV kv.1 = y1 := by simpa using hy1
          obtain rfl : kv.2 = y2 := by simpa using hy2
          have hv := val_of_mem RW.nd (List.mem_of_getElem? hkv)
          rw [RW.val] at hv
          obtain ⟨b, hb, hb2⟩ : ∃ b, A kv.1 = some b ∧ V.ref b = kv.2 := by simpa using hv
          obtain ⟨bs, gb1, gb2⟩ := (RW.ls _ _ hb).ex
          have hbD : b ≠ M.D := ls_ne_dK (RW.ls _ _ hb) RW.d
          rw [← hb2]
          walk_at "run"
          refine x_lenL (SqL.of (e7 _ _ (e6 _ _ (e5 _ _ hbD gb1)))) ?_
          have gl : bs.length = (S.R kv.1).length := by rw [gb2.len, List.length_map, r4]
          have := RW.len
          refine x_putD (e7 _ _ hk1) (by omega) fun H8 e8 h8' => ⟨fun o u h => e8 _ _ (ne_of_none h hz) (e7 _ _ (e6 _ _ h)), _, h8', Nat.le_trans putK_le1 (by omega), fun k => ?_⟩
          rw [valV_put, List.take_add_one, hkv]
          by_cases e : k = kv.1
          · subst e
            rw [if_pos rfl]
            exact .inl ⟨by simp, by rw [gl]⟩
          · rw [if_neg e]
            rcases hk3 k with ⟨a1, a2⟩ | ⟨a1, a2⟩
            · exact .inl ⟨by rw [List.map_append]; exact List.mem_append_left _ a1, a2⟩
            · refine .inr ⟨?_, a2⟩
              rw [List.map_append, List.mem_append]
              rintro (h | h)
              · exact a1 h
              · simp at h
                exact e h
        · rintro z H6 hz ⟨e6, ks, hk1, hk2, hk3⟩
          have hk3 : ∀ k, (valV ks k).getD (.int 0) = .int ((S.R k).length : Int) := fun k => by
            rw [List.take_length] at hk3
            rcases hk3 k with ⟨a1, a2⟩ | ⟨a1, a2⟩
            · rw [a2]; rfl
            · rw [a2]
              have hv : valV kvs k = none := by
                cases h : valV kvs k with
                | none => rfl
                | some v => exact (a1 (valV_in h)).elim
              rw [RW.val] at hv
              have := RW.no k (by simpa using hv)
              rw [r4] at this
              rw [this]; rfl
          have hzD : z ≠ M.D := (ne_of_none h5 hz).symm
          refine ⟨e6 _ _ h5, ?_⟩
          have e46 : Ex H4 (upd H6 M.D (.dK kvs)) := fun x o h => by
            by_cases g : x = M.D
            · rw [g, upd_same, ← RW.d, ← g, h]
            · rw [upd_ne g]; exact e6 _ _ (e5 _ _ g h)
          have hz6 : (upd H6 M.D (.dK kvs)) z = some (.dK ks) := by rw [upd_ne hzD]; exact hk1
          have hz4 : H4 z = none := n5 _ hzD hz
          generalize upd H6 M.D (.dK kvs) = H7 at e46 hz6
          have fz : Hs z = none := fresh_back eS4 hz4
          have hzQ : z ≠ Qa := by
            obtain ⟨ts, a1, _⟩ := hQ4.ex
            exact (ne_of_none a1 hz4).symm
          have hRl : rs.length ≤ 800 := by rw [hR2, a4, hca]; omega
          refine x_append (e46 _ _ hR1) (by simp; omega) fun H8 e8 h8R => ?_
          have hRQ : M.Ra ≠ Qa := W4.ra.fr.2
          have W8 := (W4.ex e46).setA (ct := fun k => (S.R k).length) (e46 _ _ hR1) e8 h8R ⟨ks, hz6, hk3⟩ ⟨fz, hzQ⟩ hzD
          have t78 : TX H7 H8 := TX.but (e46 _ _ hR1) e8
          have hQ8 : QtAt K H8 Qa PyData.int S.qs := (hQ4.ex2 e46).tx (qs_t pdI) t78 fun o => e8 _ _ hRQ.symm
          have eS8 : Ex Hs H8 := fun x o h => e8 _ _ (ne_of_none h W4.ra.fr.1) (e46 _ _ (eS4 _ _ h))
          refine x_lst (by simp) fun Ea H9 nE e9 hE => ?_
          refine x_fld (e9 _ _ W8.ins) F.c F.network cy_network ?_
          have hQE : Qa ≠ Ea := by
            obtain ⟨ts, a1, _⟩ := hQ8.ex
            exact ne_of_none a1 nE
          have Wa := (W8.avoid nE).ex e9
          have hx' : x = V.int ((i : Int) + 1) := by rw [hx, Int.add_comm]
          refine ⟨M.v, x, N, Qa, Ea, S.qs, [], 0, (i : Int) + 1, rfl, Wa.net, jn_of hV, by rw [hx']; exact .int _, hQ8.ex2 e9, ⟨⟨[], hE, .nil⟩⟩, hQE, Si, hV.pos, by omega, ?_, fun H10 e10 q10 v10 => ?_⟩
          · have := way_le hV h8 Si
            rw [List.length_nil]
            omega
          have v10 : EvAt K H10 Ea PyData.int (arrI N S.qs ((i : Int) + 1)).2 := v10
          have q10 : QtAt K H10 Qa PyData.int (arrI N S.qs ((i : Int) + 1)).1 := q10
          have hel : (arrI N S.qs ((i : Int) + 1)).2.length ≤ 1040 := by
            have := arr_len (p := (i : Int) + 1) hV h8 Si 0
            simpa [runI] using this
          have t910 : TX H9 H10 := by
            obtain ⟨ts, a1, _⟩ := (hQ8.ex2 e9).ex
            exact TX.two a1 hE e10
          have W10 := (Wa.keep (fun x o f h => e10 _ _ h f.1.2 f.2) t910).putQ (qs := (arrI N S.qs ((i : Int) + 1)).1)
          have eS10 : Ex Hs H10 := fun x o h => e10 _ _ (e9 _ _ (eS8 _ _ h)) (ne_of_none h sQ) (ne_of_none (eS8 _ _ h) nE)
          have hfin : cyStep N S ((i : Int) + 1) = ⟨(arrI N S.qs ((i : Int) + 1)).1, addE ((i : Int) + 1) S.R (arrI N S.qs ((i : Int) + 1)).2, S.L ++ [lens S.qs], S.A ++ [fun k => (S.R k).length]⟩ := rfl
          rw [hfin]
          generalize (arrI N S.qs ((i : Int) + 1)).2 = es at v10 hel
          generalize (arrI N S.qs ((i : Int) + 1)).1 = qn at q10 W10
          rw [← hS4] at W10
          have W10 : CyT K C H10 (fun x => (Hs x = none ∧ x ≠ Qa) ∧ x ≠ Ea) N per ⟨qn, S.R, S.L ++ [lens S.qs], S.A ++ [fun k => (S.R k).length]⟩ M (1040 * i) := W10
          obtain ⟨ev, v1, v2⟩ := v10.ex
          have evl : ev.length = es.length := by rw [v2.len, List.length_map]
          refine x_itL (SqL.of v1) (loop_it walk_list (fun j σ H' => ∃ u3 u5, σ = [some (V.ref M.a), some (V.ref Qa), some x, u3, some (V.ref Ea), u5, none, none] ∧ Ex Hs H' ∧ CyT K C H' (fun x => (Hs x = none ∧ x ≠ Qa) ∧ x ≠ Ea) N per ⟨qn, addE ((i : Int) + 1) S.R (es.take j), S.L ++ [lens S.qs], S.A ++ [fun k => (S.R k).length]⟩ M (1040 * i + j) ∧ QtAt K H' Qa PyData.int qn ∧ H' Ea = some (.lst ev) ∧ DpAll K H' ev (es.map (evA PyData.int))) ⟨_, _, rfl, eS10, W10, q10, v1, v2⟩ (fun j σ H' _ ⟨_, _, _, _, _, _, h, _⟩ => SqL.of h) ?_ ?_)
          · rintro j y σ H0 H11 hj ⟨u3, u5, rfl, e11, W11, q11, v11, d11⟩ ⟨eH, hy⟩
            subst eH
            obtain ⟨d, hd, hyd⟩ := d11.get' hy
            obtain ⟨e, he, rfl⟩ : ∃ e, es[j]? = some e ∧ evA PyData.int e = d := by simpa using hd
            obtain ⟨T1, ts, rfl, hT1, hTd⟩ := Dp.tup_inv hyd
            cases hTd with
            | cons hk hr1 =>
            cases hr1 with
            | @cons vp _ _ _ hps hr2 =>
            cases hr2
            have hk := dp_key hk
            subst hk
            refine x_two hT1 ?_
            have het : es.take (j + 1) = es.take j ++ [e] := by rw [List.take_add_one, he]; rfl
            rw [het, addE_snoc]
            generalize addE ((i : Int) + 1) S.R (es.take j) = R at W11
            obtain ⟨A, kvs, RW, hA⟩ := W11.rw_
            walk_at "run"
            refine x_fld W11.ins F.c F.rows cy_rows ⟨M.D, rfl, isD_k RW.d, x_lst (by simp) fun z2 H12 nz e12 hz2 => ?_⟩
            have exQ : ∃ o, H11 Qa = some o := by obtain ⟨ts, a1, _⟩ := q11.ex; exact ⟨_, a1⟩
            have exL : ∃ o, H11 M.La = some o := by obtain ⟨ts, a1, _⟩ := W11.la.lst; exact ⟨_, a1⟩
            have exR : ∃ o, H11 M.Ra = some o := by obtain ⟨ts, a1, _⟩ := W11.ra.ex; exact ⟨_, a1⟩
            have nez : ∀ a : Addr, (∃ o, H11 a = some o) → z2 ≠ a := fun a ⟨o, h⟩ => (ne_of_none h nz).symm
            have fz2 : (Hs z2 = none ∧ z2 ≠ Qa) ∧ z2 ≠ Ea := ⟨⟨fresh_back e11 nz, nez _ exQ⟩, nez _ ⟨_, v11⟩⟩
            have hDQ : Qa ≠ M.D := by
              obtain ⟨ts, a1, _⟩ := q11.ex
              exact fun z => by rw [z, RW.d] at a1; cases a1
            have hDE : Ea ≠ M.D := fun z => by rw [z, RW.d] at v11; cases v11
            have fin : ∀ (b : Addr) (H13 : Hp) (A' : Key → Option Addr) (kvs' : List (Key × V)), A' e.1 = some b → RwAt K H13 (fun x => (Hs x = none ∧ x ≠ Qa) ∧ x ≠ Ea) M.D R A' kvs' (1040 * i + j + 1) (1040 * i + j) →
                (∀ k b, A' k = some b → b ≠ M.La ∧ b ≠ M.Ra ∧ (H11 b = none ∨ ∃ xs, H11 b = some (.lst xs)) ∧ (k = e.1 ∨ R k ≠ [])) → (∀ x o, x ≠ M.D → H11 x = some o → H13 x = some o) → TX H11 H13 →
                ∀ Q2 : Hp → Prop, (∀ H15, Ex Hs H15 → CyT K C H15 (fun x => (Hs x = none ∧ x ≠ Qa) ∧ x ≠ Ea) N per ⟨qn, addR R e.1 (e.2, (i : Int) + 1), S.L ++ [lens S.qs], S.A ++ [fun k => (S.R k).length]⟩ M (1040 * i + (j + 1)) → QtAt K H15 Qa PyData.int qn → H15 Ea = some (.lst ev) → DpAll K H15 ev (es.map (evA PyData.int)) → Q2 H15) →
                tyV K "list" (.ref b) H13 ∧ rTup [vp, x] H13 fun x_3 H1 => rAppend (.ref b) [x_3] H1 fun x_4 H1 => Q2 H1 := by
              intro b H13 A' kvs' hb RW13 hA13 e13 t13 Q2 q2
              obtain ⟨bs, gb1, gb2⟩ := (RW13.ls _ _ hb).ex
              have bl : bs.length ≤ 1040 * i + j := by rw [gb2.len, List.length_map]; exact RW13.tot _
              refine ⟨x_tyL (SqL.of gb1), x_tup (by simp) fun t H14 nt e14 ht => x_append (e14 _ _ gb1) (by omega) fun H15 e15 h15 => ?_⟩
              have t15 : TX H14 H15 := TX.but (e14 _ _ gb1) e15
              have hbf := RW13.fl _ _ hb
              have ntb : t ≠ b := fun z => by rw [z, e14 _ _ gb1] at ht; cases ht
              have rowdp : Dp K H15 (.ref t) (rowD (e.2, (i : Int) + 1)) := by
                refine .tup (SqT.of (e15 _ _ ntb ht)) (.cons ?_ (.cons ?_ .nil))
                · exact Dp.tx (t13.trans ((TX.of e14).trans t15)) hps (qA_t pdI _)
                · rw [hx']; exact .int _
              have RW15 := (RW13.keep (fun x o _ h => e14 _ _ h) (TX.of e14)).app (r := (e.2, (i : Int) + 1)) hb e15 t15 ⟨⟨_, h15, by
                rw [List.map_append]
                exact DpAll.append (DpAll.tx ((TX.of e14).trans t15) gb2 rows_t) (.cons rowdp .nil)⟩⟩
              refine q2 H15 (fun x o h => e15 _ _ (fun z => by rw [z, hbf.1.1] at h; cases h) (e14 _ _ (e13 _ _ (fun z => by rw [z, RW.fd.1.1] at h; cases h) (e11 _ _ h)))) ?_ ?_ ?_ ?_
              · refine (W11.setR (t13.trans ((TX.of e14).trans t15)) (fun x o hd hx h => e15 _ _ (hx _ _ hb) (e14 _ _ (e13 _ _ hd h))) (fun k b' hk => ⟨(hA13 k b' hk).1, (hA13 k b' hk).2.1, (hA13 k b' hk).2.2.1⟩) (fun k b' hk => ?_) RW15).le (Nat.le_refl _)
                unfold addR
                by_cases g : k = e.1
                · rw [if_pos g]; simp
                · rw [if_neg g]
                  exact (hA13 k b' hk).2.2.2.resolve_left g
              · exact ((q11.tx (qs_t pdI) t13 fun o => e13 _ _ hDQ).ex2 e14).tx (qs_t pdI) t15 fun o => e15 _ _ hbf.1.2.symm
              · exact e15 _ _ hbf.2.symm (e14 _ _ (e13 _ _ hDE v11))
              · exact DpAll.tx (t13.trans ((TX.of e14).trans t15)) d11 (es_t pdI)
            have hRWl := RW.len
            refine x_dsetd (k := e.1) (e12 _ _ RW.d) (by omega) (fun v hv => ?_) (fun hv H13 e13 _ h13 => ?_)
            · rw [RW.val] at hv
              obtain ⟨b, hb, rfl⟩ : ∃ b, A e.1 = some b ∧ V.ref b = v := by simpa using hv
              refine fin b H12 A kvs hb { RW.keep (fun x o _ h => e12 _ _ h) (TX.of e12) with len := by omega } (fun k b' hk => ⟨(hA k b' hk).1, (hA k b' hk).2.1, .inr (by obtain ⟨ts, a1, _⟩ := (RW.ls _ _ hk).ex; exact ⟨ts, a1⟩), .inr (hA k b' hk).2.2⟩) (fun x o _ h => e12 _ _ h) (TX.of e12) _ fun H15 a1 a2 a3 a4 a5 => ⟨_, _, rfl, a1, a2, a3, a4, a5⟩
            · rw [RW.val] at hv
              have hk0 : A e.1 = none := by simpa using hv
              have e13' : ∀ x o, x ≠ M.D → H11 x = some o → H13 x = some o := fun x o hx h => e13 _ _ hx (e12 _ _ h)
              have t13 : TX H11 H13 := fun x o h c => e13' _ _ (fun z => by rw [z, RW.d] at h; cases h; exact c) h
              have zD : z2 ≠ M.D := nez _ ⟨_, RW.d⟩
              have RW13 := RW.new hk0 nz fz2 e13' t13 h13 (e13 _ _ zD hz2)
              have hA' : ∀ k b, (if k = e.1 then some z2 else A k) = some b → b ≠ M.La ∧ b ≠ M.Ra ∧ (H11 b = none ∨ ∃ xs, H11 b = some (.lst xs)) ∧ (k = e.1 ∨ R k ≠ []) := fun k b h => by
                by_cases g : k = e.1
                · rw [if_pos g] at h; cases h
                  exact ⟨nez _ exL, nez _ exR, .inl nz, .inl g⟩
                · rw [if_neg g] at h
                  obtain ⟨ts, a1, _⟩ := (RW.ls _ _ h).ex
                  exact ⟨(hA k b h).1, (hA k b h).2.1, .inr ⟨ts, a1⟩, .inr (hA k b h).2.2⟩
              exact fin z2 H13 _ _ (by rw [if_pos rfl]) { RW13 with len := RW13.len } hA' e13' t13 _ fun H15 a1 a2 a3 a4 a5 => ⟨_, _, rfl, a1, a2, a3, a4, a5⟩
          · rintro σ H11 ⟨u3, u5, rfl, e11, W11, q11, v11, d11⟩
            rw [evl, List.take_length] at W11
            exact ⟨_, _, _, _, rfl, e11, (W11.mono fun x o _ f => f.1).le (by omega), q11⟩
    · rintro σ H1 ⟨u2, u3, u4, u5, rfl, e1, W, hQ1⟩
      exact q H1 e1 W
end
/-! Cycle.row -/
/-- the row of a place with a number, as numbered from a phase on -/
def cyRow (per : Nat) (S : CyS) (ph : Nat) (k : Key) (n : Int) : Option Row :=
  if S.R k = [] then none
  else
    let m := ((S.A.getD ph (fun _ => 0) k : Nat) : Int) + n - 1
    let l := ((S.R k).length : Int)
    let r := (S.R k).getD (m % l).toNat ([], 0)
    let sh := m / l * (per : Int) - (ph : Int)
    some (r.1.map fun p => if p + sh > 0 then p + sh else 0, r.2 + sh)
def rowV : Option Row → PyData
  | none => .none
  | some r => rowD r
theorem rowV_t : ∀ o, TupD (rowV o)
  | none => .non
  | some r => rowD_t r
section
variable {P : Program} {w : World} {K : PySem.W.Frag} {mg : Str → Option Value} {base : Heap}
abbrev s_Cycle_row : Stmt := inClass (top 32) 3
theorem sc_Cycle_row : FnScope ["self", "phase", "place", "number", "rows", "periods", "at", "passengers", "time", "shift", "passenger"] ["self", "phase", "place", "number"] (defScope s_Cycle_row) := ⟨rfl, rfl, rfl, by decide +kernel, rfl, by decide +kernel, by decide +kernel⟩
def spRow (K : PySem.W.Frag) (C : Addr) : Sp := fun vs H Q _ => ∃ (M : Cy) (N : Net) (per : Nat) (S : CyS) (c : Nat) (Fp : Addr → Prop) (ph : Nat) (k : Key) (n : Int), vs = [.ref M.a, .int (ph : Int), kV k, .int n] ∧ CyT K C H Fp N per S M c ∧ c ≤ 1000000 ∧ per ≤ 800 ∧ ph < S.A.length ∧ 1 ≤ n ∧ n ≤ 1000000 ∧ (∀ r ∈ S.R k, r.1.length ≤ 100) ∧
  ∀ H' x, Ex H H' → Dp K H' x (rowV (cyRow per S ph k n)) → Q x H'
theorem ok_row {C f : Addr} {fd : FuncData} (D : Mf K C "row" "Cycle.row" s_Cycle_row ["self", "phase", "place", "number"] f fd) (T : Bt mg) (bdm : mg "divmod" = none) (F : CF K C) : FnOk P w K mg base CX0 1 f fd ["self", "phase", "place", "number"] (spRow K C) := by
  refine D.F.ok sc_Cycle_row (fun vs H Q E h => ?_) (fun cdv A outer s H vs Q E hr h => ?_)
  · obtain ⟨M, N, per, S, c, Fp, ph, k, n, rfl, _⟩ := h
    rfl
  · obtain ⟨M, N, per, S, c, Fp, ph, k, n, rfl, W, hc, hp, hph, n1, n2, hrl, q⟩ := h
    have hu1 := hu_of hr
    refine ⟨_, (pss_cons (ps_if (pt_cmp (pc_dnotin hu1 (pv 2) (pe_fld (pv 0) rfl))) (pss_one (ps_ret pe_non)) pss_nil)
      (pss_cons (ps_set (i := 4) sc_Cycle_row.nd rfl (Or.inl rfl) (pe_dget hu1 (pe_fld (pv 0) rfl) (pv 2) (fun _ _ => rfl)))
      (pss_cons (ps_asg (pe_callB call_divmod (by rfl) bdm (by decide +kernel) (pa_cons (pe_op op_sub (pe_op (op_addU (K := K)) (pe_dget2 hu1 (pe_ix (ix_U (K := K)) (pe_fld (pv 0) rfl) (pv 1) (fun _ _ => rfl)) (pv 2) pe_int ⟨rfl, rfl, rfl, rfl⟩) (pv 3)) pe_int) (pa_cons (pe_callB (call_lenU (K := K)) (by rfl) T.b_len (by decide +kernel) (pa_cons (pv 4) pa_nil)) pa_nil))) (pg_tup rfl (pgs_cons (pg_name (i := 5) sc_Cycle_row.nd rfl (Or.inl rfl)) (pgs_cons (pg_name (i := 6) sc_Cycle_row.nd rfl (Or.inl rfl)) pgs_nil))))
      (pss_cons (ps_asg (pe_ix (ix_U (K := K)) (pv 4) (pv 6) (fun _ _ => rfl)) (pg_tup rfl (pgs_cons (pg_name (i := 7) sc_Cycle_row.nd rfl (Or.inl rfl)) (pgs_cons (pg_name (i := 8) sc_Cycle_row.nd rfl (Or.inl rfl)) pgs_nil))))
      (pss_cons (ps_set (i := 9) sc_Cycle_row.nd rfl (Or.inr rfl) (pe_op op_sub (pe_op (op_mulU (K := K)) (pv 5) (pe_fld (pv 0) rfl)) (pv 1)))
      (pss_one (ps_ret (pe_tup (pa_cons (pe_callTy (call_tupU (K := K)) (by rfl) T.b_tuple (by decide +kernel) (pa_cons (pe_lc (own := [("passenger", 10)]) (g := gName 10) (tt := tYes) rfl sc_Cycle_row.nd (pi_U (K := K) (pv 7)) (blkOk_by (own := [("passenger", 10)]) (N := ["self", "phase", "place", "number", "rows", "periods", "at", "passengers", "time", "shift", "passenger"]) (sc := defScope s_Cycle_row) (by decide +kernel)) (fun _ _ _ _ _ => (pg_name (i := 10) sc_Cycle_row.nd rfl (Or.inl rfl))) (fun _ _ _ _ _ => pts_nil) (fun _ _ _ _ _ => (pe_callB (call_maxU rfl) (by rfl) T.b_max (by decide +kernel) (pa_cons pe_int (pa_cons (pe_op (op_addU (K := K)) (pv 10) (pv 9)) pa_nil))))) pa_nil)) (pa_cons (pe_op (op_addU (K := K)) (pv 8) (pv 9)) pa_nil)))))))))), ?_⟩
    obtain ⟨A, kvs, RW, hA⟩ := W.rw_
    walk_at "run"
    refine x_fld W.ins F.c F.rows cy_rows ?_
    refine x_dNotIn (k := k) RW.d ?_
    rw [RW.val]
    cases hAk : A k with
    | none =>
      have hR := RW.no k hAk
      refine ⟨_, rfl, ?_⟩
      rw [if_pos (by rfl)]
      refine q H _ (Ex.refl H) ?_
      unfold cyRow
      rw [if_pos hR]
      exact .non
    | some b =>
      refine ⟨_, rfl, ?_⟩
      rw [if_neg (by simp)]
      refine x_fld W.ins F.c F.rows cy_rows ?_
      refine x_dget (k := k) RW.d (v := .ref b) (by rw [RW.val, hAk]; rfl) ?_
      walk_at "run"
      refine x_fld W.ins F.c F.rows_at cy_rows_at ?_
      obtain ⟨rs, hR1, hR2, hR3⟩ := W.ra.ex
      obtain ⟨rd, hrd⟩ : ∃ rd, rs[ph]? = some rd := ⟨rs[ph]'(by omega), List.getElem?_eq_getElem (by omega)⟩
      obtain ⟨cf, hcf⟩ : ∃ cf, S.A[ph]? = some cf := ⟨S.A[ph], List.getElem?_eq_getElem hph⟩
      obtain ⟨⟨ks, hk1, hk2⟩, _, _⟩ := hR3 ph rd cf hrd hcf
      refine x_ixL (SqL.of hR1) (atI_nat (v := .ref rd) (by simp [hrd])) ⟨rd, rfl, isD_k hk1, x_dget2 (k := k) hk1 ?_⟩
      rw [hk2]
      walk_at "run"
      obtain ⟨bs, gb1, gb2⟩ := (RW.ls _ _ hAk).ex
      have hne : S.R k ≠ [] := (hA k b hAk).2.2
      have hbl : bs.length = (S.R k).length := by rw [gb2.len, List.length_map]
      have hl0 : 0 < (S.R k).length := List.length_pos_iff.mpr hne
      have hlc := RW.tot k
      refine x_lenL (SqL.of gb1) ⟨_, _, rfl, ⟨by omega, by omega⟩, fun p hp => ?_⟩
      have e1 := Ex.new (o := .tup [V.int (((cf k : Nat) + n - 1) / (bs.length : Int)), V.int (((cf k : Nat) + n - 1) % (bs.length : Int))]) hp
      refine x_two (SqT.of upd_same) ?_
      generalize upd H p (.tup [V.int (((cf k : Nat) + n - 1) / (bs.length : Int)), V.int (((cf k : Nat) + n - 1) % (bs.length : Int))]) = H1 at e1
      walk_at "run"
      rw [hbl]
      have hcA : S.A.getD ph (fun _ => 0) = cf := by rw [List.getD_eq_getElem?_getD, hcf]; rfl
      have ha0 := Int.emod_nonneg (((cf k : Nat) : Int) + n - 1) (b := ((S.R k).length : Int)) (by omega)
      have ha1 := Int.emod_lt_of_pos (((cf k : Nat) : Int) + n - 1) (b := ((S.R k).length : Int)) (by omega)
      have hq : cyRow per S ph k n = some (((S.R k).getD ((((cf k : Nat) : Int) + n - 1) % ((S.R k).length : Int)).toNat ([], 0)).1.map (fun p => if p + ((((cf k : Nat) : Int) + n - 1) / ((S.R k).length : Int) * (per : Int) - (ph : Int)) > 0 then p + ((((cf k : Nat) : Int) + n - 1) / ((S.R k).length : Int) * (per : Int) - (ph : Int)) else 0), ((S.R k).getD ((((cf k : Nat) : Int) + n - 1) % ((S.R k).length : Int)).toNat ([], 0)).2 + ((((cf k : Nat) : Int) + n - 1) / ((S.R k).length : Int) * (per : Int) - (ph : Int))) := by
        unfold cyRow
        rw [if_neg hne, hcA]
      rw [hq] at q
      generalize (((cf k : Nat) : Int) + n - 1) % ((S.R k).length : Int) = a at ha0 ha1 q
      generalize (((cf k : Nat) : Int) + n - 1) / ((S.R k).length : Int) = m at q
      have hai : a.toNat < (S.R k).length := by omega
      obtain ⟨r, hr0⟩ : ∃ r, (S.R k)[a.toNat]? = some r := ⟨_, List.getElem?_eq_getElem hai⟩
      have hrg : (S.R k).getD a.toNat ([], 0) = r := by rw [List.getD_eq_getElem?_getD, hr0]; rfl
      rw [hrg] at q
      have hrl := hrl r (List.mem_of_getElem? hr0)
      obtain ⟨v, hv, hvd⟩ := gb2.get (show ((S.R k).map rowD)[a.toNat]? = some (rowD r) by simp [hr0])
      rw [show a = ((a.toNat : Nat) : Int) by omega]
      refine x_ixL (SqL.of (e1 _ _ gb1)) (atI_nat hv) ?_
      obtain ⟨ra, rxs, rfl, hrT, hrd2⟩ := Dp.tup_inv (Dp.ex e1 hvd)
      cases hrd2 with
      | @cons pv0 _ _ _ hpv hr1 =>
      cases hr1 with
      | @cons tv0 _ _ _ htv hr2 =>
      cases hr2
      have htv := Dp.int_inv htv
      subst htv
      obtain ⟨pa, pxs, rfl, hpT, hpd⟩ := Dp.tup_inv hpv
      have hpx : pxs = r.1.map V.int := by
        have aux : ∀ {ns : List Int} {vs : List V}, DpAll K H1 vs (ns.map PyData.int) → vs = ns.map V.int := fun {ns} => by
          induction ns with
          | nil => intro vs h; cases h; rfl
          | cons n ns ih => intro vs h; cases h with | cons h hs => rw [Dp.int_inv h, ih hs]; rfl
        exact aux hpd
      subst hpx
      refine x_two hrT ?_
      walk_at "run"
      refine x_fld (e1 _ _ W.ins) F.c F.period cy_period ?_
      rw [x_mulI]
      refine ⟨.inr ⟨by omega, by omega⟩, ?_⟩
      walk_at "run"
      generalize m * (per : Int) - (ph : Int) = sh at q
      refine x_itT hpT (lcl_it walk_tup (fun z i H' => Ex H1 H' ∧ H' z = some (.lst (((r.1.map fun p => if p + sh > 0 then p + sh else 0).take i).map V.int))) (fun z H' hz e h => ⟨e, h⟩) (fun z i H' _ h => ex_t h.1 hpT) ?_ ?_)
      · rintro z i x H0 H2 hz hi ⟨e2, h2⟩ ⟨eH, hx⟩
        subst eH
        obtain ⟨p0, hp0, rfl⟩ : ∃ p0, r.1[i]? = some p0 ∧ V.int p0 = x := by simpa using hx
        walk_at "run"
        refine x_push h2 (by simp; omega) fun H3 e3 h3 => ⟨fun o u h => e3 _ _ (ne_of_none h hz) (e2 _ _ h), ?_⟩
        rw [h3, ← List.map_take, ← List.map_take, List.take_add_one, hp0]
        simp
      · rintro z H2 hz ⟨e2, h2⟩
        have h2 : H2 z = some (.lst ((r.1.map fun p => if p + sh > 0 then p + sh else 0).map V.int)) := by
          rw [h2, List.length_map, List.take_of_length_le (by simp)]
        refine x_tupL (SqL.of h2) fun T0 H3 nT e3 hT => ?_
        refine x_tup (by simp) fun T1 H4 nT1 e4 hT1 => ?_
        refine q H4 _ (e1.trans (e2.trans (e3.trans e4))) ?_
        exact .tup (SqT.of hT1) (.cons (.tup (SqT.of (e4 _ _ hT)) (ints_dp _)) (.cons (.int _) .nil))
end
/-! Cycle.__init__ -/
theorem cy_fs {v D L R : V} {p : Int} : putF "rows_at" R (putF "lengths_at" L (putF "rows" D (putF "period" (.int p) (putF "network" v [])))) = ([("network", v), ("period", .int p), ("rows", D), ("lengths_at", L), ("rows_at", R)] : List (Str × V)) := by
  rw [show putF "network" v [] = ([("network", v)] : List (Str × V)) from rfl]
  rw [putF_ne (f := "period") (by decide +kernel), show ∀ y : V, putF "period" y [] = ([("period", y)] : List (Str × V)) from fun _ => rfl]
  rw [putF_ne (f := "rows") (by decide +kernel), putF_ne (f := "rows") (by decide +kernel), show ∀ y : V, putF "rows" y [] = ([("rows", y)] : List (Str × V)) from fun _ => rfl]
  rw [putF_ne (f := "lengths_at") (by decide +kernel), putF_ne (f := "lengths_at") (by decide +kernel), putF_ne (f := "lengths_at") (by decide +kernel), show ∀ y : V, putF "lengths_at" y [] = ([("lengths_at", y)] : List (Str × V)) from fun _ => rfl]
  rw [putF_ne (f := "rows_at") (by decide +kernel), putF_ne (f := "rows_at") (by decide +kernel), putF_ne (f := "rows_at") (by decide +kernel), putF_ne (f := "rows_at") (by decide +kernel), show ∀ y : V, putF "rows_at" y [] = ([("rows_at", y)] : List (Str × V)) from fun _ => rfl]
/-- the queues with which a cycle begins -/
def cyQ (N : Net) (per : Nat) (ls : List Int) : Qs := runI N (zerosQ ls) (1 - ((waitsN N * per : Nat) : Int)) (waitsN N * per)
/-- a cycle with its records -/
def cyOf (N : Net) (per : Nat) (ls : List Int) : CyS := cyRun N (cyQ N per ls) per
section
variable {P : Program} {w : World} {K : PySem.W.Frag} {mg : Str → Option Value} {base : Heap}
abbrev s_Cycle___init : Stmt := inClass (top 32) 0
theorem sc_Cycle___init : FnScope ["self", "network", "lengths", "period"] ["self", "network", "lengths", "period"] (defScope s_Cycle___init) := ⟨rfl, rfl, rfl, by decide +kernel, rfl, by decide +kernel, by decide +kernel⟩
def spCyI (K : PySem.W.Frag) (C : Addr) : Sp := fun vs H Q _ => ∃ (a dx : Addr) (v : V) (N : Net) (per : Nat) (ls : List Int) (la : Addr), vs = [.ref a, v, .ref la, .int (per : Int)] ∧ H a = some (.ins C dx []) ∧ NetAt K H v N ∧ ValidN N ∧ N.length ≤ 8 ∧ RawT H la ls ∧ Lens N ls ∧ per ≤ 800 ∧
  ∀ H' (M : Cy), M.a = a → (∀ x o, x ≠ a → H x = some o → H' x = some o) → CyT K C H' (fun x => x = a ∨ H x = none) N per (cyOf N per ls) M (1040 * per) → Q .non H'
theorem ok_Cycle_init {C f f1 f2 : Addr} {fd fd1 fd2 : FuncData} (D : Cf K mg "Cycle" "Cycle.__init__" C s_Cycle___init ["self", "network", "lengths", "period"] f fd) (T : Bt mg) (F : CF K C) (M_run_before : Mf K C "run_before" "Cycle.run_before" s_Cycle_run_before ["self", "lengths"] f1 fd1) (G_run_before : FnOk P w K mg base CX0 18 f1 fd1 ["self", "lengths"] (spRunB K C))
    (M_run_period : Mf K C "run_period" "Cycle.run_period" s_Cycle_run_period ["self", "queues"] f2 fd2) (G_run_period : FnOk P w K mg base CX0 18 f2 fd2 ["self", "queues"] (spRunP K C)) : FnOk P w K mg base CX0 19 f fd ["self", "network", "lengths", "period"] (spCyI K C) := by
  refine D.F.ok sc_Cycle___init (fun vs H Q E h => ?_) (fun cdv A outer s H vs Q E hr h => ?_)
  · obtain ⟨a, dx, v, N, per, ls, la, rfl, _⟩ := h
    rfl
  · obtain ⟨a, dx, v, N, per, ls, la, rfl, ha, hN, hV, h8, hl, L, hp, q⟩ := h
    refine ⟨_, (pss_cons (ps_fld (pv 0) (pv 1) rfl)
      (pss_cons (ps_fld (pv 0) (pv 3) rfl)
      (pss_cons (ps_fld (pv 0) pe_dnewK rfl)
      (pss_cons (ps_fld (pv 0) (pe_lst pa_nil) rfl)
      (pss_cons (ps_fld (pv 0) (pe_lst pa_nil) rfl)
      (pss_one (ps_expr (pe_meth (pv 0) F.c M_run_period.m (G_run_period) (hr.mono (by decide)) M_run_period.b .nil pass0 (pa_cons (pe_meth (pv 0) F.c M_run_before.m (G_run_before) (hr.mono (by decide)) M_run_before.b .nil pass0 (pa_cons (pv 2) pa_nil)) pa_nil))))))))), ?_⟩
    walk_at "run"
    refine x_setF ha F.c F.network (by simp) fun H1 e1 n1 h1 => ?_
    have t1 := tx_ins ha e1
    walk_at "run"
    refine x_setF h1 F.c F.period (by show 1 < 1000; decide) fun H2 e2 n2 h2 => ?_
    have t2 := tx_ins h1 e2
    walk_at "run"
    refine x_dnew fun Df H3 nD e3 hD => x_setF (e3 _ _ h2) F.c F.rows (by show 2 < 1000; decide) fun H4 e4 n4 h4 => ?_
    have hDa : Df ≠ a := (ne_of_none h2 nD).symm
    have t4 := (TX.of e3).trans (tx_ins (e3 _ _ h2) e4)
    walk_at "run"
    refine x_lst (by simp) fun La H5 nL e5 hL => x_setF (e5 _ _ h4) F.c F.lengths_at (by show 3 < 1000; decide) fun H6 e6 n6 h6 => ?_
    have hLa : La ≠ a := (ne_of_none h4 nL).symm
    have t6 := (TX.of e5).trans (tx_ins (e5 _ _ h4) e6)
    walk_at "run"
    refine x_lst (by simp) fun Ra H7 nR e7 hR => x_setF (e7 _ _ h6) F.c F.rows_at (by show 4 < 1000; decide) fun H8 e8 n8 h8' => ?_
    have hRa : Ra ≠ a := (ne_of_none h6 nR).symm
    have t8 := (TX.of e7).trans (tx_ins (e7 _ _ h6) e8)
    have tt := t1.trans (t2.trans (t4.trans (t6.trans t8)))
    rw [cy_fs] at h8'
    have D8 : H8 Df = some (.dK []) := e8 _ _ hDa (e7 _ _ (e6 _ _ hDa (e5 _ _ (e4 _ _ hDa hD))))
    have L8 : H8 La = some (.lst []) := e8 _ _ hLa (e7 _ _ (e6 _ _ hLa hL))
    have R8 : H8 Ra = some (.lst []) := e8 _ _ hRa hR
    have fin : ∀ x o, x ≠ a → H x = some o → H8 x = some o := fun x o hx h => e8 _ _ hx (e7 _ _ (e6 _ _ hx (e5 _ _ (e4 _ _ hx (e3 _ _ (e2 _ _ hx (e1 _ _ hx h)))))))
    have e2' : ∀ x o, x ≠ a → H x = some o → H2 x = some o := fun x o hx h => e2 _ _ hx (e1 _ _ hx h)
    have e4' : ∀ x o, x ≠ a → H x = some o → H4 x = some o := fun x o hx h => e4 _ _ hx (e3 _ _ (e2' _ _ hx h))
    have e6' : ∀ x o, x ≠ a → H x = some o → H6 x = some o := fun x o hx h => e6 _ _ hx (e5 _ _ (e4' _ _ hx h))
    have bk : ∀ (x : Addr) (G : Hp), x ≠ a → (∀ o, H x = some o → G x = some o) → G x = none → H x = none := fun x G hx k hn => by
      cases h : H x with
      | none => rfl
      | some o => rw [k o h] at hn; cases hn
    have fD := bk Df H2 hDa (fun o => e2' _ _ hDa) nD
    have fL := bk La H4 hLa (fun o => e4' _ _ hLa) nL
    have fR := bk Ra H6 hRa (fun o => e6' _ _ hRa) nR
    have neLR : La ≠ Ra := ne_of_none (e6 _ _ hLa hL) nR
    walk_at "run"
    refine x_meth h8' (by rw [← cy_run_period (M := ⟨a, dx, v, Df, La, Ra⟩) (per := per)]; rfl) ?_
    refine x_meth h8' (by rw [← cy_run_before (M := ⟨a, dx, v, Df, La, Ra⟩) (per := per)]; rfl) ?_
    refine ⟨⟨a, dx, v, Df, La, Ra⟩, N, per, ls, la, rfl, h8', NetAt.tx tt hN, hV, h8, hl.tx tt, L, hp, fun H9 Qa e9 nQ hQ => ?_⟩
    have sub : ∀ x, x ≠ Qa → x = a ∨ H x = none → (if x = a then none else H x) = none ∧ x ≠ Qa := fun x hx h => ⟨by
      rcases h with rfl | h
      · rw [if_pos rfl]
      · split
        · rfl
        · exact h, hx⟩
    have neQ : ∀ x o, H8 x = some o → x ≠ Qa := fun x o h => ne_of_none h nQ
    have fQ : Qa ≠ a := (neQ _ _ h8').symm
    refine ⟨⟨a, dx, v, Df, La, Ra⟩, N, per, cyQ N per ls, Qa, (fun x => if x = a then none else H x), rfl, ?_, ?_, ?_, hQ, hV, h8, ?_, hp, fun H10 e10 W10 => ?_⟩
    · exact ⟨e9 _ _ h8', sub _ (neQ _ _ h8') (.inl rfl), (NetAt.tx tt hN).ex e9, ⟨fun _ => none, [], ⟨e9 _ _ D8, sub _ (neQ _ _ D8) (.inr fD), fun _ => rfl, (fun _ _ h => by cases h), (fun _ _ h => by cases h), fun _ _ => rfl, (fun _ _ _ h => by cases h), List.nodup_nil, Nat.le_refl _, fun _ => Nat.le_refl _⟩, fun _ _ h => by cases h⟩,
        RawL.nil (e9 _ _ L8), sub _ (neQ _ _ L8) (.inr fL), ⟨⟨[], e9 _ _ R8, rfl, fun _ _ _ h => by simp at h⟩, sub _ (neQ _ _ R8) (.inr fR)⟩, neLR⟩
    · intro x o h
      have h : (if x = a then none else H x) = some o := h
      split at h
      · cases h
      · rename_i hx
        exact e9 _ _ (fin _ _ hx h)
    · show (if Qa = a then none else H Qa) = none
      rw [if_neg fQ]
      exact bk Qa H8 fQ (fun o => fin _ _ fQ) nQ
    · exact runI_short hV h8 (zeros_short L) _
    · refine q H10 ⟨a, dx, v, Df, La, Ra⟩ rfl (fun x o hx h => e10 _ _ (by show (if x = a then none else H x) = some o; rw [if_neg hx]; exact h)) (W10.mono fun x o _ f => ?_)
      have f1 : (if x = a then none else H x) = none := f.1
      by_cases hx : x = a
      · exact .inl hx
      · rw [if_neg hx] at f1
        exact .inr f1
end
end K
set_option maxHeartbeats 4000000
/-! min(t) of a tuple of ints. -/
namespace FB
open PySem PySem.Spec PyProof.Rows L2 Evl
section
variable {prog : Program} {w : World} {A : Around} {s : Shared} {E : Value → Shared → Prop} {l : Addr} {its : List Value} {ns : List Int}
theorem min_intTup {Q : Value → Shared → Prop} {xs : Array (Int × Tok)} (hh : A.handled = none) (hl : s.heap.IsTuple l (intItems xs)) (hne : 0 < xs.size)
    (h : ∀ v h' tk, (intItems xs)[argBest (fun i j => decide (numAt xs i < numAt xs j)) (xs.size - 1)]? = some v → (∀ b o, s.heap.get? b = some o → h'.get? b = some o) → Q v { s with heap := h', toks := tk }) :
    wpAny (model prog w) A (call (.builtin "min") [.ref l]) Q E s := by
  have hlt : l < s.heap.objs.size := by obtain ⟨o, ho, _⟩ := hl; exact Heap.lt_size ho
  refine call_min_walk (wpAny_pyIter_tuple hl ?_)
  refine ⟨_, [_, l], [_], _, _, _, _, rfl, Walks.tuple (A := A.in1) hh _ l (Nat.ne_of_lt hlt) (intItems xs),
    ⟨⟨_, Heap.get?_push_size _ rfl, rfl, rfl⟩, hl.push _⟩, fun c hc => ?_, by simpa [intItems] using hne, CmpOf.ints_lt (numAt xs) (fun _ _ => intItems_at), fun v h' tk hP hk => ?_⟩
  · show c < (s.heap.push _).objs.size
    rw [Heap.size_push]
    rcases List.mem_cons.mp hc with rfl | hc
    · exact Nat.lt_succ_self _
    · rcases List.mem_cons.mp hc with rfl | hc
      · exact Nat.lt_succ_of_lt hlt
      · cases hc
  · refine h v h' tk (by simpa [intItems] using hP) fun c o e => ?_
    refine hk c o (fun hm => ?_) (Heap.get?_push_of_some _ e)
    rcases List.mem_cons.mp hm with e1 | hm
    · have := Heap.lt_size e; rw [e1] at this; exact Nat.lt_irrefl _ this
    · cases hm
theorem min_rawT {Q : Value → Shared → Prop} (hh : A.handled = none) (hl : s.heap.IsTuple l its.toArray) (hi : IntsAre its ns) (hne : 0 < ns.length)
    (h : ∀ h' tk M t', (∀ b o, s.heap.get? b = some o → h'.get? b = some o) → M ∈ ns → (∀ a, a ∈ ns → M ≤ a) → Q (.int M t') { s with heap := h', toks := tk }) : wpAny (model prog w) A (call (.builtin "min") [.ref l]) Q E s := by
  obtain ⟨xs, e⟩ := hi.allInts.items
  have hn : numsOf (intItems xs).toList = ns := by rw [← e]; exact hi.numsOf
  rw [nums_intItems] at hn
  subst hn
  rw [e] at hl
  have hsz : 0 < xs.size := by simpa using hne
  refine min_intTup hh hl hsz fun v h' tk hv hk => ?_
  obtain ⟨t, rfl⟩ := intItems_at hv
  obtain ⟨h1, h2⟩ := argBest_lt (numAt xs) (xs.size - 1)
  refine h h' tk _ t hk ?_ fun a ha => ?_
  · rw [numAt_eq]; exact PySem.getD_mem (by rw [List.length_map, Array.length_toList]; omega)
  · obtain ⟨j, hj, rfl⟩ := mem_getD ha
    rw [List.length_map, Array.length_toList] at hj
    rw [← numAt_eq]; exact h2 j (by omega)
end
def rMinT (K : PySem.W.Frag) : List V → Hp → VK → Prop := fun vs H Q => ∃ (a : Addr) (ns : List Int), vs = [V.ref a] ∧ SqT K H a (ns.map V.int) ∧ 0 < ns.length ∧ ∀ m, m ∈ ns → (∀ y, y ∈ ns → m ≤ y) → Q (.int m) H
theorem cr_minT {X : Cx} {K : PySem.W.Frag} (hc : X.calm = true) (hK : X.K = K := by rfl) : CallR X (.builtin "min") (rMinT K) := by
  subst hK
  intro pins s σ H vs us Q I r h
  obtain ⟨a, ns, rfl, hs, hne, q⟩ := h
  obtain ⟨its, rv, ⟨o, ho, hc2, n, hd⟩, _⟩ := I.tuple hs
  rw [Vals.ref1 r]
  exact min_rawT (I.ok.hd hc) ⟨o, ho, hc2, n, hd⟩ rv.ints hne fun h' tk m t' hk h1 h2 => ⟨.int _, H, I.kept hk, ⟨_, rfl⟩, q m h1 h2⟩
theorem x_min1 {K : PySem.W.Frag} {H : Hp} {Q : VK} {a : Addr} {i : Int} (h : SqT K H a [.int i]) (q : Q (.int i) H) : rMinT K [.ref a] H Q :=
  ⟨a, [i], rfl, h, by simp, fun m hm _ => by rw [List.mem_singleton.mp hm]; exact q⟩
end FB
/-! [e for a in xs for b in ys]; a tuple made of two, as it is made. -/
namespace FB
open PySem PySem.Spec PyProof.Rows L2 Evl
/-- the inner source's turns -/
def In2L (J1 : It) (g1 : TG) (tt1 : TT) (te : TE) (vs1 : List Nat) (σ2 : L2.St) (D : Addr) (Nx : Hp → Prop) (H4 : Hp) : Prop := ∃ W1 : Nat → Nat → Hp → Prop, (∃ m, W1 0 m H4) ∧ ∀ j k H, W1 j k H →
  (J1.stop j H ∧ Nx H) ∨ (J1.go j H ∧ ∃ Nx1 : Hp → Prop, (∀ H', Nx1 H' → ∃ k', k' < k ∧ W1 (j + 1) k' H') ∧ ∀ x H', J1.yld j H x H' → g1 x (wipe σ2 vs1) H' fun σ3 H5 => wipe σ3 vs1 = wipe σ2 vs1 ∧ tt1 σ3 H5 fun b H6 =>
    if b = true then te σ3 H6 fun y H7 => ∃ acc, H7 D = some (.lst acc) ∧ acc.length < sizeLine ∧ Nx1 (upd H7 D (.lst (acc ++ [y]))) else Nx1 H6)
def Lc2L (J : It) (g : TG) (tt : TT) (wi1 : TI) (g1 : TG) (tt1 : TT) (te : TE) (vs vs1 : List Nat) (σ : L2.St) (H1 : Hp) (Q : VK) : Prop := ∀ D, H1 D = none → ∃ W : Nat → Nat → Hp → Prop, (∃ m, W 0 m (upd H1 D (.lst []))) ∧ ∀ i m H, W i m H →
  (J.stop i H ∧ Q (.ref D) H) ∨ (J.go i H ∧ ∃ Nx : Hp → Prop, (∀ H', Nx H' → ∃ m', m' < m ∧ W (i + 1) m' H') ∧ ∀ x H', J.yld i H x H' → g x (wipe σ vs) H' fun σ2 H2 => wipe σ2 vs = wipe σ vs ∧ tt σ2 H2 fun b H3 =>
    if b = true then wi1 σ2 H3 fun J1 H4 => In2L J1 g1 tt1 te vs1 σ2 D Nx H4 else Nx H3)
theorem x_tLc2 {wi wi1 : TI} {g g1 : TG} {tt tt1 : TT} {te : TE} {vs vs1 : List Nat} {σ : L2.St} {H : Hp} {Q : VK} : tLc2 wi g tt wi1 g1 tt1 te vs vs1 σ H Q = wi σ H fun J H1 => Lc2L J g tt wi1 g1 tt1 te vs vs1 σ H1 Q := rfl
theorem lcl2_it {J : It} {n : Nat} {G : Hp → Prop} {Y : Nat → Hp → V → Hp → Prop} {g g1 : TG} {tt tt1 : TT} {wi1 : TI} {te : TE} {vs vs1 : List Nat} {σ : L2.St} {H1 : Hp} {Q : VK} (w : Walk J n G Y) (Pv : Addr → Nat → Hp → Prop)
    (h0 : ∀ D H', H1 D = none → Ex H1 H' → H' D = some (.lst []) → Pv D 0 H') (hG : ∀ D i H, i ≤ n → Pv D i H → G H)
    (hs : ∀ D i x H H', H1 D = none → i < n → Pv D i H → Y i H x H' → g x (wipe σ vs) H' fun σ2 H2 => wipe σ2 vs = wipe σ vs ∧ tt σ2 H2 fun b H3 => if b = true then wi1 σ2 H3 fun J1 H4 => In2L J1 g1 tt1 te vs1 σ2 D (Pv D (i + 1)) H4 else Pv D (i + 1) H3)
    (hd : ∀ D H, H1 D = none → Pv D n H → Q (.ref D) H) : Lc2L J g tt wi1 g1 tt1 te vs vs1 σ H1 Q := fun D hD => by
  refine ⟨fun i m H => m = n - i ∧ i ≤ n ∧ Pv D i H, ⟨n, by simp, Nat.zero_le _, h0 D _ hD (Ex.new hD) upd_same⟩, ?_⟩
  rintro i m H ⟨rfl, hi, p⟩
  have q := hG D i H hi p
  by_cases hlt : i < n
  · exact .inr ⟨w.goes i H hlt q, Pv D (i + 1), fun H' p' => ⟨n - (i + 1), by omega, rfl, hlt, p'⟩, fun x H' y => hs D i x H H' hD hlt p (w.yields i H x H' hlt q y)⟩
  · have e : i = n := by omega
    subst e
    exact .inl ⟨w.stops H q, hd D H hD p⟩
theorem in2_it {J : It} {n : Nat} {G : Hp → Prop} {Y : Nat → Hp → V → Hp → Prop} {g : TG} {tt : TT} {te : TE} {vs : List Nat} {σ : L2.St} {H1 : Hp} {D : Addr} {Nx : Hp → Prop} (w : Walk J n G Y) (Pv : Nat → Hp → Prop)
    (h0 : Pv 0 H1) (hG : ∀ i H, i ≤ n → Pv i H → G H)
    (hs : ∀ i x H H', i < n → Pv i H → Y i H x H' → g x (wipe σ vs) H' fun σ2 H2 => wipe σ2 vs = wipe σ vs ∧ tt σ2 H2 fun b H3 => if b = true then te σ2 H3 (Push D (Pv (i + 1))) else Pv (i + 1) H3)
    (hd : ∀ H, Pv n H → Nx H) : In2L J g tt te vs σ D Nx H1 := by
  refine ⟨fun i m H => m = n - i ∧ i ≤ n ∧ Pv i H, ⟨n, by simp, Nat.zero_le _, h0⟩, ?_⟩
  rintro i m H ⟨rfl, hi, p⟩
  have q := hG i H hi p
  by_cases hlt : i < n
  · exact .inr ⟨w.goes i H hlt q, Pv (i + 1), fun H' p' => ⟨n - (i + 1), by omega, rfl, hlt, p'⟩, fun x H' y => hs i x H H' hlt p (w.yields i H x H' hlt q y)⟩
  · have e : i = n := by omega
    subst e
    exact .inl ⟨w.stops H q, hd H p⟩
section
variable {K : PySem.W.Frag} {H : Hp} {p q : Addr} {xs ys : List V} {Q : VK}
theorem x_catR (h1 : H p = some (.tup xs)) (h2 : H q = some (.tup ys)) (hl : xs.length + ys.length ≤ 1000000) (k : ∀ l H', Ex H H' → H' l = some (.tup (xs ++ ys)) → Q (.ref l) H') : rAddU K (.ref p) (.ref q) H Q := by
  refine .inr ⟨p, q, xs, ys, rfl, rfl, SqT.of h1, SqT.of h2, small hl, fun e => ?_, fun e e2 => ?_, fun e e2 l hl => ?_⟩
  · subst e; exact k q H (Ex.refl H) h2
  · subst e2; exact k p H (Ex.refl H) (by rw [List.append_nil]; exact h1)
  · exact k l _ (Ex.new hl) upd_same
end
end FB
set_option maxHeartbeats 1000000
namespace K
open PySem PySem.Spec PyProof.Rows L2 Evl FB
local macro_rules | `(tactic| walk_at "run") => `(tactic| try simp only [tSeq, tAsg, tVar, tC, gName, L2.start, List.map_cons, List.map_nil, List.cons_append, List.nil_append, List.length_cons, List.length_nil, List.replicate, List.getElem?_cons_zero, List.getElem?_cons_succ, Option.some.injEq, exists_eq_left', List.set_cons_zero, List.set_cons_succ, V.ref.injEq, tRet, x_tLst, x_tTup, tCons, tCB, tNil, tOp, x_addI, x_mulI, x_rI, x_rI0, x_ltI, x_leI, x_ltS, x_leS, x_eqI, x_neI, x_eqS, x_eqB, x_neB, x_isiI, x_isiS, x_int, x_max, x_min, cxOf, tIfS, tNext, tTest, V.bl.injEq, decide_eq_true_eq, gSub, tAnd, tOr, tNot, tB, tDrop, tBM, x_tFor, iRng1, iList, iTup, x_tLc, tYes, tCall, tIf, tAndV, tOrV, tNotV, tChain, List.append_nil, tUn, if_true, wipe, true_and, x_never, iU, x_itS, kV, Nat.reduceAdd, Nat.reduceSub, List.replicate_zero, x_rU, x_tMkO, iEnumT, x_tDc, x_tDGet, x_tDGet2, x_sDPut, x_tDSetd, x_tDNewK, x_iItems, x_iZip, x_tSAddK, x_tLockV, x_tTupRg, x_tRg2, tPar, tPar3, tBM0, tSl, tNoPart, tPart, x_tSetAdd, x_tDIn, x_iKeys, x_iZipX, x_iZip3, iRevR, tRg1, x_tFld, x_tMeth, x_sFld, x_tMake, tAug, x_ipI, x_tDNotIn, iRng2, tAugS, tBMZ, tTupZ])
/-! list_lengths -/
def stepC (s : List Key) (cs : List (List Int)) : List (List Int) := cs.flatMap fun l => (List.range s.length).map fun (i : Nat) => l ++ [(i : Int)]
def candA : List (List Int) → Net → List (List Int)
  | cs, [] => cs
  | cs, s :: N => candA (stepC s cs) N
/-- all candidates, ascending -/
def candN (N : Net) : List (List Int) := candA [[]] N
theorem stepC_len {s : List Key} : ∀ {cs : List (List Int)}, (stepC s cs).length = cs.length * s.length
  | [] => by simp [stepC]
  | c :: cs => by
    have := stepC_len (s := s) (cs := cs)
    unfold stepC at *
    rw [List.flatMap_cons, List.length_append, this, List.length_cons, List.length_map, List.length_range, Nat.succ_mul]
    omega
theorem candA_le : ∀ {N : Net} {cs : List (List Int)}, (∀ s ∈ N, 1 ≤ s.length) → cs.length ≤ (candA cs N).length
  | [], _, _ => Nat.le_refl _
  | s :: N, cs, h => by
    refine Nat.le_trans ?_ (candA_le (N := N) (cs := stepC s cs) fun t ht => h t (List.mem_cons_of_mem _ ht))
    rw [stepC_len]
    exact Nat.le_mul_of_pos_right _ (h s (List.mem_cons_self ..))
theorem candA_snoc {s : List Key} : ∀ {N : Net} {cs : List (List Int)}, candA cs (N ++ [s]) = stepC s (candA cs N)
  | [], _ => rfl
  | _ :: N, _ => candA_snoc (N := N)
theorem candA_app {M : Net} : ∀ {N : Net} {cs : List (List Int)}, candA cs (N ++ M) = candA (candA cs N) M
  | [], _ => rfl
  | _ :: N, _ => candA_app (N := N)
theorem cand_pre {N : Net} {i : Nat} (h : ∀ s ∈ N, 1 ≤ s.length) : (candN (N.take i)).length ≤ (candN N).length := by
  have e : candN N = candA (candN (N.take i)) (N.drop i) := by
    unfold candN
    rw [← candA_app, List.take_append_drop]
  rw [e]
  exact candA_le fun s hs => h s (List.mem_of_mem_drop hs)
theorem candA_mem : ∀ {N : Net} {cs : List (List Int)} {l : List Int} {M : Net}, (∀ l ∈ cs, Lens M l) → l ∈ candA cs N → Lens (M ++ N) l
  | [], cs, l, M, h, hl => by rw [List.append_nil]; exact h l hl
  | s :: N, cs, l, M, h, hl => by
    have := candA_mem (N := N) (cs := stepC s cs) (M := M ++ [s]) (fun l hl => ?_) hl
    · rw [List.append_assoc] at this
      exact this
    · unfold stepC at hl
      rw [List.mem_flatMap] at hl
      obtain ⟨l0, h0, hl⟩ := hl
      rw [List.mem_map] at hl
      obtain ⟨i, hi, rfl⟩ := hl
      rw [List.mem_range] at hi
      have L := h l0 h0
      have key : ∀ k, k < (M ++ [s]).length → (k < M.length ∧ (l0 ++ [(i : Int)]).getD k 0 = l0.getD k 0 ∧ (M ++ [s]).getD k [] = M.getD k []) ∨ (k = M.length ∧ (l0 ++ [(i : Int)]).getD k 0 = (i : Int) ∧ (M ++ [s]).getD k [] = s) := fun k hk => by
        rw [List.length_append, List.length_singleton] at hk
        rcases Nat.lt_or_ge k M.length with g | g
        · refine .inl ⟨g, ?_, ?_⟩
          · simp [List.getD_eq_getElem?_getD, List.getElem?_append_left (show k < l0.length by rw [L.len]; exact g)]
          · simp [List.getD_eq_getElem?_getD, List.getElem?_append_left g]
        · have e : k = M.length := by omega
          subst e
          refine .inr ⟨rfl, ?_, ?_⟩
          · rw [← L.len]; simp [List.getD_eq_getElem?_getD]
          · simp [List.getD_eq_getElem?_getD]
      refine ⟨by simp [L.len], fun k hk => ?_, fun k hk => ?_⟩
      · rcases key k hk with ⟨g, e, _⟩ | ⟨_, e, _⟩
        · rw [e]; exact L.nn k g
        · rw [e]; omega
      · rcases key k hk with ⟨g, e, e2⟩ | ⟨_, e, e2⟩
        · rw [e, e2]; exact L.lt k g
        · rw [e, e2]; omega
theorem cand_lens {N : Net} {l : List Int} (h : l ∈ candN N) : Lens N l := candA_mem (M := []) (fun l hl => by
  rw [List.mem_singleton.mp hl]
  exact ⟨rfl, (fun k hk => absurd hk (Nat.not_lt_zero k)), (fun k hk => absurd hk (Nat.not_lt_zero k))⟩) h
section
variable {P : Program} {w : World} {K : PySem.W.Frag} {mg : Str → Option Value} {base : Heap}
abbrev s_list_lengths : Stmt := top 49
theorem sc_list_lengths : FnScope ["network", "candidates", "seats", "lengths", "length"] ["network"] (defScope s_list_lengths) := ⟨rfl, rfl, rfl, by decide +kernel, rfl, by decide +kernel, by decide +kernel⟩
def spLLs (K : PySem.W.Frag) : Sp := fun vs H Q _ => ∃ (v : V) (N : Net), vs = [v] ∧ NetAt K H v N ∧ ValidN N ∧ (candN N).length ≤ 1000 ∧ ∀ H' l, Ex H H' → H l = none → RawL H' l (candN N) → Q (.ref l) H'
theorem ok_list_lengths {f : Addr} {fd : FuncData} (D : Df K mg "list_lengths" s_list_lengths ["network"] f fd) (T : Bt mg) (g_MC0 : ∃ t, mg "MAX_CANDIDATES" = some (.int 1000 t)) : FnOk P w K mg base CX0 1 f fd ["network"] (spLLs K) := by
  refine D.F.ok sc_list_lengths (fun vs H Q E h => ?_) (fun cdv A outer s H vs Q E hr h => ?_)
  · obtain ⟨v, N, rfl, _⟩ := h
    rfl
  · obtain ⟨v, N, rfl, hN, hV, hc, q⟩ := h
    obtain ⟨tM, g_MC⟩ := g_MC0
    refine ⟨_, (pss_cons (ps_set (i := 1) sc_list_lengths.nd rfl (Or.inl rfl) (pe_lst (pa_cons (pe_tup pa_nil) pa_nil)))
      (pss_cons (ps_for PassesOwn.never rfl (pi_U (K := K) (pv 0)) (pg_name (i := 2) sc_list_lengths.nd rfl (Or.inr rfl)) (pss_cons (ps_setLc2 (i := 1) (own := [("lengths", 3), ("length", 4)]) (vs1 := [4]) (g := gName 3) (g1 := gName 4) (tt := tYes) (tt1 := tYes) rfl sc_list_lengths.nd rfl rfl (sw_true rfl rfl rfl (by decide +kernel)) (pi_U (K := K) (pv 1)) (blkOk_by (own := [("lengths", 3), ("length", 4)]) (N := ["network", "candidates", "seats", "lengths", "length"]) (sc := defScope s_list_lengths) (by decide +kernel)) (by decide) (fun _ _ _ _ _ => (pg_name (i := 3) sc_list_lengths.nd rfl (Or.inl rfl))) (fun _ _ _ _ _ => pts_nil) (fun _ _ _ _ _ => (pi_range1 (by rfl) T.b_range (pa_cons (pe_callB (call_lenU (K := K)) (by rfl) T.b_len (by decide +kernel) (pa_cons (pv 2) pa_nil)) pa_nil))) (fun _ _ _ _ _ => (pg_name (i := 4) sc_list_lengths.nd rfl (Or.inl rfl))) (fun _ _ _ _ _ => pts_nil) (fun _ _ _ _ _ => (pe_op (op_addU (K := K)) (pv 3) (pe_tup (pa_cons (pv 4) pa_nil)))))
        (pss_one (ps_if (pt_cmpR (op_gtU) (pe_callB (call_lenU (K := K)) (by rfl) T.b_len (by decide +kernel) (pa_cons (pv 1) pa_nil)) (pe_glob (v := .int 1000) rfl g_MC ⟨_, rfl⟩) (nomark _)) pss_never pss_nil))))
      (pss_one (ps_ret (pv 1))))), ?_⟩
    walk_at "run"
    have hNs : ∀ s ∈ N, 1 ≤ s.length ∧ s.length ≤ 8 := fun s hs => hV.cnt.st s hs
    refine x_tup (by simp) fun t0 H1 nt0 e1 ht0 => x_lst (by simp) fun c0 H2 nc0 e2 hc0 => ?_
    obtain ⟨Na, Nt, rfl, hNT, hNd⟩ := NetAt.at hN
    have hNl : Nt.length = N.length := by rw [hNd.len, List.length_map]
    have e02 := e1.trans e2
    refine x_itT (ex_t e02 hNT) (loop_it walk_tup (fun i σ H' => ∃ c u2, σ = [some (V.ref Na), some (V.ref c), u2, none, none] ∧ Ex H H' ∧ H c = none ∧ RawL H' c (candN (N.take i))) ⟨_, _, rfl, e02, fresh_back e1 nc0, ⟨⟨[t0], hc0, rfl, fun i b l g1 g2 => ?_⟩⟩⟩ (fun i σ H' _ ⟨_, _, _, e, _⟩ => ex_t e hNT) ?_ ?_)
    · cases i with
      | zero =>
        have g1 : t0 = b := by simpa using g1
        have g2 : [] = l := by simpa [candN, candA] using g2
        subst g1 g2
        exact e2 _ _ ht0
      | succ i => simp at g1
    · rintro i x σ H0 H3 hi ⟨c, u2, rfl, e3, fc, W⟩ ⟨eH, hx⟩
      subst eH
      obtain ⟨d, hd, hsd⟩ := hNd.get' hx
      obtain ⟨s, hs, rfl⟩ : ∃ s, N[i]? = some s ∧ stD s = d := by simpa using hd
      obtain ⟨sb, rfl, hsb⟩ := StAt.at (Dp.ex e3 hsd)
      have hs8 := hNs s (List.mem_of_getElem? hs)
      have hstep : candN (N.take (i + 1)) = stepC s (candN (N.take i)) := by
        rw [List.take_add_one, hs]
        exact candA_snoc
      have hle : (candN (N.take (i + 1))).length ≤ 1000 := Nat.le_trans (cand_pre fun s hs => (hNs s hs).1) hc
      have hle0 : (candN (N.take i)).length ≤ 1000 := Nat.le_trans (cand_pre fun s hs => (hNs s hs).1) hc
      have hlm : ∀ l ∈ candN (N.take i), l.length ≤ 40 := fun l hl => by
        rw [(cand_lens hl).len, List.length_take]
        have := hV.le
        omega
      rw [hstep] at hle ⊢
      generalize candN (N.take i) = cs at W hle hle0 hlm
      walk_at "run"
      rw [x_tLc2]
      obtain ⟨bs, w1, w2, w3⟩ := W.ex
      walk_at "run"
      refine x_itL (SqL.of w1) (lcl2_it walk_list (fun D k H' => Ex H3 H' ∧ RawL H' D (stepC s (cs.take k))) (fun D H' hD e h => ⟨e, RawL.nil h⟩) (fun D k H' _ h => SqL.of (h.1 _ _ w1)) ?_ ?_)
      · rintro D k y H0 H4 hD hk ⟨e4, W4⟩ ⟨eH, hy⟩
        subst eH
        obtain ⟨b, hb, rfl⟩ : ∃ b, bs[k]? = some b ∧ V.ref b = y := by simpa using hy
        have hkl : k < cs.length := by rw [← w2]; exact (List.getElem?_eq_some_iff.mp hb).1
        obtain ⟨l, hl⟩ : ∃ l, cs[k]? = some l := ⟨_, List.getElem?_eq_getElem hkl⟩
        have hbl := w3 k b l hb hl
        have hcs : stepC s (cs.take (k + 1)) = stepC s (cs.take k) ++ (List.range s.length).map fun (j : Nat) => l ++ [(j : Int)] := by
          rw [List.take_add_one, hl]
          unfold stepC
          rw [List.flatMap_append]
          simp
        rw [hcs]
        have hpl : (stepC s (cs.take k)).length ≤ 8000 := by
          rw [stepC_len, List.length_take]
          have : min k cs.length * s.length ≤ 1000 * 8 := Nat.mul_le_mul (by omega) hs8.2
          omega
        generalize stepC s (cs.take k) = as at W4 hpl
        walk_at "run"
        refine x_lenT (ex_t e4 hsb) ?_
        rw [List.length_map]
        refine ⟨((s.length : Nat) : Int), rfl, by omega, by omega, ?_⟩
        rw [Int.toNat_natCast]
        have hll := hlm l (List.mem_of_getElem? hl)
        refine in2_it walk_range (fun j H' => Ex H3 H' ∧ RawL H' D (as ++ (List.range j).map fun (j : Nat) => l ++ [(j : Int)])) ⟨e4, by simpa using W4⟩ (fun _ _ _ _ => trivial) ?_ ?_
        · rintro j z H0 H5 hj ⟨e5, W5⟩ ⟨eH, hz⟩
          subst eH
          have hz : z = V.int (j : Int) := by rw [hz]; show V.int (0 + (j : Int)) = _; rw [Int.zero_add]
          subst hz
          walk_at "run"
          refine x_tup (by simp) fun t H6 nt e6 ht => ?_
          have e36 := e5.trans e6
          refine x_catR (show H6 b = some (.tup (l.map V.int)) from e36 _ _ hbl) ht (by rw [List.length_map, List.length_singleton]; omega) fun t2 H7 e7 ht2 => ?_
          obtain ⟨xs, x1, x2⟩ := W5.lst
          have e57 := e6.trans e7
          refine x_push (e57 _ _ x1) (by rw [x2, List.length_append, List.length_map, List.length_range]; omega) fun H8 e8 h8 => ⟨fun o u h => e8 _ _ (ne_of_none h hD) (e57 _ _ (e5 _ _ h)), ?_⟩
          rw [List.range_succ, List.map_append, ← List.append_assoc]
          have t78 : TX H7 H8 := TX.but (e57 _ _ x1) e8
          exact (W5.ex2 e57).snoc (e57 _ _ x1) t78 h8 (RawT.tx (by show H7 t2 = _; rw [ht2, List.map_append]; rfl) t78)
        · rintro H5 ⟨e5, W5⟩
          exact ⟨e5, W5⟩
      · rintro D H4 hD ⟨e4, W4⟩
        have W4 : RawL H4 D (stepC s cs) := by
          have e : cs.take (bs.map V.ref).length = cs := by rw [List.length_map, w2, List.take_length]
          rw [e] at W4
          exact W4
        obtain ⟨xs, x1, x2⟩ := W4.lst
        walk_at "run"
        refine x_lenL (SqL.of x1) ?_
        walk_at "run"
        rw [if_neg (by simp [x2]; omega)]
        exact ⟨_, _, rfl, e3.trans e4, fresh_back e3 hD, W4⟩
    · rintro σ H3 ⟨c, u2, rfl, e3, fc, W⟩
      walk_at "run"
      rw [hNl, List.take_length] at W
      exact q H3 c e3 fc W
end
/-! find_phases -/
theorem map_key (l : List Int) : (l.map (Sum.inl : Int → Key)).map kV = l.map V.int := by
  induction l with
  | nil => rfl
  | cons i r ih => rw [List.map_cons, List.map_cons, ih]; rfl
section
variable {K : PySem.W.Frag} {H H' : Hp} {a b : Addr} {l : List Int} {kvs : List (List Key × V)} {v : V} {Q : VK}
theorem RawT.key (h : RawT H b l) : H b = some (.tup ((l.map (Sum.inl : Int → Key)).map kV)) := by rw [map_key]; exact h
theorem x_dNotInT (h : H a = some (.dT kvs)) (hb : RawT H b l) (q : Q (.bl (!(valV kvs (l.map Sum.inl)).isSome)) H) : rDNotIn (.ref b) (.ref a) H Q := ⟨a, _, rfl, .inr ⟨kvs, _, b, .inl h, rfl, hb.key, rfl⟩, q⟩
theorem x_dgetT (h : H a = some (.dT kvs)) (hb : RawT H b l) (e : valV kvs (l.map Sum.inl) = some v) (q : Q v H) : rDGet (.ref a) (.ref b) H Q := ⟨a, v, rfl, .inr ⟨kvs, _, b, .inl h, rfl, hb.key, e.symm⟩, q⟩
theorem x_dputT {N : Hp → Prop} (h : H a = some (.dT kvs)) (hb : RawT H b l) (hl : kvs.length < 1000000) (q : ∀ H1, (∀ x o, x ≠ a → H x = some o → H1 x = some o) → H1 a = some (.dT (putK kvs (l.map Sum.inl) v)) → N H1) : rDPut (.ref a) (.ref b) v H N :=
  ⟨a, _, rfl, .inr ⟨kvs, _, b, h, rfl, hb.key, by rw [sizeLine_eq]; omega, rfl⟩, q _ (fun x o hx e => by rw [upd_ne hx]; exact e) upd_same⟩
end
theorem inl_inj : ∀ {a b : List Int}, a.map (Sum.inl : Int → Key) = b.map Sum.inl → a = b
  | [], [], _ => rfl
  | [], _ :: _, h => by simp at h
  | _ :: _, [], h => by simp at h
  | x :: a, y :: b, h => by
    rw [List.map_cons, List.map_cons, List.cons.injEq] at h
    rw [Sum.inl.inj h.1, inl_inj h.2]
abbrev PhF := List Int → Option (CyS × Nat)
def phPut (F : PhF) (l : List Int) (S : CyS) (ph : Nat) : PhF := fun x => if x = l then some (S, ph) else F x
/-- the phases of a cycle, the first n of them -/
def phCy (F : PhF) (S : CyS) : Nat → PhF
  | 0 => F
  | n + 1 => phPut (phCy F S n) (S.L.getD n []) S n
def phStep (N : Net) (per : Nat) (F : PhF) (c : List Int) : PhF := if (F c).isSome then F else phCy F (cyOf N per c) per
def phF (N : Net) (per : Nat) : PhF → List (List Int) → PhF
  | F, [] => F
  | F, c :: cs => phF N per (phStep N per F c) cs
theorem phF_snoc {N : Net} {per : Nat} {c : List Int} : ∀ {cs : List (List Int)} {F : PhF}, phF N per F (cs ++ [c]) = phStep N per (phF N per F cs) c
  | [], _ => rfl
  | _ :: cs, _ => phF_snoc (cs := cs)
/-- a dict of phases, made by at most n puts -/
structure PhAt (K : PySem.W.Frag) (C : Addr) (H : Hp) (Fp : Addr → Prop) (N : Net) (per : Nat) (d : Addr) (F : PhF) (n : Nat) : Prop where
  ex : ∃ kvs : List (List Key × V), H d = some (.dT kvs) ∧ kvs.length ≤ n ∧ ∀ l : List Int, match F l with
    | none => valV kvs (l.map Sum.inl) = none
    | some (S, ph) => ∃ t M, valV kvs (l.map Sum.inl) = some (.ref t) ∧ H t = some (.tup [.ref M.a, .int (ph : Int)]) ∧ CyT K C H Fp N per S M (1040 * per)
  fd : Fp d
section
variable {K : PySem.W.Frag} {C : Addr} {H H' : Hp} {Fp Fp' : Addr → Prop} {N : Net} {per n : Nat} {d : Addr} {F : PhF}
theorem PhAt.keep (W : PhAt K C H Fp N per d F n) (e : ∀ x o, Fp x → H x = some o → H' x = some o) (t : TX H H') : PhAt K C H' Fp N per d F n := by
  obtain ⟨kvs, h1, h2, h3⟩ := W.ex
  refine ⟨⟨kvs, e _ _ W.fd h1, h2, fun l => ?_⟩, W.fd⟩
  have := h3 l
  cases hF : F l with
  | none => rw [hF] at this; exact this
  | some p =>
    rw [hF] at this
    obtain ⟨t0, M, a1, a2, a3⟩ := this
    exact ⟨t0, M, a1, t _ _ a2 trivial, a3.keep e t⟩
theorem PhAt.mono (W : PhAt K C H Fp N per d F n) (m : ∀ x o, H x = some o → Fp x → Fp' x) : PhAt K C H Fp' N per d F n := by
  obtain ⟨kvs, h1, h2, h3⟩ := W.ex
  refine ⟨⟨kvs, h1, h2, fun l => ?_⟩, m _ _ h1 W.fd⟩
  have := h3 l
  cases hF : F l with
  | none => rw [hF] at this; exact this
  | some p =>
    rw [hF] at this
    obtain ⟨t0, M, a1, a2, a3⟩ := this
    exact ⟨t0, M, a1, a2, a3.mono m⟩
theorem CyT.butT {S : CyS} {M : Cy} {c : Nat} {ks : List (List Key × V)} (W : CyT K C H Fp N per S M c) (h1 : H d = some (.dT ks)) (e : ∀ x o, x ≠ d → H x = some o → H' x = some o) : CyT K C H' Fp N per S M c := by
  have tx : TX H H' := fun x o hx c => e x o (fun z => by rw [z, h1] at hx; cases hx; cases c) hx
  have W2 : CyT K C H (fun x => Fp x ∧ x ≠ d) N per S M c := by
    obtain ⟨A, kvs, g1, g2⟩ := W.rw_
    obtain ⟨ts, g, _⟩ := W.la.lst
    obtain ⟨rs, r1, r2, r3⟩ := W.ra.ex
    exact ⟨W.ins, ⟨W.fa, fun z => by have := W.ins; rw [z, h1] at this; cases this⟩, W.net, ⟨A, kvs, ⟨g1.d, ⟨g1.fd, fun z => by have := g1.d; rw [z, h1] at this; cases this⟩, g1.val, g1.ls, fun k b hb => ⟨g1.fl k b hb, fun z => by
      obtain ⟨ts, q, _⟩ := (g1.ls k b hb).ex
      rw [z, h1] at q; cases q⟩, g1.no, g1.inj, g1.nd, g1.len, g1.tot⟩, g2⟩, W.la, ⟨W.fl, fun z => by rw [z, h1] at g; cases g⟩, ⟨⟨rs, r1, r2, fun i r c hr hc => by
      obtain ⟨⟨k2, a1, a2⟩, a3, a4⟩ := r3 i r c hr hc
      exact ⟨⟨k2, a1, a2⟩, ⟨a3, fun z => by rw [z, h1] at a1; cases a1⟩, a4⟩⟩, W.ra.fr, fun z => by rw [z, h1] at r1; cases r1⟩, W.ne⟩
  exact (W2.keep (fun x o f h => e _ _ f.2 h) tx).mono fun x o _ f => f.1
/-- a phase is put -/
theorem PhAt.put {l : List Int} {S : CyS} {ph : Nat} {t : Addr} {M : Cy} {kvs : List (List Key × V)} (W : PhAt K C H Fp N per d F n) (hd : H d = some (.dT kvs)) (e : ∀ x o, x ≠ d → H x = some o → H' x = some o) (h : H' d = some (.dT (putK kvs (l.map Sum.inl) (.ref t)))) (ht : H t = some (.tup [.ref M.a, .int (ph : Int)])) (hM : CyT K C H Fp N per S M (1040 * per)) : PhAt K C H' Fp N per d (phPut F l S ph) (n + 1) := by
  obtain ⟨ks, h1, h2, h3⟩ := W.ex
  rw [h1] at hd
  obtain rfl : ks = kvs := by cases hd; rfl
  have tx : TX H H' := fun x o hx c => e x o (fun z => by rw [z, h1] at hx; cases hx; cases c) hx
  have nd : ∀ S M, CyT K C H Fp N per S M (1040 * per) → CyT K C H' Fp N per S M (1040 * per) := fun S M W => W.butT h1 e
  refine ⟨⟨_, h, Nat.le_trans ?_ (Nat.succ_le_succ h2), fun x => ?_⟩, W.fd⟩
  · unfold putK
    split <;> simp
  · unfold phPut
    by_cases g : x = l
    · subst g
      rw [if_pos rfl]
      exact ⟨t, M, by rw [valV_put, if_pos rfl], tx _ _ ht trivial, nd _ _ hM⟩
    · rw [if_neg g]
      have hv : valV (putK ks (l.map Sum.inl) (.ref t)) (x.map Sum.inl) = valV ks (x.map Sum.inl) := by rw [valV_put, if_neg fun z => g (inl_inj z)]
      have := h3 x
      cases hF : F x with
      | none => rw [hF] at this; show valV _ _ = none; rw [hv]; exact this
      | some p =>
        rw [hF] at this
        obtain ⟨t0, M0, a1, a2, a3⟩ := this
        exact ⟨t0, M0, by rw [hv]; exact a1, tx _ _ a2 trivial, nd _ _ a3⟩
end
end K
set_option maxHeartbeats 4000000
/-! Fractions in lowest terms. -/
namespace FB
open PySem PySem.Spec PyProof.Rows L2 Evl
section
variable {n : Int} {m : Nat}
theorem low_num (hm : m ≠ 0) : n / ((Nat.gcd n.natAbs m : Nat) : Int) = (mkRat n m).num := by
  rw [← Rat.normalize_eq_mkRat hm, Rat.normalize_eq]
theorem low_den (hm : m ≠ 0) : (m : Int) / ((Nat.gcd n.natAbs m : Nat) : Int) = ((mkRat n m).den : Int) := by
  rw [← Rat.normalize_eq_mkRat hm, Rat.normalize_eq]
  exact (Int.natCast_ediv _ _).symm
theorem low_pos (hm : m ≠ 0) : 0 < ((Nat.gcd n.natAbs m : Nat) : Int) := by
  have := Nat.gcd_pos_of_pos_right n.natAbs (Nat.pos_of_ne_zero hm)
  omega
theorem low_le (hm : m ≠ 0) : Nat.gcd n.natAbs m ≤ m := Nat.gcd_le_right _ (Nat.pos_of_ne_zero hm)
end
theorem rat_add (a b : Rat) : mkRat (a.num * b.den + b.num * a.den) (a.den * b.den) = a + b := by
  rw [Rat.add_def, Rat.normalize_eq_mkRat]
theorem rat_of (a : Rat) : a = (a.num : Rat) / ((a.den : Nat) : Rat) := by
  rw [← Rat.mkRat_eq_div]
  exact (Rat.mkRat_self a).symm
theorem den_ne (a : Rat) : ((a.den : Nat) : Rat) ≠ 0 := by
  have := a.den_nz
  simpa using this
theorem rat_divN (a : Rat) {k : Nat} (hk : k ≠ 0) : mkRat a.num (a.den * k) = a / (k : Rat) := by
  rw [Rat.mkRat_eq_div]
  have h1 := rat_of a
  have h2 := den_ne a
  have h3 : ((k : Nat) : Rat) ≠ 0 := by simpa using hk
  have e : ((a.den * k : Nat) : Rat) = ((a.den : Nat) : Rat) * ((k : Nat) : Rat) := by simp
  rw [e]
  generalize ((a.den : Nat) : Rat) = d at *
  generalize (a.num : Rat) = x at *
  rw [h1]
  grind
/-- a whole number -/
def IsZ (q : Rat) : Prop := ∃ z : Int, q = (z : Rat)
theorem IsZ.int (z : Int) : IsZ (z : Rat) := ⟨z, rfl⟩
theorem IsZ.nat (z : Nat) : IsZ (z : Rat) := ⟨z, (Rat.intCast_natCast z).symm⟩
theorem IsZ.add {a b : Rat} (h : IsZ a) (k : IsZ b) : IsZ (a + b) := by
  obtain ⟨x, rfl⟩ := h
  obtain ⟨y, rfl⟩ := k
  exact ⟨x + y, by simp⟩
theorem IsZ.mul {a b : Rat} (h : IsZ a) (k : IsZ b) : IsZ (a * b) := by
  obtain ⟨x, rfl⟩ := h
  obtain ⟨y, rfl⟩ := k
  exact ⟨x * y, by simp⟩
theorem IsZ.zero : IsZ 0 := ⟨0, by simp⟩
theorem den_dvd {q : Rat} {d : Nat} (h : IsZ (q * (d : Rat))) : q.den ∣ d := by
  obtain ⟨z, hz⟩ := h
  have h2 := den_ne q
  have e : (q.num * (d : Int) : Int) = z * (q.den : Int) := by
    have h3 : ((q.num : Int) : Rat) * ((d : Nat) : Rat) = ((z : Int) : Rat) * ((q.den : Nat) : Rat) := by
      have h1 := rat_of q
      generalize ((q.den : Nat) : Rat) = e at *
      generalize ((q.num : Int) : Rat) = x at *
      rw [h1] at hz
      grind
    have h4 : (((q.num * (d : Int)) : Int) : Rat) = (((z * (q.den : Int)) : Int) : Rat) := by
      rw [Rat.intCast_mul, Rat.intCast_mul, Rat.intCast_natCast, Rat.intCast_natCast]
      exact h3
    exact Rat.intCast_inj.mp h4
  have h5 : (q.den : Int) ∣ q.num * (d : Int) := ⟨z, by rw [e, Int.mul_comm]⟩
  have h6 : q.den ∣ q.num.natAbs * d := by
    have := Int.natAbs_dvd_natAbs.mpr h5
    rwa [Int.natAbs_natCast, Int.natAbs_mul, Int.natAbs_natCast] at this
  exact (Nat.Coprime.symm q.reduced).dvd_of_dvd_mul_left h6
theorem isZ_den {q : Rat} {d : Nat} (h : q.den ∣ d) : IsZ (q * (d : Rat)) := by
  obtain ⟨k, rfl⟩ := h
  refine ⟨q.num * (k : Int), ?_⟩
  have h1 := rat_of q
  have h2 := den_ne q
  have e : ((q.den * k : Nat) : Rat) = ((q.den : Nat) : Rat) * ((k : Nat) : Rat) := by simp
  have e2 : ((q.num * (k : Int) : Int) : Rat) = (q.num : Rat) * ((k : Nat) : Rat) := by rw [Rat.intCast_mul, Rat.intCast_natCast]
  rw [e, e2]
  generalize ((q.den : Nat) : Rat) = e at *
  generalize ((q.num : Int) : Rat) = x at *
  rw [h1]
  grind
theorem num_nn {q : Rat} (h : 0 ≤ q) : 0 ≤ q.num := Rat.num_nonneg.mpr h
/-- a bound of the numerator from bounds of the value and the denominator -/
theorem num_le {q : Rat} {a d : Nat} (h0 : 0 ≤ q) (h1 : q ≤ (a : Rat)) (hd : q.den ≤ d) : q.num.natAbs ≤ a * d := by
  have h2 := den_ne q
  have h3 : (q.num : Rat) ≤ ((a : Nat) : Rat) * ((q.den : Nat) : Rat) := by
    have e := rat_of q
    have hp : (0 : Rat) < ((q.den : Nat) : Rat) := by
      have := Nat.pos_of_ne_zero q.den_nz
      exact Rat.natCast_pos.mpr this
    have : (q.num : Rat) = q * ((q.den : Nat) : Rat) := by
      generalize ((q.den : Nat) : Rat) = y at *
      generalize hx : ((q.num : Int) : Rat) = x at *
      rw [e]
      grind
    rw [this]
    exact Rat.mul_le_mul_of_nonneg_right h1 (Rat.le_of_lt hp)
  have h4 : q.num ≤ ((a * q.den : Nat) : Int) := by
    have : ((q.num : Int) : Rat) ≤ (((a * q.den : Nat) : Int) : Rat) := by rw [Rat.intCast_natCast, Rat.natCast_mul]; exact h3
    exact Rat.intCast_le_intCast.mp this
  have h5 := num_nn h0
  have h6 : a * q.den ≤ a * d := Nat.mul_le_mul_left _ hd
  omega
end FB
/-! How many of all passengers visit a station, board a boat, reach a port: fractions. -/
namespace FB
open PySem PySem.Spec PyProof.Rows L2 Evl
/-- what f gives for the seats that lead to q -/
def toR (f : Nat → Rat) (q : Key) : Seats → Rat
  | [] => 0
  | (i, p) :: r => (if p = q then f i else 0) + toR f q r
section
variable {f g : Nat → Rat} {q : Key}
theorem toR_append : ∀ {a b : Seats}, toR f q (a ++ b) = toR f q a + toR f q b
  | [], b => by show toR f q b = 0 + _; grind
  | (i, p) :: r, b => by
    show (if p = q then f i else 0) + toR f q (r ++ b) = (if p = q then f i else 0) + toR f q r + toR f q b
    rw [toR_append]; grind
theorem toR_snoc {a : Seats} {i : Nat} {p : Key} : toR f q (a ++ [(i, p)]) = toR f q a + (if p = q then f i else 0) := by
  rw [toR_append]
  show _ + ((if p = q then f i else 0) + 0) = _
  grind
theorem toR_congr : ∀ {a : Seats}, (∀ s ∈ a, s.2 = q → f s.1 = g s.1) → toR f q a = toR g q a
  | [], _ => rfl
  | (i, p) :: r, h => by
    show (if p = q then f i else 0) + toR f q r = (if p = q then g i else 0) + toR g q r
    rw [toR_congr fun s hs => h s (List.mem_cons_of_mem _ hs)]
    by_cases e : p = q
    · rw [if_pos e, if_pos e, h (i, p) (List.mem_cons_self ..) e]
    · rw [if_neg e, if_neg e]
theorem toR_nil : ∀ {a : Seats}, (∀ s ∈ a, s.2 ≠ q) → toR f q a = 0
  | [], _ => rfl
  | (i, p) :: r, h => by
    show (if p = q then f i else 0) + toR f q r = 0
    rw [if_neg (h (i, p) (List.mem_cons_self ..)), toR_nil fun s hs => h s (List.mem_cons_of_mem _ hs)]
    grind
theorem toR_nn (h : ∀ i, 0 ≤ f i) : ∀ {a : Seats}, 0 ≤ toR f q a
  | [] => by show (0 : Rat) ≤ 0; grind
  | (i, p) :: r => by
    show 0 ≤ (if p = q then f i else 0) + toR f q r
    have h1 := h i
    have h2 := toR_nn h (a := r)
    split <;> grind
theorem toR_pos (h : ∀ i, 0 ≤ f i) : ∀ {a : Seats}, 0 < toR f q a ↔ ∃ i, (i, q) ∈ a ∧ 0 < f i
  | [] => by
    constructor
    · intro z
      have z : (0 : Rat) < 0 := z
      grind
    · rintro ⟨i, hi, _⟩
      simp at hi
  | (i, p) :: r => by
    have ih := toR_pos h (a := r)
    have hn := toR_nn (q := q) h (a := r)
    have h1 := h i
    show 0 < (if p = q then f i else 0) + toR f q r ↔ _
    by_cases e : p = q
    · rw [if_pos e]
      constructor
      · intro z
        by_cases hz : 0 < f i
        · exact ⟨i, by rw [e]; exact List.mem_cons_self .., hz⟩
        · obtain ⟨j, hj, hp⟩ := ih.mp (by grind)
          exact ⟨j, List.mem_cons_of_mem _ hj, hp⟩
      · rintro ⟨j, hj, hp⟩
        rcases List.mem_cons.mp hj with z | z
        · cases z; grind
        · have := ih.mpr ⟨j, z, hp⟩
          grind
    · rw [if_neg e]
      constructor
      · intro z
        obtain ⟨j, hj, hp⟩ := ih.mp (by grind)
        exact ⟨j, List.mem_cons_of_mem _ hj, hp⟩
      · rintro ⟨j, hj, hp⟩
        rcases List.mem_cons.mp hj with z | z
        · cases z; exact absurd rfl e
        · have := ih.mpr ⟨j, z, hp⟩
          grind
theorem toR_isZ {c : Rat} : ∀ {a : Seats}, (∀ s ∈ a, IsZ (f s.1 * c)) → IsZ (toR f q a * c)
  | [], _ => by
    have : toR f q [] * c = 0 := by show (0 : Rat) * c = 0; grind
    rw [this]; exact .zero
  | (i, p) :: r, h => by
    have e : toR f q ((i, p) :: r) * c = (if p = q then f i * c else 0) + toR f q r * c := by
      show ((if p = q then f i else 0) + toR f q r) * c = _
      split <;> grind
    rw [e]
    refine .add ?_ (toR_isZ fun s hs => h s (List.mem_cons_of_mem _ hs))
    split
    · exact h (i, p) (List.mem_cons_self ..)
    · exact .zero
/-- whole numbers m that are c times the fractions -/
theorem toR_int {m : Nat → Int} {c : Rat} : ∀ {a : Seats}, (∀ s ∈ a, s.2 = q → ((m s.1 : Int) : Rat) = c * f s.1) → ((toQ m q a : Int) : Rat) = c * toR f q a
  | [], _ => by show ((0 : Int) : Rat) = c * 0; rw [Rat.intCast_zero]; grind
  | (i, p) :: r, h => by
    have ih := toR_int fun s hs => h s (List.mem_cons_of_mem _ hs)
    show (((if p = q then m i else 0) + toQ m q r : Int) : Rat) = c * ((if p = q then f i else 0) + toR f q r)
    rw [Rat.intCast_add, ih]
    by_cases e : p = q
    · rw [if_pos e, if_pos e, h (i, p) (List.mem_cons_self ..) e]
      grind
    · rw [if_neg e, if_neg e, Rat.intCast_zero]
      grind
end
/-- the visitors of the station j, f for each seat in L -/
def visF (f : Nat → Rat) (L : Seats) (j : Nat) : Rat := (if j = 0 then 1 else 0) + toR f (.inl (j : Int)) L
/-- the boats of the first k stations -/
def avs (N : Net) : Nat → List Rat
  | 0 => []
  | k + 1 => avs N k ++ [visF (fun i => (avs N k).getD i 0) (seatsOf N k) k / ((N.getD k []).length : Rat)]
theorem avs_len {N : Net} : ∀ {k}, (avs N k).length = k
  | 0 => rfl
  | k + 1 => by
    show (avs N k ++ [_]).length = k + 1
    rw [List.length_append, avs_len]; rfl
/-- the boats of a station, an arrival -/
def av (N : Net) (i : Nat) : Rat := (avs N (i + 1)).getD i 0
theorem avs_get {N : Net} {i : Nat} : ∀ {k}, i < k → (avs N k).getD i 0 = av N i
  | 0, h => by omega
  | k + 1, h => by
    by_cases e : i = k
    · rw [e]; rfl
    · have hk : i < k := by omega
      rw [← avs_get hk]
      show (avs N k ++ [_]).getD i 0 = _
      rw [List.getD_eq_getElem?_getD, List.getElem?_append_left (by rw [avs_len]; exact hk), List.getD_eq_getElem?_getD]
/-- the visitors of a station, an arrival -/
def vi (N : Net) (k : Nat) : Rat := visF (av N) (seatsOf N k) k
theorem av_eq (N : Net) (k : Nat) : av N k = vi N k / ((N.getD k []).length : Rat) := by
  show (avs N k ++ [_]).getD k 0 = _
  rw [List.getD_eq_getElem?_getD, List.getElem?_append_right (by rw [avs_len]; exact Nat.le_refl _), avs_len, Nat.sub_self]
  show visF _ _ _ / _ = _
  unfold vi visF
  rw [toR_congr (g := av N) fun s hs _ => avs_get (mem_seatsOf.mp (show (s.1, s.2) ∈ seatsOf N k from hs)).1]
/-- seats lead on, to a station of the network -/
structure FwR (N : Net) : Prop where
  pos : ∀ i, i < N.length → 1 ≤ (N.getD i []).length
  fw : ∀ i, i < N.length → ∀ j : Int, (.inl j : Key) ∈ N.getD i [] → (i : Int) < j ∧ j < N.length
section
variable {N : Net}
theorem rdiv_nn {a : Rat} (h : 0 ≤ a) (n : Nat) : 0 ≤ a / (n : Rat) := by
  rw [Rat.div_def]
  refine Rat.mul_nonneg h ?_
  rw [Rat.inv_def]
  exact Rat.divInt_nonneg (Int.natCast_nonneg _) (by rw [Rat.num_natCast]; exact Int.natCast_nonneg _)
theorem vi_nn_of {k : Nat} (h : ∀ i, i < k → 0 ≤ av N i) : 0 ≤ vi N k := by
  unfold vi visF
  have e : toR (av N) (.inl (k : Int)) (seatsOf N k) = toR (fun i => if i < k then av N i else 0) (.inl (k : Int)) (seatsOf N k) := toR_congr fun s hs _ => by
    have := (mem_seatsOf.mp (show (s.1, s.2) ∈ seatsOf N k from hs)).1
    show _ = if s.1 < k then _ else _
    rw [if_pos this]
  rw [e]
  have h2 : 0 ≤ toR (fun i => if i < k then av N i else 0) (.inl (k : Int)) (seatsOf N k) := toR_nn fun i => by
    show 0 ≤ if i < k then av N i else 0
    split
    · exact h i (by assumption)
    · grind
  split <;> grind
theorem av_nn : ∀ k, 0 ≤ av N k := fun k => by
  induction k using Nat.strongRecOn with
  | ind k ih =>
    rw [av_eq]
    exact rdiv_nn (vi_nn_of ih) _
theorem vi_nn (k : Nat) : 0 ≤ vi N k := vi_nn_of fun i _ => av_nn i
/-- the visitors are told by the seats of the stations ahead, as by all -/
theorem vi_from (F : FwR N) {k m : Nat} (hk : k ≤ m) (hm : m ≤ N.length) : visF (av N) (seatsOf N m) k = vi N k := by
  induction m with
  | zero => rw [show k = 0 by omega]; rfl
  | succ m ih =>
    by_cases e : k = m + 1
    · rw [e]; rfl
    · rw [← ih (by omega) (by omega)]
      unfold visF
      show _ + toR _ _ (seatsOf N m ++ stSeats m (N.getD m [])) = _
      rw [toR_append, toR_nil (a := stSeats m (N.getD m []))]
      · grind
      · intro s hs z
        unfold stSeats at hs
        obtain ⟨p, hp, rfl⟩ := List.mem_map.mp hs
        have z : p = .inl (k : Int) := z
        rw [z] at hp
        have := (F.fw m (by omega) _ hp).1
        omega
theorem av_mul (F : FwR N) {k : Nat} (hk : k < N.length) : av N k * ((N.getD k []).length : Rat) = vi N k := by
  rw [av_eq]
  have h := F.pos k hk
  have h0 : (((N.getD k []).length : Nat) : Rat) ≠ 0 := by
    intro z
    have := Rat.natCast_eq_zero_iff.mp z
    omega
  generalize (((N.getD k []).length : Nat) : Rat) = y at *
  grind
theorem av_pos (F : FwR N) {k : Nat} (hk : k < N.length) : 0 < av N k ↔ 0 < vi N k := by
  have h := av_mul F hk
  have h1 := F.pos k hk
  have h2 := av_nn (N := N) k
  have h3 := vi_nn (N := N) k
  have h4 : (0 : Rat) < ((N.getD k []).length : Nat) := Rat.natCast_pos.mpr (by omega)
  constructor
  · intro z
    rw [← h]
    exact Rat.mul_pos z h4
  · intro z
    rcases Rat.le_iff_lt_or_eq.mp h2 with h5 | h5
    · exact h5
    · rw [← h5] at h
      grind
/-! ### denominators -/
def prodN (N : Net) : Nat → Nat
  | 0 => 1
  | k + 1 => prodN N k * (N.getD k []).length
theorem prodN_dvd {i k : Nat} (h : i ≤ k) : prodN N i ∣ prodN N k := by
  induction k with
  | zero => rw [show i = 0 by omega]; exact Nat.dvd_refl _
  | succ k ih =>
    by_cases e : i = k + 1
    · rw [e]; exact Nat.dvd_refl _
    · exact Nat.dvd_trans (ih (by omega)) (Nat.dvd_mul_right _ _)
theorem prodN_pos (F : FwR N) : ∀ {k : Nat}, k ≤ N.length → 1 ≤ prodN N k
  | 0, _ => Nat.le_refl _
  | k + 1, h => by
    have h1 := prodN_pos F (k := k) (by omega)
    have h2 := F.pos k (by omega)
    exact Nat.mul_pos h1 h2
theorem prodN_le (h8 : ∀ i, (N.getD i []).length ≤ 8) : ∀ k, prodN N k ≤ 8 ^ k
  | 0 => Nat.le_refl _
  | k + 1 => by
    show prodN N k * _ ≤ 8 ^ k * 8
    exact Nat.mul_le_mul (prodN_le h8 k) (h8 k)
theorem isZ_dvd {q : Rat} {a b : Nat} (h : IsZ (q * (a : Rat))) (d : a ∣ b) : IsZ (q * (b : Rat)) := by
  obtain ⟨k, rfl⟩ := d
  have e : q * ((a * k : Nat) : Rat) = q * (a : Rat) * (k : Rat) := by
    rw [Rat.natCast_mul]; grind
  rw [e]
  exact h.mul (.nat k)
theorem av_isZ (F : FwR N) : ∀ k, k < N.length → IsZ (av N k * ((prodN N (k + 1) : Nat) : Rat)) := fun k => by
  induction k using Nat.strongRecOn with
  | ind k ih =>
    intro hk
    have e : av N k * ((prodN N (k + 1) : Nat) : Rat) = vi N k * ((prodN N k : Nat) : Rat) := by
      rw [← av_mul F hk]
      show _ * ((prodN N k * (N.getD k []).length : Nat) : Rat) = _
      rw [Rat.natCast_mul]; grind
    rw [e]
    unfold vi visF
    have e2 : ((if k = 0 then (1 : Rat) else 0) + toR (av N) (.inl (k : Int)) (seatsOf N k)) * ((prodN N k : Nat) : Rat) = (if k = 0 then 1 else 0) * ((prodN N k : Nat) : Rat) + toR (av N) (.inl (k : Int)) (seatsOf N k) * ((prodN N k : Nat) : Rat) := by grind
    rw [e2]
    refine .add (.mul ?_ (.nat _)) (toR_isZ fun s hs => ?_)
    · split
      · exact ⟨1, by simp⟩
      · exact .zero
    · have h1 := (mem_seatsOf.mp (show (s.1, s.2) ∈ seatsOf N k from hs)).1
      exact isZ_dvd (ih s.1 h1 (by omega)) (prodN_dvd (by omega))
theorem av_den (F : FwR N) {k m : Nat} (hk : k < m) (hm : m ≤ N.length) : (av N k).den ∣ prodN N m :=
  Nat.dvd_trans (den_dvd (av_isZ F k (by omega))) (prodN_dvd (by omega))
/-- what is reckoned from the boats of the first stations -/
theorem toR_den (F : FwR N) {q : Key} {L : Seats} {m : Nat} (hm : m ≤ N.length) (hL : ∀ s ∈ L, s.1 < m) : (toR (av N) q L).den ∣ prodN N m :=
  den_dvd (toR_isZ fun s hs => isZ_den (av_den F (hL s hs) hm))
theorem visF_den (F : FwR N) {j : Nat} {L : Seats} {m : Nat} (hm : m ≤ N.length) (hL : ∀ s ∈ L, s.1 < m) : (visF (av N) L j).den ∣ prodN N m := by
  refine den_dvd ?_
  unfold visF
  have e2 : ((if j = 0 then (1 : Rat) else 0) + toR (av N) (.inl (j : Int)) L) * ((prodN N m : Nat) : Rat) = (if j = 0 then 1 else 0) * ((prodN N m : Nat) : Rat) + toR (av N) (.inl (j : Int)) L * ((prodN N m : Nat) : Rat) := by grind
  rw [e2]
  refine .add (.mul ?_ (.nat _)) (isZ_den (toR_den F hm hL))
  split
  · exact ⟨1, by simp⟩
  · exact .zero
/-! ### the period -/
def perN (N : Net) : Nat → Nat
  | 0 => 1
  | k + 1 => Nat.lcm (perN N k) (av N k).den
theorem perN_dvd (F : FwR N) : ∀ {k}, k ≤ N.length → perN N k ∣ prodN N k
  | 0, _ => Nat.dvd_refl _
  | k + 1, h => Nat.lcm_dvd (Nat.dvd_trans (perN_dvd F (by omega)) (prodN_dvd (by omega))) (av_den F (by omega) h)
theorem perN_den {i : Nat} : ∀ {k}, i < k → (av N i).den ∣ perN N k
  | 0, h => by omega
  | k + 1, h => by
    by_cases e : i = k
    · rw [e]; exact Nat.dvd_lcm_right _ _
    · exact Nat.dvd_trans (perN_den (k := k) (by omega)) (Nat.dvd_lcm_left _ _)
theorem perN_pos : ∀ k, 1 ≤ perN N k
  | 0 => Nat.le_refl _
  | k + 1 => Nat.lcm_pos (perN_pos k) (Nat.pos_of_ne_zero (av N k).den_nz)
end
/-! ### sums over stations -/
def sumR (f : Nat → Rat) : Nat → Rat
  | 0 => 0
  | k + 1 => sumR f k + f k
section
variable {N : Net} {f g : Nat → Rat}
theorem sumR_congr : ∀ {k}, (∀ i, i < k → f i = g i) → sumR f k = sumR g k
  | 0, _ => rfl
  | k + 1, h => by
    show sumR f k + f k = sumR g k + g k
    rw [sumR_congr fun i hi => h i (by omega), h k (by omega)]
theorem sumR_mono (h : ∀ i, 0 ≤ f i) {j k : Nat} (hk : j ≤ k) : sumR f j ≤ sumR f k := by
  induction k with
  | zero => rw [show j = 0 by omega]; exact Rat.le_refl
  | succ k ih =>
    by_cases e : j = k + 1
    · rw [e]; exact Rat.le_refl
    · have h1 := ih (by omega)
      have h2 := h k
      show _ ≤ sumR f k + f k
      grind
/-- the seats' sum, those that lead to ports apart -/
def allR (f : Nat → Rat) : Seats → Rat
  | [] => 0
  | (i, _) :: r => f i + allR f r
/-- x of a seat that leads to a port -/
def pq (p : Key) (x : Rat) : Rat := match p with | .inl _ => 0 | .inr _ => x
def portR (f : Nat → Rat) : Seats → Rat
  | [] => 0
  | (i, p) :: r => pq p (f i) + portR f r
theorem allR_append : ∀ {a b : Seats}, allR f (a ++ b) = allR f a + allR f b
  | [], b => by show allR f b = 0 + _; grind
  | (i, p) :: r, b => by
    show f i + allR f (r ++ b) = f i + allR f r + allR f b
    rw [allR_append]; grind
theorem allR_st {k : Nat} : ∀ {s : List Key}, allR f (stSeats k s) = f k * ((s.length : Nat) : Rat)
  | [] => by
    show (0 : Rat) = f k * ((0 : Nat) : Rat)
    have : ((0 : Nat) : Rat) = 0 := rfl
    rw [this]; grind
  | p :: s => by
    show f k + allR f (stSeats k s) = f k * ((s.length + 1 : Nat) : Rat)
    rw [allR_st, Rat.natCast_add]
    have : ((1 : Nat) : Rat) = 1 := rfl
    rw [this]; grind
theorem allR_seats : ∀ k, allR f (seatsOf N k) = sumR (fun i => f i * (((N.getD i []).length : Nat) : Rat)) k
  | 0 => rfl
  | k + 1 => by
    show allR f (seatsOf N k ++ stSeats k (N.getD k [])) = sumR _ k + _
    rw [allR_append, allR_st, allR_seats]
/-- each seat leads to one station below n, or to a port -/
theorem split_seat {n : Nat} {i : Nat} {p : Key} (hp : ∀ j : Int, p = .inl j → 0 ≤ j ∧ j < n) : sumR (fun j => if p = .inl (j : Int) then f i else 0) n + pq p (f i) = f i := by
  cases p with
  | inr z =>
    have : sumR (fun j => if (Sum.inr z : Key) = .inl (j : Int) then f i else 0) n = 0 := by
      clear hp
      induction n with
      | zero => rfl
      | succ n ih =>
        show sumR _ n + (if (Sum.inr z : Key) = .inl (n : Int) then f i else 0) = 0
        rw [ih, if_neg (by intro z; cases z)]; grind
    rw [this]; show (0 : Rat) + f i = f i; grind
  | inl j =>
    obtain ⟨h0, h1⟩ := hp j rfl
    have : ∀ m : Nat, sumR (fun k : Nat => if (Sum.inl j : Key) = .inl (k : Int) then f i else 0) m = if j < m then f i else 0 := fun m => by
      induction m with
      | zero => rw [if_neg (by omega)]; rfl
      | succ m ih =>
        show sumR _ m + (if (Sum.inl j : Key) = .inl (m : Int) then f i else 0) = _
        rw [ih]
        by_cases e : j = m
        · rw [if_neg (by omega), if_pos (by rw [e]), if_pos (by omega)]; grind
        · by_cases e2 : j < m
          · rw [if_pos e2, if_neg (by intro z; exact e (Sum.inl.inj z)), if_pos (by omega)]; grind
          · rw [if_neg e2, if_neg (by intro z; exact e (Sum.inl.inj z)), if_neg (by omega)]; grind
    rw [this, if_pos h1]; show f i + (0 : Rat) = f i; grind
theorem sumR_add : ∀ k, sumR (fun i => f i + g i) k = sumR f k + sumR g k
  | 0 => by show (0 : Rat) = 0 + 0; grind
  | k + 1 => by
    show sumR _ k + (f k + g k) = sumR f k + f k + (sumR g k + g k)
    rw [sumR_add]; grind
theorem sumR_zero : ∀ k, sumR (fun _ => 0) k = 0
  | 0 => rfl
  | k + 1 => by show sumR _ k + 0 = 0; rw [sumR_zero]; grind
theorem split_all {n : Nat} : ∀ {L : Seats}, (∀ s ∈ L, ∀ j : Int, s.2 = .inl j → 0 ≤ j ∧ j < n) → sumR (fun j => toR f (.inl (j : Int)) L) n + portR f L = allR f L
  | [], _ => by
    show sumR (fun _ => 0) n + 0 = (0 : Rat)
    rw [sumR_zero]; grind
  | (i, p) :: r, h => by
    have ih := split_all fun s hs => h s (List.mem_cons_of_mem _ hs)
    have hs := split_seat (f := f) (i := i) (p := p) (h (i, p) (List.mem_cons_self ..))
    have e : sumR (fun j => toR f (.inl (j : Int)) ((i, p) :: r)) n = sumR (fun j => if p = .inl (j : Int) then f i else 0) n + sumR (fun j => toR f (.inl (j : Int)) r) n := by
      rw [← sumR_add]; rfl
    have e2 : portR f ((i, p) :: r) = pq p (f i) + portR f r := rfl
    have e3 : allR f ((i, p) :: r) = f i + allR f r := rfl
    rw [e, e2, e3, ← ih]
    generalize pq p (f i) = y at *
    grind
/-- everybody reaches a port -/
theorem port_one (F : FwR N) (hn : 1 ≤ N.length) : portR (av N) (seatsOf N N.length) = 1 := by
  have h1 := split_all (f := av N) (n := N.length) (L := seatsOf N N.length) fun s hs j e => by
    obtain ⟨a, b⟩ := mem_seatsOf.mp (show (s.1, s.2) ∈ seatsOf N N.length from hs)
    rw [e] at b
    have := F.fw s.1 a j b
    omega
  rw [allR_seats] at h1
  have h2 : sumR (fun i => av N i * (((N.getD i []).length : Nat) : Rat)) N.length = sumR (fun i => (if i = 0 then 1 else 0) + toR (av N) (.inl (i : Int)) (seatsOf N N.length)) N.length :=
    sumR_congr fun i hi => by
      rw [av_mul F hi, ← vi_from F (Nat.le_of_lt hi) (Nat.le_refl _)]; rfl
  rw [h2, sumR_add] at h1
  have h3 : ∀ k, 1 ≤ k → sumR (fun i => if i = 0 then (1 : Rat) else 0) k = 1 := fun k hk => by
    induction k with
    | zero => omega
    | succ k ih =>
      show sumR _ k + (if k = 0 then 1 else 0) = 1
      by_cases e : k = 0
      · subst e; show (0 : Rat) + 1 = 1; grind
      · rw [ih (by omega), if_neg e]; grind
  rw [h3 _ hn] at h1
  grind
theorem portR_nn (h : ∀ i, 0 ≤ f i) : ∀ L : Seats, 0 ≤ portR f L
  | [] => by show (0 : Rat) ≤ 0; grind
  | (i, .inl _) :: r => by
    have := portR_nn h r
    show 0 ≤ 0 + portR f r
    grind
  | (i, .inr _) :: r => by
    have := portR_nn h r
    have := h i
    show 0 ≤ f i + portR f r
    grind
/-- nobody visits a station twice -/
theorem vi_le_one (F : FwR N) {k : Nat} (hk : k < N.length) : vi N k ≤ 1 := by
  by_cases e0 : k = 0
  · subst e0
    have h5 : vi N 0 = 1 := by
      show (if (0 : Nat) = 0 then (1 : Rat) else 0) + toR (av N) (.inl ((0 : Nat) : Int)) [] = 1
      show (1 : Rat) + 0 = 1
      grind
    rw [h5]; exact Rat.le_refl
  have h1 := split_all (f := av N) (n := N.length) (L := seatsOf N k) fun s hs j e => by
    obtain ⟨a, b⟩ := mem_seatsOf.mp (show (s.1, s.2) ∈ seatsOf N k from hs)
    rw [e] at b
    have := F.fw s.1 (by omega) j b
    omega
  rw [allR_seats] at h1
  have h2 : sumR (fun i => av N i * (((N.getD i []).length : Nat) : Rat)) k = sumR (fun i => (if i = 0 then 1 else 0) + toR (av N) (.inl (i : Int)) (seatsOf N k)) k :=
    sumR_congr fun i hi => by
      rw [av_mul F (by omega), ← vi_from F (Nat.le_of_lt hi) (Nat.le_of_lt hk)]; rfl
  rw [h2, sumR_add] at h1
  have h3 : ∀ k, 1 ≤ k → sumR (fun i => if i = 0 then (1 : Rat) else 0) k = 1 := fun k hk => by
    induction k with
    | zero => omega
    | succ k ih =>
      show sumR _ k + (if k = 0 then 1 else 0) = 1
      by_cases e : k = 0
      · subst e; show (0 : Rat) + 1 = 1; grind
      · rw [ih (by omega), if_neg e]; grind
  rw [h3 _ (by omega)] at h1
  have h4 := sumR_mono (f := fun j => toR (av N) (.inl (j : Int)) (seatsOf N k)) (fun i => toR_nn av_nn) (show k + 1 ≤ N.length from hk)
  have h5 : sumR (fun j => toR (av N) (.inl (j : Int)) (seatsOf N k)) (k + 1) = sumR (fun j => toR (av N) (.inl (j : Int)) (seatsOf N k)) k + toR (av N) (.inl (k : Int)) (seatsOf N k) := rfl
  have h6 := portR_nn (f := av N) av_nn (seatsOf N k)
  unfold vi visF
  rw [if_neg e0]
  grind
theorem av_le_one (F : FwR N) {k : Nat} (hk : k < N.length) : av N k ≤ 1 := by
  have h := av_mul F hk
  have h1 := vi_le_one F hk
  have h2 := av_nn (N := N) k
  have h3 : (1 : Rat) ≤ ((N.getD k []).length : Nat) := by
    have := F.pos k hk
    have e : ((1 : Nat) : Rat) = 1 := rfl
    rw [← e]
    exact Rat.natCast_le_natCast.mpr this
  have h4 := Rat.mul_le_mul_of_nonneg_left h3 h2
  grind
theorem seats_split {k m : Nat} (h : k ≤ m) : ∃ L, seatsOf N m = seatsOf N k ++ L := by
  induction m with
  | zero => rw [show k = 0 by omega]; exact ⟨[], rfl⟩
  | succ m ih =>
    by_cases e : k = m + 1
    · rw [e]; exact ⟨[], by rw [List.append_nil]⟩
    · obtain ⟨L, hL⟩ := ih (by omega)
      exact ⟨L ++ stSeats m (N.getD m []), by show seatsOf N m ++ _ = _; rw [hL, List.append_assoc]⟩
end
end FB
set_option maxHeartbeats 1000000
namespace K
open PySem PySem.Spec PyProof.Rows L2 Evl FB
local macro_rules | `(tactic| walk_at "run") => `(tactic| try simp only [tSeq, tAsg, tVar, tC, gName, L2.start, List.map_cons, List.map_nil, List.cons_append, List.nil_append, List.length_cons, List.length_nil, List.replicate, List.getElem?_cons_zero, List.getElem?_cons_succ, Option.some.injEq, exists_eq_left', List.set_cons_zero, List.set_cons_succ, V.ref.injEq, tRet, x_tLst, x_tTup, tCons, tCB, tNil, tOp, x_addI, x_mulI, x_rI, x_rI0, x_ltI, x_leI, x_ltS, x_leS, x_eqI, x_neI, x_eqS, x_eqB, x_neB, x_isiI, x_isiS, x_int, x_max, x_min, cxOf, tIfS, tNext, tTest, V.bl.injEq, decide_eq_true_eq, gSub, tAnd, tOr, tNot, tB, tDrop, tBM, x_tFor, iRng1, iList, iTup, x_tLc, tYes, tCall, tIf, tAndV, tOrV, tNotV, tChain, List.append_nil, tUn, if_true, wipe, true_and, x_never, iU, x_itS, kV, Nat.reduceAdd, Nat.reduceSub, List.replicate_zero, x_rU, x_tMkO, iEnumT, x_tDc, x_tDGet, x_tDGet2, x_sDPut, x_tDSetd, x_tDNewK, x_iItems, x_iZip, x_tSAddK, x_tLockV, x_tTupRg, x_tRg2, tPar, tPar3, tBM0, tSl, tNoPart, tPart, x_tSetAdd, x_tDIn, x_iKeys, x_iZipX, tWhile])
/-- a fraction as the program has it -/
def frD (q : Rat) : PyData := .tuple [.int q.num, .int (q.den : Int)]
theorem frD_t (q : Rat) : TupD (frD q) := .tup fun d hd => by
  simp only [List.mem_cons, List.not_mem_nil, or_false] at hd
  rcases hd with rfl | rfl
  · exact .int _
  · exact .int _
abbrev FrAt (K : PySem.W.Frag) (H : Hp) (v : V) (q : Rat) : Prop := Dp K H v (frD q)
section
variable {P : Program} {w : World} {K : PySem.W.Frag} {mg : Str → Option Value} {base : Heap}
theorem FrAt.at {H : Hp} {v : V} {q : Rat} (h : FrAt K H v q) : ∃ a, v = .ref a ∧ SqT K H a [.int q.num, .int (q.den : Int)] := by
  obtain ⟨a, xs, e, h1, h2⟩ := Dp.tup_inv h
  cases h2 with
  | cons p hs =>
    cases hs with
    | cons p2 hs =>
      cases hs
      rw [p.int_inv, p2.int_inv] at h1
      exact ⟨a, e, h1⟩
theorem FrAt.of {H : Hp} {a : Addr} {q : Rat} (h : SqT K H a [.int q.num, .int (q.den : Int)]) : FrAt K H (.ref a) q := .tup h (.cons (.int _) (.cons (.int _) .nil))
/-- numbers that are not too large for the wide rules -/
def Wd (q : Rat) : Prop := q.num.natAbs < 2 ^ 1500 ∧ q.den < 2 ^ 1500
abbrev s_lowest_terms : Stmt := top 36
theorem sc_lowest_terms : FnScope ["numerator", "denominator", "common"] ["numerator", "denominator"] (defScope s_lowest_terms) := ⟨rfl, rfl, rfl, by decide +kernel, rfl, by decide +kernel, by decide +kernel⟩
def spLow (K : PySem.W.Frag) : Sp := fun vs H Q _ => ∃ (n : Int) (m : Nat), vs = [.int n, .int (m : Int)] ∧ m ≠ 0 ∧ m < 2 ^ 4000 ∧ ∀ H' r, Ex H H' → FrAt K H' r (mkRat n m) → Q r H'
theorem ok_lowest_terms {f : Addr} {fd : FuncData} (D : Df K mg "lowest_terms" s_lowest_terms ["numerator", "denominator"] f fd) (hgcd : mg "gcd" = some (.builtin "math.gcd")) : FnOk P w K mg base CX0 1 f fd ["numerator", "denominator"] (spLow K) := by
  refine D.F.ok sc_lowest_terms (fun vs H Q E h => ?_) (fun cdv A outer s H vs Q E hr h => ?_)
  · obtain ⟨n, m, rfl, _⟩ := h
    rfl
  · obtain ⟨n, m, rfl, hm, hb, q⟩ := h
    refine ⟨_, (pss_cons (ps_set (i := 2) sc_lowest_terms.nd rfl (Or.inl rfl) (pe_callBfun call_gcdU (by rfl) hgcd (pa_cons (pv 0) (pa_cons (pv 1) pa_nil))))
      (pss_one (ps_ret (pe_tup (pa_cons (pe_op op_fdivW (pv 0) (pv 2)) (pa_cons (pe_op op_fdivW (pv 1) (pv 2)) pa_nil)))))), ?_⟩
    walk_at "run"
    refine ⟨n, m, rfl, ?_⟩
    rw [Int.natAbs_natCast]
    have c : ∀ i, CDivW i ((Nat.gcd n.natAbs m : Nat) : Int) := fun i => wide_div (low_pos hm) (by rw [Int.natAbs_natCast]; exact Nat.lt_of_le_of_lt (low_le hm) hb) (by decide) (by decide)
    walk_at "run"
    refine ⟨c _, c _, ?_⟩
    rw [low_num hm, low_den hm]
    exact x_tup (by simp) fun t H1 nt e1 h1 => q H1 _ e1 (FrAt.of (SqT.of h1))
abbrev s_add : Stmt := top 37
theorem sc_add : FnScope ["one", "other"] ["one", "other"] (defScope s_add) := ⟨rfl, rfl, rfl, by decide +kernel, rfl, by decide +kernel, by decide +kernel⟩
def spAddF (K : PySem.W.Frag) : Sp := fun vs H Q _ => ∃ (u v : V) (a b : Rat), vs = [u, v] ∧ FrAt K H u a ∧ FrAt K H v b ∧ Wd a ∧ Wd b ∧ ∀ H' r, Ex H H' → FrAt K H' r (a + b) → Q r H'
theorem wmul {i j : Int} (hi : i.natAbs < 2 ^ 1500) (hj : j.natAbs < 2 ^ 1500) : CMulW i j := wide_mul hi hj (by decide) (by decide) (by decide)
theorem dden {a b : Rat} (ha : a.den < 2 ^ 1500) (hb : b.den < 2 ^ 1500) : a.den * b.den < 2 ^ 4000 := by
  have h := Nat.mul_lt_mul'' ha hb
  rw [← Nat.pow_add] at h
  exact Nat.lt_of_lt_of_le h (Nat.pow_le_pow_right (by decide) (by decide))
theorem ok_add {f f1 : Addr} {fd fd1 : FuncData} (D : Df K mg "add" s_add ["one", "other"] f fd) (D_lowest_terms : Df K mg "lowest_terms" s_lowest_terms ["numerator", "denominator"] f1 fd1) (hgcd : mg "gcd" = some (.builtin "math.gcd")) : FnOk P w K mg base CX0 2 f fd ["one", "other"] (spAddF K) := by
  have G_lowest_terms : FnOk P w K mg base CX0 1 f1 fd1 _ _ := ok_lowest_terms D_lowest_terms hgcd
  refine D.F.ok sc_add (fun vs H Q E h => ?_) (fun cdv A outer s H vs Q E hr h => ?_)
  · obtain ⟨u, v, a, b, rfl, _⟩ := h
    rfl
  · obtain ⟨u, v, a, b, rfl, hu, hv, wa, wb, q⟩ := h
    refine ⟨_, (pss_one (ps_ret (pe_call (G_lowest_terms) (hr.mono (by decide)) rfl D_lowest_terms.g D_lowest_terms.F.kp D_lowest_terms.b .nil pass0 (pa_cons (pe_op (op_addU (K := K)) (pe_op op_mulW (pe_ix (ix_U (K := K)) (pv 0) pe_int (fun _ _ => rfl)) (pe_ix (ix_U (K := K)) (pv 1) pe_int (fun _ _ => rfl))) (pe_op op_mulW (pe_ix (ix_U (K := K)) (pv 1) pe_int (fun _ _ => rfl)) (pe_ix (ix_U (K := K)) (pv 0) pe_int (fun _ _ => rfl)))) (pa_cons (pe_op op_mulW (pe_ix (ix_U (K := K)) (pv 0) pe_int (fun _ _ => rfl)) (pe_ix (ix_U (K := K)) (pv 1) pe_int (fun _ _ => rfl))) pa_nil))))), ?_⟩
    obtain ⟨x, rfl, hx⟩ := hu.at
    obtain ⟨y, rfl, hy⟩ := hv.at
    have na : ((a.den : Int)).natAbs < 2 ^ 1500 := by rw [Int.natAbs_natCast]; exact wa.2
    have nb : ((b.den : Int)).natAbs < 2 ^ 1500 := by rw [Int.natAbs_natCast]; exact wb.2
    walk_at "run"
    refine x_ixT hx (v := .int a.num) rfl (x_ixT hy (v := .int (b.den : Int)) rfl ?_)
    walk_at "run"
    refine ⟨wmul wa.1 nb, x_ixT hy (v := .int b.num) rfl (x_ixT hx (v := .int (a.den : Int)) rfl ?_)⟩
    walk_at "run"
    refine ⟨wmul wb.1 na, x_ixT hx (v := .int (a.den : Int)) rfl (x_ixT hy (v := .int (b.den : Int)) rfl ?_)⟩
    walk_at "run"
    refine ⟨wmul na nb, ⟨a.num * (b.den : Int) + b.num * (a.den : Int), a.den * b.den, by rw [Int.natCast_mul], Nat.mul_ne_zero a.den_nz b.den_nz, dden wa.2 wb.2, fun H' r e h => q H' r e ?_⟩⟩
    rw [rat_add] at h
    exact h
abbrev s_divide : Stmt := top 38
theorem sc_divide : FnScope ["fraction", "integer"] ["fraction", "integer"] (defScope s_divide) := ⟨rfl, rfl, rfl, by decide +kernel, rfl, by decide +kernel, by decide +kernel⟩
def spDivF (K : PySem.W.Frag) : Sp := fun vs H Q _ => ∃ (u : V) (a : Rat) (k : Nat), vs = [u, .int (k : Int)] ∧ FrAt K H u a ∧ k ≠ 0 ∧ a.den < 2 ^ 1500 ∧ k < 2 ^ 1500 ∧ ∀ H' r, Ex H H' → FrAt K H' r (a / (k : Rat)) → Q r H'
theorem ok_divide {f f1 : Addr} {fd fd1 : FuncData} (D : Df K mg "divide" s_divide ["fraction", "integer"] f fd) (D_lowest_terms : Df K mg "lowest_terms" s_lowest_terms ["numerator", "denominator"] f1 fd1) (hgcd : mg "gcd" = some (.builtin "math.gcd")) : FnOk P w K mg base CX0 2 f fd ["fraction", "integer"] (spDivF K) := by
  have G_lowest_terms : FnOk P w K mg base CX0 1 f1 fd1 _ _ := ok_lowest_terms D_lowest_terms hgcd
  refine D.F.ok sc_divide (fun vs H Q E h => ?_) (fun cdv A outer s H vs Q E hr h => ?_)
  · obtain ⟨u, a, k, rfl, _⟩ := h
    rfl
  · obtain ⟨u, a, k, rfl, hu, hk, wa, wk, q⟩ := h
    refine ⟨_, (pss_one (ps_ret (pe_call (G_lowest_terms) (hr.mono (by decide)) rfl D_lowest_terms.g D_lowest_terms.F.kp D_lowest_terms.b .nil pass0 (pa_cons (pe_ix (ix_U (K := K)) (pv 0) pe_int (fun _ _ => rfl)) (pa_cons (pe_op op_mulW (pe_ix (ix_U (K := K)) (pv 0) pe_int (fun _ _ => rfl)) (pv 1)) pa_nil))))), ?_⟩
    obtain ⟨x, rfl, hx⟩ := hu.at
    walk_at "run"
    refine x_ixT hx (v := .int a.num) rfl (x_ixT hx (v := .int (a.den : Int)) rfl ?_)
    walk_at "run"
    refine ⟨wmul (by rw [Int.natAbs_natCast]; exact wa) (by rw [Int.natAbs_natCast]; exact wk), ⟨a.num, a.den * k, by rw [Int.natCast_mul], Nat.mul_ne_zero a.den_nz hk, ?_, fun H' r e h => q H' r e ?_⟩⟩
    · have h := Nat.mul_lt_mul'' wa wk
      rw [← Nat.pow_add] at h
      exact Nat.lt_of_lt_of_le h (Nat.pow_le_pow_right (by decide) (by decide))
    · rw [rat_divN a hk] at h
      exact h
/-- the constant zero -/
structure Zero (K : PySem.W.Frag) (mg : Str → Option Value) (z : Addr) : Prop where
  g : mg "ZERO" = some (.ref z)
  at0 : ∀ H, SqT K H z [.int 0, .int 1]
theorem Zero.fr {z : Addr} (Z : Zero K mg z) {H : Hp} : FrAt K H (.ref z) 0 := FrAt.of (Z.at0 H)
end
theorem ValidN.fwr {N : Net} (h : ValidN N) : FwR N where
  pos := fun i hi => by
    have e : N[i]? = some (N.getD i []) := by simp [List.getD_eq_getElem?_getD, hi]
    exact (h.cnt.st _ (List.mem_of_getElem? e)).1
  fw := fun i hi j hj => by
    have e : N[i]? = some (N.getD i []) := by simp [List.getD_eq_getElem?_getD, hi]
    exact h.seat e hj
theorem ValidN.len8 {N : Net} (h : ValidN N) (i : Nat) : (N.getD i []).length ≤ 8 := by
  rw [List.getD_eq_getElem?_getD]
  cases e : N[i]? with
  | none => simp
  | some s => exact (h.cnt.st _ (List.mem_of_getElem? e)).2
theorem p8 {k : Nat} (h : k ≤ 40) : (8 : Nat) ^ k ≤ 2 ^ 120 := Nat.le_trans (Nat.pow_le_pow_right (by decide) h) (by decide)
/-- a number between 0 and a, of a denominator of the network's -/
theorem ValidN.wd {N : Net} (h : ValidN N) {q : Rat} {a m : Nat} (h0 : 0 ≤ q) (h1 : q ≤ ((a : Nat) : Rat)) (ha : a ≤ 2 ^ 100) (hm : m ≤ N.length) (hd : q.den ∣ prodN N m) : Wd q := by
  have hp := prodN_pos h.fwr hm
  have h40 := h.le
  have hD : q.den ≤ 2 ^ 120 := Nat.le_trans (Nat.le_of_dvd hp hd) (Nat.le_trans (prodN_le h.len8 m) (p8 (by omega)))
  refine ⟨Nat.lt_of_le_of_lt (num_le h0 h1 hD) (Nat.lt_of_le_of_lt (Nat.mul_le_mul_right _ ha) (by decide)), Nat.lt_of_le_of_lt hD (by decide)⟩
theorem one_nat : ((1 : Nat) : Rat) = 1 := rfl
theorem toR_mono {f : Nat → Rat} (hf : ∀ i, 0 ≤ f i) {q : Key} {a b : Seats} : toR f q a ≤ toR f q (a ++ b) := by
  have := toR_nn hf (q := q) (a := b)
  rw [toR_append]; grind
/-- seats as far as the k-th of the station i -/
def upTo (N : Net) (i k : Nat) : Seats := seatsOf N i ++ stSeats i ((N.getD i []).take k)
theorem upTo_len {N : Net} {i k : Nat} (h : (N.getD i []).length ≤ k) : upTo N i k = seatsOf N (i + 1) := by
  unfold upTo
  rw [List.take_of_length_le h]; rfl
theorem upTo_zero {N : Net} {i : Nat} : upTo N i 0 = seatsOf N i := by
  unfold upTo stSeats
  simp
theorem upTo_succ {N : Net} {i k : Nat} {p : Key} (h : (N.getD i [])[k]? = some p) : upTo N i (k + 1) = upTo N i k ++ [(i, p)] := by
  unfold upTo stSeats
  rw [List.take_add_one, h, List.map_append, List.append_assoc]; rfl
theorem upTo_lt {N : Net} {i k : Nat} {s : Nat × Key} (h : s ∈ upTo N i k) : s.1 < i + 1 := by
  rcases List.mem_append.mp h with h | h
  · have := (mem_seatsOf.mp (show (s.1, s.2) ∈ seatsOf N i from h)).1
    omega
  · unfold stSeats at h
    obtain ⟨p, _, rfl⟩ := List.mem_map.mp h
    show i < i + 1
    omega
theorem upTo_split {N : Net} {i k : Nat} (hi : i < N.length) : ∃ L, seatsOf N N.length = upTo N i k ++ L := by
  obtain ⟨L, hL⟩ := seats_split (N := N) (show i + 1 ≤ N.length from hi)
  refine ⟨stSeats i ((N.getD i []).drop k) ++ L, ?_⟩
  rw [hL]
  show seatsOf N i ++ stSeats i (N.getD i []) ++ L = _
  unfold upTo stSeats
  rw [List.append_assoc, List.append_assoc, ← List.append_assoc (List.map _ (List.take _ _)), ← List.map_append, List.take_append_drop]
theorem vis_le {N : Net} (h : ValidN N) {i k j : Nat} (hi : i < N.length) (hj : j < N.length) : visF (av N) (upTo N i k) j ≤ 1 := by
  obtain ⟨L, hL⟩ := upTo_split (N := N) (k := k) hi
  have h1 := vi_le_one h.fwr hj
  have h2 := vi_from h.fwr (Nat.le_of_lt hj) (Nat.le_refl _)
  rw [hL] at h2
  have h3 := toR_mono (f := av N) av_nn (q := .inl (j : Int)) (a := upTo N i k) (b := L)
  unfold visF at h2 ⊢
  grind
theorem vis_nn {N : Net} {L : Seats} {j : Nat} : 0 ≤ visF (av N) L j := by
  have := toR_nn (f := av N) av_nn (q := .inl (j : Int)) (a := L)
  unfold visF
  split <;> grind
theorem vis_wd {N : Net} (h : ValidN N) {i k j : Nat} (hi : i < N.length) (hj : j < N.length) : Wd (visF (av N) (upTo N i k) j) :=
  h.wd (a := 1) vis_nn (by rw [one_nat]; exact vis_le h hi hj) (by decide) (show i + 1 ≤ N.length from hi) (visF_den h.fwr hi fun s hs => upTo_lt hs)
theorem av_wd {N : Net} (h : ValidN N) {i : Nat} (hi : i < N.length) : Wd (av N i) :=
  h.wd (a := 1) (av_nn i) (by rw [one_nat]; exact av_le_one h.fwr hi) (by decide) (Nat.le_refl _) (av_den h.fwr hi (Nat.le_refl _))
theorem vi_wd {N : Net} (h : ValidN N) {i : Nat} (hi : i < N.length) : Wd (vi N i) := by
  have := vis_wd h (k := 0) hi hi
  rw [upTo_zero] at this
  exact this
/-- the visitors of all stations so far -/
def visD (N : Net) (L : Seats) : List PyData := (List.range N.length).map fun j => frD (visF (av N) L j)
theorem visD_len {N : Net} {L : Seats} : (visD N L).length = N.length := by unfold visD; simp
theorem visD_get {N : Net} {L : Seats} {j : Nat} (h : j < N.length) : (visD N L)[j]? = some (frD (visF (av N) L j)) := by
  unfold visD
  simp [h]
theorem visD_t {N : Net} {L : Seats} : ∀ d ∈ visD N L, TupD d := fun d hd => by
  unfold visD at hd
  obtain ⟨j, _, rfl⟩ := List.mem_map.mp hd
  exact frD_t _
theorem visF_snoc {f : Nat → Rat} {L : Seats} {i : Nat} {p : Key} {j : Nat} : visF f (L ++ [(i, p)]) j = visF f L j + if p = .inl (j : Int) then f i else 0 := by
  unfold visF
  rw [toR_snoc]; grind
theorem visD_set {N : Net} {L : Seats} {i j : Nat} (hj : j < N.length) : visD N (L ++ [(i, .inl (j : Int))]) = (visD N L).set j (frD (visF (av N) L j + av N i)) := by
  apply List.ext_getElem?
  intro m
  rw [List.getElem?_set]
  by_cases hm : m < N.length
  · rw [visD_get hm]
    by_cases e : j = m
    · subst e
      rw [if_pos rfl, if_pos (by rw [visD_len]; exact hj), visF_snoc, if_pos rfl]
    · rw [if_neg e, visD_get hm, visF_snoc, if_neg (by intro z; have := Sum.inl.inj z; omega)]
      have : visF (av N) L m + 0 = visF (av N) L m := by grind
      rw [this]
  · have e1 : (visD N (L ++ [(i, .inl (j : Int))]))[m]? = none := List.getElem?_eq_none (by rw [visD_len]; omega)
    have e2 : (visD N L)[m]? = none := List.getElem?_eq_none (by rw [visD_len]; omega)
    rw [e1, e2, if_neg (by omega)]
theorem visD_str {N : Net} {L : Seats} {i : Nat} {z : Str} : visD N (L ++ [(i, .inr z)]) = visD N L := by
  unfold visD
  refine List.map_congr_left fun j _ => ?_
  rw [visF_snoc, if_neg (by intro e; cases e)]
  have : visF (av N) L j + 0 = visF (av N) L j := by grind
  rw [this]
theorem visD_nil {N : Net} (h : 1 ≤ N.length) : visD N [] = frD 1 :: List.replicate (N.length - 1) (frD 0) := by
  unfold visD
  obtain ⟨n, hn⟩ : ∃ n, N.length = n + 1 := ⟨N.length - 1, by omega⟩
  rw [hn, List.range_succ_eq_map, List.map_cons, Nat.add_sub_cancel]
  have e0 : visF (av N) [] 0 = 1 := by show (1 : Rat) + 0 = 1; grind
  rw [e0]
  congr 1
  rw [List.map_map, List.eq_replicate_iff]
  refine ⟨by simp, fun d hd => ?_⟩
  obtain ⟨j, _, rfl⟩ := List.mem_map.mp hd
  show frD (visF (av N) [] (j + 1)) = _
  have : visF (av N) [] (j + 1) = 0 := by
    unfold visF
    rw [if_neg (by omega)]
    show (0 : Rat) + 0 = 0
    grind
  rw [this]
/-- a station's averages -/
def avD (N : Net) (k : Nat) : PyData := .tuple [frD (vi N k), frD (av N k)]
theorem avD_t (N : Net) (k : Nat) : TupD (avD N k) := .tup fun d hd => by
  simp only [List.mem_cons, List.not_mem_nil, or_false] at hd
  rcases hd with rfl | rfl <;> exact frD_t _
def avL (N : Net) (n : Nat) : List PyData := (List.range n).map (avD N)
theorem avL_t {N : Net} {n : Nat} : ∀ d ∈ avL N n, TupD d := fun d hd => by
  obtain ⟨j, _, rfl⟩ := List.mem_map.mp hd
  exact avD_t N j
theorem avL_succ {N : Net} {n : Nat} : avL N (n + 1) = avL N n ++ [avD N n] := by
  unfold avL
  rw [List.range_succ, List.map_append]; rfl
theorem avL_len {N : Net} {n : Nat} : (avL N n).length = n := by unfold avL; simp
theorem avL_get {N : Net} {n k : Nat} (h : k < n) : (avL N n)[k]? = some (avD N k) := by unfold avL; simp [h]
section
variable {P : Program} {w : World} {K : PySem.W.Frag} {mg : Str → Option Value} {base : Heap}
theorem x_repQ {H : Hp} {p : Addr} {xs : List V} {k : Int} {Q : VK} (h : H p = some (.lst xs)) (hk : 0 ≤ k ∧ k ≤ 1000) (hl : xs.length ≤ 1000) (q : ∀ l H', H l = none → Ex H H' → H' l = some (.lst (List.replicate k.toNat xs).flatten) → Q (.ref l) H') : rMulU K (.ref p) (.int k) H Q :=
  .inl (.inr ⟨p, k, xs, rfl, rfl, h, by omega, by omega, small (by
    have h2 : xs.length * k.toNat ≤ 1000 * 1000 := Nat.mul_le_mul hl (by omega)
    omega), x_new q⟩)
/-- the constant one -/
structure OneQ (K : PySem.W.Frag) (mg : Str → Option Value) (z : Addr) : Prop where
  g : mg "ONE" = some (.ref z)
  at1 : ∀ H, SqT K H z [.int 1, .int 1]
theorem OneQ.fr {z : Addr} (Z : OneQ K mg z) {H : Hp} : FrAt K H (.ref z) 1 := FrAt.of (Z.at1 H)
theorem pairDQ {H : Hp} {v : V} {d e : PyData} (h : Dp K H v (.tuple [d, e])) : ∃ t x y, v = .ref t ∧ SqT K H t [x, y] ∧ Dp K H x d ∧ Dp K H y e := by
  obtain ⟨t, xs, rfl, h1, h2⟩ := Dp.tup_inv h
  cases h2 with
  | cons p hs =>
    cases hs with
    | cons p2 hs =>
      cases hs
      exact ⟨t, _, _, rfl, h1, p, p2⟩
/-- the defs of the fractions -/
structure DF (K : PySem.W.Frag) (mg : Str → Option Value) (zr on : Addr) : Prop where
  low : ∃ f fd, Df K mg "lowest_terms" s_lowest_terms ["numerator", "denominator"] f fd
  gcd : mg "gcd" = some (.builtin "math.gcd")
  zero : Zero K mg zr
  one : OneQ K mg on
abbrev s_list_averages : Stmt := top 41
theorem sc_list_averages : FnScope ["network", "visitors", "averages", "station", "seats", "boats", "place"] ["network"] (defScope s_list_averages) := ⟨rfl, rfl, rfl, by decide +kernel, rfl, by decide +kernel, by decide +kernel⟩
def spAvgs (K : PySem.W.Frag) : Sp := fun vs H Q _ => ∃ (v : V) (N : Net), vs = [v] ∧ NetAt K H v N ∧ ValidN N ∧ ∀ H' l ts, Ex H H' → H l = none → H' l = some (.lst ts) → DpAll K H' ts (avL N N.length) → Q (.ref l) H'
/-- the lists of list_averages -/
structure AvS (K : PySem.W.Frag) (H0 H : Hp) (N : Net) (a b : Addr) (L : Seats) (n : Nat) : Prop where
  ex : Ex H0 H
  va : LsAt K H a (visD N L)
  ab : LsAt K H b (avL N n)
theorem AvS.ex2 {H0 H H' : Hp} {N : Net} {a b : Addr} {L : Seats} {n : Nat} (A : AvS K H0 H N a b L n) (e : Ex H H') : AvS K H0 H' N a b L n := by
  obtain ⟨xs, h1, h2⟩ := A.va.ex
  obtain ⟨ys, h3, h4⟩ := A.ab.ex
  exact ⟨A.ex.trans e, ⟨⟨xs, e _ _ h1, DpAll.ex e h2⟩⟩, ⟨⟨ys, e _ _ h3, DpAll.ex e h4⟩⟩⟩
theorem ok_list_averages {f f1 f2 zr on : Addr} {fd fd1 fd2 : FuncData} (D : Df K mg "list_averages" s_list_averages ["network"] f fd) (T : Bt mg) (D_add : Df K mg "add" s_add ["one", "other"] f1 fd1) (D_divide : Df K mg "divide" s_divide ["fraction", "integer"] f2 fd2) (DD : DF K mg zr on) :
    FnOk P w K mg base CX0 3 f fd ["network"] (spAvgs K) := by
  obtain ⟨f3, fd3, D_lowest_terms⟩ := DD.low
  have G_add : FnOk P w K mg base CX0 2 f1 fd1 _ _ := ok_add D_add D_lowest_terms DD.gcd
  have G_divide : FnOk P w K mg base CX0 2 f2 fd2 _ _ := ok_divide D_divide D_lowest_terms DD.gcd
  have G_ZERO := DD.zero.g
  have G_ONE := DD.one.g
  refine D.F.ok sc_list_averages (fun vs H Q E h => ?_) (fun cdv A outer s H vs Q E hr h => ?_)
  · obtain ⟨v, N, rfl, _⟩ := h
    rfl
  · obtain ⟨v, N, rfl, hN, hV, q⟩ := h
    refine ⟨_, (pss_cons (ps_set (i := 1) sc_list_averages.nd rfl (Or.inl rfl) (pe_op (op_addU (K := K)) (pe_lst (pa_cons (pe_glob (v := .ref on) rfl G_ONE rfl) pa_nil)) (pe_op (op_mulU (K := K)) (pe_lst (pa_cons (pe_glob (v := .ref zr) rfl G_ZERO rfl) pa_nil)) (pe_op op_sub (pe_callB (call_lenU (K := K)) (by rfl) T.b_len (by decide +kernel) (pa_cons (pv 0) pa_nil)) pe_int))))
      (pss_cons (ps_set (i := 2) sc_list_averages.nd rfl (Or.inl rfl) (pe_lst pa_nil))
      (pss_cons (ps_for PassesOwn.never rfl (pi_enumT (by rfl) T.b_enumerate (pa_cons (pv 0) pa_nil)) (pg_tup rfl (pgs_cons (pg_name (i := 3) sc_list_averages.nd rfl (Or.inl rfl)) (pgs_cons (pg_name (i := 4) sc_list_averages.nd rfl (Or.inl rfl)) pgs_nil))) (pss_cons (ps_set (i := 5) sc_list_averages.nd rfl (Or.inl rfl) (pe_call (G_divide) (hr.mono (by decide)) rfl D_divide.g D_divide.F.kp D_divide.b .nil pass0 (pa_cons (pe_ix (ix_U (K := K)) (pv 1) (pv 3) (fun _ _ => rfl)) (pa_cons (pe_callB (call_lenU (K := K)) (by rfl) T.b_len (by decide +kernel) (pa_cons (pv 4) pa_nil)) pa_nil))))
      (pss_cons (ps_expr (pe_bm PySem.F.plainAttrs_list PySem.F.slot_list_append PySem.F.type_list_append mt_append (pv 2) (pa_cons (pe_tup (pa_cons (pe_ix (ix_U (K := K)) (pv 1) (pv 3) (fun _ _ => rfl)) (pa_cons (pv 5) pa_nil))) pa_nil)))
      (pss_one (ps_for PassesOwn.never rfl (pi_U (K := K) (pv 4)) (pg_name (i := 6) sc_list_averages.nd rfl (Or.inl rfl)) (pss_one (ps_if (pt_not (pt_val (pe_callB (call_isiU (K := K)) (by rfl) T.b_isinstance (by decide +kernel) (pa_cons (pv 6) (pa_cons (pe_bltn (v := .ty "str") (by rfl) T.b_str (by decide +kernel) rfl) pa_nil))))) (pss_one (ps_asg (pe_call (G_add) (hr.mono (by decide)) rfl D_add.g D_add.F.kp D_add.b .nil pass0 (pa_cons (pe_ix (ix_U (K := K)) (pv 1) (pv 6) (fun _ _ => rfl)) (pa_cons (pv 5) pa_nil))) (pg_sub (pv 1) (pv 6) set_list))) pss_nil)))))))
      (pss_one (ps_ret (pv 2)))))), ?_⟩
    obtain ⟨na, ns, rfl, hNs, hns⟩ := hN.at
    have hnl : ns.length = N.length := by rw [hns.len, List.length_map]
    have h40 := hV.le
    have h1n := hV.pos
    walk_at "run"
    refine x_lst (by simp) fun l1 H1 n1 e1 hl1 => x_lst (by simp) fun l2 H2 n2 e2 hl2 => x_lenT (ex_t (e1.trans e2) hNs) ?_
    rw [hnl]
    walk_at "run"
    refine x_repQ hl2 ⟨by omega, by omega⟩ (by simp) fun l3 H3 n3 e3 hl3 => x_cat (e3 _ _ (e2 _ _ hl1)) hl3 (by simp; omega) fun Va H4 n4 e4 hVa => x_lst (by simp) fun Av H5 n5 e5 hAv => ?_
    have e05 : Ex H H5 := fun x o h => e5 _ _ (e4 _ _ (e3 _ _ (e2 _ _ (e1 _ _ h))))
    have nVa : H Va = none := fresh_back (fun x o h => e3 _ _ (e2 _ _ (e1 _ _ h))) n4
    have nAv : H Av = none := fresh_back (fun x o h => e4 _ _ (e3 _ _ (e2 _ _ (e1 _ _ h)))) n5
    have hne : Va ≠ Av := ne_of_none hVa n5
    have A0 : AvS K H H5 N Va Av (upTo N 0 0) 0 := by
      refine ⟨e05, ⟨⟨_, e5 _ _ hVa, ?_⟩⟩, ⟨⟨[], hAv, .nil⟩⟩⟩
      rw [upTo_zero]
      show DpAll K H5 _ (visD N [])
      rw [visD_nil h1n]
      refine .cons DD.one.fr ?_
      have e0 : ((N.length : Int) - 1).toNat = N.length - 1 := by omega
      rw [e0]
      generalize N.length - 1 = n
      induction n with
      | zero => exact .nil
      | succ n ih =>
        rw [List.replicate_succ, List.replicate_succ, List.flatten_cons]
        exact .cons DD.zero.fr ih
    refine ⟨_, _, rfl, ex_t e05 hNs, loop_it walk_enumT (fun i σ H' => ∃ u3 u4 u5 u6, σ = [some (.ref na), some (.ref Va), some (.ref Av), u3, u4, u5, u6] ∧ AvS K H H' N Va Av (upTo N i 0) i) ⟨_, _, _, _, rfl, A0⟩
      (fun i σ H' _ ⟨_, _, _, _, _, A⟩ => ex_t A.ex hNs) ?_ ?_⟩
    · rintro i x σ H6 H7 hi ⟨u3, u4, u5, u6, rfl, A6⟩ ⟨T0, x, y, rfl, hT0, rfl, hx, hy⟩
      obtain rfl : V.int (i : Nat) = x := Option.some.inj hx
      have e7 : Ex H6 (upd H6 T0 (.tup [.int (i : Nat), y])) := Ex.new hT0
      refine x_two (SqT.of upd_same) ?_
      generalize upd H6 T0 (.tup [.int (i : Nat), y]) = H7 at e7
      have A7 := A6.ex2 e7
      obtain ⟨sD, hs, hy2⟩ := hns.get' hy
      obtain ⟨s, hsN, rfl⟩ : ∃ s, N[i]? = some s ∧ stD s = sD := by simpa using hs
      obtain ⟨b, rfl, hb⟩ := StAt.at hy2
      have hiN : i < N.length := (List.getElem?_eq_some_iff.mp hsN).1
      have hg : N.getD i [] = s := by rw [List.getD_eq_getElem?_getD, hsN]; rfl
      have hs1 := hV.fwr.pos i hiN
      have hs8 := hV.len8 i
      rw [hg] at hs1 hs8
      have hb7 := ex_t A7.ex hb
      obtain ⟨vs, hva, hvs⟩ := A7.va.ex
      obtain ⟨z, hz, hzd⟩ := hvs.get (visD_get (L := upTo N i 0) hiN)
      have hvi : visF (av N) (upTo N i 0) i = vi N i := by rw [upTo_zero]; rfl
      rw [hvi] at hzd
      walk_at "run"
      refine x_ixL (SqL.of hva) (atI_nat hz) (x_lenT hb7 ?_)
      rw [List.length_map]
      have wv := vi_wd hV hiN
      refine ⟨z, vi N i, s.length, rfl, hzd, by omega, wv.2, Nat.lt_of_le_of_lt hs8 (by decide), fun H8 r e8 h8 => ?_⟩
      have hr8 : FrAt K H8 r (av N i) := by rw [av_eq, hg]; exact h8
      have A8 := A7.ex2 e8
      obtain ⟨ys, hab, hys⟩ := A8.ab.ex
      have hyl : ys.length = i := by rw [hys.len, avL_len]
      walk_at "run"
      refine ⟨x_tyL (SqL.of hab), x_ixL (SqL.of (e8 _ _ hva)) (atI_nat hz) (x_tup (by simp) fun t H9 n9 e9 h9 => ?_)⟩
      have hab9 := e9 _ _ hab
      refine x_append hab9 (by omega) fun H10 e10 h10 => ?_
      have A9 := A8.ex2 e9
      have nA9 : H Av = none := nAv
      have ex10 : Ex H H10 := fun o u h => e10 _ _ (ne_of_none h nAv) (A9.ex _ _ h)
      have tx10 : TX H9 H10 := TX.but hab9 e10
      have hTt : t ≠ Av := fun z => by rw [z] at n9; rw [n9] at hab; cases hab
      have A10 : AvS K H H10 N Va Av (upTo N i 0) (i + 1) := by
        obtain ⟨vs9, hva9, hvs9⟩ := A9.va.ex
        refine ⟨ex10, ⟨⟨vs9, e10 _ _ hne hva9, DpAll.tx tx10 hvs9 visD_t⟩⟩, ⟨⟨_, h10, ?_⟩⟩⟩
        rw [avL_succ]
        refine DpAll.append (DpAll.tx ((TX.of e9).trans tx10) hys avL_t) (.cons (.tup (SqT.of (e10 _ _ hTt h9)) (.cons ?_ (.cons ?_ .nil))) .nil)
        · exact Dp.tx ((TX.of (e8.trans e9)).trans tx10) hzd (frD_t _)
        · exact Dp.tx ((TX.of e9).trans tx10) hr8 (frD_t _)
      have hr10 : FrAt K H10 r (av N i) := Dp.tx ((TX.of e9).trans tx10) hr8 (frD_t _)
      have wa := av_wd hV hiN
      refine x_itT (ex_t ex10 hb) (loop_it walk_tup (fun k σ H' => ∃ u6, σ = [some (.ref na), some (.ref Va), some (.ref Av), some (.int (i : Nat)), some (.ref b), some r, u6] ∧ AvS K H H' N Va Av (upTo N i k) (i + 1) ∧ FrAt K H' r (av N i)) ⟨_, rfl, A10, hr10⟩ (fun k σ H' _ ⟨_, _, A, _⟩ => ex_t A.ex hb) ?_ ?_)
      · rintro k x σ H11 H11' hk ⟨u6, rfl, A11, hr11⟩ ⟨eH, hx⟩
        subst eH
        obtain ⟨p, hp, rfl⟩ : ∃ p, s[k]? = some p ∧ kV p = x := by simpa using hx
        have hup : upTo N i (k + 1) = upTo N i k ++ [(i, p)] := upTo_succ (by rw [hg]; exact hp)
        cases p with
        | inr y =>
          walk_at "run"
          rw [if_neg (by simp)]
          refine ⟨_, rfl, ?_, hr11⟩
          rw [hup]
          exact ⟨A11.ex, by rw [visD_str]; exact A11.va, A11.ab⟩
        | inl j =>
          have hj := hV.fwr.fw i hiN j (by rw [hg]; exact List.mem_of_getElem? hp)
          obtain ⟨m, rfl⟩ : ∃ m : Nat, j = (m : Int) := ⟨j.toNat, by omega⟩
          have hm : m < N.length := by omega
          obtain ⟨ws, hwa, hws⟩ := A11.va.ex
          have hwl : ws.length = N.length := by rw [hws.len, visD_len]
          obtain ⟨c, hc, hcd⟩ := hws.get (visD_get (L := upTo N i k) hm)
          walk_at "run"
          rw [if_pos (by simp)]
          refine x_ixL (SqL.of hwa) (atI_nat hc) ⟨c, r, _, av N i, rfl, hcd, hr11, vis_wd hV hiN hm, wa, fun H12 r2 e12 h12 => ?_⟩
          walk_at "run"
          refine x_setL (e12 _ _ hwa) (ixN_in (n := ws.length) (by omega) (by omega)) fun H13 e13 h13 => ?_
          have A12 := A11.ex2 e12
          have tx13 : TX H12 H13 := TX.but (e12 _ _ hwa) e13
          obtain ⟨zs, hzb, hzs⟩ := A12.ab.ex
          refine ⟨_, rfl, ⟨fun o u h => e13 _ _ (ne_of_none h nVa) (A12.ex _ _ h), ⟨⟨_, h13, ?_⟩⟩, ⟨⟨zs, e13 _ _ hne.symm hzb, DpAll.tx tx13 hzs avL_t⟩⟩⟩, Dp.tx ((TX.of e12).trans tx13) hr11 (frD_t _)⟩
          rw [hup, visD_set hm, Int.toNat_natCast]
          exact DpAll.set (DpAll.tx ((TX.of e12).trans tx13) hws visD_t) (Dp.tx tx13 h12 (frD_t _))
      · rintro σ H11 ⟨u6, rfl, A11, _⟩
        refine ⟨_, _, _, _, rfl, ?_⟩
        rw [upTo_len (by rw [hg, List.length_map]; exact Nat.le_refl _)] at A11
        rw [upTo_zero]
        exact A11
    · rintro σ H6 ⟨u3, u4, u5, u6, rfl, A⟩
      obtain ⟨ys, hab, hys⟩ := A.ab.ex
      rw [hnl] at hys
      walk_at "run"
      exact q H6 Av ys A.ex nAv hab hys
end
section
variable {P : Program} {w : World} {K : PySem.W.Frag} {mg : Str → Option Value} {base : Heap}
/-- the defs that check a network, and those of the averages -/
structure DR (K : PySem.W.Frag) (mg : Str → Option Value) (zr on : Addr) : Prop where
  is_word : ∃ f fd, Df K mg "is_word" s_is_word ["text"] f fd
  is_place : ∃ f fd, Df K mg "is_place" s_is_place ["place", "station", "stations"] f fd
  check_network : ∃ f fd, Df K mg "check_network" s_check_network ["network"] f fd
  add : ∃ f fd, Df K mg "add" s_add ["one", "other"] f fd
  divide : ∃ f fd, Df K mg "divide" s_divide ["fraction", "integer"] f fd
  list_averages : ∃ f fd, Df K mg "list_averages" s_list_averages ["network"] f fd
  df : DF K mg zr on
abbrev s_period : Stmt := top 40
theorem sc_period : FnScope ["network", "arrivals", "_", "boats"] ["network"] (defScope s_period) := ⟨rfl, rfl, rfl, by decide +kernel, rfl, by decide +kernel, by decide +kernel⟩
def spPeriod (K : PySem.W.Frag) : Sp := fun vs H Q _ => ∃ (v : V) (N : Net), vs = [v] ∧ NetAt K H v N ∧ ValidN N ∧ ∀ H', Ex H H' → Q (.int ((perN N N.length : Nat) : Int)) H'
theorem ok_period {f zr on : Addr} {fd : FuncData} (D : Df K mg "period" s_period ["network"] f fd) (T : Bt mg) (Ck : Ct K mg) (DD : DR K mg zr on) (hlcm : mg "lcm" = some (.builtin "math.lcm")) : FnOk P w K mg base CX0 5 f fd ["network"] (spPeriod K) := by
  obtain ⟨f1, fd1, D_is_word⟩ := DD.is_word
  obtain ⟨f2, fd2, D_is_place⟩ := DD.is_place
  obtain ⟨f3, fd3, D_check_network⟩ := DD.check_network
  obtain ⟨f4, fd4, D_add⟩ := DD.add
  obtain ⟨f5, fd5, D_divide⟩ := DD.divide
  obtain ⟨f6, fd6, D_list_averages⟩ := DD.list_averages
  have G_check_network : FnOk P w K mg base CX0 4 f3 fd3 _ _ := ok_check_network0 D_check_network T Ck D_is_word D_is_place
  have G_list_averages : FnOk P w K mg base CX0 3 f6 fd6 _ _ := ok_list_averages D_list_averages T D_add D_divide DD.df
  refine D.F.ok sc_period (fun vs H Q E h => ?_) (fun cdv A outer s H vs Q E hr h => ?_)
  · obtain ⟨v, N, rfl, _⟩ := h
    rfl
  · obtain ⟨v, N, rfl, hN, hV, q⟩ := h
    refine ⟨_, (pss_cons (ps_expr (pe_call (G_check_network) (hr.mono (by decide)) rfl D_check_network.g D_check_network.F.kp D_check_network.b .nil pass0 (pa_cons (pv 0) pa_nil)))
      (pss_cons (ps_set (i := 1) sc_period.nd rfl (Or.inl rfl) pe_int)
      (pss_cons (ps_for PassesOwn.never rfl (pi_U (K := K) (pe_call (G_list_averages) (hr.mono (by decide)) rfl D_list_averages.g D_list_averages.F.kp D_list_averages.b .nil pass0 (pa_cons (pv 0) pa_nil))) (pg_tup rfl (pgs_cons (pg_name (i := 2) sc_period.nd rfl (Or.inl rfl)) (pgs_cons (pg_name (i := 3) sc_period.nd rfl (Or.inl rfl)) pgs_nil))) (pss_one (ps_set (i := 1) sc_period.nd rfl (Or.inl rfl) (pe_callBfun call_lcmU (by rfl) hlcm (pa_cons (pv 1) (pa_cons (pe_ix (ix_U (K := K)) (pv 3) pe_int (fun _ _ => rfl)) pa_nil))))))
      (pss_one (ps_ret (pv 1)))))), ?_⟩
    walk_at "run"
    refine ⟨v, N, rfl, hN, hV, fun H1 e1 => ⟨v, N, rfl, Dp.ex e1 hN, hV, fun H2 l ts e2 nl hl hts => ?_⟩⟩
    have htl : ts.length = N.length := by rw [hts.len, avL_len]
    have h40 := hV.le
    refine x_itL (SqL.of hl) (loop_it walk_list (fun i σ H' => ∃ u2 u3, σ = [some v, some (.int ((perN N i : Nat) : Int)), u2, u3] ∧ Ex H2 H') ⟨_, _, rfl, Ex.refl H2⟩ (fun i σ H' _ ⟨_, _, _, e⟩ => SqL.of (e _ _ hl)) ?_ ?_)
    · rintro i x σ H3 H3' hi ⟨u2, u3, rfl, e3⟩ ⟨eH, hx⟩
      subst eH
      have hiN : i < N.length := by omega
      obtain ⟨d, hd, hxd⟩ := hts.get' hx
      rw [avL_get hiN] at hd
      cases hd
      obtain ⟨t, a, b, rfl, hT, ha, hb⟩ := pairDQ (Dp.ex e3 hxd)
      obtain ⟨c, rfl, hc⟩ := FrAt.at hb
      refine x_two hT ?_
      walk_at "run"
      refine x_ixT hc (v := .int ((av N i).den : Int)) rfl ⟨perN N i, (av N i).den, rfl, ?_, ?_, ⟨_, _, rfl, e3⟩⟩
      · exact Nat.lt_of_le_of_lt (Nat.le_of_dvd (prodN_pos hV.fwr (by omega)) (perN_dvd hV.fwr (show i ≤ N.length by omega))) (Nat.lt_of_le_of_lt (Nat.le_trans (prodN_le hV.len8 i) (p8 (by omega))) (by decide))
      · exact Nat.lt_of_le_of_lt (Nat.le_of_dvd (prodN_pos hV.fwr (Nat.le_refl _)) (av_den hV.fwr hiN (Nat.le_refl _))) (Nat.lt_of_le_of_lt (Nat.le_trans (prodN_le hV.len8 _) (p8 (by omega))) (by decide))
    · rintro σ H3 ⟨u2, u3, rfl, e3⟩
      rw [htl]
      walk_at "run"
      exact q H3 (e1.trans (e2.trans e3))
end
local macro_rules | `(tactic| walk_at "run") => `(tactic| try simp only [tSeq, tAsg, tVar, tC, gName, L2.start, List.map_cons, List.map_nil, List.cons_append, List.nil_append, List.length_cons, List.length_nil, List.replicate, List.getElem?_cons_zero, List.getElem?_cons_succ, Option.some.injEq, exists_eq_left', List.set_cons_zero, List.set_cons_succ, V.ref.injEq, tRet, x_tLst, x_tTup, tCons, tCB, tNil, tOp, x_addI, x_mulI, x_rI, x_rI0, x_ltI, x_leI, x_ltS, x_leS, x_eqI, x_neI, x_eqS, x_eqB, x_neB, x_isiI, x_isiS, x_int, x_max, x_min, cxOf, tIfS, tNext, tTest, V.bl.injEq, decide_eq_true_eq, gSub, tAnd, tOr, tNot, tB, tDrop, tBM, x_tFor, iRng1, iList, iTup, x_tLc, tYes, tCall, tIf, tAndV, tOrV, tNotV, tChain, List.append_nil, tUn, if_true, wipe, true_and, x_never, iU, x_itS, kV, Nat.reduceAdd, Nat.reduceSub, List.replicate_zero, x_rU, x_tMkO, iEnumT, x_tDc, x_tDGet, x_tDGet2, x_sDPut, x_tDSetd, x_tDNewK, x_iItems, x_iZip, x_tSAddK, x_tLockV, x_tTupRg, x_tRg2, tPar, tPar3, tBM0, tSl, tNoPart, tPart, x_tSetAdd, x_tDIn, x_iKeys, x_iZipX, x_iZip3, iRevR, tRg1, x_tFld, x_tMeth, x_sFld, x_tMake, tAug, x_ipI, x_tDNotIn, iRng2, tAugS, tBMZ, tTupZ])
/-! find_phases, by the program -/
section
variable {P : Program} {w : World} {K : PySem.W.Frag} {mg : Str → Option Value} {base : Heap}
abbrev s_find_phases : Stmt := top 50
theorem sc_find_phases : FnScope ["network", "candidates", "arrivals", "phases", "candidate", "cycle", "phase", "lengths"] ["network", "candidates"] (defScope s_find_phases) := ⟨rfl, rfl, rfl, by decide +kernel, rfl, by decide +kernel, by decide +kernel⟩
theorem cyL_len {N : Net} {q0 : Qs} : ∀ n, (cyRun N q0 n).L.length = n
  | 0 => rfl
  | n + 1 => by show (_ ++ [_]).length = _; rw [List.length_append, cyL_len n]; rfl
theorem cyA_len {N : Net} {q0 : Qs} : ∀ n, (cyRun N q0 n).A.length = n
  | 0 => rfl
  | n + 1 => by show (_ ++ [_]).length = _; rw [List.length_append, cyA_len n]; rfl
def spPhs (K : PySem.W.Frag) (C : Addr) : Sp := fun vs H Q _ => ∃ (v : V) (N : Net) (cl : Addr) (cs : List (List Int)), vs = [v, .ref cl] ∧ NetAt K H v N ∧ ValidN N ∧ N.length ≤ 8 ∧ RawL H cl cs ∧ (∀ c ∈ cs, Lens N c) ∧ cs.length ≤ 1000 ∧ perN N N.length ≤ 800 ∧
  ∀ H' d, Ex H H' → PhAt K C H' (fun x => H x = none) N (perN N N.length) d (phF N (perN N N.length) (fun _ => none) cs) 1000000 → Q (.ref d) H'
theorem ok_find_phases {C f f1 f2 : Addr} {fd fd1 fd2 : FuncData} (D : Df K mg "find_phases" s_find_phases ["network", "candidates"] f fd) (T : Bt mg) (F : CF K C) (D_period : Df K mg "period" s_period ["network"] f1 fd1) (G_period : FnOk P w K mg base CX0 5 f1 fd1 ["network"] (spPeriod K))
    (C_Cycle : Cf K mg "Cycle" "Cycle.__init__" C s_Cycle___init ["self", "network", "lengths", "period"] f2 fd2) (G_Cycle : FnOk P w K mg base CX0 19 f2 fd2 ["self", "network", "lengths", "period"] (spCyI K C)) : FnOk P w K mg base CX0 21 f fd ["network", "candidates"] (spPhs K C) := by
  refine D.F.ok sc_find_phases (fun vs H Q E h => ?_) (fun cdv A outer s H vs Q E hr h => ?_)
  · obtain ⟨v, N, cl, cs, rfl, _⟩ := h
    rfl
  · obtain ⟨v, N, cl, cs, rfl, hN, hV, h8, hcl, hL, hcs, hp, q⟩ := h
    have hu1 := hu_of hr
    refine ⟨_, (pss_cons (ps_set (i := 2) sc_find_phases.nd rfl (Or.inl rfl) (pe_call (G_period) (hr.mono (by decide)) rfl D_period.g D_period.F.kp D_period.b .nil pass0 (pa_cons (pv 0) pa_nil)))
      (pss_cons (ps_set (i := 3) sc_find_phases.nd rfl (Or.inl rfl) pe_dnewT)
      (pss_cons (ps_for PassesOwn.never rfl (pi_U (K := K) (pv 1)) (pg_name (i := 4) sc_find_phases.nd rfl (Or.inl rfl)) (pss_one (ps_if (pt_cmp (pc_dnotin hu1 (pv 4) (pv 3))) (pss_cons (ps_set (i := 5) sc_find_phases.nd rfl (Or.inl rfl) (pe_make C_Cycle.mkK (G_Cycle) (hr.mono (by decide)) rfl C_Cycle.g C_Cycle.b .nil pass0 (pa_cons (pv 0) (pa_cons (pv 4) (pa_cons (pv 2) pa_nil)))))
      (pss_one (ps_for PassesOwn.never rfl (pi_enum (by rfl) T.b_enumerate (pa_cons (pe_fld (pv 5) rfl) pa_nil)) (pg_tup rfl (pgs_cons (pg_name (i := 6) sc_find_phases.nd rfl (Or.inl rfl)) (pgs_cons (pg_name (i := 7) sc_find_phases.nd rfl (Or.inl rfl)) pgs_nil))) (pss_one (ps_dput hu1 (pv 3) (pv 7) (pe_tup (pa_cons (pv 5) (pa_cons (pv 6) pa_nil))) rfl))))) pss_nil)))
      (pss_one (ps_ret (pv 3)))))), ?_⟩
    walk_at "run"
    refine ⟨v, N, rfl, hN, hV, fun H1 e1 => ?_⟩
    have hpe : perN N N.length = perN N N.length := rfl
    generalize hper : perN N N.length = per at hp q
    intro d nd
    have ed := Ex.new (o := .dT []) nd
    have hd0 : upd H1 d (.dT []) d = some (.dT []) := upd_same
    generalize upd H1 d (.dT []) = H2 at ed hd0
    have e02 := e1.trans ed
    obtain ⟨bs, b1, b2, b3⟩ := hcl.ex
    walk_at "run"
    refine x_itL (SqL.of (e02 _ _ b1)) (loop_it walk_list (fun i σ H' => ∃ u4 u5 u6 u7, σ = [some v, some (V.ref cl), some (V.int (per : Int)), some (V.ref d), u4, u5, u6, u7] ∧ Ex H H' ∧ PhAt K C H' (fun x => H x = none) N per d (phF N per (fun _ => none) (cs.take i)) (per * i)) ⟨_, _, _, _, rfl, e02, ⟨⟨[], hd0, Nat.zero_le _, fun l => rfl⟩, fresh_back e1 nd⟩⟩ (fun i σ H' _ ⟨_, _, _, _, _, e, _⟩ => SqL.of (e _ _ b1)) ?_ ?_)
    · rintro i x σ H0 H3 hi ⟨u4, u5, u6, u7, rfl, e3, W⟩ ⟨eH, hx⟩
      subst eH
      obtain ⟨b, hb, rfl⟩ : ∃ b, bs[i]? = some b ∧ V.ref b = x := by simpa using hx
      have hic : i < cs.length := by rw [← b2]; exact (List.getElem?_eq_some_iff.mp hb).1
      obtain ⟨c, hc⟩ : ∃ c, cs[i]? = some c := ⟨_, List.getElem?_eq_getElem hic⟩
      have hbc := (b3 i b c hb hc).tx (TX.of e3)
      have hst : phF N per (fun _ => none) (cs.take (i + 1)) = phStep N per (phF N per (fun _ => none) (cs.take i)) c := by
        rw [List.take_add_one, hc]
        exact phF_snoc
      rw [hst]
      have hmul : per * i ≤ 800 * 1000 := Nat.mul_le_mul hp (by omega)
      have hmul1 : per * (i + 1) = per * i + per := Nat.mul_succ per i
      generalize phF N per (fun _ => none) (cs.take i) = F0 at W
      obtain ⟨kvs, k1, k2, k3⟩ := W.ex
      walk_at "run"
      refine x_dNotInT k1 hbc ⟨_, rfl, ?_⟩
      have hiso : (valV kvs (c.map Sum.inl)).isSome = (F0 c).isSome := by
        have := k3 c
        cases hF : F0 c with
        | none => rw [hF] at this; have this : valV kvs (c.map Sum.inl) = none := this; rw [this]; rfl
        | some p =>
          rw [hF] at this
          obtain ⟨t0, M, a1, _⟩ := this
          rw [a1]; rfl
      rw [hiso]
      unfold phStep
      cases hF : (F0 c).isSome with
      | true =>
        rw [if_neg (by simp), if_pos rfl]
        have W' : PhAt K C H3 (fun x => H x = none) N per d F0 (per * (i + 1)) := ⟨⟨kvs, k1, by omega, k3⟩, W.fd⟩
        exact ⟨_, _, _, _, rfl, e3, W'⟩
      | false =>
        rw [if_pos (by rfl), if_neg (by simp)]
        walk_at "run"
        refine x_make fun a dx H4 na e4 ha => ?_
        refine ⟨a, dx, v, N, per, c, b, rfl, ha, (hN.ex e3).ex e4, hV, h8, hbc.tx (TX.of e4), hL c (List.mem_of_getElem? hc), hp, fun H5 M hMa e5 WM => ⟨rfl, ?_⟩⟩
        have e35 : Ex H3 H5 := fun x o h => e5 _ _ (ne_of_none h na) (e4 _ _ h)
        have WM2 : CyT K C H5 (fun x => H x = none) N per (cyOf N per c) M (1040 * per) := WM.mono fun x o _ f => by
          rcases f with rfl | f
          · exact fresh_back e3 na
          · exact fresh_back (e3.trans e4) f
        have WP := W.keep (fun x o _ h => e35 _ _ h) (TX.of e35)
        have hLl : (cyOf N per c).L.length = per := cyL_len per
        generalize cyOf N per c = S at WM2 hLl
        have e05 := e3.trans e35
        subst hMa
        walk_at "run"
        dsimp only [iEnum]
        walk_at "run"
        refine x_fld WM2.ins F.c F.lengths_at cy_lengths_at ?_
        obtain ⟨ls, l1, l2, l3⟩ := WM2.la.ex
        have hlsl : ls.length = per := by rw [l2, hLl]
        refine ⟨M.La, ls.map V.ref, rfl, SqL.of l1, ?_⟩
        refine loop_it walk_enum (fun j σ H' => ∃ u6 u7, σ = [some v, some (V.ref cl), some (V.int (per : Int)), some (V.ref d), some (V.ref b), some (V.ref M.a), u6, u7] ∧ Ex H H' ∧ CyT K C H' (fun x => H x = none) N per S M (1040 * per) ∧ PhAt K C H' (fun x => H x = none) N per d (phCy F0 S j) (per * i + j) ∧ H' M.La = some (.lst (ls.map V.ref)) ∧ (∀ k (b : Addr) l, ls[k]? = some b → S.L[k]? = some l → RawT H' b l)) ⟨_, _, rfl, e05, WM2, WP, l1, l3⟩ (fun j σ H' _ ⟨_, _, _, _, _, _, h, _⟩ => SqL.of h) ?_ ?_
        · rintro j y σ H6 H7 hj ⟨u6, u7, rfl, e6, WM6, WP6, l6, r6⟩ ⟨T0, y1, y2, rfl, hT0, rfl, hy1, hy2⟩
          have e7 : Ex H6 (upd H6 T0 (.tup [y1, y2])) := Ex.new hT0
          refine x_two (SqT.of upd_same) ?_
          generalize upd H6 T0 (.tup [y1, y2]) = H7 at e7
          obtain rfl : V.int (j : Nat) = y1 := by simpa using hy1
          obtain ⟨lb, hlb, rfl⟩ : ∃ lb, ls[j]? = some lb ∧ V.ref lb = y2 := by simpa using hy2
          have hjl : j < S.L.length := by rw [← l2]; exact (List.getElem?_eq_some_iff.mp hlb).1
          obtain ⟨l, hl⟩ : ∃ l, S.L[j]? = some l := ⟨_, List.getElem?_eq_getElem hjl⟩
          walk_at "run"
          refine x_tup (by simp) fun t H8 nt e8 ht => ?_
          have e68 := e7.trans e8
          have WP8 := WP6.keep (fun x o _ h => e68 _ _ h) (TX.of e68)
          have WM8 := WM6.ex e68
          obtain ⟨ks, g1, g2, _⟩ := WP8.ex
          have hjp : j < per := by omega
          refine x_dputT g1 ((r6 j lb l hlb hl).tx (TX.of e68)) (by omega) fun H9 e9 h9 => ⟨_, _, rfl, ?_, ?_, ?_, ?_, ?_⟩
          · exact fun x o h => e9 _ _ (fun z => by have := WP.fd; rw [← z, h] at this; cases this) (e68 _ _ (e6 _ _ h))
          · exact WM8.butT g1 e9
          · have hg : S.L.getD j [] = l := by rw [List.getD_eq_getElem?_getD, hl]; rfl
            show PhAt K C H9 _ N per d (phPut (phCy F0 S j) (S.L.getD j []) S j) (per * i + (j + 1))
            rw [hg]
            exact WP8.put (l := l) (t := t) (M := M) g1 e9 h9 ht WM8
          · exact e9 _ _ (fun z => by have := e68 _ _ l6; rw [z, g1] at this; cases this) (e68 _ _ l6)
          · exact fun k b l hb hl => (r6 k b l hb hl).tx ((TX.of e68).trans fun x o hx c => e9 _ _ (fun z => by rw [z, g1] at hx; cases hx; cases c) hx)
        · rintro σ H6 ⟨u6, u7, rfl, e6, WM6, WP6, l6, r6⟩
          rw [List.length_map, hlsl] at WP6
          exact ⟨_, _, _, _, rfl, e6, by rw [hmul1]; exact WP6⟩
    · rintro σ H3 ⟨u4, u5, u6, u7, rfl, e3, W⟩
      have e : cs.take (bs.map V.ref).length = cs := by rw [List.length_map, b2, List.take_length]
      rw [e, List.length_map, b2] at W
      walk_at "run"
      refine q H3 d e3 ?_
      obtain ⟨kvs, k1, k2, k3⟩ := W.ex
      have : per * cs.length ≤ 800 * 1000 := Nat.mul_le_mul hp hcs
      exact ⟨⟨kvs, k1, by omega, k3⟩, W.fd⟩
end
/-! class Observer: where it stands; check_port, check_passengers, list_rows, list_finishers -/
structure Ob where
  a : Addr
  dx : Addr
  v : V
  kp : Addr
  rem : Addr
  ph : Addr
  ob : Addr
def Ob.fs (M : Ob) : List (Str × V) := [("network", M.v), ("known_ports", .ref M.kp), ("remaining", .ref M.rem), ("phases", .ref M.ph), ("observations", .ref M.ob)]
structure OF (K : PySem.W.Frag) (C : Addr) : Prop where
  c : Cls K C
  network : NoAttr K C "network"
  known_ports : NoAttr K C "known_ports"
  remaining : NoAttr K C "remaining"
  phases : NoAttr K C "phases"
  observations : NoAttr K C "observations"
section
variable {M : Ob}
theorem ob_known_ports : M.fs.lookup ("known_ports" : Str) = some (.ref M.kp) := by
  unfold Ob.fs
  rw [lk_ne (by decide +kernel)]
  exact lk_eq
theorem ob_remaining : M.fs.lookup ("remaining" : Str) = some (.ref M.rem) := by
  unfold Ob.fs
  rw [lk_ne (by decide +kernel), lk_ne (by decide +kernel)]
  exact lk_eq
theorem ob_phases : M.fs.lookup ("phases" : Str) = some (.ref M.ph) := by
  unfold Ob.fs
  rw [lk_ne (by decide +kernel), lk_ne (by decide +kernel), lk_ne (by decide +kernel)]
  exact lk_eq
theorem ob_observations : M.fs.lookup ("observations" : Str) = some (.ref M.ob) := by
  unfold Ob.fs
  rw [lk_ne (by decide +kernel), lk_ne (by decide +kernel), lk_ne (by decide +kernel), lk_ne (by decide +kernel)]
  exact lk_eq
theorem ob_no {m : Str} (h1 : ((m : Str) == ("network" : Str)) = false) (h2 : ((m : Str) == ("known_ports" : Str)) = false) (h3 : ((m : Str) == ("remaining" : Str)) = false) (h4 : ((m : Str) == ("phases" : Str)) = false) (h5 : ((m : Str) == ("observations" : Str)) = false) : M.fs.lookup m = none := by
  unfold Ob.fs
  rw [lk_ne h1, lk_ne h2, lk_ne h3, lk_ne h4, lk_ne h5]
  rfl
end
/-- an observer: what it knows, what remains, what it has seen. Gp: where it may stand -/
structure ObT (K : PySem.W.Frag) (CO CC : Addr) (H : Hp) (Gp : Addr → Prop) (N : Net) (per : Nat) (zs : List Str) (cs : List (List Int)) (F : PhF) (os : List PyData) (M : Ob) : Prop where
  ins : H M.a = some (.ins CO M.dx M.fs)
  ga : Gp M.a
  net : NetAt K H M.v N
  kp : H M.kp = some (.lst (zs.map V.str))
  gk : Gp M.kp
  rem : RawL H M.rem cs
  gr : Gp M.rem
  ph : PhAt K CC H (fun x => Gp x ∧ x ≠ M.a ∧ x ≠ M.ob) N per M.ph F 1000000
  ob : LsAt K H M.ob os
  go : Gp M.ob
  ot : ∀ d ∈ os, TupD d
  ko : M.kp ≠ M.ob
  ro : M.rem ≠ M.ob
section
variable {K : PySem.W.Frag} {CO CC : Addr} {H H' : Hp} {Gp : Addr → Prop} {N : Net} {per : Nat} {zs : List Str} {cs : List (List Int)} {F : PhF} {os : List PyData} {M : Ob}
theorem ObT.keep (W : ObT K CO CC H Gp N per zs cs F os M) (e : ∀ x o, Gp x → H x = some o → H' x = some o) (t : TX H H') : ObT K CO CC H' Gp N per zs cs F os M :=
  ⟨e _ _ W.ga W.ins, W.ga, NetAt.tx t W.net, e _ _ W.gk W.kp, W.gk, W.rem.tx t fun o => e _ _ W.gr, W.gr, W.ph.keep (fun x o f => e x o f.1) t, W.ob.tx W.ot t fun o => e _ _ W.go, W.go, W.ot, W.ko, W.ro⟩
theorem ObT.ex (W : ObT K CO CC H Gp N per zs cs F os M) (e : Ex H H') : ObT K CO CC H' Gp N per zs cs F os M := W.keep (fun x o _ h => e x o h) (TX.of e)
end
/-- the row that a candidate promises -/
def rowF (F : PhF) (per : Nat) (k : Key) (n : Int) (c : List Int) : Option Row := match F c with
  | some (S, ph) => cyRow per S ph k n
  | none => none
/-- the candidate's cycle is known, and its rows are short -/
def OkF (F : PhF) (k : Key) (c : List Int) : Prop := ∃ S ph, F c = some (S, ph) ∧ ph < S.A.length ∧ ∀ r ∈ S.R k, r.1.length ≤ 100
def finF (F : PhF) (per : Nat) (k : Key) (n : Int) (c : List Int) : Int := match rowF F per k n c with
  | some r => r.1.getD 0 0
  | none => 0
/-- a list of candidates and their rows -/
def PrsAt (K : PySem.W.Frag) (H : Hp) (l : Addr) (rs : List (List Int × PyData)) : Prop := ∃ ts : List Addr, H l = some (.lst (ts.map V.ref)) ∧ ts.length = rs.length ∧ ∀ (i : Nat) (t : Addr) (r : List Int × PyData), ts[i]? = some t → rs[i]? = some r → ∃ b y, H t = some (.tup [.ref b, y]) ∧ RawT H b r.1 ∧ Dp K H y r.2 ∧ TupD r.2
section
variable {K : PySem.W.Frag} {H H' : Hp} {l t b : Addr} {y : V} {rs : List (List Int × PyData)} {r : List Int × PyData} {xs : List V}
theorem PrsAt.tx (W : PrsAt K H l rs) (t : TX H H') (k : ∀ o, H l = some o → H' l = some o) : PrsAt K H' l rs := by
  obtain ⟨ts, h1, h2, h3⟩ := W
  exact ⟨ts, k _ h1, h2, fun i a r g1 g2 => by
    obtain ⟨b, y, a1, a2, a3, a4⟩ := h3 i a r g1 g2
    exact ⟨b, y, t _ _ a1 trivial, a2.tx t, Dp.tx t a3 a4, a4⟩⟩
theorem PrsAt.snoc (W : PrsAt K H l rs) (g : H l = some (.lst xs)) (tx : TX H H') (k : H' l = some (.lst (xs ++ [.ref t]))) (ht : H' t = some (.tup [.ref b, y])) (hb : RawT H' b r.1) (hy : Dp K H' y r.2) (td : TupD r.2) : PrsAt K H' l (rs ++ [r]) := by
  obtain ⟨ts, h1, h2, h3⟩ := W
  rw [h1] at g
  obtain rfl : ts.map V.ref = xs := by cases g; rfl
  refine ⟨ts ++ [t], by rw [List.map_append]; exact k, by simp [h2], fun i a r' g1 g2 => ?_⟩
  rcases Nat.lt_or_ge i ts.length with q | q
  · rw [List.getElem?_append_left q] at g1
    rw [List.getElem?_append_left (h2 ▸ q)] at g2
    obtain ⟨b, y, a1, a2, a3, a4⟩ := h3 i a r' g1 g2
    exact ⟨b, y, tx _ _ a1 trivial, a2.tx tx, Dp.tx tx a3 a4, a4⟩
  · rw [List.getElem?_append_right q] at g1
    rw [List.getElem?_append_right (h2 ▸ q)] at g2
    have hi : i - ts.length = 0 := by
      obtain ⟨w, _⟩ := List.getElem?_eq_some_iff.mp g1
      simp at w
      omega
    rw [hi] at g1
    rw [← h2, hi] at g2
    cases g1
    cases g2
    exact ⟨b, y, ht, hb, hy, td⟩
theorem PrsAt.lst (W : PrsAt K H l rs) : ∃ xs, H l = some (.lst xs) ∧ xs.length = rs.length := by
  obtain ⟨ts, h1, h2, _⟩ := W
  exact ⟨_, h1, by simpa using h2⟩
end
section
variable {P : Program} {w : World} {K : PySem.W.Frag} {mg : Str → Option Value} {base : Heap}
abbrev s_check_passengers_o : Stmt := top 47
theorem sc_check_passengers_o : FnScope ["passengers"] ["passengers"] (defScope s_check_passengers_o) := ⟨rfl, rfl, rfl, by decide +kernel, rfl, by decide +kernel, by decide +kernel⟩
def spCkP1 (K : PySem.W.Frag) : Sp := fun vs H Q _ => ∃ (a : Addr) (x : Int), vs = [.ref a] ∧ SqT K H a [.int x] ∧ 0 ≤ x ∧ Q .non H
theorem ok_check_passengers_o {f : Addr} {fd : FuncData} (D : Dfa K mg "check_passengers_observers" "check_passengers" s_check_passengers_o ["passengers"] f fd) (T : Bt mg) : FnOk P w K mg base CX0 1 f fd ["passengers"] (spCkP1 K) := by
  refine D.F.ok sc_check_passengers_o (fun vs H Q E h => ?_) (fun cdv A outer s H vs Q E hr h => ?_)
  · obtain ⟨a, x, rfl, _⟩ := h
    rfl
  · obtain ⟨a, x, rfl, hT, hx, q⟩ := h
    refine ⟨_, (pss_one (ps_if (pt_cmpR (op_ltU) (pe_callB (cr_minT (K := K) rfl) (by rfl) T.b_min (by decide +kernel) (pa_cons (pv 0) pa_nil)) pe_int (nomark _)) pss_never pss_nil)), ?_⟩
    walk_at "run"
    refine x_min1 hT ?_
    walk_at "run"
    rw [if_neg (by omega)]
    exact q
abbrev s_Observer_check_port : Stmt := inClass (top 46) 9
theorem sc_Observer_check_port : FnScope ["self", "port"] ["self", "port"] (defScope s_Observer_check_port) := ⟨rfl, rfl, rfl, by decide +kernel, rfl, by decide +kernel, by decide +kernel⟩
def spCkPort (K : PySem.W.Frag) (CO CC : Addr) : Sp := fun vs H Q _ => ∃ (Gp : Addr → Prop) (N : Net) (per : Nat) (zs : List Str) (cs : List (List Int)) (F : PhF) (os : List PyData) (M : Ob) (z : Str), vs = [.ref M.a, .str z] ∧ ObT K CO CC H Gp N per zs cs F os M ∧ z ∈ zs ∧ Q .non H
theorem ok_check_port {CO CC f : Addr} {fd : FuncData} (D : Mf K CO "check_port" "Observer.check_port" s_Observer_check_port ["self", "port"] f fd) (T : Bt mg) (F : OF K CO) : FnOk P w K mg base CX0 1 f fd ["self", "port"] (spCkPort K CO CC) := by
  refine D.F.ok sc_Observer_check_port (fun vs H Q E h => ?_) (fun cdv A outer s H vs Q E hr h => ?_)
  · obtain ⟨Gp, N, per, zs, cs, F, os, M, z, rfl, _⟩ := h
    rfl
  · obtain ⟨Gp, N, per, zs, cs, F0, os, M, z, rfl, W, hz, q⟩ := h
    refine ⟨_, (pss_one (ps_if (pt_cmpR ((op_notInU (K := K) (P := P) (w := w))) (pv 1) (pe_fld (pv 0) rfl) (by rfl)) pss_never pss_nil)), ?_⟩
    walk_at "run"
    refine x_fld W.ins F.c F.known_ports ob_known_ports ?_
    refine .inl ⟨M.kp, _, rfl, .inl (SqL.of W.kp), rfl, by rw [List.all_map]; exact List.all_eq_true.mpr fun _ _ => rfl, ?_⟩
    rw [if_pos rfl, inV_strs, decide_eq_true hz]
    refine ⟨_, rfl, ?_⟩
    rw [if_neg (by decide)]
    exact q
end
/-! Observer.list_rows, list_finishers, candidates, history, possible_finishers -/
section
variable {P : Program} {w : World} {K : PySem.W.Frag} {mg : Str → Option Value} {base : Heap}
abbrev s_Observer_list_rows : Stmt := inClass (top 46) 10
theorem sc_Observer_list_rows : FnScope ["self", "place", "number", "rows", "candidate", "cycle", "phase"] ["self", "place", "number"] (defScope s_Observer_list_rows) := ⟨rfl, rfl, rfl, by decide +kernel, rfl, by decide +kernel, by decide +kernel⟩
def spRows (K : PySem.W.Frag) (CO CC : Addr) : Sp := fun vs H Q _ => ∃ (Gp : Addr → Prop) (N : Net) (per : Nat) (zs : List Str) (cs : List (List Int)) (F : PhF) (os : List PyData) (M : Ob) (k : Key) (n : Int), vs = [.ref M.a, kV k, .int n] ∧ ObT K CO CC H Gp N per zs cs F os M ∧ cs.length ≤ 1000 ∧ per ≤ 800 ∧ 1 ≤ n ∧ n ≤ 1000000 ∧ (∀ c ∈ cs, OkF F k c) ∧
  ∀ H' l, Ex H H' → H l = none → PrsAt K H' l (cs.map fun c => (c, rowV (rowF F per k n c))) → Q (.ref l) H'
theorem ok_list_rows {CO CC f f1 : Addr} {fd fd1 : FuncData} (D : Mf K CO "list_rows" "Observer.list_rows" s_Observer_list_rows ["self", "place", "number"] f fd) (T : Bt mg) (FO : OF K CO) (FC : CF K CC) (M_row : Mf K CC "row" "Cycle.row" s_Cycle_row ["self", "phase", "place", "number"] f1 fd1) (G_row : FnOk P w K mg base CX0 1 f1 fd1 ["self", "phase", "place", "number"] (spRow K CC)) : FnOk P w K mg base CX0 2 f fd ["self", "place", "number"] (spRows K CO CC) := by
  refine D.F.ok sc_Observer_list_rows (fun vs H Q E h => ?_) (fun cdv A outer s H vs Q E hr h => ?_)
  · obtain ⟨Gp, N, per, zs, cs, F, os, M, k, n, rfl, _⟩ := h
    rfl
  · obtain ⟨Gp, N, per, zs, cs, F, os, M, k, n, rfl, W, hcs, hp, n1, n2, hok, q⟩ := h
    have hu1 := hu_of hr
    obtain ⟨kv, hkv⟩ : ∃ kv, kv = kV k := ⟨_, rfl⟩
    rw [← hkv]
    refine ⟨_, (pss_cons (ps_set (i := 3) sc_Observer_list_rows.nd rfl (Or.inl rfl) (pe_lst pa_nil))
      (pss_cons (ps_for PassesOwn.never rfl (pi_U (K := K) (pe_fld (pv 0) rfl)) (pg_name (i := 4) sc_Observer_list_rows.nd rfl (Or.inl rfl)) (pss_cons (ps_asg (pe_dget hu1 (pe_fld (pv 0) rfl) (pv 4) (fun _ _ => rfl)) (pg_tup rfl (pgs_cons (pg_name (i := 5) sc_Observer_list_rows.nd rfl (Or.inl rfl)) (pgs_cons (pg_name (i := 6) sc_Observer_list_rows.nd rfl (Or.inl rfl)) pgs_nil))))
      (pss_one (ps_expr (pe_bm PySem.F.plainAttrs_list PySem.F.slot_list_append PySem.F.type_list_append mt_append (pv 3) (pa_cons (pe_tup (pa_cons (pv 4) (pa_cons (pe_meth (pv 5) FC.c M_row.m (G_row) (hr.mono (by decide)) M_row.b .nil pass0 (pa_cons (pv 6) (pa_cons (pv 1) (pa_cons (pv 2) pa_nil)))) pa_nil))) pa_nil))))))
      (pss_one (ps_ret (pv 3))))), ?_⟩
    walk_at "run"
    refine x_lst (by simp) fun l H1 nl e1 hl => ?_
    refine x_fld (e1 _ _ W.ins) FO.c FO.remaining ob_remaining ?_
    obtain ⟨bs, b1, b2, b3⟩ := W.rem.ex
    refine x_itL (SqL.of (e1 _ _ b1)) (loop_it walk_list (fun i σ H' => ∃ u4 u5 u6, σ = [some (V.ref M.a), some kv, some (V.int n), some (V.ref l), u4, u5, u6] ∧ Ex H H' ∧ PrsAt K H' l ((cs.take i).map fun c => (c, rowV (rowF F per k n c)))) ⟨_, _, _, rfl, e1, [], hl, rfl, fun i a r h => by simp at h⟩ (fun i σ H' _ ⟨_, _, _, _, e, _⟩ => SqL.of (e _ _ b1)) ?_ ?_)
    · rintro i x σ H0 H2 hi ⟨u4, u5, u6, rfl, e2, Pr⟩ ⟨eH, hx⟩
      subst eH
      obtain ⟨b, hb, rfl⟩ : ∃ b, bs[i]? = some b ∧ V.ref b = x := by simpa using hx
      have hic : i < cs.length := by rw [← b2]; exact (List.getElem?_eq_some_iff.mp hb).1
      obtain ⟨c, hc⟩ : ∃ c, cs[i]? = some c := ⟨_, List.getElem?_eq_getElem hic⟩
      have hbc := (b3 i b c hb hc).tx (TX.of e2)
      have W2 := W.ex e2
      obtain ⟨S, ph, hF, hph, hrl⟩ := hok c (List.mem_of_getElem? hc)
      obtain ⟨kvs, k1, k2, k3⟩ := W2.ph.ex
      have k4 := k3 c
      rw [hF] at k4
      obtain ⟨t0, Mc, a1, a2, a3⟩ := k4
      walk_at "run"
      refine x_fld W2.ins FO.c FO.phases ob_phases ?_
      refine x_dgetT k1 hbc a1 ?_
      refine x_two (SqT.of a2) ?_
      obtain ⟨xs, x1, x2⟩ := Pr.lst
      have hxl : xs.length ≤ 1000 := by rw [x2, List.length_map, List.length_take]; omega
      walk_at "run"
      refine ⟨x_tyL (SqL.of x1), ?_⟩
      refine x_meth a3.ins cy_row ?_
      refine ⟨Mc, N, per, S, 1040 * per, _, ph, k, n, by rw [hkv], a3, by omega, hp, hph, n1, n2, hrl, fun H3 y e3 hy => ?_⟩
      refine x_tup (by simp) fun t H4 nt e4 ht => ?_
      have e24 := e3.trans e4
      refine x_append (e24 _ _ x1) (by omega) fun H5 e5 h5 => ⟨_, _, _, rfl, fun x o h => e5 _ _ (fun z => ?_) (e24 _ _ (e2 _ _ h)), ?_⟩
      · rw [z] at h
        have := fresh_back (Ex.refl H) nl
        rw [this] at h; cases h
      · have t5 : TX H4 H5 := TX.but (e24 _ _ x1) e5
        have hr : rowF F per k n c = cyRow per S ph k n := by unfold rowF; rw [hF]
        have hne : t ≠ l := fun z => by rw [z, e24 _ _ x1] at ht; cases ht
        rw [List.take_add_one, hc, List.map_append]
        refine PrsAt.snoc (b := b) (t := t) (y := y) (r := (c, rowV (rowF F per k n c))) (Pr.tx (TX.of e24) fun o => e24 _ _) (e24 _ _ x1) t5 h5 (e5 _ _ hne ht) (hbc.tx ((TX.of e24).trans t5)) ?_ (rowV_t _)
        show Dp K H5 y (rowV (rowF F per k n c))
        rw [hr]
        exact Dp.tx ((TX.of e4).trans t5) hy (rowV_t _)
    · rintro σ H2 ⟨u4, u5, u6, rfl, e2, Pr⟩
      walk_at "run"
      have e : cs.take (bs.map V.ref).length = cs := by rw [List.length_map, b2, List.take_length]
      rw [e] at Pr
      exact q H2 l e2 nl Pr
abbrev s_Observer_list_finishers : Stmt := inClass (top 46) 11
theorem sc_Observer_list_finishers : FnScope ["self", "port", "number", "candidate", "row"] ["self", "port", "number"] (defScope s_Observer_list_finishers) := ⟨rfl, rfl, rfl, by decide +kernel, rfl, by decide +kernel, by decide +kernel⟩
def spFins (K : PySem.W.Frag) (CO CC : Addr) : Sp := fun vs H Q _ => ∃ (Gp : Addr → Prop) (N : Net) (per : Nat) (zs : List Str) (cs : List (List Int)) (F : PhF) (os : List PyData) (M : Ob) (k : Key) (n : Int), vs = [.ref M.a, kV k, .int n] ∧ ObT K CO CC H Gp N per zs cs F os M ∧ cs.length ≤ 1000 ∧ per ≤ 800 ∧ 1 ≤ n ∧ n ≤ 1000000 ∧ (∀ c ∈ cs, OkF F k c) ∧ (∀ c ∈ cs, ∃ r, rowF F per k n c = some r ∧ r.1 ≠ []) ∧
  ∀ H' l, Ex H H' → H l = none → PrsAt K H' l (cs.map fun c => (c, .int (finF F per k n c))) → Q (.ref l) H'
theorem ok_list_finishers {CO CC f f1 : Addr} {fd fd1 : FuncData} (D : Mf K CO "list_finishers" "Observer.list_finishers" s_Observer_list_finishers ["self", "port", "number"] f fd) (T : Bt mg) (FO : OF K CO) (M_list_rows : Mf K CO "list_rows" "Observer.list_rows" s_Observer_list_rows ["self", "place", "number"] f1 fd1) (G_list_rows : FnOk P w K mg base CX0 2 f1 fd1 ["self", "place", "number"] (spRows K CO CC)) : FnOk P w K mg base CX0 3 f fd ["self", "port", "number"] (spFins K CO CC) := by
  refine D.F.ok sc_Observer_list_finishers (fun vs H Q E h => ?_) (fun cdv A outer s H vs Q E hr h => ?_)
  · obtain ⟨Gp, N, per, zs, cs, F, os, M, k, n, rfl, _⟩ := h
    rfl
  · obtain ⟨Gp, N, per, zs, cs, F, os, M, k, n, rfl, W, hcs, hp, n1, n2, hok, hrow, q⟩ := h
    refine ⟨_, (pss_one (ps_ret (pe_lc (own := [("candidate", 3), ("row", 4)]) (g := (gTup K 2 (gCons (gName 3) (gCons (gName 4) gNil)))) (tt := tYes) rfl sc_Observer_list_finishers.nd (pi_U (K := K) (pe_meth (pv 0) FO.c M_list_rows.m (G_list_rows) (hr.mono (by decide)) M_list_rows.b .nil pass0 (pa_cons (pv 1) (pa_cons (pv 2) pa_nil)))) (blkOk_by (own := [("candidate", 3), ("row", 4)]) (N := ["self", "port", "number", "candidate", "row"]) (sc := defScope s_Observer_list_finishers) (by decide +kernel)) (fun _ _ _ _ _ => (pg_tup rfl (pgs_cons (pg_name (i := 3) sc_Observer_list_finishers.nd rfl (Or.inl rfl)) (pgs_cons (pg_name (i := 4) sc_Observer_list_finishers.nd rfl (Or.inl rfl)) pgs_nil)))) (fun _ _ _ _ _ => pts_nil) (fun _ _ _ _ _ => (pe_tup (pa_cons (pv 3) (pa_cons (pe_ix (ix_U (K := K)) (pe_ix (ix_U (K := K)) (pv 4) pe_int (fun _ _ => rfl)) pe_int (fun _ _ => rfl)) pa_nil))))))), ?_⟩
    walk_at "run"
    refine x_meth W.ins (ob_no (by decide +kernel) (by decide +kernel) (by decide +kernel) (by decide +kernel) (by decide +kernel)) ?_
    refine ⟨Gp, N, per, zs, cs, F, os, M, k, n, by cases k <;> rfl, W, hcs, hp, n1, n2, hok, fun H1 l e1 nl Pr => ?_⟩
    obtain ⟨ts, p1, p2, p3⟩ := Pr
    refine x_itL (SqL.of p1) (lcl_it walk_list (fun D i H' => Ex H1 H' ∧ PrsAt K H' D ((cs.take i).map fun c => (c, PyData.int (finF F per k n c)))) (fun D H' hD e h => ⟨e, [], h, rfl, fun i a r h => by simp at h⟩) (fun D i H' _ h => SqL.of (h.1 _ _ p1)) ?_ ?_)
    · rintro D i x H0 H2 hD hi ⟨e2, Pr⟩ ⟨eH, hx⟩
      subst eH
      obtain ⟨t, ht, rfl⟩ : ∃ t, ts[i]? = some t ∧ V.ref t = x := by simpa using hx
      have hic : i < cs.length := by
        have := (List.getElem?_eq_some_iff.mp ht).1
        rw [p2, List.length_map] at this; exact this
      obtain ⟨c, hc⟩ : ∃ c, cs[i]? = some c := ⟨_, List.getElem?_eq_getElem hic⟩
      obtain ⟨b, y, a1, a2, a3, a4⟩ := p3 i t (c, rowV (rowF F per k n c)) ht (by simp [hc])
      refine x_two (SqT.of (e2 _ _ a1)) ?_
      walk_at "run"
      obtain ⟨r, hr0, hr1⟩ := hrow c (List.mem_of_getElem? hc)
      have a3 : Dp K H1 y (rowV (rowF F per k n c)) := a3
      rw [hr0] at a3
      obtain ⟨ra, rxs, rfl, hrT, hrd⟩ := Dp.tup_inv (Dp.ex e2 a3)
      cases hrd with
      | @cons pv0 _ _ _ hpv hr2 =>
      obtain ⟨pa, pxs, rfl, hpT, hpd⟩ := Dp.tup_inv hpv
      obtain ⟨x0, rx, hrx⟩ : ∃ x0 rx, r.1 = x0 :: rx := by
        cases h : r.1 with
        | nil => exact (hr1 h).elim
        | cons a b => exact ⟨a, b, rfl⟩
      rw [hrx] at hpd
      cases hpd with
      | @cons xv _ _ _ hxv hpr =>
      have hxv := Dp.int_inv hxv
      subst hxv
      refine x_ixT hrT (v := .ref pa) (atI_nat (j := 0) (by rfl)) (x_ixT hpT (v := .int x0) (atI_nat (j := 0) (by rfl)) ?_)
      refine x_tup (by simp) fun t2 H3 nt e3 ht2 => ?_
      obtain ⟨xs, x1, x2⟩ := Pr.lst
      have hxl : xs.length ≤ 1000 := by rw [x2, List.length_map, List.length_take]; omega
      refine x_push (e3 _ _ x1) (by omega) fun H4 e4 h4 => ⟨fun o u h => e4 _ _ (ne_of_none h hD) (e3 _ _ (e2 _ _ h)), ?_⟩
      have t4 : TX H3 H4 := TX.but (e3 _ _ x1) e4
      have hf : finF F per k n c = x0 := by unfold finF; rw [hr0]; show r.1.getD 0 0 = x0; rw [hrx]; rfl
      have hne : t2 ≠ D := fun z => by rw [z, e3 _ _ x1] at ht2; cases ht2
      rw [List.take_add_one, hc, List.map_append]
      refine PrsAt.snoc (b := b) (t := t2) (y := .int x0) (r := (c, .int (finF F per k n c))) (Pr.tx (TX.of e3) fun o => e3 _ _) (e3 _ _ x1) t4 h4 (e4 _ _ hne ht2) (a2.tx ((TX.of (e2.trans e3)).trans t4)) ?_ (.int _)
      show Dp K H4 (.int x0) (.int (finF F per k n c))
      rw [hf]; exact .int _
    · rintro D H2 hD ⟨e2, Pr⟩
      have e : cs.take (ts.map V.ref).length = cs := by rw [List.length_map, p2, List.length_map, List.take_length]
      rw [e] at Pr
      exact q H2 D (e1.trans e2) (fresh_back e1 hD) Pr
end
/-! Observer.candidates, history, possible_finishers, accept, see_finisher -/
theorem ob_put {M : Ob} {la : Addr} : putF "remaining" (.ref la) M.fs = ({ M with rem := la } : Ob).fs := by
  unfold Ob.fs
  rw [putF_ne (f := "remaining") (by decide +kernel), putF_ne (f := "remaining") (by decide +kernel)]
  show _ :: _ :: (if _ then _ else _) = _
  rw [if_pos rfl]
section
variable {P : Program} {w : World} {K : PySem.W.Frag} {mg : Str → Option Value} {base : Heap}
abbrev s_Observer_candidates : Stmt := inClass (top 46) 4
theorem sc_Observer_candidates : FnScope ["self"] ["self"] (defScope s_Observer_candidates) := ⟨rfl, rfl, rfl, by decide +kernel, rfl, by decide +kernel, by decide +kernel⟩
def spCand (K : PySem.W.Frag) (CO CC : Addr) : Sp := fun vs H Q _ => ∃ (Gp : Addr → Prop) (N : Net) (per : Nat) (zs : List Str) (cs : List (List Int)) (F : PhF) (os : List PyData) (M : Ob), vs = [.ref M.a] ∧ ObT K CO CC H Gp N per zs cs F os M ∧
  ∀ H' l, Ex H H' → H l = none → RawL H' l cs → Q (.ref l) H'
theorem ok_candidates {CO CC f : Addr} {fd : FuncData} (D : Mf K CO "candidates" "Observer.candidates" s_Observer_candidates ["self"] f fd) (T : Bt mg) (FO : OF K CO) : FnOk P w K mg base CX0 1 f fd ["self"] (spCand K CO CC) := by
  refine D.F.ok sc_Observer_candidates (fun vs H Q E h => ?_) (fun cdv A outer s H vs Q E hr h => ?_)
  · obtain ⟨Gp, N, per, zs, cs, F, os, M, rfl, _⟩ := h
    rfl
  · obtain ⟨Gp, N, per, zs, cs, F, os, M, rfl, W, q⟩ := h
    refine ⟨_, (pss_one (ps_ret (pe_callTy (call_listU (K := K)) (by rfl) T.b_list (by decide +kernel) (pa_cons (pe_fld (pv 0) rfl) pa_nil)))), ?_⟩
    walk_at "run"
    refine x_fld W.ins FO.c FO.remaining ob_remaining ?_
    obtain ⟨bs, b1, b2, b3⟩ := W.rem.ex
    exact x_listL (SqL.of b1) fun l H1 nl e1 hl => q H1 l e1 nl ⟨⟨bs, hl, b2, fun i b l g1 g2 => (b3 i b l g1 g2).tx (TX.of e1)⟩⟩
abbrev s_Observer_possible_finishers : Stmt := inClass (top 46) 6
theorem sc_Observer_possible_finishers : FnScope ["self", "port", "number", "_", "found"] ["self", "port", "number"] (defScope s_Observer_possible_finishers) := ⟨rfl, rfl, rfl, by decide +kernel, rfl, by decide +kernel, by decide +kernel⟩
/-- what is asked of a port and a number -/
structure AskOk (per : Nat) (zs : List Str) (cs : List (List Int)) (F : PhF) (z : Str) (n : Int) : Prop where
  l9 : cs.length ≤ 999
  p8 : per ≤ 800
  n1 : 1 ≤ n
  n2 : n ≤ 1000000
  hz : z ∈ zs
  ok : ∀ c ∈ cs, OkF F (.inr z) c
  row : ∀ c ∈ cs, ∃ r, rowF F per (.inr z) n c = some r ∧ r.1 ≠ []
def spPoss (K : PySem.W.Frag) (CO CC : Addr) : Sp := fun vs H Q _ => ∃ (Gp : Addr → Prop) (N : Net) (per : Nat) (zs : List Str) (cs : List (List Int)) (F : PhF) (os : List PyData) (M : Ob) (z : Str) (n : Int), vs = [.ref M.a, .str z, .int n] ∧ ObT K CO CC H Gp N per zs cs F os M ∧ AskOk per zs cs F z n ∧
  ∀ (H' : Hp) (l : Addr) (ys : List Int), Ex H H' → H l = none → H' l = some (.lst (ys.map V.int)) → ys.Pairwise (· < ·) → (∀ y, y ∈ ys ↔ ∃ c ∈ cs, finF F per (.inr z) n c = y) → Q (.ref l) H'
theorem ok_possible_finishers {CO CC f f1 f2 f3 : Addr} {fd fd1 fd2 fd3 : FuncData} (D : Mf K CO "possible_finishers" "Observer.possible_finishers" s_Observer_possible_finishers ["self", "port", "number"] f fd) (T : Bt mg) (FO : OF K CO) (M_check_port : Mf K CO "check_port" "Observer.check_port" s_Observer_check_port ["self", "port"] f1 fd1) (G_check_port : FnOk P w K mg base CX0 1 f1 fd1 ["self", "port"] (spCkPort K CO CC))
    (D_check_count : Df K mg "check_count" s_check_count ["count", "least", "most"] f2 fd2) (g_MN0 : ∃ t, mg "MAX_NUMBER" = some (.int 1000000 t)) (M_list_finishers : Mf K CO "list_finishers" "Observer.list_finishers" s_Observer_list_finishers ["self", "port", "number"] f3 fd3) (G_list_finishers : FnOk P w K mg base CX0 3 f3 fd3 ["self", "port", "number"] (spFins K CO CC)) : FnOk P w K mg base CX0 4 f fd ["self", "port", "number"] (spPoss K CO CC) := by
  have G_check_count : FnOk P w K mg base CX0 1 f2 fd2 _ _ := ok_check_count D_check_count
  refine D.F.ok sc_Observer_possible_finishers (fun vs H Q E h => ?_) (fun cdv A outer s H vs Q E hr h => ?_)
  · obtain ⟨Gp, N, per, zs, cs, F, os, M, z, n, rfl, _⟩ := h
    rfl
  · obtain ⟨Gp, N, per, zs, cs, F, os, M, z, n, rfl, W, ok, q⟩ := h
    obtain ⟨tM, g_MN⟩ := g_MN0
    refine ⟨_, (pss_cons (ps_expr (pe_meth (pv 0) FO.c M_check_port.m (G_check_port) (hr.mono (by decide)) M_check_port.b .nil pass0 (pa_cons (pv 1) pa_nil)))
      (pss_cons (ps_expr (pe_call (G_check_count) (hr.mono (by decide)) rfl D_check_count.g D_check_count.F.kp D_check_count.b .nil pass0 (pa_cons (pv 2) (pa_cons pe_int (pa_cons (pe_glob (v := .int 1000000) rfl g_MN ⟨_, rfl⟩) pa_nil)))))
      (pss_one (ps_ret (pe_callB (call_sortM (P := P) (w := w) rfl) (by rfl) T.b_sorted (by decide +kernel) (pa_cons (pe_callTy (call_setL (K := K) (P := P) (w := w) rfl) (by rfl) T.b_set (by decide +kernel) (pa_cons (pe_lc (own := [("_", 3), ("found", 4)]) (g := (gTup K 2 (gCons (gName 3) (gCons (gName 4) gNil)))) (tt := tYes) rfl sc_Observer_possible_finishers.nd (pi_U (K := K) (pe_meth (pv 0) FO.c M_list_finishers.m (G_list_finishers) (hr.mono (by decide)) M_list_finishers.b .nil pass0 (pa_cons (pv 1) (pa_cons (pv 2) pa_nil)))) (blkOk_by (own := [("_", 3), ("found", 4)]) (N := ["self", "port", "number", "_", "found"]) (sc := defScope s_Observer_possible_finishers) (by decide +kernel)) (fun _ _ _ _ _ => (pg_tup rfl (pgs_cons (pg_name (i := 3) sc_Observer_possible_finishers.nd rfl (Or.inl rfl)) (pgs_cons (pg_name (i := 4) sc_Observer_possible_finishers.nd rfl (Or.inl rfl)) pgs_nil)))) (fun _ _ _ _ _ => pts_nil) (fun _ _ _ _ _ => (pv 4))) pa_nil)) pa_nil)))))), ?_⟩
    walk_at "run"
    refine x_meth W.ins (ob_no (by decide +kernel) (by decide +kernel) (by decide +kernel) (by decide +kernel) (by decide +kernel)) ?_
    refine ⟨Gp, N, per, zs, cs, F, os, M, z, rfl, W, ok.hz, ?_⟩
    walk_at "run"
    refine ⟨n, 1, 1000000, rfl, ok.n1, ok.n2, ?_⟩
    walk_at "run"
    refine x_meth W.ins (ob_no (by decide +kernel) (by decide +kernel) (by decide +kernel) (by decide +kernel) (by decide +kernel)) ?_
    have hc9 := ok.l9
    refine ⟨Gp, N, per, zs, cs, F, os, M, .inr z, n, rfl, W, by omega, ok.p8, ok.n1, ok.n2, ok.ok, ok.row, fun H1 l e1 nl Pr => ?_⟩
    obtain ⟨ts, p1, p2, p3⟩ := Pr
    refine x_itL (SqL.of p1) (lcl_it walk_list (fun D i H' => Ex H1 H' ∧ H' D = some (.lst ((((cs.take i).map fun c => (Sum.inl (finF F per (.inr z) n c) : Key))).map kV))) (fun D H' hD e h => ⟨e, h⟩) (fun D i H' _ h => SqL.of (h.1 _ _ p1)) ?_ ?_)
    · rintro D i x H0 H2 hD hi ⟨e2, hl2⟩ ⟨eH, hx⟩
      subst eH
      obtain ⟨t, ht, rfl⟩ : ∃ t, ts[i]? = some t ∧ V.ref t = x := by simpa using hx
      have hic : i < cs.length := by
        have := (List.getElem?_eq_some_iff.mp ht).1
        rw [p2, List.length_map] at this; exact this
      obtain ⟨c, hc⟩ : ∃ c, cs[i]? = some c := ⟨_, List.getElem?_eq_getElem hic⟩
      obtain ⟨b, y, a1, a2, a3, a4⟩ := p3 i t (c, PyData.int (finF F per (.inr z) n c)) ht (by simp [hc])
      have a3 := Dp.int_inv a3
      subst a3
      refine x_two (SqT.of (e2 _ _ a1)) ?_
      walk_at "run"
      refine x_push hl2 (by simp; omega) fun H3 e3 h3 => ⟨fun o u h => e3 _ _ (ne_of_none h hD) (e2 _ _ h), ?_⟩
      rw [h3, List.take_add_one, hc, List.map_append, List.map_append]
      rfl
    · rintro D H2 hD ⟨e2, hl2⟩
      have e : cs.take (ts.map V.ref).length = cs := by rw [List.length_map, p2, List.length_map, List.take_length]
      rw [e] at hl2
      refine x_setOfL (ks := cs.map fun c => (Sum.inl (finF F per (.inr z) n c) : Key)) (SqL.of hl2) (by rw [List.length_map]; omega) fun p1 S1 m1 H3 _ e3 h3 hm1 hS1 => ?_
      rw [List.length_map] at hm1
      refine x_sortMI h3 (by omega) (fun k hk => ?_) fun ys p2 H4 pw mem _ n4 e4 h4 => ?_
      · obtain ⟨c, _, hc⟩ := List.mem_map.mp ((hS1 k).mp hk)
        exact ⟨_, hc.symm⟩
      · refine q H4 p2 ys (e1.trans (e2.trans (e3.trans e4))) (fresh_back (e1.trans (e2.trans e3)) n4) h4 pw fun y => ?_
        rw [mem, hS1, List.mem_map]
        constructor
        · rintro ⟨c, hc, he⟩
          exact ⟨c, hc, Sum.inl.inj he⟩
        · rintro ⟨c, hc, he⟩
          exact ⟨c, hc, by rw [he]⟩
end
/-! Observer.accept, see_finisher -/
/-- all but two places stands -/
def But2 (a b : Addr) (H H' : Hp) : Prop := ∀ x o, x ≠ a → x ≠ b → H x = some o → H' x = some o
section
variable {P : Program} {w : World} {K : PySem.W.Frag} {mg : Str → Option Value} {base : Heap}
abbrev s_Observer_accept : Stmt := inClass (top 46) 13
theorem sc_Observer_accept : FnScope ["self", "agreeing", "observation"] ["self", "agreeing", "observation"] (defScope s_Observer_accept) := ⟨rfl, rfl, rfl, by decide +kernel, rfl, by decide +kernel, by decide +kernel⟩
def spAcc (K : PySem.W.Frag) (CO CC CX : Addr) : Sp := fun vs H Q E => ∃ (Gp : Addr → Prop) (N : Net) (per : Nat) (zs : List Str) (cs : List (List Int)) (F : PhF) (os : List PyData) (M : Ob) (la : Addr) (as : List (List Int)) (ov : V) (d : PyData), vs = [.ref M.a, .ref la, ov] ∧ ObT K CO CC H Gp N per zs cs F os M ∧ RawL H la as ∧ as.length ≤ 1000 ∧ Gp la ∧ la ≠ M.ob ∧ Dp K H ov d ∧ TupD d ∧ os.length ≤ 1000 ∧
  (as ≠ [] → ∀ H', But2 M.a M.ob H H' → ObT K CO CC H' Gp N per zs as F (os ++ [d]) { M with rem := la } → Q (.int (as.length : Int)) H') ∧ (as = [] → ∀ H', Ex H H' → E (.ref CX) none H')
theorem ok_accept {CO CC CX f : Addr} {fd : FuncData} (D : Mf K CO "accept" "Observer.accept" s_Observer_accept ["self", "agreeing", "observation"] f fd) (T : Bt mg) (FO : OF K CO) (Z : Rz K mg "Contradiction" CX) : FnOk P w K mg base (L2.CX P w) 1 f fd ["self", "agreeing", "observation"] (spAcc K CO CC CX) := by
  refine D.F.okX sc_Observer_accept (fun vs H Q E h => ?_) (fun cdv A outer s H vs Q E hr h => ?_)
  · obtain ⟨Gp, N, per, zs, cs, F, os, M, la, as, ov, d, rfl, _⟩ := h
    rfl
  · obtain ⟨Gp, N, per, zs, cs, F, os, M, la, as, ov, d, rfl, W, hla, hal, ga, lo, hd, td, hos, q1, q2⟩ := h
    have hu := hr.units
    refine ⟨_, (pss_cons (ps_if (pt_cmpR (op_eqU (K := K) hu) (pe_callB (call_lenU (K := K)) (by rfl) T.b_len (by decide +kernel) (pa_cons (pv 1) pa_nil)) pe_int (nomark _)) (pss_one (ps_raise rfl (takes_of rfl rfl rfl rfl) (pmk_own PySem.F.excBase_ValueError Z.xP Z.g Z.kP (raises_own Z.bP Z.tP) rfl))) pss_nil)
      (pss_cons (ps_fld (pv 0) (pv 1) rfl)
      (pss_cons (ps_expr (pe_bm PySem.F.plainAttrs_list PySem.F.slot_list_append PySem.F.type_list_append mt_append (pe_fld (pv 0) rfl) (pa_cons (pv 2) pa_nil)))
      (pss_one (ps_ret (pe_callB (call_lenU (K := K)) (by rfl) T.b_len (by decide +kernel) (pa_cons (pv 1) pa_nil))))))), ?_⟩
    obtain ⟨bs, b1, b2, b3⟩ := hla.ex
    walk_at "run"
    refine x_lenL (SqL.of b1) ?_
    rw [List.length_map, b2]
    walk_at "run"
    by_cases h0 : as = []
    · rw [if_pos (by rw [h0]; rfl)]
      exact q2 h0 H (Ex.refl H)
    · have hp : 0 < as.length := List.length_pos_iff.mpr h0
      rw [if_neg (by simp; omega)]
      refine x_setF W.ins FO.c FO.remaining (by show 5 < 1000; decide) fun H1 e1 n1 h1 => ?_
      have t1 := tx_ins W.ins e1
      rw [ob_put] at h1
      walk_at "run"
      refine x_fld h1 FO.c FO.observations ob_observations ?_
      obtain ⟨ts, o1, o2⟩ := W.ob.ex
      have hao : M.ob ≠ M.a := fun z => by rw [z, W.ins] at o1; cases o1
      have ho1 := e1 _ _ hao o1
      refine ⟨x_tyL (SqL.of ho1), ?_⟩
      have htl : ts.length = os.length := o2.len
      refine x_append ho1 (by omega) fun H2 e2 h2 => ?_
      have t2 : TX H1 H2 := TX.but ho1 e2
      have t02 := t1.trans t2
      have hla_a : la ≠ M.a := fun z => by rw [z, W.ins] at b1; cases b1
      have bl := e2 _ _ lo (e1 _ _ hla_a b1)
      walk_at "run"
      refine x_lenL (SqL.of bl) ?_
      rw [List.length_map, b2]
      have hka : M.kp ≠ M.a := fun z => by have := W.kp; rw [z, W.ins] at this; cases this
      refine q1 h0 H2 (fun x o ha hb h => e2 _ _ hb (e1 _ _ ha h)) ⟨e2 _ _ hao.symm h1, W.ga, NetAt.tx t02 W.net, e2 _ _ W.ko (e1 _ _ hka W.kp), W.gk, hla.tx t02 fun o h => e2 _ _ lo (e1 _ _ hla_a h), ga, ?_, ⟨⟨_, h2, ?_⟩⟩, W.go, fun x hx => ?_, W.ko, lo⟩
      · exact W.ph.keep (fun x o f h => e2 _ _ f.2.2 (e1 _ _ f.2.1 h)) t02
      · exact DpAll.append (DpAll.tx t02 o2 W.ot) (.cons (Dp.tx t02 hd td) .nil)
      · rcases List.mem_append.mp hx with h | h
        · exact W.ot x h
        · rw [List.mem_singleton.mp h]; exact td
abbrev s_Observer_see_finisher : Stmt := inClass (top 46) 3
theorem sc_Observer_see_finisher : FnScope ["self", "port", "number", "passenger", "finishers", "agreeing", "candidate", "found"] ["self", "port", "number", "passenger"] (defScope s_Observer_see_finisher) := ⟨rfl, rfl, rfl, by decide +kernel, rfl, by decide +kernel, by decide +kernel⟩
def obsF (z : Str) (n x : Int) : PyData := .tuple [.str "see_finisher", .str z, .int n, .int x]
theorem obsF_t (z : Str) (n x : Int) : TupD (obsF z n x) := .tup fun d hd => by
  simp only [List.mem_cons, List.not_mem_nil, or_false] at hd
  rcases hd with rfl | rfl | rfl | rfl
  · exact .str _
  · exact .str _
  · exact .int _
  · exact .int _
def spSeeF (K : PySem.W.Frag) (CO CC CX : Addr) : Sp := fun vs H Q E => ∃ (Gp : Addr → Prop) (N : Net) (per : Nat) (zs : List Str) (cs : List (List Int)) (F : PhF) (os : List PyData) (M : Ob) (z : Str) (n x : Int), vs = [.ref M.a, .str z, .int n, .int x] ∧ ObT K CO CC H Gp N per zs cs F os M ∧ AskOk per zs cs F z n ∧ 0 ≤ x ∧ os.length ≤ 1000 ∧ (∀ a, H a = none → Gp a) ∧
  ((cs.filter fun c => decide (finF F per (.inr z) n c = x)) ≠ [] → ∀ H' la, But2 M.a M.ob H H' → ObT K CO CC H' Gp N per zs (cs.filter fun c => decide (finF F per (.inr z) n c = x)) F (os ++ [obsF z n x]) { M with rem := la } → Q (.int ((cs.filter fun c => decide (finF F per (.inr z) n c = x)).length : Int)) H') ∧
  ((cs.filter fun c => decide (finF F per (.inr z) n c = x)) = [] → ∀ H', Ex H H' → E (.ref CX) none H')
theorem ok_see_finisher {CO CC CX f f1 f2 f3 f4 f5 : Addr} {fd fd1 fd2 fd3 fd4 fd5 : FuncData} (D : Mf K CO "see_finisher" "Observer.see_finisher" s_Observer_see_finisher ["self", "port", "number", "passenger"] f fd) (T : Bt mg) (FO : OF K CO) (M_check_port : Mf K CO "check_port" "Observer.check_port" s_Observer_check_port ["self", "port"] f1 fd1) (G_check_port0 : FnOk P w K mg base CX0 1 f1 fd1 ["self", "port"] (spCkPort K CO CC))
    (D_check_count : Df K mg "check_count" s_check_count ["count", "least", "most"] f2 fd2) (g_MN0 : ∃ t, mg "MAX_NUMBER" = some (.int 1000000 t)) (M_list_finishers : Mf K CO "list_finishers" "Observer.list_finishers" s_Observer_list_finishers ["self", "port", "number"] f3 fd3) (G_list_finishers0 : FnOk P w K mg base CX0 3 f3 fd3 ["self", "port", "number"] (spFins K CO CC))
    (D_check_passengers : Dfa K mg "check_passengers_observers" "check_passengers" s_check_passengers_o ["passengers"] f4 fd4) (M_accept : Mf K CO "accept" "Observer.accept" s_Observer_accept ["self", "agreeing", "observation"] f5 fd5) (G_accept : FnOk P w K mg base (L2.CX P w) 1 f5 fd5 ["self", "agreeing", "observation"] (spAcc K CO CC CX)) : FnOk P w K mg base (L2.CX P w) 4 f fd ["self", "port", "number", "passenger"] (spSeeF K CO CC CX) := by
  have G_check_count : FnOk P w K mg base (L2.CX P w) 1 f2 fd2 _ _ := fn_lift (ok_check_count D_check_count)
  have G_check_port := fn_lift (CX := L2.CX P w) G_check_port0
  have G_list_finishers := fn_lift (CX := L2.CX P w) G_list_finishers0
  have G_check_passengers : FnOk P w K mg base (L2.CX P w) 1 f4 fd4 _ _ := fn_lift (ok_check_passengers_o D_check_passengers T)
  refine D.F.okX sc_Observer_see_finisher (fun vs H Q E h => ?_) (fun cdv A outer s H vs Q E hr h => ?_)
  · obtain ⟨Gp, N, per, zs, cs, F, os, M, z, n, x, rfl, _⟩ := h
    rfl
  · obtain ⟨Gp, N, per, zs, cs, F, os, M, z, n, x, rfl, W, ok, hx, hos, hG, q1, q2⟩ := h
    have hu := hr.units
    obtain ⟨tM, g_MN⟩ := g_MN0
    refine ⟨_, (pss_cons (ps_expr (pe_meth (pv 0) FO.c M_check_port.m (G_check_port) (hr.mono (by decide)) M_check_port.b .nil (passes_call (takes_of rfl rfl rfl rfl) fun _ _ _ _ h => h) (pa_cons (pv 1) pa_nil)))
      (pss_cons (ps_expr (pe_call (G_check_count) (hr.mono (by decide)) rfl D_check_count.g D_check_count.F.kp D_check_count.b .nil (passes_call (takes_of rfl rfl rfl rfl) fun _ _ _ _ h => h) (pa_cons (pv 2) (pa_cons pe_int (pa_cons (pe_glob (v := .int 1000000) rfl g_MN ⟨_, rfl⟩) pa_nil)))))
      (pss_cons (ps_expr (pe_call (G_check_passengers) (hr.mono (by decide)) rfl D_check_passengers.g D_check_passengers.F.kp D_check_passengers.b .nil (passes_call (takes_of rfl rfl rfl rfl) fun _ _ _ _ h => h) (pa_cons (pe_tup (pa_cons (pv 3) pa_nil)) pa_nil)))
      (pss_cons (ps_set (i := 4) sc_Observer_see_finisher.nd rfl (Or.inl rfl) (pe_meth (pv 0) FO.c M_list_finishers.m (G_list_finishers) (hr.mono (by decide)) M_list_finishers.b .nil (passes_call (takes_of rfl rfl rfl rfl) fun _ _ _ _ h => h) (pa_cons (pv 1) (pa_cons (pv 2) pa_nil))))
      (pss_cons (ps_setLc (i := 5) (own := [("candidate", 6), ("found", 7)]) (g := (gTup K 2 (gCons (gName 6) (gCons (gName 7) gNil)))) (tt := _) rfl sc_Observer_see_finisher.nd rfl rfl (sw_true rfl rfl rfl (by decide +kernel)) (pi_U (K := K) (pv 4)) (blkOk_by (own := [("candidate", 6), ("found", 7)]) (N := ["self", "port", "number", "passenger", "finishers", "agreeing", "candidate", "found"]) (sc := defScope s_Observer_see_finisher) (by decide +kernel)) (fun _ _ _ _ _ => (pg_tup rfl (pgs_cons (pg_name (i := 6) sc_Observer_see_finisher.nd rfl (Or.inl rfl)) (pgs_cons (pg_name (i := 7) sc_Observer_see_finisher.nd rfl (Or.inl rfl)) pgs_nil)))) (fun _ _ _ _ _ => (pts_one (pt_cmpR (op_eqU (K := K) hu) (pv 7) (pv 3) (nomark _)))) (fun _ _ _ _ _ => (pv 6)))
      (pss_one (ps_ret (pe_meth (pv 0) FO.c M_accept.m (G_accept) (hr.mono (by decide)) M_accept.b .nil (passes_call (takes_of rfl rfl rfl rfl) fun _ _ _ _ h => h) (pa_cons (pv 5) (pa_cons (pe_tup (pa_cons pe_str (pa_cons (pv 1) (pa_cons (pv 2) (pa_cons (pv 3) pa_nil))))) pa_nil)))))))))), ?_⟩
    walk_at "run"
    refine x_meth W.ins (ob_no (by decide +kernel) (by decide +kernel) (by decide +kernel) (by decide +kernel) (by decide +kernel)) ?_
    refine ⟨Gp, N, per, zs, cs, F, os, M, z, rfl, W, ok.hz, ?_⟩
    walk_at "run"
    refine ⟨n, 1, 1000000, rfl, ok.n1, ok.n2, ?_⟩
    walk_at "run"
    refine x_tup (by simp) fun t0 H1 n1 e1 h1 => ⟨t0, x, rfl, SqT.of h1, hx, ?_⟩
    walk_at "run"
    have W1 := W.ex e1
    refine x_meth W1.ins (ob_no (by decide +kernel) (by decide +kernel) (by decide +kernel) (by decide +kernel) (by decide +kernel)) ?_
    have hc9 := ok.l9
    refine ⟨Gp, N, per, zs, cs, F, os, M, .inr z, n, rfl, W1, by omega, ok.p8, ok.n1, ok.n2, ok.ok, ok.row, fun H2 l e2 nl Pr => ?_⟩
    obtain ⟨ts, p1, p2, p3⟩ := Pr
    walk_at "run"
    refine x_itL (SqL.of p1) (lcl_it walk_list (fun D i H' => Ex H2 H' ∧ RawL H' D ((cs.take i).filter fun c => decide (finF F per (.inr z) n c = x))) (fun D H' hD e h => ⟨e, RawL.nil h⟩) (fun D i H' _ h => SqL.of (h.1 _ _ p1)) ?_ ?_)
    · rintro D i y0 H0 H3 hD hi ⟨e3, R3⟩ ⟨eH, hy0⟩
      subst eH
      obtain ⟨t, ht, rfl⟩ : ∃ t, ts[i]? = some t ∧ V.ref t = y0 := by simpa using hy0
      have hic : i < cs.length := by
        have := (List.getElem?_eq_some_iff.mp ht).1
        rw [p2, List.length_map] at this; exact this
      obtain ⟨c, hc⟩ : ∃ c, cs[i]? = some c := ⟨_, List.getElem?_eq_getElem hic⟩
      obtain ⟨b, y, a1, a2, a3, a4⟩ := p3 i t (c, PyData.int (finF F per (.inr z) n c)) ht (by simp [hc])
      have a3 := Dp.int_inv a3
      subst a3
      refine x_two (SqT.of (e3 _ _ a1)) ?_
      walk_at "run"
      have hfl : ((cs.take i).filter fun c => decide (finF F per (.inr z) n c = x)).length ≤ 1000 := by
        refine Nat.le_trans (List.length_filter_le ..) ?_
        rw [List.length_take]
        omega
      rw [List.take_add_one, hc, List.filter_append]
      have hfe : ((some c).toList.filter fun c => decide (finF F per (.inr z) n c = x)) = if finF F per (.inr z) n c = x then [c] else [] := by
        by_cases g : finF F per (.inr z) n c = x
        · simp [g]
        · simp [g]
      rw [hfe]
      obtain ⟨xs, x1, x2⟩ := R3.lst
      by_cases g : finF F per (.inr z) n c = x
      · rw [if_pos (by simp [g]), if_pos g]
        refine x_push x1 (by omega) fun H4 e4 h4 => ⟨fun o u h => e4 _ _ (ne_of_none h hD) (e3 _ _ h), ?_⟩
        have t4 : TX H3 H4 := TX.but x1 e4
        exact R3.snoc x1 t4 h4 (a2.tx ((TX.of e3).trans t4))
      · rw [if_neg (by simp [g]), if_neg g, List.append_nil]
        exact ⟨e3, R3⟩
    · rintro D H3 hD ⟨e3, R3⟩
      have e : cs.take (ts.map V.ref).length = cs := by rw [List.length_map, p2, List.length_map, List.take_length]
      rw [e] at R3
      have hfl : (cs.filter fun c => decide (finF F per (.inr z) n c = x)).length ≤ 1000 := Nat.le_trans (List.length_filter_le ..) (by omega)
      generalize cs.filter (fun c => decide (finF F per (.inr z) n c = x)) = as at R3 q1 q2 hfl
      have e13 := e1.trans (e2.trans e3)
      have fD : H D = none := fresh_back (e1.trans e2) hD
      have W3 := W.ex e13
      walk_at "run"
      refine x_meth W3.ins (ob_no (by decide +kernel) (by decide +kernel) (by decide +kernel) (by decide +kernel) (by decide +kernel)) ?_
      refine x_tup (by simp) fun t H4 nt e4 ht => ?_
      have e14 := e13.trans e4
      have ho : ∃ o, H M.ob = some o := by obtain ⟨ts, a1, _⟩ := W.ob.ex; exact ⟨_, a1⟩
      refine ⟨Gp, N, per, zs, cs, F, os, M, D, as, .ref t, obsF z n x, rfl, W.ex e14, R3.ex2 e4, hfl, hG D fD, (fun z => by obtain ⟨o, ho⟩ := ho; rw [← z, fD] at ho; cases ho), .tup (SqT.of ht) (.cons (.str _) (.cons (.str _) (.cons (.int _) (.cons (.int _) .nil)))), obsF_t z n x, hos, (fun h0 H5 e5 W5 => q1 h0 H5 D (fun a o ha hb h => e5 _ _ ha hb (e14 _ _ h)) W5), fun h0 H5 e5 => q2 h0 H5 (e14.trans e5)⟩
end
/-! Observer.__init__ -/
theorem ob_fs {v k r p o : V} : putF "observations" o (putF "phases" p (putF "remaining" r (putF "known_ports" k (putF "network" v [])))) = ([("network", v), ("known_ports", k), ("remaining", r), ("phases", p), ("observations", o)] : List (Str × V)) := by
  rw [show putF "network" v [] = ([("network", v)] : List (Str × V)) from rfl]
  rw [putF_ne (f := "known_ports") (by decide +kernel), show ∀ y : V, putF "known_ports" y [] = ([("known_ports", y)] : List (Str × V)) from fun _ => rfl]
  rw [putF_ne (f := "remaining") (by decide +kernel), putF_ne (f := "remaining") (by decide +kernel), show ∀ y : V, putF "remaining" y [] = ([("remaining", y)] : List (Str × V)) from fun _ => rfl]
  rw [putF_ne (f := "phases") (by decide +kernel), putF_ne (f := "phases") (by decide +kernel), putF_ne (f := "phases") (by decide +kernel), show ∀ y : V, putF "phases" y [] = ([("phases", y)] : List (Str × V)) from fun _ => rfl]
  rw [putF_ne (f := "observations") (by decide +kernel), putF_ne (f := "observations") (by decide +kernel), putF_ne (f := "observations") (by decide +kernel), putF_ne (f := "observations") (by decide +kernel), show ∀ y : V, putF "observations" y [] = ([("observations", y)] : List (Str × V)) from fun _ => rfl]
theorem ob_fs3 {v k r : V} : putF "remaining" r (putF "known_ports" k (putF "network" v [])) = ([("network", v), ("known_ports", k), ("remaining", r)] : List (Str × V)) := by
  rw [show putF "network" v [] = ([("network", v)] : List (Str × V)) from rfl]
  rw [putF_ne (f := "known_ports") (by decide +kernel), show ∀ y : V, putF "known_ports" y [] = ([("known_ports", y)] : List (Str × V)) from fun _ => rfl]
  rw [putF_ne (f := "remaining") (by decide +kernel), putF_ne (f := "remaining") (by decide +kernel), show ∀ y : V, putF "remaining" y [] = ([("remaining", y)] : List (Str × V)) from fun _ => rfl]
section
variable {P : Program} {w : World} {K : PySem.W.Frag} {mg : Str → Option Value} {base : Heap}
abbrev s_Observer___init : Stmt := inClass (top 46) 0
theorem sc_Observer___init : FnScope ["self", "network"] ["self", "network"] (defScope s_Observer___init) := ⟨rfl, rfl, rfl, by decide +kernel, rfl, by decide +kernel, by decide +kernel⟩
def spObI (K : PySem.W.Frag) (CO CC : Addr) : Sp := fun vs H Q _ => ∃ (a dx : Addr) (v : V) (N : Net), vs = [.ref a, v] ∧ H a = some (.ins CO dx []) ∧ NetAt K H v N ∧ ValidN N ∧ N.length ≤ 8 ∧ (candN N).length ≤ 1000 ∧ perN N N.length ≤ 800 ∧
  ∀ H' M zs, M.a = a → (∀ x o, x ≠ a → H x = some o → H' x = some o) → PortsOf N zs → ObT K CO CC H' (fun x => x = a ∨ H x = none) N (perN N N.length) zs (candN N) (phF N (perN N N.length) (fun _ => none) (candN N)) [] M → Q .non H'
theorem ok_Observer_init {CO CC f f1 f2 f3 f4 : Addr} {fd fd1 fd2 fd3 fd4 : FuncData} (D : Cf K mg "Observer" "Observer.__init__" CO s_Observer___init ["self", "network"] f fd) (FO : OF K CO) (D_check_network : Df K mg "check_network" s_check_network ["network"] f1 fd1) (G_check_network : FnOk P w K mg base CX0 4 f1 fd1 ["network"] (spCheckOk K))
    (D_ports : Df K mg "ports" s_ports ["network"] f2 fd2) (G_ports : FnOk P w K mg base CX0 6 f2 fd2 ["network"] (spPorts K)) (D_list_lengths : Df K mg "list_lengths" s_list_lengths ["network"] f3 fd3) (G_list_lengths : FnOk P w K mg base CX0 1 f3 fd3 ["network"] (spLLs K))
    (D_find_phases : Df K mg "find_phases" s_find_phases ["network", "candidates"] f4 fd4) (G_find_phases : FnOk P w K mg base CX0 21 f4 fd4 ["network", "candidates"] (spPhs K CC)) : FnOk P w K mg base CX0 22 f fd ["self", "network"] (spObI K CO CC) := by
  refine D.F.ok sc_Observer___init (fun vs H Q E h => ?_) (fun cdv A outer s H vs Q E hr h => ?_)
  · obtain ⟨a, dx, v, N, rfl, _⟩ := h
    rfl
  · obtain ⟨a, dx, v, N, rfl, ha, hN, hV, h8, hc, hp, q⟩ := h
    refine ⟨_, (pss_cons (ps_expr (pe_call (G_check_network) (hr.mono (by decide)) rfl D_check_network.g D_check_network.F.kp D_check_network.b .nil pass0 (pa_cons (pv 1) pa_nil)))
      (pss_cons (ps_fld (pv 0) (pv 1) rfl)
      (pss_cons (ps_fld (pv 0) (pe_call (G_ports) (hr.mono (by decide)) rfl D_ports.g D_ports.F.kp D_ports.b .nil pass0 (pa_cons (pv 1) pa_nil)) rfl)
      (pss_cons (ps_fld (pv 0) (pe_call (G_list_lengths) (hr.mono (by decide)) rfl D_list_lengths.g D_list_lengths.F.kp D_list_lengths.b .nil pass0 (pa_cons (pv 1) pa_nil)) rfl)
      (pss_cons (ps_fld (pv 0) (pe_call (G_find_phases) (hr.mono (by decide)) rfl D_find_phases.g D_find_phases.F.kp D_find_phases.b .nil pass0 (pa_cons (pv 1) (pa_cons (pe_fld (pv 0) rfl) pa_nil))) rfl)
      (pss_one (ps_fld (pv 0) (pe_lst pa_nil) rfl))))))), ?_⟩
    walk_at "run"
    refine ⟨v, N, rfl, hN, hV, fun H1 e1 => ?_⟩
    walk_at "run"
    refine x_setF (e1 _ _ ha) FO.c FO.network (by simp) fun H2 e2 n2 h2 => ?_
    have t2 := (TX.of e1).trans (tx_ins (e1 _ _ ha) e2)
    walk_at "run"
    refine ⟨v, N, rfl, NetAt.tx t2 hN, hV, fun H3 kp zs e3 nk hk hP => x_setF (e3 _ _ h2) FO.c FO.known_ports (by show 1 < 1000; decide) fun H4 e4 n4 h4 => ?_⟩
    have hka : kp ≠ a := (ne_of_none h2 nk).symm
    have t4 := t2.trans ((TX.of e3).trans (tx_ins (e3 _ _ h2) e4))
    walk_at "run"
    refine ⟨v, N, rfl, NetAt.tx t4 hN, hV, hc, fun H5 rm e5 nr R5 => x_setF (e5 _ _ h4) FO.c FO.remaining (by show 2 < 1000; decide) fun H6 e6 n6 h6 => ?_⟩
    have hra : rm ≠ a := (ne_of_none h4 nr).symm
    have t56 : TX H5 H6 := tx_ins (e5 _ _ h4) e6
    have t6 := t4.trans ((TX.of e5).trans t56)
    have R6 := R5.tx t56 fun o => e6 _ _ hra
    rw [ob_fs3] at h6
    walk_at "run"
    refine x_fld h6 FO.c FO.remaining (show List.lookup ("remaining" : Str) ([("network", v), ("known_ports", V.ref kp), ("remaining", V.ref rm)] : List (Str × V)) = some (.ref rm) by rw [lk_ne (by decide +kernel), lk_ne (by decide +kernel)]; exact lk_eq) ?_
    refine ⟨v, N, rm, candN N, rfl, NetAt.tx t6 hN, hV, h8, R6, fun c hc => cand_lens hc, hc, hp, fun H7 ph e7 P7 => ?_⟩
    have h7 := e7 _ _ h6
    refine x_setF h7 FO.c FO.phases (by show 3 < 1000; decide) fun H8 e8 n8 h8' => ?_
    have t78 : TX H7 H8 := tx_ins h7 e8
    walk_at "run"
    refine x_lst (by simp) fun ob H9 no e9 ho => x_setF (e9 _ _ h8') FO.c FO.observations (by show 4 < 1000; decide) fun H10 e10 n10 h10 => ?_
    have hoa : ob ≠ a := (ne_of_none h8' no).symm
    have t910 : TX H9 H10 := tx_ins (e9 _ _ h8') e10
    have e710 : ∀ x o, x ≠ a → H7 x = some o → H10 x = some o := fun x o hx h => e10 _ _ hx (e9 _ _ (e8 _ _ hx h))
    have t710 : TX H7 H10 := t78.trans ((TX.of e9).trans t910)
    have e02 : ∀ x o, x ≠ a → H x = some o → H2 x = some o := fun x o hx h => e2 _ _ hx (e1 _ _ h)
    have e04 : ∀ x o, x ≠ a → H x = some o → H4 x = some o := fun x o hx h => e4 _ _ hx (e3 _ _ (e02 _ _ hx h))
    have e06 : ∀ x o, x ≠ a → H x = some o → H6 x = some o := fun x o hx h => e6 _ _ hx (e5 _ _ (e04 _ _ hx h))
    have e08 : ∀ x o, x ≠ a → H x = some o → H8 x = some o := fun x o hx h => e8 _ _ hx (e7 _ _ (e06 _ _ hx h))
    have bk : ∀ (x : Addr) (G : Hp), x ≠ a → (∀ o, H x = some o → G x = some o) → G x = none → H x = none := fun x G hx k hn => by
      cases h : H x with
      | none => rfl
      | some o => rw [k o h] at hn; cases hn
    rw [show putF "observations" (V.ref ob) (putF "phases" (V.ref ph) ([("network", v), ("known_ports", V.ref kp), ("remaining", V.ref rm)] : List (Str × V))) = putF "observations" (V.ref ob) (putF "phases" (V.ref ph) (putF "remaining" (V.ref rm) (putF "known_ports" (V.ref kp) (putF "network" v [])))) by rw [ob_fs3], ob_fs] at h10
    have k6 : H6 kp = some (.lst (zs.map V.str)) := e6 _ _ hka (e5 _ _ (e4 _ _ hka hk))
    have ko : kp ≠ ob := ne_of_none (e8 _ _ hka (e7 _ _ k6)) no
    obtain ⟨rx, r1, r2⟩ := R6.lst
    have ro : rm ≠ ob := ne_of_none (e8 _ _ hra (e7 _ _ r1)) no
    refine q H10 ⟨a, dx, v, kp, rm, ph, ob⟩ zs rfl (fun x o hx h => e10 _ _ hx (e9 _ _ (e08 _ _ hx h))) hP ⟨h10, .inl rfl, NetAt.tx (t6.trans ((TX.of e7).trans t710)) hN, e710 _ _ hka (e7 _ _ k6), .inr (bk kp H2 hka (fun o => e02 _ _ hka) nk), R6.tx ((TX.of e7).trans t710) (fun o h => e710 _ _ hra (e7 _ _ h)), .inr (bk rm H4 hra (fun o => e04 _ _ hra) nr), ?_, ⟨⟨[], e10 _ _ hoa ho, .nil⟩⟩, .inr (bk ob H8 hoa (fun o => e08 _ _ hoa) no), (fun d hd => by cases hd), ko, ro⟩
    have P7' := P7.mono (Fp' := fun x => H6 x = none ∧ x ≠ a) fun x o _ f => ⟨f, fun z => by rw [z, h6] at f; cases f⟩
    have P8 : PhAt K CC H8 (fun x => H6 x = none ∧ x ≠ a) N (perN N N.length) ph (phF N (perN N N.length) (fun _ => none) (candN N)) 1000000 := P7'.keep (fun x o f h => e8 _ _ f.2 h) t78
    have P8' := P8.mono (Fp' := fun x => (H6 x = none ∧ x ≠ a) ∧ x ≠ ob) fun x o h f => ⟨f, ne_of_none h no⟩
    have P10 := P8'.keep (H' := H10) (fun x o f h => e10 _ _ f.1.2 (e9 _ _ h)) ((TX.of e9).trans t910)
    exact P10.mono fun x o _ f => ⟨.inr (bk x H6 f.1.2 (fun o => e06 _ _ f.1.2) f.1.1), f.1.2, f.2⟩
end
local macro_rules | `(tactic| walk_at "run") => `(tactic| try simp only [tSeq, tAsg, tVar, tC, gName, L2.start, List.map_cons, List.map_nil, List.cons_append, List.nil_append, List.length_cons, List.length_nil, List.replicate, List.getElem?_cons_zero, List.getElem?_cons_succ, Option.some.injEq, exists_eq_left', List.set_cons_zero, List.set_cons_succ, V.ref.injEq, tRet, x_tLst, x_tTup, tCons, tCB, tNil, tOp, x_addI, x_mulI, x_rI, x_rI0, x_ltI, x_leI, x_ltS, x_leS, x_eqI, x_neI, x_eqS, x_eqB, x_neB, x_isiI, x_isiS, x_int, x_max, x_min, cxOf, tIfS, tNext, tTest, V.bl.injEq, decide_eq_true_eq, gSub, tAnd, tOr, tNot, tB, tDrop, tBM, x_tFor, iRng1, iList, iTup, x_tLc, tYes, tCall, tIf, tAndV, tOrV, tNotV, tChain, List.append_nil, tUn, if_true, wipe, true_and, x_never, iU, x_itS, kV, Nat.reduceAdd, Nat.reduceSub, List.replicate_zero, x_rU, x_tMkO, iEnumT, x_tDc, x_tDGet, x_tDGet2, x_sDPut, x_tDSetd, x_tDNewK, x_iItems, x_iZip, x_tSAddK, x_tLockV, x_tTupRg, x_tRg2, tPar, tPar3, tBM0, tSl, tNoPart, tPart, x_tSetAdd, x_tDIn, x_iKeys, x_iZipX, x_iZip3, iRevR, tRg1, x_tFld, x_tMeth, x_sFld, x_tMake, tAug, x_ipI, x_tDNotIn, iRng2])
/-! periods: the mathematics -/
theorem vi0 (N : Net) : vi N 0 = 1 := by
  show (if (0 : Nat) = 0 then (1 : Rat) else 0) + toR (av N) (.inl ((0 : Nat) : Int)) [] = 1
  show (1 : Rat) + 0 = 1
  grind
theorem toRall {N : Net} (F : FwR N) {k : Nat} (hk : k < N.length) (h0 : k ≠ 0) : toR (av N) (.inl (k : Int)) (seatsOf N N.length) = vi N k := by
  have := vi_from F (Nat.le_of_lt hk) (Nat.le_refl _)
  unfold visF at this
  rw [if_neg h0] at this
  rw [← this]; grind
/-- queues of nobody -/
def z0 (N : Net) : Qs := List.replicate N.length []
theorem z0_at {N : Net} (k : Nat) : (z0 N).getD k [] = [] := by
  unfold z0
  rw [List.getD_eq_getElem?_getD]
  by_cases h : k < N.length
  · rw [List.getElem?_replicate_of_lt h]; rfl
  · rw [List.getElem?_eq_none (by rw [List.length_replicate]; omega)]; rfl
theorem z0_ls {N : Net} (k : Nat) : (lens (z0 N)).getD k 0 = 0 := by
  unfold lens z0
  rw [List.getD_eq_getElem?_getD, List.getElem?_map]
  by_cases h : k < N.length
  · rw [List.getElem?_replicate_of_lt h]; rfl
  · rw [List.getElem?_eq_none (by rw [List.length_replicate]; omega)]; rfl
section
variable {N : Net} (hV : ValidN N)
include hV
theorem jq_av {q : Nat} {k : Nat} (hk : k < N.length) (h : ∀ i, i < k → ((bt N (lens (z0 N)) (q : Int) i : Int) : Rat) = (q : Rat) * av N i) : ((jq N (lens (z0 N)) (q : Int) (.inl (k : Int)) : Int) : Rat) = (q : Rat) * vi N k := by
  have F := hV.fwr
  unfold jq
  by_cases h0 : k = 0
  · subst h0
    rw [if_pos (by rfl), vi0, Rat.intCast_natCast]; grind
  · rw [if_neg (by simp; omega), toR_int (f := av N) (c := (q : Rat)) fun s hs hq => ?_, toRall F hk h0]
    obtain ⟨a, b⟩ := mem_seatsOf.mp (show (s.1, s.2) ∈ seatsOf N N.length from hs)
    rw [hq] at b
    have := (F.fw s.1 a _ b).1
    exact h s.1 (by omega)
/-- after a period's multiple all boats are full -/
theorem bt_per {c : Nat} (hc : perN N N.length ∣ c) : ∀ k, k < N.length → ((bt N (lens (z0 N)) (c : Int) k : Int) : Rat) = (c : Rat) * av N k := by
  have F := hV.fwr
  have J := jn_of hV
  refine jq_rec J.fw fun k hk ih => ?_
  have hj := jq_av hV hk ih
  have h1 := (J.st k hk).1
  have hb := bt_eq (ls := lens (z0 N)) (t := (c : Int)) J.fw hk
  rw [z0_ls, Int.zero_add, Int.fdiv_eq_ediv_of_nonneg _ (by omega)] at hb
  have hm := av_mul F hk
  obtain ⟨z, hz⟩ := isZ_den (Nat.dvd_trans (perN_den (N := N) hk) hc)
  have hji : jq N (lens (z0 N)) (c : Int) (.inl (k : Int)) = z * ((N.getD k []).length : Int) := by
    apply Rat.intCast_inj.mp
    rw [hj, Rat.intCast_mul, Rat.intCast_natCast, ← hm, ← hz]
    grind
  rw [hb, hji, Int.mul_ediv_cancel _ (by omega), ← hz]
  grind
theorem jq_per {c : Nat} (hc : perN N N.length ∣ c) {k : Nat} (hk : k < N.length) : jq N (lens (z0 N)) (c : Int) (.inl (k : Int)) = bt N (lens (z0 N)) (c : Int) k * ((N.getD k []).length : Int) := by
  have hb := bt_per hV hc
  have hj := jq_av hV hk fun i hi => hb i (by omega)
  apply Rat.intCast_inj.mp
  rw [hj, Rat.intCast_mul, Rat.intCast_natCast, hb k hk, ← av_mul hV.fwr hk]
  grind
end
/-! after a period: the same again, with later passengers -/
theorem runI_add {N : Net} {qs : Qs} {p : Int} (b : Nat) : ∀ a : Nat, runI N qs p (b + a) = runI N (runI N qs p b) (p + (b : Int)) a
  | 0 => rfl
  | a + 1 => by
    show (arrI N (runI N qs p (b + a)) (p + ((b + a : Nat) : Int))).1 = (arrI N (runI N (runI N qs p b) (p + (b : Int)) a) (p + (b : Int) + (a : Int))).1
    rw [runI_add b a, show p + ((b + a : Nat) : Int) = p + (b : Int) + (a : Int) by omega]
local macro_rules | `(tactic| walk_at "run") => `(tactic| try simp only [tSeq, tAsg, tVar, tC, gName, L2.start, List.map_cons, List.map_nil, List.cons_append, List.nil_append, List.length_cons, List.length_nil, List.replicate, List.getElem?_cons_zero, List.getElem?_cons_succ, Option.some.injEq, exists_eq_left', List.set_cons_zero, List.set_cons_succ, V.ref.injEq, tRet, x_tLst, x_tTup, tCons, tCB, tNil, tOp, x_addI, x_mulI, x_rI, x_rI0, x_ltI, x_leI, x_ltS, x_leS, x_eqI, x_neI, x_eqS, x_eqB, x_neB, x_isiI, x_isiS, x_int, x_max, x_min, cxOf, tIfS, tNext, tTest, V.bl.injEq, decide_eq_true_eq, gSub, tAnd, tOr, tNot, tB, tDrop, tBM, x_tFor, iRng1, iList, iTup, x_tLc, tYes, tCall, tIf, tAndV, tOrV, tNotV, tChain, List.append_nil, tUn, if_true, wipe, true_and, x_never, iU, x_itS, kV, Nat.reduceAdd, Nat.reduceSub, List.replicate_zero, x_rU, x_tMkO, iEnumT, x_tDc, x_tDGet, x_tDGet2, x_sDPut, x_tDSetd, x_tDNewK, x_iItems, x_iZip, x_tSAddK, x_tLockV, x_tTupRg, x_tRg2, tPar, tPar3, tBM0, tSl, tNoPart, tPart, x_tSetAdd, x_tDIn, x_iKeys, x_iZipX, x_iZip3, iRevR, tRg1, x_tFld, x_tMeth, x_sFld, x_tMake, tAug, x_ipI, x_tDNotIn, iRng2, tAugS, tBMZ, tTupZ])
/-! cycles, their mathematics: runs under other names -/
theorem arrI_map {N : Net} {f : Int → Int} {qs : Qs} {p : Int} : arrI N (mapQ f qs) (f p) = (mapQ f (arrI N qs p).1, mapE f (arrI N qs p).2) := joinW_map (departW_map 8) qs 0 p
/-- the events of the arrival t + 1 -/
def evI (N : Net) (qs : Qs) (p : Int) (t : Nat) : Evs := (arrI N (runI N qs p t) (p + (t : Int))).2
theorem runI_map {N : Net} {f : Int → Int} {qs : Qs} {p p' : Int} : ∀ n : Nat, (∀ t : Nat, t < n → f (p + (t : Int)) = p' + (t : Int)) → runI N (mapQ f qs) p' n = mapQ f (runI N qs p n)
  | 0, _ => rfl
  | n + 1, h => by
    show (arrI N (runI N (mapQ f qs) p' n) (p' + (n : Int))).1 = _
    rw [runI_map n fun t ht => h t (by omega), ← h n (by omega), arrI_map]
    rfl
theorem evI_map {N : Net} {f : Int → Int} {qs : Qs} {p p' : Int} {n : Nat} (h : ∀ t : Nat, t < n + 1 → f (p + (t : Int)) = p' + (t : Int)) : evI N (mapQ f qs) p' n = mapE f (evI N qs p n) := by
  unfold evI
  rw [runI_map n fun t ht => h t (by omega), ← h n (by omega), arrI_map]
theorem evI_add {N : Net} {qs : Qs} {p : Int} {m n : Nat} : evI N qs p (m + n) = evI N (runI N qs p m) (p + (m : Int)) n := by
  unfold evI
  rw [runI_add, Int.natCast_add, Int.add_assoc]
/-- what is known of a passenger, who comes before x is not -/
def knw (x y : Int) : Int := max 0 (y - x)
theorem zeros_map {f : Int → Int} {qs : Qs} (h : ∀ q ∈ qs, ∀ y ∈ q, f y = 0) : mapQ f qs = zerosQ (lens qs) := by
  unfold mapQ zerosQ lens
  rw [List.map_map]
  refine List.map_congr_left fun q hq => ?_
  show q.map f = List.replicate _ 0
  have e : ((q.length : Int)).toNat = q.length := by omega
  rw [show q.map f = q.map fun _ => (0 : Int) from List.map_congr_left fun y hy => h q hq y hy, List.map_const']
  first
    | rfl
    | (congr 1; first | exact e.symm | simp)
/-- a run whose waiting passengers are not known -/
theorem ev_known {N : Net} {qs : Qs} {p : Int} (h : ∀ q ∈ qs, ∀ y ∈ q, y < p) (n : Nat) : mapE (knw (p - 1)) (evI N qs p n) = evI N (zerosQ (lens qs)) 1 n := by
  have z : mapQ (knw (p - 1)) qs = zerosQ (lens qs) := zeros_map fun q hq y hy => by
    have := h q hq y hy
    unfold knw
    omega
  rw [← z, evI_map (p := p) fun t _ => by unfold knw; omega]
end K
namespace FB
open PySem PySem.Spec PyProof.Rows L2 Evl
/-! who comes to a place at an arrival: those who waited there, then those from earlier stations -/
section
variable {α : Type} [Inhabited α]
/-- as LnR, for the stations of a set that boats don't leave -/
structure LnRB (B : Nat → Prop) (S S' : Nat → α → Prop) (R : α → Prop) : Prop where
  mono : ∀ k j x, B k → B j → S k x → k < j → S' j x
  weak : ∀ j x, S' j x → S j x
  any : ∀ k x, B k → S k x → R x
variable {N : Net} {S S' : Nat → α → Prop} {R : α → Prop} {B : Nat → Prop}
def DepLnB (N : Net) (B : Nat → Prop) (S S' : Nat → α → Prop) (R : α → Prop) (f : Nat) (dep : Dep α) : Prop := ∀ qs st, N.length ≤ st + f → st < N.length → B st → qs.length = N.length → (qs.getD st []).length = (N.getD st []).length → (∀ k, k < N.length → ∀ x ∈ qs.getD k [], S k x) → Ln N S S' R qs (dep qs st)
theorem joinW_lnB {f : Nat} {dep : Dep α} (hd : DepLnB N B S S' R f dep) {qs : QsA α} {j : Nat} {p : α} (hl : qs.length = N.length) (hj : j < N.length) (hB : B j) (hf : N.length ≤ j + f) (h : ∀ k, k < N.length → ∀ x ∈ qs.getD k [], S k x) (hp : S' j p) (hp2 : S j p) : Ln N S S' R qs (joinW N dep qs j p) := by
  have hjl : j < qs.length := by rw [hl]; exact hj
  have h' : ∀ k, k < N.length → ∀ x ∈ (qs.set j (qs.getD j [] ++ [p])).getD k [], S k x := fun k hk x hx => by
    rw [getD_set' hjl] at hx
    split at hx
    · rename_i e
      subst e
      rcases List.mem_append.mp hx with hx | hx
      · exact h k hk x hx
      · rw [List.mem_singleton.mp hx]; exact hp2
    · exact h k hk x hx
  have put : ∀ {r : QsA α × EvsA α}, Ln N S S' R (qs.set j (qs.getD j [] ++ [p])) r → Ln N S S' R qs r := fun {r} F => by
    refine ⟨by rw [F.len, List.length_set], fun k hk => ?_, F.ok, F.pt, F.ev⟩
    obtain ⟨js, e, hs⟩ := F.st k hk
    rw [getD_set' hjl] at e
    by_cases z : k = j
    · subst z
      rw [if_pos rfl] at e
      exact ⟨p :: js, by rw [e]; simp, fun x hx => (List.mem_cons.mp hx).elim (fun z => z ▸ hp) (hs x)⟩
    · rw [if_neg z] at e
      exact ⟨js, e, hs⟩
  unfold joinW
  split
  · rename_i e
    exact put (hd _ j hf hj hB (by rw [List.length_set]; exact hl) (by rw [getD_set' hjl, if_pos rfl]; exact e) h')
  · exact put (Ln.none h')
theorem moveW_lnB (L : LnRB B S S' R) {f : Nat} {dep : Dep α} (hd : DepLnB N B S S' R f dep) {st : Nat} (hBs : B st) (hf : N.length ≤ st + 1 + f) : ∀ {ms : List (Key × α)} {qs : QsA α}, (∀ m ∈ ms, ∀ j : Int, m.1 = .inl j → (st : Int) < j ∧ j < N.length ∧ B j.toNat) → (∀ m ∈ ms, S st m.2) → qs.length = N.length → (∀ k, k < N.length → ∀ x ∈ qs.getD k [], S k x) → Ln N S S' R qs (moveW N dep ms qs)
  | [], qs, _, _, hl, h => Ln.none h
  | (.inr z, p) :: r, qs, hm, hs, hl, h => by
    have F := moveW_lnB L hd hBs hf (ms := r) (fun m h => hm m (List.mem_cons_of_mem _ h)) (fun m h => hs m (List.mem_cons_of_mem _ h)) hl h
    have one : Ln N S S' R qs (qs, [((.inr z : Key), [p])]) := by
      refine ⟨rfl, fun k hk => ⟨[], ?_, by simp⟩, h, fun y x hx => ?_, fun e he k hk => ?_⟩
      · show ((if (.inr z : Key) = .inl (k : Int) then [p] else []) ++ []) ++ qs.getD k [] = _
        rw [if_neg (by simp)]; simp
      · have hx : x ∈ (if (.inr z : Key) = .inr y then [p] else []) ++ [] := hx
        split at hx
        · simp at hx
          rw [hx]
          exact L.any st p hBs (hs _ (List.mem_cons_self ..))
        · simp at hx
      · rw [List.mem_singleton.mp he] at hk
        cases hk
    exact one.then F
  | (.inl j, p) :: r, qs, hm, hs, hl, h => by
    obtain ⟨a, b, c⟩ := hm _ (List.mem_cons_self ..) j rfl
    have sp : S' j.toNat p := L.mono st _ p hBs c (hs _ (List.mem_cons_self ..)) (by omega)
    have F1 := joinW_lnB hd (p := p) hl (j := j.toNat) (by omega) c (by omega) h sp (L.weak _ _ sp)
    have F2 := moveW_lnB L hd hBs hf (ms := r) (fun m h => hm m (List.mem_cons_of_mem _ h)) (fun m h => hs m (List.mem_cons_of_mem _ h)) (F1.len.trans hl) F1.ok
    exact F1.then F2
theorem departW_lnB (L : LnRB B S S' R) (fw : Fw N) (hc : ∀ st, st < N.length → B st → ∀ j : Int, (.inl j : Key) ∈ N.getD st [] → B j.toNat) : ∀ f, DepLnB N B S S' R f (departW (α := α) N f)
  | 0 => fun qs st h1 h2 => by omega
  | f + 1 => fun qs st hf hst hB hl hs h => by
    have hql : st < qs.length := by rw [hl]; exact hst
    have F := moveW_lnB L (departW_lnB L fw hc f) (st := st) hB (by omega) (ms := (N.getD st []).zip (qs.getD st [])) (qs := qs.set st []) (fun m hm j e => ⟨(fw st hst j (by rw [← e]; exact (List.of_mem_zip hm).1)).1, (fw st hst j (by rw [← e]; exact (List.of_mem_zip hm).1)).2, hc st hst hB j (by rw [← e]; exact (List.of_mem_zip hm).1)⟩) (fun m hm => h st hst _ (List.of_mem_zip hm).2) (by rw [List.length_set]; exact hl) (fun k hk x hx => by
      rw [getD_set' hql] at hx
      split at hx
      · simp at hx
      · exact h k hk x hx)
    refine ⟨by show (moveW N (departW N f) _ _).1.length = _; rw [F.len, List.length_set], fun k hk => ?_, F.ok, fun z x hx => ?_, fun e he k hk x hx => ?_⟩
    · obtain ⟨js, e, hj⟩ := F.st k hk
      rw [getD_set' hql] at e
      refine ⟨js, ?_, hj⟩
      show ((if (.inl (st : Int) : Key) = .inl (k : Int) then qs.getD st [] else []) ++ evP (moveW N (departW N f) ((N.getD st []).zip (qs.getD st [])) (qs.set st [])).2 _) ++ (moveW N (departW N f) ((N.getD st []).zip (qs.getD st [])) (qs.set st [])).1.getD k [] = _
      by_cases z : k = st
      · subst z
        rw [if_pos rfl] at e
        rw [if_pos rfl, List.append_assoc]
        rw [e, List.nil_append]
      · rw [if_neg z] at e
        rw [if_neg (by simp; omega), List.nil_append]
        exact e
    · have hx : x ∈ (if (.inl (st : Int) : Key) = .inr z then qs.getD st [] else []) ++ evP _ _ := hx
      rw [if_neg (by simp)] at hx
      exact F.pt z x (by simpa using hx)
    · rcases List.mem_cons.mp he with he | he
      · rw [he] at hk hx
        have : st = k := by have := Sum.inl.inj hk; omega
        subst this
        exact h st hst x hx
      · exact F.ev e he k hk x hx
end
end FB
namespace K
open PySem PySem.Spec PyProof.Rows L2 Evl FB
local macro_rules | `(tactic| walk_at "run") => `(tactic| try simp only [tSeq, tAsg, tVar, tC, gName, L2.start, List.map_cons, List.map_nil, List.cons_append, List.nil_append, List.length_cons, List.length_nil, List.replicate, List.getElem?_cons_zero, List.getElem?_cons_succ, Option.some.injEq, exists_eq_left', List.set_cons_zero, List.set_cons_succ, V.ref.injEq, tRet, x_tLst, x_tTup, tCons, tCB, tNil, tOp, x_addI, x_mulI, x_rI, x_rI0, x_ltI, x_leI, x_ltS, x_leS, x_eqI, x_neI, x_eqS, x_eqB, x_neB, x_isiI, x_isiS, x_int, x_max, x_min, cxOf, tIfS, tNext, tTest, V.bl.injEq, decide_eq_true_eq, gSub, tAnd, tOr, tNot, tB, tDrop, tBM, x_tFor, iRng1, iList, iTup, x_tLc, tYes, tCall, tIf, tAndV, tOrV, tNotV, tChain, List.append_nil, tUn, if_true, wipe, true_and, x_never, iU, x_itS, kV, Nat.reduceAdd, Nat.reduceSub, List.replicate_zero, x_rU, x_tMkO, iEnumT, x_tDc, x_tDGet, x_tDGet2, x_sDPut, x_tDSetd, x_tDNewK, x_iItems, x_iZip, x_tSAddK, x_tLockV, x_tTupRg, x_tRg2, tPar, tPar3, tBM0, tSl, tNoPart, tPart, x_tSetAdd, x_tDIn, x_iKeys, x_iZipX, x_iZip3, iRevR, tRg1, x_tFld, x_tMeth, x_sFld, x_tMake, tAug, x_ipI, x_tDNotIn, iRng2, tAugS, tBMZ, tTupZ])
/-! cycles, their mathematics: after enough periods nobody waits who is not known -/
theorem short_lensQ {N : Net} {qs : Qs} (h : Short N qs) : LenQ N (lens qs) qs := ⟨h.len, fun k hk => lens_at (by rw [h.len]; exact hk)⟩
theorem short_lensL {N : Net} {qs : Qs} (h : Short N qs) : Lens N (lens qs) := by
  refine ⟨by rw [lens_len, h.len], fun k hk => ?_, fun k hk => ?_⟩
  · rw [lens_at (by rw [h.len]; exact hk)]; omega
  · rw [lens_at (by rw [h.len]; exact hk)]
    have := h.lt k hk
    omega
theorem lens_ext {a b : List Int} {n : Nat} (ha : a.length = n) (hb : b.length = n) (h : ∀ k, k < n → a.getD k 0 = b.getD k 0) : a = b := by
  refine List.ext_getElem? fun k => ?_
  by_cases hk : k < n
  · have := h k hk
    rw [List.getD_eq_getElem?_getD, List.getD_eq_getElem?_getD, List.getElem?_eq_getElem (by omega), List.getElem?_eq_getElem (by omega)] at this
    rw [List.getElem?_eq_getElem (by omega), List.getElem?_eq_getElem (by omega)]
    exact congrArg some this
  · rw [List.getElem?_eq_none (by omega), List.getElem?_eq_none (by omega)]
theorem lens_zeros {N : Net} {ls : List Int} (L : Lens N ls) : lens (zerosQ ls) = ls := by
  refine lens_ext (n := N.length) (by unfold lens zerosQ; simp [L.len]) L.len fun k hk => ?_
  have hl : k < ls.length := by rw [L.len]; exact hk
  have := L.nn k hk
  rw [lens_at (by unfold zerosQ; simpa using hl)]
  have e : (zerosQ ls).getD k [] = List.replicate (ls.getD k 0).toNat 0 := by
    unfold zerosQ
    simp [List.getD_eq_getElem?_getD, hl]
  rw [e, List.length_replicate]
  omega
theorem zeros_mem {ls : List Int} : ∀ q ∈ zerosQ ls, ∀ y ∈ q, y = 0 := fun q hq y hy => by
  unfold zerosQ at hq
  obtain ⟨l, _, rfl⟩ := List.mem_map.mp hq
  exact (List.mem_replicate.mp hy).2
theorem getD_memQ {qs : Qs} {k : Nat} {y : Int} (h : y ∈ qs.getD k []) : ∃ q ∈ qs, y ∈ q := by
  by_cases hk : k < qs.length
  · refine ⟨qs[k], List.getElem_mem hk, ?_⟩
    rw [List.getD_eq_getElem?_getD, List.getElem?_eq_getElem hk] at h
    exact h
  · rw [List.getD_eq_getElem?_getD, List.getElem?_eq_none (by omega)] at h
    simp at h
theorem mem_getDQ {qs : Qs} {q : List Int} (h : q ∈ qs) : ∃ k, k < qs.length ∧ q = qs.getD k [] := by
  obtain ⟨k, hk, rfl⟩ := List.mem_iff_getElem.mp h
  exact ⟨k, hk, by rw [List.getD_eq_getElem?_getD, List.getElem?_eq_getElem hk]; rfl⟩
/-- all events of n arrivals -/
def evsI (N : Net) (qs : Qs) (p : Int) : Nat → Evs
  | 0 => []
  | n + 1 => evsI N qs p n ++ evI N qs p n
section
variable {N : Net} (hV : ValidN N) (h8 : N.length ≤ 8)
include hV h8
theorem run_len {qs : Qs} {p : Int} (S : Short N qs) (t : Nat) {k : Nat} (hk : k < N.length) : (((runI N qs p t).getD k []).length : Int) = wt N (lens qs) (t : Int) k := by
  rw [(run_labs (jn_of hV) (short_lensL S) h8 hV.pos (short_lensQ S) t).2, mapQ_at, List.length_map, labs_at hk, lab_len (jn_of hV).fw (short_lensL S) hk]
theorem run_short {qs : Qs} {p : Int} (S : Short N qs) (t : Nat) : Short N (runI N qs p t) := by
  refine ⟨?_, fun k hk => ?_⟩
  · rw [(run_labs (jn_of hV) (short_lensL S) h8 hV.pos (short_lensQ S) t).2]
    unfold mapQ
    rw [List.length_map, labs_len]
  · have h1 := run_len hV h8 (p := p) S t hk
    have h2 := (wt_lt (t := (t : Int)) (jn_of hV).fw (short_lensL S) hk).2
    omega
theorem run_ln {B : Nat → Prop} {S S' : Nat → Int → Prop} {R : Int → Prop} (L : LnRB B S S' R) (hB0 : B 0) (hc : ∀ st, st < N.length → B st → ∀ j : Int, (.inl j : Key) ∈ N.getD st [] → B j.toNat) {qs : Qs} {p : Int} (Sh : Short N qs)
    (h : ∀ k, k < N.length → ∀ x ∈ qs.getD k [], S k x) : ∀ n : Nat, (∀ t : Nat, t < n → S' 0 (p + (t : Int))) → Ln N S S' R qs (runI N qs p n, evsI N qs p n) ∧ ∀ k : Nat, k < N.length → ((evP (evsI N qs p n) (.inl (k : Int))).length : Int) = ((N.getD k []).length : Int) * bt N (lens qs) (n : Int) k
  | 0, _ => ⟨Ln.none h, fun k hk => by
      rw [show bt N (lens qs) ((0 : Nat) : Int) k = 0 from bt_zero (jn_of hV).fw (short_lensL Sh) k hk]
      simp [evsI, evP]⟩
  | n + 1, ha => by
    have J := jn_of hV
    have hp := hV.pos
    obtain ⟨I1, I2⟩ := run_ln L hB0 hc Sh h n fun t ht => ha t (by omega)
    have Sn := run_short hV h8 (p := p) Sh n
    have F1 : Ln N S S' R (runI N qs p n) (joinW N (departW N 8) (runI N qs p n) 0 (p + (n : Int))) := joinW_lnB (departW_lnB L J.fw hc 8) Sn.len (by omega) hB0 (by omega) I1.ok (ha n (by omega)) (L.weak _ _ (ha n (by omega)))
    have F2 : Flow N (runI N qs p n) (at1 0) (joinW N (departW N 8) (runI N qs p n) 0 (p + (n : Int))) := joinW_flow (departW_flow J.fw 8) Sn.len (by omega) (by omega)
    have F3 := step_all J.fw (short_lensL Sh) (t := (n : Int)) (fun k hk => run_len hV h8 (p := p) Sh n hk) F2 (run_short hV h8 (p := p) Sh (n + 1))
    refine ⟨I1.then F1, fun k hk => ?_⟩
    show ((evP (evsI N qs p n ++ evI N qs p n) (.inl (k : Int))).length : Int) = _
    rw [evP_append, List.length_append, Int.natCast_add, I2 k hk, evP_len]
    show _ + pn (joinW N (departW N 8) (runI N qs p n) 0 (p + (n : Int))).2 (.inl (k : Int)) = _
    rw [F2.s k hk, F3 k hk, ← Int.mul_add, Int.natCast_add]
    congr 1
    show _ = bt N (lens qs) ((n : Int) + 1) k
    omega
/-- nobody comes from later -/
theorem run_ltb {qs : Qs} {p b : Int} (Sh : Short N qs) (n : Nat) (h : ∀ q ∈ qs, ∀ y ∈ q, y < b) (hb : p + (n : Int) ≤ b) : ∀ q ∈ runI N qs p n, ∀ y ∈ q, y < b := by
  have R := (run_ln hV h8 (B := fun _ => True) (S := fun _ x => x < b) (S' := fun _ x => x < b) (R := fun x => x < b) ⟨fun _ _ _ _ _ h _ => h, fun _ _ h => h, fun _ _ _ h => h⟩ trivial (fun _ _ _ _ _ => trivial) Sh (p := p) (fun k hk x hx => by
    obtain ⟨q, hq, hx⟩ := getD_memQ hx
    exact h q hq x hx) n fun t ht => by omega).1
  intro q hq y hy
  obtain ⟨k, hk, rfl⟩ := mem_getDQ hq
  exact R.ok k (by rw [← (run_short hV h8 (p := p) Sh n).len]; exact hk) y hy
theorem run_lt {qs : Qs} {p : Int} (Sh : Short N qs) (h : ∀ q ∈ qs, ∀ y ∈ q, y < p) (n : Nat) : ∀ q ∈ runI N qs p n, ∀ y ∈ q, y < p + (n : Int) :=
  run_ltb hV h8 Sh n (fun q hq y hy => by have := h q hq y hy; omega) (Int.le_refl _)
theorem per_bt {ls : List Int} (L : Lens N ls) {c : Nat} (hc : perN N N.length ∣ c) : ∀ k, k < N.length → bt N ls (c : Int) k = bt N (lens (z0 N)) (c : Int) k := by
  have J := jn_of hV
  refine jq_rec J.fw fun k hk ih => ?_
  have e : jq N ls (c : Int) (.inl (k : Int)) = jq N (lens (z0 N)) (c : Int) (.inl (k : Int)) := by
    unfold jq
    split
    · rfl
    · refine toQ_congr fun s hs hq => ih _ ?_
      obtain ⟨i, q⟩ := s
      have hq : q = .inl (k : Int) := hq
      subst hq
      exact seat_lt J.fw hs
  have h1 := L.nn k hk
  have h2 := L.lt k hk
  rw [bt_eq J.fw hk, e, jq_per hV hc hk, Int.fdiv_eq_ediv_of_nonneg _ (by omega), Int.add_mul_ediv_right _ _ (by omega), Int.ediv_eq_zero_of_lt h1 h2, Int.zero_add]
theorem per_wt {ls : List Int} (L : Lens N ls) {c : Nat} (hc : perN N N.length ∣ c) {k : Nat} (hk : k < N.length) : wt N ls (c : Int) k = ls.getD k 0 := by
  have J := jn_of hV
  have e : jq N ls (c : Int) (.inl (k : Int)) = jq N (lens (z0 N)) (c : Int) (.inl (k : Int)) := by
    unfold jq
    split
    · rfl
    · refine toQ_congr fun s hs hq => per_bt hV h8 L hc _ ?_
      exact (mem_seatsOf.mp (show (s.1, s.2) ∈ _ from hs)).1
  unfold wt
  rw [per_bt hV h8 L hc k hk, e, jq_per hV hc hk]
  omega
theorem bt_one {c : Nat} (hc : perN N N.length ∣ c) (h1 : 1 ≤ c) {k : Nat} (hk : k < N.length) (ha : 0 < av N k) : 1 ≤ bt N (lens (z0 N)) (c : Int) k := by
  have hb := bt_per hV hc k hk
  have hp : (0 : Rat) < ((bt N (lens (z0 N)) (c : Int) k : Int) : Rat) := by
    rw [hb]
    exact Rat.mul_pos (by have := Rat.intCast_pos.mpr (show (0 : Int) < (c : Int) by omega); rw [Rat.intCast_natCast] at this; exact this) ha
  have := Rat.intCast_pos.mp hp
  omega
theorem av_zero : 0 < av N 0 := by
  rw [av_pos hV.fwr hV.pos, vi0]
  decide
theorem av_next : ∀ st, st < N.length → 0 < av N st → ∀ j : Int, (.inl j : Key) ∈ N.getD st [] → 0 < av N j.toNat := fun st hst ha j hj => by
  obtain ⟨a, b⟩ := (jn_of hV).fw st hst j hj
  have hk : j.toNat < N.length := by omega
  rw [av_pos hV.fwr hk, ← toRall hV.fwr hk (by omega)]
  refine (toR_pos av_nn).mpr ⟨st, mem_seatsOf.mpr ⟨hst, ?_⟩, ha⟩
  rw [show ((j.toNat : Nat) : Int) = j by omega]
  exact hj
end
/-- at how many of the first stations one can wait -/
def wN (N : Net) : Nat → Nat
  | 0 => 0
  | s + 1 => wN N s + if 1 < (N.getD s []).length then 1 else 0
theorem wN_eq {N : Net} : ∀ s, s ≤ N.length → wN N s = ((N.take s).filter fun s => decide (1 < s.length)).length
  | 0, _ => rfl
  | s + 1, h => by
    have e : N.take (s + 1) = N.take s ++ [N.getD s []] := by
      rw [List.take_succ, List.getElem?_eq_getElem (by omega), List.getD_eq_getElem?_getD, List.getElem?_eq_getElem (by omega)]
      rfl
    show wN N s + _ = _
    rw [wN_eq s (by omega), e, List.filter_append, List.length_append]
    congr 1
    by_cases c : 1 < (N.getD s []).length
    · rw [if_pos c, List.filter_cons_of_pos (by simpa using c)]; rfl
    · rw [if_neg c, List.filter_cons_of_neg (by simpa using c)]; rfl
theorem wN_all {N : Net} : wN N N.length = waitsN N := by
  rw [wN_eq _ (Nat.le_refl _), List.take_length]; rfl
theorem suf_mem {a b c d : List Int} (e : a ++ b = c ++ d) (h : c.length ≤ a.length) : ∀ x ∈ b, x ∈ d := by
  have e2 : b = d.drop (a.length - c.length) := by
    have := congrArg (List.drop a.length) e
    rw [List.drop_left, List.drop_append, List.drop_eq_nil_of_le h, List.nil_append] at this
    exact this
  intro x hx
  rw [e2] at hx
  exact List.mem_of_mem_drop hx
section
variable {N : Net} (hV : ValidN N) (h8 : N.length ≤ 8) {ls : List Int} (L : Lens N ls) {per : Nat} (hc : perN N N.length ∣ per) (h1 : 1 ≤ per)
include hV h8 L hc h1
theorem known : ∀ s, s ≤ N.length → ∀ j, wN N s ≤ j → ∀ k, k < s → 0 < av N k → ∀ x ∈ (runI N (zerosQ ls) 1 (j * per)).getD k [], 1 ≤ x
  | 0, _, _, _, k, hk, _, _, _ => by omega
  | s + 1, hs, j, hj, k, hk, ha, x, hx => by
    have hw : wN N s + (if 1 < (N.getD s []).length then 1 else 0) ≤ j := hj
    have Z := zeros_short L
    by_cases hks : k < s
    · exact known s (by omega) j (by omega) k hks ha x hx
    have hk2 : k = s := by omega
    subst hk2
    by_cases c : 1 < (N.getD k []).length
    · rw [if_pos c] at hw
      obtain ⟨i, rfl⟩ : ∃ i, j = i + 1 := ⟨j - 1, by omega⟩
      have IH := known k (by omega) i (by omega)
      have SY := run_short hV h8 (p := 1) Z (i * per)
      have er : runI N (zerosQ ls) 1 ((i + 1) * per) = runI N (runI N (zerosQ ls) 1 (i * per)) (1 + ((i * per : Nat) : Int)) per := by
        rw [Nat.succ_mul, runI_add]
      rw [er] at hx
      obtain ⟨R1, R2⟩ := run_ln hV h8 (B := fun k => 0 < av N k) (S := fun q x => 0 < av N q → q < k → 1 ≤ x) (S' := fun q x => 0 < av N q → q ≤ k → 1 ≤ x) (R := fun _ => True) ⟨fun a b x ha hb h hab _ hbk => h ha (by omega), fun a x h ha hak => h ha (by omega), fun _ _ _ _ => trivial⟩ (av_zero hV h8) (av_next hV h8) SY (p := 1 + ((i * per : Nat) : Int))
        (fun q hq x hx ha hqk => IH q hqk ha x hx) per fun t ht _ _ => by omega
      obtain ⟨js, e, hjs⟩ := R1.st k (by omega)
      dsimp only at e
      have hl := R2 k (by omega)
      have hb := bt_one hV h8 hc h1 (k := k) (by omega) ha
      rw [per_bt hV h8 (short_lensL SY) hc k (by omega)] at hl
      have hlt := SY.lt k (by omega)
      have hm : ((N.getD k []).length : Int) * 1 ≤ ((N.getD k []).length : Int) * bt N (lens (z0 N)) (per : Int) k := Int.mul_le_mul_of_nonneg_left hb (by omega)
      exact hjs x (suf_mem e (by omega) x hx) ha (Nat.le_refl _)
    · have := (run_short hV h8 (p := 1) Z (j * per)).lt k (by omega)
      have h0 : ((runI N (zerosQ ls) 1 (j * per)).getD k []) = [] := List.length_eq_zero_iff.mp (by omega)
      rw [h0] at hx
      simp at hx
theorem port_known {n : Nat} (hn : waitsN N * per ≤ n) (z : Str) : ∀ x ∈ evP (evI N (zerosQ ls) 1 n) (.inr z), 1 ≤ x := by
  obtain ⟨m, rfl⟩ : ∃ m, n = waitsN N * per + m := ⟨n - waitsN N * per, by omega⟩
  have SY := run_short hV h8 (p := 1) (zeros_short L) (waitsN N * per)
  have R := (run_ln hV h8 (B := fun k => 0 < av N k) (S := fun q x => 0 < av N q → 1 ≤ x) (S' := fun q x => 0 < av N q → 1 ≤ x) (R := fun x => 1 ≤ x) ⟨fun a b x ha hb h _ _ => h ha, fun a x h => h, fun _ _ ha h => h ha⟩ (av_zero hV h8) (av_next hV h8) SY (p := 1 + ((waitsN N * per : Nat) : Int))
    (fun q hq x hx ha => known hV h8 L hc h1 N.length (Nat.le_refl _) _ (by rw [wN_all]; exact Nat.le_refl _) q hq ha x hx) (m + 1) fun t ht _ => by omega).1
  intro x hx
  rw [evI_add] at hx
  refine R.pt z x ?_
  show x ∈ evP (evsI N _ _ m ++ evI N _ _ m) (.inr z)
  rw [evP_append]
  exact List.mem_append_right _ hx
theorem per_lens : lens (runI N (zerosQ ls) 1 per) = ls := by
  have Z := zeros_short L
  have S1 := run_short hV h8 (p := 1) Z per
  refine lens_ext (n := N.length) (by rw [lens_len, S1.len]) L.len fun k hk => ?_
  rw [lens_at (by rw [S1.len]; exact hk), run_len hV h8 Z per hk, lens_zeros L, per_wt hV h8 L hc hk]
theorem canon_shift (n : Nat) : evI N (zerosQ ls) 1 n = mapE (knw (per : Int)) (evI N (zerosQ ls) 1 (per + n)) := by
  have Z := zeros_short L
  have e := ev_known (N := N) (qs := runI N (zerosQ ls) 1 per) (p := 1 + (per : Int)) (run_lt hV h8 Z (fun q hq y hy => by have := zeros_mem q hq y hy; omega) per) n
  rw [per_lens hV h8 L hc h1, ← evI_add, show 1 + (per : Int) - 1 = (per : Int) by omega] at e
  exact e.symm
theorem port_shift {n : Nat} (hn : waitsN N * per ≤ n) (z : Str) : evP (evI N (zerosQ ls) 1 (per + n)) (.inr z) = (evP (evI N (zerosQ ls) 1 n) (.inr z)).map (· + (per : Int)) := by
  have e : evP (evI N (zerosQ ls) 1 n) (.inr z) = (evP (evI N (zerosQ ls) 1 (per + n)) (.inr z)).map (knw (per : Int)) := by
    rw [canon_shift hV h8 L hc h1 n, evP_map]
  have k1 := port_known hV h8 L hc h1 hn z
  rw [e] at k1 ⊢
  rw [List.map_map]
  conv => lhs; rw [← List.map_id (evP (evI N (zerosQ ls) 1 (per + n)) (.inr z))]
  refine List.map_congr_left fun x hx => ?_
  have := k1 _ (List.mem_map_of_mem hx)
  show x = knw (per : Int) x + (per : Int)
  unfold knw at this ⊢
  omega
/-- what the cycle sees, under its own names -/
theorem cyc_port (t : Nat) (z : Str) : evP (evI N (cyQ N per ls) 1 t) (.inr z) = (evP (evI N (zerosQ ls) 1 (waitsN N * per + t)) (.inr z)).map (· - ((waitsN N * per : Nat) : Int)) := by
  have hz : mapQ (fun y : Int => if y = 0 then 0 else y - ((waitsN N * per : Nat) : Int)) (zerosQ ls) = zerosQ ls := by
    have := zeros_map (f := fun y : Int => if y = 0 then 0 else y - ((waitsN N * per : Nat) : Int)) (qs := zerosQ ls) fun q hq y hy => by rw [zeros_mem q hq y hy]; rfl
    rw [lens_zeros L] at this
    exact this
  have e := evI_map (N := N) (f := fun y : Int => if y = 0 then 0 else y - ((waitsN N * per : Nat) : Int)) (qs := zerosQ ls) (p := 1) (p' := 1 - ((waitsN N * per : Nat) : Int)) (n := waitsN N * per + t) fun t _ => by
    rw [if_neg (by omega)]; omega
  rw [hz, evI_add, show 1 - ((waitsN N * per : Nat) : Int) + ((waitsN N * per : Nat) : Int) = 1 by omega] at e
  show evP (evI N (runI N (zerosQ ls) (1 - ((waitsN N * per : Nat) : Int)) (waitsN N * per)) 1 t) (.inr z) = _
  rw [e, evP_map]
  refine List.map_congr_left fun x hx => ?_
  have := port_known hV h8 L hc h1 (n := waitsN N * per + t) (by omega) z x hx
  show (if x = 0 then 0 else _) = _
  rw [if_neg (by omega)]
theorem cyc_shift (t : Nat) (z : Str) : evP (evI N (cyQ N per ls) 1 (per + t)) (.inr z) = (evP (evI N (cyQ N per ls) 1 t) (.inr z)).map (· + (per : Int)) := by
  rw [cyc_port hV h8 L hc h1, cyc_port hV h8 L hc h1, show waitsN N * per + (per + t) = per + (waitsN N * per + t) by omega, port_shift hV h8 L hc h1 (by omega), List.map_map, List.map_map]
  refine List.map_congr_left fun x _ => ?_
  show x + (per : Int) - _ = x - _ + (per : Int)
  omega
end
/-! cycles, their mathematics: the rows of a port, one after another -/
theorem toQ_ge {f g : Nat → Int} {q : Key} {i : Nat} : ∀ {a : Seats}, (∀ s ∈ a, s.2 = q → g s.1 ≤ f s.1) → (i, q) ∈ a → toQ g q a + (f i - g i) ≤ toQ f q a
  | [], _, h => by cases h
  | (j, p) :: r, hm, h => by
    show (if p = q then g j else 0) + toQ g q r + (f i - g i) ≤ (if p = q then f j else 0) + toQ f q r
    rcases List.mem_cons.mp h with e | h
    · obtain ⟨rfl, rfl⟩ := Prod.mk.injEq .. ▸ e
      rw [if_pos rfl, if_pos rfl]
      have := toQ_mono (f := g) (g := f) (q := q) (a := r) fun s hs hq => hm s (List.mem_cons_of_mem _ hs) hq
      omega
    · have ih := toQ_ge (a := r) (fun s hs hq => hm s (List.mem_cons_of_mem _ hs) hq) h
      by_cases e : p = q
      · have := hm (j, p) (List.mem_cons_self ..) e
        rw [if_pos e, if_pos e]
        have h2 : g j ≤ f j := this
        omega
      · rw [if_neg e, if_neg e]; omega
/-- each who comes to a port is an event of its own -/
def OneP (es : Evs) : Prop := ∀ e ∈ es, ∀ z : Str, e.1 = .inr z → ∃ x, e.2 = [x]
theorem OneP.nil : OneP [] := fun _ h => nomatch h
theorem OneP.app {a b : Evs} (h : OneP a) (k : OneP b) : OneP (a ++ b) := fun e he => (List.mem_append.mp he).elim (h e) (k e)
def DepOne1 (dep : Dep Int) : Prop := ∀ qs st, OneP (dep qs st).2
theorem joinW_one1 {N : Net} {dep : Dep Int} (h : DepOne1 dep) (qs : Qs) (j : Nat) (p : Int) : OneP (joinW N dep qs j p).2 := by
  unfold joinW
  split
  · exact h _ _
  · exact OneP.nil
theorem moveW_one1 {N : Net} {dep : Dep Int} (h : DepOne1 dep) : ∀ (ms : List (Key × Int)) (qs : Qs), OneP (moveW N dep ms qs).2
  | [], _ => OneP.nil
  | (.inr z, p) :: r, qs => by
    intro e he y hy
    rcases List.mem_cons.mp he with rfl | he
    · exact ⟨p, rfl⟩
    · exact moveW_one1 h r qs e he y hy
  | (.inl j, p) :: r, qs => (joinW_one1 h _ _ _).app (moveW_one1 h r _)
theorem departW_one1 {N : Net} : ∀ f, DepOne1 (departW (α := Int) N f)
  | 0 => fun _ _ => OneP.nil
  | f + 1 => fun qs st e he z hz => by
    rcases List.mem_cons.mp he with rfl | he
    · cases hz
    · exact moveW_one1 (departW_one1 f) _ _ e he z hz
theorem evI_one {N : Net} {qs : Qs} {p : Int} {n : Nat} : OneP (evI N qs p n) := joinW_one1 (departW_one1 8) _ _ _
theorem addE_port {t : Int} {z : Str} : ∀ {es : Evs} {R : RowsF}, OneP es → addE t R es (.inr z) = R (.inr z) ++ (evP es (.inr z)).map fun x => ([x], t)
  | [], R, _ => by simp [addE, evP]
  | e :: es, R, h => by
    show addE t (addR R e.1 (e.2, t)) es (.inr z) = _
    rw [addE_port fun x hx => h x (List.mem_cons_of_mem _ hx)]
    show (if (.inr z : Key) = e.1 then R (.inr z) ++ [(e.2, t)] else R (.inr z)) ++ _ = R (.inr z) ++ ((if e.1 = .inr z then e.2 else []) ++ evP es (.inr z)).map _
    by_cases c : e.1 = .inr z
    · obtain ⟨x, hx⟩ := h e (List.mem_cons_self ..) z c
      rw [if_pos c.symm, if_pos c, hx]
      simp
    · rw [if_neg fun w => c w.symm, if_neg c]
      simp
/-- who comes to a port, one after another -/
def stP (N : Net) (qs : Qs) (p : Int) (z : Str) (n : Nat) : List Int := evP (evsI N qs p n) (.inr z)
theorem stP_succ {N : Net} {qs : Qs} {p : Int} {z : Str} {n : Nat} : stP N qs p z (n + 1) = stP N qs p z n ++ evP (evI N qs p n) (.inr z) := evP_append
theorem evsI_add {N : Net} {qs : Qs} {p : Int} (m : Nat) : ∀ n : Nat, evsI N qs p (m + n) = evsI N qs p m ++ evsI N (runI N qs p m) (p + (m : Int)) n
  | 0 => by simp [evsI]
  | n + 1 => by
    show evsI N qs p (m + n) ++ evI N qs p (m + n) = _ ++ (_ ++ evI N _ _ n)
    rw [evsI_add m n, evI_add, List.append_assoc]
theorem stP_add {N : Net} {qs : Qs} {p : Int} {z : Str} (m n : Nat) : stP N qs p z (m + n) = stP N qs p z m ++ stP N (runI N qs p m) (p + (m : Int)) z n := by
  unfold stP
  rw [evsI_add, evP_append]
theorem stP_pre {N : Net} {qs : Qs} {p x : Int} {z : Str} {a i : Nat} (h : (stP N qs p z a)[i]? = some x) (d : Nat) : (stP N qs p z (a + d))[i]? = some x := by
  rw [stP_add, List.getElem?_append_left (List.getElem?_eq_some_iff.mp h).1, h]
theorem stP_one {N : Net} {qs : Qs} {p x y : Int} {z : Str} {a b i : Nat} (h : (stP N qs p z a)[i]? = some x) (k : (stP N qs p z b)[i]? = some y) : x = y := by
  have h1 := stP_pre h b
  have h2 := stP_pre k a
  rw [Nat.add_comm b a, h1] at h2
  exact Option.some.inj h2
theorem stP_known {N : Net} {qs : Qs} {p : Int} {z : Str} (h : ∀ q ∈ qs, ∀ y ∈ q, y < p) : ∀ n, (stP N qs p z n).map (knw (p - 1)) = stP N (zerosQ (lens qs)) 1 z n
  | 0 => rfl
  | n + 1 => by rw [stP_succ, stP_succ, List.map_append, stP_known h n, ← ev_known h n, evP_map]
theorem cyR_port {N : Net} {q0 : Qs} {z : Str} : ∀ n, ((cyRun N q0 n).R (.inr z)).map (·.1) = (stP N q0 1 z n).map fun x => [x]
  | 0 => rfl
  | n + 1 => by
    show ((addE ((n : Int) + 1) (cyRun N q0 n).R (arrI N (cyRun N q0 n).qs ((n : Int) + 1)).2) (.inr z)).map (·.1) = _
    have e : (arrI N (cyRun N q0 n).qs ((n : Int) + 1)).2 = evI N q0 1 n := by
      rw [cy_qs n, Int.add_comm]; rfl
    rw [e, addE_port evI_one, List.map_append, cyR_port n, stP_succ, List.map_append, List.map_map]
    rfl
theorem cyR_len {N : Net} {q0 : Qs} {z : Str} (n : Nat) : ((cyRun N q0 n).R (.inr z)).length = (stP N q0 1 z n).length := by
  have := congrArg List.length (cyR_port (N := N) (q0 := q0) (z := z) n)
  simpa using this
theorem cyA_get {N : Net} {q0 : Qs} {d : Key → Nat} {i : Nat} : ∀ {n}, i < n → (cyRun N q0 n).A.getD i d = fun k => ((cyRun N q0 i).R k).length
  | 0, h => by omega
  | n + 1, h => by
    show ((cyRun N q0 n).A ++ [_]).getD i d = _
    by_cases c : i < n
    · rw [List.getD_eq_getElem?_getD, List.getElem?_append_left (by rw [cyA_len]; exact c), ← List.getD_eq_getElem?_getD, cyA_get c]
    · have : i = n := by omega
      subst this
      rw [List.getD_eq_getElem?_getD, List.getElem?_append_right (by rw [cyA_len]; exact Nat.le_refl _), cyA_len, Nat.sub_self]
      rfl
theorem cyL_get {N : Net} {q0 : Qs} {i : Nat} : ∀ {n}, i < n → (cyRun N q0 n).L.getD i [] = lens (runI N q0 1 i)
  | 0, h => by omega
  | n + 1, h => by
    show ((cyRun N q0 n).L ++ [_]).getD i [] = _
    by_cases c : i < n
    · rw [List.getD_eq_getElem?_getD, List.getElem?_append_left (by rw [cyL_len]; exact c), ← List.getD_eq_getElem?_getD, cyL_get c]
    · have : i = n := by omega
      subst this
      rw [List.getD_eq_getElem?_getD, List.getElem?_append_right (by rw [cyL_len]; exact Nat.le_refl _), cyL_len, Nat.sub_self, ← cy_qs]
      rfl
section
variable {N : Net} (hV : ValidN N) (h8 : N.length ≤ 8)
include hV h8
theorem av_of_fnd : ∀ m : Nat, m ≤ N.length → ∀ k : Nat, (k : Int) ∈ fnd N m → 0 < av N k
  | 0, _, k, h => by
    have : (k : Int) = 0 := by simpa [fnd] using h
    obtain rfl : k = 0 := by omega
    exact av_zero hV h8
  | m + 1, hm, k, h => by
    unfold fnd at h
    split at h
    · rename_i hin
      rcases List.mem_append.mp h with h | h
      · exact av_of_fnd m (by omega) k h
      · have := av_next hV h8 m (by omega) (av_of_fnd m (by omega) m hin) (k : Int) (mem_intsOf.mp h)
        simpa using this
    · exact av_of_fnd m (by omega) k h
/-- the number of those who come to a port -/
theorem stP_len {qs : Qs} {p : Int} (Sh : Short N qs) {z : Str} : ∀ n : Nat, ((stP N qs p z n).length : Int) = jq N (lens qs) (n : Int) (.inr z)
  | 0 => by
    rw [show jq N (lens qs) ((0 : Nat) : Int) (.inr z) = 0 from jq_zero (jn_of hV).fw (short_lensL Sh) _]
    rfl
  | n + 1 => by
    have J := jn_of hV
    have hp := hV.pos
    have Sn := run_short hV h8 (p := p) Sh n
    have F2 : Flow N (runI N qs p n) (at1 0) (joinW N (departW N 8) (runI N qs p n) 0 (p + (n : Int))) := joinW_flow (departW_flow J.fw 8) Sn.len (by omega) (by omega)
    have F3 := step_wt J.fw (short_lensL Sh) (t := (n : Int)) (fun k hk => run_len hV h8 (p := p) Sh n hk) F2 (run_short hV h8 (p := p) Sh (n + 1)) (.inr z) (.inr ⟨z, rfl⟩)
    have F4 := F2.p z
    rw [stP_succ, List.length_append, Int.natCast_add, stP_len Sh n, evP_len]
    show _ + pn (joinW N (departW N 8) (runI N qs p n) 0 (p + (n : Int))).2 (.inr z) = _
    show _ = jq N (lens qs) ((n : Int) + 1) (.inr z)
    omega
variable {per : Nat} (hc : perN N N.length ∣ per) (h1 : 1 ≤ per)
include hc
theorem bt_mul (n : Nat) {k : Nat} (hk : k < N.length) : bt N (lens (z0 N)) ((n * per : Nat) : Int) k = (n : Int) * bt N (lens (z0 N)) (per : Int) k := by
  have a := bt_per hV hc k hk
  have b := bt_per hV (c := n * per) (Nat.dvd_trans hc ⟨n, by rw [Nat.mul_comm]⟩) k hk
  apply Rat.intCast_inj.mp
  rw [b, Rat.intCast_mul, a, Rat.natCast_mul, Rat.intCast_natCast, Rat.mul_assoc]
include h1
theorem jq_ge {ls : List Int} (L : Lens N ls) {z : Str} (hz : z ∈ nms N N.length) (n : Nat) : (n : Int) ≤ jq N ls ((n * per : Nat) : Int) (.inr z) := by
  have J := jn_of hV
  obtain ⟨j, hj, hf, h2⟩ := (mem_nms N.length).mp hz
  have ha := av_of_fnd hV h8 j (by omega) j hf
  have hm := toQ_ge (f := bt N ls ((n * per : Nat) : Int)) (g := bt N ls 0) (q := .inr z) (i := j) (a := seatsOf N N.length) (fun s hs _ => bt_mono (ls := ls) J.fw L.pos (by omega) s.1 (by
    obtain ⟨i, q⟩ := s
    exact (mem_seatsOf.mp hs).1)) (mem_seatsOf.mpr ⟨hj, h2⟩)
  have e0 : toQ (bt N ls 0) (.inr z) (seatsOf N N.length) = 0 := by
    have := jq_zero J.fw L (.inr z)
    unfold jq at this
    rw [if_neg (by simp)] at this
    exact this
  have hb := bt_one hV h8 hc h1 hj ha
  rw [e0, bt_zero J.fw L j hj, per_bt hV h8 L (c := n * per) (Nat.dvd_trans hc ⟨n, by rw [Nat.mul_comm]⟩) j hj, bt_mul hV h8 hc n hj] at hm
  have hm2 : (n : Int) * 1 ≤ (n : Int) * bt N (lens (z0 N)) (per : Int) j := Int.mul_le_mul_of_nonneg_left hb (by omega)
  unfold jq
  rw [if_neg (by simp)]
  omega
variable {c : List Int} (L : Lens N c)
include L
theorem cyQ_short : Short N (cyQ N per c) := run_short hV h8 (zeros_short L) _
theorem cyQ_lt : ∀ q ∈ cyQ N per c, ∀ y ∈ q, y < 1 := run_ltb hV h8 (p := 1 - ((waitsN N * per : Nat) : Int)) (zeros_short L) (waitsN N * per) (fun q hq y hy => by rw [zeros_mem q hq y hy]; decide) (by omega)
theorem stP_per {z : Str} : ∀ T : Nat, stP N (cyQ N per c) 1 z (per + T) = stP N (cyQ N per c) 1 z per ++ (stP N (cyQ N per c) 1 z T).map (· + (per : Int))
  | 0 => by simp [stP, evsI, evP]
  | T + 1 => by
    rw [show per + (T + 1) = (per + T) + 1 by omega, stP_succ, stP_succ, stP_per T, cyc_shift hV h8 L hc h1, List.map_append, List.append_assoc]
theorem stP_at {z : Str} {i : Nat} {x : Int} (h : (stP N (cyQ N per c) 1 z per)[i]? = some x) : ∀ q : Nat, (stP N (cyQ N per c) 1 z ((q + 1) * per))[q * (stP N (cyQ N per c) 1 z per).length + i]? = some (x + ((q * per : Nat) : Int))
  | 0 => by simpa using h
  | q + 1 => by
    rw [show (q + 1 + 1) * per = per + (q + 1) * per by rw [Nat.succ_mul]; omega, stP_per hV h8 hc h1 L, List.getElem?_append_right (by rw [Nat.succ_mul]; omega), show (q + 1) * (stP N (cyQ N per c) 1 z per).length + i - (stP N (cyQ N per c) 1 z per).length = q * (stP N (cyQ N per c) 1 z per).length + i by rw [Nat.succ_mul]; omega, List.getElem?_map, stP_at h q, Nat.succ_mul]
    show some (_ + (per : Int)) = _
    rw [Int.natCast_add, Int.add_assoc]
/-- the row of a port: the known part of the n-th who comes there -/
theorem fin_row {c' : List Int} {ph : Nat} (hph : ph < per) (hl : lens (runI N (cyQ N per c) 1 ph) = c') {z : Str} (hz : z ∈ nms N N.length) {n : Nat} (hn : 1 ≤ n) : ∃ x t T, cyRow per (cyOf N per c) ph (.inr z) (n : Int) = some ([x], t) ∧ (stP N (zerosQ c') 1 z T)[n - 1]? = some x := by
  have Sq := cyQ_short hV h8 hc h1 L
  have hlen := stP_len hV h8 (p := 1) Sq (z := z) per
  have hpos := jq_ge hV h8 hc h1 (short_lensL Sq) hz 1
  rw [Nat.one_mul] at hpos
  have hR := cyR_port (N := N) (q0 := cyQ N per c) (z := z) per
  have hRl := cyR_len (N := N) (q0 := cyQ N per c) (z := z) per
  generalize hl0 : (stP N (cyQ N per c) 1 z per).length = l at *
  have hl1 : 1 ≤ l := by omega
  obtain ⟨M, hM⟩ : ∃ M, (stP N (cyQ N per c) 1 z ph).length + (n - 1) = M := ⟨_, rfl⟩
  have hi : M % l < l := Nat.mod_lt _ hl1
  obtain ⟨x, hx⟩ : ∃ x, (stP N (cyQ N per c) 1 z per)[M % l]? = some x := ⟨_, List.getElem?_eq_getElem (by rw [hl0]; exact hi)⟩
  have hrow : (((cyRun N (cyQ N per c) per).R (.inr z)).getD (M % l) ([], 0)).1 = [x] := by
    have := congrArg (fun w => w[M % l]?) hR
    simp only [List.getElem?_map, hx, Option.map_some] at this
    rw [List.getD_eq_getElem?_getD]
    cases hq : ((cyRun N (cyQ N per c) per).R (.inr z))[M % l]? with
    | none => rw [hq] at this; cases this
    | some r => rw [hq] at this; exact Option.some.inj this
  have hne : (cyRun N (cyQ N per c) per).R (.inr z) ≠ [] := fun w => by rw [w] at hRl; simp at hRl; omega
  have hA : ((cyRun N (cyQ N per c) per).A.getD ph (fun _ => 0)) (.inr z) = (stP N (cyQ N per c) 1 z ph).length := by rw [cyA_get hph]; exact cyR_len ph
  have hMi : (((cyRun N (cyQ N per c) per).A.getD ph (fun _ => 0) (.inr z) : Nat) : Int) + (n : Int) - 1 = (M : Int) := by rw [hA]; omega
  have hat := stP_at hV h8 hc h1 L hx (M / l)
  rw [hl0, show M / l * l + M % l = M by rw [Nat.mul_comm]; exact Nat.div_add_mod M l] at hat
  have hat2 := stP_pre hat ph
  rw [Nat.add_comm, stP_add, List.getElem?_append_right (by omega), show M - (stP N (cyQ N per c) 1 z ph).length = n - 1 by omega] at hat2
  have hkn := stP_known (N := N) (z := z) (qs := runI N (cyQ N per c) 1 ph) (p := 1 + (ph : Int)) (run_lt hV h8 Sq (cyQ_lt hV h8 hc h1 L) ph) ((M / l + 1) * per)
  rw [hl] at hkn
  refine ⟨knw (1 + (ph : Int) - 1) (x + ((M / l * per : Nat) : Int)), (((cyRun N (cyQ N per c) per).R (.inr z)).getD (M % l) ([], 0)).2 + ((M : Int) / (l : Int) * (per : Int) - (ph : Int)), (M / l + 1) * per, ?_, by rw [← hkn, List.getElem?_map, hat2]; rfl⟩
  · unfold cyRow cyOf
    rw [if_neg hne]
    dsimp only
    rw [hMi, hRl, show ((M : Int) % (l : Int)).toNat = M % l by omega, hrow]
    refine congrArg some (Prod.ext ?_ rfl)
    show [_] = [_]
    refine congrArg (fun y => [y]) ?_
    have e1 : (M : Int) / (l : Int) * (per : Int) = ((M / l * per : Nat) : Int) := by rw [Int.natCast_mul, Int.natCast_ediv]
    rw [e1]
    unfold knw
    dsimp only
    split <;> omega
end
/-- who finishes, as far as known -/
theorem fin_state {N : Net} (hV : ValidN N) (h8 : N.length ≤ 8) {p : Int} {qs : Qs} (O : StOk N p qs) {z : Str} {n : Nat} {y : Int} (hn : 1 ≤ n) (h : PsgP N (lens qs) p qs z (n : Int) y) {t : Nat} (h1 : jq N (lens qs) (t : Int) (.inr z) < n) (h2 : (n : Int) ≤ jq N (lens qs) ((t : Int) + 1) (.inr z)) : (stP N (zerosQ (lens qs)) 1 z (t + 1))[n - 1]? = some (knw (p - 1) y) := by
  have Sh : Short N qs := ⟨O.len, fun k hk => by
    have a : qs[k]? = some (qs.getD k []) := by simp [List.getD_eq_getElem?_getD, O.len, hk]
    have b : N[k]? = some (N.getD k []) := by simp [List.getD_eq_getElem?_getD, hk]
    exact O.lt k _ _ a b⟩
  have hlt : ∀ q ∈ qs, ∀ y ∈ q, y < p := fun q hq y hy => (O.rng y (List.mem_flatten.mpr ⟨q, hq, hy⟩)).2
  obtain ⟨_, f⟩ := fin_at (jn_of hV) (lensL O) h8 hV.pos (lensQ O) h h1 h2
  have hl := stP_len hV h8 (p := p) Sh (z := z) t
  rw [← stP_known hlt, List.getElem?_map, stP_succ, List.getElem?_append_right (by omega), show n - 1 - (stP N qs p z t).length = ((n : Int) - jq N (lens qs) (t : Int) (.inr z) - 1).toNat by omega]
  show ((evP (arrI N (runI N qs p t) (p + (t : Int))).2 (.inr z))[_]?).map _ = _
  rw [f]; rfl
end K
set_option maxHeartbeats 4000000
/-! min of a list of pairs (number, place): the first of the least. -/
namespace FB
open PySem PySem.Spec PyProof.Rows L2 Evl
open PySem.W (alike alikeAll dataLt dataLt_ii AlikeAll cmpIn_lt iter_listW moved_old)
theorem argBest_first {bt : Nat → Nat → Bool} {v : Nat → Int} {N : Nat} (h : ∀ i j, i ≤ N → j ≤ N → bt i j = decide (v i < v j ∨ (v i = v j ∧ i < j))) : ∀ n, n ≤ N → argBest bt n ≤ n ∧ (∀ j, j ≤ n → v (argBest bt n) ≤ v j) ∧ ∀ j, j < argBest bt n → v (argBest bt n) < v j
  | 0, _ => ⟨Nat.le_refl _, fun j hj => by rw [Nat.le_zero.mp hj]; exact Int.le_refl _, fun j hj => absurd hj (Nat.not_lt_zero _)⟩
  | n + 1, hn => by
    obtain ⟨a1, a2, a3⟩ := argBest_first h n (by omega)
    have e := h (n + 1) (argBest bt n) hn (by omega)
    unfold argBest
    by_cases g : v (n + 1) < v (argBest bt n) ∨ (v (n + 1) = v (argBest bt n) ∧ n + 1 < argBest bt n)
    · rw [e, if_pos (decide_eq_true g)]
      have g1 : v (n + 1) < v (argBest bt n) := by
        rcases g with g | g
        · exact g
        · omega
      refine ⟨Nat.le_refl _, fun j hj => ?_, fun j hj => ?_⟩
      · rcases Nat.lt_or_ge j (n + 1) with k | k
        · have := a2 j (by omega)
          omega
        · rw [show j = n + 1 by omega]
          exact Int.le_refl _
      · have := a2 j (by omega)
        omega
    · rw [e, if_neg (by simpa using g)]
      refine ⟨by omega, fun j hj => ?_, a3⟩
      rcases Nat.lt_or_ge j (n + 1) with k | k
      · exact a2 j (by omega)
      · rw [show j = n + 1 by omega]
        by_cases q : v (n + 1) < v (argBest bt n)
        · exact (g (.inl q)).elim
        · omega
def numP (ns : List Int) : List PyData := (List.range ns.length).map fun (i : Nat) => .tuple [.int (ns.getD i 0), .int ((i : Int) + 1)]
theorem numP_at {ns : List Int} {i : Nat} (h : i < ns.length) : (numP ns).getD i .none = .tuple [.int (ns.getD i 0), .int ((i : Int) + 1)] := by
  unfold numP
  rw [List.getD_eq_getElem?_getD, List.getElem?_map, List.getElem?_range h]
  rfl
theorem numP_mem {ns : List Int} {d : PyData} (h : d ∈ numP ns) : ∃ a b : Int, d = .tuple [.int a, .int b] := by
  obtain ⟨i, _, rfl⟩ := List.mem_map.mp h
  exact ⟨_, _, rfl⟩
def rMinP (K : PySem.W.Frag) : List V → Hp → VK → Prop := fun vs H Q => ∃ (a : Addr) (xs : List V) (ns : List Int), vs = [V.ref a] ∧ SqL K H a xs ∧ DpAll K H xs (numP ns) ∧ 0 < ns.length ∧
  ∀ (i : Nat) x, i < ns.length → xs[i]? = some x → (∀ j, j < ns.length → ns.getD i 0 ≤ ns.getD j 0) → (∀ j, j < i → ns.getD i 0 < ns.getD j 0) → Q x H
theorem numP_depth {ns : List Int} : PyData.depthAll (numP ns) ≤ 2 := depthAll_le fun d hd => by
  obtain ⟨a, b, rfl⟩ := numP_mem hd
  simp [PyData.depth, PyData.depthAll]
theorem cr_minP {X : Cx} {K : PySem.W.Frag} (hc : X.calm = true) (hu : X.A.units + 64 < cLine) (hK : X.K = K := by rfl) : CallR X (.builtin "min") (rMinP K) := by
  subst hK
  intro pins s σ H vs us Q I r h
  obtain ⟨a, xs, ns, rfl, hs, hd, hne, q⟩ := h
  obtain ⟨its, rv, hl⟩ := I.list hs
  obtain ⟨as, hr⟩ := Dp.readsAll I _ _ _ hd rv
  have hh := I.ok.hd hc
  have hl1 := hl.1.isList
  rw [Vals.ref1 r]
  have hxl : xs.length = ns.length := by rw [hd.len]; unfold numP; rw [List.length_map, List.length_range]
  have hil : its.length = ns.length := by rw [← hxl]; exact (Vals.length rv).symm
  have ha : AlikeAll (numP ns) := ⟨fun x hx y hy => by
    obtain ⟨_, _, rfl⟩ := numP_mem hx
    obtain ⟨_, _, rfl⟩ := numP_mem hy
    simp [alike, alikeAll], fun x hx e => by
    obtain ⟨_, _, rfl⟩ := numP_mem hx
    cases e⟩
  have hdp := numP_depth (ns := ns)
  refine call_min_walkH (iter_listW (A := X.A.in1) hh hl1 fun s₂ e W st hfp hw hk => ?_)
  refine ⟨_, _, _, _, _, _, _, s.heap, _, rfl, W, st, hfp, by simp; omega, hw, hk, cmpIn_lt (A := X.A.in1) hr ha (by show X.A.units + 1 + _ < _; omega), fun v s' hP m => ?_⟩
  obtain ⟨h', tk, rfl, hk'⟩ := moved_old e rfl m
  obtain ⟨b1, b2, b3⟩ := argBest_first (v := fun i => ns.getD i 0) (N := ns.length - 1) (bt := fun i j => dataLt ((numP ns).getD i .none) ((numP ns).getD j .none)) (fun i j hi hj => by
    rw [numP_at (by omega), numP_at (by omega), dataLt_ii]
    congr 1
    simp only [eq_iff_iff]
    omega) (ns.length - 1) (Nat.le_refl _)
  have hsz : its.toArray.size - 1 = ns.length - 1 := by simp [hil]
  rw [hsz] at hP
  generalize argBest (fun i j => dataLt ((numP ns).getD i .none) ((numP ns).getD j .none)) (ns.length - 1) = i at hP b1 b2 b3
  have hix : i < xs.length := by omega
  have hx : xs[i]? = some xs[i] := List.getElem?_eq_getElem hix
  obtain ⟨u, hu1, ru⟩ := rv.get hx
  have hvu : u = v := by
    rw [List.getElem?_toArray] at hP
    rw [hP] at hu1
    exact (Option.some.inj hu1).symm
  subst hvu
  exact ⟨_, H, I.kept hk', ru, q i _ (by omega) hx (fun j hj => b2 j (by omega)) b3⟩
end FB
/-! max(d.values()) of ints. -/
namespace FB
open PySem PySem.Spec PyProof.Rows L2 Evl
section
variable {X : Cx}
def rMaxV : List V → Hp → VK → Prop := fun xs H Q => ∃ (v d : Addr) (kvs : List (Key × V)) (ns : List Int), xs = [.ref v] ∧ H v = some (ViewO v d) ∧ H d = some (.dK kvs) ∧ kvs.map (·.2) = ns.map V.int ∧ 0 < ns.length ∧ ∀ m, m ∈ ns → (∀ y, y ∈ ns → y ≤ m) → Q (.int m) H
theorem cr_maxV (hc : X.calm = true) : CallR X (.builtin "max") rMaxV := by
  intro pins s σ H xs us Q I r ⟨v, d, kvs, ns, ex, hv, hd, hns, hne, q⟩
  subst ex
  rw [Vals.ref1 r]
  obtain ⟨hz, _, vs, kv, dd⟩ := dk_of I.hok hd
  obtain ⟨ep, hat⟩ := dd.dictAt
  have view : s.heap.IsValuesView v d := (I.hok v _ hv).1
  have rel : Vals (ns.map V.int) (vs.map (·.2)) := by rw [← hns]; exact vals_snd kv
  have hlen : vs.length = ns.length := by
    have := Vals.length rel
    rw [List.length_map, List.length_map] at this
    exact this.symm
  have num : ∀ i u, (∃ k, vs[i]? = some (k, u)) → ∃ t, u = Value.int (ns.getD i 0) t := fun i u ⟨k, hk⟩ => by
    have hi : i < ns.length := by rw [← hlen]; exact (List.getElem?_eq_some_iff.mp hk).1
    obtain ⟨u2, g1, g2⟩ := rel.get (i := i) (x := .int (ns.getD i 0)) (by rw [List.getElem?_map, List.getD_eq_getElem?_getD, List.getElem?_eq_getElem hi]; rfl)
    rw [List.getElem?_map, hk] at g1
    obtain rfl : u = u2 := Option.some.inj g1
    exact g2
  have hda : d < s.heap.objs.size := by
    obtain ⟨ob, _, ho, _⟩ := hat
    exact Heap.lt_size ho
  refine call_max_walk (wpAny_pyIter_values view hat ?_)
  refine ⟨_, _, _, _, _, _, _, rfl, Walks.dictValues (knd := mixKind X.prog X.w) (A := X.A.in1) (I.ok.hd hc) s.heap.objs.size d (Nat.ne_of_lt hda) vs ep, ⟨⟨_, Heap.get?_push_size _ rfl, rfl, rfl⟩, hat.keep fun b u e => Heap.get?_push_of_some _ e⟩, fun b hb => ?_, by omega, CmpOf.ints_gt (fun i => ns.getD i 0) num, fun u h' tk hP hk => ?_⟩
  · show b < (s.heap.push _).objs.size
    rw [Heap.size_push]
    simp only [List.mem_cons, List.not_mem_nil, or_false] at hb
    rcases hb with rfl | rfl
    · exact Nat.lt_succ_self _
    · exact Nat.lt_succ_of_lt hda
  · obtain ⟨t, rfl⟩ := num _ u hP
    obtain ⟨b1, b2⟩ := argBest_gt (fun i => ns.getD i 0) (vs.length - 1)
    have inn : ∀ i, i < ns.length → ns.getD i 0 ∈ ns := fun i hi => by
      rw [List.getD_eq_getElem?_getD, List.getElem?_eq_getElem hi]
      exact List.getElem_mem hi
    refine ⟨.int _, H, I.kept (t' := tk) fun b o e => hk b o (fun hm => ?_) (Heap.get?_push_of_some _ e), ⟨t, rfl⟩, q _ (inn _ (by omega)) fun y hy => ?_⟩
    · have := Heap.lt_size e
      rw [List.mem_singleton.mp hm] at this
      exact Nat.lt_irrefl _ this
    · obtain ⟨j, hj, rfl⟩ := List.getElem_of_mem hy
      have := b2 j (by omega)
      rw [List.getD_eq_getElem?_getD, List.getElem?_eq_getElem hj] at this
      exact this
end
end FB
/-! A dict that counts. -/
namespace FB
open PySem PySem.Spec PyProof.Rows L2 Evl
theorem putK_len1 {kvs : List (Key × V)} {k : Key} {v : V} : (putK kvs k v).length ≤ kvs.length + 1 := by
  unfold putK
  split <;> simp
theorem putK_mem {kvs : List (Key × V)} {k : Key} {v : V} {j : Key} (h : j ∈ (putK kvs k v).map (·.1)) : j ∈ kvs.map (·.1) ∨ j = k := by
  unfold putK at h
  split at h
  · rw [List.map_map] at h
    obtain ⟨x, hx, rfl⟩ := List.mem_map.mp h
    refine .inl (List.mem_map.mpr ⟨x, hx, ?_⟩)
    show x.1 = (if x.1 = k then (x.1, v) else x).1
    split <;> rfl
  · rw [List.map_append] at h
    rcases List.mem_append.mp h with h | h
    · exact .inl h
    · exact .inr (by simpa using h)
/-- a dict holds how often each number stands in W -/
structure CtD (W : List Int) (kvs : List (Key × V)) : Prop where
  val : ∀ o : Int, valV kvs (.inl o) = if o ∈ W then some (.int (W.count o : Int)) else none
  keys : (kvs.map (·.1)).Nodup
  allI : ∀ k ∈ kvs.map (·.1), ∃ o : Int, k = .inl o
  len : kvs.length ≤ W.length
theorem CtD.nil : CtD [] [] := ⟨fun o => rfl, List.nodup_nil, fun k h => (by cases h), Nat.le_refl _⟩
theorem CtD.get {W : List Int} {kvs : List (Key × V)} (C : CtD W kvs) (o : Int) : (valV kvs (.inl o)).getD (.int 0) = .int (W.count o : Int) := by
  rw [C.val]
  split
  · rfl
  · rename_i h
    rw [List.count_eq_zero.mpr h]; rfl
theorem CtD.add {W : List Int} {kvs : List (Key × V)} (C : CtD W kvs) (o : Int) : CtD (W ++ [o]) (putK kvs (.inl o) (.int ((W.count o : Int) + 1))) := by
  refine ⟨fun j => ?_, putK_keys C.keys, fun k hk => ?_, ?_⟩
  · rw [valV_put]
    by_cases e : j = o
    · subst e
      rw [if_pos rfl, if_pos (by simp), List.count_append]
      simp
    · rw [if_neg (fun h => e (Sum.inl.inj h)), C.val, List.count_append]
      have h1 : List.count j [o] = 0 := List.count_eq_zero.mpr (by simpa using e)
      rw [h1]
      by_cases hj : j ∈ W
      · rw [if_pos hj, if_pos (List.mem_append_left _ hj)]; rfl
      · rw [if_neg hj, if_neg fun h => (List.mem_append.mp h).elim hj (by simpa using e)]
  · rcases putK_mem hk with h | rfl
    · exact C.allI k h
    · exact ⟨o, rfl⟩
  · have := C.len
    have := putK_len1 (kvs := kvs) (k := .inl o) (v := .int ((W.count o : Int) + 1))
    rw [List.length_append, List.length_singleton]
    omega
theorem valV_mem {kvs : List (Key × V)} (nd : (kvs.map (·.1)).Nodup) {kv : Key × V} (h : kv ∈ kvs) : valV kvs kv.1 = some kv.2 := by
  induction kvs with
  | nil => cases h
  | cons x r ih =>
    rw [List.map_cons, List.nodup_cons] at nd
    rcases List.mem_cons.mp h with rfl | h
    · exact valV_pos rfl
    · rw [valV_neg (fun e => nd.1 (by rw [e]; exact List.mem_map.mpr ⟨kv, h, rfl⟩))]
      exact ih nd.2 h
theorem valV_pair {kvs : List (Key × V)} {k : Key} {v : V} (h : valV kvs k = some v) : (k, v) ∈ kvs := by
  induction kvs with
  | nil => cases h
  | cons x r ih =>
    by_cases e : x.1 = k
    · rw [valV_pos e] at h
      have : x = (k, v) := Prod.ext e (Option.some.inj h)
      rw [this]; exact List.mem_cons_self ..
    · rw [valV_neg e] at h
      exact List.mem_cons_of_mem _ (ih h)
theorem list_pick {α β : Type} {f : α → β} : ∀ {l : List β}, (∀ y ∈ l, ∃ x, f x = y) → ∃ m : List α, m.map f = l
  | [], _ => ⟨[], rfl⟩
  | y :: r, h => by
    obtain ⟨x, hx⟩ := h y (List.mem_cons_self ..)
    obtain ⟨m, hm⟩ := list_pick (l := r) fun z hz => h z (List.mem_cons_of_mem _ hz)
    exact ⟨x :: m, by rw [List.map_cons, hx, hm]⟩
theorem intKV_inj {x y : Int × Int} (h : intKV x = intKV y) : x = y := by
  unfold intKV at h
  injection h with h1 h2
  injection h1 with h1
  injection h2 with h2
  exact Prod.ext h1 h2
/-- as pairs of ints -/
theorem CtD.pairs {W : List Int} {kvs : List (Key × V)} (C : CtD W kvs) : ∃ ps : List (Int × Int), ps.map intKV = kvs ∧ (ps.map (·.1)).Nodup ∧ ∀ x, x ∈ ps ↔ x.1 ∈ W ∧ x.2 = (W.count x.1 : Int) := by
  obtain ⟨ps, hps⟩ := list_pick (f := intKV) (l := kvs) fun kv h => by
    obtain ⟨o, ho⟩ := C.allI kv.1 (List.mem_map.mpr ⟨kv, h, rfl⟩)
    have h1 := valV_mem C.keys h
    rw [ho, C.val] at h1
    split at h1
    · exact ⟨(o, (W.count o : Int)), Prod.ext ho.symm (Option.some.inj h1)⟩
    · cases h1
  have nd := C.keys
  rw [← hps, List.map_map] at nd
  refine ⟨ps, hps, ?_, fun x => ?_⟩
  · refine List.Pairwise.of_map (Sum.inl : Int → Key) (fun a b h e => h (congrArg _ e)) (S := fun a b => a ≠ b) ?_
    rw [List.map_map]
    exact nd
  · constructor
    · intro hx
      have h1 := valV_mem C.keys (kv := intKV x) (by rw [← hps]; exact List.mem_map.mpr ⟨x, hx, rfl⟩)
      have h2 : valV kvs (.inl x.1) = some (.int x.2) := h1
      rw [C.val] at h2
      split at h2
      · rename_i hm
        have h3 := Option.some.inj h2
        injection h3 with h3
        exact ⟨hm, h3.symm⟩
      · cases h2
    · rintro ⟨h1, h2⟩
      have h3 : valV kvs (.inl x.1) = some (.int x.2) := by rw [C.val, if_pos h1, h2]
      have h4 := valV_pair h3
      rw [← hps] at h4
      obtain ⟨y, hy, e⟩ := List.mem_map.mp h4
      rw [← intKV_inj (x := y) (y := x) e]
      exact hy
/-- its keys -/
theorem CtD.ks {W : List Int} {kvs : List (Key × V)} (C : CtD W kvs) : ∃ ks : List Int, kvs.map (·.1) = ks.map Sum.inl ∧ ks.Nodup ∧ (∀ o, o ∈ ks ↔ o ∈ W) ∧ ks.length = kvs.length := by
  obtain ⟨ps, h1, h2, h3⟩ := C.pairs
  refine ⟨ps.map (·.1), by rw [← h1, List.map_map, List.map_map]; rfl, h2, fun o => ⟨fun h => ?_, fun h => ?_⟩, by rw [← h1, List.length_map, List.length_map]⟩
  · obtain ⟨x, hx, rfl⟩ := List.mem_map.mp h
    exact ((h3 x).mp hx).1
  · exact List.mem_map.mpr ⟨(o, (W.count o : Int)), (h3 _).mpr ⟨h, rfl⟩, rfl⟩
/-- the counts of W, sorted -/
structure SrtC (W : List Int) (ps : List (Int × Int)) : Prop where
  srt : ps.Pairwise fun x y => SrtO.lexB x y = true
  mem : ∀ x, x ∈ ps ↔ x.1 ∈ W ∧ x.2 = (W.count x.1 : Int)
theorem SrtC.one {W : List Int} {a b : List (Int × Int)} (h1 : SrtC W a) (h2 : SrtC W b) : a = b := sorted_onePair h1.srt h2.srt fun x => (h1.mem x).trans (h2.mem x).symm
theorem SrtC.of {W : List Int} {ps qs : List (Int × Int)} (hp : qs.Perm ps) (hs : qs.Pairwise fun x y => SrtO.lexB y x = false) (nd : (ps.map (·.1)).Nodup) (hm : ∀ x, x ∈ ps ↔ x.1 ∈ W ∧ x.2 = (W.count x.1 : Int)) : SrtC W qs :=
  ⟨sorted_strict hs (hp.nodup_iff.mpr (List.Pairwise.of_map (·.1) (fun a b h e => h (congrArg _ e)) nd)), fun x => hp.mem_iff.trans (hm x)⟩
section
variable {K : PySem.W.Frag} {H : Hp} {σ : L2.St}
end
end FB
set_option maxHeartbeats 1000000
namespace K
open PySem PySem.Spec PyProof.Rows L2 Evl FB
local macro_rules | `(tactic| walk_at "run") => `(tactic| try simp only [tSeq, tAsg, tVar, tC, gName, L2.start, List.map_cons, List.map_nil, List.cons_append, List.nil_append, List.length_cons, List.length_nil, List.replicate, List.getElem?_cons_zero, List.getElem?_cons_succ, Option.some.injEq, exists_eq_left', List.set_cons_zero, List.set_cons_succ, V.ref.injEq, tRet, x_tLst, x_tTup, tCons, tCB, tNil, tOp, x_addI, x_mulI, x_rI, x_rI0, x_ltI, x_leI, x_ltS, x_leS, x_eqI, x_neI, x_eqS, x_eqB, x_neB, x_isiI, x_isiS, x_int, x_max, x_min, cxOf, tIfS, tNext, tTest, V.bl.injEq, decide_eq_true_eq, gSub, tAnd, tOr, tNot, tB, tDrop, tBM, x_tFor, iRng1, iList, iTup, x_tLc, tYes, tCall, tIf, tAndV, tOrV, tNotV, tChain, List.append_nil, tUn, if_true, wipe, true_and, x_never, iU, x_itS, kV, Nat.reduceAdd, Nat.reduceSub, List.replicate_zero, x_rU, x_tMkO, iEnumT, x_tDc, x_tDGet, x_tDGet2, x_sDPut, x_tDSetd, x_tDNewK, x_iItems, x_iZip, x_tSAddK, x_tLockV, x_tTupRg, x_tRg2, tPar, tPar3, tBM0, tSl, tNoPart, tPart, x_tSetAdd, x_tDIn, x_iKeys, x_iZipX, x_iZip3, iRevR, tRg1, x_tFld, x_tMeth, x_sFld, x_tMake, tAug, x_ipI, x_tDNotIn, iRng2, tAugS, tBMZ, tTupZ])
/-! Observer.count_agreeing, best_number -/
/-- m is the count of the most frequent number of W -/
def Most (W : List Int) (m : Int) : Prop := (∃ x ∈ W, m = (W.count x : Int)) ∧ ∀ x ∈ W, (W.count x : Int) ≤ m
theorem Most.one {W : List Int} {m n : Int} (a : Most W m) (b : Most W n) : m = n := by
  obtain ⟨⟨x, hx, ex⟩, a2⟩ := a
  obtain ⟨⟨y, hy, ey⟩, b2⟩ := b
  have := a2 y hy
  have := b2 x hx
  omega
theorem most_ctD {W : List Int} {kvs : List (Key × V)} (C : CtD W kvs) (hne : W ≠ []) : ∃ ns : List Int, kvs.map (·.2) = ns.map V.int ∧ 0 < ns.length ∧ ∀ m, m ∈ ns → (∀ y, y ∈ ns → y ≤ m) → Most W m := by
  obtain ⟨ps, h1, h2, h3⟩ := C.pairs
  have hm : kvs.map (·.2) = (ps.map (·.2)).map V.int := by
    rw [← h1, List.map_map, List.map_map]
    rfl
  have hmem : ∀ x ∈ W, (W.count x : Int) ∈ ps.map (·.2) := fun x hx => List.mem_map.mpr ⟨(x, (W.count x : Int)), (h3 _).mpr ⟨hx, rfl⟩, rfl⟩
  refine ⟨ps.map (·.2), hm, ?_, fun m hm hmax => ⟨?_, fun x hx => hmax _ (hmem x hx)⟩⟩
  · obtain ⟨x, hx⟩ := List.exists_mem_of_ne_nil W hne
    exact List.length_pos_of_mem (hmem x hx)
  · obtain ⟨q, hq, rfl⟩ := List.mem_map.mp hm
    obtain ⟨a, b⟩ := (h3 q).mp hq
    exact ⟨q.1, a, b⟩
section
variable {P : Program} {w : World} {K : PySem.W.Frag} {mg : Str → Option Value} {base : Heap}
abbrev s_Observer_count_agreeing : Stmt := inClass (top 46) 12
theorem sc_Observer_count_agreeing : FnScope ["self", "port", "number", "counts", "_", "found"] ["self", "port", "number"] (defScope s_Observer_count_agreeing) := ⟨rfl, rfl, rfl, by decide +kernel, rfl, by decide +kernel, by decide +kernel⟩
def spAgr (K : PySem.W.Frag) (CO CC : Addr) : Sp := fun vs H Q _ => ∃ (Gp : Addr → Prop) (N : Net) (per : Nat) (zs : List Str) (cs : List (List Int)) (F : PhF) (os : List PyData) (M : Ob) (z : Str) (n : Int), vs = [.ref M.a, .str z, .int n] ∧ ObT K CO CC H Gp N per zs cs F os M ∧ AskOk per zs cs F z n ∧ cs ≠ [] ∧
  ∀ (H' : Hp) (m : Int), Ex H H' → Most (cs.map (finF F per (.inr z) n)) m → Q (.int m) H'
theorem ok_count_agreeing {CO CC f f3 : Addr} {fd fd3 : FuncData} (D : Mf K CO "count_agreeing" "Observer.count_agreeing" s_Observer_count_agreeing ["self", "port", "number"] f fd) (T : Bt mg) (FO : OF K CO)
    (M_list_finishers : Mf K CO "list_finishers" "Observer.list_finishers" s_Observer_list_finishers ["self", "port", "number"] f3 fd3) (G_list_finishers : FnOk P w K mg base CX0 3 f3 fd3 ["self", "port", "number"] (spFins K CO CC)) : FnOk P w K mg base CX0 4 f fd ["self", "port", "number"] (spAgr K CO CC) := by
  refine D.F.ok sc_Observer_count_agreeing (fun vs H Q E h => ?_) (fun cdv A outer s H vs Q E hr h => ?_)
  · obtain ⟨Gp, N, per, zs, cs, F, os, M, z, n, rfl, _⟩ := h
    rfl
  · obtain ⟨Gp, N, per, zs, cs, F, os, M, z, n, rfl, W, ok, hne, q⟩ := h
    have hu1 := hu_of hr
    refine ⟨_, (pss_cons (ps_set (i := 3) sc_Observer_count_agreeing.nd rfl (Or.inl rfl) pe_dnewK)
      (pss_cons (ps_for PassesOwn.never rfl (pi_U (K := K) (pe_meth (pv 0) FO.c M_list_finishers.m (G_list_finishers) (hr.mono (by decide)) M_list_finishers.b .nil pass0 (pa_cons (pv 1) (pa_cons (pv 2) pa_nil)))) (pg_tup rfl (pgs_cons (pg_name (i := 4) sc_Observer_count_agreeing.nd rfl (Or.inl rfl)) (pgs_cons (pg_name (i := 5) sc_Observer_count_agreeing.nd rfl (Or.inl rfl)) pgs_nil))) (pss_one (ps_dput hu1 (pv 3) (pv 5) (pe_op (op_addU (K := K)) (pe_dget2 hu1 (pv 3) (pv 5) pe_int ⟨rfl, rfl, rfl, rfl⟩) pe_int) rfl)))
      (pss_one (ps_ret (pe_callB (cr_maxV rfl) (by rfl) T.b_max (by decide +kernel) (pa_cons (pe_bm0 PySem.F.plainAttrs_dict PySem.F.slot_dict_values PySem.F.type_dict_values mt_vals (pv 3)) pa_nil)))))), ?_⟩
    walk_at "run"
    refine x_dnew fun Da H1 nD e1 hD => ?_
    walk_at "run"
    have W1 := W.ex e1
    refine x_meth W1.ins (ob_no (by decide +kernel) (by decide +kernel) (by decide +kernel) (by decide +kernel) (by decide +kernel)) ?_
    have hc9 := ok.l9
    refine ⟨Gp, N, per, zs, cs, F, os, M, .inr z, n, rfl, W1, by omega, ok.p8, ok.n1, ok.n2, ok.ok, ok.row, fun H2 l e2 nl Pr => ?_⟩
    obtain ⟨ts, p1, p2, p3⟩ := Pr
    have hlen : ts.length = cs.length := by rw [p2, List.length_map]
    refine x_itL (SqL.of p1) (loop_it walk_list (fun i σ H' => ∃ u4 u5 kvs, σ = [some (.ref M.a), some (.str z), some (.int n), some (.ref Da), u4, u5] ∧ (∀ x o, x ≠ Da → H2 x = some o → H' x = some o) ∧ H' Da = some (.dK kvs) ∧ CtD ((cs.take i).map (finF F per (.inr z) n)) kvs) ⟨_, _, [], rfl, fun _ _ _ h => h, e2 _ _ hD, CtD.nil⟩ (fun i σ H' _ ⟨_, _, _, _, k, _⟩ => SqL.of (k _ _ (ne_of_none hD nl).symm p1)) ?_ ?_)
    · rintro i x σ H3 H3' hi ⟨u4, u5, kvs, rfl, k3, hD3, C3⟩ ⟨eH, hx⟩
      subst eH
      obtain ⟨t, ht, rfl⟩ : ∃ t, ts[i]? = some t ∧ V.ref t = x := by simpa using hx
      have hic : i < cs.length := by
        have := (List.getElem?_eq_some_iff.mp ht).1
        omega
      obtain ⟨c, hc⟩ : ∃ c, cs[i]? = some c := ⟨_, List.getElem?_eq_getElem hic⟩
      obtain ⟨b, y, a1, a2, a3, a4⟩ := p3 i t (c, PyData.int (finF F per (.inr z) n c)) ht (by simp [hc])
      have a3 := Dp.int_inv a3
      subst a3
      have htD : t ≠ Da := fun e => by rw [e, e2 _ _ hD] at a1; cases a1
      refine x_two (SqT.of (k3 _ _ htD a1)) ?_
      walk_at "run"
      refine ⟨isD_k hD3, x_dget2 (k := .inl (finF F per (.inr z) n c)) hD3 ?_⟩
      rw [C3.get]
      walk_at "run"
      have hkl := C3.len
      rw [List.length_map, List.length_take] at hkl
      refine x_dput (k := .inl (finF F per (.inr z) n c)) hD3 (by omega) fun H4 e4 _ h4 => ?_
      refine ⟨_, _, _, rfl, fun x o hx h => e4 _ _ hx (k3 _ _ hx h), h4, ?_⟩
      rw [List.take_add_one, hc, List.map_append]
      exact C3.add _
    · rintro σ H3 ⟨u4, u5, kvs, rfl, k3, hD3, C3⟩
      walk_at "run"
      have e : cs.take (ts.map V.ref).length = cs := by rw [List.length_map, hlen, List.take_length]
      rw [e] at C3
      refine ⟨x_tyD hD3, x_vals hD3 fun v H4 nv e4 hv => ?_⟩
      obtain ⟨ns, m1, m2, m3⟩ := most_ctD C3 (by simpa using hne)
      exact ⟨v, Da, kvs, ns, rfl, hv, e4 _ _ hD3, m1, m2, fun m hm hx => q H4 m (fun x o h => e4 _ _ (k3 _ _ (ne_of_none h nD) (e2 _ _ (e1 _ _ h)))) (m3 m hm hx)⟩
theorem numP_snoc {ns : List Int} {m : Int} : numP (ns ++ [m]) = numP ns ++ [.tuple [.int m, .int ((ns.length : Int) + 1)]] := by
  unfold numP
  rw [List.length_append, List.length_singleton, List.range_succ, List.map_append]
  congr 1
  · refine List.map_congr_left fun i hi => ?_
    have hi := List.mem_range.mp hi
    rw [List.getD_eq_getElem?_getD, List.getElem?_append_left hi, ← List.getD_eq_getElem?_getD]
  · simp
abbrev s_Observer_best_number : Stmt := inClass (top 46) 7
theorem sc_Observer_best_number : FnScope ["self", "port", "limit", "number"] ["self", "port", "limit"] (defScope s_Observer_best_number) := ⟨rfl, rfl, rfl, by decide +kernel, rfl, by decide +kernel, by decide +kernel⟩
def spBest (K : PySem.W.Frag) (CO CC : Addr) : Sp := fun vs H Q _ => ∃ (Gp : Addr → Prop) (N : Net) (per : Nat) (zs : List Str) (cs : List (List Int)) (F : PhF) (os : List PyData) (M : Ob) (z : Str) (lim : Nat), vs = [.ref M.a, .str z, .int lim] ∧ ObT K CO CC H Gp N per zs cs F os M ∧ (∀ n : Int, 1 ≤ n → n ≤ lim → AskOk per zs cs F z n) ∧ cs ≠ [] ∧ 1 ≤ lim ∧ lim ≤ 50 ∧
  ∀ (H' : Hp) (ms : List Int) (i : Nat), Ex H H' → ms.length = lim → (∀ (j : Nat) (m : Int), ms[j]? = some m → Most (cs.map (finF F per (.inr z) ((j : Int) + 1))) m) → i < ms.length → (∀ j, j < ms.length → ms.getD i 0 ≤ ms.getD j 0) → (∀ j, j < i → ms.getD i 0 < ms.getD j 0) → Q (.int ((i : Int) + 1)) H'
theorem ok_best_number {CO CC f f1 f2 f3 : Addr} {fd fd1 fd2 fd3 : FuncData} (D : Mf K CO "best_number" "Observer.best_number" s_Observer_best_number ["self", "port", "limit"] f fd) (T : Bt mg) (FO : OF K CO)
    (M_check_port : Mf K CO "check_port" "Observer.check_port" s_Observer_check_port ["self", "port"] f1 fd1) (G_check_port : FnOk P w K mg base CX0 1 f1 fd1 ["self", "port"] (spCkPort K CO CC))
    (D_check_count : Df K mg "check_count" s_check_count ["count", "least", "most"] f2 fd2) (g_ML0 : ∃ t, mg "MAX_LIMIT" = some (.int 50 t)) (M_count_agreeing : Mf K CO "count_agreeing" "Observer.count_agreeing" s_Observer_count_agreeing ["self", "port", "number"] f3 fd3) (G_count_agreeing : FnOk P w K mg base CX0 4 f3 fd3 ["self", "port", "number"] (spAgr K CO CC)) : FnOk P w K mg base CX0 5 f fd ["self", "port", "limit"] (spBest K CO CC) := by
  have G_check_count : FnOk P w K mg base CX0 1 f2 fd2 _ _ := ok_check_count D_check_count
  refine D.F.ok sc_Observer_best_number (fun vs H Q E h => ?_) (fun cdv A outer s H vs Q E hr h => ?_)
  · obtain ⟨Gp, N, per, zs, cs, F, os, M, z, lim, rfl, _⟩ := h
    rfl
  · obtain ⟨Gp, N, per, zs, cs, F, os, M, z, lim, rfl, W, ok, hne, l1, l50, q⟩ := h
    obtain ⟨tL, g_MAX_LIMIT⟩ := g_ML0
    have hu := hr.units
    refine ⟨_, (pss_cons (ps_expr (pe_meth (pv 0) FO.c M_check_port.m (G_check_port) (hr.mono (by decide)) M_check_port.b .nil pass0 (pa_cons (pv 1) pa_nil)))
      (pss_cons (ps_expr (pe_call (G_check_count) (hr.mono (by decide)) rfl D_check_count.g D_check_count.F.kp D_check_count.b .nil pass0 (pa_cons (pv 2) (pa_cons pe_int (pa_cons (pe_glob (v := .int 50) rfl g_MAX_LIMIT ⟨_, rfl⟩) pa_nil)))))
      (pss_one (ps_ret (pe_ix (ix_U (K := K)) (pe_callB (cr_minP (K := K) rfl hu) (by rfl) T.b_min (by decide +kernel) (pa_cons (pe_lc (own := [("number", 3)]) (g := gName 3) (tt := tYes) rfl sc_Observer_best_number.nd (pi_range2 (by rfl) T.b_range (pa_cons pe_int (pa_cons (pe_op (op_addU (K := K)) (pv 2) pe_int) pa_nil))) (blkOk_by (own := [("number", 3)]) (N := ["self", "port", "limit", "number"]) (sc := defScope s_Observer_best_number) (by decide +kernel)) (fun _ _ _ _ _ => (pg_name (i := 3) sc_Observer_best_number.nd rfl (Or.inl rfl))) (fun _ _ _ _ _ => pts_nil) (fun _ _ _ _ _ => (pe_tup (pa_cons (pe_meth (pv 0) FO.c M_count_agreeing.m (G_count_agreeing) (hr.mono (by decide)) M_count_agreeing.b .nil pass0 (pa_cons (pv 1) (pa_cons (pv 3) pa_nil))) (pa_cons (pv 3) pa_nil))))) pa_nil)) pe_int (fun _ _ => rfl)))))), ?_⟩
    walk_at "run"
    refine x_meth W.ins (ob_no (by decide +kernel) (by decide +kernel) (by decide +kernel) (by decide +kernel) (by decide +kernel)) ?_
    refine ⟨Gp, N, per, zs, cs, F, os, M, z, rfl, W, (ok 1 (by decide) (by omega)).hz, ?_⟩
    walk_at "run"
    refine ⟨lim, 1, 50, rfl, by omega, by omega, ?_⟩
    walk_at "run"
    refine ⟨1, (lim : Int) + 1, rfl, ⟨by omega, by omega, by omega, by omega⟩, ?_⟩
    have e0 : ((lim : Int) + 1 - 1).toNat = lim := by omega
    rw [e0]
    refine lcl_it walk_range (fun D i H' => Ex H H' ∧ ∃ ms : List Int, ms.length = i ∧ (∀ (j : Nat) (m : Int), ms[j]? = some m → Most (cs.map (finF F per (.inr z) ((j : Int) + 1))) m) ∧ LsAt K H' D (numP ms)) (fun D H' hD e h => ⟨e, [], rfl, fun j m h => by simp at h, ⟨⟨[], h, .nil⟩⟩⟩) (fun _ _ _ _ _ => trivial) ?_ ?_
    · rintro D i x H2 H3 hD hi ⟨e2, ms, m1, m2, m3⟩ ⟨eH, rfl⟩
      subst eH
      walk_at "run"
      have W2 := W.ex e2
      refine x_meth W2.ins (ob_no (by decide +kernel) (by decide +kernel) (by decide +kernel) (by decide +kernel) (by decide +kernel)) ?_
      refine ⟨Gp, N, per, zs, cs, F, os, M, z, _, rfl, W2, ok _ (by omega) (by omega), hne, fun H4 m e4 hm => ?_⟩
      refine x_tup (by simp) fun t H5 n5 e5 h5 => ?_
      obtain ⟨xs, hx, hxd⟩ := (m3.ex2 (e4.trans e5)).ex
      have hxl := hxd.len
      unfold numP at hxl
      rw [List.length_map, List.length_range] at hxl
      refine x_push hx (by omega) fun H6 e6 h6 => ⟨fun x o hx => e6 _ _ (ne_of_none hx hD) (e5 _ _ (e4 _ _ (e2 _ _ hx))), ms ++ [m], by rw [List.length_append, m1]; rfl, fun j y hj => ?_, ?_⟩
      · rcases Nat.lt_or_ge j ms.length with g | g
        · rw [List.getElem?_append_left g] at hj
          exact m2 j y hj
        · rw [List.getElem?_append_right g] at hj
          have hj0 : j - ms.length = 0 := by
            obtain ⟨w, _⟩ := List.getElem?_eq_some_iff.mp hj
            simp at w
            omega
          rw [hj0] at hj
          obtain rfl : m = y := by simpa using hj
          have ej : (j : Int) + 1 = 1 + (i : Int) := by omega
          rw [ej]
          exact hm
      · rw [numP_snoc]
        have t56 : TX H5 H6 := TX.but hx e6
        refine ⟨⟨_, h6, DpAll.append (DpAll.tx t56 hxd fun d hd => ?_) (.cons (.tup (SqT.of (t56 _ _ h5 trivial)) ?_) .nil)⟩⟩
        · obtain ⟨_, _, rfl⟩ := numP_mem hd
          exact .tup fun d hd => by
            simp only [List.mem_cons, List.not_mem_nil, or_false] at hd
            rcases hd with rfl | rfl <;> exact .int _
        · have ei : (1 : Int) + (i : Int) = (ms.length : Int) + 1 := by omega
          rw [ei]
          exact .cons (.int _) (.cons (.int _) .nil)
    · rintro D H2 hD ⟨e2, ms, m1, m2, m3⟩
      obtain ⟨xs, hx, hxd⟩ := m3.ex
      refine ⟨D, xs, ms, rfl, SqL.of hx, hxd, by omega, fun i x hi hxi h1 h2 => ?_⟩
      obtain ⟨d, hd1, hd2⟩ := hxd.get' hxi
      have hd : d = .tuple [.int (ms.getD i 0), .int ((i : Int) + 1)] := by
        have := numP_at hi
        rw [List.getD_eq_getElem?_getD, hd1] at this
        exact this
      subst hd
      cases hd2 with
      | tup hs ha =>
        cases ha with
        | cons a1 a2 =>
          cases a2 with
          | cons b1 b2 =>
            cases b2
            have b1 := Dp.int_inv b1
            subst b1
            exact x_ixT hs rfl (q H2 ms i e2 m1 m2 hi h1 h2)
end
/-! find_phases: what it finds; the finishers that are asked for -/
def PhOk (N : Net) (per : Nat) (F : PhF) : Prop := ∀ l S ph, F l = some (S, ph) → ∃ c, Lens N c ∧ S = cyOf N per c ∧ ph < per ∧ lens (runI N (cyQ N per c) 1 ph) = l
theorem phPut_some {F : PhF} {l x : List Int} {S : CyS} {ph : Nat} (h : (F x).isSome = true) : (phPut F l S ph x).isSome = true := by
  unfold phPut
  split
  · rfl
  · exact h
theorem phCy_some {F : PhF} {x : List Int} {S : CyS} (h : (F x).isSome = true) : ∀ n, (phCy F S n x).isSome = true
  | 0 => h
  | n + 1 => phPut_some (phCy_some h n)
section
variable {N : Net} (hV : ValidN N) (h8 : N.length ≤ 8) {per : Nat} (hc : perN N N.length ∣ per) (h1 : 1 ≤ per) {F : PhF}
include hV h8 hc h1
theorem cyQ_lens {c : List Int} (L : Lens N c) : lens (cyQ N per c) = c := by
  have Z := zeros_short L
  refine lens_ext (n := N.length) (by rw [lens_len, (cyQ_short hV h8 hc h1 L).len]) L.len fun k hk => ?_
  rw [lens_at (by rw [(cyQ_short hV h8 hc h1 L).len]; exact hk)]
  show (((runI N (zerosQ c) _ (waitsN N * per)).getD k []).length : Int) = _
  rw [run_len hV h8 Z _ hk, lens_zeros L, per_wt hV h8 L (c := waitsN N * per) (Nat.dvd_trans hc ⟨waitsN N, by rw [Nat.mul_comm]⟩) hk]
omit hV h8 hc h1 in
theorem phPut_ok {c : List Int} {ph : Nat} (W : PhOk N per F) (L : Lens N c) (hp : ph < per) : PhOk N per (phPut F (lens (runI N (cyQ N per c) 1 ph)) (cyOf N per c) ph) := by
  intro l S q h
  unfold phPut at h
  split at h
  · rename_i e
    cases h
    exact ⟨c, L, rfl, hp, e.symm⟩
  · exact W l S q h
omit hV h8 hc h1 in
theorem phCy_ok {c : List Int} (W : PhOk N per F) (L : Lens N c) : ∀ n, n ≤ per → PhOk N per (phCy F (cyOf N per c) n)
  | 0, _ => W
  | n + 1, hn => by
    show PhOk N per (phPut (phCy F (cyOf N per c) n) ((cyOf N per c).L.getD n []) (cyOf N per c) n)
    have e : (cyOf N per c).L.getD n [] = lens (runI N (cyQ N per c) 1 n) := cyL_get (by omega)
    rw [e]
    exact phPut_ok (phCy_ok W L n (by omega)) L (by omega)
theorem phCy_self {c : List Int} (L : Lens N c) : ∀ n, 1 ≤ n → n ≤ per → (phCy F (cyOf N per c) n c).isSome = true
  | 0, h, _ => by omega
  | n + 1, _, hn => by
    by_cases z : n = 0
    · subst z
      show (phPut F ((cyOf N per c).L.getD 0 []) (cyOf N per c) 0 c).isSome = true
      have e : (cyOf N per c).L.getD 0 [] = lens (runI N (cyQ N per c) 1 0) := cyL_get (by omega)
      rw [e]
      unfold phPut
      rw [if_pos (show c = lens (runI N (cyQ N per c) 1 0) from (cyQ_lens hV h8 hc h1 L).symm)]; rfl
    · exact phPut_some (phCy_self L n (by omega) (by omega))
theorem phF_ok : ∀ {cs : List (List Int)} {F : PhF}, PhOk N per F → (∀ c ∈ cs, Lens N c) → PhOk N per (phF N per F cs) ∧ (∀ x, (F x).isSome = true → (phF N per F cs x).isSome = true) ∧ ∀ c ∈ cs, (phF N per F cs c).isSome = true
  | [], F, W, _ => ⟨W, fun _ h => h, fun _ h => nomatch h⟩
  | c :: cs, F, W, L => by
    have Lc := L c (List.mem_cons_self ..)
    have W2 : PhOk N per (phStep N per F c) := by
      unfold phStep
      split
      · exact W
      · exact phCy_ok W Lc per (Nat.le_refl _)
    have S2 : ∀ x, (F x).isSome = true → (phStep N per F c x).isSome = true := fun x h => by
      unfold phStep
      split
      · exact h
      · exact phCy_some h per
    have C2 : (phStep N per F c c).isSome = true := by
      unfold phStep
      split
      · rename_i h; exact h
      · exact phCy_self hV h8 hc h1 Lc per h1 (Nat.le_refl _)
    obtain ⟨a, b, d⟩ := phF_ok W2 fun x hx => L x (List.mem_cons_of_mem _ hx)
    refine ⟨a, fun x h => b x (S2 x h), fun x hx => ?_⟩
    rcases List.mem_cons.mp hx with rfl | hx
    · exact b _ C2
    · exact d x hx
/-- the finisher that a candidate promises -/
theorem fin_val {c : List Int} (W : PhOk N per F) (hs : (F c).isSome = true) {z : Str} (hz : z ∈ nms N N.length) {n : Nat} (n1 : 1 ≤ n) : (∃ r, rowF F per (.inr z) (n : Int) c = some r ∧ r.1 ≠ []) ∧ ∃ T, (stP N (zerosQ c) 1 z T)[n - 1]? = some (finF F per (.inr z) (n : Int) c) := by
  obtain ⟨⟨S, ph⟩, hF⟩ := Option.isSome_iff_exists.mp hs
  obtain ⟨c0, L, rfl, hp, hl⟩ := W _ _ _ hF
  obtain ⟨x, t, T, h2, h3⟩ := fin_row hV h8 hc h1 L hp hl hz n1
  have hr : rowF F per (.inr z) (n : Int) c = some ([x], t) := by
    unfold rowF
    rw [hF]
    exact h2
  refine ⟨⟨_, hr, by simp⟩, T, ?_⟩
  unfold finF
  rw [hr]
  exact h3
theorem ask_ok {cs : List (List Int)} {zs : List Str} (W : PhOk N per F) (hs : ∀ c ∈ cs, (F c).isSome = true) (l9 : cs.length ≤ 999) (p8 : per ≤ 800) (P : PortsOf N zs) {z : Str} (hz : z ∈ zs) {n : Nat} (n1 : 1 ≤ n) (n2 : n ≤ 1000000) : AskOk per zs cs F z (n : Int) where
  l9 := l9
  p8 := p8
  n1 := by omega
  n2 := by omega
  hz := hz
  ok := fun c hcs => by
    obtain ⟨⟨S, ph⟩, hF⟩ := Option.isSome_iff_exists.mp (hs c hcs)
    obtain ⟨c0, L, rfl, hp, hl⟩ := W _ _ _ hF
    refine ⟨_, _, hF, by unfold cyOf; rw [cyA_len]; exact hp, fun r hr => ?_⟩
    have hm : r.1 ∈ ((cyRun N (cyQ N per c0) per).R (.inr z)).map (·.1) := List.mem_map_of_mem hr
    rw [cyR_port] at hm
    obtain ⟨x, _, e⟩ := List.mem_map.mp hm
    rw [← e]
    show 1 ≤ 100
    decide
  row := fun c hcs => (fin_val hV h8 hc h1 W (hs c hcs) ((P.2.2 z).mp hz) n1).1
end
theorem fin_one {N : Net} {qs : Qs} {z : Str} {p x y : Int} {n : Nat} (h : ∃ T, (stP N qs p z T)[n]? = some x) (k : ∃ T, (stP N qs p z T)[n]? = some y) : x = y := by
  obtain ⟨_, h⟩ := h
  obtain ⟨_, k⟩ := k
  exact stP_one h k
end K
set_option maxHeartbeats 4000000
/-! sum(t) of a tuple of ints; list.count and list.index of ints; max and min of a list of ints. -/
namespace FB
open PySem PySem.Spec PyProof.Rows L2 Evl
section
variable {prog : Program} {w : World} {A : Around} {s : Shared} {E : Value → Shared → Prop} {l : Addr} {its : List Value} {ns : List Int}
theorem sum_rawT {Q : Value → Shared → Prop} (hh : A.handled = none) (hl : s.heap.IsTuple l its.toArray) (hi : IntsAre its ns)
    (h : ∀ h' tk t', (∀ b o, s.heap.get? b = some o → h'.get? b = some o) → Q (.int ns.sum t') { s with heap := h', toks := tk }) : wpAny (model prog w) A (call (.builtin "sum") [.ref l]) Q E s := by
  obtain ⟨xs, e⟩ := hi.allInts.items
  have hn : numsOf (intItems xs).toList = ns := by rw [← e]; exact hi.numsOf
  rw [nums_intItems] at hn
  rw [e] at hl
  refine PySem.W.ktm_sumG hh hl fun h' tk t' hk => ?_
  have := h h' tk t' hk
  rw [preSum_eq, List.take_of_length_le (by simp), hn]
  exact this
end
section
variable {K : PySem.W.Frag} {H : Hp} {Q : VK} {a : Addr} {ns : List Int} {x m : Int}
def rSumT (K : PySem.W.Frag) : List V → Hp → VK → Prop := fun vs H Q => ∃ (a : Addr) (ns : List Int), vs = [V.ref a] ∧ SqT K H a (ns.map V.int) ∧ Q (.int ns.sum) H
theorem cr_sumT {X : Cx} {K : PySem.W.Frag} (hc : X.calm = true) (hK : X.K = K := by rfl) : CallR X (.builtin "sum") (rSumT K) := by
  subst hK
  intro pins s σ H vs us Q I r h
  obtain ⟨a, ns, rfl, hs, q⟩ := h
  obtain ⟨its, rv, ⟨o, ho, hc2, n, hd⟩, _⟩ := I.tuple hs
  rw [Vals.ref1 r]
  exact sum_rawT (I.ok.hd hc) ⟨o, ho, hc2, n, hd⟩ rv.ints fun h' tk t' hk => ⟨.int _, H, I.kept hk, ⟨_, rfl⟩, q⟩
theorem x_sumT (h : SqT K H a (ns.map V.int)) (q : Q (.int ns.sum) H) : rSumT K [.ref a] H Q := ⟨a, ns, rfl, h, q⟩
theorem eqV_int {x y : Int} : eqV (.int x) (.int y) = decide (x = y) := by
  first
    | rfl
    | simp [eqV]
theorem countP_int : (ns.map V.int).countP (fun z => eqV z (.int x)) = ns.count x := by
  rw [List.countP_map]
  unfold List.count
  refine List.countP_congr fun y _ => ?_
  show eqV (.int y) (.int x) = true ↔ _
  rw [eqV_int]
  simp
theorem flat_ints {ns : List Int} : (ns.map V.int).all flatV = true := by
  rw [List.all_map, List.all_eq_true]
  exact fun _ _ => rfl
theorem x_cntF (h : SqL K H a (ns.map V.int)) (q : Q (.int (ns.count x : Int)) H) : rCntF K (.ref a) [.int x] H Q :=
  ⟨a, ns.map V.int, .int x, rfl, rfl, h, rfl, flat_ints, by rw [countP_int]; exact q⟩
theorem x_maxL (h : SqL K H a (ns.map V.int)) (hn : 0 < ns.length) (q : ∀ m, m ∈ ns → (∀ y, y ∈ ns → y ≤ m) → Q (.int m) H) : rMax K [.ref a] H Q := ⟨a, ns, rfl, h, hn, q⟩
theorem x_minL (h : SqL K H a (ns.map V.int)) (hn : 0 < ns.length) (q : ∀ m, m ∈ ns → (∀ y, y ∈ ns → m ≤ y) → Q (.int m) H) : rMin K [.ref a] H Q := ⟨a, ns, rfl, h, hn, q⟩
theorem x_idxI {i : Nat} (h : SqL K H a (ns.map V.int)) (hi : ns[i]? = some x) (hno : ∀ j, j < i → ns[j]? ≠ some x) (q : Q (.int (i : Int)) H) : rIndex K (.ref a) [.int x] H Q := by
  refine ⟨a, ns.map V.int, .int x, i, .int x, rfl, rfl, h, rfl, flat_ints, by rw [List.getElem?_map, hi]; rfl, by rw [eqV_int]; simp, ?_, q⟩
  intro j z hj hz
  rw [List.getElem?_map] at hz
  cases hq : ns[j]? with
  | none => rw [hq] at hz; cases hz
  | some y =>
    rw [hq] at hz
    cases hz
    rw [eqV_int]
    have := hno j hj
    rw [hq] at this
    simp only [ne_eq, Option.some.injEq] at this
    simpa using this
end
end FB
set_option maxHeartbeats 1000000
namespace K
open PySem PySem.Spec PyProof.Rows L2 Evl FB
local macro_rules | `(tactic| walk_at "run") => `(tactic| try simp only [tSeq, tAsg, tVar, tC, gName, L2.start, List.map_cons, List.map_nil, List.cons_append, List.nil_append, List.length_cons, List.length_nil, List.replicate, List.getElem?_cons_zero, List.getElem?_cons_succ, Option.some.injEq, exists_eq_left', List.set_cons_zero, List.set_cons_succ, V.ref.injEq, tRet, x_tLst, x_tTup, tCons, tCB, tNil, tOp, x_addI, x_mulI, x_rI, x_rI0, x_ltI, x_leI, x_ltS, x_leS, x_eqI, x_neI, x_eqS, x_eqB, x_neB, x_isiI, x_isiS, x_int, x_max, x_min, cxOf, tIfS, tNext, tTest, V.bl.injEq, decide_eq_true_eq, gSub, tAnd, tOr, tNot, tB, tDrop, tBM, x_tFor, iRng1, iList, iTup, x_tLc, tYes, tCall, tIf, tAndV, tOrV, tNotV, tChain, List.append_nil, tUn, if_true, wipe, true_and, x_never, iU, x_itS, kV, Nat.reduceAdd, Nat.reduceSub, List.replicate_zero, x_rU, x_tMkO, iEnumT, x_tDc, x_tDGet, x_tDGet2, x_sDPut, x_tDSetd, x_tDNewK, x_iItems, x_iZip, x_tSAddK, x_tLockV, x_tTupRg, x_tRg2, tPar, tPar3, tBM0, tSl, tNoPart, tPart, x_tSetAdd, x_tDIn, x_iKeys, x_iZipX, x_iZip3, iRevR, tRg1, x_tFld, x_tMeth, x_sFld, x_tMake, tAug, x_ipI, x_tDNotIn, iRng2, tAugS, tBMZ, tTupZ])
/-! _law_candidates, _law_known -/
def qk (p : Int) : List Int → Qs
  | [] => []
  | l :: ls => ((List.range l.toNat).map fun (j : Nat) => p + (j : Int)) :: qk (p + l) ls
theorem qk_snoc {l : Int} : ∀ {ls : List Int} {p : Int}, qk p (ls ++ [l]) = qk p ls ++ [(List.range l.toNat).map fun (j : Nat) => p + ls.sum + (j : Int)]
  | [], p => by simp [qk]
  | a :: ls, p => by
    show _ :: qk (p + a) (ls ++ [l]) = _ :: qk (p + a) ls ++ _
    rw [qk_snoc, List.sum_cons, Int.add_assoc p a]
    rfl
theorem qk_len : ∀ {ls : List Int} {p : Int}, (qk p ls).length = ls.length
  | [], _ => rfl
  | _ :: ls, _ => congrArg Nat.succ (qk_len (ls := ls))
theorem qk_at : ∀ {ls : List Int} {p : Int} {k : Nat}, ((qk p ls).getD k []).length = (ls.getD k 0).toNat
  | [], _, k => by simp [qk]
  | a :: ls, p, 0 => by
    show ((List.range a.toNat).map _).length = _
    rw [List.length_map, List.length_range]; rfl
  | a :: ls, p, k + 1 => by
    show ((qk (p + a) ls).getD k []).length = (ls.getD k 0).toNat
    exact qk_at
theorem qk_flat : ∀ {ls : List Int} {p : Int}, (∀ l ∈ ls, 0 ≤ l) → (qk p ls).flatten.Nodup ∧ 0 ≤ ls.sum ∧ ∀ x ∈ (qk p ls).flatten, p ≤ x ∧ x < p + ls.sum
  | [], _, _ => ⟨List.nodup_nil, by simp, fun x hx => by simp [qk] at hx⟩
  | a :: ls, p, h => by
    obtain ⟨i1, i0, i2⟩ := qk_flat (ls := ls) (p := p + a) fun l hl => h l (List.mem_cons_of_mem _ hl)
    have ha := h a (List.mem_cons_self ..)
    have m : ∀ x, x ∈ (List.range a.toNat).map (fun (j : Nat) => p + (j : Int)) → p ≤ x ∧ x < p + a := fun x hx => by
      obtain ⟨j, hj, rfl⟩ := List.mem_map.mp hx
      have := List.mem_range.mp hj
      omega
    refine ⟨?_, by rw [List.sum_cons]; omega, fun x hx => ?_⟩
    · show (_ ++ (qk (p + a) ls).flatten).Nodup
      refine List.nodup_append.mpr ⟨?_, i1, fun x hx y hy => ?_⟩
      · rw [List.nodup_iff_pairwise_ne, List.pairwise_map]
        exact List.nodup_range.imp fun hne e => hne (by omega)
      · have := m x hx
        have := i2 y hy
        omega
    · have hx : x ∈ _ ++ (qk (p + a) ls).flatten := hx
      rw [List.sum_cons]
      rcases List.mem_append.mp hx with hx | hx
      · have := m x hx
        omega
      · have := i2 x hx
        omega
theorem Lens.all {N : Net} {c : List Int} (L : Lens N c) : ∀ l ∈ c, 0 ≤ l := fun l hl => by
  obtain ⟨k, hk, rfl⟩ := List.mem_iff_getElem.mp hl
  have := L.nn k (by rw [← L.len]; exact hk)
  rw [List.getD_eq_getElem?_getD, List.getElem?_eq_getElem hk] at this
  exact this
theorem qk_ok {N : Net} {c : List Int} (L : Lens N c) : StOk N (1 + c.sum) (qk 1 c) := by
  obtain ⟨a, b, d⟩ := qk_flat (p := 1) L.all
  refine ⟨by omega, by rw [qk_len, L.len], fun k q s hq hs => ?_, a, fun x hx => by have := d x hx; omega⟩
  have hk : k < N.length := (List.getElem?_eq_some_iff.mp hs).1
  have h1 := qk_at (ls := c) (p := 1) (k := k)
  have h2 := L.lt k hk
  have h3 := L.nn k hk
  rw [List.getD_eq_getElem?_getD, hq] at h1
  rw [List.getD_eq_getElem?_getD (l := N), hs] at h2
  simp only [Option.getD_some] at h1 h2
  omega
theorem qk_lens {N : Net} {c : List Int} (L : Lens N c) : lens (qk 1 c) = c := by
  refine lens_ext (n := N.length) (by rw [lens_len, qk_len, L.len]) L.len fun k hk => ?_
  have := L.nn k hk
  rw [lens_at (by rw [qk_len, L.len]; exact hk), qk_at]
  omega
section
variable {P : Program} {w : World} {K : PySem.W.Frag} {mg : Str → Option Value} {base : Heap}
abbrev s_l_candidates : Stmt := top 66
theorem sc_l_candidates : FnScope ["_law_network_here", "_law_found", "_law_seats"] ["_law_network_here"] (defScope s_l_candidates) := ⟨rfl, rfl, rfl, by decide +kernel, rfl, by decide +kernel, by decide +kernel⟩
def spCds (K : PySem.W.Frag) : Sp := fun vs H Q _ => ∃ (v : V) (N : Net), vs = [v] ∧ NetAt K H v N ∧ ValidN N ∧ N.length ≤ 8 ∧ ∀ H', Ex H H' → Q (.int (prodN N N.length : Int)) H'
theorem ok_l_candidates {f : Addr} {fd : FuncData} (D : Df K mg "_law_candidates" s_l_candidates ["_law_network_here"] f fd) (T : Bt mg) : FnOk P w K mg base CX0 1 f fd ["_law_network_here"] (spCds K) := by
  refine D.F.ok sc_l_candidates (fun vs H Q E h => ?_) (fun cdv A outer s H vs Q E hr h => ?_)
  · obtain ⟨v, N, rfl, _⟩ := h
    rfl
  · obtain ⟨v, N, rfl, hN, hV, hN8, q⟩ := h
    refine ⟨_, (pss_cons (ps_set (i := 1) sc_l_candidates.nd rfl (Or.inl rfl) pe_int)
      (pss_cons (ps_for PassesOwn.never rfl (pi_U (K := K) (pv 0)) (pg_name (i := 2) sc_l_candidates.nd rfl (Or.inl rfl)) (pss_one (ps_set (i := 1) sc_l_candidates.nd rfl (Or.inl rfl) (pe_op (op_mulU (K := K)) (pv 1) (pe_callB (call_lenU (K := K)) (by rfl) T.b_len (by decide +kernel) (pa_cons (pv 2) pa_nil))))))
      (pss_one (ps_ret (pv 1))))), ?_⟩
    walk_at "run"
    obtain ⟨Na, Nt, rfl, hNT, hNd⟩ := NetAt.at hN
    have hNl : Nt.length = N.length := by rw [hNd.len, List.length_map]
    refine x_itT hNT (loop_it walk_tup (fun i σ H' => ∃ u2, σ = [some (V.ref Na), some (.int (prodN N i : Int)), u2] ∧ Ex H H') ⟨_, rfl, fun _ _ h => h⟩ (fun i σ H' _ ⟨_, _, e⟩ => ex_t e hNT) ?_ ?_)
    · rintro i x σ H0 H3 hi ⟨u2, rfl, e3⟩ ⟨eH, hx⟩
      subst eH
      obtain ⟨d, hd, hsd⟩ := hNd.get' hx
      obtain ⟨s, hs, rfl⟩ : ∃ s, N[i]? = some s ∧ stD s = d := by simpa using hd
      obtain ⟨sb, rfl, hsb⟩ := StAt.at (Dp.ex e3 hsd)
      walk_at "run"
      refine x_lenT hsb ?_
      rw [List.length_map]
      walk_at "run"
      have e : N.getD i [] = s := by rw [List.getD_eq_getElem?_getD, hs]; rfl
      have hs8 := (hV.cnt.st s (List.mem_of_getElem? hs)).2
      refine ⟨.inr (by omega), some (V.ref sb), ?_, e3⟩
      show _ = [_, some (V.int (((prodN N i * (N.getD i []).length : Nat)) : Int)), _]
      rw [e, Int.natCast_mul]
    · rintro σ H3 ⟨u2, rfl, e3⟩
      walk_at "run"
      rw [hNl]
      exact q _ e3
abbrev s_l_known : Stmt := top 67
theorem sc_l_known : FnScope ["_law_network_here", "_law_lengths", "_law_port", "_law_number", "_law_queues", "_law_passenger", "_law_length"] ["_law_network_here", "_law_lengths", "_law_port", "_law_number"] (defScope s_l_known) := ⟨rfl, rfl, rfl, by decide +kernel, rfl, by decide +kernel, by decide +kernel⟩
def spKnown (K : PySem.W.Frag) : Sp := fun vs H Q _ => ∃ (v : V) (N : Net) (la : Addr) (c : List Int) (z : Str) (n : Nat), vs = [v, .ref la, .str z, .int (n : Int)] ∧ NetAt K H v N ∧ ValidN N ∧ N.length ≤ 8 ∧ RawT H la c ∧ Lens N c ∧ perN N N.length ≤ 800 ∧ z ∈ nms N N.length ∧ 1 ≤ n ∧ n ≤ 1000000 ∧
  ∀ H' x, Ex H H' → (∃ T, (stP N (zerosQ c) 1 z T)[n - 1]? = some x) → Q (.int x) H'
theorem ok_l_known {f f1 : Addr} {fd fd1 : FuncData} (D : Df K mg "_law_known" s_l_known ["_law_network_here", "_law_lengths", "_law_port", "_law_number"] f fd) (T : Bt mg) (D_finisher : Df K mg "finisher" s_finisher ["network", "state", "port", "number"] f1 fd1) (G_finisher : FnOk P w K mg base CX0 23 f1 fd1 ["network", "state", "port", "number"] (spFinr K)) : FnOk P w K mg base CX0 24 f fd ["_law_network_here", "_law_lengths", "_law_port", "_law_number"] (spKnown K) := by
  refine D.F.ok sc_l_known (fun vs H Q E h => ?_) (fun cdv A outer s H vs Q E hr h => ?_)
  · obtain ⟨v, N, la, c, z, n, rfl, _⟩ := h
    rfl
  · obtain ⟨v, N, la, c, z, n, rfl, hN, hV, h8, hl, L, hp, hz, n1, n2, q⟩ := h
    refine ⟨_, (pss_cons (ps_par (i := 4) (j := 5) (by rfl) sc_l_known.nd rfl rfl (by decide) rfl rfl (pa_cons (pe_lst pa_nil) (pa_cons pe_int pa_nil)) (by rfl))
      (pss_cons (ps_for PassesOwn.never rfl (pi_U (K := K) (pv 1)) (pg_name (i := 6) sc_l_known.nd rfl (Or.inl rfl)) (pss_cons (ps_expr (pe_bm PySem.F.plainAttrs_list PySem.F.slot_list_append PySem.F.type_list_append mt_append (pv 4) (pa_cons (pe_tupRg rfl (by rfl) T.b_tuple (prg_2 (by rfl) T.b_range (pv 5) (pe_op (op_addU (K := K)) (pv 5) (pv 6)))) pa_nil)))
      (pss_one (ps_set (i := 5) sc_l_known.nd rfl (Or.inl rfl) (pe_op (op_addU (K := K)) (pv 5) (pv 6))))))
      (pss_one (ps_ret (pe_callB (call_maxU rfl) (by rfl) T.b_max (by decide +kernel) (pa_cons pe_int (pa_cons (pe_op op_sub (pe_ix (ix_U (K := K)) (pe_call (G_finisher) (hr.mono (by decide)) rfl D_finisher.g D_finisher.F.kp D_finisher.b .nil pass0 (pa_cons (pv 0) (pa_cons (pe_tup (pa_cons (pv 5) (pa_cons (pe_callTy (call_tupU (K := K)) (by rfl) T.b_tuple (by decide +kernel) (pa_cons (pv 4) pa_nil)) pa_nil))) (pa_cons (pv 2) (pa_cons (pv 3) pa_nil))))) pe_int (fun _ _ => rfl)) (pe_callB (cr_sumT (K := K) rfl) (by rfl) T.b_sum (by decide +kernel) (pa_cons (pv 1) pa_nil))) pa_nil))))))), ?_⟩
    walk_at "run"
    refine x_lst (by simp) fun Qa H1 nQ e1 hQ => ?_
    walk_at "run"
    have hl1 := e1 _ _ hl
    have hlc : c.length ≤ 8 := by rw [L.len]; exact h8
    have hl8 : ∀ l ∈ c, 0 ≤ l ∧ l ≤ 8 := fun l hl => by
      obtain ⟨k, hk, rfl⟩ := List.mem_iff_getElem.mp hl
      have a := L.nn k (by rw [← L.len]; exact hk)
      have b := L.lt k (by rw [← L.len]; exact hk)
      have d := ((jn_of hV).st k (by rw [← L.len]; exact hk)).2
      rw [List.getD_eq_getElem?_getD, List.getElem?_eq_getElem hk] at a b
      simp only [Option.getD_some] at a b
      omega
    have hsum : ∀ i, 0 ≤ (c.take i).sum ∧ (c.take i).sum ≤ 8 * (i : Int) := fun i => by
      induction i with
      | zero => simp
      | succ i ih =>
        rw [List.take_add_one, List.sum_append]
        cases hq : c[i]? with
        | none => simp; omega
        | some y =>
          have := hl8 y (List.mem_of_getElem? hq)
          simp
          omega
    refine ⟨_, _, rfl, x_itT (SqT.of hl1) (loop_it walk_tup (fun i σ H' => ∃ u6 ts, σ = [some v, some (.ref la), some (.str z), some (.int (n : Int)), some (.ref Qa), some (.int (1 + (c.take i).sum)), u6] ∧ Ex H H' ∧ H' Qa = some (.lst ts) ∧ DpAll K H' ts ((qk 1 (c.take i)).map qD)) ⟨_, [], rfl, e1, hQ, .nil⟩ (fun i σ H' _ ⟨_, _, _, e, _⟩ => SqT.of (e _ _ hl)) ?_ ?_)⟩
    · rintro i x σ H0 H3 hi ⟨u6, ts, rfl, e3, hQ3, hts⟩ ⟨eH, hx⟩
      subst eH
      obtain ⟨l, hl', rfl⟩ : ∃ l, c[i]? = some l ∧ V.int l = x := by simpa using hx
      have hlr := hl8 l (List.mem_of_getElem? hl')
      have hs := hsum i
      have hi8 : i < 8 := by have := (List.getElem?_eq_some_iff.mp hl').1; omega
      have htl : ts.length ≤ 8 := by
        rw [hts.len, List.length_map, qk_len, List.length_take]; omega
      walk_at "run"
      refine ⟨x_tyL (SqL.of hQ3), _, _, rfl, rfl, x_tupRg (RgOk.of_le (by omega) (by omega) (by omega) (by omega)) fun t H7 nt e7 ht => ?_⟩
      have hQ7 := e7 _ _ hQ3
      have hQt : Qa ≠ t := ne_of_none hQ3 nt
      refine x_append hQ7 (by omega) fun H8 e8' h8' => ?_
      have t8 := (TX.of e7).trans (TX.but hQ7 e8')
      walk_at "run"
      refine ⟨some (V.int l), ts ++ [.ref t], ?_, fun a o ha => e8' _ _ (ne_of_none ha nQ) (e7 _ _ (e3 _ _ ha)), h8', ?_⟩
      · rw [List.take_add_one, hl', List.sum_append]
        simp [Int.add_assoc]
      · rw [List.take_add_one, hl']
        show DpAll K H8 _ ((qk 1 (c.take i ++ [l])).map qD)
        rw [qk_snoc, List.map_append]
        refine DpAll.append (DpAll.tx t8 hts (qsD_t _).all) (.cons (.tup (SqT.of (e8' _ _ hQt.symm ?_)) (ints_dp _)) .nil)
        rw [ht]
        unfold rgV
        have e0 : (1 + (c.take i).sum + l - (1 + (c.take i).sum)).toNat = l.toNat := by omega
        rw [e0, List.map_map]
        rfl
    · rintro σ H3 ⟨u6, ts, rfl, e3, hQ3, hts⟩
      rw [List.length_map, List.take_length] at hts
      rw [List.length_map, List.take_length]
      walk_at "run"
      refine x_tupL (SqL.of hQ3) fun tq H4 ntq e4 htq => ?_
      refine x_tup (by simp) fun st H5 nst e5 hst => ?_
      have e35 := e4.trans e5
      have e05 := e3.trans e35
      have hu : Dp K H5 (.ref st) (stateD (1 + c.sum) (qk 1 c)) := .tup (SqT.of hst) (.cons (.int _) (.cons (.tup (SqT.of (e5 _ _ htq)) (DpAll.tx (TX.of e35) hts (qsD_t _).all)) .nil))
      have h1 := perN_pos (N := N) N.length
      have hnp : n * perN N N.length ≤ 1000000 * 800 := Nat.mul_le_mul n2 hp
      have hnp2 : ((n * perN N N.length : Nat) : Int) ≤ 800000000 := by omega
      refine ⟨v, .ref st, N, 1 + c.sum, qk 1 c, z, n, ((n * perN N N.length : Nat) : Int), rfl, Dp.ex e05 hN, hV, h8, hu, qk_ok L, by omega, by omega, by rw [qk_lens L]; exact jq_ge hV h8 (Nat.dvd_refl _) h1 L hz n, by omega, by omega, fun H6 r y t e6 hr hP t1 tT hj1 hj2 => ?_⟩
      walk_at "run"
      refine x_ixT (SqT.of hr) rfl ?_
      refine x_sumT (SqT.of (e6 _ _ (e05 _ _ hl))) ?_
      walk_at "run"
      obtain ⟨t', rfl⟩ : ∃ t' : Nat, t = (t' : Int) + 1 := ⟨(t - 1).toNat, by omega⟩
      rw [Int.add_sub_cancel] at hj1
      have hf := fin_state hV h8 (qk_ok L) n1 hP hj1 hj2
      rw [qk_lens L] at hf
      have ek : knw (1 + c.sum - 1) y = if y - c.sum > 0 then y - c.sum else 0 := by
        unfold knw
        split <;> omega
      rw [ek] at hf
      exact q _ _ (e05.trans e6) ⟨_, hf⟩
end
/-! what the law k15 needs of lists -/
theorem lt_ext : ∀ {a b : List Int}, a.Pairwise (· < ·) → b.Pairwise (· < ·) → (∀ x, x ∈ a ↔ x ∈ b) → a = b
  | [], [], _, _, _ => rfl
  | [], y :: b, _, _, h => absurd ((h y).mpr (List.mem_cons_self ..)) (by simp)
  | x :: a, [], _, _, h => absurd ((h x).mp (List.mem_cons_self ..)) (by simp)
  | x :: a, y :: b, ha, hb, h => by
    obtain ⟨a1, a2⟩ := List.pairwise_cons.mp ha
    obtain ⟨b1, b2⟩ := List.pairwise_cons.mp hb
    have e : x = y := by
      rcases List.mem_cons.mp ((h x).mp (List.mem_cons_self ..)) with e | e
      · exact e
      · rcases List.mem_cons.mp ((h y).mpr (List.mem_cons_self ..)) with e' | e'
        · exact e'.symm
        · have := b1 x e
          have := a1 y e'
          omega
    subst e
    refine congrArg (x :: ·) (lt_ext a2 b2 fun z => ⟨fun hz => ?_, fun hz => ?_⟩)
    · rcases List.mem_cons.mp ((h z).mp (List.mem_cons_of_mem _ hz)) with e | e
      · have := a1 z hz; omega
      · exact e
    · rcases List.mem_cons.mp ((h z).mpr (List.mem_cons_of_mem _ hz)) with e | e
      · have := b1 z hz; omega
      · exact e
theorem most_of {W : List Int} {m : Int} (h : m ∈ W.map fun x => (W.count x : Int)) (k : ∀ y, y ∈ W.map (fun x => (W.count x : Int)) → y ≤ m) : Most W m := by
  obtain ⟨x, hx, e⟩ := List.mem_map.mp h
  exact ⟨⟨x, hx, e.symm⟩, fun y hy => k _ (List.mem_map_of_mem hy)⟩
theorem cand_len {N : Net} : ∀ i, i ≤ N.length → (candN (N.take i)).length = prodN N i
  | 0, _ => rfl
  | i + 1, h => by
    have hs : N[i]? = some (N.getD i []) := by simp [List.getD_eq_getElem?_getD, show i < N.length by omega]
    have e : candN (N.take (i + 1)) = stepC (N.getD i []) (candN (N.take i)) := by
      rw [List.take_add_one, hs]
      exact candA_snoc
    rw [e]
    show _ = prodN N i * (N.getD i []).length
    rw [← cand_len i (by omega)]
    generalize candN (N.take i) = cs
    generalize N.getD i [] = s
    unfold stepC
    induction cs with
    | nil => simp
    | cons c cs ih => rw [List.flatMap_cons, List.length_append, ih, List.length_map, List.length_range, List.length_cons, Nat.succ_mul, Nat.add_comm]
theorem cand_all {N : Net} : (candN N).length = prodN N N.length := by
  have := cand_len (N := N) N.length (Nat.le_refl _)
  rw [List.take_length] at this
  exact this
theorem stP_nn {N : Net} (hV : ValidN N) (h8 : N.length ≤ 8) {c : List Int} (L : Lens N c) {z : Str} (T : Nat) : ∀ x ∈ stP N (zerosQ c) 1 z T, 0 ≤ x := by
  have R := (run_ln hV h8 (B := fun _ => True) (S := fun _ x => 0 ≤ x) (S' := fun _ x => 0 ≤ x) (R := fun x => 0 ≤ x) ⟨fun _ _ _ _ _ h _ => h, fun _ _ h => h, fun _ _ _ h => h⟩ trivial (fun _ _ _ _ _ => trivial) (zeros_short L) (p := 1) (fun k hk x hx => by
    obtain ⟨q, hq, hx⟩ := getD_memQ hx
    rw [zeros_mem q hq x hx]; decide) T fun t ht => by omega).1
  exact R.pt z
def N15 : Net := [[.inl 1, .inr "a"], [.inr "b", .inl 2, .inr "c"], [.inr "a", .inr "b"]]
theorem n15_valid : ValidN N15 := by
  refine ⟨by decide, by decide, fun k s h => ?_⟩
  have hk : k < 3 := (List.getElem?_eq_some_iff.mp h).1
  have key : ∀ s ∈ N15, 1 ≤ s.length ∧ s.length ≤ 8 := by decide
  refine ⟨(key s (List.mem_of_getElem? h)).1, (key s (List.mem_of_getElem? h)).2, ?_⟩
  obtain rfl | rfl | rfl : k = 0 ∨ k = 1 ∨ k = 2 := by omega
  all_goals
    cases h
    intro p hp
    simp only [List.mem_cons, List.not_mem_nil, or_false] at hp
    first
      | (rcases hp with rfl | rfl | rfl <;> exact ⟨by decide +kernel, fun z e => by first | (cases e; decide +kernel) | cases e⟩)
      | (rcases hp with rfl | rfl <;> exact ⟨by decide +kernel, fun z e => by first | (cases e; decide +kernel) | cases e⟩)
theorem n15_prod : prodN N15 N15.length = 12 := by decide
theorem portR_some {f : Nat → Rat} : ∀ {L : Seats}, portR f L ≠ 0 → ∃ i z, (i, (.inr z : Key)) ∈ L ∧ f i ≠ 0
  | [], h => absurd rfl h
  | (i, .inl j) :: r, h => by
    have h : (0 : Rat) + portR f r ≠ 0 := h
    obtain ⟨k, z, hk, hf⟩ := portR_some (L := r) (fun e => h (by rw [e]; grind))
    exact ⟨k, z, List.mem_cons_of_mem _ hk, hf⟩
  | (i, .inr z) :: r, h => by
    have h : f i + portR f r ≠ 0 := h
    by_cases e : f i = 0
    · obtain ⟨k, y, hk, hf⟩ := portR_some (L := r) (fun e2 => h (by rw [e, e2]; grind))
      exact ⟨k, y, List.mem_cons_of_mem _ hk, hf⟩
    · exact ⟨i, z, List.mem_cons_self .., e⟩
/-- some port is reached -/
theorem nms_some {N : Net} (hV : ValidN N) (h8 : N.length ≤ 8) : ∃ z, z ∈ nms N N.length := by
  have ho := port_one hV.fwr hV.pos
  obtain ⟨i, z, hi, hf⟩ := portR_some (f := av N) (L := seatsOf N N.length) (by rw [ho]; decide)
  obtain ⟨a, b⟩ := mem_seatsOf.mp hi
  have h0 : 0 < av N i := by
    have := av_nn (N := N) i
    grind
  have Z : Short N (z0 N) := ⟨by unfold z0; simp, fun k hk => by
    rw [z0_at]
    exact ((jn_of hV).st k hk).1⟩
  have hb := bt_one hV h8 (Nat.dvd_refl _) (perN_pos _) a h0
  exact ⟨z, (mem_nms _).mpr ⟨i, a, bt_fnd (t := ((perN N N.length : Nat) : Int)) hV (jn_of hV).fw (short_lensL Z) i a (by omega), b⟩⟩
theorem count_filter {α : Type} {f : α → Int} {x : Int} : ∀ {cs : List α}, (cs.map f).count x = (cs.filter fun c => decide (f c = x)).length
  | [] => rfl
  | c :: cs => by
    by_cases h : f c = x
    · rw [List.map_cons, List.filter_cons_of_pos (by simpa using h), h, List.count_cons_self, count_filter, List.length_cons]
    · rw [List.map_cons, List.filter_cons_of_neg (by simpa using h), List.count_cons_of_ne h, count_filter]
/-! the law k15 -/
theorem ObT.mono {K : PySem.W.Frag} {CO CC : Addr} {H : Hp} {Gp Gp' : Addr → Prop} {N : Net} {per : Nat} {zs : List Str} {cs : List (List Int)} {F : PhF} {os : List PyData} {M : Ob} (W : ObT K CO CC H Gp N per zs cs F os M) (m : ∀ x o, H x = some o → Gp x → Gp' x) : ObT K CO CC H Gp' N per zs cs F os M := by
  obtain ⟨xs, hr, _⟩ := W.rem.lst
  obtain ⟨ts, ho, _⟩ := W.ob.ex
  exact ⟨W.ins, m _ _ W.ins W.ga, W.net, W.kp, m _ _ W.kp W.gk, W.rem, m _ _ hr W.gr, W.ph.mono fun x o hx g => ⟨m x o hx g.1, g.2⟩, W.ob, m _ _ ho W.go, W.ot, W.ko, W.ro⟩
/-- what stands in a round: the draws, the network, the ports' list, the observer -/
structure RS (K : PySem.W.Frag) (CO CC h b pn : Addr) (v : V) (N : Net) (per : Nat) (zl zs : List Str) (F : PhF) (Gp : Addr → Prop) (cs : List (List Int)) (os : List PyData) (M : Ob) (H : Hp) : Prop where
  g : Gen H h b
  net : NetAt K H v N
  nm : H pn = some (.lst (zl.map V.str))
  ob : ObT K CO CC H Gp N per zs cs F os M
  fr : ∀ x, H x = none → Gp x
  nh : ¬ Gp h
  nb : ¬ Gp b
  ph : pn ≠ h ∧ pn ≠ b ∧ pn ≠ M.a ∧ pn ≠ M.ob
section
variable {K : PySem.W.Frag} {CO CC h b pn L : Addr} {v : V} {N : Net} {per : Nat} {zl zs : List Str} {F : PhF} {Gp : Addr → Prop} {cs cs' : List (List Int)} {os os' : List PyData} {M M' : Ob} {H H' : Hp} {xs : List V}
theorem RS.ex (W : RS K CO CC h b pn v N per zl zs F Gp cs os M H) (e : Ex H H') : RS K CO CC h b pn v N per zl zs F Gp cs os M H' :=
  ⟨W.g.ex e, Dp.ex e W.net, e _ _ W.nm, W.ob.ex e, fun x hx => W.fr x (fresh_back e hx), W.nh, W.nb, W.ph⟩
theorem RS.ex2 (W : RS K CO CC h b pn v N per zl zs F Gp cs os M H) (g : Gen H' h b) (e : Ex2 h b H H') : RS K CO CC h b pn v N per zl zs F Gp cs os M H' := by
  have t := W.g.tx e
  refine ⟨g, NetAt.tx t W.net, e _ _ W.nm W.ph.1 W.ph.2.1, W.ob.keep (fun x o gx hx => e x o hx (fun z => W.nh (z ▸ gx)) (fun z => W.nb (z ▸ gx))) t, fun x hx => ?_, W.nh, W.nb, W.ph⟩
  cases q : H x with
  | none => exact W.fr x q
  | some o =>
    by_cases h1 : x = h
    · exact absurd hx (by obtain ⟨m, c, ns, k1, k2, k3⟩ := g; rw [h1, k1]; simp)
    · by_cases h2 : x = b
      · exact absurd hx (by obtain ⟨m, c, ns, k1, k2, k3⟩ := g; rw [h2, k2]; simp)
      · rw [e x o q h1 h2] at hx; cases hx
theorem RS.but (W : RS K CO CC h b pn v N per zl zs F Gp cs os M H) (hL : H L = some (.lst xs)) (nL : ¬ Gp L) (hn : L ≠ h) (hb : L ≠ b) (hp : L ≠ pn) (e : ∀ x o, x ≠ L → H x = some o → H' x = some o) (h' : H' L ≠ none) : RS K CO CC h b pn v N per zl zs F Gp cs os M H' := by
  have t := TX.but hL e
  refine ⟨?_, NetAt.tx t W.net, e _ _ hp.symm W.nm, W.ob.keep (fun x o gx hx => e x o (fun z => nL (z ▸ gx)) hx) t, fun x hx => ?_, W.nh, W.nb, W.ph⟩
  · obtain ⟨m, c, ns, k1, k2, k3⟩ := W.g
    exact ⟨m, c, ns, e _ _ hn.symm k1, e _ _ hb.symm k2, k3⟩
  · cases q : H x with
    | none => exact W.fr x q
    | some o =>
      by_cases h1 : x = L
      · subst h1; exact absurd hx h'
      · rw [e x o h1 q] at hx; cases hx
theorem RS.new (W : RS K CO CC h b pn v N per zl zs F Gp cs os M H) (hL : H L = none) (e : Ex H H') (h' : H' L ≠ none) : RS K CO CC h b pn v N per zl zs F (fun x => Gp x ∧ x ≠ L) cs os M H' := by
  have W2 := W.ex e
  refine ⟨W2.g, W2.net, W2.nm, (W.ob.mono fun x o hx g => ⟨g, ne_of_none hx hL⟩).ex e, fun x hx => ⟨W2.fr x hx, fun z => h' (z ▸ hx)⟩, fun z => W.nh z.1, fun z => W.nb z.1, W.ph⟩
theorem RS.see (W : RS K CO CC h b pn v N per zl zs F Gp cs os M H) (e : But2 M.a M.ob H H') (hM : M'.a = M.a) (hO : M'.ob = M.ob) (ob : ObT K CO CC H' Gp N per zs cs' F os' M') : RS K CO CC h b pn v N per zl zs F Gp cs' os' M' H' := by
  obtain ⟨ts, ho, _⟩ := W.ob.ob.ex
  have t : TX H H' := fun x o hx c => by
    refine e x o (fun z => ?_) (fun z => ?_) hx
    · subst z; rw [W.ob.ins] at hx; cases hx; exact c
    · subst z; rw [ho] at hx; cases hx; exact c
  have hne : ∀ y, ¬ Gp y → y ≠ M.a ∧ y ≠ M.ob := fun y hy => ⟨fun z => hy (z ▸ W.ob.ga), fun z => hy (z ▸ W.ob.go)⟩
  refine ⟨?_, NetAt.tx t W.net, e _ _ W.ph.2.2.1 W.ph.2.2.2 W.nm, ob, fun x hx => ?_, W.nh, W.nb, by rw [hM, hO]; exact W.ph⟩
  · obtain ⟨m, c, ns, k1, k2, k3⟩ := W.g
    exact ⟨m, c, ns, e _ _ (hne h W.nh).1 (hne h W.nh).2 k1, e _ _ (hne b W.nb).1 (hne b W.nb).2 k2, k3⟩
  · cases q : H x with
    | none => exact W.fr x q
    | some o =>
      by_cases h1 : x = M.a
      · rw [h1]; exact W.ob.ga
      · by_cases h2 : x = M.ob
        · rw [h2]; exact W.ob.go
        · rw [e x o h1 h2 q] at hx; cases hx
end
section
variable {P : Program} {w : World} {K : PySem.W.Frag} {mg : Str → Option Value} {base : Heap}
abbrev s_law : Stmt := top 68
theorem sc_law : FnScope ["_law_script", "_law_h", "_law_network_here", "_law_k", "_law_other", "_law_observer", "_law_names", "_law_time", "_law_port", "_law_limit", "_law_largest", "_law_every", "_law_number", "_law_found", "_law_best", "_law_lengths", "_law_passenger"] ["_law_script"] (defScope s_law) := ⟨rfl, rfl, rfl, by decide +kernel, rfl, by decide +kernel, by decide +kernel⟩
def spLaw (K : PySem.W.Frag) : Sp := fun vs H Q _ => ∃ (a : Addr) (ns : List Int), vs = [.ref a] ∧ SqL K H a (ns.map V.int) ∧ ns.length ≤ 63 ∧ ∀ H', Q (.bl true) H'
theorem ok_law {CO CC CX f g1 g2 g3 g4 g5 g6 f1 f2 m1 m2 m3 m4 : Addr} {fd gd1 gd2 gd3 gd4 gd5 gd6 fd1 fd2 md1 md2 md3 md4 : FuncData} (F0 : Fun K "law" "law" s_law f fd) (T : Bt mg) (FO : OF K CO) (D_l_mix : Df K mg "_law_mix" s_l_mix ["_law_script", "_law_seed"] g1 gd1) (D_l_next : Df K mg "_law_next" s_l_next ["_law_h", "_law_limit"] g2 gd2)
    (D_l_network : Df K mg "_law_network" s_l_network ["_law_h", "_law_most"] g3 gd3) (G_l_network : FnOk P w K mg base CX0 3 g3 gd3 ["_law_h", "_law_most"] (spNetwork K)) (D_l_candidates : Df K mg "_law_candidates" s_l_candidates ["_law_network_here"] g4 gd4) (D_l_known : Df K mg "_law_known" s_l_known ["_law_network_here", "_law_lengths", "_law_port", "_law_number"] g5 gd5) (G_l_known : FnOk P w K mg base CX0 24 g5 gd5 ["_law_network_here", "_law_lengths", "_law_port", "_law_number"] (spKnown K))
    (D_l_alike : Df K mg "_law_alike" s_l_alike ["_law_found", "_law_due"] g6 gd6) (D_ports : Df K mg "ports" s_ports ["network"] f1 fd1) (G_ports : FnOk P w K mg base CX0 6 f1 fd1 ["network"] (spPorts K)) (C_Observer : Cf K mg "Observer" "Observer.__init__" CO s_Observer___init ["self", "network"] f2 fd2) (G_Observer : FnOk P w K mg base CX0 22 f2 fd2 ["self", "network"] (spObI K CO CC))
    (M_candidates : Mf K CO "candidates" "Observer.candidates" s_Observer_candidates ["self"] m1 md1) (G_candidates : FnOk P w K mg base CX0 1 m1 md1 ["self"] (spCand K CO CC)) (M_possible_finishers : Mf K CO "possible_finishers" "Observer.possible_finishers" s_Observer_possible_finishers ["self", "port", "number"] m2 md2) (G_possible_finishers : FnOk P w K mg base CX0 4 m2 md2 ["self", "port", "number"] (spPoss K CO CC))
    (M_best_number : Mf K CO "best_number" "Observer.best_number" s_Observer_best_number ["self", "port", "limit"] m3 md3) (G_best_number : FnOk P w K mg base CX0 5 m3 md3 ["self", "port", "limit"] (spBest K CO CC)) (M_see_finisher : Mf K CO "see_finisher" "Observer.see_finisher" s_Observer_see_finisher ["self", "port", "number", "passenger"] m4 md4) (G_see_finisher : FnOk P w K mg base (L2.CX P w) 4 m4 md4 ["self", "port", "number", "passenger"] (spSeeF K CO CC CX)) : FnOk P w K mg base CX0 25 f fd ["_law_script"] (spLaw K) := by
  have G_l_mix : FnOk P w K mg base CX0 1 g1 gd1 _ _ := ok_l_mix D_l_mix T
  have G_l_next : FnOk P w K mg base CX0 1 g2 gd2 _ _ := ok_l_next D_l_next T
  have G_l_alike : FnOk P w K mg base CX0 4 g6 gd6 _ _ := ok_l_alike D_l_alike T 4
  have G_l_candidates : FnOk P w K mg base CX0 1 g4 gd4 _ _ := ok_l_candidates D_l_candidates T
  refine F0.ok sc_law (fun vs H Q E h => ?_) (fun cdv A outer s H vs Q E hr h => ?_)
  · obtain ⟨a, ns, rfl, _⟩ := h
    rfl
  · obtain ⟨a, ns, rfl, hS, hl, q⟩ := h
    have hu := hr.units
    have hu1 := hu_of hr
    refine ⟨_, (pss_cons (ps_set (i := 1) sc_law.nd rfl (Or.inl rfl) (pe_call (G_l_mix) (hr.mono (by decide)) rfl D_l_mix.g D_l_mix.F.kp D_l_mix.b .nil pass0 (pa_cons (pv 0) (pa_cons pe_int pa_nil))))
      (pss_cons (ps_set (i := 2) sc_law.nd rfl (Or.inr rfl) (pe_tup (pa_cons (pe_tup (pa_cons pe_int (pa_cons pe_str pa_nil))) (pa_cons (pe_tup (pa_cons pe_str (pa_cons pe_int (pa_cons pe_str pa_nil)))) (pa_cons (pe_tup (pa_cons pe_str (pa_cons pe_str pa_nil))) pa_nil)))))
      (pss_cons (ps_for PassesOwn.never rfl (pi_range1 (by rfl) T.b_range (pa_cons pe_int pa_nil)) (pg_name (i := 3) sc_law.nd rfl (Or.inl rfl)) (pss_cons (ps_set (i := 4) sc_law.nd rfl (Or.inl rfl) (pe_call (G_l_network) (hr.mono (by decide)) rfl D_l_network.g D_l_network.F.kp D_l_network.b .nil pass0 (pa_cons (pv 1) (pa_cons pe_int pa_nil))))
      (pss_one (ps_set (i := 2) sc_law.nd rfl (Or.inr rfl) (pe_ifExp (pt_cmpR (op_leU) (pe_call (G_l_candidates) (hr.mono (by decide)) rfl D_l_candidates.g D_l_candidates.F.kp D_l_candidates.b .nil pass0 (pa_cons (pv 4) pa_nil)) pe_int (nomark _)) (pv 4) (pv 2))))))
      (pss_cons (ps_par (i := 5) (j := 6) (by rfl) sc_law.nd rfl rfl (by decide) rfl rfl (pa_cons (pe_make C_Observer.mkK (G_Observer) (hr.mono (by decide)) rfl C_Observer.g C_Observer.b .nil pass0 (pa_cons (pv 2) pa_nil)) (pa_cons (pe_call (G_ports) (hr.mono (by decide)) rfl D_ports.g D_ports.F.kp D_ports.b .nil pass0 (pa_cons (pv 2) pa_nil)) pa_nil)) (by rfl))
      (pss_cons (ps_for PassesOwn.never rfl (pi_range1 (by rfl) T.b_range (pa_cons pe_int pa_nil)) (pg_name (i := 7) sc_law.nd rfl (Or.inl rfl)) (pss_cons (ps_asg (pe_tup (pa_cons (pe_ix (ix_U (K := K)) (pv 6) (pe_call (G_l_next) (hr.mono (by decide)) rfl D_l_next.g D_l_next.F.kp D_l_next.b .nil pass0 (pa_cons (pv 1) (pa_cons (pe_callB (call_lenU (K := K)) (by rfl) T.b_len (by decide +kernel) (pa_cons (pv 6) pa_nil)) pa_nil))) (fun _ _ => rfl)) (pa_cons (pe_op (op_addU (K := K)) pe_int (pe_call (G_l_next) (hr.mono (by decide)) rfl D_l_next.g D_l_next.F.kp D_l_next.b .nil pass0 (pa_cons (pv 1) (pa_cons (pe_ix (ix_U (K := K)) (pe_lst (pa_cons pe_int (pa_cons pe_int pa_nil))) (pe_call (G_l_next) (hr.mono (by decide)) rfl D_l_next.g D_l_next.F.kp D_l_next.b .nil pass0 (pa_cons (pv 1) (pa_cons pe_int pa_nil))) (fun _ _ => rfl)) pa_nil)))) pa_nil))) (pg_tup rfl (pgs_cons (pg_name (i := 8) sc_law.nd rfl (Or.inr rfl)) (pgs_cons (pg_name (i := 9) sc_law.nd rfl (Or.inl rfl)) pgs_nil))))
      (pss_cons (ps_par (i := 10) (j := 11) (by rfl) sc_law.nd rfl rfl (by decide) rfl rfl (pa_cons (pe_lst pa_nil) (pa_cons (pe_meth0 (pv 5) FO.c M_candidates.m (G_candidates) (hr.mono (by decide)) M_candidates.b .nil pass0) pa_nil)) (by rfl))
      (pss_cons (ps_for PassesOwn.never rfl (pi_range2 (by rfl) T.b_range (pa_cons pe_int (pa_cons (pe_op (op_addU (K := K)) (pv 9) pe_int) pa_nil))) (pg_name (i := 12) sc_law.nd rfl (Or.inr rfl)) (pss_cons (ps_set (i := 13) sc_law.nd rfl (Or.inr rfl) (pe_lc (own := [("_law_lengths", 15)]) (g := gName 15) (tt := tYes) rfl sc_law.nd (pi_U (K := K) (pv 11)) (blkOk_by (own := [("_law_lengths", 15)]) (N := ["_law_script", "_law_h", "_law_network_here", "_law_k", "_law_other", "_law_observer", "_law_names", "_law_time", "_law_port", "_law_limit", "_law_largest", "_law_every", "_law_number", "_law_found", "_law_best", "_law_lengths", "_law_passenger"]) (sc := defScope s_law) (by decide +kernel)) (fun _ _ _ _ _ => (pg_name (i := 15) sc_law.nd rfl (Or.inl rfl))) (fun _ _ _ _ _ => pts_nil) (fun _ _ _ _ _ => (pe_call (G_l_known) (hr.mono (by decide)) rfl D_l_known.g D_l_known.F.kp D_l_known.b .nil pass0 (pa_cons (pv 2) (pa_cons (pv 15) (pa_cons (pv 8) (pa_cons (pv 12) pa_nil))))))))
      (pss_cons (ps_expr (pe_bm PySem.F.plainAttrs_list PySem.F.slot_list_append PySem.F.type_list_append mt_append (pv 10) (pa_cons (pe_callB (cr_max rfl) (by rfl) T.b_max (by decide +kernel) (pa_cons (pe_lc (own := [("_law_passenger", 16)]) (g := gName 16) (tt := tYes) rfl sc_law.nd (pi_U (K := K) (pv 13)) (blkOk_by (own := [("_law_passenger", 16)]) (N := ["_law_script", "_law_h", "_law_network_here", "_law_k", "_law_other", "_law_observer", "_law_names", "_law_time", "_law_port", "_law_limit", "_law_largest", "_law_every", "_law_number", "_law_found", "_law_best", "_law_lengths", "_law_passenger"]) (sc := defScope s_law) (by decide +kernel)) (fun _ _ _ _ _ => (pg_name (i := 16) sc_law.nd rfl (Or.inl rfl))) (fun _ _ _ _ _ => pts_nil) (fun _ _ _ _ _ => (pe_toK (K := K) (pe_bm PySem.F.plainAttrs_list PySem.F.slot_list_count PySem.F.type_list_count (mt_countFK (K := K)) (pv 13) (pa_cons (pv 16) pa_nil))))) pa_nil)) pa_nil)))
      (pss_one (ps_if (pt_not (pt_val (pe_call (G_l_alike) (hr.mono (by decide)) rfl D_l_alike.g D_l_alike.F.kp D_l_alike.b .nil pass0 (pa_cons (pe_meth (pv 5) FO.c M_possible_finishers.m (G_possible_finishers) (hr.mono (by decide)) M_possible_finishers.b .nil pass0 (pa_cons (pv 8) (pa_cons (pv 12) pa_nil))) (pa_cons (pe_callB (call_sortM (P := P) (w := w) rfl) (by rfl) T.b_sorted (by decide +kernel) (pa_cons (pe_callTy (call_setL (K := K) (P := P) (w := w) rfl) (by rfl) T.b_set (by decide +kernel) (pa_cons (pv 13) pa_nil)) pa_nil)) pa_nil))))) (pss_one (ps_ret pe_bl)) pss_nil)))))
      (pss_cons (ps_set (i := 14) sc_law.nd rfl (Or.inl rfl) (pe_meth (pv 5) FO.c M_best_number.m (G_best_number) (hr.mono (by decide)) M_best_number.b .nil pass0 (pa_cons (pv 8) (pa_cons (pv 9) pa_nil))))
      (pss_cons (ps_if (pt_not (pt_val (pe_call (G_l_alike) (hr.mono (by decide)) rfl D_l_alike.g D_l_alike.F.kp D_l_alike.b .nil pass0 (pa_cons (pv 14) (pa_cons (pe_op (op_addU (K := K)) (pe_bm PySem.F.plainAttrs_list PySem.F.slot_list_index PySem.F.type_list_index mt_index (pv 10) (pa_cons (pe_callB (cr_min rfl) (by rfl) T.b_min (by decide +kernel) (pa_cons (pv 10) pa_nil)) pa_nil)) pe_int) pa_nil))))) (pss_one (ps_ret pe_bl)) pss_nil)
      (pss_cons (ps_set (i := 13) sc_law.nd rfl (Or.inr rfl) (pe_meth (pv 5) FO.c M_possible_finishers.m (G_possible_finishers) (hr.mono (by decide)) M_possible_finishers.b .nil pass0 (pa_cons (pv 8) (pa_cons (pv 14) pa_nil))))
      (pss_one (ps_if (pt_cmpR (op_gtU) (pe_meth (E := fun _ _ _ => False) (pv 5) FO.c M_see_finisher.m (G_see_finisher) (hr.mono (by decide)) M_see_finisher.b .nil (passes_call L2.takes0 fun _ _ _ _ h => h) (pa_cons (pv 8) (pa_cons (pv 14) (pa_cons (pe_ix (ix_U (K := K)) (pv 13) (pe_call (G_l_next) (hr.mono (by decide)) rfl D_l_next.g D_l_next.F.kp D_l_next.b .nil pass0 (pa_cons (pv 1) (pa_cons (pe_callB (call_lenU (K := K)) (by rfl) T.b_len (by decide +kernel) (pa_cons (pv 13) pa_nil)) pa_nil))) (fun _ _ => rfl)) pa_nil)))) (pe_callB (cr_min rfl) (by rfl) T.b_min (by decide +kernel) (pa_cons (pv 10) pa_nil)) (nomark _)) (pss_one (ps_ret pe_bl)) pss_nil)))))))))
      (pss_one (ps_ret pe_bl))))))), ?_⟩
    walk_at "run"
    refine ⟨a, ns, 15, rfl, hS, hl, fun h b H1 e1 _ _ g1 => ?_⟩
    walk_at "run"
    refine x_tup (by simp) fun p1 H2 n2 e2 h2 => x_tup (by simp) fun p2 H3 n3 e3 h3 => x_tup (by simp) fun p3 H4 n4 e4 h4 => x_tup (by simp) fun p4 H5 n5 e5 h5 => ?_
    have hN0 : NetAt K H5 (.ref p4) N15 := .tup (SqT.of h5) (.cons (.tup (SqT.of (e5 _ _ (e4 _ _ (e3 _ _ h2)))) (.cons (.int _) (.cons (.str _) .nil))) (.cons (.tup (SqT.of (e5 _ _ (e4 _ _ h3))) (.cons (.str _) (.cons (.int _) (.cons (.str _) .nil)))) (.cons (.tup (SqT.of (e5 _ _ h4)) (.cons (.str _) (.cons (.str _) .nil))) .nil)))
    have g5 : Gen H5 h b := (((g1.ex e2).ex e3).ex e4).ex e5
    refine ⟨8, rfl, by decide, by decide, loop_it walk_range (fun i σ H' => ∃ u3 u4 v N, σ = [some (.ref a), some (.ref h), some v, u3, u4, none, none, none, none, none, none, none, none, none, none, none, none] ∧ Gen H' h b ∧ NetAt K H' v N ∧ ValidN N ∧ N.length ≤ 4 ∧ prodN N N.length ≤ 24) ⟨_, _, _, N15, rfl, g5, hN0, n15_valid, by decide, by rw [n15_prod]; decide⟩ (fun _ _ _ _ _ => trivial) ?_ ?_⟩
    · rintro i x σ H6 H6' hi ⟨u3, u4, v, N, rfl, g6, hN, hV, hN4, hp⟩ ⟨eH, rfl⟩
      subst eH
      walk_at "run"
      refine ⟨h, b, 4, rfl, g6, by decide, by decide, fun v2 N2 H7 hD hN2 g7 e7 => ?_⟩
      have hV2 : ValidN N2 := hD.valid (by decide)
      have h42 : N2.length ≤ 4 := by have := hD.le; omega
      walk_at "run"
      refine ⟨v2, N2, rfl, hN2, hV2, by omega, fun H8 e8 => ?_⟩
      walk_at "run"
      by_cases hc : (prodN N2 N2.length : Int) ≤ 24
      · rw [if_pos hc]
        exact ⟨_, _, v2, N2, rfl, g7.ex e8, Dp.ex e8 hN2, hV2, h42, by omega⟩
      · rw [if_neg hc]
        exact ⟨_, _, v, N, rfl, g7.ex e8, Dp.ex e8 (NetAt.tx (g6.tx e7) hN), hV, hN4, hp⟩
    · rintro σ H6 ⟨u3, u4, v, N, rfl, g6, hN, hV, hN4, hp⟩
      clear hN0 g5 h5 h4 h3 h2 e5 e4 e3 e2 n5 n4 n3 n2
      have h8 : N.length ≤ 8 := Nat.le_trans hN4 (by decide)
      have hcl := cand_all (N := N)
      have hpp := perN_pos (N := N) N.length
      have hpd : perN N N.length ≤ 24 := Nat.le_trans (Nat.le_of_dvd (prodN_pos hV.fwr (Nat.le_refl _)) (perN_dvd hV.fwr (Nat.le_refl _))) hp
      walk_at "run"
      refine x_make fun oa dx H7 noa e7 hoa => ⟨oa, dx, v, N, rfl, hoa, Dp.ex e7 hN, hV, h8, by omega, by omega, fun H8 M zs hM e8 hP OB => ⟨rfl, ?_⟩⟩
      obtain ⟨W, _, hs⟩ := phF_ok hV h8 (Nat.dvd_refl _) hpp (cs := candN N) (F := fun _ => none) (fun l S ph z => by cases z) fun c hc => cand_lens hc
      generalize hF : phF N (perN N N.length) (fun _ => none) (candN N) = F at W hs OB
      walk_at "run"
      subst hM
      have hN8 : NetAt K H8 v N := by
        refine NetAt.tx (fun x o hx c => ?_) hN
        have := e7 _ _ hx
        exact e8 _ _ (fun z => by rw [z] at hx; rw [noa] at hx; cases hx) this
      have hne : ∀ x o, H6 x = some o → x ≠ M.a := fun x o hx z => by rw [z, noa] at hx; cases hx
      have g8 : Gen H8 h b := by
        obtain ⟨m, c, ns, k1, k2, k3⟩ := g6
        exact ⟨m, c, ns, e8 _ _ (hne _ _ k1) (e7 _ _ k1), e8 _ _ (hne _ _ k2) (e7 _ _ k2), k3⟩
      refine ⟨v, N, rfl, hN8, hV, fun H9 pn zl e9 npn hpn hP2 => ?_⟩
      walk_at "run"
      obtain ⟨z0', hz0⟩ := nms_some hV h8
      have hzl : 0 < zl.length := List.length_pos_of_mem ((hP2.2.2 z0').mpr hz0)
      have R9 : RS K CO CC h b pn v N (perN N N.length) zl zs F (fun x => x = M.a ∨ H7 x = none) (candN N) [] M H9 := by
        have OB9 := OB.ex e9
        obtain ⟨ts, ho, _⟩ := OB.ob.ex
        have hh : ∀ x o, H6 x = some o → ¬ (x = M.a ∨ H7 x = none) := fun x o hx z => by
          rcases z with z | z
          · exact hne x o hx z
          · rw [e7 _ _ hx] at z; cases z
        have npx : ∀ x o, H8 x = some o → pn ≠ x := fun x o hx z => by rw [← z, npn] at hx; cases hx
        obtain ⟨m, c, ns, k1, k2, k3⟩ := id g8
        refine ⟨g8.ex e9, Dp.ex e9 hN8, hpn, OB9, fun x hx => ?_, ?_, ?_, ⟨npx _ _ k1, npx _ _ k2, npx _ _ OB.ins, npx _ _ ho⟩⟩
        · by_cases g : x = M.a
          · exact .inl g
          · refine .inr ?_
            cases q : H7 x with
            | none => rfl
            | some o => rw [e9 _ _ (e8 _ _ g q)] at hx; cases hx
        · obtain ⟨m, c, ns, k1, k2, k3⟩ := g6
          exact hh _ _ k1
        · obtain ⟨m, c, ns, k1, k2, k3⟩ := g6
          exact hh _ _ k2
      generalize (fun x => x = M.a ∨ H7 x = none) = Gp at R9
      clear OB hN8 hne g8 hN g6 hpn npn e9 e8 e7 noa hoa
      refine ⟨_, _, rfl, 3, rfl, by decide, by decide, loop_it walk_range (fun i σ H' => ∃ u7 u8 u9 u10 u11 u12 u13 u14 u15 u16 Gp cs os M', σ = [some (.ref a), some (.ref h), some v, u3, u4, some (.ref M'.a), some (.ref pn), u7, u8, u9, u10, u11, u12, u13, u14, u15, u16] ∧ RS K CO CC h b pn v N (perN N N.length) zl zs F Gp cs os M' H' ∧ cs ≠ [] ∧ cs.length ≤ 24 ∧ (∀ c ∈ cs, c ∈ candN N) ∧ os.length ≤ i) ⟨_, _, _, _, _, _, _, _, _, _, Gp, candN N, [], M, rfl, R9, ?_, by omega, fun _ h => h, by simp⟩ (fun _ _ _ _ _ => trivial) ?_ ?_⟩
      · intro z
        rw [z] at hcl
        have := prodN_pos hV.fwr (Nat.le_refl N.length)
        simp at hcl
        omega
      · rintro i x σ H10 H10' hi ⟨u7, u8, u9, u10, u11, u12, u13, u14, u15, u16, Gp, cs, os, M1, rfl, R, hcs, hc24, hcc, hos⟩ ⟨eH, rfl⟩
        subst eH
        clear R9
        walk_at "run"
        have hzl2 : zl.length ≤ 400 := by
          have h1 := nms_len hV.len8 N.length
          have h2 : zl.length ≤ (nms N N.length).length := hP2.2.1.length_le_of_subset fun z hz => (hP2.2.2 z).mp hz
          omega
        refine x_lenL (SqL.of R.nm) ?_
        rw [List.length_map]
        refine x_next R.g (by omega) (by omega) fun r1 H11 r10 r11 g11 e11 => ?_
        have R11 := R.ex2 g11 e11
        refine x_menu R11.nm r10 (by rw [List.length_map]; exact r11) fun vz _ hvz => ?_
        obtain ⟨z, hz, rfl⟩ := List.mem_map.mp hvz
        refine x_lst (by simp) fun mn H12 nmn e12 hmn => ?_
        have R12 := R11.ex e12
        refine x_next R12.g (by decide) (by decide) fun r2 H13 r20 r21 g13 e13 => ?_
        have R13 := R12.ex2 g13 e13
        refine x_menu (e13 _ _ hmn (R11.g.na nmn) (R11.g.nb nmn)) r20 (by simpa using r21) fun mv _ hmv => ?_
        obtain ⟨l0, rfl, l1, l2⟩ : ∃ c : Int, mv = .int c ∧ 1 ≤ c ∧ c ≤ 20 := by
          simp only [List.mem_cons, List.not_mem_nil, or_false] at hmv
          rcases hmv with rfl | rfl
          · exact ⟨_, rfl, by decide, by decide⟩
          · exact ⟨_, rfl, by decide, by decide⟩
        refine x_next R13.g (by omega) (by omega) fun r3 H14 r30 r31 g14 e14 => ?_
        have R14 := R13.ex2 g14 e14
        obtain ⟨lim, hlim⟩ : ∃ lim : Nat, 1 + r3 = (lim : Int) := ⟨(1 + r3).toNat, by omega⟩
        have lim1 : 1 ≤ lim := by omega
        have lim2 : lim ≤ 20 := by omega
        walk_at "run"
        rw [hlim]
        refine x_tup (by simp) fun pt H15 npt e15 hpt => ?_
        have R15 := R14.ex e15
        refine x_two (SqT.of hpt) ?_
        walk_at "run"
        refine x_lst (by simp) fun L H16 nL e16 hL => ?_
        have R16 := R15.new nL e16 (by rw [hL]; simp)
        have hLn : L ≠ h ∧ L ≠ b ∧ L ≠ pn := ⟨R15.g.na nL, R15.g.nb nL, fun z => ne_of_none R15.nm nL z.symm⟩
        have nL' : ¬ (Gp L ∧ L ≠ L) := fun z => z.2 rfl
        generalize hG : (fun x => Gp x ∧ x ≠ L) = Gq at R16
        have nLq : ¬ Gq L := by rw [← hG]; exact nL'
        clear R R11 R12 R13 R14 R15 e11 e12 e13 e14 e15 e16 hmn hpt hmv hvz g11 g13 g14 nL nmn npt
        walk_at "run"
        refine x_meth R16.ob.ins (ob_no (by decide +kernel) (by decide +kernel) (by decide +kernel) (by decide +kernel) (by decide +kernel)) ?_
        refine ⟨Gq, N, perN N N.length, zs, cs, F, os, M1, rfl, R16.ob, fun H17 ev e17 nev hev => ?_⟩
        have R17 := R16.ex e17
        have hL17 := e17 _ _ hL
        have hLe : ev ≠ L := fun z => by rw [z, hL] at nev; cases nev
        have hzn : z ∈ nms N N.length := (hP2.2.2 z).mp hz
        have hzs : z ∈ zs := (hP.2.2 z).mpr hzn
        have hcL : ∀ c ∈ cs, Lens N c := fun c hc => cand_lens (hcc c hc)
        have hask : ∀ n : Nat, 1 ≤ n → n ≤ 1000000 → AskOk (perN N N.length) zs cs F z (n : Int) := fun n n1 n2 => ask_ok hV h8 (Nat.dvd_refl _) hpp W (fun c hc => hs c (hcc c hc)) (by omega) (by omega) hP hzs n1 n2
        walk_at "run"
        refine ⟨_, _, rfl, 1, (lim : Int) + 1, rfl, ⟨by decide, by decide, by omega, by omega⟩, ?_⟩
        have elim : ((lim : Int) + 1 - 1).toNat = lim := by omega
        rw [elim]
        refine loop_it walk_range (fun k σ H' => ∃ u12 u13 u15 u16, σ = [some (.ref a), some (.ref h), some v, u3, u4, some (.ref M1.a), some (.ref pn), some (.int (0 + (i : Nat))), some (.str z), some (.int (lim : Int)), some (.ref L), some (.ref ev), u12, u13, u14, u15, u16] ∧ RS K CO CC h b pn v N (perN N N.length) zl zs F Gq cs os M1 H' ∧ RawL H' ev cs ∧ ∃ ms : List Int, H' L = some (.lst (ms.map V.int)) ∧ ms.length = k ∧ ∀ (j : Nat) (m : Int), ms[j]? = some m → Most (cs.map (finF F (perN N N.length) (.inr z) ((j : Int) + 1))) m) ⟨_, _, _, _, rfl, R17, hev, [], hL17, rfl, fun j m g => by simp at g⟩ (fun _ _ _ _ _ => trivial) ?_ ?_
        · rintro k x σ H20 H20' hk ⟨u12, u13, u15, u16, rfl, R20, hev20, ms, hms, hml, hmo⟩ ⟨eH, rfl⟩
          subst eH
          clear R16 R17 hL hL17 e17 hev nev
          obtain ⟨n, hn⟩ : ∃ n : Nat, n = k + 1 := ⟨_, rfl⟩
          have en : (1 : Int) + (k : Nat) = (n : Int) := by omega
          walk_at "run"
          rw [en]
          obtain ⟨ts, w1, w2, w3⟩ := hev20.ex
          refine x_itL (SqL.of w1) (lcl_it walk_list (fun D k H' => Ex H20' H' ∧ H' D = some (.lst (((cs.take k).map (finF F (perN N N.length) (.inr z) (n : Int))).map V.int))) (fun D H' hD e h => ⟨e, h⟩) (fun D i H' _ h => SqL.of (h.1 _ _ w1)) ?_ ?_)
          · rintro D k' y H0 H2 hD hk' ⟨e2, hl2⟩ ⟨eH, hy⟩
            subst eH
            obtain ⟨t, ht, rfl⟩ : ∃ t, ts[k']? = some t ∧ V.ref t = y := by simpa using hy
            have hic : k' < cs.length := by rw [← w2]; exact (List.getElem?_eq_some_iff.mp ht).1
            obtain ⟨c, hc⟩ : ∃ c, cs[k']? = some c := ⟨_, List.getElem?_eq_getElem hic⟩
            have hcm : c ∈ cs := List.mem_of_getElem? hc
            walk_at "run"
            refine ⟨v, N, t, c, z, n, rfl, Dp.ex e2 R20.net, hV, h8, e2 _ _ (w3 _ _ _ ht hc), hcL c hcm, by omega, hzn, by omega, by omega, fun H3 x e3 hx => ?_⟩
            have ex := fin_one hx (fin_val hV h8 (Nat.dvd_refl _) hpp W (hs c (hcc c hcm)) hzn (by omega)).2
            subst ex
            refine x_push (e3 _ _ hl2) (by simp; omega) fun H4 e4 h4 => ⟨fun o u g => e4 _ _ (ne_of_none g hD) (e3 _ _ (e2 _ _ g)), ?_⟩
            rw [h4, List.take_add_one, hc, List.map_append, List.map_append]
            rfl
          · rintro D H21 hD ⟨e21, hl21⟩
            have e : cs.take (ts.map V.ref).length = cs := by rw [List.length_map, w2, List.take_length]
            rw [e] at hl21
            generalize hW : cs.map (finF F (perN N N.length) (.inr z) (n : Int)) = Wn at hl21
            walk_at "run"
            have hWl : Wn.length = cs.length := by rw [← hW, List.length_map]
            have hc0 : 0 < cs.length := List.length_pos_iff.mpr hcs
            have hL21 := e21 _ _ hms
            refine ⟨x_tyL (SqL.of hL21), ?_⟩
            refine x_itL (SqL.of hl21) (lcl_it walk_list (fun D2 k' H' => Ex H21 H' ∧ H' D2 = some (.lst (((Wn.take k').map fun x => (Wn.count x : Int)).map V.int))) (fun D2 H' hD e h => ⟨e, h⟩) (fun D2 i H' _ h => SqL.of (h.1 _ _ hl21)) ?_ ?_)
            · rintro D2 k' y H0 H2 hD2 hk' ⟨e2, hl2⟩ ⟨eH, hy⟩
              subst eH
              obtain ⟨x0, hx0, rfl⟩ : ∃ x0, Wn[k']? = some x0 ∧ V.int x0 = y := by simpa using hy
              have hkl := (List.getElem?_eq_some_iff.mp hx0).1
              walk_at "run"
              refine ⟨x_tyL (SqL.of (e2 _ _ hl21)), x_cntF (SqL.of (e2 _ _ hl21)) ?_⟩
              refine x_push hl2 (by simp; omega) fun H4 e4 h4 => ⟨fun o u g => e4 _ _ (ne_of_none g hD2) (e2 _ _ g), ?_⟩
              rw [h4, List.take_add_one, hx0, List.map_append, List.map_append]
              rfl
            · rintro D2 H22 hD2 ⟨e22, hl22⟩
              rw [List.length_map, List.take_length] at hl22
              refine x_maxL (SqL.of hl22) (by rw [List.length_map]; omega) fun m hm hle => ?_
              have hmost := most_of hm hle
              have e02 := e21.trans e22
              have hL22 := e02 _ _ hms
              have R22 := R20.ex e02
              refine x_append hL22 (by rw [List.length_map]; omega) fun H23 e23 h23 => ?_
              have R23 := R22.but hL22 nLq hLn.1 hLn.2.1 hLn.2.2 e23 (by rw [h23]; simp)
              have hev22 := hev20.tx (TX.of e02) fun o ho => e02 _ _ ho
              have hev23 := hev22.tx (TX.but hL22 e23) fun o ho => e23 _ _ hLe ho
              have hDL : D ≠ L := fun z => by rw [z, hms] at hD; cases hD
              have hD23 := e23 _ _ hDL (e22 _ _ hl21)
              refine x_meth R23.ob.ins (ob_no (by decide +kernel) (by decide +kernel) (by decide +kernel) (by decide +kernel) (by decide +kernel)) ?_
              refine ⟨Gq, N, perN N N.length, zs, cs, F, os, M1, z, (n : Int), rfl, R23.ob, hask n (by omega) (by omega), fun H24 l ys e24 nl hl24 pw mem => ?_⟩
              have hD24 := e24 _ _ hD23
              refine x_setOfL (ks := Wn.map (Sum.inl : Int → Key)) (by rw [map_key]; exact SqL.of hD24) (by rw [List.length_map]; omega) fun q1 S1 m1 H25 _ e25 h25 hm1 hS1 => ?_
              rw [List.length_map] at hm1
              refine x_sortMI h25 (by omega) (fun k hk => ?_) fun ys2 q2 H26 pw2 mem2 _ n26 e26 h26 => ?_
              · obtain ⟨x, _, hx⟩ := List.mem_map.mp ((hS1 k).mp hk)
                exact ⟨x, hx.symm⟩
              · have hyy : ys = ys2 := lt_ext pw pw2 fun y => by
                  rw [mem, mem2, hS1, List.mem_map]
                  constructor
                  · rintro ⟨c, hc, he⟩
                    exact ⟨y, by rw [← hW]; exact List.mem_map.mpr ⟨c, hc, he⟩, rfl⟩
                  · rintro ⟨x, hx, he⟩
                    rw [← hW] at hx
                    obtain ⟨c, hc, he2⟩ := List.mem_map.mp hx
                    exact ⟨c, hc, he2.trans (Sum.inl.inj he)⟩
                subst hyy
                have hnd : ys.Nodup := pw.imp fun h => Int.ne_of_lt h
                have hyl : ys.length ≤ Wn.length := hnd.length_le_of_subset fun y hy => by
                  obtain ⟨c, hc, he⟩ := (mem y).mp hy
                  rw [← hW]
                  exact List.mem_map.mpr ⟨c, hc, he⟩
                have e246 := e25.trans e26
                refine ⟨.ref l, .ref q2, .list (ys.map PyData.int), rfl, .lst (SqL.of (e246 _ _ hl24)) (ints_dp ys), .lst (SqL.of h26) (ints_dp ys), (shaped_ints ys).1, (shaped_ints ys).2, sm_ints (by omega), fun H27 e27 => ⟨true, rfl, ?_⟩⟩
                rw [if_neg (by decide)]
                have e237 := (e24.trans e246).trans e27
                refine ⟨_, _, _, _, rfl, R23.ex e237, hev23.tx (TX.of e237) fun o ho => e237 _ _ ho, ms ++ [m], ?_, by rw [List.length_append, hml]; rfl, fun j m' hj => ?_⟩
                · rw [e237 _ _ h23, List.map_append]; rfl
                · by_cases hjk : j < ms.length
                  · rw [List.getElem?_append_left hjk] at hj
                    exact hmo j m' hj
                  · have hjl := (List.getElem?_eq_some_iff.mp hj).1
                    rw [List.length_append, List.length_singleton] at hjl
                    have hjj : j = ms.length := by omega
                    subst hjj
                    rw [List.getElem?_append_right (Nat.le_refl _), Nat.sub_self] at hj
                    have hj : m = m' := by simpa using hj
                    subst hj
                    rw [show ((ms.length : Nat) : Int) + 1 = (n : Int) by omega, hW]
                    exact hmost
        · rintro σ H30 ⟨u12, u13, u15, u16, rfl, R30, hev30, ms, hms, hml, hmo⟩
          clear R16 R17 hL hL17 e17 hev nev
          walk_at "run"
          refine x_meth R30.ob.ins (ob_no (by decide +kernel) (by decide +kernel) (by decide +kernel) (by decide +kernel) (by decide +kernel)) ?_
          refine ⟨Gq, N, perN N N.length, zs, cs, F, os, M1, z, lim, rfl, R30.ob, fun y y1 y2 => ?_, hcs, lim1, by omega, fun H31 ms2 i0 e31 hm2l hm2 hi0 hmin hfirst => ?_⟩
          · obtain ⟨y', rfl⟩ : ∃ y' : Nat, y = (y' : Int) := ⟨y.toNat, by omega⟩
            exact hask y' (by omega) (by omega)
          have hmm : ms2 = ms := List.ext_getElem? fun j => by
            by_cases hj : j < lim
            · have a1 := List.getElem?_eq_getElem (l := ms2) (i := j) (by omega)
              have a2 := List.getElem?_eq_getElem (l := ms) (i := j) (by omega)
              rw [a1, a2]
              exact congrArg some ((hm2 j _ a1).one (hmo j _ a2))
            · rw [List.getElem?_eq_none (by omega), List.getElem?_eq_none (by omega)]
          subst hmm
          have hL31 := e31 _ _ hms
          have R31 := R30.ex e31
          have hgi : ms2[i0]? = some (ms2.getD i0 0) := by rw [List.getD_eq_getElem?_getD, List.getElem?_eq_getElem hi0]; rfl
          have least : ∀ mm, mm ∈ ms2 → (∀ y, y ∈ ms2 → mm ≤ y) → mm = ms2.getD i0 0 := fun mm h1 h2 => by
            obtain ⟨j, hj, rfl⟩ := List.mem_iff_getElem.mp h1
            have a1 := hmin j hj
            have a2 := h2 (ms2.getD i0 0) (List.mem_of_getElem? hgi)
            have a3 : ms2.getD j 0 = ms2[j] := by rw [List.getD_eq_getElem?_getD, List.getElem?_eq_getElem hj]; rfl
            omega
          walk_at "run"
          refine ⟨x_tyL (SqL.of hL31), x_minL (SqL.of hL31) (by omega) fun mm hmm1 hmm2 => ?_⟩
          have hmg := least mm hmm1 hmm2
          subst hmg
          refine x_idxI (SqL.of hL31) hgi (fun j hj hz => ?_) ?_
          · have := hfirst j hj
            have e3 : ms2.getD j 0 = ms2.getD i0 0 := by rw [List.getD_eq_getElem?_getD, hz]; rfl
            omega
          walk_at "run"
          refine ⟨_, _, .int ((i0 : Int) + 1), rfl, .int _, .int _, rfl, by simp [PyData.depth], .int _, fun H32 e32 => ⟨true, rfl, ?_⟩⟩
          rw [if_neg (by decide)]
          walk_at "run"
          obtain ⟨n, hn⟩ : ∃ n : Nat, (i0 : Int) + 1 = (n : Int) := ⟨i0 + 1, by omega⟩
          have hmo2 := hm2 i0 _ hgi
          rw [hn] at hmo2 ⊢
          have R32 := R31.ex e32
          have hL32 := e32 _ _ hL31
          have hc0 : 0 < cs.length := List.length_pos_iff.mpr hcs
          have hak := hask n (by omega) (by omega)
          refine x_meth R32.ob.ins (ob_no (by decide +kernel) (by decide +kernel) (by decide +kernel) (by decide +kernel) (by decide +kernel)) ?_
          refine ⟨Gq, N, perN N N.length, zs, cs, F, os, M1, z, (n : Int), rfl, R32.ob, hak, fun H33 l ys e33 nl hl33 pw mem => ?_⟩
          have R33 := R32.ex e33
          have hnd : ys.Nodup := pw.imp fun h => Int.ne_of_lt h
          have hyl : ys.length ≤ (cs.map (finF F (perN N N.length) (.inr z) (n : Int))).length := hnd.length_le_of_subset fun y hy => by
            obtain ⟨c, hc, he⟩ := (mem y).mp hy
            exact List.mem_map.mpr ⟨c, hc, he⟩
          rw [List.length_map] at hyl
          have hy0 : 0 < ys.length := List.length_pos_of_mem ((mem _).mpr ⟨cs[0], List.getElem_mem hc0, rfl⟩)
          refine x_meth R33.ob.ins (ob_no (by decide +kernel) (by decide +kernel) (by decide +kernel) (by decide +kernel) (by decide +kernel)) ?_
          refine x_lenL (SqL.of hl33) ?_
          rw [List.length_map]
          refine x_next R33.g (by omega) (by omega) fun r4 H34 r40 r41 g34 e34 => ?_
          have R34 := R33.ex2 g34 e34
          have hL34 := e34 _ _ (e33 _ _ hL32) hLn.1 hLn.2.1
          refine x_menu (e34 _ _ hl33 (R32.g.na nl) (R32.g.nb nl)) r40 (by rw [List.length_map]; exact r41) fun vx _ hvx => ?_
          obtain ⟨x, hx, rfl⟩ := List.mem_map.mp hvx
          obtain ⟨c, hcm, hcx⟩ := (mem x).mp hx
          have hx0 : 0 ≤ x := by
            obtain ⟨T, hT⟩ := (fin_val hV h8 (Nat.dvd_refl _) hpp W (hs c (hcc c hcm)) hzn (n := n) (by omega)).2
            rw [hcx] at hT
            exact stP_nn hV h8 (hcL c hcm) T x (List.mem_of_getElem? hT)
          have hfm : c ∈ cs.filter fun c => decide (finF F (perN N N.length) (.inr z) (n : Int) c = x) := List.mem_filter.mpr ⟨hcm, by simpa using hcx⟩
          refine ⟨Gq, N, perN N N.length, zs, cs, F, os, M1, z, (n : Int), x, rfl, R34.ob, hak, hx0, by omega, R34.fr, fun hne H35 la e35 ob35 => ?_, fun he => absurd he (List.ne_nil_of_mem hfm)⟩
          have R35 := R34.see (M' := { M1 with rem := la }) e35 rfl rfl ob35
          have hL35 := e35 L _ (fun z => nLq (by rw [z]; exact R34.ob.ga)) (fun z => nLq (by rw [z]; exact R34.ob.go)) hL34
          refine x_minL (SqL.of hL35) (by omega) fun mm h1 h2 => ?_
          have hmg := least mm h1 h2
          subst hmg
          walk_at "run"
          have hle : ((cs.filter fun c => decide (finF F (perN N N.length) (.inr z) (n : Int) c = x)).length : Int) ≤ ms2.getD i0 0 := by
            rw [← count_filter]
            exact hmo2.2 x (List.mem_map.mpr ⟨c, hcm, hcx⟩)
          rw [if_neg (by omega)]
          exact ⟨_, _, _, _, _, _, _, _, _, _, Gq, _, _, { M1 with rem := la }, rfl, R35, hne, Nat.le_trans (List.length_filter_le ..) hc24, fun c hc => hcc c (List.mem_filter.mp hc).1, by
            show (os ++ [obsF z (n : Int) x]).length ≤ i + 1
            rw [List.length_append, List.length_singleton]
            omega⟩
      · rintro σ H10 ⟨u7, u8, u9, u10, u11, u12, u13, u14, u15, u16, Gp, cs, os, M1, rfl, R, hcs, hc24, hcc, hos⟩
        walk_at "run"
        exact q _
end
end K
set_option maxHeartbeats 4000000
namespace K
open PySem PySem.Spec PyProof.Rows L2 Evl FB
def rzB (K : PySem.W.Frag) (C : Addr) : Bool := PySem.W.excIn K C [.type "ValueError", .type "Exception", .type "BaseException", .type "object"] "ValueError.__new__" && (PySem.W.keepIn K (.ref C) && (decide (PySem.W.subIn K (.ref C) (.type "BaseException") = some true) && decide (PySem.W.typeIn K (.ref C) = some (.type "type"))))
theorem rz_ok {K : PySem.W.Frag} {mg : Str → Option Value} {x : Str} {C : Addr} (g : mg x = some (.ref C)) (h : rzB K C = true) : Rz K mg x C := by
  unfold rzB at h
  simp only [Bool.and_eq_true, decide_eq_true_eq] at h
  exact ⟨h.1, g, h.2.1, h.2.2.1, h.2.2.2⟩
theorem all_mk {l : PySem.W.OpenLaw} {w : World} {K : PySem.W.Frag} {h : Heap} {mg : Str → Option Value} {fa : Addr} (X : K.In h) (G : h.Ns mainGlobals mg) (hfa : mg "law" = some (.ref fa))
    {f0 : Addr} {od0 an0 : Option Addr} {sl0 : Array (Option Value)} {oc0 kV0 dc0 pm0 ct0 : Value} {cd0 : Value}
    (a0 : PySem.W.nsIn K mainGlobals "check_count" = some (some (.ref f0)))
    (l0 : K.lookup f0 = some ⟨oc0, od0, .func (PySem.W.fnOf "check_count" "check_count" (defArgs s_check_count) (defBody s_check_count) (defScope s_check_count) .none kV0 dc0 pm0 an0 cd0 ct0), sl0⟩)
    (c0 : PySem.W.codeIn K cd0 "check_count" = true)
    (k0 : PySem.W.keepIn K (.ref f0) = true)
    {f1 : Addr} {od1 an1 : Option Addr} {sl1 : Array (Option Value)} {oc1 kV1 dc1 pm1 ct1 : Value} {cd1 : Value}
    (a1 : PySem.W.nsIn K mainGlobals "is_letters" = some (some (.ref f1)))
    (l1 : K.lookup f1 = some ⟨oc1, od1, .func (PySem.W.fnOf "is_letters" "is_letters" (defArgs s_is_letters) (defBody s_is_letters) (defScope s_is_letters) .none kV1 dc1 pm1 an1 cd1 ct1), sl1⟩)
    (c1 : PySem.W.codeIn K cd1 "is_letters" = true)
    (k1 : PySem.W.keepIn K (.ref f1) = true)
    {f2 : Addr} {od2 an2 : Option Addr} {sl2 : Array (Option Value)} {oc2 kV2 dc2 pm2 ct2 : Value} {cd2 : Value}
    (a2 : PySem.W.nsIn K mainGlobals "is_word" = some (some (.ref f2)))
    (l2 : K.lookup f2 = some ⟨oc2, od2, .func (PySem.W.fnOf "is_word" "is_word" (defArgs s_is_word) (defBody s_is_word) (defScope s_is_word) .none kV2 dc2 pm2 an2 cd2 ct2), sl2⟩)
    (c2 : PySem.W.codeIn K cd2 "is_word" = true)
    (k2 : PySem.W.keepIn K (.ref f2) = true)
    {f3 : Addr} {od3 an3 : Option Addr} {sl3 : Array (Option Value)} {oc3 kV3 dc3 pm3 ct3 : Value} {cd3 : Value}
    (a3 : PySem.W.nsIn K mainGlobals "is_place" = some (some (.ref f3)))
    (l3 : K.lookup f3 = some ⟨oc3, od3, .func (PySem.W.fnOf "is_place" "is_place" (defArgs s_is_place) (defBody s_is_place) (defScope s_is_place) .none kV3 dc3 pm3 an3 cd3 ct3), sl3⟩)
    (c3 : PySem.W.codeIn K cd3 "is_place" = true)
    (k3 : PySem.W.keepIn K (.ref f3) = true)
    {f4 : Addr} {od4 an4 : Option Addr} {sl4 : Array (Option Value)} {oc4 kV4 dc4 pm4 ct4 : Value} {cd4 : Value}
    (a4 : PySem.W.nsIn K mainGlobals "check_network" = some (some (.ref f4)))
    (l4 : K.lookup f4 = some ⟨oc4, od4, .func (PySem.W.fnOf "check_network" "check_network" (defArgs s_check_network) (defBody s_check_network) (defScope s_check_network) .none kV4 dc4 pm4 an4 cd4 ct4), sl4⟩)
    (c4 : PySem.W.codeIn K cd4 "check_network" = true)
    (k4 : PySem.W.keepIn K (.ref f4) = true)
    {f5 : Addr} {od5 an5 : Option Addr} {sl5 : Array (Option Value)} {oc5 kV5 dc5 pm5 ct5 : Value} {q5 : Addr}
    (a5 : PySem.W.nsIn K mainGlobals "reachable_stations" = some (some (.ref f5)))
    (l5 : K.lookup f5 = some ⟨oc5, od5, .func (PySem.W.fnOf "reachable_stations" "reachable_stations" (defArgs s_reachable_stations) (defBody s_reachable_stations) (defScope s_reachable_stations) .none kV5 dc5 pm5 an5 (.ref q5) ct5), sl5⟩)
    (c5 : PySem.W.codeIn K (.ref q5) "reachable_stations" = true)
    (k5 : PySem.W.keepIn K (.ref f5) = true)
    (s5 : PySem.W.kdsCode K (.ref q5) = true)
    {f6 : Addr} {od6 an6 : Option Addr} {sl6 : Array (Option Value)} {oc6 kV6 dc6 pm6 ct6 : Value} {cd6 : Value}
    (a6 : PySem.W.nsIn K mainGlobals "ports" = some (some (.ref f6)))
    (l6 : K.lookup f6 = some ⟨oc6, od6, .func (PySem.W.fnOf "ports" "ports" (defArgs s_ports) (defBody s_ports) (defScope s_ports) .none kV6 dc6 pm6 an6 cd6 ct6), sl6⟩)
    (c6 : PySem.W.codeIn K cd6 "ports" = true)
    (k6 : PySem.W.keepIn K (.ref f6) = true)
    {f7 : Addr} {od7 an7 : Option Addr} {sl7 : Array (Option Value)} {oc7 kV7 dc7 pm7 ct7 : Value} {cd7 : Value}
    (a7 : PySem.W.nsIn K mainGlobals "check_state" = some (some (.ref f7)))
    (l7 : K.lookup f7 = some ⟨oc7, od7, .func (PySem.W.fnOf "check_state" "check_state" (defArgs s_check_state) (defBody s_check_state) (defScope s_check_state) .none kV7 dc7 pm7 an7 cd7 ct7), sl7⟩)
    (c7 : PySem.W.codeIn K cd7 "check_state" = true)
    (k7 : PySem.W.keepIn K (.ref f7) = true)
    {f8 : Addr} {od8 an8 : Option Addr} {sl8 : Array (Option Value)} {oc8 kV8 dc8 pm8 ct8 : Value} {cd8 : Value}
    (a8 : PySem.W.nsIn K mainGlobals "check_passengers_states" = some (some (.ref f8)))
    (l8 : K.lookup f8 = some ⟨oc8, od8, .func (PySem.W.fnOf "check_passengers" "check_passengers" (defArgs s_check_passengers) (defBody s_check_passengers) (defScope s_check_passengers) .none kV8 dc8 pm8 an8 cd8 ct8), sl8⟩)
    (c8 : PySem.W.codeIn K cd8 "check_passengers" = true)
    (k8 : PySem.W.keepIn K (.ref f8) = true)
    {f9 : Addr} {od9 an9 : Option Addr} {sl9 : Array (Option Value)} {oc9 kV9 dc9 pm9 ct9 : Value} {cd9 : Value}
    (a9 : PySem.W.nsIn K mainGlobals "queue_lengths" = some (some (.ref f9)))
    (l9 : K.lookup f9 = some ⟨oc9, od9, .func (PySem.W.fnOf "queue_lengths" "queue_lengths" (defArgs s_queue_lengths) (defBody s_queue_lengths) (defScope s_queue_lengths) .none kV9 dc9 pm9 an9 cd9 ct9), sl9⟩)
    (c9 : PySem.W.codeIn K cd9 "queue_lengths" = true)
    (k9 : PySem.W.keepIn K (.ref f9) = true)
    {f10 : Addr} {od10 an10 : Option Addr} {sl10 : Array (Option Value)} {oc10 kV10 dc10 pm10 ct10 : Value} {cd10 : Value}
    (a10 : PySem.W.nsIn K mainGlobals "join_queue" = some (some (.ref f10)))
    (l10 : K.lookup f10 = some ⟨oc10, od10, .func (PySem.W.fnOf "join_queue" "join_queue" (defArgs s_join_queue) (defBody s_join_queue) (defScope s_join_queue) .none kV10 dc10 pm10 an10 cd10 ct10), sl10⟩)
    (c10 : PySem.W.codeIn K cd10 "join_queue" = true)
    (k10 : PySem.W.keepIn K (.ref f10) = true)
    {f11 : Addr} {od11 an11 : Option Addr} {sl11 : Array (Option Value)} {oc11 kV11 dc11 pm11 ct11 : Value} {cd11 : Value}
    (a11 : PySem.W.nsIn K mainGlobals "depart" = some (some (.ref f11)))
    (l11 : K.lookup f11 = some ⟨oc11, od11, .func (PySem.W.fnOf "depart" "depart" (defArgs s_depart) (defBody s_depart) (defScope s_depart) .none kV11 dc11 pm11 an11 cd11 ct11), sl11⟩)
    (c11 : PySem.W.codeIn K cd11 "depart" = true)
    (k11 : PySem.W.keepIn K (.ref f11) = true)
    {f12 : Addr} {od12 an12 : Option Addr} {sl12 : Array (Option Value)} {oc12 kV12 dc12 pm12 ct12 : Value} {cd12 : Value}
    (a12 : PySem.W.nsIn K mainGlobals "lowest_terms" = some (some (.ref f12)))
    (l12 : K.lookup f12 = some ⟨oc12, od12, .func (PySem.W.fnOf "lowest_terms" "lowest_terms" (defArgs s_lowest_terms) (defBody s_lowest_terms) (defScope s_lowest_terms) .none kV12 dc12 pm12 an12 cd12 ct12), sl12⟩)
    (c12 : PySem.W.codeIn K cd12 "lowest_terms" = true)
    (k12 : PySem.W.keepIn K (.ref f12) = true)
    {f13 : Addr} {od13 an13 : Option Addr} {sl13 : Array (Option Value)} {oc13 kV13 dc13 pm13 ct13 : Value} {cd13 : Value}
    (a13 : PySem.W.nsIn K mainGlobals "add" = some (some (.ref f13)))
    (l13 : K.lookup f13 = some ⟨oc13, od13, .func (PySem.W.fnOf "add" "add" (defArgs s_add) (defBody s_add) (defScope s_add) .none kV13 dc13 pm13 an13 cd13 ct13), sl13⟩)
    (c13 : PySem.W.codeIn K cd13 "add" = true)
    (k13 : PySem.W.keepIn K (.ref f13) = true)
    {f14 : Addr} {od14 an14 : Option Addr} {sl14 : Array (Option Value)} {oc14 kV14 dc14 pm14 ct14 : Value} {cd14 : Value}
    (a14 : PySem.W.nsIn K mainGlobals "divide" = some (some (.ref f14)))
    (l14 : K.lookup f14 = some ⟨oc14, od14, .func (PySem.W.fnOf "divide" "divide" (defArgs s_divide) (defBody s_divide) (defScope s_divide) .none kV14 dc14 pm14 an14 cd14 ct14), sl14⟩)
    (c14 : PySem.W.codeIn K cd14 "divide" = true)
    (k14 : PySem.W.keepIn K (.ref f14) = true)
    {f15 : Addr} {od15 an15 : Option Addr} {sl15 : Array (Option Value)} {oc15 kV15 dc15 pm15 ct15 : Value} {cd15 : Value}
    (a15 : PySem.W.nsIn K mainGlobals "period" = some (some (.ref f15)))
    (l15 : K.lookup f15 = some ⟨oc15, od15, .func (PySem.W.fnOf "period" "period" (defArgs s_period) (defBody s_period) (defScope s_period) .none kV15 dc15 pm15 an15 cd15 ct15), sl15⟩)
    (c15 : PySem.W.codeIn K cd15 "period" = true)
    (k15 : PySem.W.keepIn K (.ref f15) = true)
    {f16 : Addr} {od16 an16 : Option Addr} {sl16 : Array (Option Value)} {oc16 kV16 dc16 pm16 ct16 : Value} {cd16 : Value}
    (a16 : PySem.W.nsIn K mainGlobals "list_averages" = some (some (.ref f16)))
    (l16 : K.lookup f16 = some ⟨oc16, od16, .func (PySem.W.fnOf "list_averages" "list_averages" (defArgs s_list_averages) (defBody s_list_averages) (defScope s_list_averages) .none kV16 dc16 pm16 an16 cd16 ct16), sl16⟩)
    (c16 : PySem.W.codeIn K cd16 "list_averages" = true)
    (k16 : PySem.W.keepIn K (.ref f16) = true)
    {f17 : Addr} {od17 an17 : Option Addr} {sl17 : Array (Option Value)} {oc17 kV17 dc17 pm17 ct17 : Value} {cd17 : Value}
    (a17 : PySem.W.nsIn K mainGlobals "check_passengers_observers" = some (some (.ref f17)))
    (l17 : K.lookup f17 = some ⟨oc17, od17, .func (PySem.W.fnOf "check_passengers" "check_passengers" (defArgs s_check_passengers_o) (defBody s_check_passengers_o) (defScope s_check_passengers_o) .none kV17 dc17 pm17 an17 cd17 ct17), sl17⟩)
    (c17 : PySem.W.codeIn K cd17 "check_passengers" = true)
    (k17 : PySem.W.keepIn K (.ref f17) = true)
    {f18 : Addr} {od18 an18 : Option Addr} {sl18 : Array (Option Value)} {oc18 kV18 dc18 pm18 ct18 : Value} {cd18 : Value}
    (a18 : PySem.W.nsIn K mainGlobals "list_lengths" = some (some (.ref f18)))
    (l18 : K.lookup f18 = some ⟨oc18, od18, .func (PySem.W.fnOf "list_lengths" "list_lengths" (defArgs s_list_lengths) (defBody s_list_lengths) (defScope s_list_lengths) .none kV18 dc18 pm18 an18 cd18 ct18), sl18⟩)
    (c18 : PySem.W.codeIn K cd18 "list_lengths" = true)
    (k18 : PySem.W.keepIn K (.ref f18) = true)
    {f19 : Addr} {od19 an19 : Option Addr} {sl19 : Array (Option Value)} {oc19 kV19 dc19 pm19 ct19 : Value} {cd19 : Value}
    (a19 : PySem.W.nsIn K mainGlobals "find_phases" = some (some (.ref f19)))
    (l19 : K.lookup f19 = some ⟨oc19, od19, .func (PySem.W.fnOf "find_phases" "find_phases" (defArgs s_find_phases) (defBody s_find_phases) (defScope s_find_phases) .none kV19 dc19 pm19 an19 cd19 ct19), sl19⟩)
    (c19 : PySem.W.codeIn K cd19 "find_phases" = true)
    (k19 : PySem.W.keepIn K (.ref f19) = true)
    {f20 : Addr} {od20 an20 : Option Addr} {sl20 : Array (Option Value)} {oc20 kV20 dc20 pm20 ct20 : Value} {cd20 : Value}
    (a20 : PySem.W.nsIn K mainGlobals "find_feeders" = some (some (.ref f20)))
    (l20 : K.lookup f20 = some ⟨oc20, od20, .func (PySem.W.fnOf "find_feeders" "find_feeders" (defArgs s_find_feeders) (defBody s_find_feeders) (defScope s_find_feeders) .none kV20 dc20 pm20 an20 cd20 ct20), sl20⟩)
    (c20 : PySem.W.codeIn K cd20 "find_feeders" = true)
    (k20 : PySem.W.keepIn K (.ref f20) = true)
    {f21 : Addr} {od21 an21 : Option Addr} {sl21 : Array (Option Value)} {oc21 kV21 dc21 pm21 ct21 : Value} {cd21 : Value}
    (a21 : PySem.W.nsIn K mainGlobals "count_brought" = some (some (.ref f21)))
    (l21 : K.lookup f21 = some ⟨oc21, od21, .func (PySem.W.fnOf "count_brought" "count_brought" (defArgs s_count_brought) (defBody s_count_brought) (defScope s_count_brought) .none kV21 dc21 pm21 an21 cd21 ct21), sl21⟩)
    (c21 : PySem.W.codeIn K cd21 "count_brought" = true)
    (k21 : PySem.W.keepIn K (.ref f21) = true)
    {f22 : Addr} {od22 an22 : Option Addr} {sl22 : Array (Option Value)} {oc22 kV22 dc22 pm22 ct22 : Value} {cd22 : Value}
    (a22 : PySem.W.nsIn K mainGlobals "count_departures" = some (some (.ref f22)))
    (l22 : K.lookup f22 = some ⟨oc22, od22, .func (PySem.W.fnOf "count_departures" "count_departures" (defArgs s_count_departures) (defBody s_count_departures) (defScope s_count_departures) .none kV22 dc22 pm22 an22 cd22 ct22), sl22⟩)
    (c22 : PySem.W.codeIn K cd22 "count_departures" = true)
    (k22 : PySem.W.keepIn K (.ref f22) = true)
    {f23 : Addr} {od23 an23 : Option Addr} {sl23 : Array (Option Value)} {oc23 kV23 dc23 pm23 ct23 : Value} {cd23 : Value}
    (a23 : PySem.W.nsIn K mainGlobals "finisher" = some (some (.ref f23)))
    (l23 : K.lookup f23 = some ⟨oc23, od23, .func (PySem.W.fnOf "finisher" "finisher" (defArgs s_finisher) (defBody s_finisher) (defScope s_finisher) .none kV23 dc23 pm23 an23 cd23 ct23), sl23⟩)
    (c23 : PySem.W.codeIn K cd23 "finisher" = true)
    (k23 : PySem.W.keepIn K (.ref f23) = true)
    {f24 : Addr} {od24 an24 : Option Addr} {sl24 : Array (Option Value)} {oc24 kV24 dc24 pm24 ct24 : Value} {cd24 : Value}
    (a24 : PySem.W.nsIn K mainGlobals "_law_mix" = some (some (.ref f24)))
    (l24 : K.lookup f24 = some ⟨oc24, od24, .func (PySem.W.fnOf "_law_mix" "_law_mix" (defArgs s_l_mix) (defBody s_l_mix) (defScope s_l_mix) .none kV24 dc24 pm24 an24 cd24 ct24), sl24⟩)
    (c24 : PySem.W.codeIn K cd24 "_law_mix" = true)
    (k24 : PySem.W.keepIn K (.ref f24) = true)
    {f25 : Addr} {od25 an25 : Option Addr} {sl25 : Array (Option Value)} {oc25 kV25 dc25 pm25 ct25 : Value} {cd25 : Value}
    (a25 : PySem.W.nsIn K mainGlobals "_law_next" = some (some (.ref f25)))
    (l25 : K.lookup f25 = some ⟨oc25, od25, .func (PySem.W.fnOf "_law_next" "_law_next" (defArgs s_l_next) (defBody s_l_next) (defScope s_l_next) .none kV25 dc25 pm25 an25 cd25 ct25), sl25⟩)
    (c25 : PySem.W.codeIn K cd25 "_law_next" = true)
    (k25 : PySem.W.keepIn K (.ref f25) = true)
    {f26 : Addr} {od26 an26 : Option Addr} {sl26 : Array (Option Value)} {oc26 kV26 dc26 pm26 ct26 : Value} {cd26 : Value}
    (a26 : PySem.W.nsIn K mainGlobals "_law_alike" = some (some (.ref f26)))
    (l26 : K.lookup f26 = some ⟨oc26, od26, .func (PySem.W.fnOf "_law_alike" "_law_alike" (defArgs s_l_alike) (defBody s_l_alike) (defScope s_l_alike) .none kV26 dc26 pm26 an26 cd26 ct26), sl26⟩)
    (c26 : PySem.W.codeIn K cd26 "_law_alike" = true)
    (k26 : PySem.W.keepIn K (.ref f26) = true)
    {f27 : Addr} {od27 an27 : Option Addr} {sl27 : Array (Option Value)} {oc27 kV27 dc27 pm27 ct27 : Value} {cd27 : Value}
    (a27 : PySem.W.nsIn K mainGlobals "_law_place" = some (some (.ref f27)))
    (l27 : K.lookup f27 = some ⟨oc27, od27, .func (PySem.W.fnOf "_law_place" "_law_place" (defArgs s_l_place) (defBody s_l_place) (defScope s_l_place) .none kV27 dc27 pm27 an27 cd27 ct27), sl27⟩)
    (c27 : PySem.W.codeIn K cd27 "_law_place" = true)
    (k27 : PySem.W.keepIn K (.ref f27) = true)
    {f28 : Addr} {od28 an28 : Option Addr} {sl28 : Array (Option Value)} {oc28 kV28 dc28 pm28 ct28 : Value} {cd28 : Value}
    (a28 : PySem.W.nsIn K mainGlobals "_law_network" = some (some (.ref f28)))
    (l28 : K.lookup f28 = some ⟨oc28, od28, .func (PySem.W.fnOf "_law_network" "_law_network" (defArgs s_l_network) (defBody s_l_network) (defScope s_l_network) .none kV28 dc28 pm28 an28 cd28 ct28), sl28⟩)
    (c28 : PySem.W.codeIn K cd28 "_law_network" = true)
    (k28 : PySem.W.keepIn K (.ref f28) = true)
    {f29 : Addr} {od29 an29 : Option Addr} {sl29 : Array (Option Value)} {oc29 kV29 dc29 pm29 ct29 : Value} {cd29 : Value}
    (a29 : PySem.W.nsIn K mainGlobals "_law_candidates" = some (some (.ref f29)))
    (l29 : K.lookup f29 = some ⟨oc29, od29, .func (PySem.W.fnOf "_law_candidates" "_law_candidates" (defArgs s_l_candidates) (defBody s_l_candidates) (defScope s_l_candidates) .none kV29 dc29 pm29 an29 cd29 ct29), sl29⟩)
    (c29 : PySem.W.codeIn K cd29 "_law_candidates" = true)
    (k29 : PySem.W.keepIn K (.ref f29) = true)
    {f30 : Addr} {od30 an30 : Option Addr} {sl30 : Array (Option Value)} {oc30 kV30 dc30 pm30 ct30 : Value} {cd30 : Value}
    (a30 : PySem.W.nsIn K mainGlobals "_law_known" = some (some (.ref f30)))
    (l30 : K.lookup f30 = some ⟨oc30, od30, .func (PySem.W.fnOf "_law_known" "_law_known" (defArgs s_l_known) (defBody s_l_known) (defScope s_l_known) .none kV30 dc30 pm30 an30 cd30 ct30), sl30⟩)
    (c30 : PySem.W.codeIn K cd30 "_law_known" = true)
    (k30 : PySem.W.keepIn K (.ref f30) = true)
    {f31 : Addr} {od31 an31 : Option Addr} {sl31 : Array (Option Value)} {oc31 kV31 dc31 pm31 ct31 : Value} {cd31 : Value}
    (a31 : PySem.W.nsIn K mainGlobals "law" = some (some (.ref f31)))
    (l31 : K.lookup f31 = some ⟨oc31, od31, .func (PySem.W.fnOf "law" "law" (defArgs s_law) (defBody s_law) (defScope s_law) .none kV31 dc31 pm31 an31 cd31 ct31), sl31⟩)
    (c31 : PySem.W.codeIn K cd31 "law" = true)
    (k31 : PySem.W.keepIn K (.ref f31) = true)
    {CCycle : Addr}
    (gCycle : PySem.W.nsIn K mainGlobals "Cycle" = some (some (.ref CCycle)))
    (pgCycle : PySem.W.plainGet K CCycle Str.empty = true)
    (hdCycle : PySem.W.hasDictIn K CCycle = true)
    (poCycle : PySem.W.plainOver K CCycle = true)
    (saCycle : PySem.W.findIn K (.ref CCycle) "__setattr__" = some (some (.builtin "object.__setattr__")))
    (mkCycle : PySem.W.makesIn K CCycle = true)
    (kpCycle : PySem.W.keepIn K (.ref CCycle) = true)
    (nCycle_network : PySem.W.findIn K (.ref CCycle) "network" = some none)
    (nCycle_period : PySem.W.findIn K (.ref CCycle) "period" = some none)
    (nCycle_rows : PySem.W.findIn K (.ref CCycle) "rows" = some none)
    (nCycle_lengths_at : PySem.W.findIn K (.ref CCycle) "lengths_at" = some none)
    (nCycle_rows_at : PySem.W.findIn K (.ref CCycle) "rows_at" = some none)
    {f_Cycle_init : Addr} {od_Cycle_init an_Cycle_init : Option Addr} {sl_Cycle_init : Array (Option Value)} {oc_Cycle_init kV_Cycle_init dc_Cycle_init pm_Cycle_init ct_Cycle_init cd_Cycle_init : Value}
    (a_Cycle_init : PySem.W.findIn K (.ref CCycle) "__init__" = some (some (.ref f_Cycle_init)))
    (i_Cycle_init : PySem.W.isFn K (.ref f_Cycle_init) = true)
    (l_Cycle_init : K.lookup f_Cycle_init = some ⟨oc_Cycle_init, od_Cycle_init, .func (PySem.W.fnOf "__init__" "Cycle.__init__" (defArgs s_Cycle___init) (defBody s_Cycle___init) (defScope s_Cycle___init) .none kV_Cycle_init dc_Cycle_init pm_Cycle_init an_Cycle_init cd_Cycle_init ct_Cycle_init), sl_Cycle_init⟩)
    (c_Cycle_init : PySem.W.codeIn K cd_Cycle_init "Cycle.__init__" = true)
    (k_Cycle_init : PySem.W.keepIn K (.ref f_Cycle_init) = true)
    {f_Cycle_run_before : Addr} {od_Cycle_run_before an_Cycle_run_before : Option Addr} {sl_Cycle_run_before : Array (Option Value)} {oc_Cycle_run_before kV_Cycle_run_before dc_Cycle_run_before pm_Cycle_run_before ct_Cycle_run_before cd_Cycle_run_before : Value}
    (a_Cycle_run_before : PySem.W.findIn K (.ref CCycle) "run_before" = some (some (.ref f_Cycle_run_before)))
    (i_Cycle_run_before : PySem.W.isFn K (.ref f_Cycle_run_before) = true)
    (l_Cycle_run_before : K.lookup f_Cycle_run_before = some ⟨oc_Cycle_run_before, od_Cycle_run_before, .func (PySem.W.fnOf "run_before" "Cycle.run_before" (defArgs s_Cycle_run_before) (defBody s_Cycle_run_before) (defScope s_Cycle_run_before) .none kV_Cycle_run_before dc_Cycle_run_before pm_Cycle_run_before an_Cycle_run_before cd_Cycle_run_before ct_Cycle_run_before), sl_Cycle_run_before⟩)
    (c_Cycle_run_before : PySem.W.codeIn K cd_Cycle_run_before "Cycle.run_before" = true)
    (k_Cycle_run_before : PySem.W.keepIn K (.ref f_Cycle_run_before) = true)
    {f_Cycle_run_period : Addr} {od_Cycle_run_period an_Cycle_run_period : Option Addr} {sl_Cycle_run_period : Array (Option Value)} {oc_Cycle_run_period kV_Cycle_run_period dc_Cycle_run_period pm_Cycle_run_period ct_Cycle_run_period cd_Cycle_run_period : Value}
    (a_Cycle_run_period : PySem.W.findIn K (.ref CCycle) "run_period" = some (some (.ref f_Cycle_run_period)))
    (i_Cycle_run_period : PySem.W.isFn K (.ref f_Cycle_run_period) = true)
    (l_Cycle_run_period : K.lookup f_Cycle_run_period = some ⟨oc_Cycle_run_period, od_Cycle_run_period, .func (PySem.W.fnOf "run_period" "Cycle.run_period" (defArgs s_Cycle_run_period) (defBody s_Cycle_run_period) (defScope s_Cycle_run_period) .none kV_Cycle_run_period dc_Cycle_run_period pm_Cycle_run_period an_Cycle_run_period cd_Cycle_run_period ct_Cycle_run_period), sl_Cycle_run_period⟩)
    (c_Cycle_run_period : PySem.W.codeIn K cd_Cycle_run_period "Cycle.run_period" = true)
    (k_Cycle_run_period : PySem.W.keepIn K (.ref f_Cycle_run_period) = true)
    {f_Cycle_row : Addr} {od_Cycle_row an_Cycle_row : Option Addr} {sl_Cycle_row : Array (Option Value)} {oc_Cycle_row kV_Cycle_row dc_Cycle_row pm_Cycle_row ct_Cycle_row cd_Cycle_row : Value}
    (a_Cycle_row : PySem.W.findIn K (.ref CCycle) "row" = some (some (.ref f_Cycle_row)))
    (i_Cycle_row : PySem.W.isFn K (.ref f_Cycle_row) = true)
    (l_Cycle_row : K.lookup f_Cycle_row = some ⟨oc_Cycle_row, od_Cycle_row, .func (PySem.W.fnOf "row" "Cycle.row" (defArgs s_Cycle_row) (defBody s_Cycle_row) (defScope s_Cycle_row) .none kV_Cycle_row dc_Cycle_row pm_Cycle_row an_Cycle_row cd_Cycle_row ct_Cycle_row), sl_Cycle_row⟩)
    (c_Cycle_row : PySem.W.codeIn K cd_Cycle_row "Cycle.row" = true)
    (k_Cycle_row : PySem.W.keepIn K (.ref f_Cycle_row) = true)
    {CObserver : Addr}
    (gObserver : PySem.W.nsIn K mainGlobals "Observer" = some (some (.ref CObserver)))
    (pgObserver : PySem.W.plainGet K CObserver Str.empty = true)
    (hdObserver : PySem.W.hasDictIn K CObserver = true)
    (poObserver : PySem.W.plainOver K CObserver = true)
    (saObserver : PySem.W.findIn K (.ref CObserver) "__setattr__" = some (some (.builtin "object.__setattr__")))
    (mkObserver : PySem.W.makesIn K CObserver = true)
    (kpObserver : PySem.W.keepIn K (.ref CObserver) = true)
    (nObserver_network : PySem.W.findIn K (.ref CObserver) "network" = some none)
    (nObserver_known_ports : PySem.W.findIn K (.ref CObserver) "known_ports" = some none)
    (nObserver_remaining : PySem.W.findIn K (.ref CObserver) "remaining" = some none)
    (nObserver_phases : PySem.W.findIn K (.ref CObserver) "phases" = some none)
    (nObserver_observations : PySem.W.findIn K (.ref CObserver) "observations" = some none)
    {f_Observer_init : Addr} {od_Observer_init an_Observer_init : Option Addr} {sl_Observer_init : Array (Option Value)} {oc_Observer_init kV_Observer_init dc_Observer_init pm_Observer_init ct_Observer_init cd_Observer_init : Value}
    (a_Observer_init : PySem.W.findIn K (.ref CObserver) "__init__" = some (some (.ref f_Observer_init)))
    (i_Observer_init : PySem.W.isFn K (.ref f_Observer_init) = true)
    (l_Observer_init : K.lookup f_Observer_init = some ⟨oc_Observer_init, od_Observer_init, .func (PySem.W.fnOf "__init__" "Observer.__init__" (defArgs s_Observer___init) (defBody s_Observer___init) (defScope s_Observer___init) .none kV_Observer_init dc_Observer_init pm_Observer_init an_Observer_init cd_Observer_init ct_Observer_init), sl_Observer_init⟩)
    (c_Observer_init : PySem.W.codeIn K cd_Observer_init "Observer.__init__" = true)
    (k_Observer_init : PySem.W.keepIn K (.ref f_Observer_init) = true)
    {f_Observer_see_finisher : Addr} {od_Observer_see_finisher an_Observer_see_finisher : Option Addr} {sl_Observer_see_finisher : Array (Option Value)} {oc_Observer_see_finisher kV_Observer_see_finisher dc_Observer_see_finisher pm_Observer_see_finisher ct_Observer_see_finisher cd_Observer_see_finisher : Value}
    (a_Observer_see_finisher : PySem.W.findIn K (.ref CObserver) "see_finisher" = some (some (.ref f_Observer_see_finisher)))
    (i_Observer_see_finisher : PySem.W.isFn K (.ref f_Observer_see_finisher) = true)
    (l_Observer_see_finisher : K.lookup f_Observer_see_finisher = some ⟨oc_Observer_see_finisher, od_Observer_see_finisher, .func (PySem.W.fnOf "see_finisher" "Observer.see_finisher" (defArgs s_Observer_see_finisher) (defBody s_Observer_see_finisher) (defScope s_Observer_see_finisher) .none kV_Observer_see_finisher dc_Observer_see_finisher pm_Observer_see_finisher an_Observer_see_finisher cd_Observer_see_finisher ct_Observer_see_finisher), sl_Observer_see_finisher⟩)
    (c_Observer_see_finisher : PySem.W.codeIn K cd_Observer_see_finisher "Observer.see_finisher" = true)
    (k_Observer_see_finisher : PySem.W.keepIn K (.ref f_Observer_see_finisher) = true)
    {f_Observer_candidates : Addr} {od_Observer_candidates an_Observer_candidates : Option Addr} {sl_Observer_candidates : Array (Option Value)} {oc_Observer_candidates kV_Observer_candidates dc_Observer_candidates pm_Observer_candidates ct_Observer_candidates cd_Observer_candidates : Value}
    (a_Observer_candidates : PySem.W.findIn K (.ref CObserver) "candidates" = some (some (.ref f_Observer_candidates)))
    (i_Observer_candidates : PySem.W.isFn K (.ref f_Observer_candidates) = true)
    (l_Observer_candidates : K.lookup f_Observer_candidates = some ⟨oc_Observer_candidates, od_Observer_candidates, .func (PySem.W.fnOf "candidates" "Observer.candidates" (defArgs s_Observer_candidates) (defBody s_Observer_candidates) (defScope s_Observer_candidates) .none kV_Observer_candidates dc_Observer_candidates pm_Observer_candidates an_Observer_candidates cd_Observer_candidates ct_Observer_candidates), sl_Observer_candidates⟩)
    (c_Observer_candidates : PySem.W.codeIn K cd_Observer_candidates "Observer.candidates" = true)
    (k_Observer_candidates : PySem.W.keepIn K (.ref f_Observer_candidates) = true)
    {f_Observer_possible_finishers : Addr} {od_Observer_possible_finishers an_Observer_possible_finishers : Option Addr} {sl_Observer_possible_finishers : Array (Option Value)} {oc_Observer_possible_finishers kV_Observer_possible_finishers dc_Observer_possible_finishers pm_Observer_possible_finishers ct_Observer_possible_finishers cd_Observer_possible_finishers : Value}
    (a_Observer_possible_finishers : PySem.W.findIn K (.ref CObserver) "possible_finishers" = some (some (.ref f_Observer_possible_finishers)))
    (i_Observer_possible_finishers : PySem.W.isFn K (.ref f_Observer_possible_finishers) = true)
    (l_Observer_possible_finishers : K.lookup f_Observer_possible_finishers = some ⟨oc_Observer_possible_finishers, od_Observer_possible_finishers, .func (PySem.W.fnOf "possible_finishers" "Observer.possible_finishers" (defArgs s_Observer_possible_finishers) (defBody s_Observer_possible_finishers) (defScope s_Observer_possible_finishers) .none kV_Observer_possible_finishers dc_Observer_possible_finishers pm_Observer_possible_finishers an_Observer_possible_finishers cd_Observer_possible_finishers ct_Observer_possible_finishers), sl_Observer_possible_finishers⟩)
    (c_Observer_possible_finishers : PySem.W.codeIn K cd_Observer_possible_finishers "Observer.possible_finishers" = true)
    (k_Observer_possible_finishers : PySem.W.keepIn K (.ref f_Observer_possible_finishers) = true)
    {f_Observer_best_number : Addr} {od_Observer_best_number an_Observer_best_number : Option Addr} {sl_Observer_best_number : Array (Option Value)} {oc_Observer_best_number kV_Observer_best_number dc_Observer_best_number pm_Observer_best_number ct_Observer_best_number cd_Observer_best_number : Value}
    (a_Observer_best_number : PySem.W.findIn K (.ref CObserver) "best_number" = some (some (.ref f_Observer_best_number)))
    (i_Observer_best_number : PySem.W.isFn K (.ref f_Observer_best_number) = true)
    (l_Observer_best_number : K.lookup f_Observer_best_number = some ⟨oc_Observer_best_number, od_Observer_best_number, .func (PySem.W.fnOf "best_number" "Observer.best_number" (defArgs s_Observer_best_number) (defBody s_Observer_best_number) (defScope s_Observer_best_number) .none kV_Observer_best_number dc_Observer_best_number pm_Observer_best_number an_Observer_best_number cd_Observer_best_number ct_Observer_best_number), sl_Observer_best_number⟩)
    (c_Observer_best_number : PySem.W.codeIn K cd_Observer_best_number "Observer.best_number" = true)
    (k_Observer_best_number : PySem.W.keepIn K (.ref f_Observer_best_number) = true)
    {f_Observer_check_port : Addr} {od_Observer_check_port an_Observer_check_port : Option Addr} {sl_Observer_check_port : Array (Option Value)} {oc_Observer_check_port kV_Observer_check_port dc_Observer_check_port pm_Observer_check_port ct_Observer_check_port cd_Observer_check_port : Value}
    (a_Observer_check_port : PySem.W.findIn K (.ref CObserver) "check_port" = some (some (.ref f_Observer_check_port)))
    (i_Observer_check_port : PySem.W.isFn K (.ref f_Observer_check_port) = true)
    (l_Observer_check_port : K.lookup f_Observer_check_port = some ⟨oc_Observer_check_port, od_Observer_check_port, .func (PySem.W.fnOf "check_port" "Observer.check_port" (defArgs s_Observer_check_port) (defBody s_Observer_check_port) (defScope s_Observer_check_port) .none kV_Observer_check_port dc_Observer_check_port pm_Observer_check_port an_Observer_check_port cd_Observer_check_port ct_Observer_check_port), sl_Observer_check_port⟩)
    (c_Observer_check_port : PySem.W.codeIn K cd_Observer_check_port "Observer.check_port" = true)
    (k_Observer_check_port : PySem.W.keepIn K (.ref f_Observer_check_port) = true)
    {f_Observer_list_rows : Addr} {od_Observer_list_rows an_Observer_list_rows : Option Addr} {sl_Observer_list_rows : Array (Option Value)} {oc_Observer_list_rows kV_Observer_list_rows dc_Observer_list_rows pm_Observer_list_rows ct_Observer_list_rows cd_Observer_list_rows : Value}
    (a_Observer_list_rows : PySem.W.findIn K (.ref CObserver) "list_rows" = some (some (.ref f_Observer_list_rows)))
    (i_Observer_list_rows : PySem.W.isFn K (.ref f_Observer_list_rows) = true)
    (l_Observer_list_rows : K.lookup f_Observer_list_rows = some ⟨oc_Observer_list_rows, od_Observer_list_rows, .func (PySem.W.fnOf "list_rows" "Observer.list_rows" (defArgs s_Observer_list_rows) (defBody s_Observer_list_rows) (defScope s_Observer_list_rows) .none kV_Observer_list_rows dc_Observer_list_rows pm_Observer_list_rows an_Observer_list_rows cd_Observer_list_rows ct_Observer_list_rows), sl_Observer_list_rows⟩)
    (c_Observer_list_rows : PySem.W.codeIn K cd_Observer_list_rows "Observer.list_rows" = true)
    (k_Observer_list_rows : PySem.W.keepIn K (.ref f_Observer_list_rows) = true)
    {f_Observer_list_finishers : Addr} {od_Observer_list_finishers an_Observer_list_finishers : Option Addr} {sl_Observer_list_finishers : Array (Option Value)} {oc_Observer_list_finishers kV_Observer_list_finishers dc_Observer_list_finishers pm_Observer_list_finishers ct_Observer_list_finishers cd_Observer_list_finishers : Value}
    (a_Observer_list_finishers : PySem.W.findIn K (.ref CObserver) "list_finishers" = some (some (.ref f_Observer_list_finishers)))
    (i_Observer_list_finishers : PySem.W.isFn K (.ref f_Observer_list_finishers) = true)
    (l_Observer_list_finishers : K.lookup f_Observer_list_finishers = some ⟨oc_Observer_list_finishers, od_Observer_list_finishers, .func (PySem.W.fnOf "list_finishers" "Observer.list_finishers" (defArgs s_Observer_list_finishers) (defBody s_Observer_list_finishers) (defScope s_Observer_list_finishers) .none kV_Observer_list_finishers dc_Observer_list_finishers pm_Observer_list_finishers an_Observer_list_finishers cd_Observer_list_finishers ct_Observer_list_finishers), sl_Observer_list_finishers⟩)
    (c_Observer_list_finishers : PySem.W.codeIn K cd_Observer_list_finishers "Observer.list_finishers" = true)
    (k_Observer_list_finishers : PySem.W.keepIn K (.ref f_Observer_list_finishers) = true)
    {f_Observer_count_agreeing : Addr} {od_Observer_count_agreeing an_Observer_count_agreeing : Option Addr} {sl_Observer_count_agreeing : Array (Option Value)} {oc_Observer_count_agreeing kV_Observer_count_agreeing dc_Observer_count_agreeing pm_Observer_count_agreeing ct_Observer_count_agreeing cd_Observer_count_agreeing : Value}
    (a_Observer_count_agreeing : PySem.W.findIn K (.ref CObserver) "count_agreeing" = some (some (.ref f_Observer_count_agreeing)))
    (i_Observer_count_agreeing : PySem.W.isFn K (.ref f_Observer_count_agreeing) = true)
    (l_Observer_count_agreeing : K.lookup f_Observer_count_agreeing = some ⟨oc_Observer_count_agreeing, od_Observer_count_agreeing, .func (PySem.W.fnOf "count_agreeing" "Observer.count_agreeing" (defArgs s_Observer_count_agreeing) (defBody s_Observer_count_agreeing) (defScope s_Observer_count_agreeing) .none kV_Observer_count_agreeing dc_Observer_count_agreeing pm_Observer_count_agreeing an_Observer_count_agreeing cd_Observer_count_agreeing ct_Observer_count_agreeing), sl_Observer_count_agreeing⟩)
    (c_Observer_count_agreeing : PySem.W.codeIn K cd_Observer_count_agreeing "Observer.count_agreeing" = true)
    (k_Observer_count_agreeing : PySem.W.keepIn K (.ref f_Observer_count_agreeing) = true)
    {f_Observer_accept : Addr} {od_Observer_accept an_Observer_accept : Option Addr} {sl_Observer_accept : Array (Option Value)} {oc_Observer_accept kV_Observer_accept dc_Observer_accept pm_Observer_accept ct_Observer_accept cd_Observer_accept : Value}
    (a_Observer_accept : PySem.W.findIn K (.ref CObserver) "accept" = some (some (.ref f_Observer_accept)))
    (i_Observer_accept : PySem.W.isFn K (.ref f_Observer_accept) = true)
    (l_Observer_accept : K.lookup f_Observer_accept = some ⟨oc_Observer_accept, od_Observer_accept, .func (PySem.W.fnOf "accept" "Observer.accept" (defArgs s_Observer_accept) (defBody s_Observer_accept) (defScope s_Observer_accept) .none kV_Observer_accept dc_Observer_accept pm_Observer_accept an_Observer_accept cd_Observer_accept ct_Observer_accept), sl_Observer_accept⟩)
    (c_Observer_accept : PySem.W.codeIn K cd_Observer_accept "Observer.accept" = true)
    (k_Observer_accept : PySem.W.keepIn K (.ref f_Observer_accept) = true)
    {CArrival : Addr}
    (gArrival : PySem.W.nsIn K mainGlobals "Arrival" = some (some (.ref CArrival)))
    (pgArrival : PySem.W.plainGet K CArrival Str.empty = true)
    (hdArrival : PySem.W.hasDictIn K CArrival = true)
    (poArrival : PySem.W.plainOver K CArrival = true)
    (saArrival : PySem.W.findIn K (.ref CArrival) "__setattr__" = some (some (.builtin "object.__setattr__")))
    (mkArrival : PySem.W.makesIn K CArrival = true)
    (kpArrival : PySem.W.keepIn K (.ref CArrival) = true)
    (nArrival_events : PySem.W.findIn K (.ref CArrival) "events" = some none)
    (nArrival_queues : PySem.W.findIn K (.ref CArrival) "queues" = some none)
    {f_Arrival_init : Addr} {od_Arrival_init an_Arrival_init : Option Addr} {sl_Arrival_init : Array (Option Value)} {oc_Arrival_init kV_Arrival_init dc_Arrival_init pm_Arrival_init ct_Arrival_init cd_Arrival_init : Value}
    (a_Arrival_init : PySem.W.findIn K (.ref CArrival) "__init__" = some (some (.ref f_Arrival_init)))
    (i_Arrival_init : PySem.W.isFn K (.ref f_Arrival_init) = true)
    (l_Arrival_init : K.lookup f_Arrival_init = some ⟨oc_Arrival_init, od_Arrival_init, .func (PySem.W.fnOf "__init__" "Arrival.__init__" (defArgs s_Arrival___init) (defBody s_Arrival___init) (defScope s_Arrival___init) .none kV_Arrival_init dc_Arrival_init pm_Arrival_init an_Arrival_init cd_Arrival_init ct_Arrival_init), sl_Arrival_init⟩)
    (c_Arrival_init : PySem.W.codeIn K cd_Arrival_init "Arrival.__init__" = true)
    (k_Arrival_init : PySem.W.keepIn K (.ref f_Arrival_init) = true)
    {f_Arrival_line : Addr} {od_Arrival_line an_Arrival_line : Option Addr} {sl_Arrival_line : Array (Option Value)} {oc_Arrival_line kV_Arrival_line dc_Arrival_line pm_Arrival_line ct_Arrival_line cd_Arrival_line : Value}
    (a_Arrival_line : PySem.W.findIn K (.ref CArrival) "line" = some (some (.ref f_Arrival_line)))
    (i_Arrival_line : PySem.W.isFn K (.ref f_Arrival_line) = true)
    (l_Arrival_line : K.lookup f_Arrival_line = some ⟨oc_Arrival_line, od_Arrival_line, .func (PySem.W.fnOf "line" "Arrival.line" (defArgs s_Arrival_line) (defBody s_Arrival_line) (defScope s_Arrival_line) .none kV_Arrival_line dc_Arrival_line pm_Arrival_line an_Arrival_line cd_Arrival_line ct_Arrival_line), sl_Arrival_line⟩)
    (c_Arrival_line : PySem.W.codeIn K cd_Arrival_line "Arrival.line" = true)
    (k_Arrival_line : PySem.W.keepIn K (.ref f_Arrival_line) = true)
    {CTimetable : Addr}
    (gTimetable : PySem.W.nsIn K mainGlobals "Timetable" = some (some (.ref CTimetable)))
    (pgTimetable : PySem.W.plainGet K CTimetable Str.empty = true)
    (hdTimetable : PySem.W.hasDictIn K CTimetable = true)
    (poTimetable : PySem.W.plainOver K CTimetable = true)
    (saTimetable : PySem.W.findIn K (.ref CTimetable) "__setattr__" = some (some (.builtin "object.__setattr__")))
    (mkTimetable : PySem.W.makesIn K CTimetable = true)
    (kpTimetable : PySem.W.keepIn K (.ref CTimetable) = true)
    (nTimetable_network : PySem.W.findIn K (.ref CTimetable) "network" = some none)
    (nTimetable_next_passenger : PySem.W.findIn K (.ref CTimetable) "next_passenger" = some none)
    (nTimetable_waiting : PySem.W.findIn K (.ref CTimetable) "waiting" = some none)
    (nTimetable_lengths : PySem.W.findIn K (.ref CTimetable) "lengths" = some none)
    (nTimetable_feeders : PySem.W.findIn K (.ref CTimetable) "feeders" = some none)
    (nTimetable_known_boats : PySem.W.findIn K (.ref CTimetable) "known_boats" = some none)
    {f_Timetable_init : Addr} {od_Timetable_init an_Timetable_init : Option Addr} {sl_Timetable_init : Array (Option Value)} {oc_Timetable_init kV_Timetable_init dc_Timetable_init pm_Timetable_init ct_Timetable_init cd_Timetable_init : Value}
    (a_Timetable_init : PySem.W.findIn K (.ref CTimetable) "__init__" = some (some (.ref f_Timetable_init)))
    (i_Timetable_init : PySem.W.isFn K (.ref f_Timetable_init) = true)
    (l_Timetable_init : K.lookup f_Timetable_init = some ⟨oc_Timetable_init, od_Timetable_init, .func (PySem.W.fnOf "__init__" "Timetable.__init__" (defArgs s_Timetable___init) (defBody s_Timetable___init) (defScope s_Timetable___init) .none kV_Timetable_init dc_Timetable_init pm_Timetable_init an_Timetable_init cd_Timetable_init ct_Timetable_init), sl_Timetable_init⟩)
    (c_Timetable_init : PySem.W.codeIn K cd_Timetable_init "Timetable.__init__" = true)
    (k_Timetable_init : PySem.W.keepIn K (.ref f_Timetable_init) = true)
    {f_Timetable_boats_by : Addr} {od_Timetable_boats_by an_Timetable_boats_by : Option Addr} {sl_Timetable_boats_by : Array (Option Value)} {oc_Timetable_boats_by kV_Timetable_boats_by dc_Timetable_boats_by pm_Timetable_boats_by ct_Timetable_boats_by cd_Timetable_boats_by : Value}
    (a_Timetable_boats_by : PySem.W.findIn K (.ref CTimetable) "boats_by" = some (some (.ref f_Timetable_boats_by)))
    (i_Timetable_boats_by : PySem.W.isFn K (.ref f_Timetable_boats_by) = true)
    (l_Timetable_boats_by : K.lookup f_Timetable_boats_by = some ⟨oc_Timetable_boats_by, od_Timetable_boats_by, .func (PySem.W.fnOf "boats_by" "Timetable.boats_by" (defArgs s_Timetable_boats_by) (defBody s_Timetable_boats_by) (defScope s_Timetable_boats_by) .none kV_Timetable_boats_by dc_Timetable_boats_by pm_Timetable_boats_by an_Timetable_boats_by cd_Timetable_boats_by ct_Timetable_boats_by), sl_Timetable_boats_by⟩)
    (c_Timetable_boats_by : PySem.W.codeIn K cd_Timetable_boats_by "Timetable.boats_by" = true)
    (k_Timetable_boats_by : PySem.W.keepIn K (.ref f_Timetable_boats_by) = true)
    {f_Timetable_joined_by : Addr} {od_Timetable_joined_by an_Timetable_joined_by : Option Addr} {sl_Timetable_joined_by : Array (Option Value)} {oc_Timetable_joined_by kV_Timetable_joined_by dc_Timetable_joined_by pm_Timetable_joined_by ct_Timetable_joined_by cd_Timetable_joined_by : Value}
    (a_Timetable_joined_by : PySem.W.findIn K (.ref CTimetable) "joined_by" = some (some (.ref f_Timetable_joined_by)))
    (i_Timetable_joined_by : PySem.W.isFn K (.ref f_Timetable_joined_by) = true)
    (l_Timetable_joined_by : K.lookup f_Timetable_joined_by = some ⟨oc_Timetable_joined_by, od_Timetable_joined_by, .func (PySem.W.fnOf "joined_by" "Timetable.joined_by" (defArgs s_Timetable_joined_by) (defBody s_Timetable_joined_by) (defScope s_Timetable_joined_by) .none kV_Timetable_joined_by dc_Timetable_joined_by pm_Timetable_joined_by an_Timetable_joined_by cd_Timetable_joined_by ct_Timetable_joined_by), sl_Timetable_joined_by⟩)
    (c_Timetable_joined_by : PySem.W.codeIn K cd_Timetable_joined_by "Timetable.joined_by" = true)
    (k_Timetable_joined_by : PySem.W.keepIn K (.ref f_Timetable_joined_by) = true)
    {f_Timetable_time_of : Addr} {od_Timetable_time_of an_Timetable_time_of : Option Addr} {sl_Timetable_time_of : Array (Option Value)} {oc_Timetable_time_of kV_Timetable_time_of dc_Timetable_time_of pm_Timetable_time_of ct_Timetable_time_of cd_Timetable_time_of : Value}
    (a_Timetable_time_of : PySem.W.findIn K (.ref CTimetable) "time_of" = some (some (.ref f_Timetable_time_of)))
    (i_Timetable_time_of : PySem.W.isFn K (.ref f_Timetable_time_of) = true)
    (l_Timetable_time_of : K.lookup f_Timetable_time_of = some ⟨oc_Timetable_time_of, od_Timetable_time_of, .func (PySem.W.fnOf "time_of" "Timetable.time_of" (defArgs s_Timetable_time_of) (defBody s_Timetable_time_of) (defScope s_Timetable_time_of) .none kV_Timetable_time_of dc_Timetable_time_of pm_Timetable_time_of an_Timetable_time_of cd_Timetable_time_of ct_Timetable_time_of), sl_Timetable_time_of⟩)
    (c_Timetable_time_of : PySem.W.codeIn K cd_Timetable_time_of "Timetable.time_of" = true)
    (k_Timetable_time_of : PySem.W.keepIn K (.ref f_Timetable_time_of) = true)
    {f_Timetable_first_number : Addr} {od_Timetable_first_number an_Timetable_first_number : Option Addr} {sl_Timetable_first_number : Array (Option Value)} {oc_Timetable_first_number kV_Timetable_first_number dc_Timetable_first_number pm_Timetable_first_number ct_Timetable_first_number cd_Timetable_first_number : Value}
    (a_Timetable_first_number : PySem.W.findIn K (.ref CTimetable) "first_number" = some (some (.ref f_Timetable_first_number)))
    (i_Timetable_first_number : PySem.W.isFn K (.ref f_Timetable_first_number) = true)
    (l_Timetable_first_number : K.lookup f_Timetable_first_number = some ⟨oc_Timetable_first_number, od_Timetable_first_number, .func (PySem.W.fnOf "first_number" "Timetable.first_number" (defArgs s_Timetable_first_number) (defBody s_Timetable_first_number) (defScope s_Timetable_first_number) .none kV_Timetable_first_number dc_Timetable_first_number pm_Timetable_first_number an_Timetable_first_number cd_Timetable_first_number ct_Timetable_first_number), sl_Timetable_first_number⟩)
    (c_Timetable_first_number : PySem.W.codeIn K cd_Timetable_first_number "Timetable.first_number" = true)
    (k_Timetable_first_number : PySem.W.keepIn K (.ref f_Timetable_first_number) = true)
    {f_Timetable_labels : Addr} {od_Timetable_labels an_Timetable_labels : Option Addr} {sl_Timetable_labels : Array (Option Value)} {oc_Timetable_labels kV_Timetable_labels dc_Timetable_labels pm_Timetable_labels ct_Timetable_labels cd_Timetable_labels : Value}
    (a_Timetable_labels : PySem.W.findIn K (.ref CTimetable) "labels" = some (some (.ref f_Timetable_labels)))
    (i_Timetable_labels : PySem.W.isFn K (.ref f_Timetable_labels) = true)
    (l_Timetable_labels : K.lookup f_Timetable_labels = some ⟨oc_Timetable_labels, od_Timetable_labels, .func (PySem.W.fnOf "labels" "Timetable.labels" (defArgs s_Timetable_labels) (defBody s_Timetable_labels) (defScope s_Timetable_labels) .none kV_Timetable_labels dc_Timetable_labels pm_Timetable_labels an_Timetable_labels cd_Timetable_labels ct_Timetable_labels), sl_Timetable_labels⟩)
    (c_Timetable_labels : PySem.W.codeIn K cd_Timetable_labels "Timetable.labels" = true)
    (k_Timetable_labels : PySem.W.keepIn K (.ref f_Timetable_labels) = true)
    {f_Timetable_arrival_at : Addr} {od_Timetable_arrival_at an_Timetable_arrival_at : Option Addr} {sl_Timetable_arrival_at : Array (Option Value)} {oc_Timetable_arrival_at kV_Timetable_arrival_at dc_Timetable_arrival_at pm_Timetable_arrival_at ct_Timetable_arrival_at cd_Timetable_arrival_at : Value}
    (a_Timetable_arrival_at : PySem.W.findIn K (.ref CTimetable) "arrival_at" = some (some (.ref f_Timetable_arrival_at)))
    (i_Timetable_arrival_at : PySem.W.isFn K (.ref f_Timetable_arrival_at) = true)
    (l_Timetable_arrival_at : K.lookup f_Timetable_arrival_at = some ⟨oc_Timetable_arrival_at, od_Timetable_arrival_at, .func (PySem.W.fnOf "arrival_at" "Timetable.arrival_at" (defArgs s_Timetable_arrival_at) (defBody s_Timetable_arrival_at) (defScope s_Timetable_arrival_at) .none kV_Timetable_arrival_at dc_Timetable_arrival_at pm_Timetable_arrival_at an_Timetable_arrival_at cd_Timetable_arrival_at ct_Timetable_arrival_at), sl_Timetable_arrival_at⟩)
    (c_Timetable_arrival_at : PySem.W.codeIn K cd_Timetable_arrival_at "Timetable.arrival_at" = true)
    (k_Timetable_arrival_at : PySem.W.keepIn K (.ref f_Timetable_arrival_at) = true)
    {f_Timetable_source : Addr} {od_Timetable_source an_Timetable_source : Option Addr} {sl_Timetable_source : Array (Option Value)} {oc_Timetable_source kV_Timetable_source dc_Timetable_source pm_Timetable_source ct_Timetable_source cd_Timetable_source : Value}
    (a_Timetable_source : PySem.W.findIn K (.ref CTimetable) "source" = some (some (.ref f_Timetable_source)))
    (i_Timetable_source : PySem.W.isFn K (.ref f_Timetable_source) = true)
    (l_Timetable_source : K.lookup f_Timetable_source = some ⟨oc_Timetable_source, od_Timetable_source, .func (PySem.W.fnOf "source" "Timetable.source" (defArgs s_Timetable_source) (defBody s_Timetable_source) (defScope s_Timetable_source) .none kV_Timetable_source dc_Timetable_source pm_Timetable_source an_Timetable_source cd_Timetable_source ct_Timetable_source), sl_Timetable_source⟩)
    (c_Timetable_source : PySem.W.codeIn K cd_Timetable_source "Timetable.source" = true)
    (k_Timetable_source : PySem.W.keepIn K (.ref f_Timetable_source) = true)
    {f_Timetable_passenger : Addr} {od_Timetable_passenger an_Timetable_passenger : Option Addr} {sl_Timetable_passenger : Array (Option Value)} {oc_Timetable_passenger kV_Timetable_passenger dc_Timetable_passenger pm_Timetable_passenger ct_Timetable_passenger cd_Timetable_passenger : Value}
    (a_Timetable_passenger : PySem.W.findIn K (.ref CTimetable) "passenger" = some (some (.ref f_Timetable_passenger)))
    (i_Timetable_passenger : PySem.W.isFn K (.ref f_Timetable_passenger) = true)
    (l_Timetable_passenger : K.lookup f_Timetable_passenger = some ⟨oc_Timetable_passenger, od_Timetable_passenger, .func (PySem.W.fnOf "passenger" "Timetable.passenger" (defArgs s_Timetable_passenger) (defBody s_Timetable_passenger) (defScope s_Timetable_passenger) .none kV_Timetable_passenger dc_Timetable_passenger pm_Timetable_passenger an_Timetable_passenger cd_Timetable_passenger ct_Timetable_passenger), sl_Timetable_passenger⟩)
    (c_Timetable_passenger : PySem.W.codeIn K cd_Timetable_passenger "Timetable.passenger" = true)
    (k_Timetable_passenger : PySem.W.keepIn K (.ref f_Timetable_passenger) = true)
    {t_0 : Nat}
    (m0 : PySem.W.nsIn K mainGlobals "MAX_COUNT" = some (some (.int 1000000000000000000 t_0)))
    {t_1 : Nat}
    (m1 : PySem.W.nsIn K mainGlobals "MAX_STATIONS" = some (some (.int 40 t_1)))
    {t_2 : Nat}
    (m2 : PySem.W.nsIn K mainGlobals "MAX_SEATS" = some (some (.int 8 t_2)))
    {t_3 : Nat}
    (m3 : PySem.W.nsIn K mainGlobals "MAX_LETTERS" = some (some (.int 8 t_3)))
    {z_ZERO : Addr} {zo_ZERO : Option Addr} {zn_ZERO : Nat} {zs_ZERO : Array (Option Value)} {zt_ZERO_0 : Nat} {zt_ZERO_1 : Nat}
    (m4 : PySem.W.nsIn K mainGlobals "ZERO" = some (some (.ref z_ZERO)))
    (q_4 : K.lookup z_ZERO = some ⟨.type "tuple", zo_ZERO, .seq #[.int 0 zt_ZERO_0, .int 1 zt_ZERO_1] zn_ZERO, zs_ZERO⟩)
    {z_ONE : Addr} {zo_ONE : Option Addr} {zn_ONE : Nat} {zs_ONE : Array (Option Value)} {zt_ONE_0 : Nat} {zt_ONE_1 : Nat}
    (m5 : PySem.W.nsIn K mainGlobals "ONE" = some (some (.ref z_ONE)))
    (q_5 : K.lookup z_ONE = some ⟨.type "tuple", zo_ONE, .seq #[.int 1 zt_ONE_0, .int 1 zt_ONE_1] zn_ONE, zs_ONE⟩)
    {t_6 : Nat}
    (m6 : PySem.W.nsIn K mainGlobals "MAX_CANDIDATES" = some (some (.int 1000 t_6)))
    {t_7 : Nat}
    (m7 : PySem.W.nsIn K mainGlobals "MAX_NUMBER" = some (some (.int 1000000 t_7)))
    {t_8 : Nat}
    (m8 : PySem.W.nsIn K mainGlobals "MAX_LIMIT" = some (some (.int 50 t_8)))
    (im_gcd : PySem.W.nsIn K mainGlobals "gcd" = some (some (.builtin "math.gcd")))
    (im_lcm : PySem.W.nsIn K mainGlobals "lcm" = some (some (.builtin "math.lcm")))
    (z0 : PySem.W.nsIn K mainGlobals "range" = some none)
    (z1 : PySem.W.nsIn K mainGlobals "tuple" = some none)
    (z2 : PySem.W.nsIn K mainGlobals "min" = some none)
    (z3 : PySem.W.nsIn K mainGlobals "isinstance" = some none)
    (z4 : PySem.W.nsIn K mainGlobals "str" = some none)
    (z5 : PySem.W.nsIn K mainGlobals "dict" = some none)
    (z6 : PySem.W.nsIn K mainGlobals "bool" = some none)
    (z7 : PySem.W.nsIn K mainGlobals "sorted" = some none)
    (z8 : PySem.W.nsIn K mainGlobals "set" = some none)
    (z9 : PySem.W.nsIn K mainGlobals "enumerate" = some none)
    (z10 : PySem.W.nsIn K mainGlobals "all" = some none)
    (z11 : PySem.W.nsIn K mainGlobals "len" = some none)
    (z12 : PySem.W.nsIn K mainGlobals "list" = some none)
    (z13 : PySem.W.nsIn K mainGlobals "int" = some none)
    (z14 : PySem.W.nsIn K mainGlobals "max" = some none)
    (z15 : PySem.W.nsIn K mainGlobals "sum" = some none)
    (z16 : PySem.W.nsIn K mainGlobals "zip" = some none)
    (z17 : PySem.W.nsIn K mainGlobals "abs" = some none)
    (z18 : PySem.W.nsIn K mainGlobals "reversed" = some none)
    (z19 : PySem.W.nsIn K mainGlobals "any" = some none)
    (zdm : PySem.W.nsIn K mainGlobals "divmod" = some none)
    {C12 : Addr}
    (e12 : PySem.W.nsIn K mainGlobals "Contradiction" = some (some (.ref C12)))
    (r12 : rzB K C12 = true)
    : ∃ fd : FuncData, (∀ (s : Shared) (v : Value), BindsTo s fd ⟨[v], []⟩ [("_law_script", v)]) ∧ ∀ base : Heap, K.In base → base.Ns mainGlobals mg → FnOk l.prog w K mg base CX0 25 fa fd ["_law_script"] (spLaw K) := by
  have e := hfa.symm.trans (PySem.W.mg_of X G a31)
  cases e
  have F0 := fun_mk (st := s_check_count) l0 c0 k0
  have D_check_count : Df K mg "check_count" s_check_count ["count", "least", "most"] f0 _ := ⟨F0, PySem.W.mg_of X G a0, F0.binds (ps := ["count", "least", "most"]) fun _ _ _ _ _ _ us hl => match us, hl with | [_, _, _], _ => rfl⟩
  have F1 := fun_mk (st := s_is_letters) l1 c1 k1
  have D_is_letters : Df K mg "is_letters" s_is_letters ["text"] f1 _ := ⟨F1, PySem.W.mg_of X G a1, F1.binds (ps := ["text"]) fun _ _ _ _ _ _ us hl => match us, hl with | [_], _ => rfl⟩
  have F2 := fun_mk (st := s_is_word) l2 c2 k2
  have D_is_word : Df K mg "is_word" s_is_word ["text"] f2 _ := ⟨F2, PySem.W.mg_of X G a2, F2.binds (ps := ["text"]) fun _ _ _ _ _ _ us hl => match us, hl with | [_], _ => rfl⟩
  have F3 := fun_mk (st := s_is_place) l3 c3 k3
  have D_is_place : Df K mg "is_place" s_is_place ["place", "station", "stations"] f3 _ := ⟨F3, PySem.W.mg_of X G a3, F3.binds (ps := ["place", "station", "stations"]) fun _ _ _ _ _ _ us hl => match us, hl with | [_, _, _], _ => rfl⟩
  have F4 := fun_mk (st := s_check_network) l4 c4 k4
  have D_check_network : Df K mg "check_network" s_check_network ["network"] f4 _ := ⟨F4, PySem.W.mg_of X G a4, F4.binds (ps := ["network"]) fun _ _ _ _ _ _ us hl => match us, hl with | [_], _ => rfl⟩
  have hcd_reachable_stations := s5
  have F5 := fun_mk (st := s_reachable_stations) l5 c5 k5
  have D_reachable_stations : Df K mg "reachable_stations" s_reachable_stations ["network"] f5 _ := ⟨F5, PySem.W.mg_of X G a5, F5.binds (ps := ["network"]) fun _ _ _ _ _ _ us hl => match us, hl with | [_], _ => rfl⟩
  have F6 := fun_mk (st := s_ports) l6 c6 k6
  have D_ports : Df K mg "ports" s_ports ["network"] f6 _ := ⟨F6, PySem.W.mg_of X G a6, F6.binds (ps := ["network"]) fun _ _ _ _ _ _ us hl => match us, hl with | [_], _ => rfl⟩
  have F7 := fun_mk (st := s_check_state) l7 c7 k7
  have D_check_state : Df K mg "check_state" s_check_state ["network", "state"] f7 _ := ⟨F7, PySem.W.mg_of X G a7, F7.binds (ps := ["network", "state"]) fun _ _ _ _ _ _ us hl => match us, hl with | [_, _], _ => rfl⟩
  have F8 := fun_mk (st := s_check_passengers) l8 c8 k8
  have D_check_passengers : Dfa K mg "check_passengers_states" "check_passengers" s_check_passengers ["next_passenger", "queues"] f8 _ := ⟨F8, PySem.W.mg_of X G a8, F8.binds (ps := ["next_passenger", "queues"]) fun _ _ _ _ _ _ us hl => match us, hl with | [_, _], _ => rfl⟩
  have F9 := fun_mk (st := s_queue_lengths) l9 c9 k9
  have D_queue_lengths : Df K mg "queue_lengths" s_queue_lengths ["state"] f9 _ := ⟨F9, PySem.W.mg_of X G a9, F9.binds (ps := ["state"]) fun _ _ _ _ _ _ us hl => match us, hl with | [_], _ => rfl⟩
  have F10 := fun_mk (st := s_join_queue) l10 c10 k10
  have D_join_queue : Df K mg "join_queue" s_join_queue ["network", "queues", "station", "passenger", "events"] f10 _ := ⟨F10, PySem.W.mg_of X G a10, F10.binds (ps := ["network", "queues", "station", "passenger", "events"]) fun _ _ _ _ _ _ us hl => match us, hl with | [_, _, _, _, _], _ => rfl⟩
  have F11 := fun_mk (st := s_depart) l11 c11 k11
  have D_depart : Df K mg "depart" s_depart ["network", "queues", "station", "events"] f11 _ := ⟨F11, PySem.W.mg_of X G a11, F11.binds (ps := ["network", "queues", "station", "events"]) fun _ _ _ _ _ _ us hl => match us, hl with | [_, _, _, _], _ => rfl⟩
  have F12 := fun_mk (st := s_lowest_terms) l12 c12 k12
  have D_lowest_terms : Df K mg "lowest_terms" s_lowest_terms ["numerator", "denominator"] f12 _ := ⟨F12, PySem.W.mg_of X G a12, F12.binds (ps := ["numerator", "denominator"]) fun _ _ _ _ _ _ us hl => match us, hl with | [_, _], _ => rfl⟩
  have F13 := fun_mk (st := s_add) l13 c13 k13
  have D_add : Df K mg "add" s_add ["one", "other"] f13 _ := ⟨F13, PySem.W.mg_of X G a13, F13.binds (ps := ["one", "other"]) fun _ _ _ _ _ _ us hl => match us, hl with | [_, _], _ => rfl⟩
  have F14 := fun_mk (st := s_divide) l14 c14 k14
  have D_divide : Df K mg "divide" s_divide ["fraction", "integer"] f14 _ := ⟨F14, PySem.W.mg_of X G a14, F14.binds (ps := ["fraction", "integer"]) fun _ _ _ _ _ _ us hl => match us, hl with | [_, _], _ => rfl⟩
  have F15 := fun_mk (st := s_period) l15 c15 k15
  have D_period : Df K mg "period" s_period ["network"] f15 _ := ⟨F15, PySem.W.mg_of X G a15, F15.binds (ps := ["network"]) fun _ _ _ _ _ _ us hl => match us, hl with | [_], _ => rfl⟩
  have F16 := fun_mk (st := s_list_averages) l16 c16 k16
  have D_list_averages : Df K mg "list_averages" s_list_averages ["network"] f16 _ := ⟨F16, PySem.W.mg_of X G a16, F16.binds (ps := ["network"]) fun _ _ _ _ _ _ us hl => match us, hl with | [_], _ => rfl⟩
  have F17 := fun_mk (st := s_check_passengers_o) l17 c17 k17
  have D_check_passengers_o : Dfa K mg "check_passengers_observers" "check_passengers" s_check_passengers_o ["passengers"] f17 _ := ⟨F17, PySem.W.mg_of X G a17, F17.binds (ps := ["passengers"]) fun _ _ _ _ _ _ us hl => match us, hl with | [_], _ => rfl⟩
  have F18 := fun_mk (st := s_list_lengths) l18 c18 k18
  have D_list_lengths : Df K mg "list_lengths" s_list_lengths ["network"] f18 _ := ⟨F18, PySem.W.mg_of X G a18, F18.binds (ps := ["network"]) fun _ _ _ _ _ _ us hl => match us, hl with | [_], _ => rfl⟩
  have F19 := fun_mk (st := s_find_phases) l19 c19 k19
  have D_find_phases : Df K mg "find_phases" s_find_phases ["network", "candidates"] f19 _ := ⟨F19, PySem.W.mg_of X G a19, F19.binds (ps := ["network", "candidates"]) fun _ _ _ _ _ _ us hl => match us, hl with | [_, _], _ => rfl⟩
  have F20 := fun_mk (st := s_find_feeders) l20 c20 k20
  have D_find_feeders : Df K mg "find_feeders" s_find_feeders ["network"] f20 _ := ⟨F20, PySem.W.mg_of X G a20, F20.binds (ps := ["network"]) fun _ _ _ _ _ _ us hl => match us, hl with | [_], _ => rfl⟩
  have F21 := fun_mk (st := s_count_brought) l21 c21 k21
  have D_count_brought : Df K mg "count_brought" s_count_brought ["sources", "boats"] f21 _ := ⟨F21, PySem.W.mg_of X G a21, F21.binds (ps := ["sources", "boats"]) fun _ _ _ _ _ _ us hl => match us, hl with | [_, _], _ => rfl⟩
  have F22 := fun_mk (st := s_count_departures) l22 c22 k22
  have D_count_departures : Df K mg "count_departures" s_count_departures ["network", "feeders", "lengths", "arrivals"] f22 _ := ⟨F22, PySem.W.mg_of X G a22, F22.binds (ps := ["network", "feeders", "lengths", "arrivals"]) fun _ _ _ _ _ _ us hl => match us, hl with | [_, _, _, _], _ => rfl⟩
  have F23 := fun_mk (st := s_finisher) l23 c23 k23
  have D_finisher : Df K mg "finisher" s_finisher ["network", "state", "port", "number"] f23 _ := ⟨F23, PySem.W.mg_of X G a23, F23.binds (ps := ["network", "state", "port", "number"]) fun _ _ _ _ _ _ us hl => match us, hl with | [_, _, _, _], _ => rfl⟩
  have F24 := fun_mk (st := s_l_mix) l24 c24 k24
  have D_l_mix : Df K mg "_law_mix" s_l_mix ["_law_script", "_law_seed"] f24 _ := ⟨F24, PySem.W.mg_of X G a24, F24.binds (ps := ["_law_script", "_law_seed"]) fun _ _ _ _ _ _ us hl => match us, hl with | [_, _], _ => rfl⟩
  have F25 := fun_mk (st := s_l_next) l25 c25 k25
  have D_l_next : Df K mg "_law_next" s_l_next ["_law_h", "_law_limit"] f25 _ := ⟨F25, PySem.W.mg_of X G a25, F25.binds (ps := ["_law_h", "_law_limit"]) fun _ _ _ _ _ _ us hl => match us, hl with | [_, _], _ => rfl⟩
  have F26 := fun_mk (st := s_l_alike) l26 c26 k26
  have D_l_alike : Df K mg "_law_alike" s_l_alike ["_law_found", "_law_due"] f26 _ := ⟨F26, PySem.W.mg_of X G a26, F26.binds (ps := ["_law_found", "_law_due"]) fun _ _ _ _ _ _ us hl => match us, hl with | [_, _], _ => rfl⟩
  have F27 := fun_mk (st := s_l_place) l27 c27 k27
  have D_l_place : Df K mg "_law_place" s_l_place ["_law_h", "_law_station", "_law_count"] f27 _ := ⟨F27, PySem.W.mg_of X G a27, F27.binds (ps := ["_law_h", "_law_station", "_law_count"]) fun _ _ _ _ _ _ us hl => match us, hl with | [_, _, _], _ => rfl⟩
  have F28 := fun_mk (st := s_l_network) l28 c28 k28
  have D_l_network : Df K mg "_law_network" s_l_network ["_law_h", "_law_most"] f28 _ := ⟨F28, PySem.W.mg_of X G a28, F28.binds (ps := ["_law_h", "_law_most"]) fun _ _ _ _ _ _ us hl => match us, hl with | [_, _], _ => rfl⟩
  have F29 := fun_mk (st := s_l_candidates) l29 c29 k29
  have D_l_candidates : Df K mg "_law_candidates" s_l_candidates ["_law_network_here"] f29 _ := ⟨F29, PySem.W.mg_of X G a29, F29.binds (ps := ["_law_network_here"]) fun _ _ _ _ _ _ us hl => match us, hl with | [_], _ => rfl⟩
  have F30 := fun_mk (st := s_l_known) l30 c30 k30
  have D_l_known : Df K mg "_law_known" s_l_known ["_law_network_here", "_law_lengths", "_law_port", "_law_number"] f30 _ := ⟨F30, PySem.W.mg_of X G a30, F30.binds (ps := ["_law_network_here", "_law_lengths", "_law_port", "_law_number"]) fun _ _ _ _ _ _ us hl => match us, hl with | [_, _, _, _], _ => rfl⟩
  have F31 := fun_mk (st := s_law) l31 c31 k31
  have clsCycle : Cls K CCycle := ⟨pgCycle, hdCycle, poCycle, saCycle⟩
  have FCycle : _root_.K.CF K CCycle := ⟨clsCycle, nCycle_network, nCycle_period, nCycle_rows, nCycle_lengths_at, nCycle_rows_at⟩
  have F_Cycle_init := fun_mk (st := s_Cycle___init) l_Cycle_init c_Cycle_init k_Cycle_init
  have b_Cycle_init := F_Cycle_init.binds (ps := ["self", "network", "lengths", "period"]) fun _ _ _ _ _ _ us hl => match us, hl with | [_, _, _, _], _ => rfl
  have C_Cycle : Cf K mg "Cycle" "Cycle.__init__" CCycle s_Cycle___init ["self", "network", "lengths", "period"] f_Cycle_init _ := ⟨F_Cycle_init, ⟨mkCycle, a_Cycle_init, i_Cycle_init, kpCycle⟩, PySem.W.mg_of X G gCycle, b_Cycle_init, clsCycle⟩
  have F_Cycle_run_before := fun_mk (st := s_Cycle_run_before) l_Cycle_run_before c_Cycle_run_before k_Cycle_run_before
  have b_Cycle_run_before := F_Cycle_run_before.binds (ps := ["self", "lengths"]) fun _ _ _ _ _ _ us hl => match us, hl with | [_, _], _ => rfl
  have M_run_before : Mf K CCycle "run_before" "Cycle.run_before" s_Cycle_run_before ["self", "lengths"] f_Cycle_run_before _ := ⟨F_Cycle_run_before, ⟨a_Cycle_run_before, i_Cycle_run_before, k_Cycle_run_before⟩, b_Cycle_run_before⟩
  have F_Cycle_run_period := fun_mk (st := s_Cycle_run_period) l_Cycle_run_period c_Cycle_run_period k_Cycle_run_period
  have b_Cycle_run_period := F_Cycle_run_period.binds (ps := ["self", "queues"]) fun _ _ _ _ _ _ us hl => match us, hl with | [_, _], _ => rfl
  have M_run_period : Mf K CCycle "run_period" "Cycle.run_period" s_Cycle_run_period ["self", "queues"] f_Cycle_run_period _ := ⟨F_Cycle_run_period, ⟨a_Cycle_run_period, i_Cycle_run_period, k_Cycle_run_period⟩, b_Cycle_run_period⟩
  have F_Cycle_row := fun_mk (st := s_Cycle_row) l_Cycle_row c_Cycle_row k_Cycle_row
  have b_Cycle_row := F_Cycle_row.binds (ps := ["self", "phase", "place", "number"]) fun _ _ _ _ _ _ us hl => match us, hl with | [_, _, _, _], _ => rfl
  have M_row : Mf K CCycle "row" "Cycle.row" s_Cycle_row ["self", "phase", "place", "number"] f_Cycle_row _ := ⟨F_Cycle_row, ⟨a_Cycle_row, i_Cycle_row, k_Cycle_row⟩, b_Cycle_row⟩
  have clsObserver : Cls K CObserver := ⟨pgObserver, hdObserver, poObserver, saObserver⟩
  have FObserver : OF K CObserver := ⟨clsObserver, nObserver_network, nObserver_known_ports, nObserver_remaining, nObserver_phases, nObserver_observations⟩
  have F_Observer_init := fun_mk (st := s_Observer___init) l_Observer_init c_Observer_init k_Observer_init
  have b_Observer_init := F_Observer_init.binds (ps := ["self", "network"]) fun _ _ _ _ _ _ us hl => match us, hl with | [_, _], _ => rfl
  have C_Observer : Cf K mg "Observer" "Observer.__init__" CObserver s_Observer___init ["self", "network"] f_Observer_init _ := ⟨F_Observer_init, ⟨mkObserver, a_Observer_init, i_Observer_init, kpObserver⟩, PySem.W.mg_of X G gObserver, b_Observer_init, clsObserver⟩
  have F_Observer_see_finisher := fun_mk (st := s_Observer_see_finisher) l_Observer_see_finisher c_Observer_see_finisher k_Observer_see_finisher
  have b_Observer_see_finisher := F_Observer_see_finisher.binds (ps := ["self", "port", "number", "passenger"]) fun _ _ _ _ _ _ us hl => match us, hl with | [_, _, _, _], _ => rfl
  have M_see_finisher : Mf K CObserver "see_finisher" "Observer.see_finisher" s_Observer_see_finisher ["self", "port", "number", "passenger"] f_Observer_see_finisher _ := ⟨F_Observer_see_finisher, ⟨a_Observer_see_finisher, i_Observer_see_finisher, k_Observer_see_finisher⟩, b_Observer_see_finisher⟩
  have F_Observer_candidates := fun_mk (st := s_Observer_candidates) l_Observer_candidates c_Observer_candidates k_Observer_candidates
  have b_Observer_candidates := F_Observer_candidates.binds (ps := ["self"]) fun _ _ _ _ _ _ us hl => match us, hl with | [_], _ => rfl
  have M_candidates : Mf K CObserver "candidates" "Observer.candidates" s_Observer_candidates ["self"] f_Observer_candidates _ := ⟨F_Observer_candidates, ⟨a_Observer_candidates, i_Observer_candidates, k_Observer_candidates⟩, b_Observer_candidates⟩
  have F_Observer_possible_finishers := fun_mk (st := s_Observer_possible_finishers) l_Observer_possible_finishers c_Observer_possible_finishers k_Observer_possible_finishers
  have b_Observer_possible_finishers := F_Observer_possible_finishers.binds (ps := ["self", "port", "number"]) fun _ _ _ _ _ _ us hl => match us, hl with | [_, _, _], _ => rfl
  have M_possible_finishers : Mf K CObserver "possible_finishers" "Observer.possible_finishers" s_Observer_possible_finishers ["self", "port", "number"] f_Observer_possible_finishers _ := ⟨F_Observer_possible_finishers, ⟨a_Observer_possible_finishers, i_Observer_possible_finishers, k_Observer_possible_finishers⟩, b_Observer_possible_finishers⟩
  have F_Observer_best_number := fun_mk (st := s_Observer_best_number) l_Observer_best_number c_Observer_best_number k_Observer_best_number
  have b_Observer_best_number := F_Observer_best_number.binds (ps := ["self", "port", "limit"]) fun _ _ _ _ _ _ us hl => match us, hl with | [_, _, _], _ => rfl
  have M_best_number : Mf K CObserver "best_number" "Observer.best_number" s_Observer_best_number ["self", "port", "limit"] f_Observer_best_number _ := ⟨F_Observer_best_number, ⟨a_Observer_best_number, i_Observer_best_number, k_Observer_best_number⟩, b_Observer_best_number⟩
  have F_Observer_check_port := fun_mk (st := s_Observer_check_port) l_Observer_check_port c_Observer_check_port k_Observer_check_port
  have b_Observer_check_port := F_Observer_check_port.binds (ps := ["self", "port"]) fun _ _ _ _ _ _ us hl => match us, hl with | [_, _], _ => rfl
  have M_check_port : Mf K CObserver "check_port" "Observer.check_port" s_Observer_check_port ["self", "port"] f_Observer_check_port _ := ⟨F_Observer_check_port, ⟨a_Observer_check_port, i_Observer_check_port, k_Observer_check_port⟩, b_Observer_check_port⟩
  have F_Observer_list_rows := fun_mk (st := s_Observer_list_rows) l_Observer_list_rows c_Observer_list_rows k_Observer_list_rows
  have b_Observer_list_rows := F_Observer_list_rows.binds (ps := ["self", "place", "number"]) fun _ _ _ _ _ _ us hl => match us, hl with | [_, _, _], _ => rfl
  have M_list_rows : Mf K CObserver "list_rows" "Observer.list_rows" s_Observer_list_rows ["self", "place", "number"] f_Observer_list_rows _ := ⟨F_Observer_list_rows, ⟨a_Observer_list_rows, i_Observer_list_rows, k_Observer_list_rows⟩, b_Observer_list_rows⟩
  have F_Observer_list_finishers := fun_mk (st := s_Observer_list_finishers) l_Observer_list_finishers c_Observer_list_finishers k_Observer_list_finishers
  have b_Observer_list_finishers := F_Observer_list_finishers.binds (ps := ["self", "port", "number"]) fun _ _ _ _ _ _ us hl => match us, hl with | [_, _, _], _ => rfl
  have M_list_finishers : Mf K CObserver "list_finishers" "Observer.list_finishers" s_Observer_list_finishers ["self", "port", "number"] f_Observer_list_finishers _ := ⟨F_Observer_list_finishers, ⟨a_Observer_list_finishers, i_Observer_list_finishers, k_Observer_list_finishers⟩, b_Observer_list_finishers⟩
  have F_Observer_count_agreeing := fun_mk (st := s_Observer_count_agreeing) l_Observer_count_agreeing c_Observer_count_agreeing k_Observer_count_agreeing
  have b_Observer_count_agreeing := F_Observer_count_agreeing.binds (ps := ["self", "port", "number"]) fun _ _ _ _ _ _ us hl => match us, hl with | [_, _, _], _ => rfl
  have M_count_agreeing : Mf K CObserver "count_agreeing" "Observer.count_agreeing" s_Observer_count_agreeing ["self", "port", "number"] f_Observer_count_agreeing _ := ⟨F_Observer_count_agreeing, ⟨a_Observer_count_agreeing, i_Observer_count_agreeing, k_Observer_count_agreeing⟩, b_Observer_count_agreeing⟩
  have F_Observer_accept := fun_mk (st := s_Observer_accept) l_Observer_accept c_Observer_accept k_Observer_accept
  have b_Observer_accept := F_Observer_accept.binds (ps := ["self", "agreeing", "observation"]) fun _ _ _ _ _ _ us hl => match us, hl with | [_, _, _], _ => rfl
  have M_accept : Mf K CObserver "accept" "Observer.accept" s_Observer_accept ["self", "agreeing", "observation"] f_Observer_accept _ := ⟨F_Observer_accept, ⟨a_Observer_accept, i_Observer_accept, k_Observer_accept⟩, b_Observer_accept⟩
  have clsArrival : Cls K CArrival := ⟨pgArrival, hdArrival, poArrival, saArrival⟩
  have FArrival : AF K CArrival := ⟨clsArrival, nArrival_events, nArrival_queues⟩
  have F_Arrival_init := fun_mk (st := s_Arrival___init) l_Arrival_init c_Arrival_init k_Arrival_init
  have b_Arrival_init := F_Arrival_init.binds (ps := ["self", "network", "queues", "newcomer"]) fun _ _ _ _ _ _ us hl => match us, hl with | [_, _, _, _], _ => rfl
  have C_Arrival : Cf K mg "Arrival" "Arrival.__init__" CArrival s_Arrival___init ["self", "network", "queues", "newcomer"] f_Arrival_init _ := ⟨F_Arrival_init, ⟨mkArrival, a_Arrival_init, i_Arrival_init, kpArrival⟩, PySem.W.mg_of X G gArrival, b_Arrival_init, clsArrival⟩
  have F_Arrival_line := fun_mk (st := s_Arrival_line) l_Arrival_line c_Arrival_line k_Arrival_line
  have b_Arrival_line := F_Arrival_line.binds (ps := ["self", "place"]) fun _ _ _ _ _ _ us hl => match us, hl with | [_, _], _ => rfl
  have M_line : Mf K CArrival "line" "Arrival.line" s_Arrival_line ["self", "place"] f_Arrival_line _ := ⟨F_Arrival_line, ⟨a_Arrival_line, i_Arrival_line, k_Arrival_line⟩, b_Arrival_line⟩
  have clsTimetable : Cls K CTimetable := ⟨pgTimetable, hdTimetable, poTimetable, saTimetable⟩
  have FTimetable : TF K CTimetable := ⟨clsTimetable, nTimetable_network, nTimetable_next_passenger, nTimetable_waiting, nTimetable_lengths, nTimetable_feeders, nTimetable_known_boats⟩
  have F_Timetable_init := fun_mk (st := s_Timetable___init) l_Timetable_init c_Timetable_init k_Timetable_init
  have b_Timetable_init := F_Timetable_init.binds (ps := ["self", "network", "state"]) fun _ _ _ _ _ _ us hl => match us, hl with | [_, _, _], _ => rfl
  have C_Timetable : Cf K mg "Timetable" "Timetable.__init__" CTimetable s_Timetable___init ["self", "network", "state"] f_Timetable_init _ := ⟨F_Timetable_init, ⟨mkTimetable, a_Timetable_init, i_Timetable_init, kpTimetable⟩, PySem.W.mg_of X G gTimetable, b_Timetable_init, clsTimetable⟩
  have F_Timetable_boats_by := fun_mk (st := s_Timetable_boats_by) l_Timetable_boats_by c_Timetable_boats_by k_Timetable_boats_by
  have b_Timetable_boats_by := F_Timetable_boats_by.binds (ps := ["self", "time"]) fun _ _ _ _ _ _ us hl => match us, hl with | [_, _], _ => rfl
  have M_boats_by : Mf K CTimetable "boats_by" "Timetable.boats_by" s_Timetable_boats_by ["self", "time"] f_Timetable_boats_by _ := ⟨F_Timetable_boats_by, ⟨a_Timetable_boats_by, i_Timetable_boats_by, k_Timetable_boats_by⟩, b_Timetable_boats_by⟩
  have F_Timetable_joined_by := fun_mk (st := s_Timetable_joined_by) l_Timetable_joined_by c_Timetable_joined_by k_Timetable_joined_by
  have b_Timetable_joined_by := F_Timetable_joined_by.binds (ps := ["self", "place", "time"]) fun _ _ _ _ _ _ us hl => match us, hl with | [_, _, _], _ => rfl
  have M_joined_by : Mf K CTimetable "joined_by" "Timetable.joined_by" s_Timetable_joined_by ["self", "place", "time"] f_Timetable_joined_by _ := ⟨F_Timetable_joined_by, ⟨a_Timetable_joined_by, i_Timetable_joined_by, k_Timetable_joined_by⟩, b_Timetable_joined_by⟩
  have F_Timetable_time_of := fun_mk (st := s_Timetable_time_of) l_Timetable_time_of c_Timetable_time_of k_Timetable_time_of
  have b_Timetable_time_of := F_Timetable_time_of.binds (ps := ["self", "place", "number"]) fun _ _ _ _ _ _ us hl => match us, hl with | [_, _, _], _ => rfl
  have M_time_of : Mf K CTimetable "time_of" "Timetable.time_of" s_Timetable_time_of ["self", "place", "number"] f_Timetable_time_of _ := ⟨F_Timetable_time_of, ⟨a_Timetable_time_of, i_Timetable_time_of, k_Timetable_time_of⟩, b_Timetable_time_of⟩
  have F_Timetable_first_number := fun_mk (st := s_Timetable_first_number) l_Timetable_first_number c_Timetable_first_number k_Timetable_first_number
  have b_Timetable_first_number := F_Timetable_first_number.binds (ps := ["self", "station", "boat_number"]) fun _ _ _ _ _ _ us hl => match us, hl with | [_, _, _], _ => rfl
  have M_first_number : Mf K CTimetable "first_number" "Timetable.first_number" s_Timetable_first_number ["self", "station", "boat_number"] f_Timetable_first_number _ := ⟨F_Timetable_first_number, ⟨a_Timetable_first_number, i_Timetable_first_number, k_Timetable_first_number⟩, b_Timetable_first_number⟩
  have F_Timetable_labels := fun_mk (st := s_Timetable_labels) l_Timetable_labels c_Timetable_labels k_Timetable_labels
  have b_Timetable_labels := F_Timetable_labels.binds (ps := ["self", "station", "time"]) fun _ _ _ _ _ _ us hl => match us, hl with | [_, _, _], _ => rfl
  have M_labels : Mf K CTimetable "labels" "Timetable.labels" s_Timetable_labels ["self", "station", "time"] f_Timetable_labels _ := ⟨F_Timetable_labels, ⟨a_Timetable_labels, i_Timetable_labels, k_Timetable_labels⟩, b_Timetable_labels⟩
  have F_Timetable_arrival_at := fun_mk (st := s_Timetable_arrival_at) l_Timetable_arrival_at c_Timetable_arrival_at k_Timetable_arrival_at
  have b_Timetable_arrival_at := F_Timetable_arrival_at.binds (ps := ["self", "time"]) fun _ _ _ _ _ _ us hl => match us, hl with | [_, _], _ => rfl
  have M_arrival_at : Mf K CTimetable "arrival_at" "Timetable.arrival_at" s_Timetable_arrival_at ["self", "time"] f_Timetable_arrival_at _ := ⟨F_Timetable_arrival_at, ⟨a_Timetable_arrival_at, i_Timetable_arrival_at, k_Timetable_arrival_at⟩, b_Timetable_arrival_at⟩
  have F_Timetable_source := fun_mk (st := s_Timetable_source) l_Timetable_source c_Timetable_source k_Timetable_source
  have b_Timetable_source := F_Timetable_source.binds (ps := ["self", "place", "number"]) fun _ _ _ _ _ _ us hl => match us, hl with | [_, _, _], _ => rfl
  have M_source : Mf K CTimetable "source" "Timetable.source" s_Timetable_source ["self", "place", "number"] f_Timetable_source _ := ⟨F_Timetable_source, ⟨a_Timetable_source, i_Timetable_source, k_Timetable_source⟩, b_Timetable_source⟩
  have F_Timetable_passenger := fun_mk (st := s_Timetable_passenger) l_Timetable_passenger c_Timetable_passenger k_Timetable_passenger
  have b_Timetable_passenger := F_Timetable_passenger.binds (ps := ["self", "place", "number"]) fun _ _ _ _ _ _ us hl => match us, hl with | [_, _, _], _ => rfl
  have M_passenger : Mf K CTimetable "passenger" "Timetable.passenger" s_Timetable_passenger ["self", "place", "number"] f_Timetable_passenger _ := ⟨F_Timetable_passenger, ⟨a_Timetable_passenger, i_Timetable_passenger, k_Timetable_passenger⟩, b_Timetable_passenger⟩
  have g_MAX_COUNT : ∃ t, mg "MAX_COUNT" = some (.int 1000000000000000000 t) := ⟨_, PySem.W.mg_of X G m0⟩
  have g_MAX_STATIONS : ∃ t, mg "MAX_STATIONS" = some (.int 40 t) := ⟨_, PySem.W.mg_of X G m1⟩
  have g_MAX_SEATS : ∃ t, mg "MAX_SEATS" = some (.int 8 t) := ⟨_, PySem.W.mg_of X G m2⟩
  have g_MAX_LETTERS : ∃ t, mg "MAX_LETTERS" = some (.int 8 t) := ⟨_, PySem.W.mg_of X G m3⟩
  have g_ZERO : mg "ZERO" = some (.ref z_ZERO) := PySem.W.mg_of X G m4
  have t_ZERO : ∀ H, SqT K H z_ZERO [.int 0, .int 1] := fun H => .inr ⟨_, _, _, q_4, rfl, rfl, by show 2 ≤ sizeLine; decide, (.cons ⟨_, rfl⟩ (.cons ⟨_, rfl⟩ .nil))⟩
  have g_ONE : mg "ONE" = some (.ref z_ONE) := PySem.W.mg_of X G m5
  have t_ONE : ∀ H, SqT K H z_ONE [.int 1, .int 1] := fun H => .inr ⟨_, _, _, q_5, rfl, rfl, by show 2 ≤ sizeLine; decide, (.cons ⟨_, rfl⟩ (.cons ⟨_, rfl⟩ .nil))⟩
  have g_MAX_CANDIDATES : ∃ t, mg "MAX_CANDIDATES" = some (.int 1000 t) := ⟨_, PySem.W.mg_of X G m6⟩
  have g_MAX_NUMBER : ∃ t, mg "MAX_NUMBER" = some (.int 1000000 t) := ⟨_, PySem.W.mg_of X G m7⟩
  have g_MAX_LIMIT : ∃ t, mg "MAX_LIMIT" = some (.int 50 t) := ⟨_, PySem.W.mg_of X G m8⟩
  have h_gcd : mg "gcd" = some (.builtin "math.gcd") := PySem.W.mg_of X G im_gcd
  have h_lcm : mg "lcm" = some (.builtin "math.lcm") := PySem.W.mg_of X G im_lcm
  have bdm : mg "divmod" = none := PySem.W.mg_none_of X G zdm
  have T : Bt mg := ⟨PySem.W.mg_none_of X G z0, PySem.W.mg_none_of X G z1, PySem.W.mg_none_of X G z2, PySem.W.mg_none_of X G z3, PySem.W.mg_none_of X G z4, PySem.W.mg_none_of X G z5, PySem.W.mg_none_of X G z6, PySem.W.mg_none_of X G z7, PySem.W.mg_none_of X G z8, PySem.W.mg_none_of X G z9, PySem.W.mg_none_of X G z10, PySem.W.mg_none_of X G z11, PySem.W.mg_none_of X G z12, PySem.W.mg_none_of X G z13, PySem.W.mg_none_of X G z14, PySem.W.mg_none_of X G z15, PySem.W.mg_none_of X G z16, PySem.W.mg_none_of X G z17, PySem.W.mg_none_of X G z18, PySem.W.mg_none_of X G z19⟩
  have Z_Contradiction : Rz K mg "Contradiction" C12 := rz_ok (PySem.W.mg_of X G e12) r12
  refine ⟨PySem.W.fnOf "law" "law" (defArgs s_law) (defBody s_law) (defScope s_law) .none kV31 dc31 pm31 an31 cd31 ct31, fun s v => .of_eq rfl, fun base _ _ => ?_⟩
  have F_law := F31
  have Ck : Ct K mg := ⟨g_MAX_LETTERS, g_MAX_SEATS, g_MAX_STATIONS, ⟨_, _, D_is_letters⟩⟩
  have Cm0 : Cm mg := ⟨g_MAX_COUNT⟩
  have G_reach : FnOk l.prog w K mg base CX0 5 _ _ ["network"] (spReach K) := ok_reach_good D_reachable_stations rfl hcd_reachable_stations T Ck D_check_network D_is_word D_is_place
  have G_ports : FnOk l.prog w K mg base CX0 6 _ _ ["network"] (spPorts K) := ok_ports_good D_ports T D_reachable_stations G_reach
  have G_state : FnOk l.prog w K mg base CX0 5 _ _ ["network", "state"] (spState K) := ok_check_state D_check_state T Ck D_check_network D_check_passengers D_is_word D_is_place
  have G_dep : FnOk l.prog w K mg base CX0 2 _ _ ["network", "feeders", "lengths", "arrivals"] (spDep K) := ok_count_departures D_count_departures T D_count_brought
  have G_by : FnOk l.prog w K mg base CX0 3 _ _ ["self", "time"] (spBy K CTimetable) := ok_boats_by M_boats_by FTimetable D_count_departures G_dep
  have G_jd : FnOk l.prog w K mg base CX0 4 _ _ ["self", "place", "time"] (spJd K CTimetable) := ok_joined_by M_joined_by T FTimetable M_boats_by G_by D_count_brought
  have G_tm : FnOk l.prog w K mg base CX0 5 _ _ ["self", "place", "number"] (spTime K CTimetable) := ok_time_of M_time_of FTimetable M_joined_by G_jd
  have G_lab : FnOk l.prog w K mg base CX0 5 _ _ ["self", "station", "time"] (spLab K CTimetable) := ok_labels M_labels T FTimetable M_boats_by G_by M_joined_by G_jd M_first_number
  have G_at : FnOk l.prog w K mg base CX0 20 _ _ ["self", "time"] (spAt K CTimetable CArrival) := ok_arrival_at M_arrival_at T FTimetable FArrival M_labels G_lab C_Arrival D_join_queue D_depart
  have G_src : FnOk l.prog w K mg base CX0 21 _ _ ["self", "place", "number"] (spSrc K CTimetable) := ok_source M_source T FTimetable FArrival M_time_of G_tm M_arrival_at G_at M_line M_joined_by G_jd
  have G_psg : FnOk l.prog w K mg base CX0 22 _ _ ["self", "place", "number"] (spPsg K CTimetable) := ok_passenger M_passenger T FTimetable M_source G_src
  have G_tmi : FnOk l.prog w K mg base CX0 2 _ _ ["self", "network", "state"] (spTmI K CTimetable) := ok_Timetable_init C_Timetable T FTimetable D_queue_lengths D_find_feeders
  have G_srcP : FnOk l.prog w K mg base CX0 21 _ _ ["self", "place", "number"] (spSrcP K CTimetable) := ok_sourceP M_source T FTimetable FArrival M_time_of G_tm M_arrival_at G_at M_line M_joined_by G_jd
  have G_psgP : FnOk l.prog w K mg base CX0 22 _ _ ["self", "place", "number"] (spPsgPt K CTimetable) := ok_passengerP M_passenger T FTimetable M_source G_src G_srcP
  have G_finr : FnOk l.prog w K mg base CX0 23 _ _ ["network", "state", "port", "number"] (spFinr K) := ok_finisher D_finisher T FTimetable Cm0 D_check_state G_state D_check_count D_ports G_ports C_Timetable G_tmi M_time_of G_tm M_passenger G_psgP
  have DFF : DF K mg z_ZERO z_ONE := ⟨⟨_, _, D_lowest_terms⟩, h_gcd, ⟨g_ZERO, t_ZERO⟩, ⟨g_ONE, t_ONE⟩⟩
  have DRR : DR K mg z_ZERO z_ONE := ⟨⟨_, _, D_is_word⟩, ⟨_, _, D_is_place⟩, ⟨_, _, D_check_network⟩, ⟨_, _, D_add⟩, ⟨_, _, D_divide⟩, ⟨_, _, D_list_averages⟩, DFF⟩
  have G_period : FnOk l.prog w K mg base CX0 5 _ _ ["network"] (spPeriod K) := ok_period D_period T Ck DRR h_lcm
  have G_chk : FnOk l.prog w K mg base CX0 4 _ _ ["network"] (spCheckOk K) := ok_check_network0 D_check_network T Ck D_is_word D_is_place
  have G_join : FnOk l.prog w K mg base CX0 17 _ _ ["network", "queues", "station", "passenger", "events"] (spJoinP K PyData.int 8) := (ok_p_pair pdI D_join_queue T D_depart 8).2
  have G_rb : FnOk l.prog w K mg base CX0 18 _ _ ["self", "lengths"] (spRunB K CCycle) := ok_run_before M_run_before T FCycle D_join_queue G_join
  have G_rp : FnOk l.prog w K mg base CX0 18 _ _ ["self", "queues"] (spRunP K CCycle) := ok_run_period M_run_period T FCycle D_join_queue G_join
  have G_row : FnOk l.prog w K mg base CX0 1 _ _ ["self", "phase", "place", "number"] (spRow K CCycle) := ok_row M_row T bdm FCycle
  have G_cy : FnOk l.prog w K mg base CX0 19 _ _ ["self", "network", "lengths", "period"] (spCyI K CCycle) := ok_Cycle_init C_Cycle T FCycle M_run_before G_rb M_run_period G_rp
  have G_ll : FnOk l.prog w K mg base CX0 1 _ _ ["network"] (spLLs K) := ok_list_lengths D_list_lengths T g_MAX_CANDIDATES
  have G_phs : FnOk l.prog w K mg base CX0 21 _ _ ["network", "candidates"] (spPhs K CCycle) := ok_find_phases D_find_phases T FCycle D_period G_period C_Cycle G_cy
  have G_rows : FnOk l.prog w K mg base CX0 2 _ _ ["self", "place", "number"] (spRows K CObserver CCycle) := ok_list_rows M_list_rows T FObserver FCycle M_row G_row
  have G_fins : FnOk l.prog w K mg base CX0 3 _ _ ["self", "port", "number"] (spFins K CObserver CCycle) := ok_list_finishers M_list_finishers T FObserver M_list_rows G_rows
  have G_cp : FnOk l.prog w K mg base CX0 1 _ _ ["self", "port"] (spCkPort K CObserver CCycle) := ok_check_port M_check_port T FObserver
  have G_cand : FnOk l.prog w K mg base CX0 1 _ _ ["self"] (spCand K CObserver CCycle) := ok_candidates M_candidates T FObserver
  have G_poss : FnOk l.prog w K mg base CX0 4 _ _ ["self", "port", "number"] (spPoss K CObserver CCycle) := ok_possible_finishers M_possible_finishers T FObserver M_check_port G_cp D_check_count g_MAX_NUMBER M_list_finishers G_fins
  have X_acc : FnOk l.prog w K mg base (L2.CX l.prog w) 1 _ _ ["self", "agreeing", "observation"] (spAcc K CObserver CCycle C12) := ok_accept M_accept T FObserver Z_Contradiction
  have X_see : FnOk l.prog w K mg base (L2.CX l.prog w) 4 _ _ ["self", "port", "number", "passenger"] (spSeeF K CObserver CCycle C12) := ok_see_finisher M_see_finisher T FObserver M_check_port G_cp D_check_count g_MAX_NUMBER M_list_finishers G_fins D_check_passengers_o M_accept X_acc
  have G_obs : FnOk l.prog w K mg base CX0 22 _ _ ["self", "network"] (spObI K CObserver CCycle) := ok_Observer_init C_Observer FObserver D_check_network G_chk D_ports G_ports D_list_lengths G_ll D_find_phases G_phs
  have G_agr : FnOk l.prog w K mg base CX0 4 _ _ ["self", "port", "number"] (spAgr K CObserver CCycle) := ok_count_agreeing M_count_agreeing T FObserver M_list_finishers G_fins
  have G_best : FnOk l.prog w K mg base CX0 5 _ _ ["self", "port", "limit"] (spBest K CObserver CCycle) := ok_best_number M_best_number T FObserver M_check_port G_cp D_check_count g_MAX_LIMIT M_count_agreeing G_agr
  have G_known : FnOk l.prog w K mg base CX0 24 _ _ ["_law_network_here", "_law_lengths", "_law_port", "_law_number"] (spKnown K) := ok_l_known D_l_known T D_finisher G_finr
  exact ok_law F_law T FObserver D_l_mix D_l_next D_l_network (ok_l_network D_l_network T D_l_next D_l_place) D_l_candidates D_l_known G_known D_l_alike D_ports G_ports C_Observer G_obs M_candidates G_cand M_possible_finishers G_poss M_best_number G_best M_see_finisher X_see
end K
open PySem PySem.W PyProof.Rows
set_option maxRecDepth 100000 in
set_option maxHeartbeats 0 in
theorem PySem.Challenge.cw_fullboats_k15_best_numbers_holds : PySem.Challenge.rw_fullboats_k15_best_numbers.Holds := by
  w_on; o_law; k_head; (case hw => w_witness2)
  k_fill
  refine L2.walk_of (l := PySem.Challenge.rw_fullboats_k15_best_numbers) (n := 63) (k := 25) (x := "_law_script") (CX := fun _ => L2.CX0) (sp := fun w => K.spLaw _) rfl (by decide) rfl ⟨rfl, by decide, by decide⟩ (fun w h Y => PySem.W.kIn_of Y) ?F (fun _ _ a ns hl _ hS => ⟨a, ns, rfl, hS, hl, fun _ => rfl⟩) (fun _ _ _ _ _ h => h)
  case F =>
    intro w mg fa h KX G hmg
    refine' K.all_mk KX G hmg ?a0 ?l0 ?c0 ?k0 ?a1 ?l1 ?c1 ?k1 ?a2 ?l2 ?c2 ?k2 ?a3 ?l3 ?c3 ?k3 ?a4 ?l4 ?c4 ?k4 ?a5 ?l5 ?c5 ?k5 ?s5 ?a6 ?l6 ?c6 ?k6 ?a7 ?l7 ?c7 ?k7 ?a8 ?l8 ?c8 ?k8 ?a9 ?l9 ?c9 ?k9 ?a10 ?l10 ?c10 ?k10 ?a11 ?l11 ?c11 ?k11 ?a12 ?l12 ?c12 ?k12 ?a13 ?l13 ?c13 ?k13 ?a14 ?l14 ?c14 ?k14 ?a15 ?l15 ?c15 ?k15 ?a16 ?l16 ?c16 ?k16 ?a17 ?l17 ?c17 ?k17 ?a18 ?l18 ?c18 ?k18 ?a19 ?l19 ?c19 ?k19 ?a20 ?l20 ?c20 ?k20 ?a21 ?l21 ?c21 ?k21 ?a22 ?l22 ?c22 ?k22 ?a23 ?l23 ?c23 ?k23 ?a24 ?l24 ?c24 ?k24 ?a25 ?l25 ?c25 ?k25 ?a26 ?l26 ?c26 ?k26 ?a27 ?l27 ?c27 ?k27 ?a28 ?l28 ?c28 ?k28 ?a29 ?l29 ?c29 ?k29 ?a30 ?l30 ?c30 ?k30 ?a31 ?l31 ?c31 ?k31 ?gCycle ?pgCycle ?hdCycle ?poCycle ?saCycle ?mkCycle ?kpCycle ?nCycle_network ?nCycle_period ?nCycle_rows ?nCycle_lengths_at ?nCycle_rows_at ?a_Cycle_init ?i_Cycle_init ?l_Cycle_init ?c_Cycle_init ?k_Cycle_init ?a_Cycle_run_before ?i_Cycle_run_before ?l_Cycle_run_before ?c_Cycle_run_before ?k_Cycle_run_before ?a_Cycle_run_period ?i_Cycle_run_period ?l_Cycle_run_period ?c_Cycle_run_period ?k_Cycle_run_period ?a_Cycle_row ?i_Cycle_row ?l_Cycle_row ?c_Cycle_row ?k_Cycle_row ?gObserver ?pgObserver ?hdObserver ?poObserver ?saObserver ?mkObserver ?kpObserver ?nObserver_network ?nObserver_known_ports ?nObserver_remaining ?nObserver_phases ?nObserver_observations ?a_Observer_init ?i_Observer_init ?l_Observer_init ?c_Observer_init ?k_Observer_init ?a_Observer_see_finisher ?i_Observer_see_finisher ?l_Observer_see_finisher ?c_Observer_see_finisher ?k_Observer_see_finisher ?a_Observer_candidates ?i_Observer_candidates ?l_Observer_candidates ?c_Observer_candidates ?k_Observer_candidates ?a_Observer_possible_finishers ?i_Observer_possible_finishers ?l_Observer_possible_finishers ?c_Observer_possible_finishers ?k_Observer_possible_finishers ?a_Observer_best_number ?i_Observer_best_number ?l_Observer_best_number ?c_Observer_best_number ?k_Observer_best_number ?a_Observer_check_port ?i_Observer_check_port ?l_Observer_check_port ?c_Observer_check_port ?k_Observer_check_port ?a_Observer_list_rows ?i_Observer_list_rows ?l_Observer_list_rows ?c_Observer_list_rows ?k_Observer_list_rows ?a_Observer_list_finishers ?i_Observer_list_finishers ?l_Observer_list_finishers ?c_Observer_list_finishers ?k_Observer_list_finishers ?a_Observer_count_agreeing ?i_Observer_count_agreeing ?l_Observer_count_agreeing ?c_Observer_count_agreeing ?k_Observer_count_agreeing ?a_Observer_accept ?i_Observer_accept ?l_Observer_accept ?c_Observer_accept ?k_Observer_accept ?gArrival ?pgArrival ?hdArrival ?poArrival ?saArrival ?mkArrival ?kpArrival ?nArrival_events ?nArrival_queues ?a_Arrival_init ?i_Arrival_init ?l_Arrival_init ?c_Arrival_init ?k_Arrival_init ?a_Arrival_line ?i_Arrival_line ?l_Arrival_line ?c_Arrival_line ?k_Arrival_line ?gTimetable ?pgTimetable ?hdTimetable ?poTimetable ?saTimetable ?mkTimetable ?kpTimetable ?nTimetable_network ?nTimetable_next_passenger ?nTimetable_waiting ?nTimetable_lengths ?nTimetable_feeders ?nTimetable_known_boats ?a_Timetable_init ?i_Timetable_init ?l_Timetable_init ?c_Timetable_init ?k_Timetable_init ?a_Timetable_boats_by ?i_Timetable_boats_by ?l_Timetable_boats_by ?c_Timetable_boats_by ?k_Timetable_boats_by ?a_Timetable_joined_by ?i_Timetable_joined_by ?l_Timetable_joined_by ?c_Timetable_joined_by ?k_Timetable_joined_by ?a_Timetable_time_of ?i_Timetable_time_of ?l_Timetable_time_of ?c_Timetable_time_of ?k_Timetable_time_of ?a_Timetable_first_number ?i_Timetable_first_number ?l_Timetable_first_number ?c_Timetable_first_number ?k_Timetable_first_number ?a_Timetable_labels ?i_Timetable_labels ?l_Timetable_labels ?c_Timetable_labels ?k_Timetable_labels ?a_Timetable_arrival_at ?i_Timetable_arrival_at ?l_Timetable_arrival_at ?c_Timetable_arrival_at ?k_Timetable_arrival_at ?a_Timetable_source ?i_Timetable_source ?l_Timetable_source ?c_Timetable_source ?k_Timetable_source ?a_Timetable_passenger ?i_Timetable_passenger ?l_Timetable_passenger ?c_Timetable_passenger ?k_Timetable_passenger ?m0 ?m1 ?m2 ?m3 ?m4 ?q_4 ?m5 ?q_5 ?m6 ?m7 ?m8 ?im_gcd ?im_lcm ?z0 ?z1 ?z2 ?z3 ?z4 ?z5 ?z6 ?z7 ?z8 ?z9 ?z10 ?z11 ?z12 ?z13 ?z14 ?z15 ?z16 ?z17 ?z18 ?z19 ?zdm ?e12 ?r12
    (case a0 => k_is)
    (case l0 => k_is)
    (case c0 => k_is)
    (case k0 => k_is)
    (case a1 => k_is)
    (case l1 => k_is)
    (case c1 => k_is)
    (case k1 => k_is)
    (case a2 => k_is)
    (case l2 => k_is)
    (case c2 => k_is)
    (case k2 => k_is)
    (case a3 => k_is)
    (case l3 => k_is)
    (case c3 => k_is)
    (case k3 => k_is)
    (case a4 => k_is)
    (case l4 => k_is)
    (case c4 => k_is)
    (case k4 => k_is)
    (case a5 => k_is)
    (case l5 => k_is)
    (case c5 => k_is)
    (case k5 => k_is)
    (case s5 => first | k_is | rfl | kernel_rfl | decide +kernel)
    (case a6 => k_is)
    (case l6 => k_is)
    (case c6 => k_is)
    (case k6 => k_is)
    (case a7 => k_is)
    (case l7 => k_is)
    (case c7 => k_is)
    (case k7 => k_is)
    (case a8 => k_is)
    (case l8 => k_is)
    (case c8 => k_is)
    (case k8 => k_is)
    (case a9 => k_is)
    (case l9 => k_is)
    (case c9 => k_is)
    (case k9 => k_is)
    (case a10 => k_is)
    (case l10 => k_is)
    (case c10 => k_is)
    (case k10 => k_is)
    (case a11 => k_is)
    (case l11 => k_is)
    (case c11 => k_is)
    (case k11 => k_is)
    (case a12 => k_is)
    (case l12 => k_is)
    (case c12 => k_is)
    (case k12 => k_is)
    (case a13 => k_is)
    (case l13 => k_is)
    (case c13 => k_is)
    (case k13 => k_is)
    (case a14 => k_is)
    (case l14 => k_is)
    (case c14 => k_is)
    (case k14 => k_is)
    (case a15 => k_is)
    (case l15 => k_is)
    (case c15 => k_is)
    (case k15 => k_is)
    (case a16 => k_is)
    (case l16 => k_is)
    (case c16 => k_is)
    (case k16 => k_is)
    (case a17 => k_is)
    (case l17 => k_is)
    (case c17 => k_is)
    (case k17 => k_is)
    (case a18 => k_is)
    (case l18 => k_is)
    (case c18 => k_is)
    (case k18 => k_is)
    (case a19 => k_is)
    (case l19 => k_is)
    (case c19 => k_is)
    (case k19 => k_is)
    (case a20 => k_is)
    (case l20 => k_is)
    (case c20 => k_is)
    (case k20 => k_is)
    (case a21 => k_is)
    (case l21 => k_is)
    (case c21 => k_is)
    (case k21 => k_is)
    (case a22 => k_is)
    (case l22 => k_is)
    (case c22 => k_is)
    (case k22 => k_is)
    (case a23 => k_is)
    (case l23 => k_is)
    (case c23 => k_is)
    (case k23 => k_is)
    (case a24 => k_is)
    (case l24 => k_is)
    (case c24 => k_is)
    (case k24 => k_is)
    (case a25 => k_is)
    (case l25 => k_is)
    (case c25 => k_is)
    (case k25 => k_is)
    (case a26 => k_is)
    (case l26 => k_is)
    (case c26 => k_is)
    (case k26 => k_is)
    (case a27 => k_is)
    (case l27 => k_is)
    (case c27 => k_is)
    (case k27 => k_is)
    (case a28 => k_is)
    (case l28 => k_is)
    (case c28 => k_is)
    (case k28 => k_is)
    (case a29 => k_is)
    (case l29 => k_is)
    (case c29 => k_is)
    (case k29 => k_is)
    (case a30 => k_is)
    (case l30 => k_is)
    (case c30 => k_is)
    (case k30 => k_is)
    (case a31 => k_is)
    (case l31 => k_is)
    (case c31 => k_is)
    (case k31 => k_is)
    (case gCycle => k_is)
    (case pgCycle => k_is)
    (case hdCycle => k_is)
    (case poCycle => k_is)
    (case saCycle => k_is)
    (case mkCycle => k_is)
    (case kpCycle => k_is)
    (case nCycle_network => k_is)
    (case nCycle_period => k_is)
    (case nCycle_rows => k_is)
    (case nCycle_lengths_at => k_is)
    (case nCycle_rows_at => k_is)
    (case a_Cycle_init => k_is)
    (case i_Cycle_init => k_is)
    (case l_Cycle_init => k_is)
    (case c_Cycle_init => k_is)
    (case k_Cycle_init => k_is)
    (case a_Cycle_run_before => k_is)
    (case i_Cycle_run_before => k_is)
    (case l_Cycle_run_before => k_is)
    (case c_Cycle_run_before => k_is)
    (case k_Cycle_run_before => k_is)
    (case a_Cycle_run_period => k_is)
    (case i_Cycle_run_period => k_is)
    (case l_Cycle_run_period => k_is)
    (case c_Cycle_run_period => k_is)
    (case k_Cycle_run_period => k_is)
    (case a_Cycle_row => k_is)
    (case i_Cycle_row => k_is)
    (case l_Cycle_row => k_is)
    (case c_Cycle_row => k_is)
    (case k_Cycle_row => k_is)
    (case gObserver => k_is)
    (case pgObserver => k_is)
    (case hdObserver => k_is)
    (case poObserver => k_is)
    (case saObserver => k_is)
    (case mkObserver => k_is)
    (case kpObserver => k_is)
    (case nObserver_network => k_is)
    (case nObserver_known_ports => k_is)
    (case nObserver_remaining => k_is)
    (case nObserver_phases => k_is)
    (case nObserver_observations => k_is)
    (case a_Observer_init => k_is)
    (case i_Observer_init => k_is)
    (case l_Observer_init => k_is)
    (case c_Observer_init => k_is)
    (case k_Observer_init => k_is)
    (case a_Observer_see_finisher => k_is)
    (case i_Observer_see_finisher => k_is)
    (case l_Observer_see_finisher => k_is)
    (case c_Observer_see_finisher => k_is)
    (case k_Observer_see_finisher => k_is)
    (case a_Observer_candidates => k_is)
    (case i_Observer_candidates => k_is)
    (case l_Observer_candidates => k_is)
    (case c_Observer_candidates => k_is)
    (case k_Observer_candidates => k_is)
    (case a_Observer_possible_finishers => k_is)
    (case i_Observer_possible_finishers => k_is)
    (case l_Observer_possible_finishers => k_is)
    (case c_Observer_possible_finishers => k_is)
    (case k_Observer_possible_finishers => k_is)
    (case a_Observer_best_number => k_is)
    (case i_Observer_best_number => k_is)
    (case l_Observer_best_number => k_is)
    (case c_Observer_best_number => k_is)
    (case k_Observer_best_number => k_is)
    (case a_Observer_check_port => k_is)
    (case i_Observer_check_port => k_is)
    (case l_Observer_check_port => k_is)
    (case c_Observer_check_port => k_is)
    (case k_Observer_check_port => k_is)
    (case a_Observer_list_rows => k_is)
    (case i_Observer_list_rows => k_is)
    (case l_Observer_list_rows => k_is)
    (case c_Observer_list_rows => k_is)
    (case k_Observer_list_rows => k_is)
    (case a_Observer_list_finishers => k_is)
    (case i_Observer_list_finishers => k_is)
    (case l_Observer_list_finishers => k_is)
    (case c_Observer_list_finishers => k_is)
    (case k_Observer_list_finishers => k_is)
    (case a_Observer_count_agreeing => k_is)
    (case i_Observer_count_agreeing => k_is)
    (case l_Observer_count_agreeing => k_is)
    (case c_Observer_count_agreeing => k_is)
    (case k_Observer_count_agreeing => k_is)
    (case a_Observer_accept => k_is)
    (case i_Observer_accept => k_is)
    (case l_Observer_accept => k_is)
    (case c_Observer_accept => k_is)
    (case k_Observer_accept => k_is)
    (case gArrival => k_is)
    (case pgArrival => k_is)
    (case hdArrival => k_is)
    (case poArrival => k_is)
    (case saArrival => k_is)
    (case mkArrival => k_is)
    (case kpArrival => k_is)
    (case nArrival_events => k_is)
    (case nArrival_queues => k_is)
    (case a_Arrival_init => k_is)
    (case i_Arrival_init => k_is)
    (case l_Arrival_init => k_is)
    (case c_Arrival_init => k_is)
    (case k_Arrival_init => k_is)
    (case a_Arrival_line => k_is)
    (case i_Arrival_line => k_is)
    (case l_Arrival_line => k_is)
    (case c_Arrival_line => k_is)
    (case k_Arrival_line => k_is)
    (case gTimetable => k_is)
    (case pgTimetable => k_is)
    (case hdTimetable => k_is)
    (case poTimetable => k_is)
    (case saTimetable => k_is)
    (case mkTimetable => k_is)
    (case kpTimetable => k_is)
    (case nTimetable_network => k_is)
    (case nTimetable_next_passenger => k_is)
    (case nTimetable_waiting => k_is)
    (case nTimetable_lengths => k_is)
    (case nTimetable_feeders => k_is)
    (case nTimetable_known_boats => k_is)
    (case a_Timetable_init => k_is)
    (case i_Timetable_init => k_is)
    (case l_Timetable_init => k_is)
    (case c_Timetable_init => k_is)
    (case k_Timetable_init => k_is)
    (case a_Timetable_boats_by => k_is)
    (case i_Timetable_boats_by => k_is)
    (case l_Timetable_boats_by => k_is)
    (case c_Timetable_boats_by => k_is)
    (case k_Timetable_boats_by => k_is)
    (case a_Timetable_joined_by => k_is)
    (case i_Timetable_joined_by => k_is)
    (case l_Timetable_joined_by => k_is)
    (case c_Timetable_joined_by => k_is)
    (case k_Timetable_joined_by => k_is)
    (case a_Timetable_time_of => k_is)
    (case i_Timetable_time_of => k_is)
    (case l_Timetable_time_of => k_is)
    (case c_Timetable_time_of => k_is)
    (case k_Timetable_time_of => k_is)
    (case a_Timetable_first_number => k_is)
    (case i_Timetable_first_number => k_is)
    (case l_Timetable_first_number => k_is)
    (case c_Timetable_first_number => k_is)
    (case k_Timetable_first_number => k_is)
    (case a_Timetable_labels => k_is)
    (case i_Timetable_labels => k_is)
    (case l_Timetable_labels => k_is)
    (case c_Timetable_labels => k_is)
    (case k_Timetable_labels => k_is)
    (case a_Timetable_arrival_at => k_is)
    (case i_Timetable_arrival_at => k_is)
    (case l_Timetable_arrival_at => k_is)
    (case c_Timetable_arrival_at => k_is)
    (case k_Timetable_arrival_at => k_is)
    (case a_Timetable_source => k_is)
    (case i_Timetable_source => k_is)
    (case l_Timetable_source => k_is)
    (case c_Timetable_source => k_is)
    (case k_Timetable_source => k_is)
    (case a_Timetable_passenger => k_is)
    (case i_Timetable_passenger => k_is)
    (case l_Timetable_passenger => k_is)
    (case c_Timetable_passenger => k_is)
    (case k_Timetable_passenger => k_is)
    (case m0 => k_is)
    (case m1 => k_is)
    (case m2 => k_is)
    (case m3 => k_is)
    (case m4 => k_is)
    (case q_4 => k_is)
    (case m5 => k_is)
    (case q_5 => k_is)
    (case m6 => k_is)
    (case m7 => k_is)
    (case m8 => k_is)
    (case im_gcd => k_is)
    (case im_lcm => k_is)
    (case z0 => k_is)
    (case z1 => k_is)
    (case z2 => k_is)
    (case z3 => k_is)
    (case z4 => k_is)
    (case z5 => k_is)
    (case z6 => k_is)
    (case z7 => k_is)
    (case z8 => k_is)
    (case z9 => k_is)
    (case z10 => k_is)
    (case z11 => k_is)
    (case z12 => k_is)
    (case z13 => k_is)
    (case z14 => k_is)
    (case z15 => k_is)
    (case z16 => k_is)
    (case z17 => k_is)
    (case z18 => k_is)
    (case z19 => k_is)
    (case zdm => k_is)
    (case e12 => k_is)
    (case r12 => first | kernel_rfl | k_is | rfl)
