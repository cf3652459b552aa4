import PyProof.Rows.All
import Wide.All
import OpenK.AllK
import Wide.FinOn
import HandS.ForMost
import HandS.ForExc
import HandS.Evl
import HandS.IsInst
import HandS.TupAny
import HandS.TupMul
import HandS.SetKeys
import HandS.Walk
import KE.GoesEnum
import HandS.ExcInit
import HandS.DictComp
import HandS.Zip
import HandS.Conv
import HandS.Style
import HandS.WordsDict
import KE.KExcIs
import HandS.Lambda
import HandS.Exc
import HandS.ExcField
import HandS.ExcOwn
import HandS.SetFor
import HandS.EndTab
import KE.KNestM
import HandS.Set
import HandS.Strs
import HandS.Gcd
import HandS.Wide
import HandS.DeepEq
import KE.KSetDisp
import KE.KMathGC
import PyProof.Rows.SortShellAny
import KE.KDictList
import HandS.Deep
import HandS.RevRange
import PySem.Challenge.RW_fullboats_k10_rates_computed
set_option Elab.async false
set_option linter.all false
set_option maxRecDepth 100000
set_option maxHeartbeats 4000000
/-! One rule an operator sign: which of the readings it is, the values tell. -/
namespace FB
open PySem PySem.Spec PyProof.Rows L2 Evl
section
variable {X : Cx}
theorem orOp {f : Value → Value → Sem Value} {r r' : R2} (h : OpR X f r) (h' : OpR X f r') : OpR X f (fun x y H Q => r x y H Q ∨ r' x y H Q) := fun pins s σ H x y v u Q I rx ry q =>
  q.elim (h pins s σ H x y v u Q I rx ry) (h' pins s σ H x y v u Q I rx ry)
theorem orCall {f : Value} {r r' : List V → Hp → VK → Prop} (h : CallR X f r) (h' : CallR X f r') : CallR X f (fun x H Q => r x H Q ∨ r' x H Q) := fun pins s σ H xs us Q I r q =>
  q.elim (h pins s σ H xs us Q I r) (h' pins s σ H xs us Q I r)
/-- a + b of ints, texts, lists, tuples -/
def rAddS2 : R2 := fun x y H Q => ∃ i j, x = .str i ∧ y = .str j ∧ i.length + j.length ≤ sizeLine ∧ Q (.str (i ++ j)) H
def rAddU (K : PySem.W.Frag) : R2 := fun x y H Q => (rI0 (fun i j => .int (i + j)) x y H Q ∨ rCat x y H Q) ∨ rCatA K x y H Q
theorem op_addU {K : PySem.W.Frag} (hK : X.K = K := by rfl) : OpR X (binaryOp .Add) (rAddU K) := by subst hK; exact orOp (orOp op_add op_cat) op_catA
def rMulU (K : PySem.W.Frag) : R2 := fun x y H Q => (rI CMul (fun i j => .int (i * j)) x y H Q ∨ rRep x y H Q) ∨ rRepT K x y H Q
theorem op_mulU {K : PySem.W.Frag} (hK : X.K = K := by rfl) : OpR X (binaryOp .Mult) (rMulU K) := by subst hK; exact orOp (orOp op_mul op_rep) op_repT
def rLtU : R2 := fun x y H Q => rI0 (fun i j => .bl (decide (i < j))) x y H Q ∨ (∃ i j, x = .str i ∧ y = .str j ∧ Q (.bl (decide (i.cps.toList < j.cps.toList))) H)
theorem op_ltU : OpR X (compareOp .Lt) rLtU := orOp op_lt op_lt_str
def rLeU : R2 := fun x y H Q => rI0 (fun i j => .bl (decide (i ≤ j))) x y H Q ∨ (∃ i j, x = .str i ∧ y = .str j ∧ Q (.bl (!decide (j.cps.toList < i.cps.toList))) H)
theorem op_leU : OpR X (compareOp .LtE) rLeU := orOp op_le op_le_str
abbrev rGtU : R2 := rI0 (fun i j => .bl (decide (j < i)))
theorem op_gtU : OpR X (compareOp .Gt) rGtU := op_gt
abbrev rGeU : R2 := rI0 (fun i j => .bl (decide (j ≤ i)))
theorem op_geU : OpR X (compareOp .GtE) rGeU := op_ge
def rEqU (K : PySem.W.Frag) : R2 := fun x y H Q => rEq x y H Q ∨ rEqD K x y H Q
theorem op_eqU {K : PySem.W.Frag} (hu : X.A.units + 64 < cLine) (hK : X.K = K := by rfl) : OpR X (compareOp .Eq) (rEqU K) := by subst hK; exact orOp op_eq (op_eqD hu)
def rNeU (K : PySem.W.Frag) : R2 := fun x y H Q => rNe x y H Q ∨ rNeD K x y H Q
theorem op_neU {K : PySem.W.Frag} (hu : X.A.units + 64 < cLine) (hK : X.K = K := by rfl) : OpR X (compareOp .NotEq) (rNeU K) := by subst hK; exact orOp op_ne (op_neD hu)
def rInU (K : PySem.W.Frag) (P : Program) (w : World) (neg : Bool) : R2 := fun x y H Q => rIn K neg x y H Q ∨ rSInK P w neg x y H Q
theorem op_inU {K : PySem.W.Frag} {P : Program} {w : World} (hK : X.K = K := by rfl) (hP : X.prog = P := by rfl) (hw : X.w = w := by rfl) : OpR X (compareOp .In) (rInU K P w false) := by subst hK hP hw; exact orOp op_in_seq or_sinK
theorem op_notInU {K : PySem.W.Frag} {P : Program} {w : World} (hK : X.K = K := by rfl) (hP : X.prog = P := by rfl) (hw : X.w = w := by rfl) : OpR X (compareOp .NotIn) (rInU K P w true) := by subst hK hP hw; exact orOp op_notIn_seq or_snotinK
theorem ix_U {K : PySem.W.Frag} (hK : X.K = K := by rfl) : IxR X (rIx K) := by subst hK; exact ix_seq
def rSlU (K : PySem.W.Frag) : V → Option Int → Option Int → Hp → VK → Prop := fun x lo hi H Q => rSlL K x lo hi H Q ∨ rSlA K x lo hi H Q
theorem sl_U {K : PySem.W.Frag} (hK : X.K = K := by rfl) : SlR X (rSlU K) := by subst hK; exact SlR.or sl_list sl_tupA
def rLenU (K : PySem.W.Frag) : List V → Hp → VK → Prop := fun xs H Q => ∃ x n, xs = [x] ∧ LenV K x H n ∧ Q (.int (n : Nat)) H
theorem call_lenU {K : PySem.W.Frag} (hK : X.K = K := by rfl) : CallR X (.builtin "len") (rLenU K) := by subst hK; exact call_len
def rIsiU (K : PySem.W.Frag) : List V → Hp → VK → Prop := fun xs H Q => rIsi K xs H Q ∨ rIsiT K xs H Q
theorem call_isiU {K : PySem.W.Frag} (hK : X.K = K := by rfl) : CallR X (.builtin "isinstance") (rIsiU K) := by subst hK; exact orCall call_isi call_isiT
def rIntU : List V → Hp → VK → Prop := fun xs H Q => (∃ i, xs = [.int i] ∧ Q (.int i) H) ∨ ∃ k, xs = [.bl k] ∧ Q (.int (if k then 1 else 0)) H
theorem call_intU : CallR X (.type "int") rIntU := call_int1
def rMaxU : List V → Hp → VK → Prop := fun xs H Q => ∃ i j, xs = [.int i, .int j] ∧ Q (.int (if j > i then j else i)) H
theorem call_maxU (hc : X.calm = true) : CallR X (.builtin "max") rMaxU := call_max2 hc
def rMinU : List V → Hp → VK → Prop := fun xs H Q => ∃ i j, xs = [.int i, .int j] ∧ Q (.int (if j < i then j else i)) H
theorem call_minU (hc : X.calm = true) : CallR X (.builtin "min") rMinU := call_min2 hc
def rListU (K : PySem.W.Frag) : List V → Hp → VK → Prop := fun xs H Q => ∃ p ys, xs = [.ref p] ∧ (SqL K H p ys ∨ SqT K H p ys) ∧ ∀ l, H l = none → Q (.ref l) (upd H l (.lst ys))
theorem call_listU {K : PySem.W.Frag} (hK : X.K = K := by rfl) : CallR X (.type "list") (rListU K) := by subst hK; exact call_list_of
def rTupU (K : PySem.W.Frag) : List V → Hp → VK → Prop := fun xs H Q => ∃ p ys, xs = [.ref p] ∧ ((SqL K H p ys ∧ ∀ l, H l = none → Q (.ref l) (upd H l (.tup ys))) ∨ (SqT K H p ys ∧ Q (.ref p) H))
theorem call_tupU {K : PySem.W.Frag} (hK : X.K = K := by rfl) : CallR X (.type "tuple") (rTupU K) := by subst hK; exact call_tuple_of
end
/-! ### evaluation -/
section
variable {K : PySem.W.Frag} {H H1 H2 : Hp} {Q : VK} {x y v : V} {a b p q l : Addr} {xs ys : List V} {i j : Int} {z z2 : Str} {P : Program} {w : World}
theorem x_addI : rAddU K (.int i) (.int j) H Q ↔ Q (.int (i + j)) H := by
  constructor
  · rintro ((⟨_, _, h1, h2, h⟩ | ⟨_, _, _, _, h1, _⟩) | ⟨_, _, _, _, h1, _⟩)
    · cases h1; cases h2; exact h
    · cases h1
    · cases h1
  · exact fun h => .inl (.inl ⟨i, j, rfl, rfl, h⟩)
theorem x_mulI : rMulU K (.int i) (.int j) H Q ↔ CMul i j ∧ Q (.int (i * j)) H := by
  constructor
  · rintro ((⟨_, _, h1, h2, h3, h⟩ | ⟨_, _, _, h1, _⟩) | ⟨_, _, _, h1, _⟩)
    · cases h1; cases h2; exact ⟨h3, h⟩
    · cases h1
    · cases h1
  · exact fun h => .inl (.inl ⟨i, j, rfl, rfl, h.1, h.2⟩)
theorem x_rI {C : Int → Int → Prop} {g : Int → Int → V} : rI C g (.int i) (.int j) H Q ↔ C i j ∧ Q (g i j) H := by
  constructor
  · rintro ⟨_, _, h1, h2, h3, h⟩
    cases h1; cases h2; exact ⟨h3, h⟩
  · exact fun h => ⟨i, j, rfl, rfl, h.1, h.2⟩
theorem x_rI0 {g : Int → Int → V} : rI0 g (.int i) (.int j) H Q ↔ Q (g i j) H := by
  constructor
  · rintro ⟨_, _, h1, h2, h⟩
    cases h1; cases h2; exact h
  · exact fun h => ⟨i, j, rfl, rfl, h⟩
theorem x_ltI : rLtU (.int i) (.int j) H Q ↔ Q (.bl (decide (i < j))) H := by
  constructor
  · rintro (⟨_, _, h1, h2, h⟩ | ⟨_, _, h1, _⟩)
    · cases h1; cases h2; exact h
    · cases h1
  · exact fun h => .inl ⟨i, j, rfl, rfl, h⟩
theorem x_leI : rLeU (.int i) (.int j) H Q ↔ Q (.bl (decide (i ≤ j))) H := by
  constructor
  · rintro (⟨_, _, h1, h2, h⟩ | ⟨_, _, h1, _⟩)
    · cases h1; cases h2; exact h
    · cases h1
  · exact fun h => .inl ⟨i, j, rfl, rfl, h⟩
theorem x_ltS : rLtU (.str z) (.str z2) H Q ↔ Q (.bl (decide (z.cps.toList < z2.cps.toList))) H := by
  constructor
  · rintro (⟨_, _, h1, _⟩ | ⟨_, _, h1, h2, h⟩)
    · cases h1
    · cases h1; cases h2; exact h
  · exact fun h => .inr ⟨z, z2, rfl, rfl, h⟩
theorem x_leS : rLeU (.str z) (.str z2) H Q ↔ Q (.bl (!decide (z2.cps.toList < z.cps.toList))) H := by
  constructor
  · rintro (⟨_, _, h1, _⟩ | ⟨_, _, h1, h2, h⟩)
    · cases h1
    · cases h1; cases h2; exact h
  · exact fun h => .inr ⟨z, z2, rfl, rfl, h⟩
theorem dp_int {d : PyData} (h : Dp K H (.int i) d) : d = .int i := by cases h; rfl
theorem dp_str {d : PyData} (h : Dp K H (.str z) d) : d = .str z := by cases h; rfl
theorem dp_bl {c : Bool} {d : PyData} (h : Dp K H (.bl c) d) : d = .bool c := by cases h; rfl
theorem dp_non {d : PyData} (h : Dp K H .non d) : d = .none := by cases h; rfl
theorem eqv_int : PyData.eqv (.int i) (.int j) = decide (V.int i = V.int j) := by
  unfold PyData.eqv
  rw [dec_int]
theorem eqv_str : PyData.eqv (.str z) (.str z2) = decide (V.str z = V.str z2) := by
  unfold PyData.eqv
  rw [dec_str]
theorem eqv_bl {c d : Bool} : PyData.eqv (.bool c) (.bool d) = decide (V.bl c = V.bl d) := by
  unfold PyData.eqv
  rw [dec_bl]
theorem x_eqI : rEqU K (.int i) (.int j) H Q ↔ Q (.bl (decide (i = j))) H := by
  have e0 : decide (V.int i = V.int j) = decide (i = j) := by simp
  constructor
  · rintro (⟨_, h⟩ | ⟨d, e, h1, h2, _, _, h⟩)
    · rw [e0] at h; exact h
    · rw [dp_int h1, dp_int h2, eqv_int, e0] at h; exact h
  · exact fun h => .inl ⟨rfl, by rw [e0]; exact h⟩
theorem x_neI : rNeU K (.int i) (.int j) H Q ↔ Q (.bl (!decide (i = j))) H := by
  have e0 : decide (V.int i = V.int j) = decide (i = j) := by simp
  constructor
  · rintro (⟨_, h⟩ | ⟨d, e, h1, h2, _, _, h⟩)
    · rw [e0] at h; exact h
    · rw [dp_int h1, dp_int h2, eqv_int, e0] at h; exact h
  · exact fun h => .inl ⟨rfl, by rw [e0]; exact h⟩
theorem x_eqS : rEqU K (.str z) (.str z2) H Q ↔ Q (.bl (decide (z = z2))) H := by
  have e0 : decide (V.str z = V.str z2) = decide (z = z2) := by simp
  constructor
  · rintro (⟨_, h⟩ | ⟨d, e, h1, h2, _, _, h⟩)
    · rw [e0] at h; exact h
    · rw [dp_str h1, dp_str h2, eqv_str, e0] at h; exact h
  · exact fun h => .inl ⟨rfl, by rw [e0]; exact h⟩
theorem x_eqB {c d : Bool} : rEqU K (.bl c) (.bl d) H Q ↔ Q (.bl (decide (c = d))) H := by
  have e0 : decide (V.bl c = V.bl d) = decide (c = d) := by simp
  constructor
  · rintro (⟨_, h⟩ | ⟨d, e, h1, h2, _, _, h⟩)
    · rw [e0] at h; exact h
    · rw [dp_bl h1, dp_bl h2, eqv_bl, e0] at h; exact h
  · exact fun h => .inl ⟨rfl, by rw [e0]; exact h⟩
theorem x_neB {c d : Bool} : rNeU K (.bl c) (.bl d) H Q ↔ Q (.bl (!decide (c = d))) H := by
  have e0 : decide (V.bl c = V.bl d) = decide (c = d) := by simp
  constructor
  · rintro (⟨_, h⟩ | ⟨d, e, h1, h2, _, _, h⟩)
    · rw [e0] at h; exact h
    · rw [dp_bl h1, dp_bl h2, eqv_bl, e0] at h; exact h
  · exact fun h => .inl ⟨rfl, by rw [e0]; exact h⟩
def rLst (xs : List V) (H : Hp) (Q : VK) : Prop := xs.length ≤ sizeLine ∧ ∀ p, H p = none → Q (.ref p) (upd H p (.lst xs))
def rTup (xs : List V) (H : Hp) (Q : VK) : Prop := xs.length ≤ sizeLine ∧ ∀ p, H p = none → Q (.ref p) (upd H p (.tup xs))
theorem x_tLst {t : TA} {σ : L2.St} : tLst t σ H Q = t σ H fun xs H1 => rLst xs H1 Q := rfl
theorem x_tTup {t : TA} {σ : L2.St} : tTup t σ H Q = t σ H fun xs H1 => rTup xs H1 Q := rfl
theorem x_new {o : HO} (k : ∀ p H', H p = none → Ex H H' → H' p = some o → Q (.ref p) H') : ∀ p, H p = none → Q (.ref p) (upd H p o) := fun p hp => k p _ hp (Ex.new hp) upd_same
theorem small {n : Nat} (h : n ≤ 1000000) : n ≤ sizeLine := by rw [sizeLine_eq]; omega
theorem x_lst (hl : xs.length ≤ 1000000) (k : ∀ p H', H p = none → Ex H H' → H' p = some (.lst xs) → Q (.ref p) H') : rLst xs H Q := ⟨small hl, x_new k⟩
theorem x_tup (hl : xs.length ≤ 1000000) (k : ∀ p H', H p = none → Ex H H' → H' p = some (.tup xs) → Q (.ref p) H') : rTup xs H Q := ⟨small hl, x_new k⟩
/-! subscripts -/
theorem x_ixL (h : SqL K H p xs) (e : atI xs i = some v) (k : Q v H) : rIx K (.ref p) (.int i) H Q := .inl ⟨p, xs, i, v, rfl, rfl, h, e, k⟩
theorem x_ixT (h : SqT K H p xs) (e : atI xs i = some v) (k : Q v H) : rIx K (.ref p) (.int i) H Q := .inr (.inl ⟨p, xs, i, v, rfl, rfl, h, e, k⟩)
theorem x_cat (h1 : H p = some (.lst xs)) (h2 : H q = some (.lst ys)) (hl : xs.length + ys.length ≤ 1000000) (k : ∀ l H', H l = none → Ex H H' → H' l = some (.lst (xs ++ ys)) → Q (.ref l) H') : rAddU K (.ref p) (.ref q) H Q :=
  .inl (.inr ⟨p, q, xs, ys, rfl, rfl, h1, h2, small hl, x_new k⟩)
theorem x_catT (h1 : SqT K H p xs) (h2 : SqT K H q ys) (hl : xs.length + ys.length ≤ 1000000) (k : ∀ l H', (∀ x o, H x = some o → H' x = some o) → SqT K H' l (xs ++ ys) → Q (.ref l) H') : rAddU K (.ref p) (.ref q) H Q := by
  refine .inr ⟨p, q, xs, ys, rfl, rfl, h1, h2, small hl, fun e => ?_, fun e e2 => ?_, fun e e2 l hl => ?_⟩
  · subst e; exact k q H (fun _ _ h => h) h2
  · subst e2; exact k p H (fun _ _ h => h) (by rw [List.append_nil]; exact h1)
  · exact k l _ (fun x o h => by rw [upd_ne (ne_of_none h hl)]; exact h) (SqT.of upd_same)
theorem x_lenL (h : SqL K H p xs) (k : Q (.int (xs.length : Nat)) H) : rLenU K [V.ref p] H Q := ⟨_, xs.length, rfl, .inl ⟨xs, h, rfl⟩, k⟩
theorem x_lenT (h : SqT K H p xs) (k : Q (.int (xs.length : Nat)) H) : rLenU K [V.ref p] H Q := ⟨_, xs.length, rfl, .inr ⟨xs, h, rfl⟩, k⟩
theorem x_lenS (h : z.length ≤ sizeLine) (k : Q (.int (z.length : Nat)) H) : rLenU K [V.str z] H Q := ⟨_, z.length, rfl, ⟨h, rfl⟩, k⟩
theorem x_int : rIntU [.int i] H Q ↔ Q (.int i) H := by
  constructor
  · rintro (⟨_, h1, h⟩ | ⟨_, h1, _⟩)
    · cases h1; exact h
    · cases h1
  · exact fun h => .inl ⟨_, rfl, h⟩
theorem x_max : rMaxU [.int i, .int j] H Q ↔ Q (.int (if j > i then j else i)) H := by
  constructor
  · rintro ⟨_, _, h1, h⟩
    cases h1; exact h
  · exact fun h => ⟨_, _, rfl, h⟩
theorem x_min : rMinU [.int i, .int j] H Q ↔ Q (.int (if j < i then j else i)) H := by
  constructor
  · rintro ⟨_, _, h1, h⟩
    cases h1; exact h
  · exact fun h => ⟨_, _, rfl, h⟩
theorem x_listL (h : SqL K H p xs) (k : ∀ l H', H l = none → Ex H H' → H' l = some (.lst xs) → Q (.ref l) H') : rListU K [.ref p] H Q := ⟨p, xs, rfl, .inl h, x_new k⟩
theorem x_listT (h : SqT K H p xs) (k : ∀ l H', H l = none → Ex H H' → H' l = some (.lst xs) → Q (.ref l) H') : rListU K [.ref p] H Q := ⟨p, xs, rfl, .inr h, x_new k⟩
theorem x_tupL (h : SqL K H p xs) (k : ∀ l H', H l = none → Ex H H' → H' l = some (.tup xs) → Q (.ref l) H') : rTupU K [.ref p] H Q := ⟨p, xs, rfl, .inl ⟨h, x_new k⟩⟩
theorem x_tupT (h : SqT K H p xs) (k : Q (.ref p) H) : rTupU K [.ref p] H Q := ⟨p, xs, rfl, .inr ⟨h, k⟩⟩
theorem x_setL {n : Nat} {k : Hp → Prop} (h : H p = some (.lst xs)) (hj : ixN xs.length i = some n) (q : ∀ H', (∀ x o, x ≠ p → H x = some o → H' x = some o) → H' p = some (.lst (xs.set n v)) → k H') : rSetL (.ref p) (.int i) v H k :=
  ⟨p, xs, i, n, rfl, rfl, h, hj, q _ (fun x o hx e => by rw [upd_ne hx]; exact e) upd_same⟩
theorem ixN_in {n : Nat} {i : Int} (h0 : 0 ≤ i) (h1 : i < n) : ixN n i = some i.toNat := by unfold ixN; rw [if_pos h0, if_pos h1]
theorem atI_in {xs : List V} {i : Int} {v : V} (h0 : 0 ≤ i) (h : xs[i.toNat]? = some v) : atI xs i = some v := by
  have h1 : i.toNat < xs.length := (List.getElem?_eq_some_iff.mp h).1
  unfold atI
  rw [ixN_in h0 (by omega)]
  exact h
theorem x_isiI : rIsiU K [.int i, .ty "str"] H Q ↔ Q (.bl false) H := by
  constructor
  · rintro (⟨x, c, t, u, b, h1, h2, h3, h4, h⟩ | ⟨x, tp, cs, t, us, b, h1, h2⟩)
    · cases h1
      cases h2
      cases h3 with
      | base h3 =>
        cases h3
        have e : PySem.W.kitOne K (.type "int") (.type "str") = some false := by rfl
        rw [e] at h4; cases h4; exact h
    · cases h1
  · exact fun h => .inl ⟨_, _, .type "int", .type "str", false, rfl, .ty _, .base (.int i), rfl, h⟩
theorem x_isiS : rIsiU K [.str z, .ty "str"] H Q ↔ Q (.bl true) H := by
  constructor
  · rintro (⟨x, c, t, u, b, h1, h2, h3, h4, h⟩ | ⟨x, tp, cs, t, us, b, h1, h2⟩)
    · cases h1
      cases h2
      cases h3 with
      | base h3 =>
        cases h3
        have e : PySem.W.kitOne K (.type "str") (.type "str") = some true := by rfl
        rw [e] at h4; cases h4; exact h
    · cases h1
  · exact fun h => .inl ⟨_, _, .type "str", .type "str", true, rfl, .ty _, .base (.str z), rfl, h⟩
end
end FB
set_option Elab.async false
set_option linter.all false
set_option maxRecDepth 100000
set_option maxHeartbeats 4000000
/-! Data that never changes: ints, texts, tuples of such. -/
namespace L2
open PySem PySem.Spec PyProof.Rows Evl FB
def isConst : HO → Prop
  | .tup _ => True
  | .frz _ _ => True
  | _ => False
/-- what never changes stands -/
def TX (H H' : Hp) : Prop := ∀ x o, H x = some o → isConst o → H' x = some o
/-- all but what stands at a and b -/
def Ex2 (a b : Addr) (H H' : Hp) : Prop := ∀ x o, H x = some o → x ≠ a → x ≠ b → H' x = some o
section
variable {K : PySem.W.Frag} {H H1 H' : Hp} {a b p x : Addr} {xs ys : List V} {v : V}
theorem TX.refl (H : Hp) : TX H H := fun _ _ h _ => h
theorem TX.trans (e : TX H H1) (f : TX H1 H') : TX H H' := fun x o h c => f x o (e x o h c) c
theorem TX.of (e : Ex H H') : TX H H' := fun x o h _ => e x o h
theorem TX.new {o : HO} (h : H p = none) : TX H (upd H p o) := TX.of (Ex.new h)
theorem TX.but (h : H p = some (.lst xs)) (e : ∀ x o, x ≠ p → H x = some o → H' x = some o) : TX H H' := fun x o hx c => e x o (fun z => by subst z; rw [h] at hx; cases hx; exact c) hx
theorem TX.upd {o : HO} (h : H p = some (.lst xs)) : TX H (upd H p o) := TX.but h fun x u hx e => by rw [upd_ne hx]; exact e
theorem TX.two (h : H a = some (.lst xs)) (h2 : H b = some (.lst ys)) (e : Ex2 a b H H') : TX H H' := fun x o hx c =>
  e x o hx (fun z => by subst z; rw [h] at hx; cases hx; exact c) (fun z => by subst z; rw [h2] at hx; cases hx; exact c)
theorem TX.rd {u : HO} (e : TX H H') (c : isConst u) (h : Rd H a u) : Rd H' a u := by
  rcases h with h | ⟨o, h⟩
  · exact .inl (e a _ h c)
  · exact .inr ⟨o, e a _ h trivial⟩
theorem TX.t (e : TX H H') (h : SqT K H a xs) : SqT K H' a xs := by
  rcases h with h | h
  · exact .inl (e.rd trivial h)
  · exact .inr h
theorem Ex2.refl (H : Hp) : Ex2 a b H H := fun _ _ h _ _ => h
theorem Ex2.of (e : Ex H H') : Ex2 a b H H' := fun x o h _ _ => e x o h
theorem Ex2.trans (e : Ex2 a b H H1) (f : Ex2 a b H1 H') : Ex2 a b H H' := fun x o h ha hb => f x o (e x o h ha hb) ha hb
theorem Ex2.ex (e : Ex2 a b H H1) (f : Ex H1 H') : Ex2 a b H H' := fun x o h ha hb => f x o (e x o h ha hb)
/-- ints, texts, tuples of such -/
inductive TupD : PyData → Prop
  | non : TupD .none
  | bl (b : Bool) : TupD (.bool b)
  | int (i : Int) : TupD (.int i)
  | str (x : Str) : TupD (.str x)
  | tup {ds : List PyData} : (∀ d ∈ ds, TupD d) → TupD (.tuple ds)
theorem TupD.all {ds : List PyData} (h : TupD (.tuple ds)) : ∀ d ∈ ds, TupD d := by
  cases h with
  | tup h => exact h
mutual
theorem Dp.tx (e : TX H H') : ∀ {v : V} {d : PyData}, Dp K H v d → TupD d → Dp K H' v d
  | _, _, .non, _ => .non
  | _, _, .bl b, _ => .bl b
  | _, _, .int i, _ => .int i
  | _, _, .str x, _ => .str x
  | _, _, .lst _ _, t => nomatch t
  | _, _, .tup h hs, .tup hd => .tup (e.t h) (DpAll.tx e hs hd)
theorem DpAll.tx (e : TX H H') : ∀ {vs : List V} {ds : List PyData}, DpAll K H vs ds → (∀ d ∈ ds, TupD d) → DpAll K H' vs ds
  | _, _, .nil, _ => .nil
  | _, _, .cons h hs, t => .cons (Dp.tx e h (t _ (List.mem_cons_self ..))) (DpAll.tx e hs fun d hd => t d (List.mem_cons_of_mem _ hd))
end
mutual
theorem Dp.ex (e : Ex H H') : ∀ {v : V} {d : PyData}, Dp K H v d → Dp K H' v d
  | _, _, .non => .non
  | _, _, .bl b => .bl b
  | _, _, .int i => .int i
  | _, _, .str x => .str x
  | _, _, .lst h hs => .lst (ex_l e h) (DpAll.ex e hs)
  | _, _, .tup h hs => .tup (ex_t e h) (DpAll.ex e hs)
theorem DpAll.ex (e : Ex H H') : ∀ {vs : List V} {ds : List PyData}, DpAll K H vs ds → DpAll K H' vs ds
  | _, _, .nil => .nil
  | _, _, .cons h hs => .cons (Dp.ex e h) (DpAll.ex e hs)
end
theorem Dp.tup_inv {ds : List PyData} (h : Dp K H v (.tuple ds)) : ∃ a xs, v = .ref a ∧ SqT K H a xs ∧ DpAll K H xs ds := by
  cases h with
  | tup h hs => exact ⟨_, _, rfl, h, hs⟩
theorem Dp.int_inv {i : Int} (h : Dp K H v (.int i)) : v = .int i := by cases h; rfl
theorem Dp.str_inv {i : Str} (h : Dp K H v (.str i)) : v = .str i := by cases h; rfl
theorem DpAll.len : ∀ {vs : List V} {ds : List PyData}, DpAll K H vs ds → vs.length = ds.length
  | _, _, .nil => rfl
  | _, _, .cons _ hs => congrArg (· + 1) hs.len
theorem DpAll.get : ∀ {vs : List V} {ds : List PyData} {i : Nat} {d : PyData}, DpAll K H vs ds → ds[i]? = some d → ∃ v, vs[i]? = some v ∧ Dp K H v d
  | _, _, _, _, .nil, e => by simp at e
  | _, _, 0, _, .cons h _, e => by simp at e; subst e; exact ⟨_, rfl, h⟩
  | _, _, i + 1, _, .cons _ hs, e => by
    obtain ⟨v, h1, h2⟩ := DpAll.get (i := i) hs (by simpa using e)
    exact ⟨v, by simpa using h1, h2⟩
theorem DpAll.get' : ∀ {vs : List V} {ds : List PyData} {i : Nat} {v : V}, DpAll K H vs ds → vs[i]? = some v → ∃ d, ds[i]? = some d ∧ Dp K H v d
  | _, _, _, _, .nil, e => by simp at e
  | _, _, 0, _, .cons h _, e => by simp at e; subst e; exact ⟨_, rfl, h⟩
  | _, _, i + 1, _, .cons _ hs, e => by
    obtain ⟨v, h1, h2⟩ := DpAll.get' (i := i) hs (by simpa using e)
    exact ⟨v, by simpa using h1, h2⟩
theorem DpAll.append : ∀ {vs ws : List V} {ds es : List PyData}, DpAll K H vs ds → DpAll K H ws es → DpAll K H (vs ++ ws) (ds ++ es)
  | _, _, _, _, .nil, h => h
  | _, _, _, _, .cons h hs, k => .cons h (hs.append k)
theorem DpAll.take : ∀ {vs : List V} {ds : List PyData} (n : Nat), DpAll K H vs ds → DpAll K H (vs.take n) (ds.take n)
  | _, _, 0, _ => .nil
  | _, _, _ + 1, .nil => .nil
  | _, _, n + 1, .cons h hs => .cons h (hs.take n)
theorem DpAll.drop : ∀ {vs : List V} {ds : List PyData} (n : Nat), DpAll K H vs ds → DpAll K H (vs.drop n) (ds.drop n)
  | _, _, 0, h => h
  | _, _, _ + 1, .nil => .nil
  | _, _, n + 1, .cons _ hs => hs.drop n
end
/-! ### a place, a station, a network -/
abbrev Net := List (List Key)
def keyD : Key → PyData
  | .inl i => .int i
  | .inr x => .str x
def stD (s : List Key) : PyData := .tuple (s.map keyD)
def netD (N : Net) : PyData := .tuple (N.map stD)
section
variable {K : PySem.W.Frag} {H H' : Hp} {v : V}
theorem keyD_t : ∀ k : Key, TupD (keyD k)
  | .inl i => .int i
  | .inr x => .str x
theorem stD_t (s : List Key) : TupD (stD s) := .tup fun d hd => by
  obtain ⟨k, _, rfl⟩ := List.mem_map.mp hd
  exact keyD_t k
theorem netD_t (N : Net) : TupD (netD N) := .tup fun d hd => by
  obtain ⟨k, _, rfl⟩ := List.mem_map.mp hd
  exact stD_t k
theorem key_dp : ∀ k : Key, Dp K H (kV k) (keyD k)
  | .inl i => .int i
  | .inr x => .str x
theorem keys_dp : ∀ s : List Key, DpAll K H (s.map kV) (s.map keyD)
  | [] => .nil
  | k :: s => .cons (key_dp k) (keys_dp s)
theorem dp_key {k : Key} (h : Dp K H v (keyD k)) : v = kV k := by
  cases k with
  | inl i => exact h.int_inv
  | inr x => exact h.str_inv
theorem dp_keys : ∀ {s : List Key} {vs : List V}, DpAll K H vs (s.map keyD) → vs = s.map kV
  | [], _, .nil => rfl
  | k :: s, _, .cons h hs => by rw [dp_key h, dp_keys hs]; rfl
/-- a station of the network stands at v -/
abbrev StAt (K : PySem.W.Frag) (H : Hp) (v : V) (s : List Key) : Prop := Dp K H v (stD s)
abbrev NetAt (K : PySem.W.Frag) (H : Hp) (v : V) (N : Net) : Prop := Dp K H v (netD N)
theorem StAt.at {s : List Key} (h : StAt K H v s) : ∃ a, v = .ref a ∧ SqT K H a (s.map kV) := by
  obtain ⟨a, xs, e, h1, h2⟩ := Dp.tup_inv h
  rw [dp_keys h2] at h1
  exact ⟨a, e, h1⟩
theorem StAt.of {a : Addr} {s : List Key} (h : SqT K H a (s.map kV)) : StAt K H (.ref a) s := .tup h (keys_dp s)
theorem NetAt.at {N : Net} (h : NetAt K H v N) : ∃ a ts, v = .ref a ∧ SqT K H a ts ∧ DpAll K H ts (N.map stD) := Dp.tup_inv h
theorem NetAt.tx {N : Net} (e : TX H H') (h : NetAt K H v N) : NetAt K H' v N := Dp.tx e h (netD_t N)
theorem StAt.tx {s : List Key} (e : TX H H') (h : StAt K H v s) : StAt K H' v s := Dp.tx e h (stD_t s)
end
end L2
set_option Elab.async false
set_option linter.all false
set_option maxRecDepth 100000
set_option maxHeartbeats 4000000
/-! Loops and comprehensions, folded. -/
namespace FB
open PySem PySem.Spec PyProof.Rows L2 Evl
/-- a loop's reading -/
def Loop (J : It) (g : TG) (tb : TS) (D : Ends) (σ : L2.St) (H1 : Hp) : Prop := ∃ W : Nat → Nat → L2.St → Hp → Prop, (∃ m, W 0 m σ H1) ∧ ∀ i m σ H, W i m σ H →
  (J.stop i H ∧ D.nx σ H) ∨ (J.go i H ∧ ∃ N : L2.St → Hp → Prop, (∀ σ' H', N σ' H' → ∃ m', m' < m ∧ W (i + 1) m' σ' H') ∧ ∀ x H', J.yld i H x H' → g x σ H' fun σ2 H2 => tb { D with nx := N, ct := N, bk := D.nx } σ2 H2)
theorem x_tFor {wi : TI} {g : TG} {tb : TS} {D : Ends} {σ : L2.St} {H : Hp} : tFor wi g tb D σ H = wi σ H fun J H1 => Loop J g tb D σ H1 := rfl
theorem loop_it {J : It} {n : Nat} {G : Hp → Prop} {Y : Nat → Hp → V → Hp → Prop} {g : TG} {tb : TS} {D : Ends} {σ : L2.St} {H : Hp} (w : Walk J n G Y) (Pv : Nat → L2.St → Hp → Prop) (h0 : Pv 0 σ H) (hG : ∀ i σ H, i ≤ n → Pv i σ H → G H)
    (hs : ∀ i x σ H H', i < n → Pv i σ H → Y i H x H' → g x σ H' fun σ2 H2 => tb { D with nx := Pv (i + 1), ct := Pv (i + 1), bk := D.nx } σ2 H2) (hd : ∀ σ H, Pv n σ H → D.nx σ H) : Loop J g tb D σ H := for_it w Pv h0 hG hs hd
/-- a comprehension's reading -/
def LcL (J : It) (g : TG) (tt : TT) (te : TE) (vs : List Nat) (σ : L2.St) (H1 : Hp) (Q : VK) : Prop := ∀ D, H1 D = none → ∃ W : Nat → Nat → Hp → Prop, (∃ m, W 0 m (upd H1 D (.lst []))) ∧ ∀ i m H, W i m H →
  (J.stop i H ∧ Q (.ref D) H) ∨ (J.go i H ∧ ∃ Nx : Hp → Prop, (∀ H', Nx H' → ∃ m', m' < m ∧ W (i + 1) m' H') ∧ ∀ x H', J.yld i H x H' → g x (wipe σ vs) H' fun σ2 H2 => wipe σ2 vs = wipe σ vs ∧ tt σ2 H2 fun b H3 =>
    if b = true then te σ2 H3 fun y H4 => ∃ acc, H4 D = some (.lst acc) ∧ acc.length < sizeLine ∧ Nx (upd H4 D (.lst (acc ++ [y]))) else Nx H3)
theorem x_tLc {wi : TI} {g : TG} {tt : TT} {te : TE} {vs : List Nat} {σ : L2.St} {H : Hp} {Q : VK} : tLc wi g tt te vs σ H Q = wi σ H fun J H1 => LcL J g tt te vs σ H1 Q := rfl
/-- the item goes to the list at D -/
def Push (D : Addr) (N : Hp → Prop) : VK := fun y H4 => ∃ acc, H4 D = some (.lst acc) ∧ acc.length < sizeLine ∧ N (upd H4 D (.lst (acc ++ [y])))
theorem x_push {D : Addr} {N : Hp → Prop} {y : V} {H : Hp} {acc : List V} (h : H D = some (.lst acc)) (hl : acc.length < 1000000) (k : ∀ H5, (∀ x o, x ≠ D → H x = some o → H5 x = some o) → H5 D = some (.lst (acc ++ [y])) → N H5) : Push D N y H :=
  ⟨acc, h, by rw [sizeLine_eq]; omega, k _ (fun x o hx e => by rw [upd_ne hx]; exact e) upd_same⟩
theorem lcl_it {J : It} {n : Nat} {G : Hp → Prop} {Y : Nat → Hp → V → Hp → Prop} {g : TG} {tt : TT} {te : TE} {vs : List Nat} {σ : L2.St} {H1 : Hp} {Q : VK} (w : Walk J n G Y) (Pv : Addr → Nat → Hp → Prop)
    (h0 : ∀ D H', H1 D = none → Ex H1 H' → H' D = some (.lst []) → Pv D 0 H') (hG : ∀ D i H, i ≤ n → Pv D i H → G H)
    (hs : ∀ D i x H H', H1 D = none → i < n → Pv D i H → Y i H x H' → g x (wipe σ vs) H' fun σ2 H2 => wipe σ2 vs = wipe σ vs ∧ tt σ2 H2 fun b H3 => if b = true then te σ2 H3 (Push D (Pv D (i + 1))) else Pv D (i + 1) H3)
    (hd : ∀ D H, H1 D = none → Pv D n H → Q (.ref D) H) : LcL J g tt te vs σ H1 Q := fun D hD =>
  lc_it w (Pv D) (h0 D _ hD (Ex.new hD) upd_same) (hG D) (fun i x H H' hi p y => hs D i x H H' hD hi p y) (fun H p => hd D H hD p)
section
variable {H : Hp} {p : Addr} {xs : List V} {v : V} {Q : VK}
theorem x_menu {K : PySem.W.Frag} {r : Int} (h : H p = some (.lst xs)) (r0 : 0 ≤ r) (r1 : r < xs.length) (k : ∀ v, xs[r.toNat]? = some v → v ∈ xs → Q v H) : rIx K (.ref p) (.int r) H Q := by
  have hr : r.toNat < xs.length := by omega
  exact x_ixL (SqL.of h) (atI_in r0 (by simp [hr])) (k xs[r.toNat] (by simp [hr]) (List.getElem_mem hr))
theorem x_tyL {K : PySem.W.Frag} (h : SqL K H p xs) : tyV K "list" (.ref p) H := .inl ⟨rfl, xs, h⟩
theorem x_append (h : H p = some (.lst xs)) (hl : xs.length < 1000000) (k : ∀ H', (∀ x o, x ≠ p → H x = some o → H' x = some o) → H' p = some (.lst (xs ++ [v])) → Q .non H') : rAppend (.ref p) [v] H Q :=
  ⟨p, xs, v, rfl, rfl, h, by rw [sizeLine_eq]; omega, k _ (fun x o hx e => by rw [upd_ne hx]; exact e) upd_same⟩
theorem x_never {D : Ends} {σ : L2.St} {H : Hp} : tNever D σ H = False := rfl
/-- a list or a tuple that is read -/
def SqA (K : PySem.W.Frag) (H : Hp) (p : Addr) (xs : List V) : Prop := SqL K H p xs ∨ SqT K H p xs
theorem SqA.ex {K : PySem.W.Frag} {H' : Hp} (h : SqA K H p xs) (e : Ex H H') : SqA K H' p xs := h.elim (fun h => .inl (ex_l e h)) (fun h => .inr (ex_t e h))
theorem x_ixA {K : PySem.W.Frag} {i : Int} (h : SqA K H p xs) (e : atI xs i = some v) (k : Q v H) : rIx K (.ref p) (.int i) H Q := h.elim (fun h => x_ixL h e k) (fun h => x_ixT h e k)
theorem x_lenA {K : PySem.W.Frag} (h : SqA K H p xs) (k : Q (.int (xs.length : Nat)) H) : rLenU K [.ref p] H Q := h.elim (fun h => x_lenL h k) (fun h => x_lenT h k)
theorem x_eqD {K : PySem.W.Frag} {x y : V} {d e : PyData} (h1 : Dp K H x d) (h2 : Dp K H y e) (s1 : SeqAt.shaped d = true) (s2 : SeqAt.shaped e = true) (k : Q (.bl (PyData.eqv d e)) H) : rEqU K x y H Q := .inr ⟨d, e, h1, h2, s1, s2, k⟩
theorem x_neD {K : PySem.W.Frag} {x y : V} {d e : PyData} (h1 : Dp K H x d) (h2 : Dp K H y e) (s1 : SeqAt.shaped d = true) (s2 : SeqAt.shaped e = true) (k : Q (.bl (!PyData.eqv d e)) H) : rNeU K x y H Q := .inr ⟨d, e, h1, h2, s1, s2, k⟩
def tyN : PyData → String
  | .none => "NoneType"
  | .bool _ => "bool"
  | .int _ => "int"
  | .str _ => "str"
  | .list _ => "list"
  | .tuple _ => "tuple"
  | .dict _ => "dict"
theorem dp_ty {K : PySem.W.Frag} {d : PyData} (h : Dp K H v d) : TyX K H v (.type (tyN d)) := by
  cases h with
  | non => exact .base .non
  | bl b => exact .base (.bl b)
  | int i => exact .base (.int i)
  | str x => exact .base (.str x)
  | lst h _ =>
    rcases h with (h | ⟨o, h⟩) | ⟨o, its, n, h1, h2, _⟩
    · exact .base (.lst h)
    · exact .base (.frz h)
    · exact .kList h1 h2
  | tup h _ =>
    rcases h with (h | ⟨o, h⟩) | ⟨o, its, n, h1, h2, _⟩
    · exact .base (.tup h)
    · exact .fTuple h
    · exact .kTuple h1 h2
theorem x_isD {K : PySem.W.Frag} {d : PyData} {T : String} {b : Bool} (h : Dp K H v d) (e : PySem.W.kitOne K (.type (tyN d)) (.type T) = some b) (k : Q (.bl b) H) : rIsiU K [v, .ty T] H Q := .inl ⟨_, _, _, _, b, rfl, .ty _, dp_ty h, e, k⟩
theorem x_isD2 {K : PySem.W.Frag} {d : PyData} {A B : String} {b : Bool} {tp : Addr} (h : Dp K H v d) (ht : H tp = some (.tup [.ty A, .ty B])) (e : PySem.W.kitAny K (.type (tyN d)) [.type A, .type B] = some b) (k : Q (.bl b) H) : rIsiU K [v, .ref tp] H Q :=
  .inr ⟨v, tp, [.ty A, .ty B], _, [.type A, .type B], b, rfl, ht, .cons (.ty _) (.cons (.ty _) .nil), dp_ty h, e, k⟩
theorem x_range1 {n : Int} {R : It → Hp → Prop} (h : -1000000000000000000 ≤ n ∧ n ≤ 1000000000000000000) (k : R (Itr 0 n.toNat) H) : ∃ j : Int, [V.int n] = [.int j] ∧ -(2 ^ 62) ≤ j ∧ j < 2 ^ 62 ∧ R (Itr 0 j.toNat) H := ⟨n, rfl, by omega, by omega, k⟩
end
/-- a list, a tuple, a text that is walked -/
def rIter (K : PySem.W.Frag) (x : V) (H : Hp) (R : It → Hp → Prop) : Prop := (∃ a xs, x = .ref a ∧ SqL K H a xs ∧ R (Itl K a) H) ∨ (∃ a xs, x = .ref a ∧ SqT K H a xs ∧ R (Itt K a) H) ∨ (∃ z, x = .str z ∧ R (Its z) H)
def iU (K : PySem.W.Frag) (te : TE) : TI := fun σ H R => te σ H fun x H1 => rIter K x H1 R
theorem pi_U {X : Cx} {tg e : Expr} {te : TE} {K : PySem.W.Frag} (he : PE X e te) (hK : X.K = K := by rfl) : PI X tg e (iU K te) := by
  subst hK
  refine ⟨fun pins s σ H R I h => ?_⟩
  refine thn (he.run pins s σ H _ I h) fun v s1 ⟨x, H1, I1, r1, q1⟩ => ?_
  rcases q1 with ⟨a, xs, e, hq, q⟩ | ⟨a, xs, e, hq, q⟩ | ⟨z, e, q⟩
  · subst e
    cases r1
    obtain ⟨its, rv, p, hz⟩ := I1.list hq
    refine wpAny_pyIter_list p.isList ?_
    refine ⟨s1.heap.objs.size, [s1.heap.objs.size], _, _, H1, rfl, I1.kept (t' := s1.toks) fun b o e => Heap.get?_push_of_some _ e, turn_list a _, ⟨_, Heap.get?_push_size _ rfl, rfl, rfl⟩, fun b hb => ?_, q⟩
    have e : b = s1.heap.objs.size := by simpa using hb
    subst e
    exact I1.fpOk (Nat.le_refl _) (I1.hok.fresh (Nat.le_refl _))
  · subst e
    cases r1
    obtain ⟨its, rv, p, hz⟩ := I1.tuple hq
    refine wpAny_pyIter_tuple (show s1.heap.IsTuple a its.toArray from p) ?_
    refine ⟨s1.heap.objs.size, [s1.heap.objs.size], _, _, H1, rfl, I1.kept (t' := s1.toks) fun b o e => Heap.get?_push_of_some _ e, turn_tuple a _, ⟨_, Heap.get?_push_size _ rfl, rfl, rfl⟩, fun b hb => ?_, q⟩
    have e : b = s1.heap.objs.size := by simpa using hb
    subst e
    exact I1.fpOk (Nat.le_refl _) (I1.hok.fresh (Nat.le_refl _))
  · subst e
    obtain ⟨t, rfl⟩ := r1
    cases ha : z.cps.all (· < 128)
    · exact wpAny_pyIter_wide ha (pi_one (tk := s1.toks) I1 _ (turn_str _ z t "str_iterator" (.inr rfl)) ⟨_, Heap.get?_push_size _ rfl, rfl, rfl⟩ q)
    · exact wpAny_pyIter_ascii ha (pi_one (tk := s1.toks) I1 _ (turn_str _ z t "str_ascii_iterator" (.inl rfl)) ⟨_, Heap.get?_push_size _ rfl, rfl, rfl⟩ q)
theorem x_itL {K : PySem.W.Frag} {H : Hp} {a : Addr} {xs : List V} {R : It → Hp → Prop} (h : SqL K H a xs) (k : R (Itl K a) H) : rIter K (.ref a) H R := .inl ⟨a, xs, rfl, h, k⟩
theorem x_itT {K : PySem.W.Frag} {H : Hp} {a : Addr} {xs : List V} {R : It → Hp → Prop} (h : SqT K H a xs) (k : R (Itt K a) H) : rIter K (.ref a) H R := .inr (.inl ⟨a, xs, rfl, h, k⟩)
theorem x_itS {K : PySem.W.Frag} {H : Hp} {z : Str} {R : It → Hp → Prop} : rIter K (.str z) H R ↔ R (Its z) H := by
  constructor
  · rintro (⟨_, _, e, _⟩ | ⟨_, _, e, _⟩ | ⟨_, e, h⟩)
    · cases e
    · cases e
    · cases e; exact h
  · exact fun h => .inr (.inr ⟨z, rfl, h⟩)
theorem call_allU {X : Cx} (hc : X.calm = true) {K : PySem.W.Frag} (hK : X.K = K := by rfl) : CallR X (.builtin "all") (rAll K) := by subst hK; exact cr_all hc
theorem call_anyU {X : Cx} (hc : X.calm = true) {K : PySem.W.Frag} (hK : X.K = K := by rfl) : CallR X (.builtin "any") (rAny K) := by subst hK; exact cr_any hc
end FB
set_option Elab.async false
set_option linter.all false
set_option maxRecDepth 100000
set_option maxHeartbeats 4000000
/-! enumerate of a tuple. -/
namespace FB
open PySem PySem.Spec PyProof.Rows L2 Evl
/-- one argument: the count begins at 0 -/
theorem meets_enum1 {v : Value} {o : Obj} {W : Heap → Prop} (B : Begins v o W) :
    Meets (Builtin.«enumerate.__new__» ⟨[.type "enumerate", v], []⟩) (fun _ R s => W s.heap ∧
      R (.ok (.ret (.ref (s.heap.push o).objs.size))) { s with heap := (s.heap.push o).push { cls := .type "enumerate", data := .fields #[.none, .bool false, .ref s.heap.objs.size, rawInt 0, .none, .none] } }) := by
  refine .of_wp ?_
  intro prog w A R s hs
  rcases s with ⟨hp, g, d, tk, os⟩
  rcases hs with ⟨h1, h2⟩
  have sub0 := sub_enumerate
  have go : ∀ {A' : Around} {E Q : Value → Shared → Prop}, Q (.ref hp.objs.size) ⟨hp.push o, g, d, tk, os⟩ → wpAny (model prog w) A' (pyIter v) Q E ⟨hp, g, d, tk, os⟩ := by
    intro A' E Q q
    exact B.iter prog w A' E _ Q h1 q
  wp_walk using go
  apply wpAny_stack_any
  intro st
  apply wpAny_pure
  split
  case h_1 c _ _ _ _ _ =>
    by_cases hc : (c == Value.type "enumerate") = true
    all_goals (simp only [hc]; wp_walk using go)
    all_goals exact ⟨_, rfl, h2⟩
  all_goals (wp_walk using go)
  all_goals exact ⟨_, rfl, h2⟩
section
variable {prog : Program} {w : World} {A : Around} {E : Value → Shared → Prop} {s : Shared}
theorem enum_one {v : Value} {o : Obj} {W : Heap → Prop} {Q : Value → Shared → Prop} (B : Begins v o W) (h1 : W s.heap)
    (h : ∀ h', IsEnum h' (s.heap.objs.size + 1) s.heap.objs.size 0 .none → h'.get? s.heap.objs.size = some o → (∀ b u, s.heap.get? b = some u → h'.get? b = some u) → Q (.ref (s.heap.objs.size + 1)) { s with heap := h' }) :
    wpAny (model prog w) A (call (.type "enumerate") [v]) Q E s := by
  have sz : (s.heap.push o).objs.size = s.heap.objs.size + 1 := Heap.size_push ..
  have at1 := Heap.get?_push_size (s.heap.push o) (o := { cls := .type "enumerate", data := .fields #[.none, .bool false, .ref s.heap.objs.size, rawInt 0, .none, .none] }) rfl
  rw [sz] at at1
  have en : IsEnum _ (s.heap.objs.size + 1) s.heap.objs.size 0 .none := at1
  apply callType_new F.called_enumerate (by decide) (F.typeCall_enumerate_1 _) (F.newCall_enumerate_1 _) (fun x => F.args_object_init_2 x _) F.entry_enumerate_new (meets_enum1 B)
  refine ⟨h1, ?_⟩
  rw [sz]
  exact ⟨⟨_, en, rfl⟩, h _ en (Heap.get?_push_of_some _ (Heap.get?_push_size _ B.free)) (fun b u x => Heap.get?_push_of_some _ (Heap.get?_push_of_some _ x))⟩
end
/-- the tuple at a, each item in a new pair with its place -/
def IteT (K : PySem.W.Frag) (a : Addr) : It where
  go := fun i H => ∃ (xs : List V) (x : V), SqT K H a xs ∧ xs[i]? = some x
  yld := fun i H v H' => ∃ T x, v = .ref T ∧ H T = none ∧ H' = upd H T (.tup [.int (i : Nat), x]) ∧ ∀ xs, SqT K H a xs → xs[i]? = some x
  stop := fun i H => ∃ xs : List V, SqT K H a xs ∧ xs.length = i
theorem walk_enumT {K : PySem.W.Frag} {a : Addr} {xs : List V} : Walk (IteT K a) xs.length (fun H => SqT K H a xs) (YPair (fun i => some (.int (i : Nat))) (fun i => xs[i]?)) where
  goes := fun i H hi q => ⟨xs, xs[i], q, by simp [hi]⟩
  stops := fun H q => ⟨xs, q, rfl⟩
  yields := fun i H v H' _ q ⟨T, x, h1, h2, h3, h4⟩ => ⟨T, .int (i : Nat), x, h1, h2, h3, rfl, h4 xs q⟩
/-- the iterator's two objects -/
def EnT (a e it : Addr) (i : Nat) (h : Heap) : Prop := (∃ old, IsEnum h e it ((i : Nat) : Int) old) ∧ h.IsTupleIter it a i ∧ e ≠ it
theorem turn_enumT {P : Program} {w : World} {K : PySem.W.Frag} {elts : List Expr} {kk : Nat} {tpos : Pos} (a e it : Addr) : Turn P w K (.Tuple elts kk tpos) (IteT K a) [e, it] e (EnT a e it) := by
  constructor
  case mem => exact List.mem_cons_self ..
  case obj =>
    rintro i h ⟨⟨old, he⟩, ⟨o, ho, _, hd⟩, _⟩ b hb
    simp only [List.mem_cons, List.not_mem_nil, or_false] at hb
    rcases hb with rfl | rfl
    · exact ⟨_, he, fun v q => nomatch q⟩
    · exact ⟨o, ho, fun v q => by rw [hd] at q; cases q⟩
  case keep =>
    rintro i h h' ⟨⟨old, he⟩, hi, ne⟩ k
    exact ⟨⟨old, k e (by simp) _ he⟩, hi.at (fun o q => k it (by simp) o q), ne⟩
  case self =>
    rintro A i s Q E ⟨⟨old, he⟩, _⟩ h
    exact wpAny_pyIter_enum he h
  case item =>
    rintro X rfl rfl rfl hc i pins s σ H E I hf ⟨⟨old, he⟩, hit, ne⟩ ⟨xs, x, hq, hx⟩
    obtain ⟨its, rv, p, hz⟩ := I.tuple hq
    have p' : s.heap.IsTuple a its.toArray := p
    obtain ⟨u, hu, ru⟩ := rv.get hx
    have hlt : i < its.length := (List.getElem?_eq_some_iff.mp hu).1
    have nai : a ≠ it := by
      rintro rfl
      obtain ⟨o1, e1, c1, _⟩ := p'
      obtain ⟨o2, e2, c2, _⟩ := hit
      rw [e1] at e2
      cases e2
      rw [c1] at c2
      exact absurd c2 (by decide)
    have nea : e ≠ a := by
      rintro rfl
      obtain ⟨o1, e1, c1, _⟩ := p'
      have e2 : s.heap.get? e = some _ := he
      rw [e1] at e2
      cases e2
      have c : Value.type "enumerate" = Value.type "tuple" := c1
      exact absurd c (by decide)
    have hh : X.A.in1.handled = none := I.ok.hd hc
    have le : e < s.heap.objs.size := Heap.lt_size he
    have li : it < s.heap.objs.size := by
      obtain ⟨_, q, _⟩ := hit
      exact Heap.lt_size q
    have ez : ((i + 1 : Nat) : Int) = (i : Int) + 1 := by omega
    refine wpAny_pyNext_enum_itemC (Draws.tuple hh it a nai its.toArray) he ⟨hit, p'⟩ (by simpa using hlt) ne (by simp [ne, nea]) ?_
    intro y h' tk hy ho hst hT _ hk
    obtain rfl : y = u := by
      have : its[i]? = some y := by simpa using hy
      rw [hu] at this
      exact (Option.some.inj this).symm
    refine ⟨_, rfl, wpAny_letOwnedTupleGo_enum (s := { s with heap := h', toks := tk + 1 }) ho ?_⟩
    intro h2 he2 sb
    have hT2 : h2.get? s.heap.objs.size = some { cls := .type "tuple", data := .seq #[.int i tk, y] } := (sb.2 _ (Nat.ne_of_gt le)).trans hT
    have mk : ObjOk X.prog X.w (upd H s.heap.objs.size (.tup [.int (i : Nat), x])) h2 s.heap.objs.size (.tup [.int (i : Nat), x]) :=
      ⟨small (n := 2) (by omega), [.int i tk, y], .cons ⟨tk, rfl⟩ (.cons ru .nil), ⟨_, hT2, rfl, _, rfl⟩⟩
    have J : Inv X pins σ (upd H s.heap.objs.size (.tup [.int (i : Nat), x])) { s with heap := h2, toks := tk + 1 } := by
      refine I.turnedNew (ch := [e, it]) (fun b ob hb q => ?_) hf (Nat.le_refl _) mk
      simp only [List.mem_cons, List.not_mem_nil, or_false, not_or] at hb
      exact (sb.2 b hb.1).trans (hk b ob hb.1 hb.2 q)
    refine ⟨.ref s.heap.objs.size, _, J, rfl, ⟨_, x, rfl, I.hok.fresh (Nat.le_refl _), rfl, fun ys hy => by rw [I.tuple_inj hy hq]; exact hx⟩, ⟨⟨y, ?_⟩, hst.1.at (fun o q => (sb.2 it ne.symm).trans q), ne⟩, fun b hb => ?_⟩
    · rw [ez]
      exact he2
    · have lb : b < s.heap.objs.size := by
        simp only [List.mem_cons, List.not_mem_nil, or_false] at hb
        rcases hb with rfl | rfl
        · exact le
        · exact li
      rw [upd_ne (Nat.ne_of_lt lb)]
      exact (hf b hb).1
  case done =>
    rintro X rfl rfl rfl hc i pins s σ H E I hf ⟨⟨old, he⟩, hit, ne⟩ ⟨xs, hq, hx⟩
    obtain ⟨its, rv, p, hz⟩ := I.tuple hq
    have p' : s.heap.IsTuple a its.toArray := p
    have hlen := rv.length
    have hh : X.A.in1.handled = none := I.ok.hd hc
    have nai : a ≠ it := by
      rintro rfl
      obtain ⟨o1, e1, c1, _⟩ := p'
      obtain ⟨o2, e2, c2, _⟩ := hit
      rw [e1] at e2
      cases e2
      rw [c1] at c2
      exact absurd c2 (by decide)
    have hi : its.toArray.size = i := by rw [List.size_toArray, ← hlen, hx]
    obtain ⟨f0, f1, f2, f3, f4, f5⟩ := hf it (by simp)
    refine wpAny_pyNext_enum_endD (Draws.tuple hh it a nai its.toArray) he (by rw [hi]; exact ⟨hit, p'⟩) ?_
    intro h' eb
    exact ⟨rfl, I.turned (t' := s.toks) (fun b o hb q => eb b o hb q) f0 f1 f3 f4 f5⟩
def iEnumT (K : PySem.W.Frag) (ta : TA) : TI := fun σ H R => ta σ H fun vs H1 => ∃ a xs, vs = [.ref a] ∧ SqT K H1 a xs ∧ R (IteT K a) H1
theorem pi_enumT {X : Cx} {e : Expr} {ta : TA} {p pos tpos : Pos} {elts : List Expr} {kk : Nat} {K : PySem.W.Frag} (hg : Gl X "enumerate") (hm : X.mg "enumerate" = none) (ha : PA X [e] ta) (hK : X.K = K := by rfl) (hs : starEach [e] X.env = [(false, eval e X.env)] := by rfl) :
    PI X (.Tuple elts kk tpos) (.Call (.Name "enumerate" p) [e] [] pos) (iEnumT K ta) := by
  subst hK
  constructor
  intro pins s σ H R I h
  apply Call_ (ld_blt I hg hm boot_enumerate (PyProof.Rows.callWith_type1 (thn (ha.run pos pins s σ H _ I h) ?_) hs rfl))
  rintro us s1 ⟨vs, H1, I1, r1, a, xs, rfl, hq, q⟩
  cases r1 with
  | cons r rr =>
    cases rr
    cases r
    obtain ⟨its, rv, p', hz⟩ := I1.tuple hq
    refine enum_one (begins_tuple a its.toArray) p' fun h' he hit hk => wpAny_pyIter_enum he ?_
    have I2 : Inv X pins σ H1 { s1 with heap := h' } := I1.kept (t' := s1.toks) hk
    refine ⟨s1.heap.objs.size + 1, [s1.heap.objs.size + 1, s1.heap.objs.size], _, _, H1, rfl, I2, turn_enumT a (s1.heap.objs.size + 1) s1.heap.objs.size, ⟨⟨.none, he⟩, ⟨_, hit, rfl, rfl⟩, Nat.succ_ne_self _⟩, fun b hb => ?_, q⟩
    have le : s1.heap.objs.size ≤ b := by
      simp only [List.mem_cons, List.not_mem_nil, or_false] at hb
      rcases hb with rfl | rfl
      · exact Nat.le_succ _
      · exact Nat.le_refl _
    exact I1.fpOk le (I1.hok.fresh le)
section
variable {K : PySem.W.Frag} {H : Hp} {σ : L2.St}
theorem x_rU {g : Int → V} {i : Int} {Q : VK} : rU g (.int i) H Q ↔ Q (g i) H := by
  constructor
  · rintro ⟨_, h1, h⟩
    cases h1; exact h
  · exact fun h => ⟨i, rfl, h⟩
theorem x_two {n i j : Nat} {T : Addr} {x y : V} {Q : L2.St → Hp → Prop} (h : SqT K H T [x, y]) (k : Q ((σ.set i (some x)).set j (some y)) H) (hn : n = 2 := by rfl) : gTup K n (gCons (gName i) (gCons (gName j) gNil)) (.ref T) σ H Q := by
  subst hn
  exact ⟨T, _, rfl, h, rfl, x, [y], rfl, y, [], rfl, rfl, k⟩
end
/-- C(..), its __init__ keeping sp -/
def rMk (C : Addr) (sp : Sp) (dvs vs : List V) (H1 : Hp) (Q : XK) : Prop := vs.length ≤ 1000 ∧ ∀ a, H1 a = none → sp (.ref a :: (vs ++ dvs)) (upd H1 a (exo a C none))
  (fun v H2 => v = .non ∧ ∃ (d : Addr) (fs : List (Str × V)), H2 a = some (exo a C (some d)) ∧ H2 d = some (exd d fs) ∧ H1 d = none ∧ Q (.ref C) (some d) (upd (del H2 a) d (.xd fs))) (fun _ _ _ => False)
theorem x_tMkO {C : Addr} {sp : Sp} {dvs : List V} {ta : TA} {σ : L2.St} {H : Hp} {Q : XK} : tMkO C sp dvs ta σ H Q = ta σ H fun vs H1 => rMk C sp dvs vs H1 Q := rfl
end FB
set_option Elab.async false
set_option linter.all false
set_option maxRecDepth 100000
set_option maxHeartbeats 4000000
/-! Dicts: made by a comprehension, walked, asked, filled; sets; zip of tuples. -/
namespace FB
open PySem PySem.Spec PyProof.Rows L2 Evl
section
variable {X : Cx}
/-- the value is locked from here on -/
def tLockV (t : TE) : TE := fun σ H Q => t σ H fun x H1 => ∃ d u, x = .ref d ∧ H1 d = some u ∧ Mut (some u) ∧ ∀ od, Q x (upd H1 d (.frz od u))
theorem pe_lockV {e : Expr} {t : TE} (h : PE X e t) : PE X e (tLockV t) := by
  refine ⟨fun pins s σ H Q I hw => ?_⟩
  refine thn (h.run pins s σ _ _ I hw) fun v s1 ⟨x, H1, I1, r, d, u, e, hd, mu, q⟩ => ?_
  obtain ⟨od, I2⟩ := I1.lock hd mu
  exact ⟨x, _, I2, r, q od⟩
/-- name = {..} on one line, the name a local -/
theorem ps_setDc {i : Nat} {y : Str} {py : Pos} {kx vx tg iter : Expr} {ifs : List Expr} {scope : Scope} {own : List (Str × Nat)} {pos spos : Pos} {wi : TI} {g : TG} {tt : TT} {tk tv : TE} (hc : X.calm = true) (hN : X.N.Nodup) (hy : X.N[i]? = some y) (hyl : X.env.scope.names.lookup y = some .local)
    (hsw : swapsWith (.DictComp kx vx [⟨tg, iter, ifs, 0⟩] scope pos) (some (.Name y py)) spos.line X.env = pure true) (hi : PI X tg iter wi) (ok : BlkOk X.N X.env.scope scope own)
    (hg : ∀ (s : Shared) (H : Hp) (C : Addr) (cl : List (Str × Addr)) (fp : List Addr), PG (X.blk s H scope (compEnvC scope cl C X.env) fp) tg g) (ht : ∀ (s : Shared) (H : Hp) (C : Addr) (cl : List (Str × Addr)) (fp : List Addr), PTs (X.blk s H scope (compEnvC scope cl C X.env) fp) ifs tt)
    (hk : ∀ (s : Shared) (H : Hp) (C : Addr) (cl : List (Str × Addr)) (fp : List Addr), PE (X.blk s H scope (compEnvC scope cl C X.env) fp) kx tk)
    (he : ∀ (s : Shared) (H : Hp) (C : Addr) (cl : List (Str × Addr)) (fp : List Addr), PE (X.blk s H scope (compEnvC scope cl C X.env) fp) vx tv) (hs : ∀ x, foldedSetIterable iter X.env x = pure x := by intro _; rfl) :
    PS X (.Assign [.Name y py] (.DictComp kx vx [⟨tg, iter, ifs, 0⟩] scope pos) spos) (tAsg (tDc wi g tt tk tv (own.map (·.2))) (gName i)) := by
  refine ⟨fun pins s σ H D I h => ?_⟩
  rw [exec_Assign_Name_used _ _ _ _ hsw]
  refine wpAny_bind (wpAny_standAt (wpAny_bind ?_))
  show wpAny _ X.A (do let _ ← comprehension (.DictComp kx vx [⟨tg, iter, ifs, 0⟩] scope pos) scope X.env (firstIterPos [⟨tg, iter, ifs, 0⟩] pos) newDict false (eval iter X.env) (some (assign (.Name y py) X.env))) _ _ s
  have h : tDc wi g tt tk tv (own.map (·.2)) σ H (fun x H1 => gName i x σ H1 D.nx) := h
  refine wpAny_bind (thn (dc_core (Qf := fun _ s' => SP X pins D .next s') hc hN I hi ok hg ht hk he hs h fun L C s' m H' I' q hn f => ?_) fun _ s' hq => wpAny_pure (wpAny_pure hq))
  show wpAny _ _ (assign (.Name y py) X.env (.ref L)) _ _ _
  refine wpAny_assign_Name (store_ok2 (v := V.ref L) I' hN hy (.inl hyl) rfl (fun s2 I2 ⟨a, sb, ha⟩ => ?_) (.inr hyl))
  obtain ⟨f0, f1, f2, f3, f4, f5⟩ := f
  have haC : C ≠ a := by
    rcases ha with z | z
    · rw [z]; exact f1
    · exact fun e => f4 y a z e.symm
  refine ⟨m, hn.sameBut sb haC, fun h3 sb3 => ?_⟩
  exact ⟨_, H', I2.turned (t' := s2.toks) (fun b o hb e => (sb3.2 b hb).trans e) f0 f1 f3 f4 f5, q⟩
theorem sw_trueD {kx vx : Expr} {gs : List Comprehension} {scope : Scope} {pos py : Pos} {y : Str} {l : Nat} {env : Env} (hk : env.scope.kind = .function) (hy : env.scope.names.lookup y = some .local) (hl : (py.line == pos.line) = true)
    (ha : (scope.names.any fun (n, k) => n == y && (k == .local || k == .cell)) = false) : swapsWith (.DictComp kx vx gs scope pos) (some (.Name y py)) l env = pure true := by
  have ky : env.kindOf y = some .local := hy
  have hb : env.blockKind = .function := by unfold Env.blockKind; rw [hk]; rfl
  unfold swapsWith
  simp only [hb, ky, ha, Expr.pos, hl]
  rfl
end
/-- a dict comprehension's reading -/
def DcL (J : It) (g : TG) (tt : TT) (tk tv : TE) (vs : List Nat) (σ : L2.St) (H1 : Hp) (Q : VK) : Prop := ∀ D, H1 D = none → ∃ W : Nat → Nat → Hp → Prop, (∃ m, W 0 m (upd H1 D (.dK []))) ∧ ∀ i m H, W i m H →
  (J.stop i H ∧ Q (.ref D) H) ∨ (J.go i H ∧ ∃ Nx : Hp → Prop, (∀ H', Nx H' → ∃ m', m' < m ∧ W (i + 1) m' H') ∧ ∀ x H', J.yld i H x H' → g x (wipe σ vs) H' fun σ2 H2 => wipe σ2 vs = wipe σ vs ∧ tt σ2 H2 fun b H3 =>
    if b = true then tk σ2 H3 fun y H4 => tv σ2 H4 fun z H5 => ∃ kvs k, y = kV k ∧ H5 D = some (.dK kvs) ∧ kvs.length < sizeLine ∧ Nx (upd H5 D (.dK (putK kvs k z))) else Nx H3)
theorem x_tDc {wi : TI} {g : TG} {tt : TT} {tk tv : TE} {vs : List Nat} {σ : L2.St} {H : Hp} {Q : VK} : tDc wi g tt tk tv vs σ H Q = wi σ H fun J H1 => DcL J g tt tk tv vs σ H1 Q := rfl
/-- the item goes to the dict at D -/
def PutD (D : Addr) (N : Hp → Prop) (y : V) : VK := fun z H5 => ∃ kvs k, y = kV k ∧ H5 D = some (.dK kvs) ∧ kvs.length < sizeLine ∧ N (upd H5 D (.dK (putK kvs k z)))
theorem x_putD {D : Addr} {N : Hp → Prop} {k : Key} {z : V} {H : Hp} {kvs : List (Key × V)} (h : H D = some (.dK kvs)) (hl : kvs.length < 1000000) (q : ∀ H5, (∀ x o, x ≠ D → H x = some o → H5 x = some o) → H5 D = some (.dK (putK kvs k z)) → N H5) : PutD D N (kV k) z H :=
  ⟨kvs, k, rfl, h, by rw [sizeLine_eq]; omega, q _ (fun x o hx e => by rw [upd_ne hx]; exact e) upd_same⟩
theorem dcl_it {J : It} {n : Nat} {G : Hp → Prop} {Y : Nat → Hp → V → Hp → Prop} {g : TG} {tt : TT} {tk tv : TE} {vs : List Nat} {σ : L2.St} {H1 : Hp} {Q : VK} (w : Walk J n G Y) (Pv : Addr → Nat → Hp → Prop)
    (h0 : ∀ D H', H1 D = none → Ex H1 H' → H' D = some (.dK []) → Pv D 0 H') (hG : ∀ D i H, i ≤ n → Pv D i H → G H)
    (hs : ∀ D i x H H', H1 D = none → i < n → Pv D i H → Y i H x H' → g x (wipe σ vs) H' fun σ2 H2 => wipe σ2 vs = wipe σ vs ∧ tt σ2 H2 fun b H3 => if b = true then tk σ2 H3 fun y H4 => tv σ2 H4 (PutD D (Pv D (i + 1)) y) else Pv D (i + 1) H3)
    (hd : ∀ D H, H1 D = none → Pv D n H → Q (.ref D) H) : DcL J g tt tk tv vs σ H1 Q := fun D hD => by
  refine ⟨fun i m H => m = n - i ∧ i ≤ n ∧ Pv D i H, ⟨n, by simp, Nat.zero_le _, h0 D _ hD (Ex.new hD) upd_same⟩, ?_⟩
  rintro i m H ⟨rfl, hi, p⟩
  have q := hG D i H hi p
  by_cases hlt : i < n
  · exact .inr ⟨w.goes i H hlt q, Pv D (i + 1), fun H' p' => ⟨n - (i + 1), by omega, rfl, hlt, p'⟩, fun x H' y => hs D i x H H' hD hlt p (w.yields i H x H' hlt q y)⟩
  · have e : i = n := by omega
    subst e
    exact .inl ⟨w.stops H q, hd D H hD p⟩
section
variable {K : PySem.W.Frag} {H H' : Hp} {a b d p : Addr} {kvs : List (Key × V)} {k : Key} {v : V} {Q : VK} {xs ys : List V}
theorem x_lock {t : TE} {σ : L2.St} {u : HO} (h : H d = some u) (mu : Mut (some u)) (q : ∀ od H1, (∀ x o, x ≠ d → H x = some o → H1 x = some o) → (∀ x, x ≠ d → H1 x = none → H x = none) → H1 d = some (.frz od u) → t σ H1 fun v H' => H' d = some (.frz od u) ∧ Q v (upd H' d u)) : tLockE t σ H Q :=
  ⟨d, u, h, mu, fun od => q od _ (fun x o hx e => by rw [upd_ne hx]; exact e) (fun x hx e => by rw [upd_ne hx] at e; exact e) upd_same⟩
def rLockV (x : V) (H : Hp) (Q : VK) : Prop := ∃ d u, x = .ref d ∧ H d = some u ∧ Mut (some u) ∧ ∀ od, Q x (upd H d (.frz od u))
theorem x_tLockV {t : TE} {σ : L2.St} : tLockV t σ H Q = t σ H fun x H1 => rLockV x H1 Q := rfl
theorem x_lockV {u : HO} (h : H d = some u) (mu : Mut (some u)) (q : ∀ od H1, (∀ x o, x ≠ d → H x = some o → H1 x = some o) → (∀ x, x ≠ d → H1 x = none → H x = none) → H1 d = some (.frz od u) → Q (.ref d) H1) : rLockV (.ref d) H Q :=
  ⟨d, u, rfl, h, mu, fun od => q od _ (fun x o hx e => by rw [upd_ne hx]; exact e) (fun x hx e => by rw [upd_ne hx] at e; exact e) upd_same⟩
/-- d[k] -/
def rDGet (x y : V) (H : Hp) (Q : VK) : Prop := ∃ a v, x = .ref a ∧ DGet H a y (some v) ∧ Q v H
theorem x_tDGet {td ty : TE} {σ : L2.St} : tDGet td ty σ H Q = td σ H fun x H1 => ty σ H1 fun y H2 => rDGet x y H2 Q := rfl
theorem x_dget (h : H a = some (.dK kvs)) (e : valV kvs k = some v) (q : Q v H) : rDGet (.ref a) (kV k) H Q := ⟨a, v, rfl, by rw [← e]; exact DGet.k h, q⟩
/-- d.get(k, z) -/
def rDGet2 (a : Addr) (y z : V) (H : Hp) (Q : VK) : Prop := ∃ o, DGet H a y o ∧ Q (o.getD z) H
theorem x_tDGet2 {td ty tx : TE} {σ : L2.St} : tDGet2 td ty tx σ H Q = td σ H fun x H1 => ∃ a, x = .ref a ∧ IsD H1 a ∧ ty σ H1 fun y H2 => tx σ H2 fun z H3 => rDGet2 a y z H3 Q := rfl
theorem isD_k (h : H a = some (.dK kvs)) : IsD H a := .inl ⟨kvs, .inl h⟩
theorem x_dget2 {z : V} (h : H a = some (.dK kvs)) (q : Q ((valV kvs k).getD z) H) : rDGet2 a (kV k) z H Q := ⟨_, DGet.k h, q⟩
/-- d[k] = v -/
def rDPut (x y v : V) (H : Hp) (N : Hp → Prop) : Prop := ∃ a H4, x = .ref a ∧ DPut H a y v H4 ∧ N H4
theorem x_sDPut {td ty tv : TE} {σ : L2.St} {D : Ends} : sDPut td ty tv D σ H = tv σ H fun v H1 => td σ H1 fun x H2 => ty σ H2 fun y H3 => rDPut x y v H3 (D.nx σ) := rfl
theorem x_dput {N : Hp → Prop} (h : H a = some (.dK kvs)) (hl : kvs.length < 1000000) (q : ∀ H1, (∀ x o, x ≠ a → H x = some o → H1 x = some o) → (∀ x, x ≠ a → H1 x = none → H x = none) → H1 a = some (.dK (putK kvs k v)) → N H1) : rDPut (.ref a) (kV k) v H N :=
  ⟨a, _, rfl, DPut.k h (by rw [sizeLine_eq]; omega), q _ (fun x o hx e => by rw [upd_ne hx]; exact e) (fun x hx e => by rw [upd_ne hx] at e; exact e) upd_same⟩
/-- d.setdefault(k, z) -/
def rDSetd (a : Addr) (y z : V) (H : Hp) (Q : VK) : Prop := ∃ (kvs : List (Key × V)) (k : Key), H a = some (.dK kvs) ∧ y = kV k ∧ kvs.length < sizeLine ∧ (∀ v, valV kvs k = some v → Q v H) ∧ (valV kvs k = none → Q z (upd H a (.dK (putK kvs k z))))
theorem x_tDSetd {td ty tx : TE} {σ : L2.St} : tDSetd td ty tx σ H Q = td σ H fun x H1 => ∃ a, x = .ref a ∧ IsD H1 a ∧ ty σ H1 fun y H2 => tx σ H2 fun z H3 => rDSetd a y z H3 Q := rfl
theorem x_dsetd {z : V} (h : H a = some (.dK kvs)) (hl : kvs.length < 1000000) (q : ∀ v, valV kvs k = some v → Q v H)
    (q2 : valV kvs k = none → ∀ H1, (∀ x o, x ≠ a → H x = some o → H1 x = some o) → (∀ x, x ≠ a → H1 x = none → H x = none) → H1 a = some (.dK (putK kvs k z)) → Q z H1) : rDSetd a (kV k) z H Q :=
  ⟨kvs, k, h, rfl, by rw [sizeLine_eq]; omega, q, fun e => q2 e _ (fun x o hx e => by rw [upd_ne hx]; exact e) (fun x hx e => by rw [upd_ne hx] at e; exact e) upd_same⟩
/-- {} -/
def rDNew (H : Hp) (Q : VK) : Prop := ∀ p, H p = none → Q (.ref p) (upd H p (.dK []))
theorem x_tDNewK {σ : L2.St} : tDNewK σ H Q = rDNew H Q := rfl
theorem x_dnew (q : ∀ p H', H p = none → Ex H H' → H' p = some (.dK []) → Q (.ref p) H') : rDNew H Q := x_new q
/-- items of a locked dict -/
def rItems (x : V) (H : Hp) (R : It → Hp → Prop) : Prop := ∃ d o kvs, x = .ref d ∧ H d = some (.frz o (.dK kvs)) ∧ R (Iti d o kvs) H
theorem x_iItems {td : TE} {σ : L2.St} {R : It → Hp → Prop} : iItems td σ H R = td σ H fun x H1 => rItems x H1 R := rfl
theorem x_items {o : Obj} {R : It → Hp → Prop} (h : H d = some (.frz o (.dK kvs))) (q : R (Iti d o kvs) H) : rItems (.ref d) H R := ⟨d, o, kvs, rfl, h, q⟩
/-- tuple(range(i, j)) -/
def rTupRg (i j : Int) (H : Hp) (Q : VK) : Prop := RgOk i j ∧ ∀ q, H q = none → Q (.ref q) (upd H q (.tup (rgV i j)))
theorem x_tTupRg {te : L2.St → Hp → (Int → Int → Hp → Prop) → Prop} {σ : L2.St} : tTupRg te σ H Q = te σ H fun i j H1 => rTupRg i j H1 Q := rfl
theorem x_tRg2 {ta tb : TE} {σ : L2.St} {R : Int → Int → Hp → Prop} : tRg2 ta tb σ H R = ta σ H fun x H1 => tb σ H1 fun y H2 => ∃ i j, x = .int i ∧ y = .int j ∧ R i j H2 := rfl
theorem x_tupRg {i j : Int} (h : RgOk i j) (q : ∀ t H', H t = none → Ex H H' → H' t = some (.tup (rgV i j)) → Q (.ref t) H') : rTupRg i j H Q := ⟨h, x_new q⟩
theorem x_sum {ns : List Int} (h : SqL K H a (ns.map V.int)) (q : Q (.int ns.sum) H) : rSum K [.ref a] H Q := ⟨a, ns, rfl, h, q⟩
theorem walk_zipT (hn : xs.length = ys.length) : Walk (RZ.ItzT K a b) xs.length (fun H => SqT K H a xs ∧ SqT K H b ys) (YPair (fun i => xs[i]?) (fun i => ys[i]?)) := by
  refine ⟨fun i _ hi q => ?_, fun _ q => ⟨xs, ys, q.1, q.2, by omega⟩, fun i H v H' _ q y => ?_⟩
  · have h2 : i < ys.length := by omega
    exact ⟨xs, ys, xs[i], ys[i], q.1, q.2, by simp [hi], by simp [h2]⟩
  · obtain ⟨T, x, z, h1, h2, h3, h4, h5⟩ := y
    exact ⟨T, x, z, h1, h2, h3, h4 xs q.1, h5 ys q.2⟩
def rZip (K : PySem.W.Frag) (vs : List V) (H : Hp) (R : It → Hp → Prop) : Prop := ∃ a b xs ys, vs = [.ref a, .ref b] ∧ ((SqL K H a xs ∧ SqL K H b ys ∧ R (Itz K a b) H) ∨ (SqT K H a xs ∧ SqT K H b ys ∧ R (RZ.ItzT K a b) H))
theorem x_iZip {ta : TA} {σ : L2.St} {R : It → Hp → Prop} : RZ.iZipA K ta σ H R = ta σ H fun vs H1 => rZip K vs H1 R := rfl
theorem x_zipT {R : It → Hp → Prop} (h1 : SqT K H a xs) (h2 : SqT K H b ys) (q : R (RZ.ItzT K a b) H) : rZip K [.ref a, .ref b] H R := ⟨a, b, xs, ys, rfl, .inr ⟨h1, h2, q⟩⟩
end
end FB
set_option Elab.async false
set_option linter.all false
set_option maxRecDepth 100000
set_option maxHeartbeats 4000000
/-! The seats of a network's first stations, and who feeds a place. -/
namespace FB
open PySem PySem.Spec PyProof.Rows L2 Evl
/-- a seat: its station, and where it leads -/
abbrev Seats := List (Nat × Key)
def stSeats (k : Nat) (s : List Key) : Seats := s.map fun p => (k, p)
/-- the seats of the first k stations -/
def seatsOf (N : Net) : Nat → Seats
  | 0 => []
  | k + 1 => seatsOf N k ++ stSeats k (N.getD k [])
/-- what f gives for the seats that lead to q -/
def toQ (f : Nat → Int) (q : Key) : Seats → Int
  | [] => 0
  | (i, p) :: r => (if p = q then f i else 0) + toQ f q r
theorem toQ_append {f : Nat → Int} {q : Key} : ∀ {a b : Seats}, toQ f q (a ++ b) = toQ f q a + toQ f q b
  | [], b => by simp [toQ]
  | (i, p) :: r, b => by
    show (if p = q then f i else 0) + toQ f q (r ++ b) = (if p = q then f i else 0) + toQ f q r + toQ f q b
    rw [toQ_append]; omega
theorem toQ_nil {f : Nat → Int} {q : Key} : ∀ {a : Seats}, (∀ s ∈ a, s.2 ≠ q) → toQ f q a = 0
  | [], _ => rfl
  | (i, p) :: r, h => by
    show (if p = q then f i else 0) + toQ f q r = 0
    rw [if_neg (h (i, p) (List.mem_cons_self ..)), toQ_nil fun s hs => h s (List.mem_cons_of_mem _ hs)]
    rfl
theorem toQ_congr {f g : Nat → Int} {q : Key} : ∀ {a : Seats}, (∀ s ∈ a, s.2 = q → f s.1 = g s.1) → toQ f q a = toQ g q a
  | [], _ => rfl
  | (i, p) :: r, h => by
    show (if p = q then f i else 0) + toQ f q r = (if p = q then g i else 0) + toQ g q r
    rw [toQ_congr fun s hs => h s (List.mem_cons_of_mem _ hs)]
    by_cases e : p = q
    · rw [if_pos e, if_pos e, h (i, p) (List.mem_cons_self ..) e]
    · rw [if_neg e, if_neg e]
theorem toQ_nn {f : Nat → Int} {q : Key} : ∀ {a : Seats}, (∀ s ∈ a, 0 ≤ f s.1) → 0 ≤ toQ f q a
  | [], _ => by simp [toQ]
  | (i, p) :: r, h => by
    show 0 ≤ (if p = q then f i else 0) + toQ f q r
    have h1 : 0 ≤ f i := h (i, p) (List.mem_cons_self ..)
    have h2 := toQ_nn (q := q) fun s hs => h s (List.mem_cons_of_mem _ hs)
    split <;> omega
theorem mem_seatsOf {N : Net} {i : Nat} {q : Key} : ∀ {k : Nat}, (i, q) ∈ seatsOf N k ↔ i < k ∧ q ∈ N.getD i []
  | 0 => by simp [seatsOf]
  | k + 1 => by
    show (i, q) ∈ seatsOf N k ++ stSeats k (N.getD k []) ↔ _
    rw [List.mem_append, mem_seatsOf]
    have e : (i, q) ∈ stSeats k (N.getD k []) ↔ i = k ∧ q ∈ N.getD k [] := by
      unfold stSeats
      rw [List.mem_map]
      constructor
      · rintro ⟨p, hp, e⟩
        cases e
        exact ⟨rfl, hp⟩
      · rintro ⟨rfl, h⟩
        exact ⟨q, h, rfl⟩
    rw [e]
    constructor
    · rintro (⟨h1, h2⟩ | ⟨rfl, h2⟩)
      · exact ⟨by omega, h2⟩
      · exact ⟨by omega, h2⟩
    · rintro ⟨h1, h2⟩
      by_cases z : i = k
      · subst z; exact .inr ⟨rfl, h2⟩
      · exact .inl ⟨by omega, h2⟩
theorem seatsOf_len {N : Net} (h : ∀ s ∈ N, s.length ≤ 8) : ∀ k, (seatsOf N k).length ≤ 8 * k
  | 0 => by simp [seatsOf]
  | k + 1 => by
    show (seatsOf N k ++ stSeats k (N.getD k [])).length ≤ _
    rw [List.length_append]
    have h1 := seatsOf_len h k
    have h2 : (stSeats k (N.getD k [])).length ≤ 8 := by
      unfold stSeats
      rw [List.length_map, List.getD_eq_getElem?_getD]
      cases e : N[k]? with
      | none => simp
      | some s => exact h s (List.mem_of_getElem? e)
    omega
/-! ### a place's feeders -/
abbrev Cnt := List (Nat × Int)
def cntV (G : Cnt) : List (Key × V) := G.map fun g => (.inl (g.1 : Int), .int g.2)
def cntQ (f : Nat → Int) : Cnt → Int
  | [] => 0
  | (i, c) :: r => c * f i + cntQ f r
def getC (i : Nat) : Cnt → Int
  | [] => 0
  | (j, c) :: r => if j = i then c else getC i r
def bump (i : Nat) : Cnt → Cnt
  | [] => [(i, 1)]
  | (j, c) :: r => if j = i then (j, c + 1) :: r else (j, c) :: bump i r
theorem cntQ_bump {f : Nat → Int} {i : Nat} : ∀ {G : Cnt}, cntQ f (bump i G) = cntQ f G + f i
  | [] => by simp [bump, cntQ]
  | (j, c) :: r => by
    unfold bump
    by_cases e : j = i
    · rw [if_pos e]
      show (c + 1) * f j + cntQ f r = c * f j + cntQ f r + f i
      rw [e, Int.add_mul]; omega
    · rw [if_neg e]
      show c * f j + cntQ f (bump i r) = c * f j + cntQ f r + f i
      rw [cntQ_bump]; omega
theorem val_cntV {i : Nat} : ∀ {G : Cnt}, (valV (cntV G) (.inl (i : Int))).getD (.int 0) = .int (getC i G)
  | [] => rfl
  | (j, c) :: r => by
    show (valV ((.inl (j : Int), .int c) :: cntV r) (.inl (i : Int))).getD (.int 0) = .int (if j = i then c else getC i r)
    by_cases e : j = i
    · subst e
      rw [if_pos rfl, valV_pos rfl]; rfl
    · rw [if_neg e, valV_neg (by show ¬ (Sum.inl (j : Int) : Key) = Sum.inl (i : Int); intro z; exact e (by have := Sum.inl.inj z; omega)), val_cntV]
theorem any_cntV {i : Nat} : ∀ {G : Cnt}, ((cntV G).any fun kv => decide (kv.1 = (.inl (i : Int) : Key))) = true ↔ i ∈ G.map (·.1)
  | [] => by simp [cntV]
  | (j, c) :: r => by
    show (decide ((Sum.inl (j : Int) : Key) = Sum.inl (i : Int)) || (cntV r).any fun kv => decide (kv.1 = (.inl (i : Int) : Key))) = true ↔ i ∈ j :: r.map (·.1)
    rw [Bool.or_eq_true, any_cntV, List.mem_cons, decide_eq_true_eq]
    constructor
    · rintro (h | h)
      · exact .inl (by have := Sum.inl.inj h; omega)
      · exact .inr h
    · rintro (h | h)
      · exact .inl (by rw [h])
      · exact .inr h
theorem getC_not {i : Nat} : ∀ {G : Cnt}, ¬ i ∈ G.map (·.1) → getC i G = 0
  | [], _ => rfl
  | (j, c) :: r, h => by
    rw [List.map_cons, List.mem_cons, not_or] at h
    show (if j = i then c else getC i r) = 0
    rw [if_neg (fun z => h.1 z.symm), getC_not h.2]
theorem bump_not {i : Nat} : ∀ {G : Cnt}, ¬ i ∈ G.map (·.1) → bump i G = G ++ [(i, 1)]
  | [], _ => rfl
  | (j, c) :: r, h => by
    rw [List.map_cons, List.mem_cons, not_or] at h
    show (if j = i then _ else _) = _
    rw [if_neg (fun z => h.1 z.symm), bump_not h.2]; rfl
theorem map_not {i : Nat} {y : V} : ∀ {G : Cnt}, ¬ i ∈ G.map (·.1) → (cntV G).map (fun kv => if kv.1 = (.inl (i : Int) : Key) then (kv.1, y) else kv) = cntV G
  | [], _ => rfl
  | (j, c) :: r, h => by
    rw [List.map_cons, List.mem_cons, not_or] at h
    show (if (Sum.inl (j : Int) : Key) = Sum.inl (i : Int) then _ else _) :: (cntV r).map _ = _ :: cntV r
    rw [if_neg (fun z => h.1 (by have := Sum.inl.inj z; omega)), map_not h.2]
theorem put_cntV {i : Nat} : ∀ {G : Cnt}, (G.map (·.1)).Nodup → putK (cntV G) (.inl (i : Int)) (.int (getC i G + 1)) = cntV (bump i G)
  | G, nd => by
    unfold putK
    by_cases h : i ∈ G.map (·.1)
    · rw [if_pos (any_cntV.mpr h)]
      induction G with
      | nil => simp at h
      | cons g r ih =>
        obtain ⟨j, c⟩ := g
        rw [List.map_cons, List.nodup_cons] at nd
        by_cases e : j = i
        · subst e
          show (if (Sum.inl (j : Int) : Key) = Sum.inl (j : Int) then ((Sum.inl (j : Int) : Key), V.int (getC j ((j, c) :: r) + 1)) else _) :: (cntV r).map _ = cntV (if j = j then _ else _)
          rw [if_pos rfl, if_pos rfl, map_not nd.1]
          show (_, V.int ((if j = j then c else getC j r) + 1)) :: _ = _
          rw [if_pos rfl]; rfl
        · rw [List.map_cons, List.mem_cons] at h
          have hr : i ∈ r.map (·.1) := h.resolve_left fun z => e z.symm
          show (if (Sum.inl (j : Int) : Key) = Sum.inl (i : Int) then _ else ((Sum.inl (j : Int) : Key), V.int c)) :: (cntV r).map (fun kv => if kv.1 = (.inl (i : Int) : Key) then (kv.1, V.int ((if j = i then c else getC i r) + 1)) else kv) = cntV (if j = i then _ else _)
          rw [if_neg (fun z => e (by have := Sum.inl.inj z; omega)), if_neg e, if_neg e, ih nd.2 hr]; rfl
    · rw [if_neg (fun z => h (any_cntV.mp z)), bump_not h, getC_not h]
      simp [cntV]
theorem bump_keys {i j : Nat} : ∀ {G : Cnt}, j ∈ (bump i G).map (·.1) ↔ j = i ∨ j ∈ G.map (·.1)
  | [] => by simp [bump]
  | (l, c) :: r => by
    unfold bump
    by_cases e : l = i
    · subst e
      rw [if_pos rfl]
      simp
    · rw [if_neg e, List.map_cons, List.mem_cons, bump_keys, List.map_cons, List.mem_cons]
      constructor
      · rintro (h | h | h)
        · exact .inr (.inl h)
        · exact .inl h
        · exact .inr (.inr h)
      · rintro (h | h | h)
        · exact .inr (.inl h)
        · exact .inl h
        · exact .inr (.inr h)
theorem bump_nd {i : Nat} : ∀ {G : Cnt}, (G.map (·.1)).Nodup → ((bump i G).map (·.1)).Nodup
  | [], _ => by simp [bump]
  | (l, c) :: r, nd => by
    rw [List.map_cons, List.nodup_cons] at nd
    unfold bump
    by_cases e : l = i
    · rw [if_pos e, List.map_cons, List.nodup_cons]
      exact nd
    · rw [if_neg e, List.map_cons, List.nodup_cons]
      refine ⟨fun z => ?_, bump_nd nd.2⟩
      rcases bump_keys.mp z with h | h
      · exact e h
      · exact nd.1 h
theorem bump_le {i : Nat} {b : Int} : ∀ {G : Cnt}, (∀ g ∈ G, 0 < g.2 ∧ g.2 ≤ b) → 0 ≤ b → ∀ g ∈ bump i G, 0 < g.2 ∧ g.2 ≤ b + 1
  | [], _, h0, g, hg => by
    have e : g = (i, 1) := by simpa [bump] using hg
    rw [e]; exact ⟨by show (0 : Int) < 1; decide, by show (1 : Int) ≤ b + 1; omega⟩
  | (l, c) :: r, h, h0, g, hg => by
    have hr : ∀ g ∈ r, 0 < g.2 ∧ g.2 ≤ b := fun g hg => h g (List.mem_cons_of_mem _ hg)
    have hc := h (l, c) (List.mem_cons_self ..)
    unfold bump at hg
    by_cases e : l = i
    · rw [if_pos e] at hg
      rcases List.mem_cons.mp hg with rfl | hg
      · exact ⟨by show 0 < c + 1; have := hc.1; omega, by show c + 1 ≤ b + 1; have := hc.2; omega⟩
      · have := hr g hg; exact ⟨this.1, by omega⟩
    · rw [if_neg e] at hg
      rcases List.mem_cons.mp hg with rfl | hg
      · exact ⟨hc.1, by have := hc.2; omega⟩
      · exact bump_le hr h0 g hg
theorem bump_len {i : Nat} : ∀ {G : Cnt}, (bump i G).length ≤ G.length + 1
  | [] => by simp [bump]
  | (l, c) :: r => by
    unfold bump
    by_cases e : l = i
    · rw [if_pos e]; simp
    · rw [if_neg e]
      have := @bump_len i r
      simp; omega
/-! ### dicts as functions -/
theorem putK_keys {kvs : List (Key × V)} {k : Key} {v : V} (nd : (kvs.map (·.1)).Nodup) : ((putK kvs k v).map (·.1)).Nodup := by
  unfold putK
  by_cases h : (kvs.any fun kv => decide (kv.1 = k)) = true
  · rw [if_pos h, List.map_map]
    have e : kvs.map ((·.1) ∘ fun kv => if kv.1 = k then (kv.1, v) else kv) = kvs.map (·.1) := List.map_congr_left fun a _ => by
      show (if a.1 = k then (a.1, v) else a).1 = a.1
      split <;> rfl
    rw [e]; exact nd
  · rw [if_neg h, List.map_append]
    refine nd_snoc nd fun z => h ?_
    obtain ⟨p, hp, e⟩ := List.mem_map.mp z
    exact List.any_eq_true.mpr ⟨p, hp, decide_eq_true e⟩
theorem val_of_mem : ∀ {kvs : List (Key × V)} {k : Key} {v : V}, (kvs.map (·.1)).Nodup → (k, v) ∈ kvs → valV kvs k = some v
  | p :: r, k, v, nd, h => by
    rw [List.map_cons, List.nodup_cons] at nd
    rcases List.mem_cons.mp h with e | h
    · rw [← e, valV_pos rfl]
    · rw [valV_neg (fun z => nd.1 (by rw [z]; exact List.mem_map.mpr ⟨_, h, rfl⟩)), val_of_mem nd.2 h]
theorem sq_but {K : PySem.W.Frag} {H H1 : Hp} {b d : Addr} {xs : List V} {kvs : List (Key × V)} (h : SqL K H b xs) (hd : H d = some (.dK kvs)) (e : ∀ x o, x ≠ d → H x = some o → H1 x = some o) : SqL K H1 b xs := by
  rcases h with (h | ⟨o, h⟩) | h
  · exact .inl (.inl (e _ _ (ne_of h hd (fun z => by cases z)) h))
  · exact .inl (.inr ⟨o, e _ _ (ne_of h hd (fun z => by cases z)) h⟩)
  · exact .inr h
theorem mem_of_val : ∀ {kvs : List (Key × V)} {k : Key} {v : V}, valV kvs k = some v → (k, v) ∈ kvs
  | [], k, v, h => by cases h
  | p :: r, k, v, h => by
    by_cases e : p.1 = k
    · rw [valV_pos e] at h
      rw [← Option.some.inj h, ← e]; exact List.mem_cons_self ..
    · rw [valV_neg e] at h
      exact List.mem_cons_of_mem _ (mem_of_val h)
/-- the dict at D with the feeders of all places, n stations given and the seats of L counted; H0: ahead of it all -/
structure Feed (H0 H : Hp) (D : Addr) (n : Nat) (L : Seats) (A : Key → Option Addr) (G : Key → Cnt) (kvs : List (Key × V)) : Prop where
  nd : (kvs.map (·.1)).Nodup
  val : ∀ q, valV kvs q = (A q).map V.ref
  inj : ∀ q q' a, A q = some a → A q' = some a → q = q'
  ne : ∀ q a, A q = some a → a ≠ D
  inn : ∀ q a, A q = some a → H a = some (.dK (cntV (G q)))
  new : ∀ q a, A q = some a → H0 a = none
  newD : H0 D = none
  keys : ∀ q, (A q).isSome = true ↔ (∃ i : Nat, i < n ∧ q = .inl (i : Int)) ∨ ∃ i, (i, q) ∈ L
  sum : ∀ q f, cntQ f (G q) = toQ f q L
  mem : ∀ q g, g ∈ G q → (g.1, q) ∈ L
  le : ∀ q, ∀ g ∈ G q, 0 < g.2 ∧ g.2 ≤ (L.length : Int)
  ndG : ∀ q, ((G q).map (·.1)).Nodup
  len : kvs.length ≤ n + L.length
  lenG : ∀ q, (G q).length ≤ L.length
  ex : Ex H0 H
section
variable {H0 H H2 : Hp} {D z : Addr} {n i : Nat} {L : Seats} {A : Key → Option Addr} {G : Key → Cnt} {kvs : List (Key × V)} {p : Key}
theorem Feed.empty (F : Feed H0 H D n L A G kvs) (h : A p = none) : G p = [] := by
  cases e : G p with
  | nil => rfl
  | cons g r =>
    have := (F.keys p).mpr (.inr ⟨g.1, F.mem p g (by rw [e]; exact List.mem_cons_self ..)⟩)
    rw [h] at this; cases this
/-- the heap may grow and change elsewhere -/
theorem Feed.but (F : Feed H0 H D n L A G kvs) (e : ∀ x o, H0 x = some o → H2 x = some o) (k : ∀ q a, A q = some a → H2 a = H a) : Feed H0 H2 D n L A G kvs :=
  { F with inn := fun q a h => by rw [k q a h]; exact F.inn q a h, ex := e }
theorem Feed.ex2 (F : Feed H0 H D n L A G kvs) (e : Ex H H2) : Feed H0 H2 D n L A G kvs :=
  { F with inn := fun q a h => e _ _ (F.inn q a h), ex := F.ex.trans e }
/-- one station more in the dict, nobody leads there yet -/
theorem Feed.key (F : Feed H0 H D i [] A G kvs) (hz : H0 z = none) (hzD : z ≠ D) (hzA : ∀ q a, A q = some a → a ≠ z) (h2 : ∀ x o, x ≠ D → H x = some o → H2 x = some o) (h3 : H2 z = some (.dK [])) :
    Feed H0 H2 D (i + 1) [] (fun q => if q = .inl (i : Int) then some z else A q) G (putK kvs (.inl (i : Int)) (.ref z)) where
  nd := putK_keys F.nd
  val := fun q => by
    rw [valV_put, F.val]
    by_cases e : q = .inl (i : Int)
    · rw [if_pos e, if_pos e]; rfl
    · rw [if_neg e, if_neg e]
  inj := fun q q' a h h' => by
    by_cases e : q = .inl (i : Int)
    · rw [if_pos e] at h
      by_cases e' : q' = .inl (i : Int)
      · rw [e, e']
      · rw [if_neg e'] at h'
        exact absurd (Option.some.inj h).symm (hzA _ _ h')
    · rw [if_neg e] at h
      by_cases e' : q' = .inl (i : Int)
      · rw [if_pos e'] at h'
        exact absurd (Option.some.inj h').symm (hzA _ _ h)
      · rw [if_neg e'] at h'
        exact F.inj q q' a h h'
  ne := fun q a h => by
    by_cases e : q = .inl (i : Int)
    · rw [if_pos e] at h; rw [← Option.some.inj h]; exact hzD
    · rw [if_neg e] at h; exact F.ne q a h
  inn := fun q a h => by
    by_cases e : q = .inl (i : Int)
    · rw [if_pos e] at h; rw [← Option.some.inj h, h3]
      have : G q = [] := by
        cases e2 : G q with
        | nil => rfl
        | cons g r =>
          have := F.mem q g (by rw [e2]; exact List.mem_cons_self ..)
          simp at this
      rw [this]; rfl
    · rw [if_neg e] at h; exact h2 _ _ (F.ne q a h) (F.inn q a h)
  new := fun q a h => by
    by_cases e : q = .inl (i : Int)
    · rw [if_pos e] at h; rw [← Option.some.inj h]; exact hz
    · rw [if_neg e] at h; exact F.new q a h
  newD := F.newD
  keys := fun q => by
    by_cases e : q = .inl (i : Int)
    · rw [if_pos e]
      exact ⟨fun _ => .inl ⟨i, by omega, e⟩, fun _ => rfl⟩
    · rw [if_neg e, F.keys q]
      constructor
      · rintro (⟨j, hj, h⟩ | h)
        · exact .inl ⟨j, by omega, h⟩
        · exact .inr h
      · rintro (⟨j, hj, h⟩ | h)
        · by_cases z : j = i
          · rw [z] at h; exact absurd h e
          · exact .inl ⟨j, by omega, h⟩
        · exact .inr h
  sum := F.sum
  mem := F.mem
  le := F.le
  ndG := F.ndG
  len := by
    have := length_putK kvs (.inl (i : Int)) (.ref z)
    have := F.len
    simp at *
    omega
  lenG := F.lenG
  ex := fun x o h => h2 x o (ne_of_none h F.newD) (F.ex x o h)
theorem Feed.start (h : H0 D = none) (e : Ex H0 H) : Feed H0 H D 0 [] (fun _ => none) (fun _ => []) [] where
  nd := List.nodup_nil
  val := fun q => rfl
  inj := fun _ _ _ h => nomatch h
  ne := fun _ _ h => nomatch h
  inn := fun _ _ h => nomatch h
  new := fun _ _ h => nomatch h
  newD := h
  keys := fun q => by simp
  sum := fun q f => rfl
  mem := fun _ _ h => by simp at h
  le := fun _ _ h => by simp at h
  ndG := fun _ => List.nodup_nil
  len := by simp
  lenG := fun _ => by simp
  ex := e
/-- a seat more: z is its place's dict, old or new -/
theorem Feed.seat (F : Feed H0 H D n L A G kvs) (hz : A p = some z ∨ (A p = none ∧ H0 z = none ∧ z ≠ D ∧ ∀ q a, A q = some a → a ≠ z)) (h2 : ∀ x o, x ≠ D → x ≠ z → H x = some o → H2 x = some o) (h3 : H2 z = some (.dK (cntV (bump i (G p))))) :
    Feed H0 H2 D n (L ++ [(i, p)]) (fun q => if q = p then some z else A q) (fun q => if q = p then bump i (G p) else G q) (if A p = none then putK kvs p (.ref z) else kvs) := by
  have hzD : z ≠ D := by
    rcases hz with h | h
    · exact F.ne _ _ h
    · exact h.2.2.1
  have hz0 : H0 z = none := by
    rcases hz with h | h
    · exact F.new _ _ h
    · exact h.2.1
  have hzA : ∀ q a, q ≠ p → A q = some a → a ≠ z := fun q a hq h => by
    rcases hz with h' | h'
    · intro e; subst e; exact hq (F.inj _ _ _ h h')
    · exact h'.2.2.2 q a h
  have pos : 0 ≤ (L.length : Int) := by omega
  refine { nd := ?_, val := fun q => ?_, inj := fun q q' a h h' => ?_, ne := fun q a h => ?_, inn := fun q a h => ?_, new := fun q a h => ?_, newD := F.newD, keys := fun q => ?_, sum := fun q f => ?_, mem := fun q g hg => ?_, le := fun q g hg => ?_, ndG := fun q => ?_, len := ?_, lenG := fun q => ?_, ex := fun x o h => h2 x o (ne_of_none h F.newD) (ne_of_none h hz0) (F.ex x o h) }
  · split
    · exact putK_keys F.nd
    · exact F.nd
  · by_cases e : q = p
    · subst e
      rw [if_pos rfl]
      rcases hz with h | h
      · rw [if_neg (by rw [h]; simp), F.val, h]
      · rw [if_pos h.1, valV_put, if_pos rfl]; rfl
    · rw [if_neg e]
      split
      · rw [valV_put, if_neg e]; exact F.val q
      · exact F.val q
  · by_cases e : q = p
    · by_cases e' : q' = p
      · rw [e, e']
      · rw [if_pos e] at h
        rw [if_neg e'] at h'
        exact absurd (Option.some.inj h).symm (hzA _ _ e' h')
    · rw [if_neg e] at h
      by_cases e' : q' = p
      · rw [if_pos e'] at h'
        exact absurd (Option.some.inj h').symm (hzA _ _ e h)
      · rw [if_neg e'] at h'
        exact F.inj q q' a h h'
  · by_cases e : q = p
    · rw [if_pos e] at h; rw [← Option.some.inj h]; exact hzD
    · rw [if_neg e] at h; exact F.ne q a h
  · by_cases e : q = p
    · rw [if_pos e] at h; rw [← Option.some.inj h, if_pos e]; exact h3
    · rw [if_neg e] at h
      rw [if_neg e]
      exact h2 _ _ (F.ne q a h) (hzA q a e h) (F.inn q a h)
  · by_cases e : q = p
    · rw [if_pos e] at h; rw [← Option.some.inj h]; exact hz0
    · rw [if_neg e] at h; exact F.new q a h
  · by_cases e : q = p
    · rw [if_pos e]
      refine ⟨fun _ => .inr ⟨i, ?_⟩, fun _ => rfl⟩
      rw [e]; simp
    · rw [if_neg e, F.keys q]
      constructor
      · rintro (h | ⟨j, h⟩)
        · exact .inl h
        · exact .inr ⟨j, List.mem_append_left _ h⟩
      · rintro (h | ⟨j, h⟩)
        · exact .inl h
        · rcases List.mem_append.mp h with h | h
          · exact .inr ⟨j, h⟩
          · have : (j, q) = (i, p) := by simpa using h
            exact absurd (Prod.mk.inj this).2 e
  · rw [toQ_append]
    show cntQ f (if q = p then bump i (G p) else G q) = toQ f q L + ((if p = q then f i else 0) + 0)
    by_cases e : q = p
    · subst e
      rw [if_pos rfl, if_pos rfl, cntQ_bump, F.sum]; omega
    · rw [if_neg e, if_neg (fun z => e z.symm), F.sum]; omega
  · by_cases e : q = p
    · rw [if_pos e] at hg
      have hk : g.1 ∈ (bump i (G p)).map (·.1) := List.mem_map.mpr ⟨g, hg, rfl⟩
      rcases bump_keys.mp hk with h | h
      · rw [h, e]; simp
      · obtain ⟨g', hg', e'⟩ := List.mem_map.mp h
        have := F.mem p g' hg'
        rw [e', ← e] at this
        exact List.mem_append_left _ this
    · rw [if_neg e] at hg
      exact List.mem_append_left _ (F.mem q g hg)
  · have hl : ((L ++ [(i, p)]).length : Int) = L.length + 1 := by simp
    rw [hl]
    by_cases e : q = p
    · rw [if_pos e] at hg
      exact bump_le (F.le p) pos g hg
    · rw [if_neg e] at hg
      have := F.le q g hg
      exact ⟨this.1, by omega⟩
  · by_cases e : q = p
    · rw [if_pos e]; exact bump_nd (F.ndG p)
    · rw [if_neg e]; exact F.ndG q
  · rw [List.length_append]
    have := F.len
    split
    · have := length_putK kvs p (.ref z)
      simp; omega
    · simp; omega
  · rw [List.length_append]
    have h1 := F.lenG q
    have h2 := F.lenG p
    have h3 := @bump_len i (G p)
    by_cases e : q = p
    · rw [if_pos e]; simp; omega
    · rw [if_neg e]; simp; omega
end
/-! ### states -/
def qD (q : List Int) : PyData := .tuple (q.map PyData.int)
def qsD (qs : List (List Int)) : PyData := .tuple (qs.map qD)
def stateD (p : Int) (qs : List (List Int)) : PyData := .tuple [.int p, qsD qs]
theorem qD_t (q : List Int) : TupD (qD q) := .tup fun d hd => by
  obtain ⟨k, _, rfl⟩ := List.mem_map.mp hd
  exact .int k
theorem qsD_t (qs : List (List Int)) : TupD (qsD qs) := .tup fun d hd => by
  obtain ⟨k, _, rfl⟩ := List.mem_map.mp hd
  exact qD_t k
theorem stateD_t (p : Int) (qs : List (List Int)) : TupD (stateD p qs) := .tup fun d hd => by
  simp only [List.mem_cons, List.not_mem_nil, or_false] at hd
  rcases hd with rfl | rfl
  · exact .int p
  · exact qsD_t qs
theorem ints_dp {K : PySem.W.Frag} {H : Hp} : ∀ q : List Int, DpAll K H (q.map V.int) (q.map PyData.int)
  | [] => .nil
  | i :: q => .cons (.int i) (ints_dp q)
theorem dp_ints {K : PySem.W.Frag} {H : Hp} : ∀ {q : List Int} {vs : List V}, DpAll K H vs (q.map PyData.int) → vs = q.map V.int
  | [], _, .nil => rfl
  | i :: q, _, .cons h hs => by rw [h.int_inv, dp_ints hs]; rfl
theorem q_at {K : PySem.W.Frag} {H : Hp} {v : V} {q : List Int} (h : Dp K H v (qD q)) : ∃ a, v = .ref a ∧ SqT K H a (q.map V.int) := by
  obtain ⟨a, xs, e, h1, h2⟩ := Dp.tup_inv h
  rw [dp_ints h2] at h1
  exact ⟨a, e, h1⟩
theorem qs_at {K : PySem.W.Frag} {H : Hp} {v : V} {qs : List (List Int)} (h : Dp K H v (qsD qs)) : ∃ a ts, v = .ref a ∧ SqT K H a ts ∧ DpAll K H ts (qs.map qD) := Dp.tup_inv h
theorem state_at {K : PySem.W.Frag} {H : Hp} {v : V} {p : Int} {qs : List (List Int)} (h : Dp K H v (stateD p qs)) : ∃ a u, v = .ref a ∧ SqT K H a [.int p, u] ∧ Dp K H u (qsD qs) := by
  obtain ⟨a, xs, e, h1, h2⟩ := Dp.tup_inv h
  cases h2 with
  | cons h hs =>
    cases hs with
    | cons h' hs =>
      cases hs
      rw [h.int_inv] at h1
      exact ⟨a, _, e, h1, h'⟩
/-- the queues of a network's stations -/
structure StOk (N : Net) (p : Int) (qs : List (List Int)) : Prop where
  pos : 1 ≤ p
  len : qs.length = N.length
  lt : ∀ (k : Nat) q s, qs[k]? = some q → N[k]? = some s → q.length < s.length
  nd : qs.flatten.Nodup
  rng : ∀ x ∈ qs.flatten, 1 ≤ x ∧ x < p
/-! ### sets -/
section
variable {K : PySem.W.Frag} {P : Program} {w : World} {H : Hp} {Q : VK} {p : Addr} {S : Key → Bool} {n : Nat} {k : Key}
theorem x_tSAddK {to : TE} {t : TA} {σ : L2.St} : tSAddK P w to t σ H Q = to σ H fun x H1 => (∃ a S n, x = V.ref a ∧ H1 a = some (SetK P w a S n)) ∧ t σ H1 fun xs H2 => rSAddK P w x xs H2 Q := rfl
theorem x_set0 (q : ∀ p H', H p = none → Ex H H' → H' p = some (SetK P w p (fun _ => false) 0) → Q (.ref p) H') : rSet0K P w [] H Q := ⟨rfl, fun p hp => q p _ hp (Ex.new hp) upd_same⟩
theorem x_inS (h : H p = some (SetK P w p S n)) (q : Q (.bl (S k)) H) : rInU K P w false (kV k) (.ref p) H Q := .inr ⟨k, p, S, n, rfl, rfl, h, q⟩
theorem x_sadd (h : H p = some (SetK P w p S n)) (hn : n ≤ 1000) (q : ∀ H' m, (∀ x o, x ≠ p → H x = some o → H' x = some o) → m ≤ n + 1 → H' p = some (SetK P w p (fun j => S j || decide (j = k)) m) → Q .non H') : rSAddK P w (.ref p) [kV k] H Q :=
  ⟨p, k, S, n, rfl, rfl, h, by have : (1002 : Nat) ≤ scanBound := by decide +kernel
                               omega, q _ _ (fun x o hx e => by rw [upd_ne hx]; exact e) (by split <;> omega) upd_same⟩
end
end FB
set_option Elab.async false
set_option linter.all false
set_option maxRecDepth 100000
set_option maxHeartbeats 4000000
/-! Sorted texts; flat data. -/
namespace FB
open PySem PySem.Spec PyProof.Rows L2 Evl
theorem str_ext {a b : Str} (h : a.cps.toList = b.cps.toList) : a = b := by
  cases a with
  | mk x =>
    cases b with
    | mk y =>
      have : x = y := by
        have h : x.toList = y.toList := h
        rw [← Array.toArray_toList (xs := x), ← Array.toArray_toList (xs := y), h]
      rw [this]
theorem rising_pw : ∀ {r : List Str} {p : Str}, risingS p r = true → (p :: r).Pairwise fun a b => a.cps.toList ≤ b.cps.toList
  | [], p, _ => by simp
  | x :: r, p, h => by
    have h : (!ltCps x.cps.toList p.cps.toList && risingS x r) = true := h
    rw [Bool.and_eq_true] at h
    have ih := rising_pw h.2
    have hx : p.cps.toList ≤ x.cps.toList := by
      have := h.1
      rw [PyProof.Rows.ltCps_eq] at this
      simpa using this
    rw [List.pairwise_cons]
    refine ⟨fun y hy => ?_, ih⟩
    rcases List.mem_cons.mp hy with rfl | hy
    · exact hx
    · exact List.le_trans hx ((List.pairwise_cons.mp ih).1 y hy)
theorem sorted_same {a b : List Str} (hp : a.Perm b) (ha : sortedS a = true) (hb : sortedS b = true) : a = b := by
  have pw : ∀ {l : List Str}, sortedS l = true → l.Pairwise fun a b => a.cps.toList ≤ b.cps.toList := fun {l} h => by
    cases l with
    | nil => exact List.Pairwise.nil
    | cons x r => exact rising_pw h
  exact List.Perm.eq_of_pairwise (fun x y _ _ h1 h2 => str_ext (List.le_antisymm h1 h2)) (pw ha) (pw hb) hp
theorem depthAll_le {m : Nat} : ∀ {ds : List PyData}, (∀ d ∈ ds, d.depth ≤ m) → PyData.depthAll ds ≤ m
  | [], _ => by simp [PyData.depthAll]
  | d :: r, h => by
    have h1 := h d (List.mem_cons_self ..)
    have h2 := depthAll_le fun d hd => h d (List.mem_cons_of_mem _ hd)
    simp [PyData.depthAll]
    omega
theorem layAll : ∀ {ds : List PyData}, (∀ d ∈ ds, d.canLay0 = true) → PyData.canLayAll0 ds = true
  | [], _ => by simp [PyData.canLayAll0]
  | d :: r, h => by
    simp [PyData.canLayAll0, h d (List.mem_cons_self ..), layAll fun d hd => h d (List.mem_cons_of_mem _ hd)]
theorem strs_dp {K : PySem.W.Frag} {H : Hp} : ∀ q : List Str, DpAll K H (q.map V.str) (q.map PyData.str)
  | [] => .nil
  | i :: q => .cons (.str i) (strs_dp q)
/-- sorted(d), the keys texts -/
def rSortD (vs : List V) (H : Hp) (Q : VK) : Prop := ∃ (a : Addr) (kvs : List (Key × V)) (ks : List Str), vs = [.ref a] ∧ Rd H a (.dK kvs) ∧ kvs.map (·.1) = ks.map Sum.inr ∧ ks.length < 64 ∧ ∀ ys p, ys.Perm ks → sortedS ys = true → H p = none → Q (.ref p) (upd H p (.lst (ys.map V.str)))
theorem call_sortD {X : Cx} (hc : X.calm = true) : CallR X (.builtin "sorted") rSortD := call_sortedD hc
section
variable {K : PySem.W.Frag} {H : Hp} {a b : Addr} {ka kb : List (Key × V)} {Q : VK}
theorem x_sortD {ks : List Str} (h : H a = some (.dK ka)) (hk : ka.map (·.1) = ks.map Sum.inr) (hl : ks.length < 64) (q : ∀ ys p H', ys.Perm ks → sortedS ys = true → H p = none → Ex H H' → H' p = some (.lst (ys.map V.str)) → Q (.ref p) H') : rSortD [.ref a] H Q :=
  ⟨a, ka, ks, rfl, .inl h, hk, hl, fun ys p h1 h2 h3 => q ys p _ h1 h2 h3 (Ex.new h3) upd_same⟩
theorem x_isDict (h : H a = some (.dK ka)) (q : Q (.bl true) H) : rIsiU K [.ref a, .ty "dict"] H Q := .inl ⟨_, _, .type "dict", .type "dict", true, rfl, .ty _, .base (.dK h), rfl, q⟩
theorem x_eqDA (h1 : H a = some (.dK ka)) (h2 : H b = some (.dK kb)) (hl : ka.length = kb.length) (hp : ∀ p ∈ ka, valV kb p.1 = some p.2 ∧ flatB p.2 = true) (q : Q (.bl true) H) : rEqDA (.ref a) (.ref b) H Q := ⟨a, b, ka, kb, rfl, rfl, h1, h2, hl, hp, q⟩
end
end FB
set_option Elab.async false
set_option linter.all false
set_option maxRecDepth 100000
set_option maxHeartbeats 4000000
/-! Arrivals: who joins a queue, whose boat departs. -/
namespace FB
open PySem PySem.Spec PyProof.Rows L2 Evl
/-- queues of what waits -/
abbrev QsA (α : Type) := List (List α)
abbrev Qs := QsA Int
/-- what happens: a boat with its passengers (.inl), one who finishes (.inr) -/
abbrev EvsA (α : Type) := List (Key × List α)
abbrev Evs := EvsA Int
abbrev Dep (α : Type) := QsA α → Nat → QsA α × EvsA α
section
variable {α : Type} [Inhabited α]
def joinW (N : Net) (dep : Dep α) (qs : QsA α) (j : Nat) (p : α) : QsA α × EvsA α :=
  if (qs.getD j [] ++ [p]).length = (N.getD j []).length then dep (qs.set j (qs.getD j [] ++ [p])) j else (qs.set j (qs.getD j [] ++ [p]), [])
def moveW (N : Net) (dep : Dep α) : List (Key × α) → QsA α → QsA α × EvsA α
  | [], qs => (qs, [])
  | (.inr z, p) :: r, qs => ((moveW N dep r qs).1, (.inr z, [p]) :: (moveW N dep r qs).2)
  | (.inl j, p) :: r, qs => ((moveW N dep r (joinW N dep qs j.toNat p).1).1, (joinW N dep qs j.toNat p).2 ++ (moveW N dep r (joinW N dep qs j.toNat p).1).2)
/-- f: how many stations are left at most -/
def departW (N : Net) : Nat → Dep α
  | 0 => fun qs _ => (qs, [])
  | f + 1 => fun qs st => ((moveW N (departW N f) ((N.getD st []).zip (qs.getD st [])) (qs.set st [])).1, (.inl (st : Int), qs.getD st []) :: (moveW N (departW N f) ((N.getD st []).zip (qs.getD st [])) (qs.set st [])).2)
/-- who finishes -/
def finOf : EvsA α → List (Str × α)
  | [] => []
  | (.inl _, _) :: r => finOf r
  | (.inr z, ps) :: r => (z, ps.headD default) :: finOf r
theorem finOf_append : ∀ {a b : EvsA α}, finOf (a ++ b) = finOf a ++ finOf b
  | [], _ => rfl
  | (.inl _, _) :: r, b => finOf_append (a := r)
  | (.inr z, ps) :: r, b => congrArg ((z, ps.headD default) :: ·) (finOf_append (a := r))
theorem moveW_append {N : Net} {dep : Dep α} : ∀ {a b : List (Key × α)} {qs : QsA α}, moveW N dep (a ++ b) qs = ((moveW N dep b (moveW N dep a qs).1).1, (moveW N dep a qs).2 ++ (moveW N dep b (moveW N dep a qs).1).2)
  | [], b, qs => rfl
  | (.inr z, p) :: r, b, qs => by
    show ((moveW N dep (r ++ b) qs).1, (.inr z, [p]) :: (moveW N dep (r ++ b) qs).2) = _
    rw [moveW_append]; rfl
  | (.inl j, p) :: r, b, qs => by
    show ((moveW N dep (r ++ b) (joinW N dep qs j.toNat p).1).1, (joinW N dep qs j.toNat p).2 ++ (moveW N dep (r ++ b) (joinW N dep qs j.toNat p).1).2) = _
    rw [moveW_append]
    show (_, (joinW N dep qs j.toNat p).2 ++ (_ ++ _)) = (_, ((joinW N dep qs j.toNat p).2 ++ _) ++ _)
    rw [List.append_assoc]; rfl
/-- one move more -/
theorem moveW_snoc {N : Net} {dep : Dep α} {a : List (Key × α)} {k : Key} {p : α} {qs : QsA α} : moveW N dep (a ++ [(k, p)]) qs = ((moveW N dep [(k, p)] (moveW N dep a qs).1).1, (moveW N dep a qs).2 ++ (moveW N dep [(k, p)] (moveW N dep a qs).1).2) := moveW_append
theorem move_one_r {N : Net} {dep : Dep α} {z : Str} {p : α} {qs : QsA α} : moveW N dep [(.inr z, p)] qs = (qs, [(.inr z, [p])]) := rfl
theorem move_one_l {N : Net} {dep : Dep α} {j : Int} {p : α} {qs : QsA α} : moveW N dep [(.inl j, p)] qs = joinW N dep qs j.toNat p := by
  show (_, (joinW N dep qs j.toNat p).2 ++ []) = _
  rw [List.append_nil]; rfl
/-- each queue is shorter than its boat -/
structure Short (N : Net) (qs : QsA α) : Prop where
  len : qs.length = N.length
  lt : ∀ k, k < N.length → (qs.getD k []).length < (N.getD k []).length
/-- seats lead to later stations that there are -/
def Fw (N : Net) : Prop := ∀ i, i < N.length → ∀ j : Int, (.inl j : Key) ∈ N.getD i [] → (i : Int) < j ∧ j < N.length
theorem getD_set' {l : QsA α} {i j : Nat} {x : List α} (h : i < l.length) : (l.set i x).getD j [] = if j = i then x else l.getD j [] := by
  rw [List.getD_eq_getElem?_getD, List.getElem?_set]
  by_cases e : i = j
  · subst e
    rw [if_pos rfl, if_pos rfl, if_pos h]; rfl
  · rw [if_neg e, if_neg (fun z => e z.symm), ← List.getD_eq_getElem?_getD]
/-- a departure from st on is sound: what it asks, what it leaves -/
def DepOk (N : Net) (f : Nat) (dep : Dep α) : Prop := ∀ qs st, N.length ≤ st + f → st < N.length → qs.length = N.length → (∀ k, k < N.length → k ≠ st → (qs.getD k []).length < (N.getD k []).length) → (qs.getD st []).length ≤ (N.getD st []).length → 1 ≤ (N.getD st []).length →
  Short N (dep qs st).1 ∧ ∀ k, k < st → (dep qs st).1.getD k [] = qs.getD k []
theorem joinW_ok {N : Net} {f : Nat} {dep : Dep α} (h1 : ∀ k, k < N.length → 1 ≤ (N.getD k []).length) (hd : DepOk N f dep) {qs : QsA α} {j : Nat} {p : α} (S : Short N qs) (hj : j < N.length) (hf : N.length ≤ j + f) : Short N (joinW N dep qs j p).1 ∧ ∀ k, k < j → (joinW N dep qs j p).1.getD k [] = qs.getD k [] := by
  have hjl : j < qs.length := by rw [S.len]; exact hj
  have lt := S.lt j hj
  unfold joinW
  split
  · rename_i e
    have q := hd (qs.set j (qs.getD j [] ++ [p])) j hf hj (by rw [List.length_set]; exact S.len) (fun k hk hne => by rw [getD_set' hjl, if_neg hne]; exact S.lt k hk) (by rw [getD_set' hjl, if_pos rfl]; omega) (h1 j hj)
    exact ⟨q.1, fun k hk => by rw [q.2 k hk, getD_set' hjl, if_neg (by omega)]⟩
  · rename_i e
    refine ⟨⟨by rw [List.length_set]; exact S.len, fun k hk => ?_⟩, fun k hk => by rw [getD_set' hjl, if_neg (by omega)]⟩
    rw [getD_set' hjl]
    split
    · rename_i e2
      subst e2
      have e3 : (qs.getD k [] ++ [p]).length = (qs.getD k []).length + 1 := by simp
      omega
    · exact S.lt k hk
theorem moveW_ok {N : Net} {f : Nat} {dep : Dep α} (h1 : ∀ k, k < N.length → 1 ≤ (N.getD k []).length) (hd : DepOk N f dep) {st : Nat} (hf : N.length ≤ st + 1 + f) : ∀ {ms : List (Key × α)} {qs : QsA α}, (∀ m ∈ ms, ∀ j : Int, m.1 = .inl j → (st : Int) < j ∧ j < N.length) → Short N qs →
    Short N (moveW N dep ms qs).1 ∧ ∀ k, k ≤ st → (moveW N dep ms qs).1.getD k [] = qs.getD k []
  | [], qs, _, S => ⟨S, fun _ _ => rfl⟩
  | (.inr z, p) :: r, qs, hm, S => moveW_ok h1 hd hf (ms := r) (fun m h => hm m (List.mem_cons_of_mem _ h)) S
  | (.inl j, p) :: r, qs, hm, S => by
    obtain ⟨a, b⟩ := hm _ (List.mem_cons_self ..) j rfl
    obtain ⟨S1, K1⟩ := joinW_ok h1 hd (p := p) S (j := j.toNat) (by omega) (by omega)
    obtain ⟨S2, K2⟩ := moveW_ok h1 hd hf (ms := r) (fun m h => hm m (List.mem_cons_of_mem _ h)) S1
    exact ⟨S2, fun k hk => by
      show (moveW N dep r (joinW N dep qs j.toNat p).1).1.getD k [] = _
      rw [K2 k hk, K1 k (by omega)]⟩
theorem departW_ok {N : Net} (h1 : ∀ k, k < N.length → 1 ≤ (N.getD k []).length) (fw : Fw N) : ∀ f, DepOk N f (departW (α := α) N f)
  | 0 => fun qs st h1 h2 => by omega
  | f + 1 => fun qs st hf hst hl hs hs2 h1s => by
    have hql : st < qs.length := by rw [hl]; exact hst
    have S0 : Short N (qs.set st []) := ⟨by rw [List.length_set]; exact hl, fun k hk => by
      rw [getD_set' hql]
      split
      · rename_i e; subst e; exact h1s
      · rename_i e; exact hs k hk e⟩
    obtain ⟨S1, K1⟩ := moveW_ok h1 (departW_ok h1 fw f) (st := st) (by omega) (ms := (N.getD st []).zip (qs.getD st [])) (fun m hm j e => fw st hst j (by rw [← e]; exact (List.of_mem_zip hm).1)) S0
    exact ⟨S1, fun k hk => by
      show (moveW N (departW N f) _ _).1.getD k [] = _
      rw [K1 k (by omega), getD_set' hql, if_neg (by omega)]⟩
/-! ### nobody is lost -/
theorem flat_set {x y : List α} : ∀ {qs : QsA α} {j : Nat}, qs[j]? = some x → ∃ a b, qs.flatten = a ++ x ++ b ∧ (qs.set j y).flatten = a ++ y ++ b
  | [], j, h => by simp at h
  | q :: qs, 0, h => by
    have e : q = x := by simpa using h
    subst e
    exact ⟨[], qs.flatten, by simp, by simp⟩
  | q :: qs, j + 1, h => by
    obtain ⟨a, b, h1, h2⟩ := flat_set (qs := qs) (j := j) (x := x) (y := y) (by simpa using h)
    exact ⟨q ++ a, b, by simp [h1], by simp [h2]⟩
theorem getD_some {qs : QsA α} {j : Nat} (h : j < qs.length) : qs[j]? = some (qs.getD j []) := by simp [List.getD_eq_getElem?_getD, h]
/-- who waits or has finished afterwards has waited before -/
def DepPm (N : Net) (dep : Dep α) : Prop := ∀ qs st, st < qs.length → qs.length = N.length → (qs.getD st []).length ≤ (N.getD st []).length → (dep qs st).1.length = qs.length ∧ ((dep qs st).1.flatten ++ (finOf (dep qs st).2).map (·.2)).Perm qs.flatten
theorem set_perm {qs : QsA α} {j : Nat} {p : α} (h : j < qs.length) : ((qs.set j (qs.getD j [] ++ [p])).flatten).Perm (qs.flatten ++ [p]) := by
  obtain ⟨a, b, h1, h2⟩ := flat_set (y := qs.getD j [] ++ [p]) (getD_some h)
  rw [h1, h2]
  simp only [List.append_assoc]
  refine List.Perm.append_left _ (List.Perm.append_left _ ?_)
  exact List.perm_append_comm
theorem joinW_pm {N : Net} {dep : Dep α} (hd : DepPm N dep) {qs : QsA α} {j : Nat} {p : α} (h : j < qs.length) (hl : qs.length = N.length) : (joinW N dep qs j p).1.length = qs.length ∧ ((joinW N dep qs j p).1.flatten ++ (finOf (joinW N dep qs j p).2).map (·.2)).Perm (qs.flatten ++ [p]) := by
  unfold joinW
  split
  · rename_i e
    obtain ⟨a, b⟩ := hd (qs.set j (qs.getD j [] ++ [p])) j (by rw [List.length_set]; exact h) (by rw [List.length_set]; exact hl) (by rw [getD_set' h, if_pos rfl]; omega)
    exact ⟨by rw [a, List.length_set], b.trans (set_perm h)⟩
  · exact ⟨by rw [List.length_set], by simpa [finOf] using set_perm (p := p) h⟩
theorem moveW_pm {N : Net} {dep : Dep α} (hd : DepPm N dep) : ∀ {ms : List (Key × α)} {qs : QsA α}, (∀ m ∈ ms, ∀ j : Int, m.1 = .inl j → j.toNat < qs.length) → qs.length = N.length → (moveW N dep ms qs).1.length = qs.length ∧ ((moveW N dep ms qs).1.flatten ++ (finOf (moveW N dep ms qs).2).map (·.2)).Perm (qs.flatten ++ ms.map (·.2))
  | [], qs, _, _ => ⟨rfl, by simp [moveW, finOf]⟩
  | (.inr z, p) :: r, qs, hm, hl => by
    obtain ⟨a, b⟩ := moveW_pm hd (ms := r) (qs := qs) (fun m h => hm m (List.mem_cons_of_mem _ h)) hl
    refine ⟨a, ?_⟩
    show ((moveW N dep r qs).1.flatten ++ p :: (finOf (moveW N dep r qs).2).map (·.2)).Perm (qs.flatten ++ p :: r.map (·.2))
    exact (List.perm_middle.trans (b.cons p)).trans List.perm_middle.symm
  | (.inl j, p) :: r, qs, hm, hl => by
    obtain ⟨a1, b1⟩ := joinW_pm (N := N) hd (p := p) (hm _ (List.mem_cons_self ..) j rfl) hl
    obtain ⟨a2, b2⟩ := moveW_pm hd (ms := r) (qs := (joinW N dep qs j.toNat p).1) (fun m h j' e => by rw [a1]; exact hm m (List.mem_cons_of_mem _ h) j' e) (a1.trans hl)
    refine ⟨a2.trans a1, ?_⟩
    show ((moveW N dep r (joinW N dep qs j.toNat p).1).1.flatten ++ (finOf ((joinW N dep qs j.toNat p).2 ++ (moveW N dep r (joinW N dep qs j.toNat p).1).2)).map (·.2)).Perm (qs.flatten ++ p :: r.map (·.2))
    rw [finOf_append, List.map_append]
    generalize (moveW N dep r (joinW N dep qs j.toNat p).1).1.flatten = X at b2
    generalize (finOf (moveW N dep r (joinW N dep qs j.toNat p).1).2).map (·.2) = Y at b2
    generalize (joinW N dep qs j.toNat p).1.flatten = Z at b1 b2
    generalize (finOf (joinW N dep qs j.toNat p).2).map (·.2) = U at b1
    have e1 : (X ++ (U ++ Y)).Perm (U ++ (X ++ Y)) := by
      rw [← List.append_assoc, ← List.append_assoc]
      exact List.Perm.append_right _ List.perm_append_comm
    have e2 : (U ++ (X ++ Y)).Perm (U ++ (Z ++ r.map (·.2))) := List.Perm.append_left _ b2
    have e3 : (U ++ (Z ++ r.map (·.2))).Perm ((Z ++ U) ++ r.map (·.2)) := by
      rw [← List.append_assoc]
      exact List.Perm.append_right _ List.perm_append_comm
    have e4 : ((Z ++ U) ++ r.map (·.2)).Perm ((qs.flatten ++ [p]) ++ r.map (·.2)) := List.Perm.append_right _ b1
    have e5 : (qs.flatten ++ [p]) ++ r.map (·.2) = qs.flatten ++ p :: r.map (·.2) := by simp
    rw [← e5]
    exact ((e1.trans e2).trans e3).trans e4
theorem zip_snd : ∀ {a : List Key} {b : List α}, b.length ≤ a.length → (a.zip b).map (·.2) = b
  | _, [], _ => by simp
  | [], _ :: _, h => by simp at h
  | x :: a, y :: b, h => by
    rw [List.zip_cons_cons, List.map_cons, zip_snd (by simpa using h)]
theorem departW_pm {N : Net} (fw : Fw N) : ∀ f, DepPm N (departW (α := α) N f)
  | 0 => fun qs st _ _ _ => ⟨rfl, by simp [departW, finOf]⟩
  | f + 1 => fun qs st hst hl hs => by
    obtain ⟨a, b⟩ := moveW_pm (departW_pm fw f) (ms := (N.getD st []).zip (qs.getD st [])) (qs := qs.set st []) (fun m hm j e => by
      have := fw st (by omega) j (by rw [← e]; exact (List.of_mem_zip hm).1)
      rw [List.length_set]; omega) (by rw [List.length_set]; exact hl)
    refine ⟨by show (moveW N (departW N f) _ _).1.length = _; rw [a, List.length_set], ?_⟩
    show ((moveW (α := α) N (departW N f) ((N.getD st []).zip (qs.getD st [])) (qs.set st [])).1.flatten ++ (finOf (α := α) (moveW N (departW N f) ((N.getD st []).zip (qs.getD st [])) (qs.set st [])).2).map (fun x : Str × α => x.2)).Perm _
    refine b.trans ?_
    rw [zip_snd hs]
    obtain ⟨u, v, h1, h2⟩ := flat_set (y := []) (getD_some hst)
    rw [h1, h2]
    simp only [List.append_nil, List.append_assoc]
    exact List.Perm.append_left _ List.perm_append_comm
end
/-! ### the queues as lists in a list -/
structure QsAt (K : PySem.W.Frag) (H : Hp) (Qa : Addr) (as : List Addr) (qs : Qs) : Prop where
  at_ : H Qa = some (.lst (as.map V.ref))
  len : as.length = qs.length
  nd : as.Nodup
  ne : Qa ∉ as
  q : ∀ (i : Nat) a, as[i]? = some a → H a = some (.lst ((qs.getD i []).map V.int))
def fpD (p : Str × Int) : PyData := .tuple [.str p.1, .int p.2]
theorem fpD_t (p : Str × Int) : TupD (fpD p) := .tup fun d hd => by
  simp only [List.mem_cons, List.not_mem_nil, or_false] at hd
  rcases hd with rfl | rfl
  · exact .str _
  · exact .int _
structure FinAt (K : PySem.W.Frag) (H : Hp) (Fa : Addr) (fs : List (Str × Int)) : Prop where
  ex : ∃ ts, H Fa = some (.lst ts) ∧ DpAll K H ts (fs.map fpD)
section
variable {K : PySem.W.Frag} {H H2 : Hp} {Qa Fa a : Addr} {as : List Addr} {qs : Qs} {fs : List (Str × Int)} {j : Nat} {y : List Int}
theorem QsAt.ex (W : QsAt K H Qa as qs) (e : Ex H H2) : QsAt K H2 Qa as qs := ⟨e _ _ W.at_, W.len, W.nd, W.ne, fun i a h => e _ _ (W.q i a h)⟩
theorem QsAt.but (W : QsAt K H Qa as qs) (e : ∀ x o, x ≠ a → H x = some o → H2 x = some o) (h1 : Qa ≠ a) (h2 : a ∉ as) : QsAt K H2 Qa as qs :=
  ⟨e _ _ h1 W.at_, W.len, W.nd, W.ne, fun i b h => e _ _ (fun z => h2 (by rw [← z]; exact List.mem_of_getElem? h)) (W.q i b h)⟩
theorem QsAt.set (W : QsAt K H Qa as qs) (ha : as[j]? = some a) (e : ∀ x o, x ≠ a → H x = some o → H2 x = some o) (h2 : H2 a = some (.lst (y.map V.int))) : QsAt K H2 Qa as (qs.set j y) := by
  have hj : j < qs.length := by rw [← W.len]; exact (List.getElem?_eq_some_iff.mp ha).1
  refine ⟨e _ _ (fun z => W.ne (by rw [z]; exact List.mem_of_getElem? ha)) W.at_, by rw [List.length_set]; exact W.len, W.nd, W.ne, fun i b h => ?_⟩
  rw [getD_set' hj]
  by_cases z : i = j
  · subst z
    rw [ha] at h
    cases h
    rw [if_pos rfl, h2]
  · rw [if_neg z]
    refine e _ _ (fun z2 => z ?_) (W.q i b h)
    subst z2
    have hi := (List.getElem?_eq_some_iff.mp h).1
    exact (List.getElem?_inj hi W.nd).mp (by rw [h, ha])
theorem FinAt.tx (W : FinAt K H Fa fs) (t : TX H H2) (h : ∀ o, H Fa = some o → H2 Fa = some o) : FinAt K H2 Fa fs := by
  obtain ⟨ts, h1, h2⟩ := W.ex
  exact ⟨⟨ts, h _ h1, DpAll.tx t h2 fun d hd => by
    obtain ⟨p, _, rfl⟩ := List.mem_map.mp hd
    exact fpD_t p⟩⟩
theorem FinAt.e (W : FinAt K H Fa fs) (e : Ex H H2) : FinAt K H2 Fa fs := W.tx (TX.of e) fun o h => e _ _ h
theorem QsAt.get (W : QsAt K H Qa as qs) (hj : j < qs.length) : ∃ a, as[j]? = some a ∧ H a = some (.lst ((qs.getD j []).map V.int)) ∧ a ∈ as := by
  have hj2 : j < as.length := by rw [W.len]; exact hj
  exact ⟨as[j], List.getElem?_eq_getElem hj2, W.q j _ (List.getElem?_eq_getElem hj2), List.getElem_mem hj2⟩
/-- all but the queues and the list of who finished stand -/
def Ex3 (as : List Addr) (Fa : Addr) (H H' : Hp) : Prop := ∀ x o, H x = some o → x ≠ Fa → x ∉ as → H' x = some o
theorem Ex3.tx (e : Ex3 as Fa H H2) (W : QsAt K H Qa as qs) (F : FinAt K H Fa fs) : TX H H2 := fun x o h c => by
  obtain ⟨ts, h1, _⟩ := F.ex
  refine e x o h (fun z => by subst z; rw [h1] at h; cases h; exact c) fun z => ?_
  obtain ⟨i, hi⟩ := List.mem_iff_getElem?.mp z
  rw [W.q i x hi] at h
  cases h
  exact c
end
theorem pm_len {a b c : Qs × Evs} {q : Qs} {x : List Int} (h : (a.1.flatten ++ (finOf a.2).map (·.2)).Perm x) : a.1.flatten.length + (finOf a.2).length = x.length := by
  have := h.length_eq
  rw [List.length_append, List.length_map] at this
  exact this
theorem shInts (ns : List Int) : SeqAt.shaped (.list (ns.map PyData.int)) = true := by
  have h1 : PyData.canLayAll0 (ns.map PyData.int) = true := layAll fun d hd => by
    obtain ⟨i, _, rfl⟩ := List.mem_map.mp hd; rfl
  have h2 : PyData.depthAll (ns.map PyData.int) ≤ 1 := depthAll_le fun d hd => by
    obtain ⟨i, _, rfl⟩ := List.mem_map.mp hd; simp [PyData.depth]
  have h3 : (PyData.list (ns.map PyData.int)).depth ≤ 64 := by rw [PyData.depth]; omega
  unfold SeqAt.shaped
  rw [show (PyData.list (ns.map PyData.int)).canLay0 = true by rw [PyData.canLay0]; exact h1]
  simpa using h3
theorem eqv_empty (ns : List Int) : PyData.eqv (.list (ns.map PyData.int)) (.list []) = decide (ns = []) := by
  cases ns with
  | nil => simp [PyData.eqv, PyData.eqvAll]
  | cons a r => simp [PyData.eqv, PyData.eqvAll]
section
variable {K : PySem.W.Frag} {H H2 : Hp} {Qa Fa a h b : Addr} {as : List Addr} {qs : Qs} {fs : List (Str × Int)} {Q : VK} {q : List Int}
theorem QsAt.ex2 (W : QsAt K H Qa as qs) (e : Ex2 h b H H2) (h1 : Qa ≠ h ∧ Qa ≠ b) (h2 : ∀ a ∈ as, a ≠ h ∧ a ≠ b) : QsAt K H2 Qa as qs :=
  ⟨e _ _ W.at_ h1.1 h1.2, W.len, W.nd, W.ne, fun i a ha => have z := h2 a (List.mem_of_getElem? ha); e _ _ (W.q i a ha) z.1 z.2⟩
/-- x != [], a list of ints -/
theorem x_neEmpty (h1 : H a = some (.lst (q.map V.int))) (k : ∀ H', Ex H H' → Q (.bl (!decide (q = []))) H') : rLst [] H (fun y H1 => rNeU K (.ref a) y H1 Q) :=
  x_lst (by simp) fun p H1 np e hp => x_neD (.lst (SqL.of (e _ _ h1)) (ints_dp q)) (.lst (SqL.of hp) .nil) (shInts q) rfl (by rw [eqv_empty]; exact k H1 e)
end
end FB
set_option Elab.async false
set_option linter.all false
set_option maxRecDepth 100000
set_option maxHeartbeats 4000000
/-! Queues as tuples in a list, and the list of what happens. -/
namespace FB
open PySem PySem.Spec PyProof.Rows L2 Evl
section
variable {K : PySem.W.Frag} {H H' H2 : Hp} {a b Qa Ea x : Addr} {xs ys : List V}
theorem walk_zipM : Walk (RZ.ItzT K a b) (min xs.length ys.length) (fun H => SqT K H a xs ∧ SqT K H b ys) (YPair (fun i => xs[i]?) (fun i => ys[i]?)) := by
  refine ⟨fun i _ hi q => ?_, fun _ q => ⟨xs, ys, q.1, q.2, by omega⟩, fun i H v H' _ q y => ?_⟩
  · have h1 : i < xs.length := by omega
    have h2 : i < ys.length := by omega
    exact ⟨xs, ys, xs[i], ys[i], q.1, q.2, by simp [h1], by simp [h2]⟩
  · obtain ⟨T, x, z, h1, h2, h3, h4, h5⟩ := y
    exact ⟨T, x, z, h1, h2, h3, h4 xs q.1, h5 ys q.2⟩
theorem DpAll.set : ∀ {vs : List V} {ds : List PyData} {i : Nat} {v : V} {d : PyData}, DpAll K H vs ds → Dp K H v d → DpAll K H (vs.set i v) (ds.set i d)
  | _, _, _, _, _, .nil, _ => .nil
  | _, _, 0, _, _, .cons _ hs, h => .cons h hs
  | _, _, _ + 1, _, _, .cons h0 hs, h => .cons h0 (DpAll.set hs h)
section
variable {α : Type} [Inhabited α]
/-- what each passenger is, as data -/
structure PD (pd : α → PyData) : Prop where
  t : ∀ a, TupD (pd a)
def qA (pd : α → PyData) (q : List α) : PyData := .tuple (q.map pd)
def evA (pd : α → PyData) (e : Key × List α) : PyData := .tuple [keyD e.1, qA pd e.2]
variable {pd : α → PyData} {qs : QsA α} {es : EvsA α}
theorem qA_t (h : PD pd) (q : List α) : TupD (qA pd q) := .tup fun d hd => by
  obtain ⟨k, _, rfl⟩ := List.mem_map.mp hd
  exact h.t k
theorem evA_t (h : PD pd) (e : Key × List α) : TupD (evA pd e) := .tup fun d hd => by
  simp only [List.mem_cons, List.not_mem_nil, or_false] at hd
  rcases hd with rfl | rfl
  · exact keyD_t _
  · exact qA_t h _
/-- data in a list -/
structure LsAt (K : PySem.W.Frag) (H : Hp) (a : Addr) (ds : List PyData) : Prop where
  ex : ∃ ts, H a = some (.lst ts) ∧ DpAll K H ts ds
theorem LsAt.tx {ds : List PyData} (W : LsAt K H a ds) (td : ∀ d ∈ ds, TupD d) (t : TX H H2) (h : ∀ o, H a = some o → H2 a = some o) : LsAt K H2 a ds := by
  obtain ⟨ts, h1, h2⟩ := W.ex
  exact ⟨⟨ts, h _ h1, DpAll.tx t h2 td⟩⟩
theorem LsAt.ex2 {ds : List PyData} (W : LsAt K H a ds) (e : Ex H H2) : LsAt K H2 a ds := by
  obtain ⟨ts, h1, h2⟩ := W.ex
  exact ⟨⟨ts, e _ _ h1, DpAll.ex e h2⟩⟩
abbrev QtAt (K : PySem.W.Frag) (H : Hp) (Qa : Addr) (pd : α → PyData) (qs : QsA α) : Prop := LsAt K H Qa (qs.map (qA pd))
abbrev EvAt (K : PySem.W.Frag) (H : Hp) (Ea : Addr) (pd : α → PyData) (es : EvsA α) : Prop := LsAt K H Ea (es.map (evA pd))
theorem qs_t (h : PD pd) : ∀ d ∈ qs.map (qA pd), TupD d := fun d hd => by
  obtain ⟨q, _, rfl⟩ := List.mem_map.mp hd
  exact qA_t h q
theorem es_t (h : PD pd) : ∀ d ∈ es.map (evA pd), TupD d := fun d hd => by
  obtain ⟨q, _, rfl⟩ := List.mem_map.mp hd
  exact evA_t h q
theorem QtAt.get (W : QtAt K H Qa pd qs) {j : Nat} (hj : j < qs.length) : ∃ ts b vs, H Qa = some (.lst ts) ∧ DpAll K H ts (qs.map (qA pd)) ∧ ts[j]? = some (.ref b) ∧ SqT K H b vs ∧ DpAll K H vs ((qs.getD j []).map pd) := by
  obtain ⟨ts, h1, h2⟩ := W.ex
  obtain ⟨v, hv, hd⟩ := h2.get (show (qs.map (qA pd))[j]? = some (qA pd (qs.getD j [])) by simp [List.getD_eq_getElem?_getD, hj])
  obtain ⟨b, vs, rfl, h3, h4⟩ := Dp.tup_inv hd
  exact ⟨ts, b, vs, h1, h2, hv, h3, h4⟩
/-! ### how much happens -/
/-- everybody's way still to go, twice -/
def wayW (n : Nat) : Nat → QsA α → Nat
  | _, [] => 0
  | k, q :: r => q.length * (2 * (n - k)) + wayW n (k + 1) r
theorem wayW_set {n : Nat} : ∀ {qs : QsA α} {k j : Nat} {q : List α}, j < qs.length → wayW n k (qs.set j q) + (qs.getD j []).length * (2 * (n - (k + j))) = wayW n k qs + q.length * (2 * (n - (k + j)))
  | [], _, _, _, h => by simp at h
  | q0 :: r, k, 0, q, _ => by
    show q.length * (2 * (n - k)) + wayW n (k + 1) r + q0.length * (2 * (n - (k + 0))) = q0.length * (2 * (n - k)) + wayW n (k + 1) r + q.length * (2 * (n - (k + 0)))
    simp only [Nat.add_zero]; omega
  | q0 :: r, k, j + 1, q, h => by
    have ih := wayW_set (n := n) (qs := r) (k := k + 1) (j := j) (q := q) (by simpa using h)
    show q0.length * (2 * (n - k)) + wayW n (k + 1) (r.set j q) + (r.getD j []).length * (2 * (n - (k + (j + 1)))) = q0.length * (2 * (n - k)) + wayW n (k + 1) r + q.length * (2 * (n - (k + (j + 1))))
    have e : k + (j + 1) = k + 1 + j := by omega
    rw [e]; omega
theorem wayW_le {n : Nat} : ∀ {qs : QsA α} {k : Nat}, wayW n k qs ≤ qs.flatten.length * (2 * n)
  | [], _ => by simp [wayW]
  | q :: r, k => by
    show q.length * (2 * (n - k)) + wayW n (k + 1) r ≤ _
    have h1 := wayW_le (n := n) (qs := r) (k := k + 1)
    have h2 : q.length * (2 * (n - k)) ≤ q.length * (2 * n) := Nat.mul_le_mul_left _ (by omega)
    rw [List.flatten_cons, List.length_append, Nat.add_mul]
    omega
/-- what a departure costs at most -/
def DepW (N : Net) (f : Nat) (dep : Dep α) : Prop := ∀ qs st, qs.length = N.length → st < N.length → N.length ≤ st + f → 1 ≤ (qs.getD st []).length → wayW N.length 0 (dep qs st).1 + (dep qs st).2.length ≤ wayW N.length 0 qs ∧ (dep qs st).1.length = qs.length
theorem joinW_way {N : Net} {f : Nat} {dep : Dep α} (hd : DepW N f dep) {qs : QsA α} {j : Nat} {p : α} (hl : qs.length = N.length) (hj : j < N.length) (hf : N.length ≤ j + f) : wayW N.length 0 (joinW N dep qs j p).1 + (joinW N dep qs j p).2.length ≤ wayW N.length 0 qs + 2 * (N.length - j) ∧ (joinW N dep qs j p).1.length = qs.length := by
  have h0 := wayW_set (n := N.length) (qs := qs) (k := 0) (j := j) (q := qs.getD j [] ++ [p]) (by omega)
  rw [List.length_append, show [p].length = 1 from rfl, Nat.add_mul, Nat.zero_add, Nat.one_mul] at h0
  unfold joinW
  split
  · obtain ⟨a, b⟩ := hd (qs.set j (qs.getD j [] ++ [p])) j (by rw [List.length_set]; exact hl) hj hf (by rw [getD_set' (by omega), if_pos rfl]; simp)
    refine ⟨?_, by rw [b, List.length_set]⟩
    omega
  · refine ⟨?_, by rw [List.length_set]⟩
    show wayW N.length 0 (qs.set j (qs.getD j [] ++ [p])) + 0 ≤ _
    omega
theorem moveW_way {N : Net} {f : Nat} {dep : Dep α} (hd : DepW N f dep) {st : Nat} (hf : N.length ≤ st + 1 + f) (hst : st < N.length) : ∀ {ms : List (Key × α)} {qs : QsA α}, (∀ m ∈ ms, ∀ j : Int, m.1 = .inl j → (st : Int) < j ∧ j < N.length) → qs.length = N.length →
    wayW N.length 0 (moveW N dep ms qs).1 + (moveW N dep ms qs).2.length + ms.length ≤ wayW N.length 0 qs + ms.length * (2 * (N.length - st)) ∧ (moveW N dep ms qs).1.length = qs.length
  | [], qs, _, _ => by simp [moveW]
  | (.inr z, p) :: r, qs, hm, hl => by
    obtain ⟨a, b⟩ := moveW_way hd hf hst (ms := r) (qs := qs) (fun m h => hm m (List.mem_cons_of_mem _ h)) hl
    refine ⟨?_, b⟩
    show wayW N.length 0 (moveW N dep r qs).1 + ((moveW N dep r qs).2.length + 1) + (r.length + 1) ≤ wayW N.length 0 qs + (r.length + 1) * (2 * (N.length - st))
    rw [Nat.add_mul, Nat.one_mul]
    omega
  | (.inl j, p) :: r, qs, hm, hl => by
    obtain ⟨j1, j2⟩ := hm _ (List.mem_cons_self ..) j rfl
    obtain ⟨a1, b1⟩ := joinW_way (N := N) hd (p := p) (j := j.toNat) hl (by omega) (by omega)
    obtain ⟨a2, b2⟩ := moveW_way hd hf hst (ms := r) (qs := (joinW N dep qs j.toNat p).1) (fun m h => hm m (List.mem_cons_of_mem _ h)) (b1.trans hl)
    refine ⟨?_, b2.trans b1⟩
    show wayW N.length 0 (moveW N dep r (joinW N dep qs j.toNat p).1).1 + ((joinW N dep qs j.toNat p).2 ++ (moveW N dep r (joinW N dep qs j.toNat p).1).2).length + (r.length + 1) ≤ wayW N.length 0 qs + (r.length + 1) * (2 * (N.length - st))
    rw [List.length_append, Nat.add_mul, Nat.one_mul]
    omega
theorem departW_way {N : Net} (fw : Fw N) : ∀ f, DepW N f (departW (α := α) N f)
  | 0 => fun qs st hl hst hf _ => absurd hf (by omega)
  | f + 1 => fun qs st hl hst hf h1 => by
    obtain ⟨a, b⟩ := moveW_way (departW_way fw f) (st := st) (by omega) hst (ms := (N.getD st []).zip (qs.getD st [])) (qs := qs.set st []) (fun m hm j e => by
      exact fw st hst j (by rw [← e]; exact (List.of_mem_zip hm).1)) (by rw [List.length_set]; exact hl)
    refine ⟨?_, b.trans (List.length_set ..)⟩
    have h0 := wayW_set (n := N.length) (qs := qs) (k := 0) (j := st) (q := []) (by omega)
    rw [Nat.zero_add, List.length_nil, Nat.zero_mul] at h0
    have hz : ((N.getD st []).zip (qs.getD st [])).length ≤ (qs.getD st []).length := by rw [List.length_zip]; omega
    generalize hm : ((N.getD st []).zip (qs.getD st [])).length = m at a hz
    show wayW N.length 0 (moveW (α := α) N (departW N f) ((N.getD st []).zip (qs.getD st [])) (qs.set st [])).1 + ((moveW (α := α) N (departW N f) ((N.getD st []).zip (qs.getD st [])) (qs.set st [])).2.length + 1) ≤ _
    have hp : m * (2 * (N.length - st)) - m + 1 ≤ (qs.getD st []).length * (2 * (N.length - st)) := by
      generalize hX : 2 * (N.length - st) = X
      have hX2 : 2 ≤ X := by omega
      generalize (qs.getD st []).length = L at hz h1
      have hle : m * X ≤ L * X := Nat.mul_le_mul_right _ hz
      by_cases e : m = 0
      · subst e
        have : 1 * X ≤ L * X := Nat.mul_le_mul_right _ h1
        omega
      · have : m ≤ m * X := Nat.le_mul_of_pos_right _ (by omega)
        omega
    have hm2 : m ≤ m * (2 * (N.length - st)) := Nat.le_mul_of_pos_right _ (by omega)
    omega
/-- whoever finishes is told -/
def EvOk (es : EvsA α) : Prop := ∀ e ∈ es, ∀ z, e.1 = .inr z → e.2 ≠ []
def DepE (dep : Dep α) : Prop := ∀ qs st, EvOk (dep qs st).2
theorem EvOk.nil : EvOk ([] : EvsA α) := fun _ h => by cases h
theorem EvOk.cons {e : Key × List α} {es : EvsA α} (h1 : ∀ z, e.1 = .inr z → e.2 ≠ []) (h2 : EvOk es) : EvOk (e :: es) := fun x h => by
  rcases List.mem_cons.mp h with rfl | h
  · exact h1
  · exact h2 x h
theorem EvOk.append {a b : EvsA α} (h1 : EvOk a) (h2 : EvOk b) : EvOk (a ++ b) := fun x h => (List.mem_append.mp h).elim (h1 x) (h2 x)
theorem joinW_e {N : Net} {dep : Dep α} (h : DepE dep) (qs : QsA α) (j : Nat) (p : α) : EvOk (joinW N dep qs j p).2 := by
  unfold joinW
  split
  · exact h _ _
  · exact EvOk.nil
theorem moveW_e {N : Net} {dep : Dep α} (h : DepE dep) : ∀ (ms : List (Key × α)) (qs : QsA α), EvOk (moveW N dep ms qs).2
  | [], _ => EvOk.nil
  | (.inr z, p) :: r, qs => EvOk.cons (fun _ _ => by simp) (moveW_e h r qs)
  | (.inl j, p) :: r, qs => EvOk.append (joinW_e h qs j.toNat p) (moveW_e h r _)
theorem departW_e {N : Net} : ∀ f, DepE (departW (α := α) N f)
  | 0 => fun _ _ => EvOk.nil
  | f + 1 => fun qs st => EvOk.cons (fun z e => nomatch e) (moveW_e (departW_e f) ((N.getD st []).zip (qs.getD st [])) (qs.set st []))
/-- who finishes does so at a port of the network -/
def FinS (N : Net) (es : EvsA α) : Prop := ∀ x ∈ finOf es, ∃ k, (.inr x.1 : Key) ∈ N.getD k []
theorem FinS.append {N : Net} {a b : EvsA α} (h1 : FinS N a) (h2 : FinS N b) : FinS N (a ++ b) := fun x h => by
  rw [finOf_append] at h
  exact (List.mem_append.mp h).elim (h1 x) (h2 x)
theorem FinS.nil {N : Net} : FinS N ([] : EvsA α) := fun _ h => by cases h
def DepS (N : Net) (dep : Dep α) : Prop := ∀ qs st, FinS N (dep qs st).2
theorem joinW_s {N : Net} {dep : Dep α} (h : DepS N dep) (qs : QsA α) (j : Nat) (p : α) : FinS N (joinW N dep qs j p).2 := by
  unfold joinW
  split
  · exact h _ _
  · exact FinS.nil
theorem moveW_s {N : Net} {dep : Dep α} (h : DepS N dep) : ∀ (ms : List (Key × α)) (qs : QsA α), (∀ m ∈ ms, ∃ k, m.1 ∈ N.getD k []) → FinS N (moveW N dep ms qs).2
  | [], _, _ => FinS.nil
  | (.inr z, p) :: r, qs, hm => fun x hx => by
    rcases List.mem_cons.mp hx with rfl | hx
    · exact hm _ (List.mem_cons_self ..)
    · exact moveW_s h r qs (fun m h => hm m (List.mem_cons_of_mem _ h)) x hx
  | (.inl j, p) :: r, qs, hm => FinS.append (joinW_s h qs j.toNat p) (moveW_s h r _ fun m h => hm m (List.mem_cons_of_mem _ h))
theorem departW_s {N : Net} : ∀ f, DepS N (departW (α := α) N f)
  | 0 => fun _ _ => FinS.nil
  | f + 1 => fun qs st => fun x hx => moveW_s (departW_s f) ((N.getD st []).zip (qs.getD st [])) (qs.set st []) (fun m hm => ⟨st, (List.of_mem_zip hm).1⟩) x hx
end
end
end FB
set_option Elab.async false
set_option linter.all false
set_option maxRecDepth 100000
set_option maxHeartbeats 4000000
/-! What a caught error says of itself. -/
namespace FB
open PySem PySem.Spec PyProof.Rows L2 Evl
/-! ### list.count of flat items -/
def rCntF (K : PySem.W.Frag) : V → List V → Hp → VK → Prop := fun x xs H Q => ∃ (a : Addr) (ys : List V) (y : V), x = .ref a ∧ xs = [y] ∧ SqL K H a ys ∧ flatV y = true ∧ ys.all flatV = true ∧ Q (.int (ys.countP (fun z => eqV z y) : Nat)) H
theorem count_flat {y : V} : ∀ {ys : List V} {us : List Value}, Vals ys us → ys.all flatV = true → us.countP (eqU y) = ys.countP (fun z => eqV z y)
  | _, _, .nil, _ => rfl
  | z :: ys, u :: us, .cons r rr, f => by
    rw [List.all_cons, Bool.and_eq_true] at f
    rw [List.countP_cons, List.countP_cons, count_flat rr f.2, eqU_of r f.1]
theorem mt_countF {X : Cx} : MtR X "list.count" (rCntF X.K) := by
  intro pins s σ H x xs v us Q I rx rxs h
  obtain ⟨a, ys, y, rfl, rfl, hs, fy, fys, q⟩ := h
  cases rx
  obtain ⟨uy, rfl, ry⟩ := rxs.one
  obtain ⟨its, rv, ⟨⟨cls, dd, data, sl⟩, n, ho, hc, hdn, hd⟩, hlen⟩ := I.list hs
  cases hc
  cases hd
  refine call_meets PySem.F.slot_list_count ⟨_, ho, rfl⟩ PySem.F.entry_list_count (PySem.F.args_list_count_2 _ _)
    (SeqAt.list_countAt a its.toArray n dd sl uy (eqU y)) ⟨ho, fun u hu => mem_eqAt ry fy rv fys u (List.mem_toArray.mp hu), ?_⟩
  rw [show its.toArray.toList.countP (eqU y) = ys.countP (fun z => eqV z y) from count_flat rv fys]
  exact ⟨.int (ys.countP (fun z => eqV z y) : Nat), H, I.tok _, ⟨_, rfl⟩, q⟩
/-! ### isinstance of the caught error -/
/-- what an own error class says of itself -/
structure ErC (K : PySem.W.Frag) (D : Addr) : Prop where
  cl : (PySem.W.clsIn K D).isSome = true
  ga : PySem.W.findIn K (.ref D) "__getattribute__" = some (some (.builtin "BaseException.__getattribute__"))
  gt : PySem.W.findIn K (.ref D) "__getattr__" = some none
  sb : PySem.W.subIn K (.ref D) (.type "BaseException") = some true
  ca : PySem.W.findIn K (.ref D) "__class__" = some (some (.builtin "object.__class__"))
  sp : PySem.W.specialIn K (.builtin "object.__class__") "__get__" = some (some (.builtin "getset_descriptor.__get__"))
  tk : PySem.W.takesIn K (.builtin "object.__class__") = some true
  mr : PySem.W.mroIn K D (.type "object") = some true
/-- the error's own dict, if it has one, stands -/
def HasD (H : Hp) (d : Option Addr) : Prop := d = none ∨ ∃ dd fs, d = some dd ∧ H dd = some (.xd fs)
def rIsX (K : PySem.W.Frag) (cls : Value) (d : Option Addr) (a : Addr) : List V → Hp → VK → Prop := fun xs H Q => ∃ (c : V) (cv : Value) (b : Bool) (D : Addr), xs = [.ref a, c] ∧ (∀ u, RelV c u → u = cv) ∧ cls = .ref D ∧ ErC K D ∧ HasD H d ∧ PySem.W.kitOne K (.ref D) cv = some b ∧ Q (.bl b) H
theorem call_isX {X : Cx} {a : Addr} {oe : Obj} {cls : Value} {d : Option Addr} {pn : List (Addr × Obj)} (hz : Zc cls d oe) (hf : ∃ vs, oe.data = .fields vs) {K : PySem.W.Frag} (hK : X.K = K := by rfl) : CallR (X.suite a ((a, oe) :: pn)) (.builtin "isinstance") (rIsX K cls d a) := by
  subst hK
  intro pins s σ H xs us Q I r h
  obtain ⟨c, cv, b, D, rfl, hcv, rfl, C, hD, e, q⟩ := h
  cases r with
  | cons rx rr =>
    cases rr with
    | cons rt rr =>
      cases rr
      cases rx
      obtain rfl := hcv _ rt
      obtain ⟨ha, _⟩ := I.pin (a, oe) (List.mem_append_left _ List.mem_cons_self)
      obtain ⟨vs, hv⟩ := hf
      have nc : PySem.W.notCls oe := by unfold PySem.W.notCls; rw [hv] <;> rfl
      have J : ∃ od, PySem.W.InstAt s.heap a oe D od := by
        rcases hD with rfl | ⟨dd, fs, rfl, hx⟩
        · exact ⟨none, ha, hz.1, nc, by rw [hz.2]; trivial⟩
        · obtain ⟨mA, hns, _⟩ : ObjOk X.prog X.w H s.heap dd (.xd fs) := I.hok dd _ hx
          obtain ⟨od, ho, _⟩ := lookIn_ns hns
          exact ⟨some od, ha, hz.1, nc, by rw [hz.2]; exact ho⟩
      obtain ⟨od, J⟩ := J
      exact PySem.W.kia_one (PySem.W.kitx_exc C.cl C.ga C.gt C.sb C.ca C.sp C.tk C.mr) I.kIn J e (fun z => nomatch z) fun tk => ⟨.bl b, H, I.tok _, rfl, q⟩
/-- a stronger wish does as well; the slots are as many as the names -/
theorem pss_impI {X : Cx} {b : List Stmt} {t t' : TS} (h : PSs X b t) (k : ∀ D σ H, σ.length = X.N.length → t' D σ H → t D σ H) : PSs X b t' :=
  ⟨fun pins s σ H D I q => h.run pins s σ H D I (k D σ H I.len q)⟩
/-! ### == and != of ints and texts alone -/
section
variable {H : Hp} {Q : VK} {i j : Int} {z z2 : Str}
theorem x_rEqS : rEq (.str z) (.str z2) H Q ↔ Q (.bl (decide (z = z2))) H := by
  have e0 : decide (V.str z = V.str z2) = decide (z = z2) := by simp
  constructor
  · rintro ⟨_, h⟩; rw [e0] at h; exact h
  · exact fun h => ⟨rfl, by rw [e0]; exact h⟩
theorem x_rNeI : rNe (.int i) (.int j) H Q ↔ Q (.bl (!decide (i = j))) H := by
  have e0 : decide (V.int i = V.int j) = decide (i = j) := by simp
  constructor
  · rintro ⟨_, h⟩; rw [e0] at h; exact h
  · exact fun h => ⟨rfl, by rw [e0]; exact h⟩
end
theorem x_extend {H : Hp} {Q : VK} {l b : Addr} {xs zs : List V} (h1 : H l = some (.lst xs)) (h2 : H b = some (.lst zs)) (hl : xs.length + zs.length ≤ 1000000) (k : ∀ H', (∀ x o, x ≠ l → H x = some o → H' x = some o) → H' l = some (.lst (xs ++ zs)) → Q .non H') : rExtend (.ref l) [.ref b] H Q :=
  ⟨l, b, xs, zs, rfl, rfl, h1, h2, small hl, k _ (fun x o hx h => by rw [upd_ne hx]; exact h) upd_same⟩
/-! ### a tuple's slices -/
theorem x_cutT {K : PySem.W.Frag} {H : Hp} {Q : VK} {a : Addr} {xs : List V} {lo hi : Option Int} (h : SqT K H a xs) (k : ∀ t H', Ex H H' → SqT K H' t (cutV xs lo hi) → Q (.ref t) H') : rSlU K (.ref a) lo hi H Q :=
  .inr ⟨a, xs, rfl, h, fun ⟨e1, e2⟩ => k a H (fun _ _ h => h) (by
    have : cutV xs lo hi = xs := by
      unfold cutV
      rw [e1, e2]
      simp
    rw [this]; exact h), fun _ p hp => k p _ (Ex.new hp) (SqT.of upd_same)⟩
theorem cut_take {xs : List V} {j : Nat} (h : j ≤ xs.length) : cutV xs none (some (j : Int)) = xs.take j := by
  unfold cutV
  rw [HT.sIx_none, HT.sIx_nat, Nat.min_eq_left h]; rfl
theorem cut_drop {xs : List V} {j : Nat} (h : j ≤ xs.length) : cutV xs (some (j : Int)) none = xs.drop j := by
  unfold cutV
  rw [HT.sIx_none, HT.sIx_nat, Nat.min_eq_left h]
  exact List.take_of_length_le (by rw [List.length_drop]; omega)
/-! ### the errors -/
def kinds (i : Nat) : List V := (List.range 13).map fun j => .bl (decide (i = j))
theorem kinds_count : ∀ i, i < 13 → (kinds i).countP (fun z => eqV z (.bl true)) = 1 := by decide
theorem kinds_at : ∀ i, i < 13 → (kinds i)[i]? = some (.bl true) := by decide
theorem kinds_not : ∀ i, i < 13 → ∀ m, m < 13 → m < i → (kinds i)[m]? = some (.bl false) := by decide
/-- the words for the errors, in the order of their classes -/
def errWords : List Str := ["network", "state", "count", "station", "seat", "port", "passenger", "empty", "rates", "lengths", "passengers", "many", "contradiction"]
def errNames : List Str := ["InvalidNetwork", "InvalidState", "InvalidCount", "UnknownStation", "UnknownSeat", "UnknownPort", "UnknownPassenger", "EmptyBoat", "InvalidRates", "InvalidLengths", "InvalidPassengers", "TooManyCandidates", "Contradiction"]
theorem words_at : ∀ i, i < 13 → (errWords.map V.str)[i]? = some (.str (errWords.getD i "")) := by decide
theorem words_first : ∀ i, i < 13 → i ≠ 0 → errWords.getD i "" ≠ "network" := by decide
/-- the error classes: C i is the i-th, CF is above all -/
structure Errs (K : PySem.W.Frag) (mg : Str → Option Value) (CF : Addr) (C : Nat → Addr) : Prop where
  gF : mg "FerryError" = some (.ref CF)
  g : ∀ i, i < 13 → mg (errNames.getD i "") = some (.ref (C i))
  b_ValueError : mg "ValueError" = none
  c : ∀ i, i < 13 → ErC K (C i)
  isi : ∀ i j, i < 13 → j < 13 → PySem.W.kitOne K (.ref (C i)) (.ref (C j)) = some (decide (i = j))
  isv : ∀ i, i < 13 → PySem.W.kitOne K (.ref (C i)) (.type "ValueError") = some true
  exF : ∀ i, i < 13 → PySem.W.exmOne K (.ref (C i)) (.ref CF) = some true
  xf : XfC K (C 0)
  no_station : PySem.W.findIn K (.ref (C 0)) "station" = some none
  no_seat : PySem.W.findIn K (.ref (C 0)) "seat" = some none
/-- the i-th error, with fields if it is the first -/
def ErrIs (C : Nat → Addr) (i : Nat) (st se : V) (cls : Value) (d : Option Addr) (H : Hp) : Prop := cls = .ref (C i) ∧ (if i = 0 then ∃ dd, d = some dd ∧ H dd = some (.xd [("seat", se), ("station", st)]) else d = none)
theorem ErrIs.has {C : Nat → Addr} {i : Nat} {st se : V} {cls : Value} {d : Option Addr} {H : Hp} (h : ErrIs C i st se cls d H) : HasD H d := by
  obtain ⟨_, h⟩ := h
  split at h
  · obtain ⟨dd, rfl, hx⟩ := h; exact .inr ⟨dd, _, rfl, hx⟩
  · exact .inl h
/-- what is told of it -/
def errTell (i : Nat) (st se : V) : List V := if i = 0 then [.str "network", st, se] else [.str (errWords.getD i "")]
theorem x_isX {K : PySem.W.Frag} {mg : Str → Option Value} {CF : Addr} {C : Nat → Addr} {cls : Value} {d : Option Addr} {a : Addr} {i : Nat} {st se : V} {H0 H : Hp} {Q : VK} (R : Errs K mg CF C) (hi : i < 13) (e : ErrIs C i st se cls d H0) (f : Ex H0 H) (j : Nat) (hj : j < 13) (q : Q (.bl (decide (i = j))) H) : rIsX K cls d a [.ref a, .ref (C j)] H Q := by
  refine ⟨_, _, _, C i, rfl, fun u r => r, e.1, R.c i hi, ?_, R.isi i j hi hj, q⟩
  rcases e.has with h | ⟨dd, fs, h, hx⟩
  · exact .inl h
  · exact .inr ⟨dd, fs, h, f _ _ hx⟩
theorem x_isV {K : PySem.W.Frag} {mg : Str → Option Value} {CF : Addr} {C : Nat → Addr} {cls : Value} {d : Option Addr} {a : Addr} {i : Nat} {st se : V} {H0 H : Hp} {Q : VK} (R : Errs K mg CF C) (hi : i < 13) (e : ErrIs C i st se cls d H0) (f : Ex H0 H) (q : Q (.bl true) H) : rIsX K cls d a [.ref a, .ty "ValueError"] H Q := by
  refine ⟨_, _, _, C i, rfl, fun u r => r, e.1, R.c i hi, ?_, R.isv i hi, q⟩
  rcases e.has with h | ⟨dd, fs, h, hx⟩
  · exact .inl h
  · exact .inr ⟨dd, fs, h, f _ _ hx⟩
end FB
set_option Elab.async false
set_option linter.all false
set_option maxRecDepth 100000
set_option maxHeartbeats 1000000
/-! Tables of code objects through a law; a def whose code object is known. -/
namespace FB
open PySem PySem.Spec PyProof.Rows L2 Evl LamX
/-- all but the source of draws and the tables stands -/
def ExN (a b : Addr) (H H' : Hp) : Prop := ∀ x o, H x = some o → x ≠ a → x ≠ b → (∀ ps, o ≠ .tbl ps) → H' x = some o
section
variable {H H1 H2 : Hp} {a b : Addr} {T : List (Addr × Str)}
theorem ExN.of2 (e : Ex2 a b H H1) : ExN a b H H1 := fun x o h h1 h2 _ => e x o h h1 h2
theorem ExN.trans (e : ExN a b H H1) (f : ExN a b H1 H2) : ExN a b H H2 := fun x o h h1 h2 n => f x o (e x o h h1 h2 n) h1 h2 n
theorem ExN.ofN (e : ExtN H H1) : ExN a b H H1 := fun x o h _ _ n => e x o h n
theorem ExN.ex (e : ExN a b H H1) (f : Ex H1 H2) : ExN a b H H2 := fun x o h h1 h2 n => f x o (e x o h h1 h2 n)
theorem eqv_tell {a b : Str} : PyData.eqv (.tuple [.str a]) (.tuple [.str b]) = decide (a = b) := by
  simp only [PyData.eqv, PyData.eqvAll, Bool.and_true]
  by_cases h : a = b
  · simp [h]
  · simp [h]
theorem sh_tell {y : Str} (h : PyData.strOk y = true) : SeqAt.shaped (.tuple [.str y]) = true := by
  unfold SeqAt.shaped
  simp [PyData.canLay0, PyData.canLayAll0, PyData.depth, PyData.depthAll, h]
theorem shIntsT (ns : List Int) : SeqAt.shaped (.tuple (ns.map PyData.int)) = true := by
  have h1 : PyData.canLayAll0 (ns.map PyData.int) = true := layAll fun d hd => by
    obtain ⟨i, _, rfl⟩ := List.mem_map.mp hd; rfl
  have h2 : PyData.depthAll (ns.map PyData.int) ≤ 1 := depthAll_le fun d hd => by
    obtain ⟨i, _, rfl⟩ := List.mem_map.mp hd; simp [PyData.depth]
  have h3 : (PyData.tuple (ns.map PyData.int)).depth ≤ 64 := by rw [PyData.depth]; omega
  unfold SeqAt.shaped
  rw [show (PyData.tuple (ns.map PyData.int)).canLay0 = true by rw [PyData.canLay0]; exact h1]
  simpa using h3
theorem eqv_emptyT (ns : List Int) : PyData.eqv (.tuple (ns.map PyData.int)) (.tuple []) = decide (ns = []) := by
  cases ns with
  | nil => simp [PyData.eqv, PyData.eqvAll]
  | cons a r => simp [PyData.eqv, PyData.eqvAll]
/-- x == (), a tuple of ints -/
theorem x_eqEmptyT {K : PySem.W.Frag} {Q : VK} {x : V} {ns : List Int} (h : Dp K H x (.tuple (ns.map PyData.int))) (k : ∀ H', Ex H H' → Q (.bl (decide (ns = []))) H') : rTup [] H fun z H2 => rEqU K x z H2 Q :=
  x_tup (by simp) fun t H1 n e h1 => x_eqD (Dp.ex e h) (.tup (SqT.of h1) .nil) (shIntsT ns) rfl (by rw [eqv_emptyT]; exact k H1 e)
/-- what was told is compared -/
theorem x_tell {K : PySem.W.Frag} {Q : VK} {p : Addr} {x y : Str} (h : H p = some (.tup [.str x])) (hx : PyData.strOk x = true) (hy : PyData.strOk y = true) (k : ∀ H', Ex H H' → Q (.bl (decide (x = y))) H') : rTup [.str y] H fun z H2 => rEqU K (.ref p) z H2 Q :=
  x_tup (by simp) fun t H1 n e h1 => x_eqD (d := .tuple [.str x]) (e := .tuple [.str y]) (.tup (SqT.of (e _ _ h)) (.cons (.str x) .nil)) (.tup (SqT.of h1) (.cons (.str y) .nil)) (sh_tell hx) (sh_tell hy) (by rw [eqv_tell]; exact k H1 e)
/-- tables are neither lists -/
theorem tabs_ex2 {xs ys : List V} (ha : H a = some (.lst xs)) (hb : H b = some (.lst ys)) (t : Tabs T H) (e : Ex2 a b H H1) : Tabs T H1 := fun p hp => by
  obtain ⟨ps, h1, h2, h3⟩ := t p hp
  have ne : ∀ (x : Addr) (o : HO) (zs : List V) (y : Addr), H y = some (.lst zs) → H x = some o → o ≠ .lst zs → x ≠ y := fun x o zs y hy hx hn z => hn (by rw [z, hy] at hx; exact (Option.some.inj hx).symm)
  have cne : ∀ (c : Addr) (q : Str) (zs : List V), CodeO c q ≠ .lst zs := fun c q zs z => by unfold CodeO at z; cases z
  refine ⟨ps, e _ _ h1 (ne _ _ _ _ ha h1 (by simp)) (ne _ _ _ _ hb h1 (by simp)), h2, fun pos cv hc => ?_⟩
  obtain ⟨c, e1, e2⟩ := h3 pos cv hc
  exact ⟨c, e1, e _ _ e2 (ne _ _ _ _ ha e2 (cne _ _ _)) (ne _ _ _ _ hb e2 (cne _ _ _))⟩
theorem extN_t {K : PySem.W.Frag} {xs : List V} (e : ExtN H H1) (h : SqT K H a xs) : SqT K H1 a xs := by
  rcases h with (h | ⟨o, h⟩) | h
  · exact .inl (.inl (e _ _ h (by simp)))
  · exact .inl (.inr ⟨o, e _ _ h (by simp)⟩)
  · exact .inr h
theorem extN_tx (e : ExtN H H1) : TX H H1 := fun x o h c => e x o h (fun ps z => by rw [z] at c; exact c)
end
section
variable {P : Program} {w : World} {K : PySem.W.Frag} {mg : Str → Option Value} {base : Heap}
/-- a def of the code object c -/
theorem okC {c : Addr} {x qual : Str} {st : Stmt} {f : Addr} {fd : FuncData} {N ps : List Str} {k : Nat} {sp : Sp} (F : Fun K x qual st f fd) (hc : fd.code = .ref c) (S : FnScope N ps (defScope st)) (len : ∀ vs H Q E, sp vs H Q E → vs.length = ps.length)
    (hbody : ∀ (A : Around) (outer : List Env) (s : Shared) (H : Hp) (vs : List V) (Q : VK) (E : XK), Room k (A.deeper (envOfC qual (defScope st) s.heap.objs.size f (.ref c))) → sp vs H Q E →
      ∃ t, PSs (cxOf CX0 P w K mg base N qual (defScope st) f (.ref c) A outer s H E).nox (defBody st) t ∧ t { nx := fun _ H' => Q .non H', rt := Q } (L2.start N vs) H) : FnOk P w K mg base CX0 (k + 1) f fd ps sp := by
  obtain ⟨oc, od, kV, doc, pm, an, cdv, ct, osl, rfl, lk, hcd⟩ := F.ex
  obtain rfl : cdv = .ref c := hc
  exact fn_of lk hcd S len fun A outer s H vs Q E hr hsp => by
    obtain ⟨t, h, q⟩ := hbody A outer s H vs Q E hr hsp
    exact ⟨t, h.nox, q⟩
end
end FB
set_option Elab.async false
set_option linter.all false
set_option maxRecDepth 100000
set_option maxHeartbeats 1000000
/-! The end of a law with lambdas: the tables that the top has left empty, by the names of their defs. -/
namespace FB
open PySem PySem.Spec PyProof.Rows L2 Evl LamX
theorem walk_ofTab {l : PySem.W.OpenLaw} {n k : Nat} {q : Program} {loose : List Str} {XP : (Str → Option Value) → Heap → Prop} {YP : World → Heap → Prop} {d : DefRec} {K : Params → PySem.W.Frag} {x : Str} (names : List Str)
    (h1 : l.most = some n) (h2 : n ≤ sizeLine) (h3 : d.params.defaults = []) (h4 : Room k callerA) (h5 : ∀ (w : World) (h : Heap), YP w h → (K w.params).In h)
    (h6 : ∀ y ∈ names, ∃ e, (recsOf q).find? (fun e => e.name == y) = some e)
    (F : ∀ (w : World) (mg : Str → Option Value) (fa : Addr) (h : Heap), (K w.params).In h → h.Ns mainGlobals mg → mg d.name = some (.ref fa) →
      ∃ (fd : FuncData) (cs : List (Str × Addr × Addr)) (sp : Sp), (∀ p ∈ cs, p.1 ∈ names ∧ PySem.W.tabIn (K w.params) p.1 = some p.2 ∧ (K w.params).lookup p.2.2 = none) ∧ (∀ (s : Shared) (u : Value), BindsTo s fd ⟨[u], []⟩ [(x, u)]) ∧
        (∀ (H : Hp) (a : Addr) (ns : List Int), ns.length ≤ n → (∀ p ∈ cs, H p.2.2 = some (.tbl #[])) → SqL (K w.params) H a (ns.map V.int) → sp [.ref a] H (fun v _ => v = .bl true) fun _ _ _ => False) ∧
        ∀ base : Heap, (K w.params).In base → base.Ns mainGlobals mg → (∀ p ∈ cs, TabB base mg p.2.1 p.2.2) → FnOk l.prog w (K w.params) mg base L2.CX0 k fa fd [x] sp) :
    PySem.W.WalkO q loose XP YP l.row.toRowW d [] (fun f vs => PySem.call f vs) := by
  refine Att.attach_callB h1 h3 fun w sA sB mg mb fa ob pm cd dc a us ns G Y z1 z2 z3 hm z4 z5 z6 z7 z8 => ?_
  have kx := h5 w _ Y
  obtain ⟨fd, cs, sp, hc, hb, hs, hF⟩ := F w mg fa _ kx G.T.g hm
  have tb : ∀ p ∈ cs, PySem.W.CodeHd sB.heap p.2.1 p.2.2 ∧ sB.heap.get? p.2.2 = some { cls := .none, data := .fields #[] } := fun p hp => by
    obtain ⟨m1, m2, _⟩ := hc p hp
    obtain ⟨e, he⟩ := h6 _ m1
    exact PySem.W.tab_of G.T kx he m2
  have mem : ∀ p ∈ cs.map (·.2), ∃ y, (y, p) ∈ cs := fun p hp => by
    obtain ⟨r, hr, rfl⟩ := List.mem_map.mp hp
    exact ⟨r.1, hr⟩
  refine law_callTs (cs := cs.map (·.2)) kx G.T.g G.T.b G.T.builtins G.T.nolimit z8 (fun p hp => ?_) (fun p hp => ?_) (fun p hp => ?_) G.T.bmain z4 z5 (Nat.le_trans z6 h2) h4 (fun base b1 b2 b3 => hF base b1 b2 fun p hp => b3 p.2 (List.mem_map.mpr ⟨p, hp, rfl⟩)) hb (fun H hH hS => hs H a ns z6 (fun p hp => hH p.2 (List.mem_map.mpr ⟨p, hp, rfl⟩)) hS) (fun _ _ _ h => h)
  · obtain ⟨y, hy⟩ := mem p hp
    exact (tb _ hy).2
  · obtain ⟨y, hy⟩ := mem p hp
    exact (hc _ hy).2.2
  · obtain ⟨y, hy⟩ := mem p hp
    exact (tb _ hy).1
end FB
set_option Elab.async false
set_option linter.all false
set_option maxRecDepth 100000
set_option maxHeartbeats 4000000
/-! Fractions in lowest terms. -/
namespace FB
open PySem PySem.Spec PyProof.Rows L2 Evl
section
variable {n : Int} {m : Nat}
theorem low_num (hm : m ≠ 0) : n / ((Nat.gcd n.natAbs m : Nat) : Int) = (mkRat n m).num := by
  rw [← Rat.normalize_eq_mkRat hm, Rat.normalize_eq]
theorem low_den (hm : m ≠ 0) : (m : Int) / ((Nat.gcd n.natAbs m : Nat) : Int) = ((mkRat n m).den : Int) := by
  rw [← Rat.normalize_eq_mkRat hm, Rat.normalize_eq]
  exact (Int.natCast_ediv _ _).symm
theorem low_pos (hm : m ≠ 0) : 0 < ((Nat.gcd n.natAbs m : Nat) : Int) := by
  have := Nat.gcd_pos_of_pos_right n.natAbs (Nat.pos_of_ne_zero hm)
  omega
theorem low_le (hm : m ≠ 0) : Nat.gcd n.natAbs m ≤ m := Nat.gcd_le_right _ (Nat.pos_of_ne_zero hm)
end
theorem rat_add (a b : Rat) : mkRat (a.num * b.den + b.num * a.den) (a.den * b.den) = a + b := by
  rw [Rat.add_def, Rat.normalize_eq_mkRat]
theorem rat_of (a : Rat) : a = (a.num : Rat) / ((a.den : Nat) : Rat) := by
  rw [← Rat.mkRat_eq_div]
  exact (Rat.mkRat_self a).symm
theorem den_ne (a : Rat) : ((a.den : Nat) : Rat) ≠ 0 := by
  have := a.den_nz
  simpa using this
theorem rat_divN (a : Rat) {k : Nat} (hk : k ≠ 0) : mkRat a.num (a.den * k) = a / (k : Rat) := by
  rw [Rat.mkRat_eq_div]
  have h1 := rat_of a
  have h2 := den_ne a
  have h3 : ((k : Nat) : Rat) ≠ 0 := by simpa using hk
  have e : ((a.den * k : Nat) : Rat) = ((a.den : Nat) : Rat) * ((k : Nat) : Rat) := by simp
  rw [e]
  generalize ((a.den : Nat) : Rat) = d at *
  generalize (a.num : Rat) = x at *
  rw [h1]
  grind
/-- a whole number -/
def IsZ (q : Rat) : Prop := ∃ z : Int, q = (z : Rat)
theorem IsZ.int (z : Int) : IsZ (z : Rat) := ⟨z, rfl⟩
theorem IsZ.nat (z : Nat) : IsZ (z : Rat) := ⟨z, (Rat.intCast_natCast z).symm⟩
theorem IsZ.add {a b : Rat} (h : IsZ a) (k : IsZ b) : IsZ (a + b) := by
  obtain ⟨x, rfl⟩ := h
  obtain ⟨y, rfl⟩ := k
  exact ⟨x + y, by simp⟩
theorem IsZ.mul {a b : Rat} (h : IsZ a) (k : IsZ b) : IsZ (a * b) := by
  obtain ⟨x, rfl⟩ := h
  obtain ⟨y, rfl⟩ := k
  exact ⟨x * y, by simp⟩
theorem IsZ.zero : IsZ 0 := ⟨0, by simp⟩
theorem den_dvd {q : Rat} {d : Nat} (h : IsZ (q * (d : Rat))) : q.den ∣ d := by
  obtain ⟨z, hz⟩ := h
  have h2 := den_ne q
  have e : (q.num * (d : Int) : Int) = z * (q.den : Int) := by
    have h3 : ((q.num : Int) : Rat) * ((d : Nat) : Rat) = ((z : Int) : Rat) * ((q.den : Nat) : Rat) := by
      have h1 := rat_of q
      generalize ((q.den : Nat) : Rat) = e at *
      generalize ((q.num : Int) : Rat) = x at *
      rw [h1] at hz
      grind
    have h4 : (((q.num * (d : Int)) : Int) : Rat) = (((z * (q.den : Int)) : Int) : Rat) := by
      rw [Rat.intCast_mul, Rat.intCast_mul, Rat.intCast_natCast, Rat.intCast_natCast]
      exact h3
    exact Rat.intCast_inj.mp h4
  have h5 : (q.den : Int) ∣ q.num * (d : Int) := ⟨z, by rw [e, Int.mul_comm]⟩
  have h6 : q.den ∣ q.num.natAbs * d := by
    have := Int.natAbs_dvd_natAbs.mpr h5
    rwa [Int.natAbs_natCast, Int.natAbs_mul, Int.natAbs_natCast] at this
  exact (Nat.Coprime.symm q.reduced).dvd_of_dvd_mul_left h6
theorem isZ_den {q : Rat} {d : Nat} (h : q.den ∣ d) : IsZ (q * (d : Rat)) := by
  obtain ⟨k, rfl⟩ := h
  refine ⟨q.num * (k : Int), ?_⟩
  have h1 := rat_of q
  have h2 := den_ne q
  have e : ((q.den * k : Nat) : Rat) = ((q.den : Nat) : Rat) * ((k : Nat) : Rat) := by simp
  have e2 : ((q.num * (k : Int) : Int) : Rat) = (q.num : Rat) * ((k : Nat) : Rat) := by rw [Rat.intCast_mul, Rat.intCast_natCast]
  rw [e, e2]
  generalize ((q.den : Nat) : Rat) = e at *
  generalize ((q.num : Int) : Rat) = x at *
  rw [h1]
  grind
theorem num_nn {q : Rat} (h : 0 ≤ q) : 0 ≤ q.num := Rat.num_nonneg.mpr h
/-- a bound of the numerator from bounds of the value and the denominator -/
theorem num_le {q : Rat} {a d : Nat} (h0 : 0 ≤ q) (h1 : q ≤ (a : Rat)) (hd : q.den ≤ d) : q.num.natAbs ≤ a * d := by
  have h2 := den_ne q
  have h3 : (q.num : Rat) ≤ ((a : Nat) : Rat) * ((q.den : Nat) : Rat) := by
    have e := rat_of q
    have hp : (0 : Rat) < ((q.den : Nat) : Rat) := by
      have := Nat.pos_of_ne_zero q.den_nz
      exact Rat.natCast_pos.mpr this
    have : (q.num : Rat) = q * ((q.den : Nat) : Rat) := by
      generalize ((q.den : Nat) : Rat) = y at *
      generalize hx : ((q.num : Int) : Rat) = x at *
      rw [e]
      grind
    rw [this]
    exact Rat.mul_le_mul_of_nonneg_right h1 (Rat.le_of_lt hp)
  have h4 : q.num ≤ ((a * q.den : Nat) : Int) := by
    have : ((q.num : Int) : Rat) ≤ (((a * q.den : Nat) : Int) : Rat) := by rw [Rat.intCast_natCast, Rat.natCast_mul]; exact h3
    exact Rat.intCast_le_intCast.mp this
  have h5 := num_nn h0
  have h6 : a * q.den ≤ a * d := Nat.mul_le_mul_left _ hd
  omega
end FB
set_option Elab.async false
set_option linter.all false
set_option maxRecDepth 100000
set_option maxHeartbeats 4000000
/-! How many of all passengers visit a station, board a boat, reach a port: fractions. -/
namespace FB
open PySem PySem.Spec PyProof.Rows L2 Evl
/-- what f gives for the seats that lead to q -/
def toR (f : Nat → Rat) (q : Key) : Seats → Rat
  | [] => 0
  | (i, p) :: r => (if p = q then f i else 0) + toR f q r
section
variable {f g : Nat → Rat} {q : Key}
theorem toR_append : ∀ {a b : Seats}, toR f q (a ++ b) = toR f q a + toR f q b
  | [], b => by show toR f q b = 0 + _; grind
  | (i, p) :: r, b => by
    show (if p = q then f i else 0) + toR f q (r ++ b) = (if p = q then f i else 0) + toR f q r + toR f q b
    rw [toR_append]; grind
theorem toR_snoc {a : Seats} {i : Nat} {p : Key} : toR f q (a ++ [(i, p)]) = toR f q a + (if p = q then f i else 0) := by
  rw [toR_append]
  show _ + ((if p = q then f i else 0) + 0) = _
  grind
theorem toR_congr : ∀ {a : Seats}, (∀ s ∈ a, s.2 = q → f s.1 = g s.1) → toR f q a = toR g q a
  | [], _ => rfl
  | (i, p) :: r, h => by
    show (if p = q then f i else 0) + toR f q r = (if p = q then g i else 0) + toR g q r
    rw [toR_congr fun s hs => h s (List.mem_cons_of_mem _ hs)]
    by_cases e : p = q
    · rw [if_pos e, if_pos e, h (i, p) (List.mem_cons_self ..) e]
    · rw [if_neg e, if_neg e]
theorem toR_nil : ∀ {a : Seats}, (∀ s ∈ a, s.2 ≠ q) → toR f q a = 0
  | [], _ => rfl
  | (i, p) :: r, h => by
    show (if p = q then f i else 0) + toR f q r = 0
    rw [if_neg (h (i, p) (List.mem_cons_self ..)), toR_nil fun s hs => h s (List.mem_cons_of_mem _ hs)]
    grind
theorem toR_nn (h : ∀ i, 0 ≤ f i) : ∀ {a : Seats}, 0 ≤ toR f q a
  | [] => by show (0 : Rat) ≤ 0; grind
  | (i, p) :: r => by
    show 0 ≤ (if p = q then f i else 0) + toR f q r
    have h1 := h i
    have h2 := toR_nn h (a := r)
    split <;> grind
theorem toR_pos (h : ∀ i, 0 ≤ f i) : ∀ {a : Seats}, 0 < toR f q a ↔ ∃ i, (i, q) ∈ a ∧ 0 < f i
  | [] => by
    constructor
    · intro z
      have z : (0 : Rat) < 0 := z
      grind
    · rintro ⟨i, hi, _⟩
      simp at hi
  | (i, p) :: r => by
    have ih := toR_pos h (a := r)
    have hn := toR_nn (q := q) h (a := r)
    have h1 := h i
    show 0 < (if p = q then f i else 0) + toR f q r ↔ _
    by_cases e : p = q
    · rw [if_pos e]
      constructor
      · intro z
        by_cases hz : 0 < f i
        · exact ⟨i, by rw [e]; exact List.mem_cons_self .., hz⟩
        · obtain ⟨j, hj, hp⟩ := ih.mp (by grind)
          exact ⟨j, List.mem_cons_of_mem _ hj, hp⟩
      · rintro ⟨j, hj, hp⟩
        rcases List.mem_cons.mp hj with z | z
        · cases z; grind
        · have := ih.mpr ⟨j, z, hp⟩
          grind
    · rw [if_neg e]
      constructor
      · intro z
        obtain ⟨j, hj, hp⟩ := ih.mp (by grind)
        exact ⟨j, List.mem_cons_of_mem _ hj, hp⟩
      · rintro ⟨j, hj, hp⟩
        rcases List.mem_cons.mp hj with z | z
        · cases z; exact absurd rfl e
        · have := ih.mpr ⟨j, z, hp⟩
          grind
theorem toR_isZ {c : Rat} : ∀ {a : Seats}, (∀ s ∈ a, IsZ (f s.1 * c)) → IsZ (toR f q a * c)
  | [], _ => by
    have : toR f q [] * c = 0 := by show (0 : Rat) * c = 0; grind
    rw [this]; exact .zero
  | (i, p) :: r, h => by
    have e : toR f q ((i, p) :: r) * c = (if p = q then f i * c else 0) + toR f q r * c := by
      show ((if p = q then f i else 0) + toR f q r) * c = _
      split <;> grind
    rw [e]
    refine .add ?_ (toR_isZ fun s hs => h s (List.mem_cons_of_mem _ hs))
    split
    · exact h (i, p) (List.mem_cons_self ..)
    · exact .zero
/-- whole numbers m that are c times the fractions -/
theorem toR_int {m : Nat → Int} {c : Rat} : ∀ {a : Seats}, (∀ s ∈ a, s.2 = q → ((m s.1 : Int) : Rat) = c * f s.1) → ((toQ m q a : Int) : Rat) = c * toR f q a
  | [], _ => by show ((0 : Int) : Rat) = c * 0; rw [Rat.intCast_zero]; grind
  | (i, p) :: r, h => by
    have ih := toR_int fun s hs => h s (List.mem_cons_of_mem _ hs)
    show (((if p = q then m i else 0) + toQ m q r : Int) : Rat) = c * ((if p = q then f i else 0) + toR f q r)
    rw [Rat.intCast_add, ih]
    by_cases e : p = q
    · rw [if_pos e, if_pos e, h (i, p) (List.mem_cons_self ..) e]
      grind
    · rw [if_neg e, if_neg e, Rat.intCast_zero]
      grind
end
/-- the visitors of the station j, f for each seat in L -/
def visF (f : Nat → Rat) (L : Seats) (j : Nat) : Rat := (if j = 0 then 1 else 0) + toR f (.inl (j : Int)) L
/-- the boats of the first k stations -/
def avs (N : Net) : Nat → List Rat
  | 0 => []
  | k + 1 => avs N k ++ [visF (fun i => (avs N k).getD i 0) (seatsOf N k) k / ((N.getD k []).length : Rat)]
theorem avs_len {N : Net} : ∀ {k}, (avs N k).length = k
  | 0 => rfl
  | k + 1 => by
    show (avs N k ++ [_]).length = k + 1
    rw [List.length_append, avs_len]; rfl
/-- the boats of a station, an arrival -/
def av (N : Net) (i : Nat) : Rat := (avs N (i + 1)).getD i 0
theorem avs_get {N : Net} {i : Nat} : ∀ {k}, i < k → (avs N k).getD i 0 = av N i
  | 0, h => by omega
  | k + 1, h => by
    by_cases e : i = k
    · rw [e]; rfl
    · have hk : i < k := by omega
      rw [← avs_get hk]
      show (avs N k ++ [_]).getD i 0 = _
      rw [List.getD_eq_getElem?_getD, List.getElem?_append_left (by rw [avs_len]; exact hk), List.getD_eq_getElem?_getD]
/-- the visitors of a station, an arrival -/
def vi (N : Net) (k : Nat) : Rat := visF (av N) (seatsOf N k) k
theorem av_eq (N : Net) (k : Nat) : av N k = vi N k / ((N.getD k []).length : Rat) := by
  show (avs N k ++ [_]).getD k 0 = _
  rw [List.getD_eq_getElem?_getD, List.getElem?_append_right (by rw [avs_len]; exact Nat.le_refl _), avs_len, Nat.sub_self]
  show visF _ _ _ / _ = _
  unfold vi visF
  rw [toR_congr (g := av N) fun s hs _ => avs_get (mem_seatsOf.mp (show (s.1, s.2) ∈ seatsOf N k from hs)).1]
/-- seats lead on, to a station of the network -/
structure FwR (N : Net) : Prop where
  pos : ∀ i, i < N.length → 1 ≤ (N.getD i []).length
  fw : ∀ i, i < N.length → ∀ j : Int, (.inl j : Key) ∈ N.getD i [] → (i : Int) < j ∧ j < N.length
section
variable {N : Net}
theorem rdiv_nn {a : Rat} (h : 0 ≤ a) (n : Nat) : 0 ≤ a / (n : Rat) := by
  rw [Rat.div_def]
  refine Rat.mul_nonneg h ?_
  rw [Rat.inv_def]
  exact Rat.divInt_nonneg (Int.natCast_nonneg _) (by rw [Rat.num_natCast]; exact Int.natCast_nonneg _)
theorem vi_nn_of {k : Nat} (h : ∀ i, i < k → 0 ≤ av N i) : 0 ≤ vi N k := by
  unfold vi visF
  have e : toR (av N) (.inl (k : Int)) (seatsOf N k) = toR (fun i => if i < k then av N i else 0) (.inl (k : Int)) (seatsOf N k) := toR_congr fun s hs _ => by
    have := (mem_seatsOf.mp (show (s.1, s.2) ∈ seatsOf N k from hs)).1
    show _ = if s.1 < k then _ else _
    rw [if_pos this]
  rw [e]
  have h2 : 0 ≤ toR (fun i => if i < k then av N i else 0) (.inl (k : Int)) (seatsOf N k) := toR_nn fun i => by
    show 0 ≤ if i < k then av N i else 0
    split
    · exact h i (by assumption)
    · grind
  split <;> grind
theorem av_nn : ∀ k, 0 ≤ av N k := fun k => by
  induction k using Nat.strongRecOn with
  | ind k ih =>
    rw [av_eq]
    exact rdiv_nn (vi_nn_of ih) _
theorem vi_nn (k : Nat) : 0 ≤ vi N k := vi_nn_of fun i _ => av_nn i
/-- the visitors are told by the seats of the stations ahead, as by all -/
theorem vi_from (F : FwR N) {k m : Nat} (hk : k ≤ m) (hm : m ≤ N.length) : visF (av N) (seatsOf N m) k = vi N k := by
  induction m with
  | zero => rw [show k = 0 by omega]; rfl
  | succ m ih =>
    by_cases e : k = m + 1
    · rw [e]; rfl
    · rw [← ih (by omega) (by omega)]
      unfold visF
      show _ + toR _ _ (seatsOf N m ++ stSeats m (N.getD m [])) = _
      rw [toR_append, toR_nil (a := stSeats m (N.getD m []))]
      · grind
      · intro s hs z
        unfold stSeats at hs
        obtain ⟨p, hp, rfl⟩ := List.mem_map.mp hs
        have z : p = .inl (k : Int) := z
        rw [z] at hp
        have := (F.fw m (by omega) _ hp).1
        omega
theorem av_mul (F : FwR N) {k : Nat} (hk : k < N.length) : av N k * ((N.getD k []).length : Rat) = vi N k := by
  rw [av_eq]
  have h := F.pos k hk
  have h0 : (((N.getD k []).length : Nat) : Rat) ≠ 0 := by
    intro z
    have := Rat.natCast_eq_zero_iff.mp z
    omega
  generalize (((N.getD k []).length : Nat) : Rat) = y at *
  grind
theorem av_pos (F : FwR N) {k : Nat} (hk : k < N.length) : 0 < av N k ↔ 0 < vi N k := by
  have h := av_mul F hk
  have h1 := F.pos k hk
  have h2 := av_nn (N := N) k
  have h3 := vi_nn (N := N) k
  have h4 : (0 : Rat) < ((N.getD k []).length : Nat) := Rat.natCast_pos.mpr (by omega)
  constructor
  · intro z
    rw [← h]
    exact Rat.mul_pos z h4
  · intro z
    rcases Rat.le_iff_lt_or_eq.mp h2 with h5 | h5
    · exact h5
    · rw [← h5] at h
      grind
/-! ### denominators -/
def prodN (N : Net) : Nat → Nat
  | 0 => 1
  | k + 1 => prodN N k * (N.getD k []).length
theorem prodN_dvd {i k : Nat} (h : i ≤ k) : prodN N i ∣ prodN N k := by
  induction k with
  | zero => rw [show i = 0 by omega]; exact Nat.dvd_refl _
  | succ k ih =>
    by_cases e : i = k + 1
    · rw [e]; exact Nat.dvd_refl _
    · exact Nat.dvd_trans (ih (by omega)) (Nat.dvd_mul_right _ _)
theorem prodN_pos (F : FwR N) : ∀ {k : Nat}, k ≤ N.length → 1 ≤ prodN N k
  | 0, _ => Nat.le_refl _
  | k + 1, h => by
    have h1 := prodN_pos F (k := k) (by omega)
    have h2 := F.pos k (by omega)
    exact Nat.mul_pos h1 h2
theorem prodN_le (h8 : ∀ i, (N.getD i []).length ≤ 8) : ∀ k, prodN N k ≤ 8 ^ k
  | 0 => Nat.le_refl _
  | k + 1 => by
    show prodN N k * _ ≤ 8 ^ k * 8
    exact Nat.mul_le_mul (prodN_le h8 k) (h8 k)
theorem isZ_dvd {q : Rat} {a b : Nat} (h : IsZ (q * (a : Rat))) (d : a ∣ b) : IsZ (q * (b : Rat)) := by
  obtain ⟨k, rfl⟩ := d
  have e : q * ((a * k : Nat) : Rat) = q * (a : Rat) * (k : Rat) := by
    rw [Rat.natCast_mul]; grind
  rw [e]
  exact h.mul (.nat k)
theorem av_isZ (F : FwR N) : ∀ k, k < N.length → IsZ (av N k * ((prodN N (k + 1) : Nat) : Rat)) := fun k => by
  induction k using Nat.strongRecOn with
  | ind k ih =>
    intro hk
    have e : av N k * ((prodN N (k + 1) : Nat) : Rat) = vi N k * ((prodN N k : Nat) : Rat) := by
      rw [← av_mul F hk]
      show _ * ((prodN N k * (N.getD k []).length : Nat) : Rat) = _
      rw [Rat.natCast_mul]; grind
    rw [e]
    unfold vi visF
    have e2 : ((if k = 0 then (1 : Rat) else 0) + toR (av N) (.inl (k : Int)) (seatsOf N k)) * ((prodN N k : Nat) : Rat) = (if k = 0 then 1 else 0) * ((prodN N k : Nat) : Rat) + toR (av N) (.inl (k : Int)) (seatsOf N k) * ((prodN N k : Nat) : Rat) := by grind
    rw [e2]
    refine .add (.mul ?_ (.nat _)) (toR_isZ fun s hs => ?_)
    · split
      · exact ⟨1, by simp⟩
      · exact .zero
    · have h1 := (mem_seatsOf.mp (show (s.1, s.2) ∈ seatsOf N k from hs)).1
      exact isZ_dvd (ih s.1 h1 (by omega)) (prodN_dvd (by omega))
theorem av_den (F : FwR N) {k m : Nat} (hk : k < m) (hm : m ≤ N.length) : (av N k).den ∣ prodN N m :=
  Nat.dvd_trans (den_dvd (av_isZ F k (by omega))) (prodN_dvd (by omega))
/-- what is reckoned from the boats of the first stations -/
theorem toR_den (F : FwR N) {q : Key} {L : Seats} {m : Nat} (hm : m ≤ N.length) (hL : ∀ s ∈ L, s.1 < m) : (toR (av N) q L).den ∣ prodN N m :=
  den_dvd (toR_isZ fun s hs => isZ_den (av_den F (hL s hs) hm))
theorem visF_den (F : FwR N) {j : Nat} {L : Seats} {m : Nat} (hm : m ≤ N.length) (hL : ∀ s ∈ L, s.1 < m) : (visF (av N) L j).den ∣ prodN N m := by
  refine den_dvd ?_
  unfold visF
  have e2 : ((if j = 0 then (1 : Rat) else 0) + toR (av N) (.inl (j : Int)) L) * ((prodN N m : Nat) : Rat) = (if j = 0 then 1 else 0) * ((prodN N m : Nat) : Rat) + toR (av N) (.inl (j : Int)) L * ((prodN N m : Nat) : Rat) := by grind
  rw [e2]
  refine .add (.mul ?_ (.nat _)) (isZ_den (toR_den F hm hL))
  split
  · exact ⟨1, by simp⟩
  · exact .zero
/-! ### the period -/
def perN (N : Net) : Nat → Nat
  | 0 => 1
  | k + 1 => Nat.lcm (perN N k) (av N k).den
theorem perN_dvd (F : FwR N) : ∀ {k}, k ≤ N.length → perN N k ∣ prodN N k
  | 0, _ => Nat.dvd_refl _
  | k + 1, h => Nat.lcm_dvd (Nat.dvd_trans (perN_dvd F (by omega)) (prodN_dvd (by omega))) (av_den F (by omega) h)
theorem perN_den {i : Nat} : ∀ {k}, i < k → (av N i).den ∣ perN N k
  | 0, h => by omega
  | k + 1, h => by
    by_cases e : i = k
    · rw [e]; exact Nat.dvd_lcm_right _ _
    · exact Nat.dvd_trans (perN_den (k := k) (by omega)) (Nat.dvd_lcm_left _ _)
theorem perN_pos : ∀ k, 1 ≤ perN N k
  | 0 => Nat.le_refl _
  | k + 1 => Nat.lcm_pos (perN_pos k) (Nat.pos_of_ne_zero (av N k).den_nz)
end
/-! ### sums over stations -/
def sumR (f : Nat → Rat) : Nat → Rat
  | 0 => 0
  | k + 1 => sumR f k + f k
section
variable {N : Net} {f g : Nat → Rat}
theorem sumR_congr : ∀ {k}, (∀ i, i < k → f i = g i) → sumR f k = sumR g k
  | 0, _ => rfl
  | k + 1, h => by
    show sumR f k + f k = sumR g k + g k
    rw [sumR_congr fun i hi => h i (by omega), h k (by omega)]
theorem sumR_nn (h : ∀ i, 0 ≤ f i) : ∀ k, 0 ≤ sumR f k
  | 0 => by show (0 : Rat) ≤ 0; grind
  | k + 1 => by
    show 0 ≤ sumR f k + f k
    have h1 := sumR_nn h k
    have h2 := h k
    grind
theorem sumR_mono (h : ∀ i, 0 ≤ f i) {j k : Nat} (hk : j ≤ k) : sumR f j ≤ sumR f k := by
  induction k with
  | zero => rw [show j = 0 by omega]; exact Rat.le_refl
  | succ k ih =>
    by_cases e : j = k + 1
    · rw [e]; exact Rat.le_refl
    · have h1 := ih (by omega)
      have h2 := h k
      show _ ≤ sumR f k + f k
      grind
theorem sumR_one (h : ∀ i, 0 ≤ f i) {i k : Nat} (hk : i < k) : f i ≤ sumR f k := by
  have h1 := sumR_mono h (show i + 1 ≤ k by omega)
  have h2 := sumR_nn h i
  have h3 : sumR f (i + 1) = sumR f i + f i := rfl
  grind
/-- the seats' sum, those that lead to ports apart -/
def allR (f : Nat → Rat) : Seats → Rat
  | [] => 0
  | (i, _) :: r => f i + allR f r
/-- x of a seat that leads to a port -/
def pq (p : Key) (x : Rat) : Rat := match p with | .inl _ => 0 | .inr _ => x
def portR (f : Nat → Rat) : Seats → Rat
  | [] => 0
  | (i, p) :: r => pq p (f i) + portR f r
theorem allR_append : ∀ {a b : Seats}, allR f (a ++ b) = allR f a + allR f b
  | [], b => by show allR f b = 0 + _; grind
  | (i, p) :: r, b => by
    show f i + allR f (r ++ b) = f i + allR f r + allR f b
    rw [allR_append]; grind
theorem portR_append : ∀ {a b : Seats}, portR f (a ++ b) = portR f a + portR f b
  | [], b => by show portR f b = 0 + _; grind
  | (i, p) :: r, b => by
    show pq p (f i) + portR f (r ++ b) = pq p (f i) + portR f r + portR f b
    rw [portR_append]; grind
theorem allR_st {k : Nat} : ∀ {s : List Key}, allR f (stSeats k s) = f k * ((s.length : Nat) : Rat)
  | [] => by
    show (0 : Rat) = f k * ((0 : Nat) : Rat)
    have : ((0 : Nat) : Rat) = 0 := rfl
    rw [this]; grind
  | p :: s => by
    show f k + allR f (stSeats k s) = f k * ((s.length + 1 : Nat) : Rat)
    rw [allR_st, Rat.natCast_add]
    have : ((1 : Nat) : Rat) = 1 := rfl
    rw [this]; grind
theorem allR_seats : ∀ k, allR f (seatsOf N k) = sumR (fun i => f i * (((N.getD i []).length : Nat) : Rat)) k
  | 0 => rfl
  | k + 1 => by
    show allR f (seatsOf N k ++ stSeats k (N.getD k [])) = sumR _ k + _
    rw [allR_append, allR_st, allR_seats]
/-- each seat leads to one station below n, or to a port -/
theorem split_seat {n : Nat} {i : Nat} {p : Key} (hp : ∀ j : Int, p = .inl j → 0 ≤ j ∧ j < n) : sumR (fun j => if p = .inl (j : Int) then f i else 0) n + pq p (f i) = f i := by
  cases p with
  | inr z =>
    have : sumR (fun j => if (Sum.inr z : Key) = .inl (j : Int) then f i else 0) n = 0 := by
      clear hp
      induction n with
      | zero => rfl
      | succ n ih =>
        show sumR _ n + (if (Sum.inr z : Key) = .inl (n : Int) then f i else 0) = 0
        rw [ih, if_neg (by intro z; cases z)]; grind
    rw [this]; show (0 : Rat) + f i = f i; grind
  | inl j =>
    obtain ⟨h0, h1⟩ := hp j rfl
    have : ∀ m : Nat, sumR (fun k : Nat => if (Sum.inl j : Key) = .inl (k : Int) then f i else 0) m = if j < m then f i else 0 := fun m => by
      induction m with
      | zero => rw [if_neg (by omega)]; rfl
      | succ m ih =>
        show sumR _ m + (if (Sum.inl j : Key) = .inl (m : Int) then f i else 0) = _
        rw [ih]
        by_cases e : j = m
        · rw [if_neg (by omega), if_pos (by rw [e]), if_pos (by omega)]; grind
        · by_cases e2 : j < m
          · rw [if_pos e2, if_neg (by intro z; exact e (Sum.inl.inj z)), if_pos (by omega)]; grind
          · rw [if_neg e2, if_neg (by intro z; exact e (Sum.inl.inj z)), if_neg (by omega)]; grind
    rw [this, if_pos h1]; show f i + (0 : Rat) = f i; grind
theorem sumR_add : ∀ k, sumR (fun i => f i + g i) k = sumR f k + sumR g k
  | 0 => by show (0 : Rat) = 0 + 0; grind
  | k + 1 => by
    show sumR _ k + (f k + g k) = sumR f k + f k + (sumR g k + g k)
    rw [sumR_add]; grind
theorem sumR_zero : ∀ k, sumR (fun _ => 0) k = 0
  | 0 => rfl
  | k + 1 => by show sumR _ k + 0 = 0; rw [sumR_zero]; grind
theorem split_all {n : Nat} : ∀ {L : Seats}, (∀ s ∈ L, ∀ j : Int, s.2 = .inl j → 0 ≤ j ∧ j < n) → sumR (fun j => toR f (.inl (j : Int)) L) n + portR f L = allR f L
  | [], _ => by
    show sumR (fun _ => 0) n + 0 = (0 : Rat)
    rw [sumR_zero]; grind
  | (i, p) :: r, h => by
    have ih := split_all fun s hs => h s (List.mem_cons_of_mem _ hs)
    have hs := split_seat (f := f) (i := i) (p := p) (h (i, p) (List.mem_cons_self ..))
    have e : sumR (fun j => toR f (.inl (j : Int)) ((i, p) :: r)) n = sumR (fun j => if p = .inl (j : Int) then f i else 0) n + sumR (fun j => toR f (.inl (j : Int)) r) n := by
      rw [← sumR_add]; rfl
    have e2 : portR f ((i, p) :: r) = pq p (f i) + portR f r := rfl
    have e3 : allR f ((i, p) :: r) = f i + allR f r := rfl
    rw [e, e2, e3, ← ih]
    generalize pq p (f i) = y at *
    grind
/-- everybody reaches a port -/
theorem port_one (F : FwR N) (hn : 1 ≤ N.length) : portR (av N) (seatsOf N N.length) = 1 := by
  have h1 := split_all (f := av N) (n := N.length) (L := seatsOf N N.length) fun s hs j e => by
    obtain ⟨a, b⟩ := mem_seatsOf.mp (show (s.1, s.2) ∈ seatsOf N N.length from hs)
    rw [e] at b
    have := F.fw s.1 a j b
    omega
  rw [allR_seats] at h1
  have h2 : sumR (fun i => av N i * (((N.getD i []).length : Nat) : Rat)) N.length = sumR (fun i => (if i = 0 then 1 else 0) + toR (av N) (.inl (i : Int)) (seatsOf N N.length)) N.length :=
    sumR_congr fun i hi => by
      rw [av_mul F hi, ← vi_from F (Nat.le_of_lt hi) (Nat.le_refl _)]; rfl
  rw [h2, sumR_add] at h1
  have h3 : ∀ k, 1 ≤ k → sumR (fun i => if i = 0 then (1 : Rat) else 0) k = 1 := fun k hk => by
    induction k with
    | zero => omega
    | succ k ih =>
      show sumR _ k + (if k = 0 then 1 else 0) = 1
      by_cases e : k = 0
      · subst e; show (0 : Rat) + 1 = 1; grind
      · rw [ih (by omega), if_neg e]; grind
  rw [h3 _ hn] at h1
  grind
theorem portR_nn (h : ∀ i, 0 ≤ f i) : ∀ L : Seats, 0 ≤ portR f L
  | [] => by show (0 : Rat) ≤ 0; grind
  | (i, .inl _) :: r => by
    have := portR_nn h r
    show 0 ≤ 0 + portR f r
    grind
  | (i, .inr _) :: r => by
    have := portR_nn h r
    have := h i
    show 0 ≤ f i + portR f r
    grind
/-- nobody visits a station twice -/
theorem vi_le_one (F : FwR N) {k : Nat} (hk : k < N.length) : vi N k ≤ 1 := by
  by_cases e0 : k = 0
  · subst e0
    have h5 : vi N 0 = 1 := by
      show (if (0 : Nat) = 0 then (1 : Rat) else 0) + toR (av N) (.inl ((0 : Nat) : Int)) [] = 1
      show (1 : Rat) + 0 = 1
      grind
    rw [h5]; exact Rat.le_refl
  have h1 := split_all (f := av N) (n := N.length) (L := seatsOf N k) fun s hs j e => by
    obtain ⟨a, b⟩ := mem_seatsOf.mp (show (s.1, s.2) ∈ seatsOf N k from hs)
    rw [e] at b
    have := F.fw s.1 (by omega) j b
    omega
  rw [allR_seats] at h1
  have h2 : sumR (fun i => av N i * (((N.getD i []).length : Nat) : Rat)) k = sumR (fun i => (if i = 0 then 1 else 0) + toR (av N) (.inl (i : Int)) (seatsOf N k)) k :=
    sumR_congr fun i hi => by
      rw [av_mul F (by omega), ← vi_from F (Nat.le_of_lt hi) (Nat.le_of_lt hk)]; rfl
  rw [h2, sumR_add] at h1
  have h3 : ∀ k, 1 ≤ k → sumR (fun i => if i = 0 then (1 : Rat) else 0) k = 1 := fun k hk => by
    induction k with
    | zero => omega
    | succ k ih =>
      show sumR _ k + (if k = 0 then 1 else 0) = 1
      by_cases e : k = 0
      · subst e; show (0 : Rat) + 1 = 1; grind
      · rw [ih (by omega), if_neg e]; grind
  rw [h3 _ (by omega)] at h1
  have h4 := sumR_mono (f := fun j => toR (av N) (.inl (j : Int)) (seatsOf N k)) (fun i => toR_nn av_nn) (show k + 1 ≤ N.length from hk)
  have h5 : sumR (fun j => toR (av N) (.inl (j : Int)) (seatsOf N k)) (k + 1) = sumR (fun j => toR (av N) (.inl (j : Int)) (seatsOf N k)) k + toR (av N) (.inl (k : Int)) (seatsOf N k) := rfl
  have h6 := portR_nn (f := av N) av_nn (seatsOf N k)
  unfold vi visF
  rw [if_neg e0]
  grind
theorem av_le_one (F : FwR N) {k : Nat} (hk : k < N.length) : av N k ≤ 1 := by
  have h := av_mul F hk
  have h1 := vi_le_one F hk
  have h2 := av_nn (N := N) k
  have h3 : (1 : Rat) ≤ ((N.getD k []).length : Nat) := by
    have := F.pos k hk
    have e : ((1 : Nat) : Rat) = 1 := rfl
    rw [← e]
    exact Rat.natCast_le_natCast.mpr this
  have h4 := Rat.mul_le_mul_of_nonneg_left h3 h2
  grind
theorem sumR_le {c : Rat} {k : Nat} (h : ∀ i, i < k → f i ≤ c) : sumR f k ≤ ((k : Nat) : Rat) * c := by
  induction k with
  | zero => show (0 : Rat) ≤ ((0 : Nat) : Rat) * c; have : ((0 : Nat) : Rat) = 0 := rfl; rw [this]; grind
  | succ k ih =>
    have h1 := ih fun i hi => h i (by omega)
    have h2 := h k (by omega)
    show sumR f k + f k ≤ ((k + 1 : Nat) : Rat) * c
    have e : ((1 : Nat) : Rat) = 1 := rfl
    rw [Rat.natCast_add, e]; grind
theorem toR_le_port (h : ∀ i, 0 ≤ f i) {z : Str} : ∀ L : Seats, toR f (.inr z) L ≤ portR f L
  | [] => Rat.le_refl
  | (i, .inl _) :: r => by
    have := toR_le_port h (z := z) r
    show (if _ = _ then f i else 0) + toR f _ r ≤ 0 + portR f r
    rw [if_neg (by intro z; cases z)]; grind
  | (i, .inr y) :: r => by
    have := toR_le_port h (z := z) r
    have := h i
    show (if _ = _ then f i else 0) + toR f _ r ≤ f i + portR f r
    split <;> grind
theorem portR_mono (h : ∀ i, 0 ≤ f i) {a b : Seats} : portR f a ≤ portR f (a ++ b) := by
  have := portR_nn h b
  rw [portR_append]; grind
theorem seats_split {k m : Nat} (h : k ≤ m) : ∃ L, seatsOf N m = seatsOf N k ++ L := by
  induction m with
  | zero => rw [show k = 0 by omega]; exact ⟨[], rfl⟩
  | succ m ih =>
    by_cases e : k = m + 1
    · rw [e]; exact ⟨[], by rw [List.append_nil]⟩
    · obtain ⟨L, hL⟩ := ih (by omega)
      exact ⟨L ++ stSeats m (N.getD m []), by show seatsOf N m ++ _ = _; rw [hL, List.append_assoc]⟩
end
end FB
set_option Elab.async false
set_option linter.all false
set_option maxRecDepth 100000
set_option maxHeartbeats 4000000
/-! Sets of ints and texts that can be sorted. -/
namespace FB
open PySem PySem.Spec PyProof.Rows L2 Evl
/-- an element's key -/
def elKey (e : Int × Value) : Key := match e.2 with
  | .int k _ => .inl k
  | .str z _ => .inr z
  | _ => .inl 0
/-- the set at a by its keys; its table can be walked -/
structure Tbl (P : Program) (w : World) (es : Array (Int × Value)) (t : SetTable) (S : Key → Bool) : Prop where
  el : ElemsOf (mixKind P w) es.toList
  mem : ∀ k, S k = true ↔ ∃ e ∈ es.toList, (mixKind P w).is k e.2 = true
  nd : (es.toList.map elKey).Nodup
  few : es.size < scanBound
  fits : t.fits es.size = true
  ris : Ris t.place.toList
  led : w.params.followText "set-order" = true ∨ t.led = true
def SetM0 (P : Program) (w : World) (h : Heap) (a : Addr) (S : Key → Bool) (n : Nat) : Prop := ∃ o es ep t, h.get? a = some o ∧ o.ExactSet ∧ o.data = .set es ep t ∧ es.size = n ∧ Tbl P w es t S
def SetM (P : Program) (w : World) (a : Addr) (S : Key → Bool) (n : Nat) : HO := .ext fun h => SetM0 P w h a S n
section
variable {P : Program} {w : World} {h h' : Heap} {a : Addr} {S : Key → Bool} {n : Nat}
theorem is_elKey {e : Int × Value} {k : Key} (q : (mixKind P w).is k e.2 = true) : elKey e = k := by
  rcases keyIs_shape (show keyIs k e.2 = true from q) with ⟨i, t, ek, ev⟩ | ⟨z, t, ek, ev⟩
  · unfold elKey; rw [ev, ek]
  · unfold elKey; rw [ev, ek]
theorem SetM0.setOf (R : SetM0 P w h a S n) : h.SetOf (mixKind P w) a S n := by
  obtain ⟨o, es, ep, t, r1, r2, r3, r4, T⟩ := R
  exact ⟨o, es, ep, t, r1, r2, r3, T.el, T.mem, T.few, T.fits, r4⟩
theorem Tbl.key {es : Array (Int × Value)} {t : SetTable} (T : Tbl P w es t S) (k : Key) : S k = true ↔ k ∈ es.toList.map elKey := by
  rw [T.mem k, List.mem_map]
  constructor
  · rintro ⟨e, he, q⟩
    exact ⟨e, he, is_elKey q⟩
  · rintro ⟨e, he, q⟩
    obtain ⟨⟨k', hk', _⟩, _⟩ := T.el e he
    have := is_elKey hk'
    rw [q] at this
    exact ⟨e, he, by rw [this]; exact hk'⟩
theorem setM_obj {H : Hp} (R : SetM0 P w h a S n) : ObjOk P w H h a (SetM P w a S n) := by
  have ⟨o, _, _, _, ho, _⟩ := R
  exact ⟨R, ⟨o, ho⟩, fun _ _ ⟨o, es, ep, t, r1, r⟩ st => ⟨o, es, ep, t, st o r1, r⟩⟩
/-- a perm of the elements in another table is the same set -/
theorem Tbl.perm {es es2 : Array (Int × Value)} {t t2 : SetTable} (T : Tbl P w es t S) (pm : es2.toList.Perm es.toList) (hf : t2.fits es2.size = true) (hr : Ris t2.place.toList) (hl : w.params.followText "set-order" = true ∨ t2.led = true) : Tbl P w es2 t2 S :=
  have sz : es2.size = es.size := by rw [← Array.length_toList, pm.length_eq, Array.length_toList]
  ⟨T.el.perm pm, fun k => (T.mem k).trans ⟨fun ⟨e, he, q⟩ => ⟨e, pm.mem_iff.mpr he, q⟩, fun ⟨e, he, q⟩ => ⟨e, pm.mem_iff.mp he, q⟩⟩, (pm.map elKey).nodup_iff.mpr T.nd, by rw [sz]; exact T.few, hf, hr, hl⟩
end
section
variable {P : Program} {w : World} {A : Around} {E : Value → Shared → Prop} {s : Shared} {a : Addr} {S : Key → Bool} {n : Nat}
/-- the new table is stored, and laid anew where it is too full -/
theorem tbl_store {g : Bool → Sem Unit} (hg : ∀ (b : Bool) (s1 : Shared) (Q' : Unit → Shared → Prop), Q' () s1 → wpAny (model P w) A (g b) Q' E s1) {o : Obj} {es es1 : Array (Int × Value)} {ep : Nat} {t t1 : SetTable} {S1 : Key → Bool}
    (ho : s.heap.get? a = some o) (hx : o.ExactSet) (hd : o.data = .set es ep t) (T1 : Tbl P w es1 t1 S1) {dummy : Bool} {R : Option Bool → Shared → Prop} (hR : ∀ h', Heap.SameBut a s.heap h' → SetM0 P w h' a S1 es1.size → R (some true) { s with heap := h' }) :
    wpAny (model P w) A (do
        storeSet a es1 t1
        if (!dummy && t1.tooFull) = true then do
            g (relayAll t1 es1 (SetTable.grown es1.size)).2.2
            storeSet a (relayAll t1 es1 (SetTable.grown es1.size)).1 (relayAll t1 es1 (SetTable.grown es1.size)).2.1
            pure (some true)
          else pure (some true)) R E s := by
  have at1 := store_at (es' := es1) (t' := t1) ho hd
  have sb := Heap.SameBut.update s.heap a (Obj.putSet es1 t1)
  refine wpAny_bind (wpAny_storeSet_of ho hd ?_ (fits_of_scanBound T1.few))
  split
  · have p2 := relayAll_perm t1 es1 (SetTable.grown es1.size)
    have T2 := T1.perm p2 (relayAll_fits t1 es1 (SetTable.grown es1.size)) (relayAll_ris t1 es1 (SetTable.grown es1.size)) (T1.led.imp id fun z => by rw [relayAll_led]; exact z)
    have sz2 : (relayAll t1 es1 (SetTable.grown es1.size)).1.size = es1.size := by rw [← Array.length_toList, p2.length_eq, Array.length_toList]
    refine wpAny_bind (hg _ _ _ (wpAny_bind (wpAny_storeSet_of at1 rfl ?_ (fits_of_scanBound T2.few))))
    exact wpAny_pure (hR _ (sb.trans (Heap.SameBut.update _ a _)) ⟨_, _, _, _, store_at at1 rfl, hx, rfl, sz2, T2⟩)
  · exact wpAny_pure (hR _ sb ⟨_, es1, _, t1, at1, hx, rfl, rfl, T1⟩)
theorem setM_hashed {k : Key} {x : Value} {Q : Bool → Shared → Prop} (hk : (mixKind P w).is k x = true) (hsc : x.scannable = true) (R : SetM0 P w s.heap a S n) (room : n + 1 < scanBound)
    (hQ : ∀ h', Heap.SameBut a s.heap h' → SetM0 P w h' a (fun j => S j || decide (j = k)) (if S k = true then n else n + 1) → Q (!S k) { s with heap := h' }) :
    wpAny (model P w) A (setAddHashed a x ((mixKind P w).hash k)) Q E s := by
  obtain ⟨o, es, ep, t, ho, hx, hd, hn, T⟩ := R
  unfold setAddHashed setAddHashedIn
  refine wpAny_holding (wpAny_bind (wpAny_setState_of ho hd T.fits ?_))
  dsimp only
  rw [byScan_of hsc T.few T.el]
  simp only [↓reduceIte]
  unfold setAddByScan
  refine wpAny_bind (wpAny_bind (wpAny_rule (wpAny_bind (wpAny_setScan_of hk ho hd T.fits T.el ?_))))
  cases found : List.findIdx? (fun e => (mixKind P w).is k e.2) es.toList with
  | some j =>
    dsimp only
    obtain ⟨hj, pj, _⟩ := List.findIdx?_eq_some_iff_getElem.mp found
    have old : S k = true := (T.mem k).mpr ⟨es.toList[j], List.getElem_mem hj, pj⟩
    have same : (fun i => S i || decide (i = k)) = S := funext fun i => by
      by_cases z : i = k
      · rw [z, old]; rfl
      · rw [decide_eq_false z, Bool.or_false]
    have q := hQ s.heap (Heap.SameBut.refl a s.heap) (by rw [same, if_pos old]; exact ⟨o, es, ep, t, ho, hx, hd, hn, T⟩)
    rw [old] at q
    exact wpAny_pure (wpAny_pure q)
  | none =>
    dsimp only
    have new : ¬ k ∈ es.toList.map elKey := fun z => by
      obtain ⟨e, he, q⟩ := (T.mem k).mp ((T.key k).mpr z)
      have c := List.findIdx?_eq_none_iff.mp found e he
      rw [q] at c
      cases c
    have no : S k = false := by
      cases q : S k with
      | false => rfl
      | true => exact absurd ((T.key k).mp q) new
    have told : ∀ (b : Bool) {s1 : Shared} {Q' : Unit → Shared → Prop}, Q' () s1 → wpAny (model P w) A (match b with | true => rule "set.scan.the-table-gave-way" | false => pure ()) Q' E s1 :=
      fun b s1 Q' q => by cases b <;> first | exact wpAny_pure q | exact wpAny_rule q
    have pm := layNew_perm t es ((mixKind P w).hash k) x
    rw [Array.toList_push] at pm
    have pc := pm.trans (List.perm_append_singleton _ _)
    have hf := layNew_fits t es ((mixKind P w).hash k) x
    have hr := layNew_ris t es ((mixKind P w).hash k) x T.ris
    have hl := layNew_led t es ((mixKind P w).hash k) x
    generalize layNew t es ((mixKind P w).hash k) x = Z at pm pc hf hr hl ⊢
    obtain ⟨es1, t1, dummy, gave⟩ := Z
    dsimp only at pm pc hf hr hl ⊢
    have sz : es1.size = n + 1 := by rw [← Array.length_toList, pc.length_eq, List.length_cons, Array.length_toList, hn]
    have pk : (es1.toList.map elKey).Perm (k :: es.toList.map elKey) := by
      have := pc.map elKey
      rw [List.map_cons, is_elKey (e := ((mixKind P w).hash k, x)) hk] at this
      exact this
    have T1 : Tbl P w es1 t1 (fun j => S j || decide (j = k)) := ⟨(T.el.push hk hsc).perm pm, mem_push_iff hk T.mem pm, pk.nodup_iff.mpr (List.nodup_cons.mpr ⟨new, T.nd⟩), by rw [sz]; exact room, hf, hr, T.led.imp id fun z => by rw [hl]; exact z⟩
    have fin : ∀ h', Heap.SameBut a s.heap h' → SetM0 P w h' a (fun j => S j || decide (j = k)) es1.size → Q true { s with heap := h' } := fun h' sb r => by
      have q := hQ h' sb
      rw [no] at q
      rw [sz] at r
      exact q r
    have off : Tbl P w es1 { t1 with plain := false } (fun j => S j || decide (j = k)) := { T1 with fits := SetTable.fits_plain_off hf }
    refine wpAny_bind (told _ ?_)
    split
    · refine wpAny_bind ?_
      rw [hashByValue_scannable 8 hsc]
      refine wpAny_pure ?_
      refine tbl_store (fun b s1 Q' q => by cases b <;> first | exact wpAny_pure q | exact wpAny_rule q) ho hx hd (t1 := _) (S1 := fun j => S j || decide (j = k)) ?_ fun h' sb r => ?_
      · split
        · exact T1
        · exact off
      · dsimp only
        exact wpAny_pure (fin h' sb r)
    · refine wpAny_bind (wpAny_pure ?_)
      simp only [↓reduceIte]
      refine tbl_store (fun b s1 Q' q => by cases b <;> first | exact wpAny_pure q | exact wpAny_rule q) ho hx hd T1 fun h' sb r => ?_
      dsimp only
      exact wpAny_pure (fin h' sb r)
end
end FB
set_option Elab.async false
set_option linter.all false
set_option maxRecDepth 100000
set_option maxHeartbeats 4000000
set_option exponentiation.threshold 3000
/-! Sets of ints and texts: made, filled, asked, sorted; {x}; gcd, lcm. -/
namespace FB
open PySem PySem.Spec PyProof.Rows L2 Evl
section
variable {P : Program} {w : World} {A : Around} {E : Value → Shared → Prop} {s : Shared} {a : Addr} {S : Key → Bool} {n : Nat}
theorem setM_fresh {h : Heap} : SetM0 P w (h.push { cls := .type "set", dict := none, data := .set #[] 0 (.fresh 0 0 (!w.params.followText "set-order")) }) h.objs.size (fun _ => false) 0 :=
  ⟨_, #[], 0, _, Heap.get?_push_size _ rfl, ⟨rfl, rfl, rfl⟩, rfl, rfl, ⟨fun e he => by simp at he, fun k => by simp, by simp, by decide, by rfl, List.Pairwise.nil, by
    show _ ∨ (!w.params.followText "set-order") = true
    cases w.params.followText "set-order" <;> simp⟩⟩
theorem setM_at {h h' : Heap} (R : SetM0 P w h a S n) (k : ∀ o, h.get? a = some o → h'.get? a = some o) : SetM0 P w h' a S n := by
  obtain ⟨o, es, ep, t, ho, r⟩ := R
  exact ⟨o, es, ep, t, k o ho, r⟩
theorem setM_add {k : Key} {x : Value} {Q : Value → Shared → Prop} (hk : (mixKind P w).is k x = true) (hsc : x.scannable = true) (R : SetM0 P w s.heap a S n) (room : n + 1 < scanBound)
    (q : ∀ h', Heap.SameBut a s.heap h' → SetM0 P w h' a (fun j => S j || decide (j = k)) (if S k = true then n else n + 1) → Q .none { s with heap := h', toks := s.toks + 1 }) :
    wpAny (model P w) A (call (.builtin "set.add") [.ref a, x]) Q E s := by
  refine wpAny_call_entry PySem.F.slot_set_add R.setOf.typeIs PySem.F.entry_set_add ?_ (PySem.F.args_set_add_2 _ _)
  unfold Builtin.«set.add» Builtin.Frozenset.oneOther; simp only [List.isEmpty_nil, bind_assoc]
  unfold Builtin.Frozenset.addrOf setAdd; refine wpAny_bind (wpAny_pure ?_)
  try dsimp only
  refine wpAny_bind (wpAny_pure ?_)
  try dsimp only
  refine wpAny_bind (wpAny_holding (wpAny_bind ((mixKind P w).pyHash hk (setM_hashed (s := { s with toks := s.toks + 1 }) hk hsc R room fun g sb r => ?_))))
  show wpAny (model P w) _ (ret Value.none) _ _ _
  exact wpAny_pure ⟨_, rfl, q g sb r⟩
/-- the members, sorted: ints -/
theorem setM_sortedI {Q : Value → Shared → Prop} (R : SetM0 P w s.heap a S n) (hh : A.handled = none) (hI : ∀ k, S k = true → ∃ i : Int, k = .inl i)
    (q : ∀ s' p (out : Array Value) (c : Nat) (ns : List Int), (∀ b o, s.heap.get? b = some o → s'.heap.get? b = some o) → s'.gens = s.gens → s'.os = s.os → s.heap.objs.size ≤ p →
      s'.heap.get? p = some (seqObj "list" out c) → IntsAre out.toList ns → ns.Pairwise (· < ·) → (∀ i : Int, i ∈ ns ↔ S (.inl i) = true) → ns.length = n → Q (.ref p) s') :
    wpAny (model P w) A (call (.builtin "sorted") [.ref a]) Q E s := by
  obtain ⟨o, es, ep, t, ho, hx, hd, hn, T⟩ := R
  have hlen : es.toList.length = n := by rw [Array.length_toList]; exact hn
  have few := T.few
  refine Calls.call_function_entry kind_sorted plain_sorted entry_sorted (args_sorted1 _) (show wpAny (model P w) _ (Builtin.«sorted» _) _ _ _ from ?_)
  unfold Builtin.«sorted»; refine wpAny_bind (m := checkCount "sorted" 1 1 _) (wpAny_pure (wpAny_bind (collect_set (A := A.in1) hh ⟨o, ho, hx.1, hd⟩ T.fits T.few T.ris T.led fun s1 vs k1 hz g1 o1 pm => ?_)))
  have vl : vs.length = n := by rw [pm.length_eq, List.length_map]; exact hlen
  have el : ∀ e ∈ es.toList, ∃ (i : Int) (tk : Tok), e.2 = .int i tk ∧ elKey e = .inl i := fun e he => by
    obtain ⟨⟨k, hk, _⟩, _⟩ := T.el e he
    obtain ⟨i, rfl⟩ := hI k ((T.mem k).mpr ⟨e, he, hk⟩)
    rcases keyIs_shape (show keyIs (.inl i) e.2 = true from hk) with ⟨j, tk, ek, ev⟩ | ⟨z, tk, ek, ev⟩
    · cases ek; exact ⟨i, tk, ev, is_elKey hk⟩
    · cases ek
  have hin : IntsAre vs (vs.map Builtin.Re.reRawOf) := ints_of vs fun v hv => by
    obtain ⟨e, he, rfl⟩ := List.mem_map.mp (pm.mem_iff.mp hv)
    obtain ⟨i, tk, ev, _⟩ := el e he
    exact ⟨i, tk, ev⟩
  have pk : (vs.map Builtin.Re.reRawOf).Perm (es.toList.map fun e => Builtin.Re.reRawOf e.2) := by
    have := pm.map Builtin.Re.reRawOf
    rwa [List.map_map] at this
  refine wpAny_bind (wpAny_newList ?_ (by rw [vl, ← hlen, sizeLine_eq, Array.length_toList]; unfold scanBound at few; omega))
  have oL : (s1.heap.push (seqObj "list" vs.toArray 0)).get? s1.heap.objs.size = some (seqObj "list" vs.toArray 0) := Heap.get?_push_size _ rfl
  refine wpAny_bind (wpAny_holding (wpAny_call_entry PyProof.Rows.slot_list_sort ⟨_, oL, rfl⟩ PyProof.Rows.entry_list_sort (list_sort_treeAny oL hin (by rw [vl, ← hlen, sizeLine_eq, Array.length_toList]; unfold scanBound at few; omega) fun out ns b1 b2 b3 => ⟨_, rfl, ?_⟩) (args_list_sort _)))
  obtain ⟨c, hc⟩ := sortedHeap_at (vs := vs) (out := out) oL
  have pn : ns.Perm (es.toList.map fun e => Builtin.Re.reRawOf e.2) := b2.trans pk
  have raw : ∀ e ∈ es.toList, elKey e = .inl (Builtin.Re.reRawOf e.2) := fun e he => by
    obtain ⟨i, tk, ev, ek⟩ := el e he
    rw [ek, ev]; rfl
  have mk : es.toList.map elKey = (es.toList.map fun e => Builtin.Re.reRawOf e.2).map Sum.inl := by
    rw [List.map_map]; exact List.map_congr_left fun e he => raw e he
  have nd : (es.toList.map fun e => Builtin.Re.reRawOf e.2).Nodup := by
    have := T.nd
    rw [mk] at this
    exact (List.pairwise_map.mp this).imp fun h e => h (by rw [e])
  refine wpAny_pure ⟨_, rfl, q _ s1.heap.objs.size out c ns (fun b u e => ?_) g1 o1 hz hc b1 (lt_of_le_nodup ns b3 (pn.nodup_iff.mpr nd)) (fun i => ?_) (by rw [pn.length_eq, List.length_map]; exact hlen)⟩
  · have e1 := k1 b u e
    have lb := Heap.lt_size e1
    show (sortedHeap (s1.heap.push (seqObj "list" vs.toArray 0)) s1.heap.objs.size vs out).get? b = some u
    rw [sortedHeap_old (Nat.ne_of_lt lb) (by rw [size_push']; exact Nat.lt_succ_of_lt lb)]; exact Heap.get?_push_of_some _ e1
  · rw [pn.mem_iff, T.key, mk]
    simp
theorem strs_of : ∀ (l : List Value), (∀ v ∈ l, ∃ k tk, v = Value.str k tk) → ∃ ss : List Str, StrsAre l ss ∧ ∀ z, z ∈ ss ↔ ∃ tk, Value.str z tk ∈ l
  | [], _ => ⟨[], .nil, fun z => by simp⟩
  | v :: l, h => by
    obtain ⟨k, tk, rfl⟩ := h v (List.mem_cons_self ..)
    obtain ⟨ss, h1, h2⟩ := strs_of l fun u hu => h u (List.mem_cons_of_mem _ hu)
    refine ⟨k :: ss, .cons k tk h1, fun z => ?_⟩
    rw [List.mem_cons, h2]
    constructor
    · rintro (rfl | ⟨t, ht⟩)
      · exact ⟨tk, List.mem_cons_self ..⟩
      · exact ⟨t, List.mem_cons_of_mem _ ht⟩
    · rintro ⟨t, ht⟩
      rcases List.mem_cons.mp ht with e | e
      · cases e; exact .inl rfl
      · exact .inr ⟨t, e⟩

/-- the members, sorted: texts -/
theorem setM_sortedS {Q : Value → Shared → Prop} (R : SetM0 P w s.heap a S n) (hh : A.handled = none) (hI : ∀ k, S k = true → ∃ z : Str, k = .inr z)
    (q : ∀ s' p (out : Array Value) (c : Nat) (zs : List Str), (∀ b o, s.heap.get? b = some o → s'.heap.get? b = some o) → s'.gens = s.gens → s'.os = s.os → s.heap.objs.size ≤ p →
      s'.heap.get? p = some (seqObj "list" out c) → StrsAre out.toList zs → sortedS zs = true → zs.Nodup → (∀ z : Str, z ∈ zs ↔ S (.inr z) = true) → zs.length = n → Q (.ref p) s') :
    wpAny (model P w) A (call (.builtin "sorted") [.ref a]) Q E s := by
  obtain ⟨o, es, ep, t, ho, hx, hd, hn, T⟩ := R
  have hlen : es.toList.length = n := by rw [Array.length_toList]; exact hn
  have few := T.few
  refine Calls.call_function_entry kind_sorted plain_sorted entry_sorted (args_sorted1 _) (show wpAny (model P w) _ (Builtin.«sorted» _) _ _ _ from ?_)
  unfold Builtin.«sorted»; refine wpAny_bind (m := checkCount "sorted" 1 1 _) (wpAny_pure (wpAny_bind (collect_set (A := A.in1) hh ⟨o, ho, hx.1, hd⟩ T.fits T.few T.ris T.led fun s1 vs k1 hz g1 o1 pm => ?_)))
  have vl : vs.length = n := by rw [pm.length_eq, List.length_map]; exact hlen
  have el : ∀ e ∈ es.toList, ∃ (z : Str) (tk : Tok), e.2 = .str z tk ∧ elKey e = .inr z := fun e he => by
    obtain ⟨⟨k, hk, _⟩, _⟩ := T.el e he
    obtain ⟨z, rfl⟩ := hI k ((T.mem k).mpr ⟨e, he, hk⟩)
    rcases keyIs_shape (show keyIs (.inr z) e.2 = true from hk) with ⟨j, tk, ek, ev⟩ | ⟨y, tk, ek, ev⟩
    · cases ek
    · cases ek; exact ⟨z, tk, ev, is_elKey hk⟩
  obtain ⟨ss, hS, hm⟩ := strs_of vs fun v hv => by
    obtain ⟨e, he, rfl⟩ := List.mem_map.mp (pm.mem_iff.mp hv)
    obtain ⟨z, tk, ev, _⟩ := el e he
    exact ⟨z, tk, ev⟩
  refine wpAny_bind (wpAny_newList ?_ (by rw [vl, ← hlen, sizeLine_eq, Array.length_toList]; unfold scanBound at few; omega))
  have oL : (s1.heap.push (seqObj "list" vs.toArray 0)).get? s1.heap.objs.size = some (seqObj "list" vs.toArray 0) := Heap.get?_push_size _ rfl
  refine wpAny_bind (wpAny_holding (wpAny_call_entry PyProof.Rows.slot_list_sort ⟨_, oL, rfl⟩ PyProof.Rows.entry_list_sort (list_sort_treeKAny strKind_oneLt oL hS.keysOf (fun v₁ v₂ rest e => keyKind_strs (by rw [← e]; exact hS)) (by rw [vl, ← hlen, sizeLine_eq, Array.length_toList]; unfold scanBound at few; omega) fun st' b1 b2 => ⟨_, rfl, ?_⟩) (args_list_sort _)))
  obtain ⟨zs, c1, c2, c3⟩ := sorted_out_str hS b1 b2
  obtain ⟨c, hc⟩ := sortedHeap_at (vs := vs) (out := (arrOf st').map (·.2)) oL
  have strV : ∀ {l : List Value} {ss : List Str}, StrsAre l ss → l.map (fun v => match v with | .str z _ => z | _ => ⟨#[]⟩) = ss := fun {l ss} h => by
    induction h with
    | nil => rfl
    | cons y t r ih => rw [List.map_cons, ih]
  have ps : ss.Perm (es.toList.map fun e => match e.2 with | .str z _ => z | _ => ⟨#[]⟩) := by
    have := pm.map (fun v => match v with | .str z _ => z | _ => (⟨#[]⟩ : Str))
    rw [strV hS, List.map_map] at this
    exact this
  have mk : es.toList.map elKey = (es.toList.map fun e => match e.2 with | .str z _ => z | _ => (⟨#[]⟩ : Str)).map Sum.inr := by
    rw [List.map_map]
    exact List.map_congr_left fun e he => by
      obtain ⟨z, tk, ev, ek⟩ := el e he
      rw [ek]
      show _ = Sum.inr (match e.2 with | .str z _ => z | _ => (⟨#[]⟩ : Str))
      rw [ev]
  have nd : (es.toList.map fun e => match e.2 with | .str z _ => z | _ => (⟨#[]⟩ : Str)).Nodup := by
    have := T.nd
    rw [mk] at this
    exact (List.pairwise_map.mp this).imp fun h e => h (by rw [e])
  have pz := c2.trans ps
  refine wpAny_pure ⟨_, rfl, q _ s1.heap.objs.size _ c zs (fun b u e => ?_) g1 o1 hz hc c1 c3 (pz.nodup_iff.mpr nd) (fun z => ?_) (by rw [pz.length_eq, List.length_map]; exact hlen)⟩
  · have e1 := k1 b u e
    have lb := Heap.lt_size e1
    show (sortedHeap (s1.heap.push (seqObj "list" vs.toArray 0)) s1.heap.objs.size vs _).get? b = some u
    rw [sortedHeap_old (Nat.ne_of_lt lb) (by rw [size_push']; exact Nat.lt_succ_of_lt lb)]; exact Heap.get?_push_of_some _ e1
  · rw [pz.mem_iff, T.key, mk]
    simp
end
/-! ### the rules -/
section
variable {X : Cx} {pins : List (Addr × Obj)} {σ : L2.St} {H : Hp} {s : Shared} {a : Addr} {S : Key → Bool} {n : Nat}
theorem setM_get {P : Program} {w : World} (hP : X.prog = P) (hw : X.w = w) (I : Inv X pins σ H s) (ha : H a = some (SetM P w a S n)) : SetM0 X.prog X.w s.heap a S n := by
  subst hP hw
  exact (I.hok a _ ha).1
theorem setM_ne {P : Program} {w : World} {o : HO} (h : o ≠ SetM P w a S n := by intro z; cases z) : o ≠ SetM P w a S n := h
/-- set() -/
def rSetNew (P : Program) (w : World) : List V → Hp → VK → Prop := fun xs H Q => xs = [] ∧ ∀ p, H p = none → Q (.ref p) (upd H p (SetM P w p (fun _ => false) 0))
theorem call_setM {P : Program} {w : World} (hP : X.prog = P := by rfl) (hw : X.w = w := by rfl) : CallR X (.type "set") (rSetNew P w) := by
  subst hP hw
  intro pins s σ H xs us Q I r ⟨ex, q⟩
  subst ex
  cases r
  exact setR_new fun _ => ⟨.ref _, upd H s.heap.objs.size (SetM X.prog X.w s.heap.objs.size (fun _ => false) 0), I.laid (t' := s.toks) (fun b u e => Heap.get?_push_of_some _ e) (Nat.le_refl _) (setM_obj setM_fresh), rfl, q _ (I.hok.fresh (Nat.le_refl _))⟩
/-- m.add(k) -/
def rSetAdd (P : Program) (w : World) : V → List V → Hp → VK → Prop := fun x xs H Q => ∃ (a : Addr) (k : Key) (S : Key → Bool) (n : Nat), x = V.ref a ∧ xs = [kV k] ∧ H a = some (SetM P w a S n) ∧ n + 1 < scanBound ∧
  Q .non (upd H a (SetM P w a (fun j => S j || decide (j = k)) (if S k = true then n else n + 1)))
theorem inv_add {k : Key} {h' : Heap} (I : Inv X pins σ H s) (ha : H a = some (SetM X.prog X.w a S n)) (sb : Heap.SameBut a s.heap h') (r : SetM0 X.prog X.w h' a (fun j => S j || decide (j = k)) (if S k = true then n else n + 1)) :
    Inv X pins σ (upd H a (SetM X.prog X.w a (fun j => S j || decide (j = k)) (if S k = true then n else n + 1))) { s with heap := h', toks := s.toks + 1 } :=
  I.write (e := a) (t' := s.toks + 1) (by rw [ha]; exact True.intro) (.inl rfl) (fun b u hb hu => (sb.2 b hb).trans hu) (let ⟨o, _, _, _, e, _⟩ := r; ⟨o, e⟩) (setM_obj r)
theorem mt_setAdd : MtR X "set.add" (rSetAdd X.prog X.w) := fun pins s σ H x xs v us Q I rx rxs ⟨a, k, S, n, ex, exs, ha, room, q⟩ => by
  subst ex exs
  cases rx
  cases rxs with
  | cons ry rt =>
    cases rt
    exact setM_add (kV_is ry) (key_scan ry) (setM_get rfl rfl I ha) room fun g sb r => ⟨.non, _, inv_add I ha sb r, rfl, q⟩
def tSetAdd (P : Program) (w : World) (to : TE) (t : TA) : TE := fun σ H Q => to σ H fun x H1 => (∃ a S n, x = V.ref a ∧ H1 a = some (SetM P w a S n)) ∧ t σ H1 fun xs H2 => rSetAdd P w x xs H2 Q
variable {o e : Expr} {es : List Expr} {to : TE} {t : TA} {ap cp : Pos}
theorem pe_setAdd {P : Program} {w : World} (ho : PE X o to) (ha : PA X (e :: es) t) (hP : X.prog = P := by rfl) (hw : X.w = w := by rfl) (h1 : attributeBase o "add" X.env (eval o X.env) = eval o X.env := by rfl)
    (h2 : ((backTo cp (starEach (e :: es) X.env)).all (fun x => !x.1) && (backToKw cp (keywordEach [] X.env)).all (fun x => x.1.isSome) && decide ((e :: es).length + ([] : List Keyword).length + (if ([] : List Keyword).isEmpty then 0 else 1) < 30)) = true := by rfl)
    (h3 : (ap.endLine == cp.line) = true := by rfl) (h4 : starEach (e :: es) X.env = (false, eval e X.env) :: starEach es X.env := by rfl) (h5 : (backTo cp (starEach es X.env)).any (·.1) = false := by rfl) : PE X (.Call (.Attribute o "add" ap) (e :: es) [] cp) (tSetAdd P w to t) := by
  subst hP hw
  refine ⟨fun pins s σ H Q I h => wpAny_Call_method_late h1 h2 h3 rfl (thn (ho.run pins s σ H _ I h) fun v s1 ⟨x, H1, I1, r1, ty, q1⟩ => ?_)⟩
  obtain ⟨a, S, n, rfl, hka⟩ := ty
  have R := (setM_get rfl rfl I1 hka).setOf
  cases r1
  refine ⟨"set", "set.add", PySem.F.plainAttrs_set, PySem.F.slot_set_add, PySem.F.type_set_add, R.typeIs, R.noDict, ?_⟩
  have run := ha.run cp pins s1 σ H1 _ I1 q1
  rw [h4] at run ⊢
  exact Calls.callWith_builtin (show (false || (backTo cp (starEach es X.env)).any (·.1)) = false by rw [h5]; rfl) (Calls.evalArgs_plain (thn run fun us s2 ⟨vs, H2, I2, r2, q2⟩ => mt_setAdd pins s2 σ H2 (.ref a) vs (.ref a) us Q I2 rfl r2 q2))
/-- k in m, k not in m -/
def rSetIn (P : Program) (w : World) (neg : Bool) : V → V → Hp → VK → Prop := fun x y H Q => ∃ (k : Key) (a : Addr) (S : Key → Bool) (n : Nat), x = kV k ∧ y = V.ref a ∧ H a = some (SetM P w a S n) ∧ Q (.bl (if neg then !S k else S k)) H
theorem op_inM {P : Program} {w : World} (hP : X.prog = P := by rfl) (hw : X.w = w := by rfl) : OpR X (compareOp .In) (rSetIn P w false) := by
  subst hP hw
  intro pins s σ H x y v u Q I rx ry ⟨k, a, S, n, ex, ey, ha, q⟩
  subst ex ey
  cases ry
  exact wpAny_inSet_of (kV_is rx) (key_scan rx) (setM_get rfl rfl I ha).setOf ⟨.bl (S k), H, I.tok _, rfl, q⟩
/-- sorted(m): ints; texts -/
def rSortM (P : Program) (w : World) : List V → Hp → VK → Prop := fun vs H Q => ∃ (a : Addr) (S : Key → Bool) (n : Nat), vs = [V.ref a] ∧ H a = some (SetM P w a S n) ∧ n ≤ 1000 ∧
  (((∀ k, S k = true → ∃ i : Int, k = .inl i) ∧ ∀ (ns : List Int) (p : Addr), ns.Pairwise (· < ·) → (∀ i : Int, i ∈ ns ↔ S (.inl i) = true) → ns.length = n → H p = none → Q (.ref p) (upd H p (.lst (ns.map V.int)))) ∨
   ((∀ k, S k = true → ∃ z : Str, k = .inr z) ∧ ∀ (zs : List Str) (p : Addr), sortedS zs = true → zs.Nodup → (∀ z : Str, z ∈ zs ↔ S (.inr z) = true) → zs.length = n → H p = none → Q (.ref p) (upd H p (.lst (zs.map V.str)))))
theorem call_sortM {P : Program} {w : World} (hc : X.calm = true) (hP : X.prog = P := by rfl) (hw : X.w = w := by rfl) : CallR X (.builtin "sorted") (rSortM P w) := by
  subst hP hw
  intro pins s σ H vs us Q I r ⟨a, S, n, ex, ha, hn, hq⟩
  subst ex
  rw [Vals.ref1 r]
  have lay : ∀ (s' : Shared) (p : Nat) (out : Array Value) (c : Nat) (ys : List V), (∀ b o, s.heap.get? b = some o → s'.heap.get? b = some o) → s'.gens = s.gens → s'.os = s.os → s.heap.objs.size ≤ p →
      s'.heap.get? p = some (seqObj "list" out c) → ys.length ≤ 1000 → Vals ys out.toList → (H p = none → Q (.ref p) (upd H p (.lst ys))) → EP X pins σ Q (.ref p) s' := by
    intro s' p out c ys k g o hp hg hl hv q
    have hl2 : ys.length ≤ sizeLine := by rw [sizeLine_eq]; omega
    have hn : H p = none := I.hok.fresh hp
    have J : Inv X pins σ (upd H p (.lst ys)) { s with heap := s'.heap, gens := s'.gens, drawn := s'.drawn, toks := s'.toks } := I.call (ch := []) (Un.laid k hp hn) (I.hok.laid k hp ⟨hl2, out.toList, c, hv, hg⟩) (by rw [g]; exact I.bare) (fun _ z => nomatch z)
    have e : s' = { s with heap := s'.heap, gens := s'.gens, drawn := s'.drawn, toks := s'.toks } := by
      cases s'; cases s; cases o; rfl
    rw [e]
    exact ⟨.ref p, _, J, rfl, q hn⟩
  rcases hq with ⟨hI, q⟩ | ⟨hI, q⟩
  · exact setM_sortedI (setM_get rfl rfl I ha) (I.ok.hd hc) hI fun s' p out c ns k g o hp hg hi hs hm hl => lay s' p out c (ns.map V.int) k g o hp hg (by rw [List.length_map]; omega) (vals_of_ints hi) fun hn => q ns p hs hm hl hn
  · exact setM_sortedS (setM_get rfl rfl I ha) (I.ok.hd hc) hI fun s' p out c zs k g o hp hg hi hs nd hm hl => lay s' p out c (zs.map V.str) k g o hp hg (by rw [List.length_map]; omega) (vals_of_strs hi) fun hn => q zs p hs nd hm hl hn
/-- {x} -/
def tSet1 (P : Program) (w : World) (t : TE) : TE := fun σ H Q => ∀ p, H p = none → t σ (upd H p (SetM P w p (fun _ => false) 0)) fun x H1 => ∃ k : Key, x = kV k ∧ H1 p = some (SetM P w p (fun _ => false) 0) ∧ Q (.ref p) (upd H1 p (SetM P w p (fun j => decide (j = k)) 1))
theorem newSet_at {P : Program} {w : World} {A : Around} {E : Value → Shared → Prop} {Q : Value → Shared → Prop} (q : Q (.ref s.heap.objs.size) { s with heap := s.heap.push { cls := .type "set", dict := none, data := .set #[] 0 (.fresh 0 0 (!w.params.followText "set-order")) } }) :
    wpAny (model P w) A (newSet (.type "set")) Q E s := by
  unfold newSet
  unfold setsByText
  refine wpAny_bind (wpAny_bind (wpAny_askSetting (wpAny_pure ?_)))
  dsimp only
  exact wpAny_newObj_type q
theorem pe_set1 {P : Program} {w : World} {te : TE} {ps : Pos} (h : PE X e te) (hcd : PySem.W.kdsCode X.K X.env.code = true) (hP : X.prog = P := by rfl) (hw : X.w = w := by rfl) (hs : PySem.W.kdsPlain e = true := by rfl) : PE X (.Set [e] 0 ps) (tSet1 P w te) := by
  subst hP hw
  refine ⟨fun pins s σ H Q I hq => ?_⟩
  rw [arm_eval_Set]
  refine wpAny_bind (wpAny_standAt (wpAny_bind (PySem.W.kds_main I.kIn hcd fun b => ?_)))
  rw [PySem.W.kds_star [e] (by rw [List.all_cons, hs]; rfl), arm_evalEach_cons]
  show wpAny (model X.prog X.w) X.A (setDisplay (displayRoad 0 [e]) b [(false, eval e X.env >>= fun v => standAt ps >>= fun _ => pure v)]) _ _ s
  unfold setDisplay
  have road : displayRoad 0 [e] = .oneByOne := by unfold displayRoad; simp
  rw [road]
  rw [if_neg (show ¬ ((DisplayRoad.oneByOne == DisplayRoad.constants) = true) from by decide)]
  refine wpAny_bind (newSet_at ?_)
  dsimp only
  simp only [List.length_cons, List.length_nil, List.findIdx?_cons, List.findIdx?_nil, Option.getD_none, List.take_succ_cons, List.take_zero, List.map_cons, List.map_nil, List.drop_succ_cons, List.drop_zero, List.drop_nil, List.take_nil]
  rw [show (if 0 + 1 > 30 then 0 else ((if false = true then some 0 else Option.map (fun i => i + 1) none) : Option Nat).getD (0 + 1)) = 1 from rfl, List.take_succ_cons, List.take_zero, List.drop_succ_cons, List.drop_zero, List.map_cons, List.map_nil, List.forIn_nil]
  have fresh : H s.heap.objs.size = none := I.hok.fresh (Nat.le_refl _)
  have I0 : Inv X pins σ (upd H s.heap.objs.size (SetM X.prog X.w s.heap.objs.size (fun _ => false) 0)) { s with heap := s.heap.push { cls := .type "set", dict := none, data := .set #[] 0 (.fresh 0 0 (!X.w.params.followText "set-order")) } } :=
    I.laid (t' := s.toks) (fun b u e => Heap.get?_push_of_some _ e) (Nat.le_refl _) (setM_obj setM_fresh)
  refine wpAny_bind (wpAny_holding (wpAny_bind (PySem.W.kds_all ps [e] _ _ (thn (h.run pins _ σ _ _ I0 (hq _ fresh)) fun v s1 ⟨x, H1, I1, r1, k, ex, hm, q⟩ => ?_))))
  subst ex
  refine wpAny_bind (wpAny_holding ?_)
  rw [List.forIn_cons]
  have R := setM_get rfl rfl I1 hm
  refine wpAny_bind (wpAny_bind (wpAny_bind ?_))
  unfold setAdd; refine wpAny_holding (wpAny_bind ((mixKind X.prog X.w).pyHash (kV_is r1) (setM_hashed (s := { s1 with toks := s1.toks + 1 }) (kV_is r1) (key_scan r1) R (by decide) fun g sb r => ?_)))
  have J := inv_add I1 hm sb r
  have eS : (fun j => (fun _ : Key => false) j || decide (j = k)) = fun j => decide (j = k) := by funext j; simp
  rw [show (if (fun _ : Key => false) k = true then 0 else 0 + 1) = 1 from rfl, eS] at J
  refine wpAny_pure ?_
  dsimp only
  rw [List.forIn_nil]
  refine wpAny_pure ?_
  rw [if_neg (show ¬ ((DisplayRoad.oneByOne == DisplayRoad.unsure) = true) from by decide)]
  exact wpAny_pure (wpAny_bind (wpAny_pure (wpAny_pure (wpAny_pure ⟨.ref _, _, J, rfl, q⟩))))
/-! ### readings -/
section
variable {P : Program} {w : World} {H : Hp} {Q : VK} {a : Addr} {S : Key → Bool} {n : Nat} {k : Key}
theorem x_setNew (q : ∀ p H', H p = none → Ex H H' → H' p = some (SetM P w p (fun _ => false) 0) → Q (.ref p) H') : rSetNew P w [] H Q := ⟨rfl, fun p hp => q p _ hp (Ex.new hp) upd_same⟩
def rSetAddI (P : Program) (w : World) (x : V) (H : Hp) : Prop := ∃ a S n, x = V.ref a ∧ H a = some (SetM P w a S n)
theorem x_tSetAdd {to : TE} {t : TA} {σ : L2.St} : tSetAdd P w to t σ H Q = to σ H fun x H1 => rSetAddI P w x H1 ∧ t σ H1 fun xs H2 => rSetAdd P w x xs H2 Q := rfl
theorem x_setIs (h : H a = some (SetM P w a S n)) : rSetAddI P w (.ref a) H := ⟨a, S, n, rfl, h⟩
theorem x_setAdd (h : H a = some (SetM P w a S n)) (hn : n < 1000) (q : ∀ H', (∀ x o, x ≠ a → H x = some o → H' x = some o) → (∀ x, x ≠ a → H' x = none → H x = none) → H' a = some (SetM P w a (fun j => S j || decide (j = k)) (if S k = true then n else n + 1)) → Q .non H') :
    rSetAdd P w (.ref a) [kV k] H Q :=
  ⟨a, k, S, n, rfl, rfl, h, by unfold scanBound; omega, q _ (fun x o hx e => by rw [upd_ne hx]; exact e) (fun x hx e => by rw [upd_ne hx] at e; exact e) upd_same⟩
theorem x_setIn {neg : Bool} (h : H a = some (SetM P w a S n)) (q : Q (.bl (if neg then !S k else S k)) H) : rSetIn P w neg (kV k) (.ref a) H Q := ⟨k, a, S, n, rfl, rfl, h, q⟩
theorem x_sortMI (h : H a = some (SetM P w a S n)) (hn : n ≤ 1000) (hI : ∀ k, S k = true → ∃ i : Int, k = .inl i)
    (q : ∀ (ns : List Int) (p : Addr) (H' : Hp), ns.Pairwise (· < ·) → (∀ i : Int, i ∈ ns ↔ S (.inl i) = true) → ns.length = n → H p = none → Ex H H' → H' p = some (.lst (ns.map V.int)) → Q (.ref p) H') : rSortM P w [.ref a] H Q :=
  ⟨a, S, n, rfl, h, hn, .inl ⟨hI, fun ns p h1 h2 h3 h4 => q ns p _ h1 h2 h3 h4 (Ex.new h4) upd_same⟩⟩
theorem x_sortMS (h : H a = some (SetM P w a S n)) (hn : n ≤ 1000) (hI : ∀ k, S k = true → ∃ z : Str, k = .inr z)
    (q : ∀ (zs : List Str) (p : Addr) (H' : Hp), sortedS zs = true → zs.Nodup → (∀ z : Str, z ∈ zs ↔ S (.inr z) = true) → zs.length = n → H p = none → Ex H H' → H' p = some (.lst (zs.map V.str)) → Q (.ref p) H') : rSortM P w [.ref a] H Q :=
  ⟨a, S, n, rfl, h, hn, .inr ⟨hI, fun zs p h1 h2 h3 h4 h5 => q zs p _ h1 h2 h3 h4 h5 (Ex.new h5) upd_same⟩⟩
/-- {x}, x: it gets its item -/
def rSet1 (P : Program) (w : World) (p : Addr) (x : V) (H1 : Hp) (Q : VK) : Prop := ∃ k : Key, x = kV k ∧ H1 p = some (SetM P w p (fun _ => false) 0) ∧ Q (.ref p) (upd H1 p (SetM P w p (fun j => decide (j = k)) 1))
theorem x_tSet1I {i : Int} {σ : L2.St} (q : ∀ p H', H p = none → Ex H H' → H' p = some (SetM P w p (fun j => decide (j = (.inl i : Key))) 1) → Q (.ref p) H') : tSet1 P w (tC (.int i)) σ H Q := fun p hp =>
  ⟨.inl i, rfl, upd_same, by rw [upd_upd]; exact q p _ hp (Ex.new hp) upd_same⟩
end
end
/-! ### gcd and lcm, numbers of any size that stay small enough -/
section
variable {X : Cx}
def rGcdU (vs : List V) (H : Hp) (Q : VK) : Prop := ∃ a b : Int, vs = [.int a, .int b] ∧ Q (.int ((Nat.gcd a.natAbs b.natAbs : Nat) : Int)) H
theorem call_gcdU : CallR X (.builtin "math.gcd") rGcdU := cr_gcd
def rLcmU (vs : List V) (H : Hp) (Q : VK) : Prop := ∃ a b : Nat, vs = [.int a, .int b] ∧ a < 2 ^ 1000 ∧ b < 2 ^ 1000 ∧ Q (.int ((Nat.lcm a b : Nat) : Int)) H
theorem call_lcmU : CallR X (.builtin "math.lcm") rLcmU := by
  intro pins s σ H vs us Q I r ⟨a, b, ex, ha, hb, q⟩
  subst ex
  obtain ⟨t, u, rfl⟩ := Vals.int2 r
  have l1 : (max 1 (a : Int).natAbs).log2 ≤ 999 := PySem.W.mg_log (by show max 1 (a : Int).natAbs < 2 ^ 1000; rw [Int.natAbs_natCast]; exact Nat.max_lt.mpr ⟨by decide, ha⟩)
  have l2 : (max (a : Int).natAbs (b : Int).natAbs).log2 ≤ 999 := PySem.W.mg_log (by show max (a : Int).natAbs (b : Int).natAbs < 2 ^ 1000; rw [Int.natAbs_natCast, Int.natAbs_natCast]; exact Nat.max_lt.mpr ⟨ha, hb⟩)
  have e1 : (Nat.lcm 1 (a : Int).natAbs).lcm (b : Int).natAbs = Nat.lcm a b := by rw [PySem.W.mc_lcm_one, Int.natAbs_natCast, Int.natAbs_natCast]
  have hs : ((((Nat.lcm 1 (a : Int).natAbs).lcm (b : Int).natAbs : Nat) : Int)).natAbs.log2 < bitsLine := by
    rw [e1, Int.natAbs_natCast]
    have : Nat.lcm a b < 2 ^ 2000 := Nat.lt_of_le_of_lt (PySem.W.mc_lcm_le a b) (by
      rw [show (2 : Nat) ^ 2000 = 2 ^ 1000 * 2 ^ 1000 by rw [← Nat.pow_add]]
      exact Nat.mul_lt_mul'' ha hb)
    have h3 : (Nat.lcm a b).log2 ≤ 1999 := PySem.W.mg_log this
    have : bitsLine = 134217728 := by decide
    omega
  have m := PySem.W.mg_run_lcm (a : Int) t (b : Int) u (by omega) (by omega) hs
  rw [e1] at m
  exact PySem.call_function_meets PySem.W.MGF.kind_lcm PySem.W.MGF.plain_lcm PySem.W.MGF.entry_lcm (PySem.W.MGF.args_lcm _ _) m.meets ⟨.int _, H, I.tok _, ⟨_, rfl⟩, q⟩
end
end FB
set_option Elab.async false
set_option linter.all false
set_option maxRecDepth 100000
set_option maxHeartbeats 4000000
/-! zip of a tuple and a list: each side by a flag (a tuple: true). -/
namespace FB
open PySem PySem.Spec PyProof.Rows L2 Evl
def ItAt (tp : Bool) (h : Heap) (i l : Addr) (k : Nat) : Prop := match tp with | true => h.IsTupleIter i l k | false => h.IsListIter i l k
def CoAt (tp : Bool) (h : Heap) (l : Addr) (us : Array Value) : Prop := match tp with | true => h.IsTuple l us | false => h.IsList l us
section
variable {tp : Bool} {h h' : Heap} {i l c : Addr} {k : Nat} {us : Array Value}
theorem ItAt.but (t : ItAt tp h i l k) (e : Heap.ExtBut c h h') (n : i ≠ c) : ItAt tp h' i l k := by
  cases tp
  · exact Heap.IsListIter.extBut t e n
  · exact Heap.IsTupleIter.extBut t e n
theorem CoAt.but (t : CoAt tp h l us) (e : Heap.ExtBut c h h') (n : l ≠ c) : CoAt tp h' l us := by
  cases tp
  · exact Heap.IsList.extBut t e n
  · exact Heap.IsTuple.extBut t e n
theorem ItAt.kept (t : ItAt tp h i l k) (e : ∀ o, h.get? i = some o → h'.get? i = some o) : ItAt tp h' i l k := by
  cases tp
  · exact Heap.IsListIter.at t e
  · exact Heap.IsTupleIter.at t e
theorem ItAt.ob (t : ItAt tp h i l k) : ∃ o, h.get? i = some o ∧ ∀ v, o.data ≠ .cell v := by
  cases tp
  · obtain ⟨o, e, _, d⟩ := t
    exact ⟨o, e, fun v z => by rw [d] at z; cases z⟩
  · obtain ⟨o, e, _, d⟩ := t
    exact ⟨o, e, fun v z => by rw [d] at z; cases z⟩
theorem CoAt.ob (t : CoAt tp h l us) : ∃ o, h.get? l = some o := by
  cases tp
  · obtain ⟨o, e, _⟩ := t
    exact ⟨o, e⟩
  · obtain ⟨o, e, _⟩ := t
    exact ⟨o, e⟩
end
section
variable {P : Program} {w : World} {A : Around} {E : Value → Shared → Prop} {s : Shared} {tp tq : Bool} {i l : Addr} {k : Nat} {us : Array Value} {u : Value}
theorem nx_item {Q : Value → Shared → Prop} (t : ItAt tp s.heap i l k) (co : CoAt tp s.heap l us) (hu : us[k]? = some u) (q : ∀ h', ItAt tp h' i l (k + 1) → Heap.SameBut i s.heap h' → Q u { s with heap := h' }) :
    wpAny (model P w) A (Builtin.SmallTypes.nextOf (.ref i)) Q E s := by
  cases tp
  · exact wpAny_nextOf_list_item t co hu q
  · exact RZ.nextOf_tuple_item t co hu q
theorem nx_end {Q : Value → Shared → Prop} (hd : A.handled = none) (t : ItAt tp s.heap i l k) (co : CoAt tp s.heap l us) (hu : us[k]? = none)
    (q : ∀ h' e, Heap.ExtBut i s.heap h' → (∃ o, h'.get? e = some o ∧ o.cls = .type "StopIteration") → E (.ref e) { s with heap := h' }) : wpAny (model P w) A (Builtin.SmallTypes.nextOf (.ref i)) Q E s := by
  cases tp
  · exact wpAny_nextOf_list_end hd t co hu q
  · exact RZ.nextOf_tuple_end hd t co hu q
variable {z a1 a2 j l2 : Addr} {k2 : Nat} {ws : Array Value} {v x y : Value}
/-- what stands around a zip object: its two iterators and the tuple that it hands out -/
structure Zp (tp tq : Bool) (h : Heap) (z a1 a2 i j l l2 : Addr) (k k2 : Nat) (us ws : Array Value) (x y f : Value) : Prop where
  ap : ZipApart z a1 a2 i j l l2
  zip : IsZip h z a1 a2 f
  its : IsPair h a1 (.ref i) (.ref j)
  out : IsPair h a2 x y
  one : ItAt tp h i l k
  two : ItAt tq h j l2 k2
  co : CoAt tp h l us
  co2 : CoAt tq h l2 ws

section
variable {f : Value} {h : Heap}
theorem Zp.lz (Z : Zp tp tq h z a1 a2 i j l l2 k k2 us ws x y f) : z < h.objs.size := Heap.lt_size Z.zip
end
theorem zx_free (kz : IsZip s.heap z a1 a2 .none) {Q : Bool → Shared → Prop} (q : Q true s) : wpAny (model P w) A (Builtin.SmallTypes.ownedTupleIsFree (.ref z)) Q E s := by
  unfold Builtin.SmallTypes.ownedTupleIsFree; exact wpAny_bind (wpAny_field (x := .none) kz rfl rfl (wpAny_pure q))
theorem zx_hand {g : Heap} {n : Nat} (kz : IsZip g z a1 a2 .ellipsis) (hs : s.heap = g.push { cls := .type "tuple", data := .seq #[u, v] }) (hn : g.objs.size = n) {Q : Unit → Shared → Prop}
    (q : ∀ g8, IsZip g8 z a1 a2 (rawInt n) → (∀ c o, c ≠ z → g.get? c = some o → g8.get? c = some o) → IsPair g8 n u v → g8.objs.size = n + 1 → Q () { s with heap := g8 }) :
    wpAny (model P w) A (Builtin.SmallTypes.ownedTupleHandOut (.ref z) (.ref n)) Q E s := by
  subst hn
  unfold Builtin.SmallTypes.ownedTupleHandOut; refine wpAny_bind (wpAny_setField_rec (by rw [hs]; exact Heap.get?_push_of_some _ kz) (by simp) fun g7 kz7 e7 => ?_)
  refine wpAny_setField_rec (show IsZip g7 z a1 a2 (rawInt g.objs.size) from kz7) (by simp) fun g8 kz8 e8 => ?_
  have lift : ∀ c o, c ≠ z → g.get? c = some o → g8.get? c = some o := fun c o n e => e8.extBut _ _ n (e7.extBut _ _ n (by rw [hs]; exact Heap.get?_push_of_some _ e))
  have nz : g.objs.size ≠ z := Nat.ne_of_gt (Heap.lt_size kz)
  exact q g8 kz8 lift (e8.extBut _ _ nz (e7.extBut _ _ nz (by rw [hs]; exact Heap.get?_push_size _ rfl))) (by rw [e8.1, e7.1, hs, Heap.size_push])
/-- both sides have an item -/
theorem zx_item (Z : Zp tp tq s.heap z a1 a2 i j l l2 k k2 us ws x y .none) (hu : us[k]? = some u) (hv : ws[k2]? = some v) {Q : Value → Shared → Prop}
    (q : ∀ h', Zp tp tq h' z a1 a2 i j l l2 (k + 1) (k2 + 1) us ws u v (rawInt s.heap.objs.size) → IsPair h' s.heap.objs.size u v → h'.objs.size = s.heap.objs.size + 1 →
      (∀ c o, c ≠ z → c ≠ a2 → c ≠ i → c ≠ j → s.heap.get? c = some o → h'.get? c = some o) → Q (.ref s.heap.objs.size) { s with heap := h' }) :
    wpAny (model P w) A (Builtin.«zip.__next__» ⟨[.ref z], []⟩) (fun fin s' => ∃ r, fin = .done (.ret r) ∧ Q r s') E s := by
  have ap := Z.ap
  show wpAny (model P w) A (field (.ref z) 2 >>= _) _ E s
  refine wpAny_bind (wpAny_field (x := .bool false) Z.zip rfl rfl ?_)
  show wpAny (model P w) A (field (.ref z) 3 >>= _) _ E s
  refine wpAny_bind (wpAny_field (x := .ref a1) Z.zip rfl rfl (wpAny_bind (wpAny_seqItems Z.its rfl ?_)))
  show wpAny (model P w) A (Builtin.SmallTypes.ownedTupleIsFree (.ref z) >>= _) _ E s
  refine wpAny_bind (zx_free Z.zip ?_)
  simp only [if_true]
  refine wpAny_bind (wpAny_rule (wpAny_bind (wpAny_field (x := .ref a2) Z.zip rfl rfl (wpAny_bind (wpAny_setField_rec Z.zip (by simp) fun g1 kz1 e1 => ?_)))))
  have kz1 : IsZip g1 z a1 a2 .ellipsis := kz1
  refine wpAny_bind ?_
  simp only [List.zipIdx_cons, List.zipIdx_nil, List.forIn_cons, List.forIn_nil]
  -- the first side
  refine wpAny_bind (wpAny_bind (wpAny_onRaise (show wpAny (model P w) A (Builtin.SmallTypes.nextOf (.ref i) >>= _) _ _ _ from wpAny_bind (nx_item (Z.one.but e1.extBut ap.i1z) (Z.co.but e1.extBut ap.l1z) hu fun g2 t2 e2 => wpAny_pure ?_))))
  have ko2 : IsPair g2 a2 x y := e2.extBut _ _ ap.TOi1 (e1.extBut _ _ ap.TOz Z.out)
  refine wpAny_bind (wpAny_seqItems ko2 rfl (wpAny_bind (wpAny_updateSeq_pair ko2 fun g3 ko3 e3 => ?_)))
  have ko3 : IsPair g3 a2 u y := ko3
  refine wpAny_bind (wpAny_letGo (wpAny_pure ?_))
  -- the second side
  have two3 : ItAt tq g3 j l2 k2 := ((Z.two.but e1.extBut ap.i2z).but e2.extBut ap.i12.symm).but e3.extBut ap.TOi2.symm
  have cw3 : CoAt tq g3 l2 ws := ((Z.co2.but e1.extBut ap.l2z).but e2.extBut ap.l2i1).but e3.extBut ap.l2TO
  refine wpAny_bind (wpAny_bind (wpAny_onRaise (show wpAny (model P w) A (Builtin.SmallTypes.nextOf (.ref j) >>= _) _ _ _ from wpAny_bind (nx_item two3 cw3 hv fun g4 t4 e4 => wpAny_pure ?_))))
  have ko4 : IsPair g4 a2 u y := e4.extBut _ _ ap.TOi2 ko3
  refine wpAny_bind (wpAny_seqItems ko4 rfl (wpAny_bind (wpAny_updateSeq_pair ko4 fun g5 ko5 e5 => ?_)))
  have ko5 : IsPair g5 a2 u v := ko5
  refine wpAny_bind (wpAny_letGo (wpAny_pure (wpAny_pure (wpAny_bind (wpAny_seqItems ko5 rfl (wpAny_bind (wpAny_newTuple ?_)))))))
  have size5 : g5.objs.size = s.heap.objs.size := by rw [e5.1, e4.1, e3.1, e2.1, e1.1]
  have kz5 : IsZip g5 z a1 a2 .ellipsis := e5.extBut _ _ ap.TOz.symm (e4.extBut _ _ ap.i2z.symm (e3.extBut _ _ ap.TOz.symm (e2.extBut _ _ ap.i1z.symm kz1)))
  have far : ∀ c o, c ≠ z → c ≠ a2 → c ≠ i → c ≠ j → s.heap.get? c = some o → g5.get? c = some o := fun c o n1 n2 n3 n4 e =>
    e5.extBut _ _ n2 (e4.extBut _ _ n4 (e3.extBut _ _ n2 (e2.extBut _ _ n3 (e1.extBut _ _ n1 e))))
  have one5 : ItAt tp g5 i l (k + 1) := ((t2.but e3.extBut ap.TOi1.symm).but e4.extBut ap.i12).but e5.extBut ap.TOi1.symm
  have two5 : ItAt tq g5 j l2 (k2 + 1) := t4.but e5.extBut ap.TOi2.symm
  have co5 : CoAt tp g5 l us := ((((Z.co.but e1.extBut ap.l1z).but e2.extBut ap.l1i1).but e3.extBut ap.l1TO).but e4.extBut ap.l1i2).but e5.extBut ap.l1TO
  have cw5 : CoAt tq g5 l2 ws := (cw3.but e4.extBut ap.l2i2).but e5.extBut ap.l2TO
  show wpAny (model P w) A (Builtin.SmallTypes.ownedTupleHandOut (.ref z) (.ref g5.objs.size) >>= _) _ _ _
  refine wpAny_bind (zx_hand kz5 rfl rfl fun g8 kz8 lift new8 size8 => ?_)
  have kept : ∀ {c o}, c ≠ z → g5.get? c = some o → g8.get? c = some o := fun n e => lift _ _ n e
  have coK : ∀ {b : Bool} {l : Addr} {us : Array Value}, l ≠ z → CoAt b g5 l us → CoAt b g8 l us := fun {b l us} n t => by
    cases b
    · exact Heap.IsList.at t fun o e => lift _ _ n e
    · exact Heap.IsTuple.at t fun o e => lift _ _ n e
  have Z8 : Zp tp tq g8 z a1 a2 i j l l2 (k + 1) (k2 + 1) us ws u v (rawInt s.heap.objs.size) :=
    ⟨ap, by rw [← size5]; exact kz8, kept ap.TIz (far _ _ ap.TIz ap.TITO ap.TIi1 ap.TIi2 Z.its), kept ap.TOz ko5, one5.kept fun o e => lift _ _ ap.i1z e, two5.kept fun o e => lift _ _ ap.i2z e, coK ap.l1z co5, coK ap.l2z cw5⟩
  have fin := q g8 Z8 (by rw [← size5]; exact new8) (by rw [size8, size5]) fun c o n1 n2 n3 n4 e => lift c o n1 (far c o n1 n2 n3 n4 e)
  rw [← size5] at fin
  exact wpAny_pure ⟨_, rfl, fin⟩
/-- one side has ended -/
theorem zx_end (hd : A.handled = none) (Z : Zp tp tq s.heap z a1 a2 i j l l2 k k2 us ws x y .none) (hn : us[k]? = none ∨ ws[k2]? = none) {Q : Fin → Shared → Prop}
    (q : ∀ h' e, (∀ c o, c ≠ z → c ≠ a2 → c ≠ i → c ≠ j → s.heap.get? c = some o → h'.get? c = some o) → (∃ o, h'.get? e = some o ∧ o.cls = .type "StopIteration") → E (.ref e) { s with heap := h' }) :
    wpAny (model P w) A (Builtin.«zip.__next__» ⟨[.ref z], []⟩) Q E s := by
  have ap := Z.ap
  show wpAny (model P w) A (field (.ref z) 2 >>= _) _ E s
  refine wpAny_bind (wpAny_field (x := .bool false) Z.zip rfl rfl ?_)
  show wpAny (model P w) A (field (.ref z) 3 >>= _) _ E s
  refine wpAny_bind (wpAny_field (x := .ref a1) Z.zip rfl rfl (wpAny_bind (wpAny_seqItems Z.its rfl ?_)))
  show wpAny (model P w) A (Builtin.SmallTypes.ownedTupleIsFree (.ref z) >>= _) _ E s
  refine wpAny_bind (zx_free Z.zip ?_)
  simp only [if_true]
  refine wpAny_bind (wpAny_rule (wpAny_bind (wpAny_field (x := .ref a2) Z.zip rfl rfl (wpAny_bind (wpAny_setField_rec Z.zip (by simp) fun g1 kz1 e1 => ?_)))))
  have kz1 : IsZip g1 z a1 a2 .ellipsis := kz1
  refine wpAny_bind ?_
  simp only [List.zipIdx_cons, List.zipIdx_nil, List.forIn_cons, List.forIn_nil]
  cases hk : us[k]? with
  | none =>
    refine wpAny_bind (wpAny_bind (wpAny_onRaise (show wpAny (model P w) A (Builtin.SmallTypes.nextOf (.ref i) >>= _) _ _ _ from wpAny_bind (nx_end hd (Z.one.but e1.extBut ap.i1z) (Z.co.but e1.extBut ap.l1z) hk fun g2 e e2 ⟨oe, hoe, hce⟩ => ?_))))
    have kz2 : IsZip g2 z a1 a2 .ellipsis := e2 _ _ ap.i1z.symm kz1
    have ne : e ≠ z := fun c => by subst c; rw [kz2] at hoe; cases hoe; simp at hce
    exact wpAny_setField_rec kz2 (by simp) fun g3 _ e3 => q g3 e (fun c o n1 _ n3 _ t => e3.extBut _ _ n1 (e2 _ _ n3 (e1.extBut _ _ n1 t))) ⟨oe, e3.extBut _ _ ne hoe, hce⟩
  | some u =>
    have hk2 : ws[k2]? = none := hn.resolve_left fun c => by rw [hk] at c; cases c
    refine wpAny_bind (wpAny_bind (wpAny_onRaise (show wpAny (model P w) A (Builtin.SmallTypes.nextOf (.ref i) >>= _) _ _ _ from wpAny_bind (nx_item (Z.one.but e1.extBut ap.i1z) (Z.co.but e1.extBut ap.l1z) hk fun g2 t2 e2 => wpAny_pure ?_))))
    have ko2 : IsPair g2 a2 x y := e2.extBut _ _ ap.TOi1 (e1.extBut _ _ ap.TOz Z.out)
    refine wpAny_bind (wpAny_seqItems ko2 rfl (wpAny_bind (wpAny_updateSeq_pair ko2 fun g3 ko3 e3 => wpAny_bind (wpAny_letGo (wpAny_pure ?_)))))
    have two3 : ItAt tq g3 j l2 k2 := ((Z.two.but e1.extBut ap.i2z).but e2.extBut ap.i12.symm).but e3.extBut ap.TOi2.symm
    have cw3 : CoAt tq g3 l2 ws := ((Z.co2.but e1.extBut ap.l2z).but e2.extBut ap.l2i1).but e3.extBut ap.l2TO
    refine wpAny_bind (wpAny_bind (wpAny_onRaise (show wpAny (model P w) A (Builtin.SmallTypes.nextOf (.ref j) >>= _) _ _ _ from wpAny_bind (nx_end hd two3 cw3 hk2 fun g4 e e4 ⟨oe, hoe, hce⟩ => ?_))))
    have kz4 : IsZip g4 z a1 a2 .ellipsis := e4 _ _ ap.i2z.symm (e3.extBut _ _ ap.TOz.symm (e2.extBut _ _ ap.i1z.symm kz1))
    have ne : e ≠ z := fun c => by subst c; rw [kz4] at hoe; cases hoe; simp at hce
    exact wpAny_setField_rec kz4 (by simp) fun g5 _ e5 => q g5 e (fun c o n1 n2 n3 n4 t => e5.extBut _ _ n1 (e4 _ _ n4 (e3.extBut _ _ n2 (e2.extBut _ _ n3 (e1.extBut _ _ n1 t))))) ⟨oe, e5.extBut _ _ ne hoe, hce⟩
theorem zn_item (Z : Zp tp tq s.heap z a1 a2 i j l l2 k k2 us ws x y .none) (hu : us[k]? = some u) (hv : ws[k2]? = some v) {Q : Option Value → Shared → Prop}
    (q : ∀ h', Zp tp tq h' z a1 a2 i j l l2 (k + 1) (k2 + 1) us ws u v (rawInt s.heap.objs.size) → IsPair h' s.heap.objs.size u v → h'.objs.size = s.heap.objs.size + 1 →
      (∀ c o, c ≠ z → c ≠ a2 → c ≠ i → c ≠ j → s.heap.get? c = some o → h'.get? c = some o) → Q (some (.ref s.heap.objs.size)) { s with heap := h' }) : wpAny (model P w) A (pyNext (.ref z)) Q E s := by
  have ty : s.TypeIs (.ref z) "zip" := ⟨_, Z.zip, rfl⟩
  unfold pyNext
  exact wpAny_bind (wpAny_attempt (wpAny_callSpecial?_slot (name := Str.ofString "__next__") ty PySem.F.slot_zip_next (wpAny_call_entry PySem.F.slot_zip_next ty PySem.F.entry_zip_next (zx_item Z hu hv fun h' b1 b2 b3 b4 => wpAny_pure (q h' b1 b2 b3 b4)) (PySem.F.args_zip_next_1 _))))
theorem zn_end (hd : A.handled = none) (Z : Zp tp tq s.heap z a1 a2 i j l l2 k k2 us ws x y .none) (hn : us[k]? = none ∨ ws[k2]? = none) {Q : Option Value → Shared → Prop}
    (q : ∀ h', (∀ c o, c ≠ z → c ≠ a2 → c ≠ i → c ≠ j → s.heap.get? c = some o → h'.get? c = some o) → Q none { s with heap := h' }) : wpAny (model P w) A (pyNext (.ref z)) Q E s := by
  have ty : s.TypeIs (.ref z) "zip" := ⟨_, Z.zip, rfl⟩
  unfold pyNext
  refine wpAny_bind (wpAny_attempt (wpAny_callSpecial?_slot (name := Str.ofString "__next__") ty PySem.F.slot_zip_next (wpAny_call_entry PySem.F.slot_zip_next ty PySem.F.entry_zip_next (zx_end (show A.in1.handled = none from hd) Z hn fun h' e far st => ?_) (PySem.F.args_zip_next_1 _))))
  obtain ⟨oe, ge, ce⟩ := st
  exact wpAny_bind (wpAny_isInstance (T := "StopIteration") (b := true) ⟨oe, ge, ce⟩ isSubtype_stop (wpAny_pure (q _ far)))
end
/-- a tuple at a and a list at b, turn by turn: a new pair -/
def ItzX (K : PySem.W.Frag) (a b : Addr) : It :=
  ⟨fun i H => ∃ (xs ys : List V) (x y : V), SqT K H a xs ∧ SqL K H b ys ∧ xs[i]? = some x ∧ ys[i]? = some y,
    fun i H v H' => ∃ T x y, v = .ref T ∧ H T = none ∧ H' = upd H T (.tup [x, y]) ∧ (∀ xs, SqT K H a xs → xs[i]? = some x) ∧ ∀ ys, SqL K H b ys → ys[i]? = some y,
    fun i H => ∃ xs ys : List V, SqT K H a xs ∧ SqL K H b ys ∧ (xs.length ≤ i ∨ ys.length ≤ i)⟩

section
variable {P : Program} {w : World} {A : Around} {E : Value → Shared → Prop} {s : Shared} {a b : Addr} {us ws : Array Value}
abbrev zm1 (h : Heap) (a : Addr) : Heap := h.push { cls := .type "tuple_iterator", data := .fields #[.ref a, .int 0 0] }
abbrev zm2 (h : Heap) (a b : Addr) : Heap := (zm1 h a).push { cls := .type "list_iterator", data := .fields #[.ref b, .int 0 0] }
abbrev zm3 (h : Heap) (a b : Addr) : Heap := (zm2 h a b).push { cls := .type "tuple", data := .seq #[.ref h.objs.size, .ref (zm1 h a).objs.size] }
abbrev zm4 (h : Heap) (a b : Addr) : Heap := (zm3 h a b).push { cls := .type "tuple", data := .seq #[.none, .none] }
abbrev zm5 (h : Heap) (a b : Addr) : Heap := (zm4 h a b).push { cls := .type "zip", data := .fields #[.none, .bool false, .bool false, .ref (zm2 h a b).objs.size, .ref (zm3 h a b).objs.size] }
theorem zm_new (a b : Addr) (us ws : Array Value) :
    Meets (Builtin.«zip.__new__» ⟨[.type "zip", .ref a, .ref b], []⟩) (fun _ R s => s.heap.IsTuple a us ∧ s.heap.IsList b ws ∧ R (.ok (.ret (.ref (zm4 s.heap a b).objs.size))) { s with heap := zm5 s.heap a b }) :=
  .of_wp fun P w A R s h => by
    obtain ⟨hp, g, d, tk, os⟩ := s; obtain ⟨ta, tb, q⟩ := h
    have sz := sub_zip
    have t1 : Heap.IsTuple (Shared.heap ⟨hp, g, d, tk, os⟩) a us := ta
    have t2 : Heap.IsList (Shared.heap ⟨hp.push { cls := .type "tuple_iterator", data := .fields #[.ref a, .int 0 0] }, g, d, tk, os⟩) b ws := Heap.IsList.push tb _
    wp_walk using wpAny_pyIter_tuple t1, wpAny_pyIter_list t2
    exact ⟨_, rfl, q⟩
theorem zm_call (ta : s.heap.IsTuple a us) (tb : s.heap.IsList b ws) {Q : Value → Shared → Prop}
    (q : ∀ h', Zp true false h' (s.heap.objs.size + 4) (s.heap.objs.size + 2) (s.heap.objs.size + 3) s.heap.objs.size (s.heap.objs.size + 1) a b 0 0 us ws .none .none .none →
      (∀ c o, s.heap.get? c = some o → h'.get? c = some o) → Q (.ref (s.heap.objs.size + 4)) { s with heap := h' }) : wpAny (model P w) A (call (.type "zip") [.ref a, .ref b]) Q E s := by
  refine callType_new PySem.F.called_zip (by decide) (PySem.F.typeCall_zip_2 _ _) (PySem.F.newCall_zip_2 _ _) (fun ob => PySem.F.args_object_init_3 ob _ _) PySem.F.entry_zip_new (zm_new a b us ws) ⟨ta, tb, ?_⟩
  have s1 : (zm1 s.heap a).objs.size = s.heap.objs.size + 1 := Heap.size_push ..
  have s2 : (zm2 s.heap a b).objs.size = s.heap.objs.size + 2 := by rw [Heap.size_push, s1]
  have s3 : (zm3 s.heap a b).objs.size = s.heap.objs.size + 3 := by rw [Heap.size_push, s2]
  have s4 : (zm4 s.heap a b).objs.size = s.heap.objs.size + 4 := by rw [Heap.size_push, s3]
  have up1 : ∀ c o, s.heap.get? c = some o → (zm1 s.heap a).get? c = some o := fun c o e => Heap.get?_push_of_some _ e
  have up2 : ∀ c o, (zm1 s.heap a).get? c = some o → (zm2 s.heap a b).get? c = some o := fun c o e => Heap.get?_push_of_some _ e
  have up3 : ∀ c o, (zm2 s.heap a b).get? c = some o → (zm3 s.heap a b).get? c = some o := fun c o e => Heap.get?_push_of_some _ e
  have up4 : ∀ c o, (zm3 s.heap a b).get? c = some o → (zm4 s.heap a b).get? c = some o := fun c o e => Heap.get?_push_of_some _ e
  have up5 : ∀ c o, (zm4 s.heap a b).get? c = some o → (zm5 s.heap a b).get? c = some o := fun c o e => Heap.get?_push_of_some _ e
  have up : ∀ c o, s.heap.get? c = some o → (zm5 s.heap a b).get? c = some o := fun c o e => up5 _ _ (up4 _ _ (up3 _ _ (up2 _ _ (up1 _ _ e))))
  have o5 : (zm5 s.heap a b).get? (zm4 s.heap a b).objs.size = some _ := Heap.get?_push_size _ rfl
  have o4 : (zm5 s.heap a b).get? (zm3 s.heap a b).objs.size = some _ := up5 _ _ (Heap.get?_push_size _ rfl)
  have o3 : (zm5 s.heap a b).get? (zm2 s.heap a b).objs.size = some _ := up5 _ _ (up4 _ _ (Heap.get?_push_size _ rfl))
  have o2 : (zm5 s.heap a b).get? (zm1 s.heap a).objs.size = some _ := up5 _ _ (up4 _ _ (up3 _ _ (Heap.get?_push_size _ rfl)))
  have o1 : (zm5 s.heap a b).get? s.heap.objs.size = some _ := up5 _ _ (up4 _ _ (up3 _ _ (up2 _ _ (Heap.get?_push_size _ rfl))))
  show _ ∧ _
  rw [s2, s3, s4] at o5
  rw [s1, s2] at o3
  rw [s3] at o4
  rw [s1] at o2
  rw [s4]
  have la : a < s.heap.objs.size := let ⟨o, e, _⟩ := ta; Heap.lt_size e
  have lb : b < s.heap.objs.size := let ⟨o, e, _⟩ := tb; Heap.lt_size e
  exact ⟨⟨_, o5, rfl⟩, q _ ⟨PySem.W.ktu_apart s.heap.objs.size a b la lb, o5, o3, o4, ⟨_, o1, rfl, rfl⟩, ⟨_, o2, rfl, rfl⟩, Heap.IsTuple.at ta fun o e => up _ _ e, Heap.IsList.at tb fun o e => up _ _ e⟩ up⟩
end
theorem turn_zipX {P : Program} {w : World} {K : PySem.W.Frag} {elts : List Expr} {kk : Nat} {tpos : Pos} {a b z a1 a2 i1 i2 : Addr} (ap : ZipApart z a1 a2 i1 i2 a b) :
    Turn P w K (.Tuple elts kk tpos) (ItzX K a b) [z, a1, a2, i1, i2] z (fun i h => IsZip h z a1 a2 .none ∧ IsPair h a1 (.ref i1) (.ref i2) ∧ (∃ x y, IsPair h a2 x y) ∧ ItAt true h i1 a i ∧ ItAt false h i2 b i) where
  mem := List.mem_cons_self ..
  obj := fun i h st c hc => by
    obtain ⟨kz, k1, ⟨x, y, k2⟩, t1, t2⟩ := st
    simp only [List.mem_cons, List.not_mem_nil, or_false] at hc
    rcases hc with rfl | rfl | rfl | rfl | rfl
    · exact ⟨_, kz, fun v q => by cases q⟩
    · exact ⟨_, k1, fun v q => by cases q⟩
    · exact ⟨_, k2, fun v q => by cases q⟩
    · exact t1.ob
    · exact t2.ob
  keep := fun i h h' st k => by
    obtain ⟨kz, k1, ⟨x, y, k2⟩, t1, t2⟩ := st
    exact ⟨k z (by simp) _ kz, k a1 (by simp) _ k1, ⟨x, y, k a2 (by simp) _ k2⟩, t1.kept fun o q => k i1 (by simp) o q, t2.kept fun o q => k i2 (by simp) o q⟩
  item := by
    intro X hP hw hK hc i pins s σ H E I hf st hg
    subst hP hw hK
    obtain ⟨kz, k1, ⟨x0, y0, k2⟩, t1, t2⟩ := st
    obtain ⟨xs, ys, x, y, qx, qy, hx, hy⟩ := hg
    obtain ⟨its, rv, p, _⟩ := I.tuple qx
    obtain ⟨jts, rw, p2, _⟩ := I.list qy
    obtain ⟨u, hu, ru⟩ := rv.get hx
    obtain ⟨v, hv, rv2⟩ := rw.get hy
    have lz : z < s.heap.objs.size := Heap.lt_size kz
    have Z : Zp true false s.heap z a1 a2 i1 i2 a b i i its.toArray jts.toArray x0 y0 .none := ⟨ap, kz, k1, k2, t1, t2, p, p2.isList⟩
    refine zn_item Z (u := u) (v := v) (by simpa using hu) (by simpa using hv) fun g Zg new _ far => ⟨_, rfl, wpAny_letOwnedTupleGo_zip (s := { s with heap := g }) Zg.zip fun g2 kz2 sb => ?_⟩
    have new2 : g2.get? s.heap.objs.size = some { cls := .type "tuple", data := .seq #[u, v] } := (sb.2 _ (Nat.ne_of_gt lz)).trans new
    have ok : ObjOk X.prog X.w (upd H s.heap.objs.size (.tup [x, y])) g2 s.heap.objs.size (.tup [x, y]) := ⟨by show 2 ≤ sizeLine; decide, [u, v], .cons ru (.cons rv2 .nil), ⟨_, new2, rfl, _, rfl⟩⟩
    have I1 : Inv X pins σ (upd H s.heap.objs.size (.tup [x, y])) { s with heap := g2 } :=
      I.turnedNew (t' := s.toks) (ch := [z, a1, a2, i1, i2]) (fun c o hb e => (sb.2 c (fun n => hb (by simp [n]))).trans (far c o (fun n => hb (by simp [n])) (fun n => hb (by simp [n])) (fun n => hb (by simp [n])) (fun n => hb (by simp [n])) e)) hf (Nat.le_refl _) ok
    refine ⟨.ref s.heap.objs.size, _, I1, rfl, ⟨_, x, y, rfl, I.hok.fresh (Nat.le_refl _), rfl, fun l hl => by rw [I.tuple_inj hl qx]; exact hx, fun l hl => by rw [I.list_inj hl qy]; exact hy⟩, ⟨kz2, ?_, ⟨u, v, ?_⟩, ?_, ?_⟩, fun c hcm => ?_⟩
    · exact (sb.2 _ ap.TIz).trans Zg.its
    · exact (sb.2 _ ap.TOz).trans Zg.out
    · exact Zg.one.kept fun o e => (sb.2 _ ap.i1z).trans e
    · exact Zg.two.kept fun o e => (sb.2 _ ap.i2z).trans e
    · have lc : c < s.heap.objs.size := by
        simp only [List.mem_cons, List.not_mem_nil, or_false] at hcm
        rcases hcm with rfl | rfl | rfl | rfl | rfl
        · exact lz
        · exact Heap.lt_size k1
        · exact Heap.lt_size k2
        · obtain ⟨_, e, _⟩ := t1.ob; exact Heap.lt_size e
        · obtain ⟨_, e, _⟩ := t2.ob; exact Heap.lt_size e
      rw [upd_ne (Nat.ne_of_lt lc)]; exact (hf c hcm).1
  done := by
    intro X hP hw hK hc i pins s σ H E I hf st hg
    subst hP hw hK
    obtain ⟨kz, k1, ⟨x0, y0, k2⟩, t1, t2⟩ := st
    obtain ⟨xs, ys, qx, qy, en⟩ := hg
    obtain ⟨its, rv, p, _⟩ := I.tuple qx
    obtain ⟨jts, rw, p2, _⟩ := I.list qy
    have n1 := rv.length
    have n2 := rw.length
    have Z : Zp true false s.heap z a1 a2 i1 i2 a b i i its.toArray jts.toArray x0 y0 .none := ⟨ap, kz, k1, k2, t1, t2, p, p2.isList⟩
    have en2 : its.toArray[i]? = none ∨ jts.toArray[i]? = none := en.imp (fun q => by simp; omega) (fun q => by simp; omega)
    exact zn_end (I.ok.hd hc) Z en2 fun g far => ⟨rfl, I.turnedL (t' := s.toks) (ch := [z, a1, a2, i1, i2]) (fun c o hb e => far c o (fun n => hb (by simp [n])) (fun n => hb (by simp [n])) (fun n => hb (by simp [n])) (fun n => hb (by simp [n])) e) hf⟩
  self := fun A i s Q E st h => wpAny_pyIter_zip st.1 h
def iZipX (K : PySem.W.Frag) (ta : TA) : TI := fun σ H R => ta σ H fun vs H1 => ∃ a b xs ys, vs = [.ref a, .ref b] ∧ SqT K H1 a xs ∧ SqL K H1 b ys ∧ R (ItzX K a b) H1
theorem pi_zipX {X : Cx} {e e2 : Expr} {ta : TA} {p pos tpos : Pos} {elts : List Expr} {kk : Nat} (hg : Gl X "zip") (hm : X.mg "zip" = none) (ha : PA X [e, e2] ta)
    (hs : starEach [e, e2] X.env = (false, eval e X.env) :: starEach [e2] X.env := by rfl) (hpl : (backTo pos (starEach [e2] X.env)).any (·.1) = false := by rfl) :
    PI X (.Tuple elts kk tpos) (.Call (.Name "zip" p) [e, e2] [] pos) (iZipX X.K ta) := by
  refine ⟨fun pins s σ H R I h => Call_ (ld_blt I hg hm PyProof.Rows.boot_zip (PyProof.Rows.callWith_type1 (thn (ha.run pos pins s σ H _ I h) fun us s1 ⟨vs, H1, I1, r1, q1⟩ => ?_) hs hpl))⟩
  obtain ⟨a, b, xs, ys, rfl, qx, qy, q⟩ := q1
  obtain rfl : us = [.ref a, .ref b] := by
    cases r1 with
    | cons r rr =>
      cases rr with
      | cons r2 rr =>
        cases rr
        cases r
        cases r2
        rfl
  obtain ⟨its, rv, p1, _⟩ := I1.tuple qx
  obtain ⟨jts, rw, p2, _⟩ := I1.list qy
  refine zm_call p1 p2.isList fun g Z far => wpAny_pyIter_zip Z.zip ?_
  have I2 : Inv X pins σ H1 { s1 with heap := g } := I1.kept (t' := s1.toks) far
  refine ⟨s1.heap.objs.size + 4, [s1.heap.objs.size + 4, s1.heap.objs.size + 2, s1.heap.objs.size + 3, s1.heap.objs.size, s1.heap.objs.size + 1], _, _, H1, rfl, I2, turn_zipX Z.ap, ⟨Z.zip, Z.its, ⟨_, _, Z.out⟩, Z.one, Z.two⟩, fun c hc => ?_, q⟩
  have hle : s1.heap.objs.size ≤ c := by
    simp only [List.mem_cons, List.not_mem_nil, or_false] at hc
    rcases hc with rfl | rfl | rfl | rfl | rfl <;> omega
  exact I1.fpOk hle (I1.hok.fresh hle)
theorem x_iZipX {K : PySem.W.Frag} {ta : TA} {σ : L2.St} {H : Hp} {R : It → Hp → Prop} : iZipX K ta σ H R = ta σ H fun vs H1 => ∃ a b xs ys, vs = [.ref a, .ref b] ∧ SqT K H1 a xs ∧ SqL K H1 b ys ∧ R (ItzX K a b) H1 := rfl
theorem walk_zipX {K : PySem.W.Frag} {a b : Addr} {xs ys : List V} (hn : xs.length = ys.length) : Walk (ItzX K a b) xs.length (fun H => SqT K H a xs ∧ SqL K H b ys) (YPair (fun i => xs[i]?) (fun i => ys[i]?)) := by
  refine ⟨fun i _ hi q => ?_, fun _ q => ⟨xs, ys, q.1, q.2, by omega⟩, fun i H v H' _ q y => ?_⟩
  · have h2 : i < ys.length := by omega
    exact ⟨xs, ys, xs[i], ys[i], q.1, q.2, by simp [hi], by simp [h2]⟩
  · obtain ⟨T, x, z, h1, h2, h3, h4, h5⟩ := y
    exact ⟨T, x, z, h1, h2, h3, h4 xs q.1, h5 ys q.2⟩
end FB
set_option Elab.async false
set_option linter.all false
set_option maxRecDepth 100000
set_option maxHeartbeats 4000000
/-! list(d.values()); k in d; loops over a dict's keys; == of dicts of tuples. -/
namespace FB
open PySem PySem.Spec PyProof.Rows L2 Evl
theorem vals_snd {kvs : List (Key × V)} {vs : List (Key × Value)} (r : KV kvs vs) : Vals (kvs.map (·.2)) (vs.map (·.2)) := by
  unfold KV at r
  induction r with
  | nil => exact .nil
  | cons h _ ih => exact .cons h.2 ih
/-- the view of the values of the dict at d -/
def ViewO (v d : Addr) : HO := .ext fun h => h.IsValuesView v d
section
variable {X : Cx}
def rVals : V → List V → Hp → VK → Prop := fun x xs H Q => ∃ (d : Addr) (kvs : List (Key × V)), x = .ref d ∧ xs = [] ∧ H d = some (.dK kvs) ∧ ∀ v, H v = none → Q (.ref v) (upd H v (ViewO v d))
theorem mt_vals : MtR X "dict.values" rVals := by
  intro pins s σ H x xs v us Q I rx rxs ⟨d, kvs, ex, exs, hd, q⟩
  subst ex exs
  cases rx
  cases rxs
  obtain ⟨_, lo, vs, _, dd⟩ := dk_of I.hok hd
  refine call_meetsIn PySem.F.slot_dict_values dd.typeIs PySem.F.entry_dict_values (PySem.F.args_dict_values_1 _) (meets_dict_values (mixKind X.prog X.w) d lo) ⟨⟨vs, dd⟩, ?_⟩
  have view : (s.heap.push { cls := .type "dict_values", data := .fields #[.ref d] }).IsValuesView s.heap.objs.size d := ⟨_, Heap.get?_push_size _ rfl, rfl, rfl⟩
  refine ⟨.ref s.heap.objs.size, upd H s.heap.objs.size (ViewO s.heap.objs.size d), I.laid (t' := s.toks) (fun b u e => Heap.get?_push_of_some _ e) (Nat.le_refl _) ⟨view, ⟨_, Heap.get?_push_size _ rfl⟩, fun h1 h2 r k => let ⟨o, e, c, f⟩ := r; ⟨o, k _ e, c, f⟩⟩, rfl, q _ (I.hok.fresh (Nat.le_refl _))⟩
/-- list(view) -/
def rListV : List V → Hp → VK → Prop := fun xs H Q => ∃ (v d : Addr) (kvs : List (Key × V)), xs = [.ref v] ∧ H v = some (ViewO v d) ∧ H d = some (.dK kvs) ∧ ∀ l, H l = none → Q (.ref l) (upd H l (.lst (kvs.map (·.2))))
theorem call_listV (hc : X.calm = true) : CallR X (.type "list") rListV := by
  intro pins s σ H xs us Q I r ⟨v, d, kvs, ex, hv, hd, q⟩
  subst ex
  rw [Vals.ref1 r]
  obtain ⟨hz, _, vs, kv, dd⟩ := dk_of I.hok hd
  obtain ⟨ep, hat⟩ := dd.dictAt
  have view : s.heap.IsValuesView v d := (I.hok v _ hv).1
  have hl : kvs.length = vs.length := kv.length
  refine PySem.W.kdl_call (PySem.W.kdl_values (knd := mixKind X.prog X.w) (kvs := vs) (ep := ep)) (I.ok.hd hc) ⟨view, hat⟩ (by omega) fun h' tk acc c k hg hit => ?_
  have rel : Vals (kvs.map (·.2)) acc.toList := by
    have e : acc.toList = vs.map (·.2) := by
      apply List.ext_getElem
      · rw [Array.length_toList, List.length_map]; exact hit.1
      · intro i h1 h2
        have hi : i < acc.size := by rw [Array.length_toList] at h1; exact h1
        obtain ⟨k2, e2⟩ := hit.2 i _ (Array.getElem?_eq_getElem hi)
        rw [List.getElem_map, Array.getElem_toList]
        have hi2 : i < vs.length := by rw [List.length_map] at h2; exact h2
        rw [List.getElem?_eq_getElem hi2] at e2
        rw [Option.some.inj e2]
    rw [e]
    exact vals_snd kv
  exact ⟨.ref s.heap.objs.size, upd H s.heap.objs.size (.lst (kvs.map (·.2))), I.laid (t' := tk) k (Nat.le_refl _) ⟨by rw [List.length_map]; exact hz, acc.toList, c, rel, by rw [Array.toArray_toList]; exact hg⟩, rfl, q _ (I.hok.fresh (Nat.le_refl _))⟩
end
/-- == of two dicts of the same keys, the values equal data -/
def rEqDD (K : PySem.W.Frag) : R2 := fun x y H Q => ∃ (a b : Addr) (ks ls : List (Key × V)), x = .ref a ∧ y = .ref b ∧ H a = some (.dK ks) ∧ H b = some (.dK ls) ∧ ks.length = ls.length ∧
  (∀ p ∈ ks, ∃ u d, valV ls p.1 = some u ∧ Dp K H p.2 d ∧ Dp K H u d ∧ SeqAt.shaped d = true ∧ d.depth ≤ 60 ∧ PyData.eqv d d = true) ∧ Q (.bl true) H
theorem op_eqDD {X : Cx} {K : PySem.W.Frag} (hu : X.A.units + 64 < cLine) (hK : X.K = K := by rfl) : OpR X (compareOp .Eq) (rEqDD K) := by
  subst hK
  intro pins s σ H x y v u Q I rx ry ⟨a, b, ks, ls, ex, ey, ha, hb, hl, hp, q⟩
  subst ex ey
  cases rx
  cases ry
  obtain ⟨_, ya, va, ra, da⟩ := (show ObjOk X.prog X.w H s.heap a (.dK ks) from I.hok a _ ha)
  obtain ⟨_, yb, vb, rb, db⟩ := (show ObjOk X.prog X.w H s.heap b (.dK ls) from I.hok b _ hb)
  have ih : ∀ x y v u, (∃ d, Dp X.K H x d ∧ Dp X.K H y d ∧ SeqAt.shaped d = true ∧ d.depth ≤ 60 ∧ PyData.eqv d d = true) → RelV x v → RelV y u → SeqAt.EqP X.prog X.w X.A.in1 s v u true := fun x y v u ⟨d, h1, h2, sh, dp, e⟩ r1 r2 => by
    obtain ⟨as, q1⟩ := Dp.reads I d x v h1 r1
    obtain ⟨bs, q2⟩ := Dp.reads I d y u h2 r2
    have sh2 : d.canLay0 = true ∧ d.depth ≤ 64 := by
      unfold SeqAt.shaped at sh
      simpa using sh
    have := SeqAt.eqAt_reads d d X.A.in1 s v u as bs q1 q2 sh2.1 sh2.1 (by show X.A.units + 1 + _ < cLine; omega)
    rw [e] at this
    exact this.eqP
  refine PySem.W.rcP_dicts (knd := mixKind X.prog X.w) (r := true) ya yb da db (by omega) (fun _ => hits_run ih rb ra fun p hm => ?_) _ _ ?_
  · obtain ⟨u, d, e1, e2, e3, e4, e5, e6⟩ := hp p hm
    exact ⟨u, e1, d, e2, e3, e4, e5, e6⟩
  · rw [show (va.length == vb.length && true) = true from by rw [← ra.length, ← rb.length, hl]; simp]
    exact ⟨.bl true, H, I, rfl, q⟩
section
variable {K : PySem.W.Frag} {H : Hp} {Q : VK} {a b d v : Addr} {kvs ka kb : List (Key × V)} {k : Key}
theorem x_tyD (h : H d = some (.dK kvs)) : tyV K "dict" (.ref d) H := .inr (.inr (.inl ⟨rfl, .inl ⟨kvs, h⟩⟩))
theorem x_vals (h : H d = some (.dK kvs)) (q : ∀ v H', H v = none → Ex H H' → H' v = some (ViewO v d) → Q (.ref v) H') : rVals (.ref d) [] H Q := ⟨d, kvs, rfl, rfl, h, fun v hv => q v _ hv (Ex.new hv) upd_same⟩
theorem x_listV (hv : H v = some (ViewO v d)) (h : H d = some (.dK kvs)) (q : ∀ l H', H l = none → Ex H H' → H' l = some (.lst (kvs.map (·.2))) → Q (.ref l) H') : rListV [.ref v] H Q := ⟨v, d, kvs, rfl, hv, h, fun l hl => q l _ hl (Ex.new hl) upd_same⟩
/-- k in d -/
def rDIn (y x : V) (H : Hp) (Q : VK) : Prop := ∃ a o, x = .ref a ∧ DGet H a y o ∧ Q (.bl o.isSome) H
theorem x_tDIn {ty td : TE} {σ : L2.St} : tDIn ty td σ H Q = ty σ H fun y H1 => td σ H1 fun x H2 => rDIn y x H2 Q := rfl
theorem x_dIn (h : H a = some (.dK kvs)) (q : Q (.bl (valV kvs k).isSome) H) : rDIn (kV k) (.ref a) H Q := ⟨a, _, rfl, DGet.k h, q⟩
/-- keys of a locked dict -/
def rKeys (x : V) (H : Hp) (R : It → Hp → Prop) : Prop := ∃ d o, x = .ref d ∧ ((∃ kvs, H d = some (.frz o (.dK kvs)) ∧ R (Itk d o kvs) H) ∨ ∃ kvs, H d = some (.frz o (.dT kvs)) ∧ R (Itkt d o kvs) H)
theorem x_iKeys {td : TE} {σ : L2.St} {R : It → Hp → Prop} : iKeys td σ H R = td σ H fun x H1 => rKeys x H1 R := rfl
theorem x_keys {o : Obj} {R : It → Hp → Prop} (h : H d = some (.frz o (.dK kvs))) (q : R (Itk d o kvs) H) : rKeys (.ref d) H R := ⟨d, o, rfl, .inl ⟨kvs, h, q⟩⟩
theorem x_eqDD (h1 : H a = some (.dK ka)) (h2 : H b = some (.dK kb)) (hl : ka.length = kb.length) (hp : ∀ p ∈ ka, ∃ u d, valV kb p.1 = some u ∧ Dp K H p.2 d ∧ Dp K H u d ∧ SeqAt.shaped d = true ∧ d.depth ≤ 60 ∧ PyData.eqv d d = true) (q : Q (.bl true) H) : rEqDD K (.ref a) (.ref b) H Q :=
  ⟨a, b, ka, kb, rfl, rfl, h1, h2, hl, hp, q⟩
end
end FB
set_option Elab.async false
set_option linter.all false
set_option maxRecDepth 100000
set_option maxHeartbeats 4000000
/-! zip of three tuples. -/
namespace FB
open PySem PySem.Spec PyProof.Rows L2 Evl
/-- the tuples at a, b and c, turn by turn: a new triple -/
def Itz3 (K : PySem.W.Frag) (a b c : Addr) : It :=
  ⟨fun i H => ∃ (xs ys zs : List V) (x y z : V), SqT K H a xs ∧ SqT K H b ys ∧ SqT K H c zs ∧ xs[i]? = some x ∧ ys[i]? = some y ∧ zs[i]? = some z,
    fun i H v H' => ∃ T x y z, v = .ref T ∧ H T = none ∧ H' = upd H T (.tup [x, y, z]) ∧ (∀ xs, SqT K H a xs → xs[i]? = some x) ∧ (∀ ys, SqT K H b ys → ys[i]? = some y) ∧ ∀ zs, SqT K H c zs → zs[i]? = some z,
    fun i H => ∃ xs ys zs : List V, SqT K H a xs ∧ SqT K H b ys ∧ SqT K H c zs ∧ i = xs.length ∧ i = ys.length ∧ i = zs.length⟩
theorem ti_ne {h : Heap} {a i : Addr} {k : Nat} {us : Array Value} (t : h.IsTupleIter i a k) (p : h.IsTuple a us) : a ≠ i := fun e => by
  subst e
  obtain ⟨o, q, c1, _⟩ := t
  obtain ⟨o', q', c2, _⟩ := p
  rw [q] at q'
  cases q'
  rw [c1] at c2
  simp at c2
theorem in1_hd {A : Around} (h : A.handled = none) : A.in1.handled = none := h
theorem turn_zip3 {P : Program} {w : World} {K : PySem.W.Frag} {elts : List Expr} {kk : Nat} {tpos : Pos} {a b c z TI TO i1 i2 i3 : Addr} (D : ZipSep3 z TI TO i1 i2 i3 [i1, a] [i2, b] [i3, c]) :
    Turn P w K (.Tuple elts kk tpos) (Itz3 K a b c) [z, TI, TO, i1, i2, i3] z (fun i h => IsZip h z TI TO .none ∧ IsTupOf3 h TI (.ref i1) (.ref i2) (.ref i3) ∧ (∃ x y v, IsTupOf3 h TO x y v) ∧ h.IsTupleIter i1 a i ∧ h.IsTupleIter i2 b i ∧ h.IsTupleIter i3 c i) where
  mem := List.mem_cons_self ..
  obj := fun i h st c hc => by
    obtain ⟨hz, hTI, ⟨x, y, v, hTO⟩, ⟨o1, e1, _, d1⟩, ⟨o2, e2, _, d2⟩, ⟨o3, e3, _, d3⟩⟩ := st
    simp only [List.mem_cons, List.not_mem_nil, or_false] at hc
    rcases hc with rfl | rfl | rfl | rfl | rfl | rfl
    · exact ⟨_, hz, fun v q => nomatch q⟩
    · exact ⟨_, hTI, fun v q => nomatch q⟩
    · exact ⟨_, hTO, fun v q => nomatch q⟩
    · exact ⟨o1, e1, fun v q => by rw [d1] at q; cases q⟩
    · exact ⟨o2, e2, fun v q => by rw [d2] at q; cases q⟩
    · exact ⟨o3, e3, fun v q => by rw [d3] at q; cases q⟩
  keep := fun i h h' st k => by
    obtain ⟨hz, hTI, ⟨x, y, v, hTO⟩, h1, h2, h3⟩ := st
    exact ⟨k z (by simp) _ hz, k TI (by simp) _ hTI, ⟨x, y, v, k TO (by simp) _ hTO⟩, h1.at fun o q => k i1 (by simp) o q, h2.at fun o q => k i2 (by simp) o q, h3.at fun o q => k i3 (by simp) o q⟩
  item := by
    intro X hP hw hK hc i pins s σ H E I hf st hg
    subst hP hw hK
    obtain ⟨hz, hTI, ⟨x0, y0, v0, hTO⟩, h1, h2, h3⟩ := st
    obtain ⟨xs, ys, zs, x, y, v, hqx, hqy, hqz, hx, hy, hv⟩ := hg
    obtain ⟨its, rv, p, _⟩ := I.tuple hqx
    obtain ⟨its2, rv2, p2, _⟩ := I.tuple hqy
    obtain ⟨its3, rv3, p3, _⟩ := I.tuple hqz
    obtain ⟨u, hu, ru⟩ := rv.get hx
    obtain ⟨u2, hu2, ru2⟩ := rv2.get hy
    obtain ⟨u3, hu3, ru3⟩ := rv3.get hv
    have hzl : z < s.heap.objs.size := Heap.lt_size hz
    have hh := in1_hd (I.ok.hd hc)
    have na : a ≠ i1 := ti_ne h1 (show s.heap.IsTuple a its.toArray from p)
    have nb : b ≠ i2 := ti_ne h2 (show s.heap.IsTuple b its2.toArray from p2)
    have nc : c ≠ i3 := ti_ne h3 (show s.heap.IsTuple c its3.toArray from p3)
    have l1 : i < its.toArray.size := by simpa using (List.getElem?_eq_some_iff.mp hu).1
    have l2 : i < its2.toArray.size := by simpa using (List.getElem?_eq_some_iff.mp hu2).1
    have l3 : i < its3.toArray.size := by simpa using (List.getElem?_eq_some_iff.mp hu3).1
    refine wpAny_pyNext_zipD3_item D (Draws.tuple hh i1 a na its.toArray) (Draws.tuple hh i2 b nb its2.toArray) (Draws.tuple hh i3 c nc its3.toArray) hz hTI hTO ⟨h1, p⟩ ⟨h2, p2⟩ ⟨h3, p3⟩ l1 l2 l3 fun w1 w2 w3 h' tk g1 g2 g3 z' TO' s1' s2' s3' hT hsz hk => ?_
    obtain rfl : u = w1 := by have : its[i]? = some w1 := by simpa using g1
                              rw [hu] at this; exact Option.some.inj this
    obtain rfl : u2 = w2 := by have : its2[i]? = some w2 := by simpa using g2
                               rw [hu2] at this; exact Option.some.inj this
    obtain rfl : u3 = w3 := by have : its3[i]? = some w3 := by simpa using g3
                               rw [hu3] at this; exact Option.some.inj this
    refine ⟨_, rfl, wpAny_letOwnedTupleGo_zip (s := { s with heap := h', toks := tk }) z' fun h'' z'' sb => ?_⟩
    have hT2 : h''.get? s.heap.objs.size = some { cls := .type "tuple", data := .seq #[u, u2, u3] } := (sb.2 _ (Nat.ne_of_gt hzl)).trans hT
    have new : ObjOk X.prog X.w (upd H s.heap.objs.size (.tup [x, y, v])) h'' s.heap.objs.size (.tup [x, y, v]) :=
      ⟨by show 3 ≤ sizeLine; decide, [u, u2, u3], .cons ru (.cons ru2 (.cons ru3 .nil)), ⟨_, hT2, rfl, _, rfl⟩⟩
    have I1 : Inv X pins σ (upd H s.heap.objs.size (.tup [x, y, v])) { s with heap := h'', toks := tk } :=
      I.turnedNew (t' := tk) (ch := [z, TI, TO, i1, i2, i3]) (fun c o hb q => (sb.2 c (fun q' => hb (by simp [q']))).trans (hk c o (fun q' => hb (by simp [q'])) (fun q' => hb (by simp [q'])) (fun q' => hb (by simp [q'])) (fun q' => hb (by simp [q'])) (fun q' => hb (by simp [q'])) q)) hf (Nat.le_refl _) new
    have iz1 : i1 ≠ z := fun e => D.zf1 (by rw [← e]; simp)
    have iz2 : i2 ≠ z := fun e => D.zf2 (by rw [← e]; simp)
    have iz3 : i3 ≠ z := fun e => D.zf3 (by rw [← e]; simp)
    refine ⟨.ref s.heap.objs.size, _, I1, rfl, ⟨_, x, y, v, rfl, I.hok.fresh (Nat.le_refl _), rfl, fun l hl => by rw [I.tuple_inj hl hqx]; exact hx, fun l hl => by rw [I.tuple_inj hl hqy]; exact hy, fun l hl => by rw [I.tuple_inj hl hqz]; exact hv⟩, ⟨z'', ?_, ⟨u, u2, u3, ?_⟩, ?_, ?_, ?_⟩, fun c hcm => ?_⟩
    · exact (sb.2 _ D.TIz).trans (hk _ _ D.TIz D.TITO D.TIi1 D.TIi2 D.TIi3 hTI)
    · exact (sb.2 _ D.TOz).trans TO'
    · exact s1'.1.at fun o q => (sb.2 _ iz1).trans q
    · exact s2'.1.at fun o q => (sb.2 _ iz2).trans q
    · exact s3'.1.at fun o q => (sb.2 _ iz3).trans q
    · have hlt : c < s.heap.objs.size := by
        simp only [List.mem_cons, List.not_mem_nil, or_false] at hcm
        rcases hcm with rfl | rfl | rfl | rfl | rfl | rfl
        · exact hzl
        · exact Heap.lt_size hTI
        · exact Heap.lt_size hTO
        · obtain ⟨_, e1, _⟩ := h1; exact Heap.lt_size e1
        · obtain ⟨_, e2, _⟩ := h2; exact Heap.lt_size e2
        · obtain ⟨_, e2, _⟩ := h3; exact Heap.lt_size e2
      rw [upd_ne (Nat.ne_of_lt hlt)]
      exact (hf c hcm).1
  done := by
    intro X hP hw hK hc i pins s σ H E I hf st hg
    subst hP hw hK
    obtain ⟨hz, hTI, ⟨x0, y0, v0, hTO⟩, h1, h2, h3⟩ := st
    obtain ⟨xs, ys, zs, hqx, hqy, hqz, n1, n2, n3⟩ := hg
    obtain ⟨its, rv, p, _⟩ := I.tuple hqx
    obtain ⟨its2, rv2, p2, _⟩ := I.tuple hqy
    obtain ⟨its3, rv3, p3, _⟩ := I.tuple hqz
    have l1 := rv.length
    have l2 := rv2.length
    have l3 := rv3.length
    have hh := in1_hd (I.ok.hd hc)
    have na : a ≠ i1 := ti_ne h1 (show s.heap.IsTuple a its.toArray from p)
    have nb : b ≠ i2 := ti_ne h2 (show s.heap.IsTuple b its2.toArray from p2)
    have nc : c ≠ i3 := ti_ne h3 (show s.heap.IsTuple c its3.toArray from p3)
    refine wpAny_pyNext_zipD3_end (i := i) D (Draws.tuple hh i1 a na its.toArray) (Draws.tuple hh i2 b nb its2.toArray) (Draws.tuple hh i3 c nc its3.toArray) hz hTI hTO ⟨h1, p⟩ ⟨h2, p2⟩ ⟨h3, p3⟩ (by simp; omega) (by simp; omega) (by simp; omega) (.inl (by simp; omega)) fun h' tk hk => ?_
    exact ⟨rfl, I.turnedL (t' := tk) (ch := [z, TI, TO, i1, i2, i3]) (fun c o hb q =>
      hk c o (fun q' => hb (by simp [q'])) (fun q' => hb (by simp [q'])) (fun q' => hb (by simp [q'])) (fun q' => hb (by simp [q'])) (fun q' => hb (by simp [q'])) q) hf⟩
  self := fun A i s Q E st h => wpAny_pyIter_zip st.1 h
def iZip3 (K : PySem.W.Frag) (ta : TA) : TI := fun σ H R => ta σ H fun vs H1 => ∃ a b c xs ys zs, vs = [.ref a, .ref b, .ref c] ∧ SqT K H1 a xs ∧ SqT K H1 b ys ∧ SqT K H1 c zs ∧ R (Itz3 K a b c) H1
theorem pi_zip3 {X : Cx} {e e2 e3 : Expr} {ta : TA} {p pos tpos : Pos} {elts : List Expr} {kk : Nat} (hg : Gl X "zip") (hm : X.mg "zip" = none) (ha : PA X [e, e2, e3] ta)
    (hs : starEach [e, e2, e3] X.env = (false, eval e X.env) :: starEach [e2, e3] X.env := by rfl) (hpl : (backTo pos (starEach [e2, e3] X.env)).any (·.1) = false := by rfl) :
    PI X (.Tuple elts kk tpos) (.Call (.Name "zip" p) [e, e2, e3] [] pos) (iZip3 X.K ta) := by
  refine ⟨fun pins s σ H R I h => Call_ (ld_blt I hg hm PyProof.Rows.boot_zip (PyProof.Rows.callWith_type1 (thn (ha.run pos pins s σ H _ I h) fun us s1 ⟨vs, H1, I1, r1, q1⟩ => ?_) hs hpl))⟩
  obtain ⟨a, b, c, xs, ys, zs, rfl, qx, qy, qz, q⟩ := q1
  obtain rfl : us = [.ref a, .ref b, .ref c] := by
    cases r1 with
    | cons r rr =>
      cases rr with
      | cons r2 rr =>
        cases rr with
        | cons r3 rr =>
          cases rr
          cases r
          cases r2
          cases r3
          rfl
  obtain ⟨its, rv, p1, _⟩ := I1.tuple qx
  obtain ⟨jts, rw2, p2, _⟩ := I1.tuple qy
  obtain ⟨kts, rw3, p3, _⟩ := I1.tuple qz
  have la : a < s1.heap.objs.size := let ⟨o, e, _⟩ := (show s1.heap.IsTuple a its.toArray from p1); Heap.lt_size e
  have lb : b < s1.heap.objs.size := let ⟨o, e, _⟩ := (show s1.heap.IsTuple b jts.toArray from p2); Heap.lt_size e
  have lc : c < s1.heap.objs.size := let ⟨o, e, _⟩ := (show s1.heap.IsTuple c kts.toArray from p3); Heap.lt_size e
  refine zip_begins3 (begins_tuple a its.toArray) (begins_tuple b jts.toArray) (begins_tuple c kts.toArray) p1 p2 p3 fun g hz hTI hTO g1 g2 g3 hsz far => wpAny_pyIter_zip hz ?_
  have I2 : Inv X pins σ H1 { s1 with heap := g } := I1.kept (t' := s1.toks) far
  have D : ZipSep3 (s1.heap.objs.size + 5) (s1.heap.objs.size + 3) (s1.heap.objs.size + 4) s1.heap.objs.size (s1.heap.objs.size + 1) (s1.heap.objs.size + 2) [s1.heap.objs.size, a] [s1.heap.objs.size + 1, b] [s1.heap.objs.size + 2, c] :=
    zip_sep3 (fun x hx => by rw [List.mem_singleton.mp hx]; exact la) (fun x hx => by rw [List.mem_singleton.mp hx]; exact lb) (fun x hx => by rw [List.mem_singleton.mp hx]; exact lc)
  refine ⟨s1.heap.objs.size + 5, [s1.heap.objs.size + 5, s1.heap.objs.size + 3, s1.heap.objs.size + 4, s1.heap.objs.size, s1.heap.objs.size + 1, s1.heap.objs.size + 2], _, _, H1, rfl, I2, turn_zip3 D, ⟨hz, hTI, ⟨_, _, _, hTO⟩, ⟨_, g1, rfl, rfl⟩, ⟨_, g2, rfl, rfl⟩, ⟨_, g3, rfl, rfl⟩⟩, fun x hx => ?_, q⟩
  have hle : s1.heap.objs.size ≤ x := by
    simp only [List.mem_cons, List.not_mem_nil, or_false] at hx
    rcases hx with rfl | rfl | rfl | rfl | rfl | rfl
    · exact Nat.le_add_right _ _
    · exact Nat.le_add_right _ _
    · exact Nat.le_add_right _ _
    · exact Nat.le_refl _
    · exact Nat.le_add_right _ _
    · exact Nat.le_add_right _ _
  exact I1.fpOk hle (I1.hok.fresh hle)
theorem x_iZip3 {K : PySem.W.Frag} {ta : TA} {σ : L2.St} {H : Hp} {R : It → Hp → Prop} : iZip3 K ta σ H R = ta σ H fun vs H1 => ∃ a b c xs ys zs, vs = [.ref a, .ref b, .ref c] ∧ SqT K H1 a xs ∧ SqT K H1 b ys ∧ SqT K H1 c zs ∧ R (Itz3 K a b c) H1 := rfl
def YTri (xs ys zs : Nat → Option V) : Nat → Hp → V → Hp → Prop := fun i H v H' => ∃ T x y z, v = .ref T ∧ H T = none ∧ H' = upd H T (.tup [x, y, z]) ∧ xs i = some x ∧ ys i = some y ∧ zs i = some z
theorem walk_zip3 {K : PySem.W.Frag} {a b c : Addr} {xs ys zs : List V} (hn : xs.length = ys.length) (hm : xs.length = zs.length) : Walk (Itz3 K a b c) xs.length (fun H => SqT K H a xs ∧ SqT K H b ys ∧ SqT K H c zs) (YTri (fun i => xs[i]?) (fun i => ys[i]?) (fun i => zs[i]?)) := by
  refine ⟨fun i _ hi q => ?_, fun _ q => ⟨xs, ys, zs, q.1, q.2.1, q.2.2, rfl, hn, hm⟩, fun i H v H' _ q y => ?_⟩
  · have h2 : i < ys.length := by omega
    have h3 : i < zs.length := by omega
    exact ⟨xs, ys, zs, xs[i], ys[i], zs[i], q.1, q.2.1, q.2.2, by simp [hi], by simp [h2], by simp [h3]⟩
  · obtain ⟨T, x, z, v, h1, h2, h3, h4, h5, h6⟩ := y
    exact ⟨T, x, z, v, h1, h2, h3, h4 xs q.1, h5 ys q.2.1, h6 zs q.2.2⟩
theorem x_three {K : PySem.W.Frag} {H : Hp} {σ : L2.St} {n i j m : Nat} {T : Addr} {x y z : V} {Q : L2.St → Hp → Prop} (h : SqT K H T [x, y, z]) (k : Q (((σ.set i (some x)).set j (some y)).set m (some z)) H) (hn : n = 3 := by rfl) :
    gTup K n (gCons (gName i) (gCons (gName j) (gCons (gName m) gNil))) (.ref T) σ H Q := by
  subst hn
  exact ⟨T, _, rfl, h, rfl, x, [y, z], rfl, y, [z], rfl, z, [], rfl, rfl, k⟩
end FB
set_option Elab.async false
set_option linter.all false
set_option maxRecDepth 100000
set_option maxHeartbeats 4000000
/-! x not in a tuple of data; a tuple once. -/
namespace FB
open PySem PySem.Spec PyProof.Rows L2 Evl
open Sem (wp)
def rNotInT (K : PySem.W.Frag) : R2 := fun x y H Q => ∃ d ds, Dp K H x d ∧ Dp K H y (.tuple ds) ∧ SeqAt.shaped d = true ∧ SeqAt.shaped (.tuple ds) = true ∧ d.depth ≤ 60 ∧ Q (.bl (!ds.any fun z => PyData.eqv z d)) H
theorem op_notInT {X : Cx} {K : PySem.W.Frag} (hu : X.A.units + 64 < cLine) (hK : X.K = K := by rfl) : OpR X (compareOp .NotIn) (rNotInT K) := by
  subst hK
  intro pins s σ H x y v u Q I rx ry h
  obtain ⟨d, ds, hd, he, sd, se, dd, q⟩ := h
  obtain ⟨as, r1⟩ := Dp.reads I d x v hd rx
  obtain ⟨bs, r2⟩ := Dp.reads I (.tuple ds) y u he ry
  have h2 : min (PyData.depthAll ds) d.depth ≤ d.depth := Nat.min_le_right _ _
  exact SeqAt.notIn_tuple_reads r2 r1 (SeqAt.canLay_of_shaped se) (SeqAt.canLay_of_shaped sd) (by omega) ⟨.bl _, H, I, rfl, q⟩
/-- a tuple once is the tuple -/
theorem tuple_mul1 (l : Addr) (items : Array Value) (n : Nat) (dd : Option Addr) (sl : Array (Option Value)) (u : Tok) :
    Meets (Builtin.«tuple.__mul__» ⟨[.ref l, .int 1 u], []⟩) (fun _ R s => s.heap.get? l = some { cls := .type "tuple", dict := dd, data := .seq items n, slots := sl } ∧ R (.ok (.ret (.ref l))) s) :=
  .of_wp fun prog w A R s h => by
    obtain ⟨hp, g, d, tk, os⟩ := s
    obtain ⟨hl, h⟩ := h
    have f1 := AutoSeq1.idx_int
    wp_walk using wpAny_loadPart' hl
    exact ⟨_, rfl, h⟩
def rMul1 (K : PySem.W.Frag) : R2 := fun x y H Q => ∃ l xs, x = .ref l ∧ y = .int 1 ∧ SqT K H l xs ∧ Q (.ref l) H
theorem op_mul1 {X : Cx} : OpR X (binaryOp .Mult) (rMul1 X.K) := by
  intro pins s σ H x y v u Q I rx ry h
  obtain ⟨l, xs, rfl, rfl, hT, q⟩ := h
  cases rx
  obtain ⟨t, rfl⟩ := ry
  obtain ⟨its, r, ⟨⟨cls, dd, data, sl⟩, ho, hc, n, hd⟩, hs⟩ := I.tuple hT
  simp only at hc hd
  subst hc hd
  refine wpAny_binaryOp_repeat_ref (T := "tuple") (U := "int") (by decide) ⟨_, ho, rfl⟩ (fun s' => typeIs_int s' 1 t) noFill_tuple_mul F.fills_int_mul F.slot_int_rmul repeat_tuple F.slot_int_index.lookup
    (call_meets F.slot_int_rmul (typeIs_int s 1 t) F.entry_int_rmul (F.args_int_rmul_2 _ _) (int_rmul_tuple 1 t l its.toArray n dd sl)
      ⟨ho, rfl, ⟨_, ho, rfl⟩, call_meets F.slot_tuple_mul ⟨_, ho, rfl⟩ F.entry_tuple_mul (F.args_tuple_mul_2 _ _) (tuple_mul1 l its.toArray n dd sl t) ⟨ho, ?_⟩⟩)
  exact ⟨.ref l, H, I, rfl, q⟩
def rMulV (K : PySem.W.Frag) : R2 := fun x y H Q => rMulU K x y H Q ∨ rMul1 K x y H Q
theorem op_mulV {X : Cx} {K : PySem.W.Frag} (hK : X.K = K := by rfl) : OpR X (binaryOp .Mult) (rMulV K) := by
  subst hK
  exact orOp op_mulU op_mul1
theorem flat_one (x : V) : ∀ n : Nat, (List.replicate n [x]).flatten = List.replicate n x
  | 0 => rfl
  | n + 1 => by rw [List.replicate_succ, List.replicate_succ, List.flatten_cons, flat_one x n]; rfl
/-- (x,) * n -/
theorem x_mulT {K : PySem.W.Frag} {H : Hp} {p : Addr} {x : V} {n : Nat} {Q : VK} (h : H p = some (.tup [x])) (h1 : 1 ≤ n) (h2 : n ≤ 1000) (q : ∀ l H', Ex H H' → H' l = some (.tup (List.replicate n x)) → Q (.ref l) H') : rMulV K (.ref p) (.int (n : Nat)) H Q := by
  by_cases e : n = 1
  · subst e
    exact .inr ⟨p, [x], rfl, rfl, SqT.of h, q p H (Ex.refl H) h⟩
  · refine .inl (.inr ⟨p, (n : Nat), [x], rfl, rfl, SqT.of h, by simp, by omega, by omega, by simp, x_new fun l H' _ e hl => q l H' e ?_⟩)
    rw [hl, Int.toNat_natCast]
    congr 2
    exact flat_one x n
end FB
set_option Elab.async false
set_option linter.all false
set_option maxRecDepth 100000
set_option maxHeartbeats 4000000
namespace K
open PySem PySem.Spec PyProof.Rows L2 Evl FB
def top (i : Nat) : Stmt := PySem.Challenge.pw_fullboats_k10_rates_computed.main.body.getD i (.Pass ⟨0, 0, 0, 0⟩)
/-- a def of the text as it stands behind the top -/
structure Df (K : PySem.W.Frag) (mg : Str → Option Value) (x : Str) (st : Stmt) (ps : List Str) (f : Addr) (fd : FuncData) : Prop where
  F : Fun K x x st f fd
  g : mg x = some (.ref f)
  b : Binds K fd ps []
structure Bt (mg : Str → Option Value) : Prop where
  b_range : mg "range" = none
  b_tuple : mg "tuple" = none
  b_min : mg "min" = none
  b_isinstance : mg "isinstance" = none
  b_str : mg "str" = none
  b_dict : mg "dict" = none
  b_bool : mg "bool" = none
  b_sorted : mg "sorted" = none
  b_set : mg "set" = none
  b_enumerate : mg "enumerate" = none
  b_all : mg "all" = none
  b_len : mg "len" = none
  b_list : mg "list" = none
  b_int : mg "int" = none
  b_max : mg "max" = none
  b_sum : mg "sum" = none
  b_zip : mg "zip" = none
  b_abs : mg "abs" = none
  b_reversed : mg "reversed" = none
  b_any : mg "any" = none
local macro_rules | `(tactic| walk_at "run") => `(tactic| try simp only [tSeq, tAsg, tVar, tC, gName, L2.start, List.map_cons, List.map_nil, List.cons_append, List.nil_append, List.length_cons, List.length_nil, List.replicate, List.getElem?_cons_zero, List.getElem?_cons_succ, Option.some.injEq, exists_eq_left', List.set_cons_zero, List.set_cons_succ, V.ref.injEq, tRet, x_tLst, x_tTup, tCons, tCB, tNil, tOp, x_addI, x_mulI, x_rI, x_rI0, x_ltI, x_leI, x_ltS, x_leS, x_eqI, x_neI, x_eqS, x_eqB, x_neB, x_isiI, x_isiS, x_int, x_max, x_min, cxOf, tIfS, tNext, tTest, V.bl.injEq, decide_eq_true_eq, gSub, tAnd, tOr, tNot, tB, tDrop, tBM, x_tFor, iRng1, iList, iTup, x_tLc, tYes, tCall, tIf, tAndV, tOrV, tNotV, tChain, List.append_nil, tUn, if_true, wipe, true_and, x_never, iU, x_itS])
abbrev s_l_mix : Stmt := top 45
theorem sc_l_mix : FnScope ["_law_script", "_law_seed", "_law_mixed", "_law_cell"] ["_law_script", "_law_seed"] (defScope s_l_mix) := ⟨rfl, rfl, rfl, by decide +kernel, rfl, by decide +kernel, by decide +kernel⟩
/-- the law's source of draws: its list at a, its cells at b -/
def Gen (H : Hp) (a b : Addr) : Prop := ∃ (m c : Int) (ns : List Int), H a = some (.lst [.int m, .ref b, .int c]) ∧ H b = some (.lst (ns.map V.int)) ∧ ns.length ≤ 63
section
variable {P : Program} {w : World} {K : PySem.W.Frag} {mg : Str → Option Value} {base : Heap}
def spMix (K : PySem.W.Frag) : Sp := fun vs H Q _ => ∃ (a : Addr) (ns : List Int) (z : Int), vs = [.ref a, .int z] ∧ SqL K H a (ns.map V.int) ∧ ns.length ≤ 63 ∧ ∀ (p b : Addr) (H' : Hp), Ex H H' → H p = none → H b = none → Gen H' p b → Q (.ref p) H'
theorem ok_l_mix {f : Addr} {fd : FuncData} (D : Df K mg "_law_mix" s_l_mix ["_law_script", "_law_seed"] f fd) (T : Bt mg) : FnOk P w K mg base CX0 1 f fd ["_law_script", "_law_seed"] (spMix K) := by
  refine D.F.ok sc_l_mix (fun vs H Q E h => ?_) (fun cdv A outer s H vs Q E hr h => ?_)
  · obtain ⟨a, ns, z, rfl, _⟩ := h
    rfl
  · obtain ⟨a, ns, z, rfl, hS, hl, k⟩ := h
    refine ⟨_, (pss_cons (ps_set (i := 2) sc_l_mix.nd rfl (Or.inl rfl) (pv 1))
      (pss_cons (ps_for PassesOwn.never rfl (pi_U (K := K) (pv 0)) (pg_name (i := 3) sc_l_mix.nd rfl (Or.inl rfl)) (pss_one (ps_set (i := 2) sc_l_mix.nd rfl (Or.inl rfl) (pe_op op_modN (pe_op (op_addU (K := K)) (pe_op (op_addU (K := K)) (pe_op (op_mulU (K := K)) (pv 2) pe_int) (pe_op op_modN (pv 3) pe_int)) pe_int) pe_int))))
      (pss_one (ps_ret (pe_lst (pa_cons (pv 2) (pa_cons (pe_callTy (call_listU (K := K)) (by rfl) T.b_list (by decide +kernel) (pa_cons (pv 0) pa_nil)) (pa_cons pe_int pa_nil)))))))), ?_⟩
    walk_at "run"
    refine x_itL hS (loop_it (walk_list (xs := ns.map V.int)) (fun i σ H' => ∃ (m : Int) (u : Option V), σ = [some (.ref a), some (.int z), some (.int m), u] ∧ H' = H) ⟨z, _, rfl, rfl⟩ (fun i σ H' _ ⟨_, _, _, e⟩ => e ▸ hS) ?_ ?_)
    · rintro i y σ H' _ _ ⟨m, u, rfl, rfl⟩ ⟨rfl, hi⟩
      obtain ⟨n, _, rfl⟩ : ∃ n, ns[i]? = some n ∧ V.int n = y := by simpa using hi
      walk_at "run"
      refine ⟨.inr (by decide), by decide, by decide, _, _, rfl, trivial⟩
    · rintro σ H' ⟨m, u, rfl, rfl⟩
      walk_at "run"
      refine x_listL hS fun l H1 nl e1 h1 => ?_
      walk_at "run"
      refine x_lst (by simp) fun p H2 np e2 h2 => ?_
      exact k p l _ (e1.trans e2) (fresh_back e1 np) nl ⟨m, 0, ns, h2, e2 _ _ h1, hl⟩

theorem ints_ne {ns : List Int} {m c : Int} {b : Addr} : ns.map V.int ≠ [.int m, .ref b, .int c] := by
  intro h
  match ns, h with
  | [], h => cases h
  | [_], h => cases h
  | _ :: _ :: _, h =>
    simp at h
theorem Gen.ne {H : Hp} {a b : Addr} (g : Gen H a b) : a ≠ b := by
  obtain ⟨m, c, ns, h1, h2, _⟩ := g
  exact ne_of h1 h2 (fun z => ints_ne (HO.lst.inj z).symm)
abbrev s_l_next : Stmt := top 46
theorem sc_l_next : FnScope ["_law_h", "_law_limit", "_law_cell"] ["_law_h", "_law_limit"] (defScope s_l_next) := ⟨rfl, rfl, rfl, by decide +kernel, rfl, by decide +kernel, by decide +kernel⟩
def spNext : Sp := fun vs H Q _ => ∃ (a b : Addr) (n : Int), vs = [.ref a, .int n] ∧ Gen H a b ∧ 0 < n ∧ n < 1073741824 ∧ ∀ (r : Int) (H' : Hp), 0 ≤ r → r < n → Gen H' a b → Ex2 a b H H' → Q (.int r) H'
theorem ok_l_next {f : Addr} {fd : FuncData} (D : Df K mg "_law_next" s_l_next ["_law_h", "_law_limit"] f fd) (T : Bt mg) : FnOk P w K mg base CX0 1 f fd ["_law_h", "_law_limit"] spNext := by
  refine D.F.ok sc_l_next (fun vs H Q E h => ?_) (fun cdv A outer s H vs Q E hr h => ?_)
  · obtain ⟨a, b, n, rfl, _⟩ := h
    rfl
  · obtain ⟨a, b, n, rfl, ⟨m, c, ns, hA, hB, hl⟩, h0, h1, k⟩ := h
    refine ⟨_, (pss_cons (ps_set (i := 2) sc_l_next.nd rfl (Or.inl rfl) (pe_ix (ix_U (K := K)) (pe_op (op_addU (K := K)) (pe_ix (ix_U (K := K)) (pv 0) pe_int (fun _ _ => rfl)) (pe_lst (pa_cons pe_int pa_nil))) (pe_op op_modN (pe_callTy call_intU (by rfl) T.b_int (by decide +kernel) (pa_cons (pe_ix (ix_U (K := K)) (pv 0) pe_int (fun _ _ => rfl)) pa_nil)) (pe_callB (call_maxU rfl) (by rfl) T.b_max (by decide +kernel) (pa_cons pe_int (pa_cons (pe_callB (call_lenU (K := K)) (by rfl) T.b_len (by decide +kernel) (pa_cons (pe_ix (ix_U (K := K)) (pv 0) pe_int (fun _ _ => rfl)) pa_nil)) pa_nil)))) (fun _ _ => rfl)))
      (pss_cons (ps_if (pt_cmpR (op_geU) (pv 2) (pe_op op_pow pe_int pe_int) (nomark _)) (pss_cons (ps_asg (pe_op op_fdivN (pv 2) (pv 1)) (pg_sub (pe_ix (ix_U (K := K)) (pv 0) pe_int (fun _ _ => rfl)) (pe_op op_modN (pe_callTy call_intU (by rfl) T.b_int (by decide +kernel) (pa_cons (pe_ix (ix_U (K := K)) (pv 0) pe_int (fun _ _ => rfl)) pa_nil)) (pe_callB (call_lenU (K := K)) (by rfl) T.b_len (by decide +kernel) (pa_cons (pe_ix (ix_U (K := K)) (pv 0) pe_int (fun _ _ => rfl)) pa_nil))) set_list))
      (pss_one (ps_ret (pe_op op_modN (pe_callTy call_intU (by rfl) T.b_int (by decide +kernel) (pa_cons (pv 2) pa_nil)) (pv 1))))) pss_nil)
      (pss_cons (ps_asg (pe_op op_modN (pe_op (op_addU (K := K)) (pe_op (op_addU (K := K)) (pe_op (op_mulU (K := K)) (pe_ix (ix_U (K := K)) (pv 0) pe_int (fun _ _ => rfl)) pe_int) (pe_op (op_mulU (K := K)) (pv 2) pe_int)) pe_int) pe_int) (pg_sub (pv 0) pe_int set_list))
      (pss_cons (ps_asg (pe_op (op_addU (K := K)) (pe_ix (ix_U (K := K)) (pv 0) pe_int (fun _ _ => rfl)) pe_int) (pg_sub (pv 0) pe_int set_list))
      (pss_one (ps_ret (pe_op op_modN (pe_op op_fdivN (pe_ix (ix_U (K := K)) (pv 0) pe_int (fun _ _ => rfl)) pe_int) (pv 1)))))))), ?_⟩
    walk_at "run"
    refine x_ixL (SqL.of hA) rfl ?_
    refine x_lst (by simp) fun p H1 np e1 hp => ?_
    refine x_cat (e1 _ _ hB) hp (by simp; omega) fun l H2 nl e2 hL => ?_
    have hA2 := e2 _ _ (e1 _ _ hA)
    have hB2 := e2 _ _ (e1 _ _ hB)
    refine x_ixL (SqL.of hA2) rfl ?_
    walk_at "run"
    refine x_ixL (SqL.of hA2) rfl ?_
    refine x_lenL (SqL.of hB2) ?_
    walk_at "run"
    have hn : (List.map V.int ns).length = ns.length := List.length_map ..
    rw [hn]
    refine ⟨by split <;> omega, ?_⟩
    generalize hd : (if (ns.length : Int) > 1 then (ns.length : Int) else 1) = d
    have d0 : 0 < d := by rw [← hd]; split <;> omega
    have d1 : d ≤ ns.length ∨ (ns = [] ∧ d = 1) := by
      rw [← hd]
      split
      · exact .inl (Int.le_refl _)
      · by_cases z : ns = []
        · exact .inr ⟨z, rfl⟩
        · have := List.length_pos_iff.mpr z
          exact .inl (by omega)
    have k0 : 0 ≤ c.fmod d := Int.fmod_nonneg_of_pos _ d0
    have k1 : c.fmod d < d := Int.fmod_lt_of_pos _ d0
    obtain ⟨cell, hc, hc0⟩ : ∃ cell : Int, (List.map V.int ns ++ [V.int 0])[(c.fmod d).toNat]? = some (V.int cell) ∧ (cell ≠ 0 → ns ≠ []) := by
      rcases d1 with h | ⟨h, h'⟩
      · have hk : (c.fmod d).toNat < ns.length := by omega
        refine ⟨ns[(c.fmod d).toNat], ?_, fun _ z => by subst z; simp at hk⟩
        rw [List.getElem?_append_left (by simpa using hk)]
        simp [hk]
      · subst h
        subst h'
        have z : c.fmod 1 = 0 := by omega
        rw [z]
        exact ⟨0, rfl, fun z => (z rfl).elim⟩
    refine x_ixL (SqL.of hL) (atI_in k0 hc) ?_
    walk_at "run"
    refine ⟨⟨by decide, by decide, by decide⟩, ?_⟩
    split
    · rename_i hge
      have hge : (10 : Int) ^ Int.toNat 18 ≤ cell := hge
      have hne : ns ≠ [] := hc0 (by intro z; rw [z] at hge; exact absurd hge (by decide))
      have hp' := List.length_pos_iff.mpr hne
      refine ⟨⟨by omega, by omega⟩, ?_⟩
      refine x_ixL (SqL.of hA2) rfl ?_
      refine x_ixL (SqL.of hA2) rfl ?_
      walk_at "run"
      refine x_ixL (SqL.of hA2) rfl ?_
      refine x_lenL (SqL.of hB2) ?_
      walk_at "run"
      rw [hn]
      have q0 : 0 ≤ c.fmod ns.length := Int.fmod_nonneg_of_pos _ (by omega)
      have q1 : c.fmod ns.length < ns.length := Int.fmod_lt_of_pos _ (by omega)
      refine ⟨by omega, ?_⟩
      refine x_setL hB2 (ixN_in q0 (by simpa using q1)) fun H3 e3 hB3 => ?_
      walk_at "run"
      refine ⟨by omega, ?_⟩
      have nab : a ≠ b := Gen.ne ⟨m, c, ns, hA2, hB2, hl⟩
      refine k _ H3 (Int.fmod_nonneg_of_pos _ h0) (Int.fmod_lt_of_pos _ h0) ⟨m, c, ns.set (c.fmod ns.length).toNat (cell.fdiv n), e3 _ _ nab hA2, by rw [hB3, List.map_set], by simpa using hl⟩ fun x o h _ hb => e3 _ _ hb (e2 _ _ (e1 _ _ h))
    · refine x_ixL (SqL.of hA2) rfl ?_
      walk_at "run"
      refine ⟨.inr (by decide), .inr (by decide), by decide, ?_⟩
      refine x_setL hA2 rfl fun H3 e3 hA3 => ?_
      refine x_ixL (SqL.of hA3) rfl ?_
      walk_at "run"
      refine x_setL hA3 rfl fun H4 e4 hA4 => ?_
      refine x_ixL (SqL.of hA4) rfl ?_
      walk_at "run"
      refine ⟨⟨by decide, by decide⟩, by omega, ?_⟩
      have nab : b ≠ a := (Gen.ne ⟨m, c, ns, hA2, hB2, hl⟩).symm
      refine k _ H4 (Int.fmod_nonneg_of_pos _ h0) (Int.fmod_lt_of_pos _ h0) ⟨_, _, ns, hA4, e4 _ _ nab (e3 _ _ nab hB2), hl⟩ fun x o h ha _ => e4 _ _ ha (e3 _ _ ha (e2 _ _ (e1 _ _ h)))
end
end K
set_option Elab.async false
set_option linter.all false
set_option maxRecDepth 100000
set_option maxHeartbeats 4000000
namespace K
open PySem PySem.Spec PyProof.Rows L2 Evl FB
local macro_rules | `(tactic| walk_at "run") => `(tactic| try simp only [tSeq, tAsg, tVar, tC, gName, L2.start, List.map_cons, List.map_nil, List.cons_append, List.nil_append, List.length_cons, List.length_nil, List.replicate, List.getElem?_cons_zero, List.getElem?_cons_succ, Option.some.injEq, exists_eq_left', List.set_cons_zero, List.set_cons_succ, V.ref.injEq, tRet, x_tLst, x_tTup, tCons, tCB, tNil, tOp, x_addI, x_mulI, x_rI, x_rI0, x_ltI, x_leI, x_ltS, x_leS, x_eqI, x_neI, x_eqS, x_eqB, x_neB, x_isiI, x_isiS, x_int, x_max, x_min, cxOf, tIfS, tNext, tTest, V.bl.injEq, decide_eq_true_eq, gSub, tAnd, tOr, tNot, tB, tDrop, tBM, x_tFor, iRng1, iList, iTup, x_tLc, tYes, tCall, tIf, tAndV, tOrV, tNotV, tChain, List.append_nil, tUn, if_true, wipe, true_and, x_never, iU, x_itS])
theorem Gen.ex {H H' : Hp} {a b : Addr} (g : Gen H a b) (e : Ex H H') : Gen H' a b := by
  obtain ⟨m, c, ns, h1, h2, h3⟩ := g
  exact ⟨m, c, ns, e _ _ h1, e _ _ h2, h3⟩
theorem Gen.na {H : Hp} {a b p : Addr} (g : Gen H a b) (h : H p = none) : p ≠ a := by
  obtain ⟨m, c, ns, h1, h2, h3⟩ := g
  exact (ne_of_none h1 h).symm
theorem Gen.nb {H : Hp} {a b p : Addr} (g : Gen H a b) (h : H p = none) : p ≠ b := by
  obtain ⟨m, c, ns, h1, h2, h3⟩ := g
  exact (ne_of_none h2 h).symm
theorem Gen.tx {H H' : Hp} {a b : Addr} (g : Gen H a b) (e : Ex2 a b H H') : TX H H' := by
  obtain ⟨m, c, ns, h1, h2, h3⟩ := g
  exact TX.two h1 h2 e
theorem Gen.but {H H' : Hp} {a b p : Addr} (g : Gen H a b) (ha : p ≠ a) (hb : p ≠ b) (e : ∀ x o, x ≠ p → H x = some o → H' x = some o) : Gen H' a b := by
  obtain ⟨m, c, ns, h1, h2, h3⟩ := g
  exact ⟨m, c, ns, e _ _ ha.symm h1, e _ _ hb.symm h2, h3⟩
theorem x_next {H : Hp} {a b : Addr} {n : Int} {Q : VK} {E : XK} (g : Gen H a b) (h0 : 0 < n) (h1 : n < 1073741824) (k : ∀ r H', 0 ≤ r → r < n → Gen H' a b → Ex2 a b H H' → Q (.int r) H') : spNext [.ref a, .int n] H Q E :=
  ⟨a, b, n, rfl, g, h0, h1, k⟩
def W4 : List Str := ["a", "b", "west", "abcdefgh"]
/-- a place that is drawn for a seat of the station st of n -/
def PlOk (st n : Int) : Key → Prop
  | .inl j => st < j ∧ j < n
  | .inr z => z ∈ W4
abbrev s_l_place : Stmt := top 49
theorem sc_l_place : FnScope ["_law_h", "_law_station", "_law_count", "_law_far"] ["_law_h", "_law_station", "_law_count"] (defScope s_l_place) := ⟨rfl, rfl, rfl, by decide +kernel, rfl, by decide +kernel, by decide +kernel⟩
/-- a network that is drawn -/
structure Drawn (N : Net) (most : Int) : Prop where
  pos : 1 ≤ N.length
  le : (N.length : Int) ≤ most
  st : ∀ (k : Nat) s, N[k]? = some s → 1 ≤ s.length ∧ s.length ≤ 8 ∧ ∀ p ∈ s, PlOk k N.length p
section
variable {P : Program} {w : World} {K : PySem.W.Frag} {mg : Str → Option Value} {base : Heap}
def spPlace : Sp := fun vs H Q _ => ∃ (a b : Addr) (st n : Int), vs = [.ref a, .int st, .int n] ∧ Gen H a b ∧ 0 ≤ st ∧ st < n ∧ n ≤ 1000000 ∧ ∀ (k : Key) (H' : Hp), PlOk st n k → Gen H' a b → Ex2 a b H H' → Q (kV k) H'
theorem ok_l_place {f f1 : Addr} {fd fd1 : FuncData} (D : Df K mg "_law_place" s_l_place ["_law_h", "_law_station", "_law_count"] f fd) (T : Bt mg) (D_l_next : Df K mg "_law_next" s_l_next ["_law_h", "_law_limit"] f1 fd1) :
    FnOk P w K mg base CX0 2 f fd ["_law_h", "_law_station", "_law_count"] spPlace := by
  have G_l_next : FnOk P w K mg base CX0 1 f1 fd1 _ _ := ok_l_next D_l_next T
  refine D.F.ok sc_l_place (fun vs H Q E h => ?_) (fun cdv A outer s H vs Q E hr h => ?_)
  · obtain ⟨a, b, st, n, rfl, _⟩ := h
    rfl
  · obtain ⟨a, b, st, n, rfl, g, h0, h1, h2, k⟩ := h
    refine ⟨_, (pss_cons (ps_if (PW.pt (pw_and (pt_cmpR (op_ltU) (pe_op (op_addU (K := K)) (pv 1) pe_int) (pv 2) (nomark _)) (pw_and1 (pt_cmpR (op_gtU) (pe_call (G_l_next) (hr.mono (by decide)) rfl D_l_next.g D_l_next.F.kp D_l_next.b .nil pass0 (pa_cons (pv 0) (pa_cons pe_int pa_nil))) pe_int (nomark _))))) (pss_cons (ps_set (i := 3) sc_l_place.nd rfl (Or.inl rfl) (pe_ix (ix_U (K := K)) (pe_lst (pa_cons pe_int (pa_cons pe_int (pa_cons (pv 2) pa_nil)))) (pe_call (G_l_next) (hr.mono (by decide)) rfl D_l_next.g D_l_next.F.kp D_l_next.b .nil pass0 (pa_cons (pv 0) (pa_cons pe_int pa_nil))) (fun _ _ => rfl)))
      (pss_one (ps_ret (pe_op (op_addU (K := K)) (pe_op (op_addU (K := K)) (pv 1) pe_int) (pe_call (G_l_next) (hr.mono (by decide)) rfl D_l_next.g D_l_next.F.kp D_l_next.b .nil pass0 (pa_cons (pv 0) (pa_cons (pe_callB (call_maxU rfl) (by rfl) T.b_max (by decide +kernel) (pa_cons pe_int (pa_cons (pe_callB (call_minU rfl) (by rfl) T.b_min (by decide +kernel) (pa_cons (pv 3) (pa_cons (pe_op op_sub (pe_op op_sub (pv 2) (pv 1)) pe_int) pa_nil))) pa_nil))) pa_nil))))))) pss_nil)
      (pss_one (ps_ret (pe_ix (ix_U (K := K)) (pe_lst (pa_cons pe_str (pa_cons pe_str (pa_cons pe_str (pa_cons pe_str pa_nil))))) (pe_call (G_l_next) (hr.mono (by decide)) rfl D_l_next.g D_l_next.F.kp D_l_next.b .nil pass0 (pa_cons (pv 0) (pa_cons pe_int pa_nil))) (fun _ _ => rfl))))), ?_⟩
    walk_at "run"
    have tail : ∀ H1, Gen H1 a b → Ex2 a b H H1 → rLst [V.str "a", V.str "b", V.str "west", V.str "abcdefgh"] H1 fun x H1 => spNext [V.ref a, V.int 4] H1 (fun y H2 => rIx K x y H2 Q) E0 := by
      intro H1 g1 e1
      refine x_lst (by simp) fun p H2 np e2 hp => ?_
      refine x_next (g1.ex e2) (by decide) (by decide) fun r H3 r0 r1 g3 e3 => ?_
      have hp3 := e3 _ _ hp (g1.na np) (g1.nb np)
      have e := (e1.ex e2).trans e3
      obtain rfl | rfl | rfl | rfl : r = 0 ∨ r = 1 ∨ r = 2 ∨ r = 3 := by omega
      · exact x_ixL (SqL.of hp3) rfl (k (.inr "a") _ (.head _) g3 e)
      · exact x_ixL (SqL.of hp3) rfl (k (.inr "b") _ (.tail _ (.head _)) g3 e)
      · exact x_ixL (SqL.of hp3) rfl (k (.inr "west") _ (.tail _ (.tail _ (.head _))) g3 e)
      · exact x_ixL (SqL.of hp3) rfl (k (.inr "abcdefgh") _ (.tail _ (.tail _ (.tail _ (.head _)))) g3 e)
    split
    · refine x_next g (by decide) (by decide) fun r H1 r0 r1 g1 e1 => ?_
      walk_at "run"
      split
      · refine x_lst (by simp) fun p H2 np e2 hp => ?_
        refine x_next (g1.ex e2) (by decide) (by decide) fun r H3 r0 r1 g3 e3 => ?_
        have hp3 := e3 _ _ hp (g1.na np) (g1.nb np)
        have e := (e1.ex e2).trans e3
        have fin : ∀ far : Int, 1 ≤ far → far ≤ 1000000 → rMinU [V.int far, V.int (n - st - 1)] H3 fun x H1 => rMaxU [V.int 1, x] H1 fun x H1 => spNext [V.ref a, x] H1 (fun y H2 => rAddU K (V.int (st + 1)) y H2 Q) E0 := by
          intro far f0 f1
          walk_at "run"
          refine x_next g3 (by split <;> (split at * <;> omega)) (by split <;> (split at * <;> omega)) fun r H4 r0 r1 g4 e4 => ?_
          walk_at "run"
          exact k (.inl (st + 1 + r)) _ ⟨by omega, by revert r1; split <;> (split at * <;> omega)⟩ g4 (e.trans e4)
        obtain rfl | rfl | rfl : r = 0 ∨ r = 1 ∨ r = 2 := by omega
        · exact x_ixL (SqL.of hp3) rfl (fin _ (by omega) (by omega))
        · exact x_ixL (SqL.of hp3) rfl (fin _ (by omega) (by omega))
        · exact x_ixL (SqL.of hp3) rfl (fin _ (by omega) (by omega))
      · exact tail _ g1 e1
    · rw [if_neg Bool.false_ne_true]
      exact tail _ g (Ex2.refl _)
abbrev s_l_network : Stmt := top 50
theorem sc_l_network : FnScope ["_law_h", "_law_most", "_law_count", "_law_network_here", "_law_station", "_law_seats", "_law_seat"] ["_law_h", "_law_most"] (defScope s_l_network) := ⟨rfl, rfl, rfl, by decide +kernel, rfl, by decide +kernel, by decide +kernel⟩
def spNetwork (K : PySem.W.Frag) : Sp := fun vs H Q _ => ∃ (a b : Addr) (most : Int), vs = [.ref a, .int most] ∧ Gen H a b ∧ 1 ≤ most ∧ most ≤ 1000 ∧ ∀ (v : V) (N : Net) (H' : Hp), Drawn N most → NetAt K H' v N → Gen H' a b → Ex2 a b H H' → Q v H'
theorem ok_l_network {f f1 f2 : Addr} {fd fd1 fd2 : FuncData} (D : Df K mg "_law_network" s_l_network ["_law_h", "_law_most"] f fd) (T : Bt mg) (D_l_next : Df K mg "_law_next" s_l_next ["_law_h", "_law_limit"] f1 fd1)
    (D_l_place : Df K mg "_law_place" s_l_place ["_law_h", "_law_station", "_law_count"] f2 fd2) :
    FnOk P w K mg base CX0 3 f fd ["_law_h", "_law_most"] (spNetwork K) := by
  have G_l_next : FnOk P w K mg base CX0 1 f1 fd1 _ _ := ok_l_next D_l_next T
  have G_l_place : FnOk P w K mg base CX0 2 f2 fd2 _ _ := ok_l_place D_l_place T D_l_next
  refine D.F.ok sc_l_network (fun vs H Q E h => ?_) (fun cdv A outer s H vs Q E hr h => ?_)
  · obtain ⟨a, b, n, rfl, _⟩ := h
    rfl
  · obtain ⟨a, b, most, rfl, g, h0, h1, k⟩ := h
    refine ⟨_, (pss_cons (ps_set (i := 2) sc_l_network.nd rfl (Or.inr rfl) (pe_op (op_addU (K := K)) pe_int (pe_call (G_l_next) (hr.mono (by decide)) rfl D_l_next.g D_l_next.F.kp D_l_next.b .nil pass0 (pa_cons (pv 0) (pa_cons (pv 1) pa_nil)))))
      (pss_cons (ps_set (i := 3) sc_l_network.nd rfl (Or.inl rfl) (pe_lst pa_nil))
      (pss_cons (ps_for PassesOwn.never rfl (pi_range1 (by rfl) T.b_range (pa_cons (pv 2) pa_nil)) (pg_name (i := 4) sc_l_network.nd rfl (Or.inr rfl)) (pss_cons (ps_set (i := 5) sc_l_network.nd rfl (Or.inl rfl) (pe_op (op_addU (K := K)) pe_int (pe_call (G_l_next) (hr.mono (by decide)) rfl D_l_next.g D_l_next.F.kp D_l_next.b .nil pass0 (pa_cons (pv 0) (pa_cons (pe_ix (ix_U (K := K)) (pe_lst (pa_cons pe_int (pa_cons pe_int (pa_cons pe_int pa_nil)))) (pe_call (G_l_next) (hr.mono (by decide)) rfl D_l_next.g D_l_next.F.kp D_l_next.b .nil pass0 (pa_cons (pv 0) (pa_cons pe_int pa_nil))) (fun _ _ => rfl)) pa_nil)))))
      (pss_one (ps_expr (pe_bm PySem.F.plainAttrs_list PySem.F.slot_list_append PySem.F.type_list_append mt_append (pv 3) (pa_cons (pe_callTy (call_tupU (K := K)) (by rfl) T.b_tuple (by decide +kernel) (pa_cons (pe_lc (own := [("_law_seat", 6)]) (g := gName 6) (tt := tYes) rfl sc_l_network.nd (pi_range1 (by rfl) T.b_range (pa_cons (pv 5) pa_nil)) (blkOk_by (own := [("_law_seat", 6)]) (N := ["_law_h", "_law_most", "_law_count", "_law_network_here", "_law_station", "_law_seats", "_law_seat"]) (sc := defScope s_l_network) (by decide +kernel)) (fun _ _ _ _ _ => (pg_name (i := 6) sc_l_network.nd rfl (Or.inl rfl))) (fun _ _ _ _ _ => pts_nil) (fun _ _ _ _ _ => (pe_call (G_l_place) (hr.mono (by decide)) rfl D_l_place.g D_l_place.F.kp D_l_place.b .nil pass0 (pa_cons (pv 0) (pa_cons (pv 4) (pa_cons (pv 2) pa_nil)))))) pa_nil)) pa_nil))))))
      (pss_one (ps_ret (pe_callTy (call_tupU (K := K)) (by rfl) T.b_tuple (by decide +kernel) (pa_cons (pv 3) pa_nil))))))), ?_⟩
    walk_at "run"
    refine x_next g (by omega) (by omega) fun r H1 r0 r1 g1 e1 => ?_
    walk_at "run"
    refine x_lst (by simp) fun L H2 nL e2 hL => ?_
    obtain ⟨n, hn⟩ : ∃ n : Nat, 1 + r = (n : Int) := ⟨(1 + r).toNat, by omega⟩
    rw [hn]
    refine ⟨n, rfl, by omega, by omega, ?_⟩
    have hn1 : 1 ≤ n := by omega
    have nLa := (g1.na nL)
    have nLb := (g1.nb nL)
    have e02 : Ex2 a b H H2 := e1.ex e2
    refine loop_it walk_range (fun i σ H' => ∃ (u5 u6 u4 : Option V) (ts : List V) (M : Net), σ = [some (.ref a), some (.int most), some (.int n), some (.ref L), u4, u5, u6] ∧ H' L = some (.lst ts) ∧ DpAll K H' ts (M.map stD) ∧ M.length = i ∧ Gen H' a b ∧ (∀ x o, H x = some o → x ≠ a → x ≠ b → H' x = some o) ∧
      ∀ (k : Nat) s, M[k]? = some s → 1 ≤ s.length ∧ s.length ≤ 8 ∧ ∀ p ∈ s, PlOk k n p) ⟨_, _, _, [], [], rfl, hL, .nil, rfl, g1.ex e2, e02, fun k s h => by simp at h⟩ (fun _ _ _ _ _ => trivial) ?_ ?_
    · rintro i x σ H3 H3' hi ⟨u5, u6, u4, ts, M, rfl, hL3, hts, hM, g3, e3, hok⟩ ⟨eH, rfl⟩
      subst eH
      have hi : i < n := by simpa using hi
      walk_at "run"
      refine x_lst (by simp) fun p H4 np e4 hp => ?_
      refine x_next (g3.ex e4) (by decide) (by decide) fun r H5 r0 r1 g5 e5 => ?_
      have hp5 := e5 _ _ hp (g3.na np) (g3.nb np)
      have hL5 := e5 _ _ (e4 _ _ hL3) nLa nLb
      have e35 := (Ex2.of e4).trans e5
      have t35 := (TX.of e4).trans ((g3.ex e4).tx e5)
      refine x_menu hp5 r0 (by simpa using r1) fun v _ hv => ?_
      obtain ⟨q, rfl, q0, q1⟩ : ∃ q : Int, v = .int q ∧ 2 ≤ q ∧ q ≤ 8 := by
        simp at hv
        rcases hv with rfl | rfl | rfl <;> exact ⟨_, rfl, by omega, by omega⟩
      refine x_next g5 (by omega) (by omega) fun r H6 r0 r1 g6 e6 => ?_
      obtain ⟨m, hm⟩ : ∃ m : Nat, 1 + r = (m : Int) := ⟨(1 + r).toNat, by omega⟩
      have hL6 := e6 _ _ hL5 nLa nLb
      walk_at "run"
      rw [hm]
      refine ⟨x_tyL (SqL.of hL6), m, rfl, by omega, by omega, ?_⟩
      refine lcl_it walk_range (fun D j H' => ∃ acc : List Key, H' D = some (.lst (acc.map kV)) ∧ acc.length = j ∧ (∀ p ∈ acc, PlOk i n p) ∧ Gen H' a b ∧ ∀ x o, H6 x = some o → x ≠ a → x ≠ b → H' x = some o)
        (fun D H' hD e h => ⟨[], h, rfl, (by simp), g6.ex e, fun x o hx _ _ => e _ _ hx⟩) (fun _ _ _ _ _ => trivial) ?_ ?_
      · rintro D j x H7 H7' hD hj ⟨acc, hacc, hl, hok, g7, e7⟩ ⟨eH, rfl⟩
        subst eH
        have hj : j < m := by simpa using hj
        walk_at "run"
        refine ⟨a, b, _, _, rfl, g7, by omega, by omega, by omega, fun k H8 hk g8 e8 => ?_⟩
        refine x_push (e8 _ _ hacc (g6.na hD) (g6.nb hD)) (by simp; omega) fun H9 e9 h9 => ⟨acc ++ [k], by rw [h9]; simp, by simp [hl], ?_, g8.but (g6.na hD) (g6.nb hD) e9, fun x o hx ha hb => e9 _ _ (ne_of_none hx hD) (e8 _ _ (e7 _ _ hx ha hb) ha hb)⟩
        intro p hp
        rcases List.mem_append.mp hp with h | h
        · exact hok p h
        · obtain rfl : p = k := by simpa using h
          have e : (0 : Int) + i = i := by omega
          rw [e] at hk
          exact hk
      · rintro D H7 hD ⟨acc, hacc, hl, hok', g7, e7⟩
        have hl : acc.length = m := by simpa using hl
        refine x_tupL (SqL.of hacc) fun t H8 nt e8 ht => ?_
        have hL8 := e8 _ _ (e7 _ _ hL6 nLa nLb)
        refine x_append hL8 (by rw [hts.len]; simp; omega) fun H9 e9 h9 => ?_
        have t9 : TX H3' H9 := (((t35.trans (g5.tx e6)).trans (g6.tx e7)).trans (TX.of e8)).trans (TX.but hL8 e9)
        have hL7 := e7 _ _ hL6 nLa nLb
        have nLt : L ≠ t := ne_of_none hL7 nt
        refine ⟨some (.int m), u6, some (.int (0 + (i : Int))), ts ++ [.ref t], M ++ [acc], rfl, h9, ?_, by simp [hM], (g7.ex e8).but nLa nLb e9, fun x o hx ha hb => ?_, ?_⟩
        · rw [List.map_append]
          exact DpAll.append (DpAll.tx t9 hts fun d hd => (netD_t M).all d hd) (.cons (StAt.of (SqT.of (e9 _ _ nLt.symm ht))) .nil)
        · exact e9 _ _ (fun z => by subst z; exact absurd (e1 _ _ hx ha hb) (by rw [nL]; simp)) (e8 _ _ (e7 _ _ (e6 _ _ (e5 _ _ (e4 _ _ (e3 _ _ hx ha hb)) ha hb) ha hb) ha hb))
        · intro k s hs
          by_cases hk : k < M.length
          · rw [List.getElem?_append_left hk] at hs
            exact hok k s hs
          · rw [List.getElem?_append_right (by omega)] at hs
            have hz : k - M.length = 0 := by
              have := (List.getElem?_eq_some_iff.mp hs).1
              simp at this
              omega
            rw [hz] at hs
            obtain rfl : acc = s := by simpa using hs
            exact ⟨by omega, by omega, fun p hp => by
              have e : k = i := by omega
              rw [e]; exact hok' p hp⟩
    · rintro σ H3 ⟨u5, u6, u4, ts, M, rfl, hL3, hts, hM, g3, e3, hok⟩
      walk_at "run"
      refine x_tupL (SqL.of hL3) fun p H4 np e4 hp => ?_
      have hM : M.length = n := by simpa using hM
      refine k _ M _ ⟨by omega, by omega, fun k s h => by rw [hM]; exact hok k s h⟩ (.tup (SqT.of hp) (DpAll.ex e4 hts)) (g3.ex e4) (Ex2.ex e3 e4)
end
end K
set_option Elab.async false
set_option linter.all false
set_option maxRecDepth 100000
set_option maxHeartbeats 4000000
namespace K
open PySem PySem.Spec PyProof.Rows L2 Evl FB
local macro_rules | `(tactic| walk_at "run") => `(tactic| try simp only [tSeq, tAsg, tVar, tC, gName, L2.start, List.map_cons, List.map_nil, List.cons_append, List.nil_append, List.length_cons, List.length_nil, List.replicate, List.getElem?_cons_zero, List.getElem?_cons_succ, Option.some.injEq, exists_eq_left', List.set_cons_zero, List.set_cons_succ, V.ref.injEq, tRet, x_tLst, x_tTup, tCons, tCB, tNil, tOp, x_addI, x_mulI, x_rI, x_rI0, x_ltI, x_leI, x_ltS, x_leS, x_eqI, x_neI, x_eqS, x_eqB, x_neB, x_isiI, x_isiS, x_int, x_max, x_min, cxOf, tIfS, tNext, tTest, V.bl.injEq, decide_eq_true_eq, gSub, tAnd, tOr, tNot, tB, tDrop, tBM, x_tFor, iRng1, iList, iTup, x_tLc, tYes, tCall, tIf, tAndV, tOrV, tNotV, tChain, List.append_nil, tUn, if_true, wipe, true_and, x_never, iU, x_itS])
section
variable {P : Program} {w : World} {K : PySem.W.Frag} {mg : Str → Option Value} {base : Heap}
theorem FnOk.never {CX : CXT} {k : Nat} {f : Addr} {fd : FuncData} {ps : List Str} : FnOk P w K mg base CX k f fd ps (fun _ _ _ _ => False) := ⟨fun _ _ _ _ h => h.elim, fun _ _ _ _ _ _ _ _ _ _ _ _ _ h => h.elim⟩
abbrev s_l_alike : Stmt := top 47
theorem sc_l_alike : FnScope ["_law_found", "_law_due", "_law_k"] ["_law_found", "_law_due"] (defScope s_l_alike) := ⟨rfl, rfl, rfl, by decide +kernel, rfl, by decide +kernel, by decide +kernel⟩
theorem mem_depth : ∀ {ds : List PyData} {e : PyData}, e ∈ ds → e.depth ≤ PyData.depthAll ds
  | x :: r, e, h => by
    rw [PyData.depthAll]
    rcases List.mem_cons.mp h with rfl | h
    · omega
    · have := mem_depth h
      omega
theorem mem_lay : ∀ {ds : List PyData} {e : PyData}, PyData.canLayAll0 ds = true → e ∈ ds → e.canLay0 = true
  | x :: r, e, hc, h => by
    rw [PyData.canLayAll0, Bool.and_eq_true] at hc
    rcases List.mem_cons.mp h with rfl | h
    · exact hc.1
    · exact mem_lay hc.2 h
theorem shaped_mk {d : PyData} (h : d.canLay0 = true) (h2 : d.depth ≤ 64) : SeqAt.shaped d = true := by
  unfold SeqAt.shaped
  rw [h]
  simpa using h2
theorem shaped_get {d : PyData} (h : SeqAt.shaped d = true) : d.canLay0 = true ∧ d.depth ≤ 64 := by
  unfold SeqAt.shaped at h
  simpa using h
theorem shaped_l {ds : List PyData} {e : PyData} (h : SeqAt.shaped (.list ds) = true) (he : e ∈ ds) : SeqAt.shaped e = true ∧ e.depth + 1 ≤ (PyData.list ds).depth := by
  obtain ⟨h1, h2⟩ := shaped_get h
  rw [PyData.canLay0] at h1
  rw [PyData.depth] at h2 ⊢
  have := mem_depth he
  exact ⟨shaped_mk (mem_lay h1 he) (by omega), by omega⟩
theorem shaped_t {ds : List PyData} {e : PyData} (h : SeqAt.shaped (.tuple ds) = true) (he : e ∈ ds) : SeqAt.shaped e = true ∧ e.depth + 1 ≤ (PyData.tuple ds).depth := by
  obtain ⟨h1, h2⟩ := shaped_get h
  rw [PyData.canLay0] at h1
  rw [PyData.depth] at h2 ⊢
  have := mem_depth he
  exact ⟨shaped_mk (mem_lay h1 he) (by omega), by omega⟩
theorem eqv_same {d : PyData} (h : SeqAt.shaped d = true) : PyData.eqv d d = true := SeqAt.eqv_refl d (shaped_get h).1
/-- no list or tuple in it is very long -/
inductive SmD : PyData → Prop
  | non : SmD .none
  | bl (b : Bool) : SmD (.bool b)
  | int (i : Int) : SmD (.int i)
  | str (x : Str) : SmD (.str x)
  | lst {ds : List PyData} : ds.length ≤ 1000000 → (∀ d ∈ ds, SmD d) → SmD (.list ds)
  | tup {ds : List PyData} : ds.length ≤ 1000000 → (∀ d ∈ ds, SmD d) → SmD (.tuple ds)
/-- the same data on both sides, not deeper than n -/
def spAlike (K : PySem.W.Frag) : Nat → Sp
  | 0 => fun _ _ _ _ => False
  | n + 1 => fun vs H Q _ => ∃ (x y : V) (d : PyData), vs = [x, y] ∧ Dp K H x d ∧ Dp K H y d ∧ SeqAt.shaped d = true ∧ d.depth ≤ n ∧ SmD d ∧ ∀ H', Ex H H' → Q (.bl true) H'
theorem ok_l_alike {f : Addr} {fd : FuncData} (D : Df K mg "_law_alike" s_l_alike ["_law_found", "_law_due"] f fd) (T : Bt mg) : ∀ n, FnOk P w K mg base CX0 n f fd ["_law_found", "_law_due"] (spAlike K n)
  | 0 => FnOk.never
  | n + 1 => by
    have D_l_alike := D
    have G_l_alike : FnOk P w K mg base CX0 n f fd _ _ := ok_l_alike D T n
    refine D.F.ok sc_l_alike (fun vs H Q E h => ?_) (fun cdv A outer s H vs Q E hr h => ?_)
    · obtain ⟨a, b, n, rfl, _⟩ := h
      rfl
    · obtain ⟨x, y, d, rfl, hx, hy, sh, hd, sm, k⟩ := h
      have hu := hr.units
      refine ⟨_, (pss_cons (ps_if (pt_val (pe_callB (call_isiU (K := K)) (by rfl) T.b_isinstance (by decide +kernel) (pa_cons (pv 1) (pa_cons (pe_bltn (v := .ty "dict") (by rfl) T.b_dict (by decide +kernel) rfl) pa_nil)))) pss_never pss_nil)
      (pss_cons (ps_if (pt_val (pe_callB (call_isiU (K := K)) (by rfl) T.b_isinstance (by decide +kernel) (pa_cons (pv 1) (pa_cons (pe_tup (pa_cons (pe_bltn (v := .ty "tuple") (by rfl) T.b_tuple (by decide +kernel) rfl) (pa_cons (pe_bltn (v := .ty "list") (by rfl) T.b_list (by decide +kernel) rfl) pa_nil))) pa_nil)))) (pss_cons (ps_if (PW.pt (pw_or (pt_not (pt_val (pe_callB (call_isiU (K := K)) (by rfl) T.b_isinstance (by decide +kernel) (pa_cons (pv 0) (pa_cons (pe_tup (pa_cons (pe_bltn (v := .ty "tuple") (by rfl) T.b_tuple (by decide +kernel) rfl) (pa_cons (pe_bltn (v := .ty "list") (by rfl) T.b_list (by decide +kernel) rfl) pa_nil))) pa_nil))))) (pw_or1 (pt_cmpR (op_neU (K := K) hu) (pe_callB (call_isiU (K := K)) (by rfl) T.b_isinstance (by decide +kernel) (pa_cons (pv 0) (pa_cons (pe_bltn (v := .ty "list") (by rfl) T.b_list (by decide +kernel) rfl) pa_nil))) (pe_callB (call_isiU (K := K)) (by rfl) T.b_isinstance (by decide +kernel) (pa_cons (pv 1) (pa_cons (pe_bltn (v := .ty "list") (by rfl) T.b_list (by decide +kernel) rfl) pa_nil))) (nomark _))))) (pss_one (ps_ret pe_bl)) pss_nil)
      (pss_cons (ps_if (pt_cmpR (op_neU (K := K) hu) (pe_callB (call_lenU (K := K)) (by rfl) T.b_len (by decide +kernel) (pa_cons (pv 0) pa_nil)) (pe_callB (call_lenU (K := K)) (by rfl) T.b_len (by decide +kernel) (pa_cons (pv 1) pa_nil)) (nomark _)) (pss_one (ps_ret pe_bl)) pss_nil)
      (pss_one (ps_ret (pe_cmpR (op_eqU (K := K) hu) (pe_lc (own := [("_law_k", 2)]) (g := gName 2) (tt := _) rfl sc_l_alike.nd (pi_range1 (by rfl) T.b_range (pa_cons (pe_callB (call_lenU (K := K)) (by rfl) T.b_len (by decide +kernel) (pa_cons (pv 1) pa_nil)) pa_nil)) (blkOk_by (own := [("_law_k", 2)]) (N := ["_law_found", "_law_due", "_law_k"]) (sc := defScope s_l_alike) (by decide +kernel)) (fun _ _ _ _ _ => (pg_name (i := 2) sc_l_alike.nd rfl (Or.inl rfl))) (fun _ _ _ _ _ => (pts_one (pt_not (pt_val (pe_call (G_l_alike) hr rfl D_l_alike.g D_l_alike.F.kp D_l_alike.b .nil pass0 (pa_cons (pe_ix (ix_U (K := K)) (pv 0) (pv 2) (fun _ _ => rfl)) (pa_cons (pe_ix (ix_U (K := K)) (pv 1) (pv 2) (fun _ _ => rfl)) pa_nil))))))) (fun _ _ _ _ _ => (pv 2))) (pe_lst pa_nil) (nomark _)))))) pss_nil)
      (pss_cons (ps_if (PW.pt (pw_or (pt_cmpR op_isN (pv 1) pe_non (nomark _)) (pw_or1 (pt_val (pe_callB (call_isiU (K := K)) (by rfl) T.b_isinstance (by decide +kernel) (pa_cons (pv 1) (pa_cons (pe_bltn (v := .ty "str") (by rfl) T.b_str (by decide +kernel) rfl) pa_nil))))))) (pss_one (ps_ret (pe_and (pe_cmpR (op_eqU (K := K) hu) (pv 0) (pv 1) (nomark _)) (pe_one (pe_cmpR (op_eqU (K := K) hu) (pe_callB (call_isiU (K := K)) (by rfl) T.b_isinstance (by decide +kernel) (pa_cons (pv 0) (pa_cons (pe_bltn (v := .ty "str") (by rfl) T.b_str (by decide +kernel) rfl) pa_nil))) (pe_callB (call_isiU (K := K)) (by rfl) T.b_isinstance (by decide +kernel) (pa_cons (pv 1) (pa_cons (pe_bltn (v := .ty "str") (by rfl) T.b_str (by decide +kernel) rfl) pa_nil))) (nomark _)))))) pss_nil)
      (pss_one (ps_ret (pe_and (pe_callB (call_isiU (K := K)) (by rfl) T.b_isinstance (by decide +kernel) (pa_cons (pv 0) (pa_cons (pe_bltn (v := .ty "int") (by rfl) T.b_int (by decide +kernel) rfl) pa_nil))) (pe_and (pe_cmpR (op_eqU (K := K) hu) (pe_callB (call_isiU (K := K)) (by rfl) T.b_isinstance (by decide +kernel) (pa_cons (pv 0) (pa_cons (pe_bltn (v := .ty "bool") (by rfl) T.b_bool (by decide +kernel) rfl) pa_nil))) (pe_callB (call_isiU (K := K)) (by rfl) T.b_isinstance (by decide +kernel) (pa_cons (pv 1) (pa_cons (pe_bltn (v := .ty "bool") (by rfl) T.b_bool (by decide +kernel) rfl) pa_nil))) (nomark _)) (pe_one (pe_cmpR (op_eqU (K := K) hu) (pv 0) (pv 1) (nomark _)))))))))), ?_⟩
      walk_at "run"
      -- a tuple or a list: the items
      have seq : ∀ (ds : List PyData) (a b : Addr) (xs ys : List V) (H1 : Hp), Ex H H1 → x = .ref a → y = .ref b → SqA K H1 a xs → SqA K H1 b ys → DpAll K H1 xs ds → DpAll K H1 ys ds → ds.length ≤ 1000000 → (∀ e ∈ ds, SeqAt.shaped e = true ∧ e.depth + 1 ≤ n ∧ SmD e) →
          rLenU K [x] H1 fun x_8 H1 => rLenU K [y] H1 fun y_2 H2 => rNeU K x_8 y_2 H2 fun x_9 H' => ∃ k, x_9 = V.bl k ∧ if k = true then Q (V.bl false) H' else rLenU K [y] H' fun x_10 H1 => ∃ j, [x_10] = [V.int j] ∧ -2 ^ 62 ≤ j ∧ j < 2 ^ 62 ∧
            LcL (Itr 0 j.toNat) (gName 2) (tNot (tB (tCall (spAlike K n) [] E0 (tCons (tOp (rIx K) (tVar 0) (tVar 2)) (tCons (tOp (rIx K) (tVar 1) (tVar 2)) tNil))))) (tVar 2) [2] [some x, some y, none] H1 fun x H1 => rLst [] H1 fun y H2 => rEqU K x y H2 Q := by
        intro ds a b xs ys H1 e1 hxa hyb ha hb dx dy hlen hds
        subst hxa hyb
        have lx := dx.len
        have ly := dy.len
        refine x_lenA ha (x_lenA hb ?_)
        rw [lx, ly]
        walk_at "run"
        rw [if_neg (by simp)]
        refine x_lenA hb ⟨_, rfl, by omega, by omega, ?_⟩
        refine lcl_it walk_range (fun D i H' => H' D = some (.lst []) ∧ Ex H1 H') (fun D H' _ e h => ⟨h, e⟩) (fun _ _ _ _ _ => trivial) ?_ ?_
        · rintro D i v H2 H2' hD hi ⟨hD2, e2⟩ ⟨eH, rfl⟩
          subst eH
          have hi : i < ys.length := by simpa using hi
          obtain ⟨v1, hv1⟩ : ∃ v, xs[i]? = some v := ⟨xs[i], by simp⟩
          obtain ⟨v2, hv2⟩ : ∃ v, ys[i]? = some v := ⟨ys[i], by simp⟩
          obtain ⟨e, he, hd1⟩ := dx.get' hv1
          obtain ⟨e', he', hd2⟩ := dy.get' hv2
          obtain rfl : e = e' := by rw [he] at he'; exact Option.some.inj he'
          have hm := hds e (List.mem_of_getElem? he)
          have hz : (0 : Int) + i = (i : Int) := by omega
          walk_at "run"
          rw [hz]
          refine x_ixA (ha.ex e2) (atI_nat hv1) (x_ixA (hb.ex e2) (atI_nat hv2) ?_)
          obtain ⟨m, rfl⟩ : ∃ m, n = m + 1 := ⟨n - 1, by omega⟩
          refine ⟨_, _, e, rfl, Dp.ex e2 hd1, Dp.ex e2 hd2, hm.1, by omega, hm.2.2, fun H4 e4 => ⟨true, rfl, ?_⟩⟩
          rw [if_neg (by simp)]
          exact ⟨e4 _ _ hD2, e2.trans e4⟩
        · rintro D H2 hD ⟨hD2, e2⟩
          refine x_lst (by simp) fun p H3 np e3 hp => ?_
          refine x_eqD (.lst (SqL.of (e3 _ _ hD2)) .nil) (.lst (SqL.of hp) .nil) rfl rfl ?_
          exact k H3 (e1.trans (e2.trans e3))
      -- a scalar
      have e0 := eqv_same sh
      have eqd : ∀ (H1 : Hp) (Q1 : VK), Ex H H1 → Q1 (.bl true) H1 → rEqU K x y H1 Q1 := fun H1 Q1 e q => x_eqD (Dp.ex e hx) (Dp.ex e hy) sh sh (by rw [e0]; exact q)
      cases d with
      | dict _ => cases hx
      | list ds =>
        obtain ⟨a, xs, rfl, hxs, dx⟩ : ∃ a xs, x = .ref a ∧ SqL K H a xs ∧ DpAll K H xs ds := by
          cases hx with
          | lst h1 h2 => exact ⟨_, _, rfl, h1, h2⟩
        obtain ⟨b, ys, rfl, hys, dy⟩ : ∃ b ys, y = .ref b ∧ SqL K H b ys ∧ DpAll K H ys ds := by
          cases hy with
          | lst h1 h2 => exact ⟨_, _, rfl, h1, h2⟩
        obtain ⟨hlen, hsm⟩ : ds.length ≤ 1000000 ∧ ∀ d ∈ ds, SmD d := by
          cases sm with
          | lst h1 h2 => exact ⟨h1, h2⟩
        refine x_isD hy rfl ?_
        refine ⟨false, rfl, ?_⟩
        rw [if_neg Bool.false_ne_true]
        refine x_tup (by simp) fun p H1 np e1 hp => ?_
        refine x_isD2 (Dp.ex e1 hy) hp rfl ?_
        refine ⟨true, rfl, ?_⟩
        rw [if_pos rfl]
        refine x_tup (by simp) fun p2 H2 np2 e2 hp2 => ?_
        have e02 := e1.trans e2
        refine x_isD2 (Dp.ex e02 hx) hp2 rfl ?_
        refine ⟨true, rfl, ?_⟩
        rw [if_neg (by simp)]
        refine x_isD (Dp.ex e02 hx) rfl (x_isD (Dp.ex e02 hy) rfl ?_)
        walk_at "run"
        rw [if_neg (by simp)]
        refine seq ds a b xs ys H2 e02 rfl rfl (.inl (ex_l e02 hxs)) (.inl (ex_l e02 hys)) (DpAll.ex e02 dx) (DpAll.ex e02 dy) hlen fun e he => ?_
        have := shaped_l sh he
        exact ⟨this.1, by omega, hsm e he⟩
      | tuple ds =>
        obtain ⟨a, xs, rfl, hxs, dx⟩ := Dp.tup_inv hx
        obtain ⟨b, ys, rfl, hys, dy⟩ := Dp.tup_inv hy
        obtain ⟨hlen, hsm⟩ : ds.length ≤ 1000000 ∧ ∀ d ∈ ds, SmD d := by
          cases sm with
          | tup h1 h2 => exact ⟨h1, h2⟩
        refine x_isD hy rfl ?_
        refine ⟨false, rfl, ?_⟩
        rw [if_neg Bool.false_ne_true]
        refine x_tup (by simp) fun p H1 np e1 hp => ?_
        refine x_isD2 (Dp.ex e1 hy) hp rfl ?_
        refine ⟨true, rfl, ?_⟩
        rw [if_pos rfl]
        refine x_tup (by simp) fun p2 H2 np2 e2 hp2 => ?_
        have e02 := e1.trans e2
        refine x_isD2 (Dp.ex e02 hx) hp2 rfl ?_
        refine ⟨true, rfl, ?_⟩
        rw [if_neg (by simp)]
        refine x_isD (Dp.ex e02 hx) rfl (x_isD (Dp.ex e02 hy) rfl ?_)
        walk_at "run"
        rw [if_neg (by simp)]
        refine seq ds a b xs ys H2 e02 rfl rfl (.inr (ex_t e02 hxs)) (.inr (ex_t e02 hys)) (DpAll.ex e02 dx) (DpAll.ex e02 dy) hlen fun e he => ?_
        have := shaped_t sh he
        exact ⟨this.1, by omega, hsm e he⟩
      | none =>
        obtain rfl : y = .non := by cases hy; rfl
        refine x_isD hy rfl ⟨false, rfl, ?_⟩
        rw [if_neg Bool.false_ne_true]
        refine x_tup (by simp) fun p H1 np e1 hp => ?_
        refine x_isD2 (Dp.ex e1 hy) hp rfl ⟨false, rfl, ?_⟩
        rw [if_neg Bool.false_ne_true, if_pos rfl]
        refine eqd H1 _ e1 ⟨true, rfl, ?_⟩
        rw [if_pos rfl]
        refine x_isD (Dp.ex e1 hx) rfl (x_isD (Dp.ex e1 hy) rfl ?_)
        walk_at "run"
        exact k H1 e1
      | str z =>
        obtain rfl : y = .str z := by cases hy; rfl
        refine x_isD hy rfl ⟨false, rfl, ?_⟩
        rw [if_neg Bool.false_ne_true]
        refine x_tup (by simp) fun p H1 np e1 hp => ?_
        refine x_isD2 (Dp.ex e1 hy) hp rfl ⟨false, rfl, ?_⟩
        rw [if_neg Bool.false_ne_true, if_neg (by simp)]
        refine x_isD (Dp.ex e1 hy) rfl ⟨true, rfl, ?_⟩
        rw [if_pos rfl]
        refine eqd H1 _ e1 ⟨true, rfl, ?_⟩
        rw [if_pos rfl]
        refine x_isD (Dp.ex e1 hx) rfl (x_isD (Dp.ex e1 hy) rfl ?_)
        walk_at "run"
        exact k H1 e1
      | int z =>
        obtain rfl : y = .int z := by cases hy; rfl
        refine x_isD hy rfl ⟨false, rfl, ?_⟩
        rw [if_neg Bool.false_ne_true]
        refine x_tup (by simp) fun p H1 np e1 hp => ?_
        refine x_isD2 (Dp.ex e1 hy) hp rfl ⟨false, rfl, ?_⟩
        rw [if_neg Bool.false_ne_true, if_neg (by simp)]
        refine x_isD (Dp.ex e1 hy) rfl ⟨false, rfl, ?_⟩
        rw [if_neg Bool.false_ne_true]
        refine x_isD (Dp.ex e1 hx) rfl ⟨true, rfl, ?_⟩
        rw [if_pos rfl]
        refine x_isD (Dp.ex e1 hx) rfl (x_isD (Dp.ex e1 hy) rfl ?_)
        walk_at "run"
        exact eqd H1 _ e1 (k H1 e1)
      | bool z =>
        obtain rfl : y = .bl z := by cases hy; rfl
        refine x_isD hy rfl ⟨false, rfl, ?_⟩
        rw [if_neg Bool.false_ne_true]
        refine x_tup (by simp) fun p H1 np e1 hp => ?_
        refine x_isD2 (Dp.ex e1 hy) hp rfl ⟨false, rfl, ?_⟩
        rw [if_neg Bool.false_ne_true, if_neg (by simp)]
        refine x_isD (Dp.ex e1 hy) rfl ⟨false, rfl, ?_⟩
        rw [if_neg Bool.false_ne_true]
        refine x_isD (Dp.ex e1 hx) rfl ⟨true, rfl, ?_⟩
        rw [if_pos rfl]
        refine x_isD (Dp.ex e1 hx) rfl (x_isD (Dp.ex e1 hy) rfl ?_)
        walk_at "run"
        exact eqd H1 _ e1 (k H1 e1)
end
end K
set_option Elab.async false
set_option linter.all false
set_option maxRecDepth 100000
set_option maxHeartbeats 4000000
namespace K
open PySem PySem.Spec PyProof.Rows L2 Evl FB
local macro_rules | `(tactic| walk_at "run") => `(tactic| try simp only [tSeq, tAsg, tVar, tC, gName, L2.start, List.map_cons, List.map_nil, List.cons_append, List.nil_append, List.length_cons, List.length_nil, List.replicate, List.getElem?_cons_zero, List.getElem?_cons_succ, Option.some.injEq, exists_eq_left', List.set_cons_zero, List.set_cons_succ, V.ref.injEq, tRet, x_tLst, x_tTup, tCons, tCB, tNil, tOp, x_addI, x_mulI, x_rI, x_rI0, x_ltI, x_leI, x_ltS, x_leS, x_eqI, x_neI, x_eqS, x_eqB, x_neB, x_isiI, x_isiS, x_int, x_max, x_min, cxOf, tIfS, tNext, tTest, V.bl.injEq, decide_eq_true_eq, gSub, tAnd, tOr, tNot, tB, tDrop, tBM, x_tFor, iRng1, iList, iTup, x_tLc, tYes, tCall, tIf, tAndV, tOrV, tNotV, tChain, List.append_nil, tUn, if_true, wipe, true_and, x_never, iU, x_itS, kV])
/-- the program's constants -/
abbrev s_is_letters : Stmt := top 23
structure Ct (K : PySem.W.Frag) (mg : Str → Option Value) : Prop where
  g_MAX_LETTERS : ∃ t, mg "MAX_LETTERS" = some (.int 8 t)
  g_MAX_SEATS : ∃ t, mg "MAX_SEATS" = some (.int 8 t)
  g_MAX_STATIONS : ∃ t, mg "MAX_STATIONS" = some (.int 40 t)
  is_letters : ∃ f fd, Df K mg "is_letters" s_is_letters ["text"] f fd
def okc (c : Nat) : Bool := decide (97 ≤ c) && decide (c ≤ 122)
theorem one_lt (c d : Nat) : decide (([c] : List Nat) < [d]) = decide (c < d) := by
  have e : (([c] : List Nat) < [d]) ↔ c < d := by
    simp [List.cons_lt_cons_iff]
  simp [e]
/-- one to eight letters -/
def wordB (z : Str) : Bool := decide (1 ≤ z.length) && decide (z.length ≤ 8) && z.cps.toList.all okc
/-- a seat of the station st of n may lead to it -/
def placeB (st n : Int) : Key → Bool
  | .inl j => decide (st < j) && decide (j < n)
  | .inr z => wordB z
section
variable {P : Program} {w : World} {K : PySem.W.Frag} {mg : Str → Option Value} {base : Heap}
theorem sc_is_letters : FnScope ["text", "letter"] ["text"] (defScope s_is_letters) := ⟨rfl, rfl, rfl, by decide +kernel, rfl, by decide +kernel, by decide +kernel⟩
/-- letters a to z, at least one -/
def lettersB (z : Str) : Bool := decide (1 ≤ z.length) && z.cps.toList.all okc
def spLetters : Sp := fun vs H Q _ => ∃ z : Str, vs = [.str z] ∧ z.length ≤ 100000 ∧ ∀ H', Ex H H' → Q (.bl (lettersB z)) H'
theorem ok_is_letters {f : Addr} {fd : FuncData} (D : Df K mg "is_letters" s_is_letters ["text"] f fd) (T : Bt mg) : FnOk P w K mg base CX0 1 f fd ["text"] spLetters := by
  refine D.F.ok sc_is_letters (fun vs H Q E h => ?_) (fun cdv A outer s H vs Q E hr h => ?_)
  · obtain ⟨z, rfl, _⟩ := h
    rfl
  · obtain ⟨z, rfl, hl, k⟩ := h
    refine ⟨_, (pss_one (ps_ret (pe_and (pe_cmpR (op_gtU) (pe_callB (call_lenU (K := K)) (by rfl) T.b_len (by decide +kernel) (pa_cons (pv 0) pa_nil)) pe_int (nomark _)) (pe_one (pe_callB (call_allU (K := K) rfl) (by rfl) T.b_all (by decide +kernel) (pa_cons (pe_lc (own := [("letter", 1)]) (g := gName 1) (tt := tYes) rfl sc_is_letters.nd (pi_U (K := K) (pv 0)) (blkOk_by (own := [("letter", 1)]) (N := ["text", "letter"]) (sc := defScope s_is_letters) (by decide +kernel)) (fun _ _ _ _ _ => (pg_name (i := 1) sc_is_letters.nd rfl (Or.inl rfl))) (fun _ _ _ _ _ => pts_nil) (fun _ _ _ _ _ => (pe_chain (op_leU) (op_leU) pe_str (pv 1) pe_str))) pa_nil)))))), ?_⟩
    walk_at "run"
    refine x_lenS (by rw [sizeLine_eq]; omega) ?_
    walk_at "run"
    by_cases h1 : (0 : Int) < (z.length : Nat)
    · rw [if_pos h1]
      walk_at "run"
      have hz : z.cps.size = z.cps.toList.length := by simp
      have hzl : z.cps.size = z.length := rfl
      refine lcl_it walk_str (fun D i H' => H' D = some (.lst (((z.cps.toList.take i).map okc).map V.bl)) ∧ Ex H H') (fun D H' _ e h => ⟨h, e⟩) (fun _ _ _ _ _ => trivial) ?_ ?_
      · rintro D i v H2 H2' hD hi ⟨hD2, e2⟩ ⟨eH, c, hc, rfl⟩
        subst eH
        have hc' : z.cps.toList[i]? = some c := by simpa using hc
        walk_at "run"
        have ea : (Str.ofString "a").cps.toList = [97] := by decide +kernel
        have ez : (Str.ofString "z").cps.toList = [122] := by decide +kernel
        rw [ea]
        show if (!decide (([c] : List Nat) < [97])) = true then _ else _
        rw [one_lt]
        have push : ∀ b, b = okc c → Push D (fun H' => H' D = some (.lst (((z.cps.toList.take (i + 1)).map okc).map V.bl)) ∧ Ex H H') (.bl b) H2' := fun b hb => by
          refine x_push hD2 (by simp; omega) fun H5 e5 h5 => ⟨?_, fun x o hx => e5 _ _ (ne_of_none hx hD) (e2 _ _ hx)⟩
          rw [h5, List.take_add_one, hc', hb]
          simp
        by_cases g1 : c < 97
        · rw [if_neg (by simp [g1])]
          refine push _ ?_
          unfold okc
          simp; omega
        · rw [if_pos (by simp [g1])]
          rw [ez]
          show Push D _ (V.bl (!decide (([122] : List Nat) < [c]))) H2'
          rw [one_lt]
          refine push _ ?_
          unfold okc
          by_cases g2 : 122 < c
          · have : ¬ c ≤ 122 := by omega
            simp [g2, this]
          · have h1 : 97 ≤ c := by omega
            have h2 : c ≤ 122 := by omega
            simp [g2, h1, h2]
      · rintro D H2 hD ⟨hD2, e2⟩
        refine ⟨D, _, rfl, SqL.of hD2, ?_⟩
        have e : (((z.cps.toList.take z.cps.size).map okc).all id) = lettersB z := by
          rw [hz, List.take_length]
          unfold lettersB
          have a1 : decide (1 ≤ z.length) = true := by simp; omega
          rw [a1, List.all_map]
          rfl
        rw [e]
        exact k H2 e2
    · rw [if_neg h1]
      have q := k H (Ex.refl H)
      have e : lettersB z = false := by unfold lettersB; have : ¬ 1 ≤ z.length := by omega
                                        simp [this]
      rw [e] at q
      exact q
abbrev s_is_word : Stmt := top 24
theorem sc_is_word : FnScope ["text"] ["text"] (defScope s_is_word) := ⟨rfl, rfl, rfl, by decide +kernel, rfl, by decide +kernel, by decide +kernel⟩
def spWord : Sp := fun vs H Q _ => ∃ z : Str, vs = [.str z] ∧ z.length ≤ 1000 ∧ ∀ H', Ex H H' → Q (.bl (wordB z)) H'
theorem ok_is_word {f : Addr} {fd : FuncData} (D : Df K mg "is_word" s_is_word ["text"] f fd) (T : Bt mg) (C : Ct K mg) : FnOk P w K mg base CX0 2 f fd ["text"] spWord := by
  obtain ⟨f1, fd1, D_is_letters⟩ := C.is_letters
  have G_is_letters : FnOk P w K mg base CX0 1 f1 fd1 _ _ := ok_is_letters D_is_letters T
  refine D.F.ok sc_is_word (fun vs H Q E h => ?_) (fun cdv A outer s H vs Q E hr h => ?_)
  · obtain ⟨z, rfl, _⟩ := h
    rfl
  · obtain ⟨z, rfl, hl, k⟩ := h
    obtain ⟨tl, g_MAX_LETTERS⟩ := C.g_MAX_LETTERS
    refine ⟨_, (pss_one (ps_ret (pe_and (pe_cmpR (op_leU) (pe_callB (call_lenU (K := K)) (by rfl) T.b_len (by decide +kernel) (pa_cons (pv 0) pa_nil)) (pe_glob (v := .int 8) rfl g_MAX_LETTERS ⟨_, rfl⟩) (nomark _)) (pe_one (pe_call (G_is_letters) (hr.mono (by decide)) rfl D_is_letters.g D_is_letters.F.kp D_is_letters.b .nil pass0 (pa_cons (pv 0) pa_nil)))))), ?_⟩
    walk_at "run"
    refine x_lenS (by rw [sizeLine_eq]; omega) ?_
    walk_at "run"
    by_cases h8 : ((z.length : Nat) : Int) ≤ 8
    · rw [if_pos h8]
      refine ⟨z, rfl, by omega, fun H1 e1 => ?_⟩
      have e : lettersB z = wordB z := by
        unfold lettersB wordB
        have a2 : decide (z.length ≤ 8) = true := by simp; omega
        rw [a2, Bool.and_true]
      rw [e]
      exact k H1 e1
    · rw [if_neg h8]
      have q := k H (Ex.refl H)
      have e : wordB z = false := by unfold wordB; have : ¬ z.length ≤ 8 := by omega
                                     simp [this]
      rw [e] at q
      exact q
abbrev s_is_place : Stmt := top 25
theorem sc_is_place : FnScope ["place", "station", "stations"] ["place", "station", "stations"] (defScope s_is_place) := ⟨rfl, rfl, rfl, by decide +kernel, rfl, by decide +kernel, by decide +kernel⟩
def spPlaceQ : Sp := fun vs H Q _ => ∃ (k : Key) (st n : Int), vs = [kV k, .int st, .int n] ∧ (∀ z, k = .inr z → z.length ≤ 1000) ∧ ∀ H', Ex H H' → Q (.bl (placeB st n k)) H'
theorem ok_is_place {f f1 : Addr} {fd fd1 : FuncData} (D : Df K mg "is_place" s_is_place ["place", "station", "stations"] f fd) (T : Bt mg) (C : Ct K mg) (D_is_word : Df K mg "is_word" s_is_word ["text"] f1 fd1) :
    FnOk P w K mg base CX0 3 f fd ["place", "station", "stations"] spPlaceQ := by
  have G_is_word : FnOk P w K mg base CX0 2 f1 fd1 _ _ := ok_is_word D_is_word T C
  refine D.F.ok sc_is_place (fun vs H Q E h => ?_) (fun cdv A outer s H vs Q E hr h => ?_)
  · obtain ⟨k, st, n, rfl, _⟩ := h
    rfl
  · obtain ⟨key, st, n, rfl, hl, k⟩ := h
    refine ⟨_, (pss_cons (ps_if (pt_val (pe_callB (call_isiU (K := K)) (by rfl) T.b_isinstance (by decide +kernel) (pa_cons (pv 0) (pa_cons (pe_bltn (v := .ty "str") (by rfl) T.b_str (by decide +kernel) rfl) pa_nil)))) (pss_one (ps_ret (pe_call (G_is_word) (hr.mono (by decide)) rfl D_is_word.g D_is_word.F.kp D_is_word.b .nil pass0 (pa_cons (pv 0) pa_nil)))) pss_nil)
      (pss_one (ps_ret (pe_chain (op_ltU) (op_ltU) (pv 1) (pv 0) (pv 2))))), ?_⟩
    cases key with
    | inl j =>
      walk_at "run"
      rw [if_neg Bool.false_ne_true]
      by_cases h : st < j
      · rw [if_pos h]
        have e : placeB st n (.inl j) = decide (j < n) := by unfold placeB; simp [h]
        rw [← e]
        exact k H (Ex.refl H)
      · rw [if_neg h]
        have e : placeB st n (.inl j) = false := by unfold placeB; simp [h]
        rw [← e]
        exact k H (Ex.refl H)
    | inr z =>
      walk_at "run"
      exact ⟨z, rfl, hl z rfl, k⟩
end
end K
set_option Elab.async false
set_option linter.all false
set_option maxRecDepth 100000
set_option maxHeartbeats 4000000
namespace K
open PySem PySem.Spec PyProof.Rows L2 Evl FB
local macro_rules | `(tactic| walk_at "run") => `(tactic| try simp only [tSeq, tAsg, tVar, tC, gName, L2.start, List.map_cons, List.map_nil, List.cons_append, List.nil_append, List.length_cons, List.length_nil, List.replicate, List.getElem?_cons_zero, List.getElem?_cons_succ, Option.some.injEq, exists_eq_left', List.set_cons_zero, List.set_cons_succ, V.ref.injEq, tRet, x_tLst, x_tTup, tCons, tCB, tNil, tOp, x_addI, x_mulI, x_rI, x_rI0, x_ltI, x_leI, x_ltS, x_leS, x_eqI, x_neI, x_eqS, x_eqB, x_neB, x_isiI, x_isiS, x_int, x_max, x_min, cxOf, tIfS, tNext, tTest, V.bl.injEq, decide_eq_true_eq, gSub, tAnd, tOr, tNot, tB, tDrop, tBM, x_tFor, iRng1, iList, iTup, x_tLc, tYes, tCall, tIf, tAndV, tOrV, tNotV, tChain, List.append_nil, tUn, if_true, wipe, true_and, x_never, iU, x_itS, kV, Nat.reduceAdd, Nat.reduceSub, List.replicate_zero, x_rU, x_tMkO, iEnumT])
/-- a network without fault -/
structure ValidN (N : Net) : Prop where
  pos : 1 ≤ N.length
  le : N.length ≤ 40
  st : ∀ (k : Nat) s, N[k]? = some s → 1 ≤ s.length ∧ s.length ≤ 8 ∧ ∀ p ∈ s, placeB k N.length p = true ∧ ∀ z, p = .inr z → z.length ≤ 1000
theorem wordB_W4 {z : Str} (h : z ∈ W4) : wordB z = true ∧ z.length ≤ 8 := by
  unfold W4 at h
  simp only [List.mem_cons, List.not_mem_nil, or_false] at h
  rcases h with rfl | rfl | rfl | rfl <;> exact ⟨by decide +kernel, by decide +kernel⟩
theorem Drawn.valid {N : Net} {most : Int} (D : Drawn N most) (h : most ≤ 40) : ValidN N where
  pos := D.pos
  le := by have := D.le; omega
  st := fun k s hk => by
    obtain ⟨h1, h2, h3⟩ := D.st k s hk
    refine ⟨h1, h2, fun p hp => ?_⟩
    have := h3 p hp
    cases p with
    | inl j =>
      obtain ⟨a, b⟩ := this
      exact ⟨by unfold placeB; simp; omega, fun z e => by cases e⟩
    | inr z =>
      have := wordB_W4 this
      exact ⟨this.1, fun y e => by cases e; omega⟩
theorem ValidN.seat {N : Net} (h : ValidN N) {i : Nat} {s : List Key} (hs : N[i]? = some s) {j : Int} (hp : (.inl j : Key) ∈ s) : (i : Int) < j ∧ j < N.length := by
  have := ((h.st i s hs).2.2 _ hp).1
  unfold placeB at this
  simpa using this
section
variable {P : Program} {w : World} {K : PySem.W.Frag} {mg : Str → Option Value} {base : Heap}
def spCheckOk (K : PySem.W.Frag) : Sp := fun vs H Q _ => ∃ (v : V) (N : Net), vs = [v] ∧ NetAt K H v N ∧ ValidN N ∧ ∀ H', Ex H H' → Q .non H'
abbrev s_check_network : Stmt := top 26
theorem sc_check_network : FnScope ["network", "station", "seats", "seat", "place"] ["network"] (defScope s_check_network) := ⟨rfl, rfl, rfl, by decide +kernel, rfl, by decide +kernel, by decide +kernel⟩
theorem ok_check_network0 {f f1 f2 : Addr} {fd fd1 fd2 : FuncData} (D : Df K mg "check_network" s_check_network ["network"] f fd) (T : Bt mg) (Ck : Ct K mg) (D_is_word : Df K mg "is_word" s_is_word ["text"] f1 fd1)
    (D_is_place : Df K mg "is_place" s_is_place ["place", "station", "stations"] f2 fd2) :
    FnOk P w K mg base CX0 4 f fd ["network"] (spCheckOk K) := by
  have G_is_place : FnOk P w K mg base CX0 3 f2 fd2 _ _ := ok_is_place D_is_place T Ck D_is_word
  refine D.F.ok sc_check_network (fun vs H Q E h => ?_) (fun cdv A outer s H vs Q E hr h => ?_)
  · obtain ⟨v, N, rfl, _⟩ := h
    rfl
  · obtain ⟨v, N, rfl, hN, hV, k1⟩ := h
    have hu := hr.units
    obtain ⟨tML, g_MAX_STATIONS⟩ := Ck.g_MAX_STATIONS
    obtain ⟨tMS, g_MAX_SEATS⟩ := Ck.g_MAX_SEATS
    refine ⟨_, (pss_cons (ps_if (pt_cmpR (op_eqU (K := K) hu) (pe_callB (call_lenU (K := K)) (by rfl) T.b_len (by decide +kernel) (pa_cons (pv 0) pa_nil)) pe_int (nomark _)) pss_never pss_nil)
      (pss_one (ps_for PassesOwn.never rfl (pi_enumT (by rfl) T.b_enumerate (pa_cons (pv 0) pa_nil)) (pg_tup rfl (pgs_cons (pg_name (i := 1) sc_check_network.nd rfl (Or.inl rfl)) (pgs_cons (pg_name (i := 2) sc_check_network.nd rfl (Or.inl rfl)) pgs_nil))) (pss_cons (ps_if (PW.pt (pw_or (pt_cmpR (op_eqU (K := K) hu) (pv 1) (pe_glob (v := .int 40) rfl g_MAX_STATIONS ⟨_, rfl⟩) (nomark _)) (pw_or1 (pt_not (pt_chain (op_leU) (op_leU) pe_int (pe_callB (call_lenU (K := K)) (by rfl) T.b_len (by decide +kernel) (pa_cons (pv 2) pa_nil)) (pe_glob (v := .int 8) rfl g_MAX_SEATS ⟨_, rfl⟩)))))) pss_never pss_nil)
      (pss_one (ps_for PassesOwn.never rfl (pi_enumT (by rfl) T.b_enumerate (pa_cons (pv 2) pa_nil)) (pg_tup rfl (pgs_cons (pg_name (i := 3) sc_check_network.nd rfl (Or.inl rfl)) (pgs_cons (pg_name (i := 4) sc_check_network.nd rfl (Or.inl rfl)) pgs_nil))) (pss_one (ps_if (pt_not (pt_val (pe_call (G_is_place) (hr.mono (by decide)) rfl D_is_place.g D_is_place.F.kp D_is_place.b .nil pass0 (pa_cons (pv 4) (pa_cons (pv 1) (pa_cons (pe_callB (call_lenU (K := K)) (by rfl) T.b_len (by decide +kernel) (pa_cons (pv 0) pa_nil)) pa_nil)))))) pss_never pss_nil)))))))), ?_⟩
    walk_at "run"
    obtain ⟨a, ts, rfl, hT, hts⟩ := hN.at
    have hl : ts.length = N.length := by rw [hts.len, List.length_map]
    have hp := hV.pos
    have h40 := hV.le
    refine x_lenT hT ?_
    rw [hl]
    walk_at "run"
    rw [if_neg (by omega)]
    refine ⟨_, _, rfl, hT, loop_it walk_enumT (fun i σ H' => ∃ u1 u2 u3 u4, σ = [some (.ref a), u1, u2, u3, u4] ∧ Ex H H') ⟨_, _, _, _, rfl, Ex.refl H⟩
      (fun i σ H' _ ⟨_, _, _, _, _, e⟩ => ex_t e hT) ?_ ?_⟩
    · rintro i v σ H1 H2 hi ⟨u1, u2, u3, u4, rfl, e1⟩ ⟨T0, x, y, rfl, hT0, rfl, hx, hy⟩
      obtain rfl : V.int (i : Nat) = x := Option.some.inj hx
      have e2 : Ex H (upd H1 T0 (.tup [.int (i : Nat), y])) := e1.trans (Ex.new hT0)
      refine x_two (SqT.of upd_same) ?_
      generalize upd H1 T0 (.tup [.int (i : Nat), y]) = H2 at e2
      obtain ⟨sD, hs, hy2⟩ := hts.get' hy
      obtain ⟨s, hsN, rfl⟩ : ∃ s, N[i]? = some s ∧ stD s = sD := by simpa using hs
      obtain ⟨b, rfl, hB⟩ := StAt.at hy2
      obtain ⟨s1, s2, s3⟩ := hV.st i s hsN
      walk_at "run"
      rw [if_neg (by omega)]
      refine x_lenT (ex_t e2 hB) ?_
      rw [List.length_map]
      walk_at "run"
      rw [if_pos (by omega), if_neg (by simp; omega)]
      refine ⟨_, _, rfl, ex_t e2 hB, loop_it walk_enumT (fun j σ H' => ∃ u3 u4, σ = [some (.ref a), some (.int i), some (.ref b), u3, u4] ∧ Ex H H') ⟨_, _, rfl, e2⟩
        (fun j σ H' _ ⟨_, _, _, e⟩ => ex_t e hB) ?_ ?_⟩
      · rintro j v σ H3 H4 hj ⟨u3, u4, rfl, e3⟩ ⟨T1, x, y, rfl, hT1, rfl, hx, hy⟩
        obtain rfl : V.int (j : Nat) = x := Option.some.inj hx
        have e4 : Ex H (upd H3 T1 (.tup [.int (j : Nat), y])) := e3.trans (Ex.new hT1)
        refine x_two (SqT.of upd_same) ?_
        generalize upd H3 T1 (.tup [.int (j : Nat), y]) = H4 at e4
        obtain ⟨p, hp, rfl⟩ : ∃ p, s[j]? = some p ∧ kV p = y := by simpa using hy
        have hpm := s3 p (List.mem_of_getElem? hp)
        walk_at "run"
        refine x_lenT (ex_t e4 hT) ?_
        rw [hl]
        refine ⟨p, i, N.length, rfl, hpm.2, fun H5 e5 => ⟨_, rfl, ?_⟩⟩
        rw [if_neg (by rw [hpm.1]; decide)]
        exact ⟨_, _, rfl, e4.trans e5⟩
      · rintro σ H3 ⟨u3, u4, rfl, e3⟩
        exact ⟨_, _, _, _, rfl, e3⟩
    · rintro σ H1 ⟨u1, u2, u3, u4, rfl, e1⟩
      exact k1 H1 e1
end
/-- what is enough of a network for the counting -/
structure CntN (N : Net) : Prop where
  le : N.length ≤ 40
  st : ∀ s ∈ N, 1 ≤ s.length ∧ s.length ≤ 8
  fw : ∀ (i : Nat) s, N[i]? = some s → ∀ j : Int, (.inl j : Key) ∈ s → (i : Int) < j ∧ j < N.length
theorem ValidN.cnt {N : Net} (h : ValidN N) : CntN N :=
  ⟨h.le, fun s hs => by
    obtain ⟨k, hk⟩ := List.mem_iff_getElem?.mp hs
    obtain ⟨a, b, _⟩ := h.st k s hk
    exact ⟨a, b⟩, fun i s hs j hj => h.seat hs hj⟩
theorem seats_len {N : Net} (h : CntN N) {k : Nat} (hk : k ≤ N.length) : (seatsOf N k).length ≤ 320 := by
  have := seatsOf_len (N := N) (fun s hs => (h.st s hs).2) k
  have := h.le
  omega
end K
set_option Elab.async false
set_option linter.all false
set_option maxRecDepth 100000
set_option maxHeartbeats 1000000
set_option exponentiation.threshold 20000
namespace K
open PySem PySem.Spec PyProof.Rows L2 Evl FB
local macro_rules | `(tactic| walk_at "run") => `(tactic| try simp only [tSeq, tAsg, tVar, tC, gName, L2.start, List.map_cons, List.map_nil, List.cons_append, List.nil_append, List.length_cons, List.length_nil, List.replicate, List.getElem?_cons_zero, List.getElem?_cons_succ, Option.some.injEq, exists_eq_left', List.set_cons_zero, List.set_cons_succ, V.ref.injEq, tRet, x_tLst, x_tTup, tCons, tCB, tNil, tOp, x_addI, x_mulI, x_rI, x_rI0, x_ltI, x_leI, x_ltS, x_leS, x_eqI, x_neI, x_eqS, x_eqB, x_neB, x_isiI, x_isiS, x_int, x_max, x_min, cxOf, tIfS, tNext, tTest, V.bl.injEq, decide_eq_true_eq, gSub, tAnd, tOr, tNot, tB, tDrop, tBM, x_tFor, iRng1, iList, iTup, x_tLc, tYes, tCall, tIf, tAndV, tOrV, tNotV, tChain, List.append_nil, tUn, if_true, wipe, true_and, x_never, iU, x_itS, kV, Nat.reduceAdd, Nat.reduceSub, List.replicate_zero, x_rU, x_tMkO, iEnumT, x_tDc, x_tDGet, x_tDGet2, x_sDPut, x_tDSetd, x_tDNewK, x_iItems, x_iZip, x_tSAddK, x_tLockV, x_tTupRg, x_tRg2, tPar, tPar3, tBM0, tSl, tNoPart, tPart, x_tSetAdd, x_tDIn, x_iKeys, x_iZipX, tWhile])
/-- a fraction as the program has it -/
def frD (q : Rat) : PyData := .tuple [.int q.num, .int (q.den : Int)]
theorem frD_t (q : Rat) : TupD (frD q) := .tup fun d hd => by
  simp only [List.mem_cons, List.not_mem_nil, or_false] at hd
  rcases hd with rfl | rfl
  · exact .int _
  · exact .int _
abbrev FrAt (K : PySem.W.Frag) (H : Hp) (v : V) (q : Rat) : Prop := Dp K H v (frD q)
section
variable {P : Program} {w : World} {K : PySem.W.Frag} {mg : Str → Option Value} {base : Heap}
theorem FrAt.at {H : Hp} {v : V} {q : Rat} (h : FrAt K H v q) : ∃ a, v = .ref a ∧ SqT K H a [.int q.num, .int (q.den : Int)] := by
  obtain ⟨a, xs, e, h1, h2⟩ := Dp.tup_inv h
  cases h2 with
  | cons p hs =>
    cases hs with
    | cons p2 hs =>
      cases hs
      rw [p.int_inv, p2.int_inv] at h1
      exact ⟨a, e, h1⟩
theorem FrAt.of {H : Hp} {a : Addr} {q : Rat} (h : SqT K H a [.int q.num, .int (q.den : Int)]) : FrAt K H (.ref a) q := .tup h (.cons (.int _) (.cons (.int _) .nil))
/-- numbers that are not too large for the wide rules -/
def Wd (q : Rat) : Prop := q.num.natAbs < 2 ^ 1500 ∧ q.den < 2 ^ 1500
abbrev s_lowest_terms : Stmt := top 32
theorem sc_lowest_terms : FnScope ["numerator", "denominator", "common"] ["numerator", "denominator"] (defScope s_lowest_terms) := ⟨rfl, rfl, rfl, by decide +kernel, rfl, by decide +kernel, by decide +kernel⟩
def spLow (K : PySem.W.Frag) : Sp := fun vs H Q _ => ∃ (n : Int) (m : Nat), vs = [.int n, .int (m : Int)] ∧ m ≠ 0 ∧ m < 2 ^ 4000 ∧ ∀ H' r, Ex H H' → FrAt K H' r (mkRat n m) → Q r H'
theorem ok_lowest_terms {f : Addr} {fd : FuncData} (D : Df K mg "lowest_terms" s_lowest_terms ["numerator", "denominator"] f fd) (hgcd : mg "gcd" = some (.builtin "math.gcd")) : FnOk P w K mg base CX0 1 f fd ["numerator", "denominator"] (spLow K) := by
  refine D.F.ok sc_lowest_terms (fun vs H Q E h => ?_) (fun cdv A outer s H vs Q E hr h => ?_)
  · obtain ⟨n, m, rfl, _⟩ := h
    rfl
  · obtain ⟨n, m, rfl, hm, hb, q⟩ := h
    refine ⟨_, (pss_cons (ps_set (i := 2) sc_lowest_terms.nd rfl (Or.inl rfl) (pe_callBfun call_gcdU (by rfl) hgcd (pa_cons (pv 0) (pa_cons (pv 1) pa_nil))))
      (pss_one (ps_ret (pe_tup (pa_cons (pe_op op_fdivW (pv 0) (pv 2)) (pa_cons (pe_op op_fdivW (pv 1) (pv 2)) pa_nil)))))), ?_⟩
    walk_at "run"
    refine ⟨n, m, rfl, ?_⟩
    rw [Int.natAbs_natCast]
    have c : ∀ i, CDivW i ((Nat.gcd n.natAbs m : Nat) : Int) := fun i => wide_div (low_pos hm) (by rw [Int.natAbs_natCast]; exact Nat.lt_of_le_of_lt (low_le hm) hb) (by decide) (by decide)
    walk_at "run"
    refine ⟨c _, c _, ?_⟩
    rw [low_num hm, low_den hm]
    exact x_tup (by simp) fun t H1 nt e1 h1 => q H1 _ e1 (FrAt.of (SqT.of h1))
abbrev s_add : Stmt := top 33
theorem sc_add : FnScope ["one", "other"] ["one", "other"] (defScope s_add) := ⟨rfl, rfl, rfl, by decide +kernel, rfl, by decide +kernel, by decide +kernel⟩
def spAddF (K : PySem.W.Frag) : Sp := fun vs H Q _ => ∃ (u v : V) (a b : Rat), vs = [u, v] ∧ FrAt K H u a ∧ FrAt K H v b ∧ Wd a ∧ Wd b ∧ ∀ H' r, Ex H H' → FrAt K H' r (a + b) → Q r H'
theorem wmul {i j : Int} (hi : i.natAbs < 2 ^ 1500) (hj : j.natAbs < 2 ^ 1500) : CMulW i j := wide_mul hi hj (by decide) (by decide) (by decide)
theorem dden {a b : Rat} (ha : a.den < 2 ^ 1500) (hb : b.den < 2 ^ 1500) : a.den * b.den < 2 ^ 4000 := by
  have h := Nat.mul_lt_mul'' ha hb
  rw [← Nat.pow_add] at h
  exact Nat.lt_of_lt_of_le h (Nat.pow_le_pow_right (by decide) (by decide))
theorem ok_add {f f1 : Addr} {fd fd1 : FuncData} (D : Df K mg "add" s_add ["one", "other"] f fd) (D_lowest_terms : Df K mg "lowest_terms" s_lowest_terms ["numerator", "denominator"] f1 fd1) (hgcd : mg "gcd" = some (.builtin "math.gcd")) : FnOk P w K mg base CX0 2 f fd ["one", "other"] (spAddF K) := by
  have G_lowest_terms : FnOk P w K mg base CX0 1 f1 fd1 _ _ := ok_lowest_terms D_lowest_terms hgcd
  refine D.F.ok sc_add (fun vs H Q E h => ?_) (fun cdv A outer s H vs Q E hr h => ?_)
  · obtain ⟨u, v, a, b, rfl, _⟩ := h
    rfl
  · obtain ⟨u, v, a, b, rfl, hu, hv, wa, wb, q⟩ := h
    refine ⟨_, (pss_one (ps_ret (pe_call (G_lowest_terms) (hr.mono (by decide)) rfl D_lowest_terms.g D_lowest_terms.F.kp D_lowest_terms.b .nil pass0 (pa_cons (pe_op (op_addU (K := K)) (pe_op op_mulW (pe_ix (ix_U (K := K)) (pv 0) pe_int (fun _ _ => rfl)) (pe_ix (ix_U (K := K)) (pv 1) pe_int (fun _ _ => rfl))) (pe_op op_mulW (pe_ix (ix_U (K := K)) (pv 1) pe_int (fun _ _ => rfl)) (pe_ix (ix_U (K := K)) (pv 0) pe_int (fun _ _ => rfl)))) (pa_cons (pe_op op_mulW (pe_ix (ix_U (K := K)) (pv 0) pe_int (fun _ _ => rfl)) (pe_ix (ix_U (K := K)) (pv 1) pe_int (fun _ _ => rfl))) pa_nil))))), ?_⟩
    obtain ⟨x, rfl, hx⟩ := hu.at
    obtain ⟨y, rfl, hy⟩ := hv.at
    have na : ((a.den : Int)).natAbs < 2 ^ 1500 := by rw [Int.natAbs_natCast]; exact wa.2
    have nb : ((b.den : Int)).natAbs < 2 ^ 1500 := by rw [Int.natAbs_natCast]; exact wb.2
    walk_at "run"
    refine x_ixT hx (v := .int a.num) rfl (x_ixT hy (v := .int (b.den : Int)) rfl ?_)
    walk_at "run"
    refine ⟨wmul wa.1 nb, x_ixT hy (v := .int b.num) rfl (x_ixT hx (v := .int (a.den : Int)) rfl ?_)⟩
    walk_at "run"
    refine ⟨wmul wb.1 na, x_ixT hx (v := .int (a.den : Int)) rfl (x_ixT hy (v := .int (b.den : Int)) rfl ?_)⟩
    walk_at "run"
    refine ⟨wmul na nb, ⟨a.num * (b.den : Int) + b.num * (a.den : Int), a.den * b.den, by rw [Int.natCast_mul], Nat.mul_ne_zero a.den_nz b.den_nz, dden wa.2 wb.2, fun H' r e h => q H' r e ?_⟩⟩
    rw [rat_add] at h
    exact h
abbrev s_divide : Stmt := top 35
theorem sc_divide : FnScope ["fraction", "integer"] ["fraction", "integer"] (defScope s_divide) := ⟨rfl, rfl, rfl, by decide +kernel, rfl, by decide +kernel, by decide +kernel⟩
def spDivF (K : PySem.W.Frag) : Sp := fun vs H Q _ => ∃ (u : V) (a : Rat) (k : Nat), vs = [u, .int (k : Int)] ∧ FrAt K H u a ∧ k ≠ 0 ∧ a.den < 2 ^ 1500 ∧ k < 2 ^ 1500 ∧ ∀ H' r, Ex H H' → FrAt K H' r (a / (k : Rat)) → Q r H'
theorem ok_divide {f f1 : Addr} {fd fd1 : FuncData} (D : Df K mg "divide" s_divide ["fraction", "integer"] f fd) (D_lowest_terms : Df K mg "lowest_terms" s_lowest_terms ["numerator", "denominator"] f1 fd1) (hgcd : mg "gcd" = some (.builtin "math.gcd")) : FnOk P w K mg base CX0 2 f fd ["fraction", "integer"] (spDivF K) := by
  have G_lowest_terms : FnOk P w K mg base CX0 1 f1 fd1 _ _ := ok_lowest_terms D_lowest_terms hgcd
  refine D.F.ok sc_divide (fun vs H Q E h => ?_) (fun cdv A outer s H vs Q E hr h => ?_)
  · obtain ⟨u, a, k, rfl, _⟩ := h
    rfl
  · obtain ⟨u, a, k, rfl, hu, hk, wa, wk, q⟩ := h
    refine ⟨_, (pss_one (ps_ret (pe_call (G_lowest_terms) (hr.mono (by decide)) rfl D_lowest_terms.g D_lowest_terms.F.kp D_lowest_terms.b .nil pass0 (pa_cons (pe_ix (ix_U (K := K)) (pv 0) pe_int (fun _ _ => rfl)) (pa_cons (pe_op op_mulW (pe_ix (ix_U (K := K)) (pv 0) pe_int (fun _ _ => rfl)) (pv 1)) pa_nil))))), ?_⟩
    obtain ⟨x, rfl, hx⟩ := hu.at
    walk_at "run"
    refine x_ixT hx (v := .int a.num) rfl (x_ixT hx (v := .int (a.den : Int)) rfl ?_)
    walk_at "run"
    refine ⟨wmul (by rw [Int.natAbs_natCast]; exact wa) (by rw [Int.natAbs_natCast]; exact wk), ⟨a.num, a.den * k, by rw [Int.natCast_mul], Nat.mul_ne_zero a.den_nz hk, ?_, fun H' r e h => q H' r e ?_⟩⟩
    · have h := Nat.mul_lt_mul'' wa wk
      rw [← Nat.pow_add] at h
      exact Nat.lt_of_lt_of_le h (Nat.pow_le_pow_right (by decide) (by decide))
    · rw [rat_divN a hk] at h
      exact h
/-- a list of fractions -/
def sumL : List Rat → Rat
  | [] => 0
  | q :: r => q + sumL r
theorem sumL_snoc {q : Rat} : ∀ {l : List Rat}, sumL (l ++ [q]) = sumL l + q
  | [] => by show q + 0 = 0 + q; grind
  | p :: r => by
    show p + sumL (r ++ [q]) = p + sumL r + q
    rw [sumL_snoc]; grind
theorem sumL_take {l : List Rat} {i : Nat} {q : Rat} (h : l[i]? = some q) : sumL (l.take (i + 1)) = sumL (l.take i) + q := by
  rw [List.take_add_one, h]
  exact sumL_snoc
abbrev s_total : Stmt := top 36
theorem sc_total : FnScope ["fractions", "result", "fraction"] ["fractions"] (defScope s_total) := ⟨rfl, rfl, rfl, by decide +kernel, rfl, by decide +kernel, by decide +kernel⟩
def spTotal (K : PySem.W.Frag) : Sp := fun vs H Q _ => ∃ (a : Addr) (xs : List V) (qs : List Rat), vs = [.ref a] ∧ SqL K H a xs ∧ DpAll K H xs (qs.map frD) ∧ (∀ q ∈ qs, Wd q) ∧ (∀ i, i ≤ qs.length → Wd (sumL (qs.take i))) ∧ ∀ H' r, Ex H H' → FrAt K H' r (sumL qs) → Q r H'
/-- the constant zero -/
structure Zero (K : PySem.W.Frag) (mg : Str → Option Value) (z : Addr) : Prop where
  g : mg "ZERO" = some (.ref z)
  at0 : ∀ H, SqT K H z [.int 0, .int 1]
theorem Zero.fr {z : Addr} (Z : Zero K mg z) {H : Hp} : FrAt K H (.ref z) 0 := FrAt.of (Z.at0 H)
theorem ok_total {f f1 f2 z : Addr} {fd fd1 fd2 : FuncData} (D : Df K mg "total" s_total ["fractions"] f fd) (D_add : Df K mg "add" s_add ["one", "other"] f2 fd2) (D_lowest_terms : Df K mg "lowest_terms" s_lowest_terms ["numerator", "denominator"] f1 fd1) (hgcd : mg "gcd" = some (.builtin "math.gcd")) (Z : Zero K mg z) :
    FnOk P w K mg base CX0 3 f fd ["fractions"] (spTotal K) := by
  have G_add : FnOk P w K mg base CX0 2 f2 fd2 _ _ := ok_add D_add D_lowest_terms hgcd
  have G_ZERO := Z.g
  refine D.F.ok sc_total (fun vs H Q E h => ?_) (fun cdv A outer s H vs Q E hr h => ?_)
  · obtain ⟨a, xs, qs, rfl, _⟩ := h
    rfl
  · obtain ⟨a, xs, qs, rfl, hS, hq, hw, hs, q⟩ := h
    refine ⟨_, (pss_cons (ps_set (i := 1) sc_total.nd rfl (Or.inl rfl) (pe_glob (v := .ref z) rfl G_ZERO rfl))
      (pss_cons (ps_for PassesOwn.never rfl (pi_U (K := K) (pv 0)) (pg_name (i := 2) sc_total.nd rfl (Or.inl rfl)) (pss_one (ps_set (i := 1) sc_total.nd rfl (Or.inl rfl) (pe_call (G_add) (hr.mono (by decide)) rfl D_add.g D_add.F.kp D_add.b .nil pass0 (pa_cons (pv 1) (pa_cons (pv 2) pa_nil))))))
      (pss_one (ps_ret (pv 1))))), ?_⟩
    have hl : xs.length = qs.length := by rw [hq.len, List.length_map]
    walk_at "run"
    refine x_itL hS (loop_it walk_list (fun i σ H' => ∃ r u, σ = [some (.ref a), some r, u] ∧ Ex H H' ∧ FrAt K H' r (sumL (qs.take i))) ⟨_, _, rfl, Ex.refl H, Z.fr⟩ (fun i σ H' _ ⟨_, _, _, e, _⟩ => ex_l e hS) ?_ ?_)
    · rintro i x σ H1 H1' hi ⟨r, u, rfl, e1, h1⟩ ⟨eH, hx⟩
      subst eH
      obtain ⟨d, hd, hxd⟩ := hq.get' hx
      obtain ⟨qi, hqi, rfl⟩ : ∃ qi, qs[i]? = some qi ∧ frD qi = d := by simpa using hd
      have wq := hw qi (List.mem_of_getElem? hqi)
      have wt := hs i (by omega)
      walk_at "run"
      refine ⟨r, x, _, qi, rfl, h1, Dp.ex e1 hxd, wt, wq, fun H2 r2 e2 h2 => ⟨_, _, rfl, e1.trans e2, ?_⟩⟩
      rw [sumL_take hqi]
      exact h2
    · rintro σ H1 ⟨r, u, rfl, e1, h1⟩
      rw [hl, List.take_length] at h1
      walk_at "run"
      exact q H1 r e1 h1
end
end K
set_option Elab.async false
set_option linter.all false
set_option maxRecDepth 100000
set_option maxHeartbeats 1000000
set_option exponentiation.threshold 20000
namespace K
open PySem PySem.Spec PyProof.Rows L2 Evl FB
local macro_rules | `(tactic| walk_at "run") => `(tactic| try simp only [tSeq, tAsg, tVar, tC, gName, L2.start, List.map_cons, List.map_nil, List.cons_append, List.nil_append, List.length_cons, List.length_nil, List.replicate, List.getElem?_cons_zero, List.getElem?_cons_succ, Option.some.injEq, exists_eq_left', List.set_cons_zero, List.set_cons_succ, V.ref.injEq, tRet, x_tLst, x_tTup, tCons, tCB, tNil, tOp, x_addI, x_mulI, x_rI, x_rI0, x_ltI, x_leI, x_ltS, x_leS, x_eqI, x_neI, x_eqS, x_eqB, x_neB, x_isiI, x_isiS, x_int, x_max, x_min, cxOf, tIfS, tNext, tTest, V.bl.injEq, decide_eq_true_eq, gSub, tAnd, tOr, tNot, tB, tDrop, tBM, x_tFor, iRng1, iList, iTup, x_tLc, tYes, tCall, tIf, tAndV, tOrV, tNotV, tChain, List.append_nil, tUn, if_true, wipe, true_and, x_never, iU, x_itS, kV, Nat.reduceAdd, Nat.reduceSub, List.replicate_zero, x_rU, x_tMkO, iEnumT, x_tDc, x_tDGet, x_tDGet2, x_sDPut, x_tDSetd, x_tDNewK, x_iItems, x_iZip, x_tSAddK, x_tLockV, x_tTupRg, x_tRg2, tPar, tPar3, tBM0, tSl, tNoPart, tPart, x_tSetAdd, x_tDIn, x_iKeys, x_iZipX, tWhile])
theorem pairD {K : PySem.W.Frag} {H : Hp} {v : V} {d e : PyData} (h : Dp K H v (.tuple [d, e])) : ∃ t x y, v = .ref t ∧ SqT K H t [x, y] ∧ Dp K H x d ∧ Dp K H y e := by
  obtain ⟨t, xs, rfl, h1, h2⟩ := Dp.tup_inv h
  cases h2 with
  | cons p hs =>
    cases hs with
    | cons p2 hs =>
      cases hs
      exact ⟨t, _, _, rfl, h1, p, p2⟩
theorem x_repQ {K : PySem.W.Frag} {H : Hp} {p : Addr} {xs : List V} {k : Int} {Q : VK} (h : H p = some (.lst xs)) (hk : 0 ≤ k ∧ k ≤ 1000) (hl : xs.length ≤ 1000) (q : ∀ l H', H l = none → Ex H H' → H' l = some (.lst (List.replicate k.toNat xs).flatten) → Q (.ref l) H') : rMulU K (.ref p) (.int k) H Q :=
  .inl (.inr ⟨p, k, xs, rfl, rfl, h, by omega, by omega, small (by
    have h2 : xs.length * k.toNat ≤ 1000 * 1000 := Nat.mul_le_mul hl (by omega)
    omega), x_new q⟩)
/-- the constant one -/
structure One (K : PySem.W.Frag) (mg : Str → Option Value) (z : Addr) : Prop where
  g : mg "ONE" = some (.ref z)
  at1 : ∀ H, SqT K H z [.int 1, .int 1]
theorem One.fr {K : PySem.W.Frag} {mg : Str → Option Value} {z : Addr} (Z : One K mg z) {H : Hp} : FrAt K H (.ref z) 1 := FrAt.of (Z.at1 H)
/-! small fractions of a common denominator -/
structure Sm (D c : Nat) (q : Rat) : Prop where
  lo : -((c : Nat) : Rat) ≤ q
  hi : q ≤ ((c : Nat) : Rat)
  dv : q.den ∣ D
theorem Sm.zero {D c : Nat} : Sm D c 0 := by
  have h : (0 : Rat) ≤ ((c : Nat) : Rat) := by exact Rat.natCast_nonneg
  exact ⟨by grind, by grind, Nat.one_dvd _⟩
theorem Sm.add {D a b : Nat} {x y : Rat} (h : Sm D a x) (k : Sm D b y) : Sm D (a + b) (x + y) := by
  have e : ((a + b : Nat) : Rat) = ((a : Nat) : Rat) + ((b : Nat) : Rat) := by simp
  have h1 := h.lo; have h2 := h.hi; have k1 := k.lo; have k2 := k.hi
  refine ⟨by rw [e]; grind, by rw [e]; grind, den_dvd ?_⟩
  have := (isZ_den h.dv).add (isZ_den k.dv)
  rw [← Rat.add_mul] at this
  exact this
theorem Sm.mono {D a b : Nat} {x : Rat} (h : Sm D a x) (e : a ≤ b) : Sm D b x := by
  have e : ((a : Nat) : Rat) ≤ ((b : Nat) : Rat) := Rat.natCast_le_natCast.mpr e
  have h1 := h.lo; have h2 := h.hi
  exact ⟨by grind, by grind, h.dv⟩
theorem num_abs {q : Rat} {a d : Nat} (h0 : -((a : Nat) : Rat) ≤ q) (h1 : q ≤ (a : Rat)) (hd : q.den ≤ d) : q.num.natAbs ≤ a * d := by
  by_cases h : 0 ≤ q
  · exact num_le h h1 hd
  · have := num_le (q := -q) (a := a) (d := d) (by grind) (by grind) (by rw [Rat.neg_den]; exact hd)
    rwa [Rat.neg_num, Int.natAbs_neg] at this
theorem Sm.wd {D c : Nat} {q : Rat} (h : Sm D c q) (h0 : D ≠ 0) (h1 : D ≤ 2 ^ 140) (h2 : c ≤ 2 ^ 100) : Wd q := by
  have hD : q.den ≤ 2 ^ 140 := Nat.le_trans (Nat.le_of_dvd (Nat.pos_of_ne_zero h0) h.dv) h1
  refine ⟨Nat.lt_of_le_of_lt (num_abs h.lo h.hi hD) (Nat.lt_of_le_of_lt (Nat.mul_le_mul_right _ h2) (by decide)), Nat.lt_of_le_of_lt hD (by decide)⟩
theorem Sm.sum {D c : Nat} : ∀ {l : List Rat}, (∀ q ∈ l, Sm D c q) → Sm D (l.length * c) (sumL l)
  | [], _ => by
    show Sm D _ 0
    exact Sm.zero
  | q :: l, h => by
    have := (h q (by simp)).add (Sm.sum (l := l) fun x hx => h x (by simp [hx]))
    rw [List.length_cons, Nat.add_mul, Nat.one_mul, Nat.add_comm]
    exact this
theorem Sm.wds {D c : Nat} {l : List Rat} (h : ∀ q ∈ l, Sm D c q) (h0 : D ≠ 0) (h1 : D ≤ 2 ^ 140) (h2 : l.length * c ≤ 2 ^ 100) : ∀ i, i ≤ l.length → Wd (sumL (l.take i)) := fun i hi => by
  have := Sm.sum (D := D) (c := c) (l := l.take i) fun x hx => h x (List.mem_of_mem_take hx)
  refine this.wd h0 h1 (Nat.le_trans ?_ h2)
  rw [List.length_take, Nat.min_eq_left hi]
  exact Nat.mul_le_mul_right _ hi
/-! the rates of a port -/
/-- what a place counts -/
def plR (z : Str) (f : Nat → Rat) : Key → Rat
  | .inl j => f j.toNat
  | .inr y => if y = z then 1 else 0
def rtA (z : Str) (N : Net) : Nat → List Rat
  | 0 => []
  | t + 1 => sumL ((N.getD (N.length - (t + 1)) []).map (plR z fun j => (rtA z N t).getD (j + t - N.length) 0)) / (((N.getD (N.length - (t + 1)) []).length : Nat) : Rat) :: rtA z N t
/-- the rate of the station i -/
def rt (z : Str) (N : Net) (i : Nat) : Rat := (rtA z N (N.length - i)).getD 0 0
theorem rtA_len {z : Str} {N : Net} : ∀ t, (rtA z N t).length = t
  | 0 => rfl
  | t + 1 => congrArg (· + 1) (rtA_len t)
theorem rtA_get {z : Str} {N : Net} : ∀ {t k : Nat}, k < t → t ≤ N.length → (rtA z N t).getD k 0 = rt z N (N.length - t + k)
  | t + 1, 0, _, ht => by
    unfold rt
    rw [show N.length - (N.length - (t + 1) + 0) = t + 1 by omega]
  | t + 1, k + 1, hk, ht => by
    show (rtA z N t).getD k 0 = _
    rw [rtA_get (by omega) (by omega)]
    congr 1; omega
theorem plR_congr {z : Str} {f g : Nat → Rat} {p : Key} (h : ∀ j : Int, p = .inl j → f j.toNat = g j.toNat) : plR z f p = plR z g p := by
  cases p with
  | inl j => exact h j rfl
  | inr y => rfl
theorem rt_eq {N : Net} (F : FwR N) {z : Str} {i : Nat} (hi : i < N.length) : rt z N i = sumL ((N.getD i []).map (plR z (rt z N))) / (((N.getD i []).length : Nat) : Rat) := by
  have h : rt z N i = (rtA z N (N.length - i - 1 + 1)).getD 0 0 := by
    unfold rt
    rw [show N.length - i - 1 + 1 = N.length - i by omega]
  rw [h]
  show sumL ((N.getD (N.length - (N.length - i - 1 + 1)) []).map _) / _ = _
  rw [show N.length - (N.length - i - 1 + 1) = i by omega]
  congr 2
  refine List.map_congr_left fun p hp => plR_congr fun j hj => ?_
  subst hj
  have hj := F.fw i hi j hp
  rw [rtA_get (by omega) (by omega)]
  congr 1; omega
/-- the product of the lengths from station i on -/
def sufN (N : Net) : Nat → Nat
  | 0 => 1
  | t + 1 => (N.getD (N.length - (t + 1)) []).length * sufN N t
theorem sufN_dvd {N : Net} : ∀ {a b : Nat}, a ≤ b → sufN N a ∣ sufN N b := fun {a b} h => by
  induction b with
  | zero => rw [Nat.le_zero.mp h]; exact Nat.dvd_refl _
  | succ b ih =>
    by_cases e : a = b + 1
    · rw [e]; exact Nat.dvd_refl _
    · exact Nat.dvd_trans (ih (by omega)) (Nat.dvd_mul_left _ _)
theorem sufN_le {N : Net} (h8 : ∀ i, (N.getD i []).length ≤ 8) : ∀ t, sufN N t ≤ 8 ^ t
  | 0 => Nat.le_refl _
  | t + 1 => by
    rw [Nat.pow_succ, Nat.mul_comm (8 ^ t)]
    exact Nat.mul_le_mul (h8 _) (sufN_le h8 t)
theorem sufN_pos {N : Net} (F : FwR N) : ∀ {t}, t ≤ N.length → sufN N t ≠ 0
  | 0, _ => Nat.one_ne_zero
  | t + 1, h => Nat.mul_ne_zero (by have := F.pos (N.length - (t + 1)) (by omega); omega) (sufN_pos F (by omega))
theorem sum_isZ {c : Rat} : ∀ {l : List Rat}, (∀ q ∈ l, IsZ (q * c)) → IsZ (sumL l * c)
  | [], _ => by
    have : sumL [] * c = 0 := by show (0 : Rat) * c = 0; grind
    rw [this]; exact IsZ.zero
  | q :: l, h => by
    have := (h q (by simp)).add (sum_isZ (l := l) fun x hx => h x (by simp [hx]))
    rw [← Rat.add_mul] at this
    exact this
theorem sum_01 : ∀ {l : List Rat}, (∀ q ∈ l, 0 ≤ q ∧ q ≤ 1) → 0 ≤ sumL l ∧ sumL l ≤ ((l.length : Nat) : Rat)
  | [], _ => by
    show (0 : Rat) ≤ 0 ∧ (0 : Rat) ≤ ((0 : Nat) : Rat)
    exact ⟨by grind, by simp⟩
  | q :: l, h => by
    obtain ⟨a, b⟩ := sum_01 (l := l) fun x hx => h x (by simp [hx])
    obtain ⟨c, d⟩ := h q (by simp)
    have e : (((q :: l).length : Nat) : Rat) = ((l.length : Nat) : Rat) + 1 := by rw [List.length_cons]; simp
    rw [e]
    show 0 ≤ q + sumL l ∧ q + sumL l ≤ _
    exact ⟨by grind, by grind⟩
theorem div_01 {q : Rat} {n : Nat} (hn : n ≠ 0) (h0 : 0 ≤ q) (h1 : q ≤ ((n : Nat) : Rat)) : 0 ≤ q / ((n : Nat) : Rat) ∧ q / ((n : Nat) : Rat) ≤ 1 := by
  have hp : (0 : Rat) < ((n : Nat) : Rat) := Rat.natCast_pos.mpr (Nat.pos_of_ne_zero hn)
  refine ⟨rdiv_nn h0 n, ?_⟩
  have h3 : ((n : Nat) : Rat) ≠ 0 := by simpa using hn
  have e : q / ((n : Nat) : Rat) * ((n : Nat) : Rat) = q := by grind
  refine Rat.not_lt.mp fun hlt => ?_
  have h4 := Rat.mul_lt_mul_of_pos_right hlt hp
  rw [e] at h4
  grind
theorem rt_01 {N : Net} (F : FwR N) {z : Str} : ∀ t i, i < N.length → N.length - i ≤ t → 0 ≤ rt z N i ∧ rt z N i ≤ 1
  | 0, i, hi, h => by omega
  | t + 1, i, hi, h => by
    rw [rt_eq F hi]
    have hl := F.pos i hi
    have := sum_01 (l := (N.getD i []).map (plR z (rt z N))) fun q hq => by
      obtain ⟨p, hp, rfl⟩ := List.mem_map.mp hq
      cases p with
      | inl j =>
        have hj := F.fw i hi j hp
        exact rt_01 F t j.toNat (by omega) (by omega)
      | inr y =>
        show 0 ≤ (if y = z then (1 : Rat) else 0) ∧ (if y = z then (1 : Rat) else 0) ≤ 1
        split <;> exact ⟨by grind, by grind⟩
    rw [List.length_map] at this
    exact div_01 (by omega) this.1 this.2
theorem rt_isZ {N : Net} (F : FwR N) {z : Str} : ∀ t i, i < N.length → N.length - i = t → IsZ (rt z N i * ((sufN N t : Nat) : Rat))
  | 0, i, hi, h => by omega
  | t + 1, i, hi, h => by
    rw [rt_eq F hi]
    have hl := F.pos i hi
    have := sum_isZ (c := ((sufN N t : Nat) : Rat)) (l := (N.getD i []).map (plR z (rt z N))) fun q hq => by
      obtain ⟨p, hp, rfl⟩ := List.mem_map.mp hq
      cases p with
      | inl j =>
        have hj := F.fw i hi j hp
        exact isZ_dvd (rt_isZ F (N.length - j.toNat) j.toNat (by omega) rfl) (sufN_dvd (by omega))
      | inr y =>
        show IsZ ((if y = z then (1 : Rat) else 0) * _)
        split
        · have e : (1 : Rat) * ((sufN N t : Nat) : Rat) = ((sufN N t : Nat) : Rat) := by grind
          rw [e]; exact IsZ.nat _
        · have e : (0 : Rat) * ((sufN N t : Nat) : Rat) = 0 := by grind
          rw [e]; exact IsZ.zero
    show IsZ (_ * (((N.getD (N.length - (t + 1)) []).length * sufN N t : Nat) : Rat))
    rw [show N.length - (t + 1) = i by omega, Rat.natCast_mul]
    have h3 : (((N.getD i []).length : Nat) : Rat) ≠ 0 := by
      have : (N.getD i []).length ≠ 0 := by omega
      simpa using this
    generalize (((N.getD i []).length : Nat) : Rat) = n at *
    generalize ((sufN N t : Nat) : Rat) = m at *
    have e : sumL ((N.getD i []).map (plR z (rt z N))) / n * (n * m) = sumL ((N.getD i []).map (plR z (rt z N))) * m := by grind
    rw [e]; exact this
/-- the common denominator: also for what the law puts between -/
def denN (N : Net) : Nat := 42 * sufN N N.length
theorem ValidN.fwr {N : Net} (h : ValidN N) : FwR N where
  pos := fun i hi => by
    have e : N[i]? = some (N.getD i []) := by simp [List.getD_eq_getElem?_getD, hi]
    exact (h.cnt.st _ (List.mem_of_getElem? e)).1
  fw := fun i hi j hj => by
    have e : N[i]? = some (N.getD i []) := by simp [List.getD_eq_getElem?_getD, hi]
    exact h.seat e hj
theorem ValidN.len8 {N : Net} (h : ValidN N) (i : Nat) : (N.getD i []).length ≤ 8 := by
  rw [List.getD_eq_getElem?_getD]
  cases e : N[i]? with
  | none => simp
  | some s => exact (h.cnt.st _ (List.mem_of_getElem? e)).2
theorem denN_pos {N : Net} (h : ValidN N) : denN N ≠ 0 := Nat.mul_ne_zero (by decide) (sufN_pos h.fwr (Nat.le_refl _))
theorem denN_le {N : Net} (h : ValidN N) : denN N ≤ 2 ^ 140 := by
  have h1 := sufN_le h.len8 N.length
  have h2 : (8 : Nat) ^ N.length ≤ 8 ^ 40 := Nat.pow_le_pow_right (by decide) h.le
  exact Nat.le_trans (Nat.mul_le_mul_left 42 (Nat.le_trans h1 h2)) (by decide)
theorem rt_sm {N : Net} (h : ValidN N) {z : Str} {i : Nat} (hi : i < N.length) : Sm (denN N) 1 (rt z N i) := by
  obtain ⟨h0, h1⟩ := rt_01 h.fwr (z := z) _ i hi (Nat.le_refl _)
  refine ⟨by have : ((1 : Nat) : Rat) = 1 := rfl; rw [this]; grind, h1, Nat.dvd_trans (den_dvd (rt_isZ h.fwr _ i hi rfl)) (Nat.dvd_trans (sufN_dvd (by omega)) (Nat.dvd_mul_left _ _))⟩
end K
set_option Elab.async false
set_option linter.all false
set_option maxRecDepth 100000
set_option maxHeartbeats 1000000
set_option exponentiation.threshold 20000
namespace K
open PySem PySem.Spec PyProof.Rows L2 Evl FB
local macro_rules | `(tactic| walk_at "run") => `(tactic| try simp only [tSeq, tAsg, tVar, tC, gName, L2.start, List.map_cons, List.map_nil, List.cons_append, List.nil_append, List.length_cons, List.length_nil, List.replicate, List.getElem?_cons_zero, List.getElem?_cons_succ, Option.some.injEq, exists_eq_left', List.set_cons_zero, List.set_cons_succ, V.ref.injEq, tRet, x_tLst, x_tTup, tCons, tCB, tNil, tOp, x_addI, x_mulI, x_rI, x_rI0, x_ltI, x_leI, x_ltS, x_leS, x_eqI, x_neI, x_eqS, x_eqB, x_neB, x_isiI, x_isiS, x_int, x_max, x_min, cxOf, tIfS, tNext, tTest, V.bl.injEq, decide_eq_true_eq, gSub, tAnd, tOr, tNot, tB, tDrop, tBM, x_tFor, iRng1, iList, iTup, x_tLc, tYes, tCall, tIf, tAndV, tOrV, tNotV, tChain, List.append_nil, tUn, if_true, wipe, true_and, x_never, iU, x_itS, kV, Nat.reduceAdd, Nat.reduceSub, List.replicate_zero, x_rU, x_tMkO, iEnumT, x_tDc, x_tDGet, x_tDGet2, x_sDPut, x_tDSetd, x_tDNewK, x_iItems, x_iZip, x_tSAddK, x_tLockV, x_tTupRg, x_tRg2, tPar, tPar3, tBM0, tSl, tNoPart, tPart, x_tSetAdd, x_tDIn, x_iKeys, x_iZipX, tWhile])
/-- a pair of ints, as data and as a fraction -/
def pD (p : Int × Nat) : PyData := .tuple [.int p.1, .int (p.2 : Int)]
def pQ (p : Int × Nat) : Rat := mkRat p.1 p.2
theorem pD_fr (q : Rat) : pD (q.num, q.den) = frD q := rfl
theorem pQ_fr (q : Rat) : pQ (q.num, q.den) = q := Rat.mkRat_self q
theorem pD_t (p : Int × Nat) : TupD (pD p) := .tup fun d hd => by
  simp only [List.mem_cons, List.not_mem_nil, or_false] at hd
  rcases hd with rfl | rfl
  · exact .int _
  · exact .int _
theorem step_sum (q : Rat) (p : Int × Nat) (h : p.2 ≠ 0) : mkRat (q.num * (p.2 : Int) + p.1 * (q.den : Int)) (q.den * p.2) = q + pQ p := by
  unfold pQ
  rw [Rat.mkRat_eq_div, Rat.mkRat_eq_div, Rat.intCast_add, Rat.intCast_mul, Rat.intCast_mul, Rat.intCast_natCast, Rat.intCast_natCast, Rat.natCast_mul]
  have h1 := rat_of q
  have h2 := den_ne q
  have h3 : ((p.2 : Nat) : Rat) ≠ 0 := by simpa using h
  generalize ((q.den : Nat) : Rat) = d at *
  generalize ((p.2 : Nat) : Rat) = e at *
  generalize ((q.num : Int) : Rat) = x at *
  generalize ((p.1 : Int) : Rat) = y at *
  rw [h1]
  grind
section
variable {P : Program} {w : World} {K : PySem.W.Frag} {mg : Str → Option Value} {base : Heap}
abbrev s_l_sum : Stmt := top 51
theorem sc_l_sum : FnScope ["_law_fractions", "_law_top", "_law_bottom", "_law_one", "_law_other", "_law_k", "_law_j"] ["_law_fractions"] (defScope s_l_sum) := ⟨rfl, rfl, rfl, by decide +kernel, rfl, by decide +kernel, by decide +kernel⟩
def spSumL (K : PySem.W.Frag) : Sp := fun vs H Q _ => ∃ (a : Addr) (xs : List V) (ps : List (Int × Nat)), vs = [.ref a] ∧ SqL K H a xs ∧ DpAll K H xs (ps.map pD) ∧ (∀ p ∈ ps, p.1.natAbs < 2 ^ 1500 ∧ p.2 ≠ 0 ∧ p.2 < 2 ^ 1500) ∧
  (∀ i, i ≤ ps.length → Wd (sumL ((ps.take i).map pQ))) ∧ ∀ H' r, Ex H H' → FrAt K H' r (sumL (ps.map pQ)) → Q r H'
theorem fmod_nat (k j : Nat) : (k : Int).fmod (j : Int) = ((k % j : Nat) : Int) := by
  rw [Int.fmod_eq_emod_of_nonneg _ (Int.natCast_nonneg _)]; rfl
theorem abs_nat (i : Int) : (if i < 0 then -i else i) = ((i.natAbs : Nat) : Int) := by
  split <;> omega
theorem ok_l_sum {f : Addr} {fd : FuncData} (D : Df K mg "_law_sum" s_l_sum ["_law_fractions"] f fd) (T : Bt mg) : FnOk P w K mg base CX0 1 f fd ["_law_fractions"] (spSumL K) := by
  refine D.F.ok sc_l_sum (fun vs H Q E h => ?_) (fun cdv A outer s H vs Q E hr h => ?_)
  · obtain ⟨a, xs, ps, rfl, _⟩ := h
    rfl
  · obtain ⟨a, xs, ps, rfl, hS, hps, hb, hw, q⟩ := h
    have hu := hr.units
    refine ⟨_, (pss_cons (ps_asg (pe_tup (pa_cons pe_int (pa_cons pe_int pa_nil))) (pg_tup rfl (pgs_cons (pg_name (i := 1) sc_l_sum.nd rfl (Or.inl rfl)) (pgs_cons (pg_name (i := 2) sc_l_sum.nd rfl (Or.inl rfl)) pgs_nil))))
      (pss_cons (ps_for PassesOwn.never rfl (pi_U (K := K) (pv 0)) (pg_tup rfl (pgs_cons (pg_name (i := 3) sc_l_sum.nd rfl (Or.inl rfl)) (pgs_cons (pg_name (i := 4) sc_l_sum.nd rfl (Or.inl rfl)) pgs_nil))) (pss_cons (ps_par (i := 1) (j := 2) (by rfl) sc_l_sum.nd rfl rfl (by decide) rfl rfl (pa_cons (pe_op (op_addU (K := K)) (pe_op op_mulW (pv 1) (pv 4)) (pe_op op_mulW (pv 3) (pv 2))) (pa_cons (pe_op op_mulW (pv 2) (pv 4)) pa_nil)) (by rfl))
      (pss_cons (ps_par (i := 5) (j := 6) (by rfl) sc_l_sum.nd rfl rfl (by decide) rfl rfl (pa_cons (pe_callB call_abs (by rfl) T.b_abs (by decide +kernel) (pa_cons (pv 1) pa_nil)) (pa_cons (pv 2) pa_nil)) (by rfl))
      (pss_cons (ps_while PassesOwn.never (pt_cmpR (op_neU (K := K) hu) (pv 6) pe_int (nomark _)) (pss_one (ps_par (i := 5) (j := 6) (by rfl) sc_l_sum.nd rfl rfl (by decide) rfl rfl (pa_cons (pv 6) (pa_cons (pe_op op_modN (pe_callTy call_intU (by rfl) T.b_int (by decide +kernel) (pa_cons (pv 5) pa_nil)) (pv 6)) pa_nil)) (by rfl))))
      (pss_one (ps_par (i := 1) (j := 2) (by rfl) sc_l_sum.nd rfl rfl (by decide) rfl rfl (pa_cons (pe_op op_fdivW (pv 1) (pv 5)) (pa_cons (pe_op op_fdivW (pv 2) (pv 5)) pa_nil)) (by rfl)))))))
      (pss_one (ps_ret (pe_tup (pa_cons (pv 1) (pa_cons (pv 2) pa_nil))))))), ?_⟩
    have hl : xs.length = ps.length := by rw [hps.len, List.length_map]
    walk_at "run"
    refine x_tup (by simp) fun t0 H0 n0 e0 h0 => x_two (SqT.of h0) ?_
    walk_at "run"
    refine x_itL (ex_l e0 hS) (loop_it walk_list (fun i σ H' => ∃ u3 u4 u5 u6 y, y = sumL ((ps.take i).map pQ) ∧ σ = [some (.ref a), some (.int y.num), some (.int (y.den : Int)), u3, u4, u5, u6] ∧ Ex H H') ⟨_, _, _, _, 0, rfl, rfl, e0⟩ (fun i σ H' _ ⟨_, _, _, _, _, _, _, e⟩ => ex_l e hS) ?_ ?_)
    · rintro i x σ H1 H1' hi ⟨u3, u4, u5, u6, y, hy, rfl, e1⟩ ⟨eH, hx⟩
      subst eH
      obtain ⟨d, hd, hxd⟩ := hps.get' hx
      obtain ⟨p, hp, rfl⟩ : ∃ p, ps[i]? = some p ∧ pD p = d := by simpa using hd
      obtain ⟨b1, b2, b3⟩ := hb p (List.mem_of_getElem? hp)
      have wy := hw i (by omega)
      rw [← hy] at wy
      have hnext : sumL ((ps.take (i + 1)).map pQ) = y + pQ p := by
        rw [List.take_add_one, hp, List.map_append, hy]
        exact sumL_snoc
      obtain ⟨t, c1, c2, rfl, hT, hc1, hc2⟩ := pairD (Dp.ex e1 hxd)
      obtain rfl := hc1.int_inv
      obtain rfl := hc2.int_inv
      refine x_two hT ?_
      walk_at "run"
      have nd : ((y.den : Int)).natAbs < 2 ^ 1500 := by rw [Int.natAbs_natCast]; exact wy.2
      have np : ((p.2 : Int)).natAbs < 2 ^ 1500 := by rw [Int.natAbs_natCast]; exact b3
      refine ⟨wmul wy.1 np, wmul b1 nd, wmul nd np, ?_⟩
      walk_at "run"
      have hz : y.den * p.2 ≠ 0 := Nat.mul_ne_zero y.den_nz b2
      have hm := step_sum y p b2
      rw [show (y.den : Int) * (p.2 : Int) = ((y.den * p.2 : Nat) : Int) by rw [Int.natCast_mul]]
      generalize htp : y.num * (p.2 : Int) + p.1 * (y.den : Int) = tp at hm ⊢
      have hbig : y.den * p.2 < 2 ^ 4000 := by
        have h := Nat.mul_lt_mul'' wy.2 b3
        rw [← Nat.pow_add] at h
        exact Nat.lt_of_lt_of_le h (Nat.pow_le_pow_right (by decide) (by decide))
      generalize y.den * p.2 = bt at hz hm hbig ⊢
      refine ⟨_, _, rfl, ?_⟩
      walk_at "run"
      refine ⟨_, rfl, ?_⟩
      rw [abs_nat]
      refine ⟨_, _, rfl, ?_⟩
      walk_at "run"
      refine ⟨fun m σ H' => ∃ k j : Nat, m = j ∧ Nat.gcd k j = Nat.gcd tp.natAbs bt ∧ σ = [some (.ref a), some (.int tp), some (.int (bt : Int)), some (.int p.1), some (.int (p.2 : Int)), some (.int (k : Int)), some (.int (j : Int))] ∧ H' = H1', ⟨_, tp.natAbs, bt, rfl, rfl, rfl, rfl⟩, ?_⟩
      rintro m σ H2 ⟨k, j, rfl, hg, rfl, rfl⟩
      walk_at "run"
      by_cases hj : m = 0
      · subst hj
        rw [if_neg (by simp)]
        have hk : k = Nat.gcd tp.natAbs bt := by rw [← hg, Nat.gcd_zero_right]
        subst hk
        have c : ∀ i, CDivW i ((Nat.gcd tp.natAbs bt : Nat) : Int) := fun i => wide_div (low_pos hz) (by rw [Int.natAbs_natCast]; exact Nat.lt_of_le_of_lt (low_le hz) hbig) (by decide) (by decide)
        walk_at "run"
        refine ⟨c _, c _, ⟨_, _, rfl, ?_⟩⟩
        walk_at "run"
        rw [low_num hz, low_den hz, hm, ← hnext]
        exact ⟨_, _, _, _, _, rfl, rfl, e1⟩
      · rw [if_pos (by simp [hj])]
        refine ⟨fun σ H' => ∃ k' j' : Nat, j' < m ∧ Nat.gcd k' j' = Nat.gcd tp.natAbs bt ∧ σ = [some (.ref a), some (.int tp), some (.int (bt : Int)), some (.int p.1), some (.int (p.2 : Int)), some (.int (k' : Int)), some (.int (j' : Int))] ∧ H' = H2, ?_, ?_⟩
        · rintro σ' H' ⟨k', j', h1, h2, h3, h4⟩
          exact ⟨j', h1, k', h2, h3, h4⟩
        · refine ⟨by omega, ?_⟩
          rw [fmod_nat]
          refine ⟨_, _, rfl, ?_⟩
          walk_at "run"
          refine ⟨m, k % m, Nat.mod_lt _ (by omega), by rw [← hg, Nat.gcd_comm k m, Nat.gcd_rec m k, Nat.gcd_comm], ?_⟩
          simp
    · rintro σ H1 ⟨u3, u4, u5, u6, y, hy, rfl, e1⟩
      rw [hl, List.take_length] at hy
      walk_at "run"
      refine x_tup (by simp) fun t H2 n2 e2 h2 => q H2 _ (e1.trans e2) ?_
      rw [← hy]
      exact FrAt.of (SqT.of h2)
end
end K
set_option Elab.async false
set_option linter.all false
set_option maxRecDepth 100000
set_option maxHeartbeats 1000000
set_option exponentiation.threshold 20000
namespace K
open PySem PySem.Spec PyProof.Rows L2 Evl FB
local macro_rules | `(tactic| walk_at "run") => `(tactic| try simp only [tSeq, tAsg, tVar, tC, gName, L2.start, List.map_cons, List.map_nil, List.cons_append, List.nil_append, List.length_cons, List.length_nil, List.replicate, List.getElem?_cons_zero, List.getElem?_cons_succ, Option.some.injEq, exists_eq_left', List.set_cons_zero, List.set_cons_succ, V.ref.injEq, tRet, x_tLst, x_tTup, tCons, tCB, tNil, tOp, x_addI, x_mulI, x_rI, x_rI0, x_ltI, x_leI, x_ltS, x_leS, x_eqI, x_neI, x_eqS, x_eqB, x_neB, x_isiI, x_isiS, x_int, x_max, x_min, cxOf, tIfS, tNext, tTest, V.bl.injEq, decide_eq_true_eq, gSub, tAnd, tOr, tNot, tB, tDrop, tBM, x_tFor, iRng1, iList, iTup, x_tLc, tYes, tCall, tIf, tAndV, tOrV, tNotV, tChain, List.append_nil, tUn, if_true, wipe, true_and, x_never, iU, x_itS, kV, Nat.reduceAdd, Nat.reduceSub, List.replicate_zero, x_rU, x_tMkO, iEnumT, x_tDc, x_tDGet, x_tDGet2, x_sDPut, x_tDSetd, x_tDNewK, x_iItems, x_iZip, x_tSAddK, x_tLockV, x_tTupRg, x_tRg2, tPar, tPar3, tBM0, tSl, tNoPart, tPart, x_tSetAdd, x_tDIn, x_iKeys, x_iZipX, tWhile])
section
variable {P : Program} {w : World} {K : PySem.W.Frag} {mg : Str → Option Value} {base : Heap}
abbrev s_multiply : Stmt := top 34
theorem sc_multiply : FnScope ["fraction", "integer"] ["fraction", "integer"] (defScope s_multiply) := ⟨rfl, rfl, rfl, by decide +kernel, rfl, by decide +kernel, by decide +kernel⟩
theorem rat_mulI (a : Rat) (k : Int) : mkRat (a.num * k) a.den = a * (k : Rat) := by
  rw [Rat.mkRat_eq_div, Rat.intCast_mul]
  have h1 := rat_of a
  have h2 := den_ne a
  generalize ((a.den : Nat) : Rat) = d at *
  generalize ((a.num : Int) : Rat) = x at *
  rw [h1]
  grind
def spMulF (K : PySem.W.Frag) : Sp := fun vs H Q _ => ∃ (u : V) (a : Rat) (k : Int), vs = [u, .int k] ∧ FrAt K H u a ∧ Wd a ∧ k.natAbs < 2 ^ 1500 ∧ ∀ H' r, Ex H H' → FrAt K H' r (a * (k : Rat)) → Q r H'
theorem ok_multiply {f f1 : Addr} {fd fd1 : FuncData} (D : Df K mg "multiply" s_multiply ["fraction", "integer"] f fd) (D_lowest_terms : Df K mg "lowest_terms" s_lowest_terms ["numerator", "denominator"] f1 fd1) (hgcd : mg "gcd" = some (.builtin "math.gcd")) : FnOk P w K mg base CX0 2 f fd ["fraction", "integer"] (spMulF K) := by
  have G_lowest_terms : FnOk P w K mg base CX0 1 f1 fd1 _ _ := ok_lowest_terms D_lowest_terms hgcd
  refine D.F.ok sc_multiply (fun vs H Q E h => ?_) (fun cdv A outer s H vs Q E hr h => ?_)
  · obtain ⟨u, a, k, rfl, _⟩ := h
    rfl
  · obtain ⟨u, a, k, rfl, hu, wa, wk, q⟩ := h
    refine ⟨_, (pss_one (ps_ret (pe_call (G_lowest_terms) (hr.mono (by decide)) rfl D_lowest_terms.g D_lowest_terms.F.kp D_lowest_terms.b .nil pass0 (pa_cons (pe_op op_mulW (pe_ix (ix_U (K := K)) (pv 0) pe_int (fun _ _ => rfl)) (pv 1)) (pa_cons (pe_ix (ix_U (K := K)) (pv 0) pe_int (fun _ _ => rfl)) pa_nil))))), ?_⟩
    obtain ⟨x, rfl, hx⟩ := hu.at
    walk_at "run"
    refine x_ixT hx (v := .int a.num) rfl ?_
    walk_at "run"
    refine ⟨wmul wa.1 wk, x_ixT hx (v := .int (a.den : Int)) rfl ⟨a.num * k, a.den, rfl, a.den_nz, Nat.lt_of_lt_of_le wa.2 (Nat.pow_le_pow_right (by decide) (by decide)), fun H' r e h => q H' r e ?_⟩⟩
    rw [rat_mulI] at h
    exact h
/-! what is a fraction -/
def isInt : PyData → Bool
  | .int _ => true
  | _ => false
def isFrac : PyData → Bool
  | .tuple [.int a, .int b] => decide (b > 0) && decide (((Nat.gcd a.natAbs b.natAbs : Nat) : Int) = 1)
  | _ => false
theorem noFrac {d : PyData} (h : ∀ a b, d ≠ .tuple [.int a, .int b]) : isFrac d = false := by
  unfold isFrac
  split
  · exact absurd rfl (h _ _)
  · rfl
theorem isInt_int {d : PyData} (h : isInt d = true) : ∃ i, d = .int i := by
  cases d <;> first | exact ⟨_, rfl⟩ | cases h
theorem isFrac_fr (q : Rat) : isFrac (frD q) = true := by
  unfold isFrac frD
  have h1 : (q.den : Int) > 0 := by have := q.den_nz; omega
  have h2 : Nat.gcd q.num.natAbs q.den = 1 := q.reduced
  simp [h2]; omega
abbrev s_is_integer : Stmt := top 30
theorem sc_is_integer : FnScope ["value"] ["value"] (defScope s_is_integer) := ⟨rfl, rfl, rfl, by decide +kernel, rfl, by decide +kernel, by decide +kernel⟩
def spIsI (K : PySem.W.Frag) : Sp := fun vs H Q _ => ∃ (u : V) (d : PyData), vs = [u] ∧ Dp K H u d ∧ Q (.bl (isInt d)) H
theorem ok_is_integer {f : Addr} {fd : FuncData} (D : Df K mg "is_integer" s_is_integer ["value"] f fd) (T : Bt mg) : FnOk P w K mg base CX0 1 f fd ["value"] (spIsI K) := by
  refine D.F.ok sc_is_integer (fun vs H Q E h => ?_) (fun cdv A outer s H vs Q E hr h => ?_)
  · obtain ⟨u, a, rfl, _⟩ := h
    rfl
  · obtain ⟨u, d, rfl, hd, q⟩ := h
    refine ⟨_, (pss_one (ps_ret (pe_and (pe_callB (call_isiU (K := K)) (by rfl) T.b_isinstance (by decide +kernel) (pa_cons (pv 0) (pa_cons (pe_bltn (v := .ty "int") (by rfl) T.b_int (by decide +kernel) rfl) pa_nil))) (pe_one (pe_not (pe_callB (call_isiU (K := K)) (by rfl) T.b_isinstance (by decide +kernel) (pa_cons (pv 0) (pa_cons (pe_bltn (v := .ty "bool") (by rfl) T.b_bool (by decide +kernel) rfl) pa_nil)))))))), ?_⟩
    walk_at "run"
    cases d with
    | int i =>
      refine x_isD hd (b := true) rfl ?_
      walk_at "run"
      refine x_isD hd (b := false) rfl ?_
      walk_at "run"
      exact q
    | bool b =>
      refine x_isD hd (b := true) rfl ?_
      walk_at "run"
      refine x_isD hd (b := true) rfl ?_
      walk_at "run"
      exact q
    | none => exact x_isD hd (b := false) rfl ⟨false, rfl, by rw [if_neg Bool.false_ne_true]; exact q⟩
    | str z => exact x_isD hd (b := false) rfl ⟨false, rfl, by rw [if_neg Bool.false_ne_true]; exact q⟩
    | list ds => exact x_isD hd (b := false) rfl ⟨false, rfl, by rw [if_neg Bool.false_ne_true]; exact q⟩
    | tuple ds => exact x_isD hd (b := false) rfl ⟨false, rfl, by rw [if_neg Bool.false_ne_true]; exact q⟩
    | dict ds => exact x_isD hd (b := false) rfl ⟨false, rfl, by rw [if_neg Bool.false_ne_true]; exact q⟩
abbrev s_is_fraction : Stmt := top 31
theorem sc_is_fraction : FnScope ["value", "numerator", "denominator"] ["value"] (defScope s_is_fraction) := ⟨rfl, rfl, rfl, by decide +kernel, rfl, by decide +kernel, by decide +kernel⟩
def spIsF (K : PySem.W.Frag) : Sp := fun vs H Q _ => ∃ (u : V) (d : PyData), vs = [u] ∧ Dp K H u d ∧ ∀ b, isFrac d = b → Q (.bl b) H
theorem ok_is_fraction {f f1 : Addr} {fd fd1 : FuncData} (D : Df K mg "is_fraction" s_is_fraction ["value"] f fd) (T : Bt mg) (D_is_integer : Df K mg "is_integer" s_is_integer ["value"] f1 fd1) (hgcd : mg "gcd" = some (.builtin "math.gcd")) : FnOk P w K mg base CX0 2 f fd ["value"] (spIsF K) := by
  have G_is_integer : FnOk P w K mg base CX0 1 f1 fd1 _ _ := ok_is_integer D_is_integer T
  refine D.F.ok sc_is_fraction (fun vs H Q E h => ?_) (fun cdv A outer s H vs Q E hr h => ?_)
  · obtain ⟨u, a, rfl, _⟩ := h
    rfl
  · obtain ⟨u, d, rfl, hd, q⟩ := h
    have hu := hr.units
    refine ⟨_, (pss_cons (ps_if (PW.pt (pw_or (pt_not (pt_val (pe_callB (call_isiU (K := K)) (by rfl) T.b_isinstance (by decide +kernel) (pa_cons (pv 0) (pa_cons (pe_bltn (v := .ty "tuple") (by rfl) T.b_tuple (by decide +kernel) rfl) pa_nil))))) (pw_or1 (pt_cmpR (op_neU (K := K) hu) (pe_callB (call_lenU (K := K)) (by rfl) T.b_len (by decide +kernel) (pa_cons (pv 0) pa_nil)) pe_int (nomark _))))) (pss_one (ps_ret pe_bl)) pss_nil)
      (pss_cons (ps_asg (pv 0) (pg_tup rfl (pgs_cons (pg_name (i := 1) sc_is_fraction.nd rfl (Or.inl rfl)) (pgs_cons (pg_name (i := 2) sc_is_fraction.nd rfl (Or.inl rfl)) pgs_nil))))
      (pss_cons (ps_if (PW.pt (pw_or (pt_not (pt_val (pe_call (G_is_integer) (hr.mono (by decide)) rfl D_is_integer.g D_is_integer.F.kp D_is_integer.b .nil pass0 (pa_cons (pv 1) pa_nil)))) (pw_or1 (pt_not (pt_val (pe_call (G_is_integer) (hr.mono (by decide)) rfl D_is_integer.g D_is_integer.F.kp D_is_integer.b .nil pass0 (pa_cons (pv 2) pa_nil))))))) (pss_one (ps_ret pe_bl)) pss_nil)
      (pss_one (ps_ret (pe_and (pe_cmpR (op_gtU) (pv 2) pe_int (nomark _)) (pe_one (pe_cmpR (op_eqU (K := K) hu) (pe_callBfun call_gcdU (by rfl) hgcd (pa_cons (pv 1) (pa_cons (pv 2) pa_nil))) pe_int (nomark _))))))))), ?_⟩
    walk_at "run"
    by_cases ht : ∃ ds, d = .tuple ds
    · obtain ⟨ds, rfl⟩ := ht
      obtain ⟨t, xs, rfl, hT, hds⟩ := Dp.tup_inv hd
      have hl := hds.len
      refine x_isD hd (b := true) rfl ?_
      walk_at "run"
      rw [if_neg (by decide)]
      refine x_lenT hT ?_
      walk_at "run"
      match ds, hds, hl with
      | [], .nil, _ => exact q _ rfl
      | [_], .cons _ .nil, _ => exact q _ (noFrac fun a b e => by cases e)
      | d1 :: d2 :: d3 :: ds, .cons h1 (.cons h2 (.cons h3 hs)), hl =>
        rw [if_pos (by simp only [List.length_cons]; simp; omega)]
        exact q _ (noFrac fun a b e => by cases e)
      | [d1, d2], .cons h1 (.cons h2 .nil), hl =>
        rw [if_neg (by simp)]
        refine x_two hT ?_
        walk_at "run"
        refine ⟨_, d1, rfl, h1, ?_⟩
        by_cases c1 : isInt d1 = true
        · obtain ⟨i, rfl⟩ := isInt_int c1
          obtain rfl := h1.int_inv
          rw [c1]
          walk_at "run"
          refine ⟨_, d2, rfl, h2, ?_⟩
          by_cases c2 : isInt d2 = true
          · obtain ⟨j, rfl⟩ := isInt_int c2
            obtain rfl := h2.int_inv
            rw [c2]
            walk_at "run"
            rw [if_neg (by decide)]
            walk_at "run"
            by_cases c3 : 0 < j
            · rw [if_pos c3]
              refine ⟨_, _, rfl, ?_⟩
              walk_at "run"
              exact q _ (by unfold isFrac; simp [c3])
            · rw [if_neg c3]
              exact q _ (by unfold isFrac; simp; omega)
          · have c2 : isInt d2 = false := by simpa using c2
            rw [c2]
            walk_at "run"
            rw [if_pos (by decide)]
            exact q _ (noFrac fun a b e => by cases e; cases c2)
        · have c1 : isInt d1 = false := by simpa using c1
          rw [c1]
          walk_at "run"
          exact q _ (noFrac fun a b e => by cases e; cases c1)
    · have hb : PySem.W.kitOne K (.type (tyN d)) (.type "tuple") = some false := by
        cases d with
        | tuple ds => exact absurd ⟨ds, rfl⟩ ht
        | _ => rfl
      have hf : isFrac d = false := by
        cases d with
        | tuple ds => exact absurd ⟨ds, rfl⟩ ht
        | _ => rfl
      refine x_isD hd hb ?_
      walk_at "run"
      rw [if_pos (by decide)]
      exact q _ hf
end
end K
set_option Elab.async false
set_option linter.all false
set_option maxRecDepth 100000
set_option maxHeartbeats 1000000
set_option exponentiation.threshold 20000
namespace K
open PySem PySem.Spec PyProof.Rows L2 Evl FB
local macro_rules | `(tactic| walk_at "run") => `(tactic| try simp only [tSeq, tAsg, tVar, tC, gName, L2.start, List.map_cons, List.map_nil, List.cons_append, List.nil_append, List.length_cons, List.length_nil, List.replicate, List.getElem?_cons_zero, List.getElem?_cons_succ, Option.some.injEq, exists_eq_left', List.set_cons_zero, List.set_cons_succ, V.ref.injEq, tRet, x_tLst, x_tTup, tCons, tCB, tNil, tOp, x_addI, x_mulI, x_rI, x_rI0, x_ltI, x_leI, x_ltS, x_leS, x_eqI, x_neI, x_eqS, x_eqB, x_neB, x_isiI, x_isiS, x_int, x_max, x_min, cxOf, tIfS, tNext, tTest, V.bl.injEq, decide_eq_true_eq, gSub, tAnd, tOr, tNot, tB, tDrop, tBM, x_tFor, iRng1, iList, iTup, x_tLc, tYes, tCall, tIf, tAndV, tOrV, tNotV, tChain, List.append_nil, tUn, if_true, wipe, true_and, x_never, iU, x_itS, kV, Nat.reduceAdd, Nat.reduceSub, List.replicate_zero, x_rU, x_tMkO, iEnumT, x_tDc, x_tDGet, x_tDGet2, x_sDPut, x_tDSetd, x_tDNewK, x_iItems, x_iZip, x_tSAddK, x_tLockV, x_tTupRg, x_tRg2, tPar, tPar3, tBM0, tSl, tNoPart, tPart, x_tSetAdd, x_tDIn, x_iKeys, x_iZipX, tWhile])
/-- the values of a station's places -/
def plL (z : Str) (f : Nat → Rat) : Key → List Rat
  | .inl j => [f j.toNat]
  | .inr y => if y = z then [1] else []
def valsOf (z : Str) (f : Nat → Rat) (s : List Key) : List Rat := (s.map (plL z f)).flatten
theorem sumL_append : ∀ {a b : List Rat}, sumL (a ++ b) = sumL a + sumL b
  | [], b => by show sumL b = 0 + sumL b; grind
  | q :: a, b => by
    show q + sumL (a ++ b) = q + sumL a + sumL b
    rw [sumL_append]; grind
theorem sum_vals {z : Str} {f : Nat → Rat} : ∀ {s : List Key}, sumL (valsOf z f s) = sumL (s.map (plR z f))
  | [] => rfl
  | p :: s => by
    show sumL (plL z f p ++ valsOf z f s) = plR z f p + sumL (s.map (plR z f))
    rw [sumL_append, sum_vals]
    congr 1
    cases p with
    | inl j => show f j.toNat + 0 = f j.toNat; grind
    | inr y =>
      show sumL (if y = z then [1] else []) = if y = z then 1 else 0
      split
      · show (1 : Rat) + 0 = 1; grind
      · rfl
theorem vals_take {z : Str} {f : Nat → Rat} {s : List Key} {i : Nat} {p : Key} (h : s[i]? = some p) : valsOf z f (s.take (i + 1)) = valsOf z f (s.take i) ++ plL z f p := by
  unfold valsOf
  rw [List.take_add_one, h]
  simp
theorem vals_len {z : Str} {f : Nat → Rat} : ∀ {s : List Key}, (valsOf z f s).length ≤ s.length
  | [] => Nat.le_refl _
  | p :: s => by
    show (plL z f p ++ valsOf z f s).length ≤ _
    rw [List.length_append, List.length_cons]
    have h1 := vals_len (z := z) (f := f) (s := s)
    have h2 : (plL z f p).length ≤ 1 := by
      cases p with
      | inl j => exact Nat.le_refl _
      | inr y => show (if y = z then [(1 : Rat)] else []).length ≤ 1; split <;> simp
    omega
/-- rates as they stand: fractions, small ones -/
structure RtS (D : Nat) (qs : List Rat) : Prop where
  sm : ∀ q ∈ qs, Sm D 2 q
theorem Sm.one {D : Nat} : Sm D 2 1 := by
  have e : ((2 : Nat) : Rat) = 2 := rfl
  exact ⟨by rw [e]; grind, by rw [e]; grind, Nat.one_dvd _⟩
theorem getD_sm {D : Nat} {qs : List Rat} (h : ∀ q ∈ qs, Sm D 2 q) (j : Nat) : Sm D 2 (qs.getD j 0) := by
  rw [List.getD_eq_getElem?_getD]
  cases e : qs[j]? with
  | none => exact Sm.zero
  | some q => exact h q (List.mem_of_getElem? e)
theorem vals_sm {D : Nat} {z : Str} {qs : List Rat} {s : List Key} (h : ∀ q ∈ qs, Sm D 2 q) : ∀ q ∈ valsOf z (fun j => qs.getD j 0) s, Sm D 2 q := fun q hq => by
  unfold valsOf at hq
  obtain ⟨l, hl, hq⟩ := List.mem_flatten.mp hq
  obtain ⟨p, _, rfl⟩ := List.mem_map.mp hl
  cases p with
  | inl j =>
    obtain rfl := List.mem_singleton.mp hq
    exact getD_sm h _
  | inr y =>
    replace hq : q ∈ if y = z then [(1 : Rat)] else [] := hq
    by_cases e : y = z
    · rw [if_pos e] at hq
      obtain rfl := List.mem_singleton.mp hq
      exact Sm.one
    · rw [if_neg e] at hq
      cases hq
section
variable {P : Program} {w : World} {K : PySem.W.Frag} {mg : Str → Option Value} {base : Heap}
/-- the defs of the fractions -/
structure DF (K : PySem.W.Frag) (mg : Str → Option Value) (zr on : Addr) : Prop where
  low : ∃ f fd, Df K mg "lowest_terms" s_lowest_terms ["numerator", "denominator"] f fd
  add : ∃ f fd, Df K mg "add" s_add ["one", "other"] f fd
  mul : ∃ f fd, Df K mg "multiply" s_multiply ["fraction", "integer"] f fd
  div : ∃ f fd, Df K mg "divide" s_divide ["fraction", "integer"] f fd
  tot : ∃ f fd, Df K mg "total" s_total ["fractions"] f fd
  isi : ∃ f fd, Df K mg "is_integer" s_is_integer ["value"] f fd
  isf : ∃ f fd, Df K mg "is_fraction" s_is_fraction ["value"] f fd
  word : ∃ f fd, Df K mg "is_word" s_is_word ["text"] f fd
  place : ∃ f fd, Df K mg "is_place" s_is_place ["place", "station", "stations"] f fd
  check : ∃ f fd, Df K mg "check_network" s_check_network ["network"] f fd
  gcd : mg "gcd" = some (.builtin "math.gcd")
  zero : Zero K mg zr
  one : One K mg on
abbrev s_sum_values : Stmt := top 43
theorem sc_sum_values : FnScope ["network", "port", "rates", "station", "values", "place"] ["network", "port", "rates", "station"] (defScope s_sum_values) := ⟨rfl, rfl, rfl, by decide +kernel, rfl, by decide +kernel, by decide +kernel⟩
def spVals (K : PySem.W.Frag) : Sp := fun vs H Q _ => ∃ (v : V) (z : Str) (ra : Addr) (ts : List V) (qs : List Rat) (k : Nat) (N : Net) (D : Nat), vs = [v, .str z, .ref ra, .int (k : Nat)] ∧ NetAt K H v N ∧ ValidN N ∧ k < N.length ∧ SqA K H ra ts ∧ DpAll K H ts (qs.map frD) ∧ qs.length = N.length ∧
  (∀ q ∈ qs, Sm D 2 q) ∧ D ≠ 0 ∧ D ≤ 2 ^ 140 ∧ ∀ H' r, Ex H H' → FrAt K H' r (sumL ((N.getD k []).map (plR z fun j => qs.getD j 0))) → Q r H'
theorem ok_sum_values {f zr on : Addr} {fd : FuncData} (D : Df K mg "sum_values" s_sum_values ["network", "port", "rates", "station"] f fd) (T : Bt mg) (DD : DF K mg zr on) : FnOk P w K mg base CX0 4 f fd ["network", "port", "rates", "station"] (spVals K) := by
  obtain ⟨f1, fd1, D_low⟩ := DD.low
  obtain ⟨f2, fd2, D_add⟩ := DD.add
  obtain ⟨f3, fd3, D_total⟩ := DD.tot
  have G_total : FnOk P w K mg base CX0 3 f3 fd3 _ _ := ok_total D_total D_add D_low DD.gcd DD.zero
  have G_ONE := DD.one.g
  refine D.F.ok sc_sum_values (fun vs H Q E h => ?_) (fun cdv A outer s H vs Q E hr h => ?_)
  · obtain ⟨v, z, ra, ts, qs, k, N, D, rfl, _⟩ := h
    rfl
  · obtain ⟨v, z, ra, ts, qs, k, N, D, rfl, hN, hV, hk, hra, hts, hql, hsm, d0, d1, q⟩ := h
    have hu := hr.units
    refine ⟨_, (pss_cons (ps_set (i := 4) sc_sum_values.nd rfl (Or.inl rfl) (pe_lst pa_nil))
      (pss_cons (ps_for PassesOwn.never rfl (pi_U (K := K) (pe_ix (ix_U (K := K)) (pv 0) (pv 3) (fun _ _ => rfl))) (pg_name (i := 5) sc_sum_values.nd rfl (Or.inl rfl)) (pss_one (ps_if (pt_not (pt_val (pe_callB (call_isiU (K := K)) (by rfl) T.b_isinstance (by decide +kernel) (pa_cons (pv 5) (pa_cons (pe_bltn (v := .ty "str") (by rfl) T.b_str (by decide +kernel) rfl) pa_nil))))) (pss_one (ps_expr (pe_bm PySem.F.plainAttrs_list PySem.F.slot_list_append PySem.F.type_list_append mt_append (pv 4) (pa_cons (pe_ix (ix_U (K := K)) (pv 2) (pv 5) (fun _ _ => rfl)) pa_nil)))) (pss_one (ps_if (pt_cmpR (op_eqU (K := K) hu) (pv 5) (pv 1) (nomark _)) (pss_one (ps_expr (pe_bm PySem.F.plainAttrs_list PySem.F.slot_list_append PySem.F.type_list_append mt_append (pv 4) (pa_cons (pe_glob (v := .ref on) rfl G_ONE rfl) pa_nil)))) pss_nil)))))
      (pss_one (ps_ret (pe_call (G_total) (hr.mono (by decide)) rfl D_total.g D_total.F.kp D_total.b .nil pass0 (pa_cons (pv 4) pa_nil)))))), ?_⟩
    obtain ⟨na, ns, rfl, hNs, hns⟩ := hN.at
    have htl : ts.length = N.length := by rw [hts.len, List.length_map, hql]
    obtain ⟨s, hs⟩ : ∃ s, N[k]? = some s := ⟨N[k], by simp [hk]⟩
    have hg : N.getD k [] = s := by simp [List.getD_eq_getElem?_getD, hs]
    obtain ⟨sv, hsv, hsd⟩ := hns.get (i := k) (d := stD s) (by rw [List.getElem?_map, hs]; rfl)
    obtain ⟨b, rfl, hb⟩ := StAt.at hsd
    have h8 := hV.len8 k
    rw [hg] at h8 q
    walk_at "run"
    refine x_lst (by simp) fun l H1 nl e1 hl => x_ixT (ex_t e1 hNs) (atI_nat hsv) (x_itT (ex_t e1 hb) (loop_it walk_tup (fun i σ H' => ∃ u5 vs, σ = [some (.ref na), some (.str z), some (.ref ra), some (.int (k : Nat)), some (.ref l), u5] ∧ Ex H H' ∧ H' l = some (.lst vs) ∧ DpAll K H' vs ((valsOf z (fun j => qs.getD j 0) (s.take i)).map frD)) ⟨_, _, rfl, e1, hl, .nil⟩ (fun i σ H' _ ⟨_, _, _, e, _⟩ => ex_t e hb) ?_ ?_))
    · rintro i x σ H2 H2' hi ⟨u5, vs, rfl, e2, hl2, hvs⟩ ⟨eH, hx⟩
      subst eH
      obtain ⟨p, hp, rfl⟩ : ∃ p, s[i]? = some p ∧ kV p = x := by simpa using hx
      have hvl : vs.length ≤ 8 := by
        rw [hvs.len, List.length_map]
        refine Nat.le_trans vals_len ?_
        rw [List.length_take]; omega
      rw [vals_take hp]
      cases p with
      | inr y =>
        walk_at "run"
        rw [if_neg (by simp)]
        by_cases e : y = z
        · rw [if_pos e]
          walk_at "run"
          refine ⟨x_tyL (SqL.of hl2), x_append hl2 (by omega) fun H3 e3 h3 => ?_⟩
          refine ⟨_, _, rfl, fun o u h => e3 _ _ (ne_of_none h nl) (e2 _ _ h), h3, ?_⟩
          rw [List.map_append]
          refine DpAll.append (DpAll.tx (TX.but hl2 e3) hvs fun d hd => by obtain ⟨q, _, rfl⟩ := List.mem_map.mp hd; exact frD_t q) ?_
          show DpAll K H3 _ ((if y = z then [(1 : Rat)] else []).map frD)
          rw [if_pos e]
          exact .cons DD.one.fr .nil
        · rw [if_neg e]
          walk_at "run"
          refine ⟨_, _, rfl, e2, hl2, ?_⟩
          show DpAll K _ vs ((_ ++ if y = z then [(1 : Rat)] else []).map frD)
          rw [if_neg e, List.append_nil]
          exact hvs
      | inl j =>
        have hj := hV.fwr.fw k hk j (by rw [hg]; exact List.mem_of_getElem? hp)
        obtain ⟨m, rfl⟩ : ∃ m : Nat, j = (m : Int) := ⟨j.toNat, by omega⟩
        have hm : m < qs.length := by omega
        obtain ⟨y, hy, hyd⟩ := hts.get (i := m) (d := frD (qs.getD m 0)) (by rw [List.getElem?_map, List.getD_eq_getElem?_getD]; simp [hm])
        walk_at "run"
        rw [if_pos (by simp)]
        refine ⟨x_tyL (SqL.of hl2), x_ixA (hra.ex e2) (atI_nat hy) (x_append hl2 (by omega) fun H3 e3 h3 => ?_)⟩
        refine ⟨_, _, rfl, fun o u h => e3 _ _ (ne_of_none h nl) (e2 _ _ h), h3, ?_⟩
        rw [List.map_append]
        refine DpAll.append (DpAll.tx (TX.but hl2 e3) hvs fun d hd => by obtain ⟨q, _, rfl⟩ := List.mem_map.mp hd; exact frD_t q) (.cons ?_ .nil)
        exact Dp.tx ((TX.of e2).trans (TX.but hl2 e3)) hyd (frD_t _)
    · rintro σ H2 ⟨u5, vs, rfl, e2, hl2, hvs⟩
      rw [List.length_map, List.take_length] at hvs
      have hw : ∀ q ∈ valsOf z (fun j => qs.getD j 0) s, Sm D 2 q := vals_sm hsm
      have hvl : (valsOf z (fun j => qs.getD j 0) s).length ≤ 8 := Nat.le_trans vals_len h8
      walk_at "run"
      refine ⟨l, vs, _, rfl, SqL.of hl2, hvs, fun q hq => (hw q hq).wd d0 d1 (by decide), Sm.wds hw d0 d1 (Nat.le_trans (show _ ≤ 16 by omega) (by decide)), fun H3 r e3 h3 => ?_⟩
      rw [sum_vals] at h3
      exact q H3 r (e2.trans e3) h3
end
end K
set_option Elab.async false
set_option linter.all false
set_option maxRecDepth 100000
set_option maxHeartbeats 1000000
set_option exponentiation.threshold 20000
namespace K
open PySem PySem.Spec PyProof.Rows L2 Evl FB
local macro_rules | `(tactic| walk_at "run") => `(tactic| try simp only [tSeq, tAsg, tVar, tC, gName, L2.start, List.map_cons, List.map_nil, List.cons_append, List.nil_append, List.length_cons, List.length_nil, List.replicate, List.getElem?_cons_zero, List.getElem?_cons_succ, Option.some.injEq, exists_eq_left', List.set_cons_zero, List.set_cons_succ, V.ref.injEq, tRet, x_tLst, x_tTup, tCons, tCB, tNil, tOp, x_addI, x_mulI, x_rI, x_rI0, x_ltI, x_leI, x_ltS, x_leS, x_eqI, x_neI, x_eqS, x_eqB, x_neB, x_isiI, x_isiS, x_int, x_max, x_min, cxOf, tIfS, tNext, tTest, V.bl.injEq, decide_eq_true_eq, gSub, tAnd, tOr, tNot, tB, tDrop, tBM, x_tFor, iRng1, iList, iTup, x_tLc, tYes, tCall, tIf, tAndV, tOrV, tNotV, tChain, List.append_nil, tUn, if_true, wipe, true_and, x_never, iU, x_itS, kV, Nat.reduceAdd, Nat.reduceSub, List.replicate_zero, x_rU, x_tMkO, iEnumT, x_tDc, x_tDGet, x_tDGet2, x_sDPut, x_tDSetd, x_tDNewK, x_iItems, x_iZip, x_tSAddK, x_tLockV, x_tTupRg, x_tRg2, tPar, tPar3, tBM0, tSl, tNoPart, tPart, x_tSetAdd, x_tDIn, x_iKeys, x_iZipX, tWhile])
/-- the rates of all stations -/
def rtsL (z : Str) (N : Net) : List Rat := (List.range N.length).map (rt z N)
theorem rtsL_len {z : Str} {N : Net} : (rtsL z N).length = N.length := by unfold rtsL; simp
theorem rtsL_get {z : Str} {N : Net} {j : Nat} (h : j < N.length) : (rtsL z N).getD j 0 = rt z N j := by
  unfold rtsL
  rw [List.getD_eq_getElem?_getD]
  simp [h]
theorem rtsL_at {z : Str} {N : Net} {j : Nat} (h : j < N.length) : (rtsL z N)[j]? = some (rt z N j) := by
  unfold rtsL
  simp [h]
theorem Sm.up {D : Nat} {q : Rat} (h : Sm D 1 q) : Sm D 2 q := h.mono (by decide)
theorem rtsL_sm {z : Str} {N : Net} (h : ValidN N) : ∀ q ∈ rtsL z N, Sm (denN N) 1 q := fun q hq => by
  obtain ⟨i, hi, rfl⟩ := List.mem_map.mp hq
  exact rt_sm h (List.mem_range.mp hi)
/-- the rates of the last i stations, the others zero -/
def rtsI (z : Str) (N : Net) (i : Nat) : List Rat := (List.range N.length).map fun j => if N.length ≤ j + i then rt z N j else 0
theorem rtsI_len {z : Str} {N : Net} {i : Nat} : (rtsI z N i).length = N.length := by unfold rtsI; simp
theorem rtsI_get {z : Str} {N : Net} {i j : Nat} (h : j < N.length) (k : N.length ≤ j + i) : (rtsI z N i).getD j 0 = rt z N j := by
  unfold rtsI
  rw [List.getD_eq_getElem?_getD]
  simp [h, k]
theorem rtsI_zero {z : Str} {N : Net} : rtsI z N 0 = List.replicate N.length 0 := by
  unfold rtsI
  rw [List.eq_replicate_iff]
  refine ⟨by simp, fun q hq => ?_⟩
  obtain ⟨j, hj, rfl⟩ := List.mem_map.mp hq
  have := List.mem_range.mp hj
  rw [if_neg (by omega)]
theorem rtsI_all {z : Str} {N : Net} : rtsI z N N.length = rtsL z N := by
  unfold rtsI rtsL
  refine List.map_congr_left fun j hj => ?_
  rw [if_pos (by omega)]
theorem rtsI_set {z : Str} {N : Net} {i : Nat} (hi : i < N.length) : (rtsI z N i).set (N.length - 1 - i) (rt z N (N.length - 1 - i)) = rtsI z N (i + 1) := by
  apply List.ext_getElem?
  intro m
  rw [List.getElem?_set]
  by_cases e : N.length - 1 - i = m
  · subst e
    rw [if_pos rfl, if_pos (by rw [rtsI_len]; omega)]
    unfold rtsI
    rw [List.getElem?_map, List.getElem?_range (by omega)]
    show some _ = some (if _ then _ else _)
    rw [if_pos (by omega)]
  · rw [if_neg e]
    unfold rtsI
    rw [List.getElem?_map, List.getElem?_map]
    by_cases hm : m < N.length
    · rw [List.getElem?_range hm]
      show some (if _ then _ else _) = some (if _ then _ else _)
      by_cases c : N.length ≤ m + i
      · rw [if_pos c, if_pos (by omega)]
      · rw [if_neg c, if_neg (by omega)]
    · rw [List.getElem?_eq_none (by simp; omega)]; rfl
theorem rtsI_sm {z : Str} {N : Net} {i : Nat} (h : ValidN N) : ∀ q ∈ rtsI z N i, Sm (denN N) 2 q := fun q hq => by
  obtain ⟨j, hj, rfl⟩ := List.mem_map.mp hq
  split
  · exact (rt_sm h (List.mem_range.mp hj)).up
  · exact Sm.zero
theorem rt_step {z : Str} {N : Net} (h : ValidN N) {i : Nat} (hi : i < N.length) : sumL ((N.getD (N.length - 1 - i) []).map (plR z fun j => (rtsI z N i).getD j 0)) / (((N.getD (N.length - 1 - i) []).length : Nat) : Rat) = rt z N (N.length - 1 - i) := by
  rw [rt_eq h.fwr (by omega)]
  congr 2
  refine List.map_congr_left fun p hp => plR_congr fun j hj => ?_
  subst hj
  have := h.fwr.fw (N.length - 1 - i) (by omega) j hp
  exact rtsI_get (by omega) (by omega)
theorem plR_sm {D : Nat} {z : Str} {f : Nat → Rat} {c : Nat} (hf : ∀ j, Sm D c (f j)) (hc : 1 ≤ c) (p : Key) : Sm D c (plR z f p) := by
  cases p with
  | inl j => exact hf _
  | inr y =>
    show Sm D c (if y = z then 1 else 0)
    split
    · have e : ((1 : Nat) : Rat) = 1 := rfl
      have h1 : Sm D 1 1 := ⟨by rw [e]; grind, by rw [e]; grind, Nat.one_dvd _⟩
      exact h1.mono hc
    · exact Sm.zero
theorem frs_t (qs : List Rat) : ∀ d ∈ qs.map frD, TupD d := fun d hd => by
  obtain ⟨q, _, rfl⟩ := List.mem_map.mp hd
  exact frD_t q
section
variable {P : Program} {w : World} {K : PySem.W.Frag} {mg : Str → Option Value} {base : Heap}
abbrev s_make_rates : Stmt := top 38
theorem sc_make_rates : FnScope ["network", "port", "rates", "station"] ["network", "port"] (defScope s_make_rates) := ⟨rfl, rfl, rfl, by decide +kernel, rfl, by decide +kernel, by decide +kernel⟩
/-- rates that stand at v -/
abbrev RsAt (K : PySem.W.Frag) (H : Hp) (v : V) (qs : List Rat) : Prop := Dp K H v (.tuple (qs.map frD))
def spMake (K : PySem.W.Frag) : Sp := fun vs H Q _ => ∃ (v : V) (z : Str) (N : Net), vs = [v, .str z] ∧ NetAt K H v N ∧ ValidN N ∧ ∀ H' r, Ex H H' → RsAt K H' r (rtsL z N) → Q r H'
theorem ok_make_rates {f g zr on : Addr} {fd gd : FuncData} (D : Df K mg "make_rates" s_make_rates ["network", "port"] f fd) (T : Bt mg) (Ck : Ct K mg) (DD : DF K mg zr on) (D_sum_values : Df K mg "sum_values" s_sum_values ["network", "port", "rates", "station"] g gd) : FnOk P w K mg base CX0 5 f fd ["network", "port"] (spMake K) := by
  obtain ⟨f1, fd1, D_low⟩ := DD.low
  obtain ⟨f2, fd2, D_is_word⟩ := DD.word
  obtain ⟨f3, fd3, D_is_place⟩ := DD.place
  obtain ⟨f4, fd4, D_check_network⟩ := DD.check
  obtain ⟨f5, fd5, D_divide⟩ := DD.div
  have G_check_network : FnOk P w K mg base CX0 4 f4 fd4 _ _ := ok_check_network0 D_check_network T Ck D_is_word D_is_place
  have G_divide : FnOk P w K mg base CX0 2 f5 fd5 _ _ := ok_divide D_divide D_low DD.gcd
  have G_sum_values : FnOk P w K mg base CX0 4 g gd _ _ := ok_sum_values D_sum_values T DD
  have G_ZERO := DD.zero.g
  refine D.F.ok sc_make_rates (fun vs H Q E h => ?_) (fun cdv A outer s H vs Q E hr h => ?_)
  · obtain ⟨v, z, N, rfl, _⟩ := h
    rfl
  · obtain ⟨v, z, N, rfl, hN, hV, q⟩ := h
    have hu := hr.units
    refine ⟨_, (pss_cons (ps_expr (pe_call (G_check_network) (hr.mono (by decide)) rfl D_check_network.g D_check_network.F.kp D_check_network.b .nil pass0 (pa_cons (pv 0) pa_nil)))
      (pss_cons (ps_set (i := 2) sc_make_rates.nd rfl (Or.inl rfl) (pe_op (op_mulU (K := K)) (pe_lst (pa_cons (pe_glob (v := .ref zr) rfl G_ZERO rfl) pa_nil)) (pe_callB (call_lenU (K := K)) (by rfl) T.b_len (by decide +kernel) (pa_cons (pv 0) pa_nil))))
      (pss_cons (ps_for PassesOwn.never rfl (pi_revR (by rfl) T.b_reversed (prg_1 (by rfl) T.b_range (pe_callB (call_lenU (K := K)) (by rfl) T.b_len (by decide +kernel) (pa_cons (pv 0) pa_nil)))) (pg_name (i := 3) sc_make_rates.nd rfl (Or.inl rfl)) (pss_one (ps_asg (pe_call (G_divide) (hr.mono (by decide)) rfl D_divide.g D_divide.F.kp D_divide.b .nil pass0 (pa_cons (pe_call (G_sum_values) (hr.mono (by decide)) rfl D_sum_values.g D_sum_values.F.kp D_sum_values.b .nil pass0 (pa_cons (pv 0) (pa_cons (pv 1) (pa_cons (pv 2) (pa_cons (pv 3) pa_nil))))) (pa_cons (pe_callB (call_lenU (K := K)) (by rfl) T.b_len (by decide +kernel) (pa_cons (pe_ix (ix_U (K := K)) (pv 0) (pv 3) (fun _ _ => rfl)) pa_nil)) pa_nil))) (pg_sub (pv 2) (pv 3) set_list))))
      (pss_one (ps_ret (pe_callTy (call_tupU (K := K)) (by rfl) T.b_tuple (by decide +kernel) (pa_cons (pv 2) pa_nil))))))), ?_⟩
    walk_at "run"
    refine ⟨v, N, rfl, hN, hV, fun H1 e1 => ?_⟩
    obtain ⟨na, ns, rfl, hNs, hns⟩ := hN.at
    have hnl : ns.length = N.length := by rw [hns.len, List.length_map]
    have h40 := hV.le
    have h1n := hV.pos
    walk_at "run"
    refine x_lst (by simp) fun l1 H2 n1 e2 hl1 => x_lenT (ex_t (e1.trans e2) hNs) ?_
    rw [hnl]
    walk_at "run"
    refine x_repQ hl1 ⟨by omega, by omega⟩ (by simp) fun l H3 n3 e3 hl => ?_
    have E3 : Ex H H3 := e1.trans (e2.trans e3)
    have nl : H l = none := fresh_back (e1.trans e2) n3
    simp only [iRevR, tRg1]
    walk_at "run"
    refine x_lenT (ex_t E3 hNs) ⟨_, rfl, by decide, by decide, by omega, by omega, ?_⟩
    rw [hnl, show ((N.length : Nat) - 0 : Int).toNat = N.length by omega]
    refine loop_it walk_rangeC (fun i σ H' => ∃ u3 ts, σ = [some (.ref na), some (.str z), some (.ref l), u3] ∧ Ex H H' ∧ H' l = some (.lst ts) ∧ DpAll K H' ts ((rtsI z N i).map frD)) ⟨_, _, rfl, E3, hl, ?_⟩ (fun _ _ _ _ _ => trivial) ?_ ?_
    · rw [rtsI_zero, List.map_replicate]
      have : ∀ n, DpAll K H3 (List.replicate n [V.ref zr]).flatten (List.replicate n (frD 0)) := fun n => by
        induction n with
        | zero => exact .nil
        | succ n ih =>
          rw [List.replicate_succ, List.replicate_succ]
          exact .cons DD.zero.fr ih
      exact this _
    · rintro i x σ H4 H4' hi ⟨u3, ts, rfl, e4, hl4, hts⟩ ⟨eH, rfl⟩
      subst eH
      obtain ⟨k, hk⟩ : ∃ k, k = N.length - 1 - i := ⟨_, rfl⟩
      have hkN : k < N.length := by omega
      have ek : (0 : Int) + ((N.length : Nat) : Int) - 1 + (i : Nat) * (-1) = (k : Nat) := by omega
      simp only [ek]
      obtain ⟨s, hs⟩ : ∃ s, N[k]? = some s := ⟨N[k], by simp [hkN]⟩
      have hg : N.getD k [] = s := by simp [List.getD_eq_getElem?_getD, hs]
      obtain ⟨sv, hsv, hsd⟩ := hns.get (i := k) (d := stD s) (by rw [List.getElem?_map, hs]; rfl)
      obtain ⟨b, rfl, hb⟩ := StAt.at hsd
      have h8 := hV.len8 k
      have h1 := hV.fwr.pos k hkN
      rw [hg] at h8 h1
      have htl : ts.length = N.length := by rw [hts.len, List.length_map, rtsI_len]
      walk_at "run"
      refine ⟨_, z, l, ts, rtsI z N i, k, N, denN N, rfl, Dp.ex e4 hN, hV, hkN, .inl (SqL.of hl4), hts, rtsI_len, rtsI_sm hV, denN_pos hV, denN_le hV, fun H5 r e5 h5 => ?_⟩
      refine x_ixT (ex_t (e4.trans e5) hNs) (atI_nat hsv) (x_lenT (ex_t (e4.trans e5) hb) ?_)
      have hsm : Sm (denN N) 16 (sumL ((N.getD k []).map (plR z fun j => (rtsI z N i).getD j 0))) := by
        refine (Sm.sum (D := denN N) (c := 2) fun q hq => ?_).mono ?_
        · obtain ⟨p, _, rfl⟩ := List.mem_map.mp hq
          exact plR_sm (fun j => getD_sm (rtsI_sm hV) j) (by decide) p
        · rw [List.length_map, hg]; omega
      rw [List.length_map]
      refine ⟨r, _, s.length, rfl, h5, by omega, (hsm.wd (denN_pos hV) (denN_le hV) (by decide)).2, Nat.lt_of_le_of_lt h8 (by decide), fun H6 r2 e6 h6 => ?_⟩
      have hl6 := e6 _ _ (e5 _ _ hl4)
      walk_at "run"
      refine x_setL hl6 (ixN_in (n := ts.length) (by omega) (by omega)) fun H7 e7 h7 => ?_
      have tx := TX.but hl6 e7
      refine ⟨_, _, rfl, fun o u h => e7 _ _ (ne_of_none h nl) (e6 _ _ (e5 _ _ (e4 _ _ h))), h7, ?_⟩
      have hstep := rt_step (z := z) hV hi
      rw [← hk, hg] at hstep
      rw [hg, hstep] at h6
      rw [← rtsI_set hi, ← hk, List.map_set, Int.toNat_natCast]
      exact DpAll.set (DpAll.tx ((TX.of (e5.trans e6)).trans tx) hts (frs_t _)) (Dp.tx tx h6 (frD_t _))
    · rintro σ H4 ⟨u3, ts, rfl, e4, hl4, hts⟩
      rw [rtsI_all] at hts
      walk_at "run"
      refine x_tupL (SqL.of hl4) fun t H5 nt e5 h5 => q H5 _ (e4.trans e5) (.tup (SqT.of h5) (DpAll.ex e5 hts))
end
end K
set_option Elab.async false
set_option linter.all false
set_option maxRecDepth 100000
set_option maxHeartbeats 1000000
set_option exponentiation.threshold 20000
namespace K
open PySem PySem.Spec PyProof.Rows L2 Evl FB
local macro_rules | `(tactic| walk_at "run") => `(tactic| try simp only [tSeq, tAsg, tVar, tC, gName, L2.start, List.map_cons, List.map_nil, List.cons_append, List.nil_append, List.length_cons, List.length_nil, List.replicate, List.getElem?_cons_zero, List.getElem?_cons_succ, Option.some.injEq, exists_eq_left', List.set_cons_zero, List.set_cons_succ, V.ref.injEq, tRet, x_tLst, x_tTup, tCons, tCB, tNil, tOp, x_addI, x_mulI, x_rI, x_rI0, x_ltI, x_leI, x_ltS, x_leS, x_eqI, x_neI, x_eqS, x_eqB, x_neB, x_isiI, x_isiS, x_int, x_max, x_min, cxOf, tIfS, tNext, tTest, V.bl.injEq, decide_eq_true_eq, gSub, tAnd, tOr, tNot, tB, tDrop, tBM, x_tFor, iRng1, iList, iTup, x_tLc, tYes, tCall, tIf, tAndV, tOrV, tNotV, tChain, List.append_nil, tUn, if_true, wipe, true_and, x_never, iU, x_itS, kV, Nat.reduceAdd, Nat.reduceSub, List.replicate_zero, x_rU, x_tMkO, iEnumT, x_tDc, x_tDGet, x_tDGet2, x_sDPut, x_tDSetd, x_tDNewK, x_iItems, x_iZip, x_tSAddK, x_tLockV, x_tTupRg, x_tRg2, tPar, tPar3, tBM0, tSl, tNoPart, tPart, x_tSetAdd, x_tDIn, x_iKeys, x_iZipX, tWhile])
/-- an own error class without fields -/
structure Rz (K : PySem.W.Frag) (mg : Str → Option Value) (x : Str) (C : Addr) : Prop where
  xP : PySem.W.excIn K C [.type "ValueError", .type "Exception", .type "BaseException", .type "object"] "ValueError.__new__" = true
  g : mg x = some (.ref C)
  kP : PySem.W.keepIn K (.ref C) = true
  bP : PySem.W.subIn K (.ref C) (.type "BaseException") = some true
  tP : PySem.W.typeIn K (.ref C) = some (.type "type")
/-- what a passenger may deviate by, station by station -/
def devL (z : Str) (N : Net) : List Rat := (List.range N.length).map fun k => rt z N k * (((((N.getD k []).length : Nat) : Int) - 1 : Int) : Rat)
theorem devL_take {z : Str} {N : Net} {i : Nat} (hi : i < N.length) : (devL z N).take (i + 1) = (devL z N).take i ++ [rt z N i * (((((N.getD i []).length : Nat) : Int) - 1 : Int) : Rat)] := by
  rw [List.take_add_one]
  unfold devL
  rw [List.getElem?_map, List.getElem?_range hi]
  rfl
theorem devL_len {z : Str} {N : Net} : (devL z N).length = N.length := by unfold devL; simp
theorem Sm.mulN {D c : Nat} {q : Rat} (h : Sm D c q) (k : Nat) : Sm D (c * k) (q * ((k : Int) : Rat)) := by
  have hk : (0 : Rat) ≤ ((k : Nat) : Rat) := Rat.natCast_nonneg
  have h1 := Rat.mul_le_mul_of_nonneg_right h.lo hk
  have h2 := Rat.mul_le_mul_of_nonneg_right h.hi hk
  have e : ((c * k : Nat) : Rat) = ((c : Nat) : Rat) * ((k : Nat) : Rat) := by simp
  rw [Rat.intCast_natCast]
  refine ⟨by rw [e]; grind, by rw [e]; grind, den_dvd ?_⟩
  have := (isZ_den h.dv).mul (IsZ.nat k)
  have e2 : q * ((k : Nat) : Rat) * ((D : Nat) : Rat) = q * ((D : Nat) : Rat) * ((k : Nat) : Rat) := by grind
  rw [e2]; exact this
theorem devL_sm {z : Str} {N : Net} (h : ValidN N) : ∀ q ∈ devL z N, Sm (denN N) 7 q := fun q hq => by
  obtain ⟨i, hi, rfl⟩ := List.mem_map.mp hq
  have hi := List.mem_range.mp hi
  have h1 := h.fwr.pos i hi
  have h8 := h.len8 i
  have e : ((((N.getD i []).length : Nat) : Int) - 1) = (((N.getD i []).length - 1 : Nat) : Int) := by omega
  rw [e]
  exact ((rt_sm h hi).mulN _).mono (by omega)
theorem eqv_fr (a b : Rat) : PyData.eqv (frD a) (frD b) = decide (a = b) := by
  unfold frD
  simp only [PyData.eqv, PyData.eqvAll, Bool.and_true]
  by_cases e : a = b
  · subst e; simp
  · rw [decide_eq_false e]
    by_cases h1 : a.num = b.num
    · by_cases h2 : a.den = b.den
      · exact absurd (Rat.ext h1 h2) e
      · simp; intro _; omega
    · simp [h1]
section
variable {P : Program} {w : World} {K : PySem.W.Frag} {mg : Str → Option Value} {base : Heap}
theorem RsAt.at {H : Hp} {v : V} {qs : List Rat} (h : RsAt K H v qs) : ∃ a ts, v = .ref a ∧ SqT K H a ts ∧ DpAll K H ts (qs.map frD) := Dp.tup_inv h
abbrev s_max_deviation : Stmt := top 41
theorem sc_max_deviation : FnScope ["network", "port", "rates", "rate", "seats"] ["network", "port"] (defScope s_max_deviation) := ⟨rfl, rfl, rfl, by decide +kernel, rfl, by decide +kernel, by decide +kernel⟩
def spMaxD (K : PySem.W.Frag) : Sp := fun vs H Q _ => ∃ (v : V) (z : Str) (N : Net), vs = [v, .str z] ∧ NetAt K H v N ∧ ValidN N ∧ ∀ H' r, Ex H H' → FrAt K H' r (sumL (devL z N)) → Q r H'
theorem ok_max_deviation {f g1 g2 zr on : Addr} {fd gd1 gd2 : FuncData} (D : Df K mg "max_deviation" s_max_deviation ["network", "port"] f fd) (T : Bt mg) (Ck : Ct K mg) (DD : DF K mg zr on) (D_sum_values : Df K mg "sum_values" s_sum_values ["network", "port", "rates", "station"] g1 gd1) (D_make_rates : Df K mg "make_rates" s_make_rates ["network", "port"] g2 gd2) : FnOk P w K mg base CX0 6 f fd ["network", "port"] (spMaxD K) := by
  obtain ⟨f1, fd1, D_low⟩ := DD.low
  obtain ⟨f2, fd2, D_multiply⟩ := DD.mul
  obtain ⟨f3, fd3, D_total⟩ := DD.tot
  obtain ⟨f4, fd4, D_add⟩ := DD.add
  have G_make_rates : FnOk P w K mg base CX0 5 g2 gd2 _ _ := ok_make_rates D_make_rates T Ck DD D_sum_values
  have G_multiply : FnOk P w K mg base CX0 2 f2 fd2 _ _ := ok_multiply D_multiply D_low DD.gcd
  have G_total : FnOk P w K mg base CX0 3 f3 fd3 _ _ := ok_total D_total D_add D_low DD.gcd DD.zero
  refine D.F.ok sc_max_deviation (fun vs H Q E h => ?_) (fun cdv A outer s H vs Q E hr h => ?_)
  · obtain ⟨v, z, N, rfl, _⟩ := h
    rfl
  · obtain ⟨v, z, N, rfl, hN, hV, q⟩ := h
    refine ⟨_, (pss_cons (ps_set (i := 2) sc_max_deviation.nd rfl (Or.inl rfl) (pe_call (G_make_rates) (hr.mono (by decide)) rfl D_make_rates.g D_make_rates.F.kp D_make_rates.b .nil pass0 (pa_cons (pv 0) (pa_cons (pv 1) pa_nil))))
      (pss_one (ps_ret (pe_call (G_total) (hr.mono (by decide)) rfl D_total.g D_total.F.kp D_total.b .nil pass0 (pa_cons (pe_lc (own := [("rate", 3), ("seats", 4)]) (g := (gTup K 2 (gCons (gName 3) (gCons (gName 4) gNil)))) (tt := tYes) rfl sc_max_deviation.nd (RZ.pi_zipA (by rfl) T.b_zip (pa_cons (pv 2) (pa_cons (pv 0) pa_nil))) (blkOk_by (own := [("rate", 3), ("seats", 4)]) (N := ["network", "port", "rates", "rate", "seats"]) (sc := defScope s_max_deviation) (by decide +kernel)) (fun _ _ _ _ _ => (pg_tup rfl (pgs_cons (pg_name (i := 3) sc_max_deviation.nd rfl (Or.inl rfl)) (pgs_cons (pg_name (i := 4) sc_max_deviation.nd rfl (Or.inl rfl)) pgs_nil)))) (fun _ _ _ _ _ => pts_nil) (fun _ _ _ _ _ => (pe_call (G_multiply) (hr.mono (by decide)) rfl D_multiply.g D_multiply.F.kp D_multiply.b .nil pass0 (pa_cons (pv 3) (pa_cons (pe_op op_sub (pe_callB (call_lenU (K := K)) (by rfl) T.b_len (by decide +kernel) (pa_cons (pv 4) pa_nil)) pe_int) pa_nil))))) pa_nil))))), ?_⟩
    walk_at "run"
    refine ⟨v, z, N, rfl, hN, hV, fun H1 r e1 h1 => ?_⟩
    obtain ⟨na, ns, rfl, hNs, hns⟩ := hN.at
    obtain ⟨ra, rs, rfl, hRs, hrs⟩ := RsAt.at h1
    have hnl : ns.length = N.length := by rw [hns.len, List.length_map]
    have hrl : rs.length = N.length := by rw [hrs.len, List.length_map, rtsL_len]
    have h40 := hV.le
    walk_at "run"
    refine x_zipT hRs (ex_t e1 hNs) ?_
    refine lcl_it (walk_zipT (by omega)) (fun D i H' => Ex H1 H' ∧ LsAt K H' D (((devL z N).take i).map frD)) (fun D H' hD e h => ⟨e, ⟨⟨[], h, .nil⟩⟩⟩) (fun D i H' _ h => ⟨ex_t h.1 hRs, ex_t (e1.trans h.1) hNs⟩) ?_ ?_
    · rintro D i v H2 H3 hD hi ⟨e2, hL⟩ ⟨T0, x, y, rfl, hT0, rfl, hx, hy⟩
      have hiN : i < N.length := by omega
      have e3 : Ex H1 (upd H2 T0 (.tup [x, y])) := e2.trans (Ex.new hT0)
      have hL3 := hL.ex2 (Ex.new (o := .tup [x, y]) hT0)
      refine x_two (SqT.of upd_same) ?_
      generalize upd H2 T0 (.tup [x, y]) = H3 at e3 hL3
      obtain ⟨s, hs⟩ : ∃ s, N[i]? = some s := ⟨N[i], by simp [hiN]⟩
      have hg : N.getD i [] = s := by simp [List.getD_eq_getElem?_getD, hs]
      obtain ⟨d, hd, hyd⟩ := hns.get' hy
      rw [List.getElem?_map, hs] at hd
      cases hd
      obtain ⟨b, rfl, hb⟩ := StAt.at hyd
      obtain ⟨d, hd, hxd⟩ := hrs.get' hx
      rw [List.getElem?_map, rtsL_at hiN] at hd
      cases hd
      have h8 := hV.len8 i
      rw [hg] at h8
      have wq := ((rt_sm (z := z) hV hiN).wd (denN_pos hV) (denN_le hV) (by decide))
      walk_at "run"
      refine x_lenT (ex_t (e1.trans e3) hb) ?_
      rw [List.length_map]
      walk_at "run"
      refine ⟨x, _, _, rfl, Dp.ex e3 hxd, wq, Nat.lt_of_le_of_lt (show ((s.length : Int) - 1).natAbs ≤ 8 by omega) (by decide), fun H4 r4 e4 h4 => ?_⟩
      obtain ⟨ls, hls, hlsd⟩ := (hL3.ex2 e4).ex
      have hll : ls.length = i := by rw [hlsd.len, List.length_map, List.length_take, devL_len]; omega
      refine x_push hls (by omega) fun H5 e5 h5 => ⟨fun o u h => e5 _ _ (ne_of_none h hD) (e4 _ _ (e3 _ _ h)), ⟨⟨_, h5, ?_⟩⟩⟩
      have t5 : TX H4 H5 := TX.but hls e5
      rw [devL_take hiN, List.map_append, hg]
      exact DpAll.append (DpAll.tx t5 hlsd (frs_t _)) (.cons (Dp.tx t5 h4 (frD_t _)) .nil)
    · rintro D H2 hD ⟨e2, hL⟩
      rw [hrl, List.take_of_length_le (by rw [devL_len]; exact Nat.le_refl _)] at hL
      obtain ⟨ls, hls, hlsd⟩ := hL.ex
      refine ⟨D, ls, devL z N, rfl, SqL.of hls, hlsd, fun q hq => (devL_sm hV q hq).wd (denN_pos hV) (denN_le hV) (by decide), Sm.wds (devL_sm hV) (denN_pos hV) (denN_le hV) (Nat.le_trans (show _ ≤ 280 by rw [devL_len]; omega) (by decide)), fun H3 r e3 h3 => q H3 r (e1.trans (e2.trans e3)) h3⟩
end
end K
set_option Elab.async false
set_option linter.all false
set_option maxRecDepth 100000
set_option maxHeartbeats 1000000
set_option exponentiation.threshold 20000
namespace K
open PySem PySem.Spec PyProof.Rows L2 Evl FB
local macro_rules | `(tactic| walk_at "run") => `(tactic| try simp only [tSeq, tAsg, tVar, tC, gName, L2.start, List.map_cons, List.map_nil, List.cons_append, List.nil_append, List.length_cons, List.length_nil, List.replicate, List.getElem?_cons_zero, List.getElem?_cons_succ, Option.some.injEq, exists_eq_left', List.set_cons_zero, List.set_cons_succ, V.ref.injEq, tRet, x_tLst, x_tTup, tCons, tCB, tNil, tOp, x_addI, x_mulI, x_rI, x_rI0, x_ltI, x_leI, x_ltS, x_leS, x_eqI, x_neI, x_eqS, x_eqB, x_neB, x_isiI, x_isiS, x_int, x_max, x_min, cxOf, tIfS, tNext, tTest, V.bl.injEq, decide_eq_true_eq, gSub, tAnd, tOr, tNot, tB, tDrop, tBM, x_tFor, iRng1, iList, iTup, x_tLc, tYes, tCall, tIf, tAndV, tOrV, tNotV, tChain, List.append_nil, tUn, if_true, wipe, true_and, x_never, iU, x_itS, kV, Nat.reduceAdd, Nat.reduceSub, List.replicate_zero, x_rU, x_tMkO, iEnumT, x_tDc, x_tDGet, x_tDGet2, x_sDPut, x_tDSetd, x_tDNewK, x_iItems, x_iZip, x_tSAddK, x_tLockV, x_tTupRg, x_tRg2, tPar, tPar3, tBM0, tSl, tNoPart, tPart, x_tSetAdd, x_tDIn, x_iKeys, x_iZipX, tWhile])
/-- the station's equation does not hold -/
def violQ (z : Str) (N : Net) (qs : List Rat) (k : Nat) : Bool := !decide (sumL ((N.getD k []).map (plR z fun j => qs.getD j 0)) = qs.getD k 0 * ((((N.getD k []).length : Nat) : Int) : Rat))
def viol (z : Str) (N : Net) (qs : List Rat) : Option Nat := (List.range N.length).find? (violQ z N qs)
def vV : Option Nat → V
  | none => .non
  | some k => .int (k : Nat)
def vD : Option Nat → PyData
  | none => .none
  | some k => .int (k : Nat)
theorem vD_dp {K : PySem.W.Frag} {H : Hp} : ∀ o, Dp K H (vV o) (vD o)
  | none => .non
  | some k => .int _
theorem viol_some {z : Str} {N : Net} {qs : List Rat} {k : Nat} (hk : k < N.length) (h : violQ z N qs k = true) (hj : ∀ j, j < k → violQ z N qs j = false) : viol z N qs = some k := by
  unfold viol
  rw [List.find?_range_eq_some]
  exact ⟨h, List.mem_range.mpr hk, fun j hjk => by rw [hj j hjk]; rfl⟩
theorem viol_none {z : Str} {N : Net} {qs : List Rat} (hj : ∀ j, j < N.length → violQ z N qs j = false) : viol z N qs = none := by
  unfold viol
  rw [List.find?_eq_none]
  intro x hx
  rw [hj x (List.mem_range.mp hx)]
  decide
/-- no rates for n stations -/
def badR (n : Nat) (d : PyData) : Prop := ∀ ds, d = .tuple ds → ds.length = n → ∃ e ∈ ds, isFrac e = false
section
variable {P : Program} {w : World} {K : PySem.W.Frag} {mg : Str → Option Value} {base : Heap}
abbrev s_check_rates : Stmt := top 39
theorem sc_check_rates : FnScope ["network", "port", "rates", "rate", "station", "seats"] ["network", "port", "rates"] (defScope s_check_rates) := ⟨rfl, rfl, rfl, by decide +kernel, rfl, by decide +kernel, by decide +kernel⟩
def spChkR (K : PySem.W.Frag) (C : Addr) : Sp := fun vs H Q E => ∃ (v u : V) (z : Str) (N : Net) (d : PyData), vs = [v, .str z, u] ∧ NetAt K H v N ∧ ValidN N ∧ Dp K H u d ∧
  ((∃ (qs : List Rat) (D : Nat), d = .tuple (qs.map frD) ∧ qs.length = N.length ∧ D ≠ 0 ∧ D ≤ 2 ^ 140 ∧ (∀ q ∈ qs, Sm D 2 q) ∧ ∀ H', Ex H H' → Q (vV (viol z N qs)) H') ∨ (badR N.length d ∧ ∀ H', Ex H H' → E (.ref C) none H'))
theorem ok_check_rates {f g zr on C : Addr} {fd gd : FuncData} (D : Df K mg "check_rates" s_check_rates ["network", "port", "rates"] f fd) (T : Bt mg) (Ck : Ct K mg) (DD : DF K mg zr on) (D_sum_values : Df K mg "sum_values" s_sum_values ["network", "port", "rates", "station"] g gd) (Z : Rz K mg "InvalidRates" C) : FnOk P w K mg base (L2.CX P w) 5 f fd ["network", "port", "rates"] (spChkR K C) := by
  obtain ⟨f1, fd1, D_low⟩ := DD.low
  obtain ⟨f2, fd2, D_is_word⟩ := DD.word
  obtain ⟨f3, fd3, D_is_place⟩ := DD.place
  obtain ⟨f4, fd4, D_check_network⟩ := DD.check
  obtain ⟨f5, fd5, D_multiply⟩ := DD.mul
  obtain ⟨f6, fd6, D_is_fraction⟩ := DD.isf
  obtain ⟨f7, fd7, D_is_integer⟩ := DD.isi
  have G_check_network : FnOk P w K mg base CX0 4 f4 fd4 _ _ := ok_check_network0 D_check_network T Ck D_is_word D_is_place
  have G_multiply : FnOk P w K mg base CX0 2 f5 fd5 _ _ := ok_multiply D_multiply D_low DD.gcd
  have G_sum_values : FnOk P w K mg base CX0 4 g gd _ _ := ok_sum_values D_sum_values T DD
  have G_is_fraction : FnOk P w K mg base CX0 2 f6 fd6 _ _ := ok_is_fraction D_is_fraction T D_is_integer DD.gcd
  refine D.F.okX sc_check_rates (fun vs H Q E h => ?_) (fun cdv A outer s H vs Q E hr h => ?_)
  · obtain ⟨v, u, z, N, d, rfl, _⟩ := h
    rfl
  · obtain ⟨v, u, z, N, d, rfl, hN, hV, hd, hq⟩ := h
    have hu := hr.units
    refine ⟨_, (pss_cons (ps_expr (pe_call (G_check_network) (hr.mono (by decide)) rfl D_check_network.g D_check_network.F.kp D_check_network.b .nil pass0 (pa_cons (pv 0) pa_nil)))
      (pss_cons (ps_if (PW.pt (pw_or (pt_not (pt_val (pe_callB (call_isiU (K := K)) (by rfl) T.b_isinstance (by decide +kernel) (pa_cons (pv 2) (pa_cons (pe_bltn (v := .ty "tuple") (by rfl) T.b_tuple (by decide +kernel) rfl) pa_nil))))) (pw_or1 (pt_cmpR (op_neU (K := K) hu) (pe_callB (call_lenU (K := K)) (by rfl) T.b_len (by decide +kernel) (pa_cons (pv 2) pa_nil)) (pe_callB (call_lenU (K := K)) (by rfl) T.b_len (by decide +kernel) (pa_cons (pv 0) pa_nil)) (nomark _))))) (pss_one (ps_raise rfl (takes_of rfl rfl rfl rfl) (pmk_own PySem.F.excBase_ValueError Z.xP Z.g Z.kP (raises_own Z.bP Z.tP) rfl))) pss_nil)
      (pss_cons (ps_for (passes_of rfl) rfl (pi_U (K := K) (pv 2)) (pg_name (i := 3) sc_check_rates.nd rfl (Or.inl rfl)) (pss_one (ps_if (pt_not (pt_val (pe_call (G_is_fraction) (hr.mono (by decide)) rfl D_is_fraction.g D_is_fraction.F.kp D_is_fraction.b .nil pass0 (pa_cons (pv 3) pa_nil)))) (pss_one (ps_raise rfl (takes_of rfl rfl rfl rfl) (pmk_own PySem.F.excBase_ValueError Z.xP Z.g Z.kP (raises_own Z.bP Z.tP) rfl))) pss_nil)))
      (pss_cons (ps_for (passes_of rfl) rfl (pi_enumT (by rfl) T.b_enumerate (pa_cons (pv 0) pa_nil)) (pg_tup rfl (pgs_cons (pg_name (i := 4) sc_check_rates.nd rfl (Or.inl rfl)) (pgs_cons (pg_name (i := 5) sc_check_rates.nd rfl (Or.inl rfl)) pgs_nil))) (pss_one (ps_if (pt_cmpR (op_neU (K := K) hu) (pe_call (G_sum_values) (hr.mono (by decide)) rfl D_sum_values.g D_sum_values.F.kp D_sum_values.b .nil pass0 (pa_cons (pv 0) (pa_cons (pv 1) (pa_cons (pv 2) (pa_cons (pv 4) pa_nil))))) (pe_call (G_multiply) (hr.mono (by decide)) rfl D_multiply.g D_multiply.F.kp D_multiply.b .nil pass0 (pa_cons (pe_ix (ix_U (K := K)) (pv 2) (pv 4) (fun _ _ => rfl)) (pa_cons (pe_callB (call_lenU (K := K)) (by rfl) T.b_len (by decide +kernel) (pa_cons (pv 5) pa_nil)) pa_nil))) (nomark _)) (pss_one (ps_ret (pv 4))) pss_nil)))
      (pss_one (ps_ret pe_non)))))), ?_⟩
    walk_at "run"
    refine ⟨v, N, rfl, hN, hV, fun H1 e1 => ?_⟩
    obtain ⟨na, ns, rfl, hNs, hns⟩ := hN.at
    have hnl : ns.length = N.length := by rw [hns.len, List.length_map]
    have h40 := hV.le
    by_cases ht : ∃ ds, d = .tuple ds
    · obtain ⟨ds, rfl⟩ := ht
      obtain ⟨ra, rs, rfl, hRs, hrs⟩ := Dp.tup_inv hd
      have hrl : rs.length = ds.length := hrs.len
      refine x_isD (Dp.ex e1 hd) (b := true) rfl ?_
      walk_at "run"
      rw [if_neg (by decide)]
      refine x_lenT (ex_t e1 hRs) (x_lenT (ex_t e1 hNs) ?_)
      rw [hnl, hrl]
      walk_at "run"
      by_cases hlen : ds.length = N.length
      · rw [if_neg (by simp [hlen])]
        refine x_itT (ex_t e1 hRs) (loop_it walk_tup (fun i σ H' => ∃ u3 u4 u5, σ = [some (.ref na), some (.str z), some (.ref ra), u3, u4, u5] ∧ Ex H H' ∧ ∀ e ∈ ds.take i, isFrac e = true) ⟨_, _, _, rfl, e1, fun e he => by simp at he⟩ (fun i σ H' _ ⟨_, _, _, _, e, _⟩ => ex_t e hRs) ?_ ?_)
        · rintro i x σ H2 H2' hi ⟨u3, u4, u5, rfl, e2, hf⟩ ⟨eH, hx⟩
          subst eH
          obtain ⟨y, hy, hyd⟩ := hrs.get' hx
          walk_at "run"
          refine ⟨x, y, rfl, Dp.ex e2 hyd, fun b hb => ?_⟩
          cases b with
          | true =>
            walk_at "run"
            rw [if_neg (by decide)]
            refine ⟨_, _, _, rfl, e2, fun e he => ?_⟩
            rw [List.take_add_one, hy] at he
            rcases List.mem_append.mp he with he | he
            · exact hf e he
            · simp at he; subst he; exact hb
          | false =>
            walk_at "run"
            rcases hq with ⟨qs, D, hdq, _⟩ | ⟨_, q⟩
            · cases hdq
              exfalso
              obtain ⟨q, _, rfl⟩ := List.mem_map.mp (List.mem_of_getElem? hy)
              rw [isFrac_fr] at hb; cases hb
            · exact q H2' e2
        · rintro σ H2 ⟨u3, u4, u5, rfl, e2, hf⟩
          rw [hrl, List.take_length] at hf
          rcases hq.symm with ⟨hb, _⟩ | ⟨qs, D, hdq, hql, d0, d1, hsm, q⟩
          · obtain ⟨e, he, hn⟩ := hb ds rfl hlen
            rw [hf e he] at hn; cases hn
          cases hdq
          have hsm' : ∀ i < N.length, Sm D 2 (qs.getD i 0) := fun i _ => getD_sm hsm i
          walk_at "run"
          refine ⟨_, _, rfl, ex_t e2 hNs, loop_it walk_enumT (fun i σ H' => ∃ u3 u4 u5, σ = [some (.ref na), some (.str z), some (.ref ra), u3, u4, u5] ∧ Ex H H' ∧ ∀ j, j < i → violQ z N qs j = false) ⟨_, _, _, rfl, e2, fun j hj => by omega⟩ (fun i σ H' _ ⟨_, _, _, _, e, _⟩ => ex_t e hNs) ?_ ?_⟩
          · rintro i x σ H3 H4 hi ⟨u3, u4, u5, rfl, e3, hv⟩ ⟨T0, x, y, rfl, hT0, rfl, hx, hy⟩
            have hiN : i < N.length := by omega
            obtain rfl : V.int (i : Nat) = x := Option.some.inj hx
            have e4 : Ex H3 (upd H3 T0 (.tup [.int (i : Nat), y])) := Ex.new hT0
            refine x_two (SqT.of upd_same) ?_
            generalize upd H3 T0 (.tup [.int (i : Nat), y]) = H4 at e4
            have E4 := e3.trans e4
            obtain ⟨s, hs⟩ : ∃ s, N[i]? = some s := ⟨N[i], by simp [hiN]⟩
            have hg : N.getD i [] = s := by simp [List.getD_eq_getElem?_getD, hs]
            obtain ⟨d, hd', hyd⟩ := hns.get' hy
            rw [List.getElem?_map, hs] at hd'
            cases hd'
            obtain ⟨b, rfl, hb⟩ := StAt.at hyd
            have h8 := hV.len8 i
            rw [hg] at h8
            obtain ⟨y, hyr, hyq⟩ := hrs.get (i := i) (d := frD (qs.getD i 0)) (by rw [List.getElem?_map, List.getD_eq_getElem?_getD]; simp [show i < qs.length by omega])
            walk_at "run"
            refine ⟨_, z, ra, rs, qs, i, N, D, rfl, Dp.ex E4 hN, hV, hiN, .inr (ex_t E4 hRs), DpAll.ex E4 hrs, hql, hsm, d0, d1, fun H5 r5 e5 h5 => ?_⟩
            refine x_ixT (ex_t (E4.trans e5) hRs) (atI_nat hyr) (x_lenT (ex_t (E4.trans e5) hb) ?_)
            rw [List.length_map]
            have wq := (hsm' i hiN).wd d0 d1 (by decide)
            refine ⟨y, _, _, rfl, Dp.ex (E4.trans e5) hyq, wq, Nat.lt_of_le_of_lt (show ((s.length : Nat) : Int).natAbs ≤ 8 by omega) (by decide), fun H6 r6 e6 h6 => ?_⟩
            have E6 := E4.trans (e5.trans e6)
            refine x_neD (Dp.ex e6 h5) h6 (by rfl) (by rfl) ?_
            rw [eqv_fr]
            have hvi : violQ z N qs i = !decide (sumL ((N.getD i []).map (plR z fun j => qs.getD j 0)) = qs.getD i 0 * (((s.length : Nat) : Int) : Rat)) := by unfold violQ; rw [hg]
            rw [← hvi]
            walk_at "run"
            by_cases c : violQ z N qs i = true
            · rw [if_pos c]
              have := viol_some hiN c hv
              rw [this] at q
              walk_at "run"
              exact q H6 E6
            · have c : violQ z N qs i = false := by simpa using c
              rw [c, if_neg Bool.false_ne_true]
              refine ⟨_, _, _, rfl, E6, fun j hj => ?_⟩
              by_cases e : j = i
              · subst e; exact c
              · exact hv j (by omega)
          · rintro σ H3 ⟨u3, u4, u5, rfl, e3, hv⟩
            rw [viol_none (by rw [← hnl]; exact hv)] at q
            walk_at "run"
            exact q H3 e3
      · rw [if_pos (by simp; omega)]
        rcases hq with ⟨qs, D, hdq, hql, _⟩ | ⟨_, q⟩
        · cases hdq
          rw [List.length_map] at hlen
          exact absurd hql hlen
        · exact q H1 e1
    · have hb : PySem.W.kitOne K (.type (tyN d)) (.type "tuple") = some false := by
        cases d with
        | tuple ds => exact absurd ⟨ds, rfl⟩ ht
        | _ => rfl
      refine x_isD (Dp.ex e1 hd) hb ?_
      walk_at "run"
      rw [if_pos (by decide)]
      rcases hq with ⟨qs, D, hdq, _⟩ | ⟨_, q⟩
      · exact absurd ⟨_, hdq⟩ ht
      · exact q H1 e1
end
end K
set_option Elab.async false
set_option linter.all false
set_option maxRecDepth 100000
set_option maxHeartbeats 1000000
set_option exponentiation.threshold 20000
namespace K
open PySem PySem.Spec PyProof.Rows L2 Evl FB
local macro_rules | `(tactic| walk_at "run") => `(tactic| try simp only [tSeq, tAsg, tVar, tC, gName, L2.start, List.map_cons, List.map_nil, List.cons_append, List.nil_append, List.length_cons, List.length_nil, List.replicate, List.getElem?_cons_zero, List.getElem?_cons_succ, Option.some.injEq, exists_eq_left', List.set_cons_zero, List.set_cons_succ, V.ref.injEq, tRet, x_tLst, x_tTup, tCons, tCB, tNil, tOp, x_addI, x_mulI, x_rI, x_rI0, x_ltI, x_leI, x_ltS, x_leS, x_eqI, x_neI, x_eqS, x_eqB, x_neB, x_isiI, x_isiS, x_int, x_max, x_min, cxOf, tIfS, tNext, tTest, V.bl.injEq, decide_eq_true_eq, gSub, tAnd, tOr, tNot, tB, tDrop, tBM, x_tFor, iRng1, iList, iTup, x_tLc, tYes, tCall, tIf, tAndV, tOrV, tNotV, tChain, List.append_nil, tUn, if_true, wipe, true_and, x_never, iU, x_itS, kV, Nat.reduceAdd, Nat.reduceSub, List.replicate_zero, x_rU, x_tMkO, iEnumT, x_tDc, x_tDGet, x_tDGet2, x_sDPut, x_tDSetd, x_tDNewK, x_iItems, x_iZip, x_tSAddK, x_tLockV, x_tTupRg, x_tRg2, tPar, tPar3, tBM0, tSl, tNoPart, tPart, x_tSetAdd, x_tDIn, x_iKeys, x_iZipX, tWhile, x_iZip3, iRevR, tRg1])
section
variable {P : Program} {w : World} {K : PySem.W.Frag} {mg : Str → Option Value} {base : Heap}
abbrev s_check_count : Stmt := top 18
theorem sc_check_count : FnScope ["count", "least", "most"] ["count", "least", "most"] (defScope s_check_count) := ⟨rfl, rfl, rfl, by decide +kernel, rfl, by decide +kernel, by decide +kernel⟩
def spCount : Sp := fun vs H Q _ => ∃ c l m : Int, vs = [.int c, .int l, .int m] ∧ l ≤ c ∧ c ≤ m ∧ Q .non H
theorem ok_check_count {f : Addr} {fd : FuncData} (D : Df K mg "check_count" s_check_count ["count", "least", "most"] f fd) : FnOk P w K mg base CX0 1 f fd ["count", "least", "most"] spCount := by
  refine D.F.ok sc_check_count (fun vs H Q E h => ?_) (fun cdv A outer s H vs Q E hr h => ?_)
  · obtain ⟨v, u, N, rfl, _⟩ := h
    rfl
  · obtain ⟨c, l, m, rfl, h1, h2, q⟩ := h
    refine ⟨_, (pss_one (ps_if (pt_not (pt_chain (op_leU) (op_leU) (pv 1) (pv 0) (pv 2))) pss_never pss_nil)), ?_⟩
    walk_at "run"
    rw [if_pos h1, if_neg (by simp; omega)]
    exact q
abbrev s_check_lengths : Stmt := top 42
theorem sc_check_lengths : FnScope ["network", "lengths", "length", "seats"] ["network", "lengths"] (defScope s_check_lengths) := ⟨rfl, rfl, rfl, by decide +kernel, rfl, by decide +kernel, by decide +kernel⟩
/-- n zeros -/
def zerosD (n : Nat) : PyData := .tuple (List.replicate n (.int 0))
theorem zeros_at {H : Hp} {v : V} {n : Nat} (h : Dp K H v (zerosD n)) : ∃ a, v = .ref a ∧ SqT K H a (List.replicate n (.int 0)) := by
  obtain ⟨a, xs, rfl, h1, h2⟩ := Dp.tup_inv h
  have : xs = List.replicate n (.int 0) := by
    clear h h1
    induction n generalizing xs with
    | zero => cases h2; rfl
    | succ n ih =>
      rw [List.replicate_succ] at h2 ⊢
      cases h2 with
      | cons p hs => rw [p.int_inv, ih _ hs]
  rw [this] at h1
  exact ⟨a, rfl, h1⟩
def spChkL (K : PySem.W.Frag) : Sp := fun vs H Q _ => ∃ (v u : V) (N : Net), vs = [v, u] ∧ NetAt K H v N ∧ ValidN N ∧ Dp K H u (zerosD N.length) ∧ ∀ H', Ex H H' → Q .non H'
theorem ok_check_lengths {f zr on : Addr} {fd : FuncData} (D : Df K mg "check_lengths" s_check_lengths ["network", "lengths"] f fd) (T : Bt mg) (DD : DF K mg zr on) : FnOk P w K mg base CX0 2 f fd ["network", "lengths"] (spChkL K) := by
  obtain ⟨f7, fd7, D_is_integer⟩ := DD.isi
  have G_is_integer : FnOk P w K mg base CX0 1 f7 fd7 _ _ := ok_is_integer D_is_integer T
  refine D.F.ok sc_check_lengths (fun vs H Q E h => ?_) (fun cdv A outer s H vs Q E hr h => ?_)
  · obtain ⟨v, u, N, rfl, _⟩ := h
    rfl
  · obtain ⟨v, u, N, rfl, hN, hV, hu0, q⟩ := h
    have hu := hr.units
    refine ⟨_, (pss_cons (ps_if (PW.pt (pw_or (pt_not (pt_val (pe_callB (call_isiU (K := K)) (by rfl) T.b_isinstance (by decide +kernel) (pa_cons (pv 1) (pa_cons (pe_bltn (v := .ty "tuple") (by rfl) T.b_tuple (by decide +kernel) rfl) pa_nil))))) (pw_or1 (pt_cmpR (op_neU (K := K) hu) (pe_callB (call_lenU (K := K)) (by rfl) T.b_len (by decide +kernel) (pa_cons (pv 1) pa_nil)) (pe_callB (call_lenU (K := K)) (by rfl) T.b_len (by decide +kernel) (pa_cons (pv 0) pa_nil)) (nomark _))))) pss_never pss_nil)
      (pss_one (ps_for PassesOwn.never rfl (RZ.pi_zipA (by rfl) T.b_zip (pa_cons (pv 1) (pa_cons (pv 0) pa_nil))) (pg_tup rfl (pgs_cons (pg_name (i := 2) sc_check_lengths.nd rfl (Or.inl rfl)) (pgs_cons (pg_name (i := 3) sc_check_lengths.nd rfl (Or.inl rfl)) pgs_nil))) (pss_one (ps_if (PW.pt (pw_or (pt_not (pt_val (pe_call (G_is_integer) (hr.mono (by decide)) rfl D_is_integer.g D_is_integer.F.kp D_is_integer.b .nil pass0 (pa_cons (pv 2) pa_nil)))) (pw_or1 (pt_not (pt_chain (op_leU) (op_ltU) pe_int (pv 2) (pe_callB (call_lenU (K := K)) (by rfl) T.b_len (by decide +kernel) (pa_cons (pv 3) pa_nil))))))) pss_never pss_nil))))), ?_⟩
    obtain ⟨na, ns, rfl, hNs, hns⟩ := hN.at
    have hnl : ns.length = N.length := by rw [hns.len, List.length_map]
    obtain ⟨ra, rfl, hRs⟩ := zeros_at hu0
    walk_at "run"
    refine x_isD hu0 (b := true) rfl ?_
    walk_at "run"
    rw [if_neg (by decide)]
    refine x_lenT hRs (x_lenT hNs ?_)
    rw [hnl, List.length_replicate]
    walk_at "run"
    rw [if_neg (by simp)]
    refine x_zipT hRs hNs ?_
    refine loop_it (walk_zipT (xs := List.replicate N.length (.int 0)) (ys := ns) (by rw [List.length_replicate, hnl])) (fun i σ H' => ∃ u2 u3, σ = [some (.ref na), some (.ref ra), u2, u3] ∧ Ex H H') ⟨_, _, rfl, Ex.refl H⟩ (fun i σ H' _ ⟨_, _, _, e⟩ => ⟨ex_t e hRs, ex_t e hNs⟩) ?_ ?_
    · rintro i v σ H2 H3 hi ⟨u2, u3, rfl, e2⟩ ⟨T0, x, y, rfl, hT0, rfl, hx, hy⟩
      have hiN : i < N.length := by rwa [List.length_replicate] at hi
      have e3 : Ex H (upd H2 T0 (.tup [x, y])) := e2.trans (Ex.new hT0)
      refine x_two (SqT.of upd_same) ?_
      generalize upd H2 T0 (.tup [x, y]) = H3 at e3
      obtain rfl : x = .int 0 := by
        have := List.mem_of_getElem? hx
        exact (List.mem_replicate.mp this).2
      obtain ⟨s, hs⟩ : ∃ s, N[i]? = some s := ⟨N[i], by simp [hiN]⟩
      have hg : N.getD i [] = s := by simp [List.getD_eq_getElem?_getD, hs]
      obtain ⟨d, hd, hyd⟩ := hns.get' hy
      rw [List.getElem?_map, hs] at hd
      cases hd
      obtain ⟨b, rfl, hb⟩ := StAt.at hyd
      have h1 := hV.fwr.pos i hiN
      rw [hg] at h1
      walk_at "run"
      refine ⟨.int 0, .int 0, rfl, .int 0, ?_⟩
      show _
      unfold isInt
      walk_at "run"
      rw [if_neg (by decide), if_pos (by decide)]
      refine x_lenT (ex_t e3 hb) ?_
      rw [List.length_map]
      walk_at "run"
      rw [if_neg (by rw [decide_eq_true (show (0 : Int) < (s.length : Nat) by omega)]; decide)]
      exact ⟨_, _, rfl, e3⟩
    · rintro σ H2 ⟨u2, u3, rfl, e2⟩
      exact q H2 e2
abbrev s_count_by_rates : Stmt := top 40
theorem sc_count_by_rates : FnScope ["network", "port", "rates", "before", "after", "count", "passengers", "rate", "old", "new"] ["network", "port", "rates", "before", "after", "count"] (defScope s_count_by_rates) := ⟨rfl, rfl, rfl, by decide +kernel, rfl, by decide +kernel, by decide +kernel⟩
structure DG (K : PySem.W.Frag) (mg : Str → Option Value) (C : Addr) : Prop where
  sum : ∃ f fd, Df K mg "sum_values" s_sum_values ["network", "port", "rates", "station"] f fd
  chk : ∃ f fd, Df K mg "check_rates" s_check_rates ["network", "port", "rates"] f fd
  len : ∃ f fd, Df K mg "check_lengths" s_check_lengths ["network", "lengths"] f fd
  cnt : ∃ f fd, Df K mg "check_count" s_check_count ["count", "least", "most"] f fd
  mx : ∃ t, mg "MAX_COUNT" = some (.int 1000000000000000000 t)
  Z : Rz K mg "InvalidRates" C
def spCntR (K : PySem.W.Frag) (C : Addr) : Sp := fun vs H Q E => ∃ (v u b c : V) (z : Str) (N : Net) (qs : List Rat) (D : Nat), vs = [v, .str z, u, b, c, .int 1] ∧ NetAt K H v N ∧ ValidN N ∧ RsAt K H u qs ∧ qs.length = N.length ∧ D ≠ 0 ∧ D ≤ 2 ^ 140 ∧ (∀ q ∈ qs, Sm D 2 q) ∧ Dp K H b (zerosD N.length) ∧ Dp K H c (zerosD N.length) ∧
  (∀ k, viol z N qs = some k → ∀ H', Ex H H' → E (.ref C) none H') ∧ (viol z N qs = none → ∀ H' r, Ex H H' → Q r H')
theorem ok_count_by_rates {f zr on C : Addr} {fd : FuncData} (D : Df K mg "count_by_rates" s_count_by_rates ["network", "port", "rates", "before", "after", "count"] f fd) (T : Bt mg) (Ck : Ct K mg) (DD : DF K mg zr on) (GG : DG K mg C) : FnOk P w K mg base (L2.CX P w) 6 f fd ["network", "port", "rates", "before", "after", "count"] (spCntR K C) := by
  obtain ⟨f1, fd1, D_low⟩ := DD.low
  obtain ⟨f2, fd2, D_multiply⟩ := DD.mul
  obtain ⟨f3, fd3, D_add⟩ := DD.add
  obtain ⟨f4, fd4, D_check_rates⟩ := GG.chk
  obtain ⟨f5, fd5, D_check_lengths⟩ := GG.len
  obtain ⟨f6, fd6, D_check_count⟩ := GG.cnt
  obtain ⟨f7, fd7, D_sum_values⟩ := GG.sum
  obtain ⟨tC, g_MAX_COUNT⟩ := GG.mx
  have Z := GG.Z
  have G_check_rates : FnOk P w K mg base (L2.CX P w) 5 f4 fd4 _ _ := ok_check_rates D_check_rates T Ck DD D_sum_values Z
  have G_check_lengths : FnOk P w K mg base CX0 2 f5 fd5 _ _ := ok_check_lengths D_check_lengths T DD
  have G_check_count : FnOk P w K mg base CX0 1 f6 fd6 _ _ := ok_check_count D_check_count
  have G_multiply : FnOk P w K mg base CX0 2 f2 fd2 _ _ := ok_multiply D_multiply D_low DD.gcd
  have G_add : FnOk P w K mg base CX0 2 f3 fd3 _ _ := ok_add D_add D_low DD.gcd
  refine D.F.okX sc_count_by_rates (fun vs H Q E h => ?_) (fun cdv A outer s H vs Q E hr h => ?_)
  · obtain ⟨v, u, b, c, z, N, qs, D, rfl, _⟩ := h
    rfl
  · obtain ⟨v, u, b, c, z, N, qs, D, rfl, hN, hV, hd, hql, d0, d1, hsm, hb, hc, k1, k2⟩ := h
    have hu := hr.units
    refine ⟨_, (pss_cons (ps_if (pt_cmpR op_notN (pe_call (G_check_rates) (hr.mono (by decide)) rfl D_check_rates.g D_check_rates.F.kp D_check_rates.b .nil (passes_call (takes_of rfl rfl rfl rfl) fun _ _ _ _ h => h) (pa_cons (pv 0) (pa_cons (pv 1) (pa_cons (pv 2) pa_nil)))) pe_non (nomark _)) (pss_one (ps_raise rfl (takes_of rfl rfl rfl rfl) (pmk_own PySem.F.excBase_ValueError Z.xP Z.g Z.kP (raises_own Z.bP Z.tP) rfl))) pss_nil)
      (pss_cons (ps_expr (pe_call (G_check_lengths) (hr.mono (by decide)) rfl D_check_lengths.g D_check_lengths.F.kp D_check_lengths.b .nil pass0 (pa_cons (pv 0) (pa_cons (pv 3) pa_nil))))
      (pss_cons (ps_expr (pe_call (G_check_lengths) (hr.mono (by decide)) rfl D_check_lengths.g D_check_lengths.F.kp D_check_lengths.b .nil pass0 (pa_cons (pv 0) (pa_cons (pv 4) pa_nil))))
      (pss_cons (ps_expr (pe_call (G_check_count) (hr.mono (by decide)) rfl D_check_count.g D_check_count.F.kp D_check_count.b .nil pass0 (pa_cons (pv 5) (pa_cons pe_int (pa_cons (pe_glob (v := .int 1000000000000000000) rfl g_MAX_COUNT ⟨_, rfl⟩) pa_nil)))))
      (pss_cons (ps_set (i := 6) sc_count_by_rates.nd rfl (Or.inl rfl) (pe_call (G_multiply) (hr.mono (by decide)) rfl D_multiply.g D_multiply.F.kp D_multiply.b .nil pass0 (pa_cons (pe_ix (ix_U (K := K)) (pv 2) pe_int (fun _ _ => rfl)) (pa_cons (pv 5) pa_nil))))
      (pss_cons (ps_for (passes_of rfl) rfl (pi_zip3 (by rfl) T.b_zip (pa_cons (pv 2) (pa_cons (pv 3) (pa_cons (pv 4) pa_nil)))) (pg_tup rfl (pgs_cons (pg_name (i := 7) sc_count_by_rates.nd rfl (Or.inl rfl)) (pgs_cons (pg_name (i := 8) sc_count_by_rates.nd rfl (Or.inl rfl)) (pgs_cons (pg_name (i := 9) sc_count_by_rates.nd rfl (Or.inl rfl)) pgs_nil)))) (pss_one (ps_set (i := 6) sc_count_by_rates.nd rfl (Or.inl rfl) (pe_call (G_add) (hr.mono (by decide)) rfl D_add.g D_add.F.kp D_add.b .nil pass0 (pa_cons (pv 6) (pa_cons (pe_call (G_multiply) (hr.mono (by decide)) rfl D_multiply.g D_multiply.F.kp D_multiply.b .nil pass0 (pa_cons (pv 7) (pa_cons (pe_op op_sub (pv 8) (pv 9)) pa_nil))) pa_nil))))))
      (pss_one (ps_ret (pv 6))))))))), ?_⟩
    have h40 := hV.le
    have h1n := hV.pos
    obtain ⟨ra, rs, rfl, hRs, hrs⟩ := RsAt.at hd
    have hrl : rs.length = N.length := by rw [hrs.len, List.length_map, hql]
    obtain ⟨ba, rfl, hB⟩ := zeros_at hb
    obtain ⟨ca, rfl, hC⟩ := zeros_at hc
    walk_at "run"
    refine ⟨v, .ref ra, z, N, _, rfl, hN, hV, hd, .inl ⟨qs, D, rfl, hql, d0, d1, hsm, fun H1 e1 => ?_⟩⟩
    cases hvi : viol z N qs with
    | some k =>
      unfold vV
      rw [if_pos (by simp)]
      exact k1 k hvi H1 e1
    | none =>
      unfold vV
      rw [if_neg (by simp)]
      have k2 := k2 hvi
      clear k1
      refine ⟨v, .ref ba, N, rfl, Dp.ex e1 hN, hV, Dp.ex e1 hb, fun H2 e2 => ?_⟩
      have E2 := e1.trans e2
      refine ⟨v, .ref ca, N, rfl, Dp.ex E2 hN, hV, Dp.ex E2 hc, fun H3 e3 => ?_⟩
      have E3 := E2.trans e3
      refine ⟨1, 0, 1000000000000000000, rfl, by decide, by decide, ?_⟩
      obtain ⟨y, hyr, hyq⟩ := hrs.get (i := 0) (d := frD (qs.getD 0 0)) (by rw [List.getElem?_map, List.getD_eq_getElem?_getD]; simp [show 0 < qs.length by omega])
      refine x_ixT (ex_t E3 hRs) (atI_nat (j := 0) hyr) ?_
      have w0 := (getD_sm hsm 0).wd d0 d1 (by decide)
      refine ⟨y, _, 1, rfl, Dp.ex E3 hyq, w0, by decide, fun H4 r4 e4 h4 => ?_⟩
      have E4 := E3.trans e4
      have e11 : qs.getD 0 0 * ((1 : Int) : Rat) = qs.getD 0 0 := by
        have : ((1 : Int) : Rat) = 1 := rfl
        rw [this]; grind
      rw [e11] at h4
      refine ⟨ra, ba, ca, rs, _, _, rfl, ex_t E4 hRs, ex_t E4 hB, ex_t E4 hC, ?_⟩
      refine loop_it (walk_zip3 (xs := rs) (ys := List.replicate N.length (.int 0)) (zs := List.replicate N.length (.int 0)) (by rw [List.length_replicate, hrl]) (by rw [List.length_replicate, hrl])) (fun i σ H' => ∃ r u7 u8 u9, σ = [some v, some (.str z), some (.ref ra), some (.ref ba), some (.ref ca), some (.int 1), some r, u7, u8, u9] ∧ Ex H H' ∧ FrAt K H' r (qs.getD 0 0)) ⟨_, _, _, _, rfl, E4, h4⟩ (fun i σ H' _ ⟨_, _, _, _, _, e, _⟩ => ⟨ex_t e hRs, ex_t e hB, ex_t e hC⟩) ?_ ?_
      · rintro i x σ H5 H6 hi ⟨r, u7, u8, u9, rfl, e5, h5⟩ ⟨T0, x, y1, y2, rfl, hT0, rfl, hx, hy1, hy2⟩
        have hiN : i < N.length := by omega
        have ne : Ex H5 (upd H5 T0 (.tup [x, y1, y2])) := Ex.new hT0
        refine x_three (SqT.of upd_same) ?_
        generalize upd H5 T0 (.tup [x, y1, y2]) = H6 at ne
        obtain rfl : y1 = .int 0 := (List.mem_replicate.mp (List.mem_of_getElem? hy1)).2
        obtain rfl : y2 = .int 0 := (List.mem_replicate.mp (List.mem_of_getElem? hy2)).2
        obtain ⟨d, hd, hxd⟩ := hrs.get' hx
        obtain ⟨qi, hqi, rfl⟩ : ∃ q, qs[i]? = some q ∧ frD q = d := by simpa using hd
        have wi := (hsm qi (List.mem_of_getElem? hqi)).wd d0 d1 (by decide)
        walk_at "run"
        refine ⟨x, qi, 0, rfl, Dp.ex (e5.trans ne) hxd, wi, by decide, fun H7 r7 e7 h7 => ?_⟩
        have e00 : qi * ((0 : Int) : Rat) = 0 := by
          have : ((0 : Int) : Rat) = 0 := rfl
          rw [this]; grind
        rw [e00] at h7
        refine ⟨r, r7, _, 0, rfl, Dp.ex (ne.trans e7) h5, h7, w0, (Sm.zero (D := D) (c := 2)).wd d0 d1 (by decide), fun H8 r8 e8 h8 => ⟨_, _, _, _, rfl, e5.trans (ne.trans (e7.trans e8)), ?_⟩⟩
        have e0 : qs.getD 0 0 + 0 = qs.getD 0 0 := by grind
        rw [e0] at h8
        exact h8
      · rintro σ H5 ⟨r, u7, u8, u9, rfl, e5, h5⟩
        walk_at "run"
        exact k2 H5 r e5
end
end K
set_option Elab.async false
set_option linter.all false
set_option maxRecDepth 100000
set_option maxHeartbeats 4000000
namespace K
open PySem PySem.Spec PyProof.Rows L2 Evl FB LamX
local macro_rules | `(tactic| walk_at "run") => `(tactic| try simp only [tSeq, tAsg, tVar, tC, gName, L2.start, List.map_cons, List.map_nil, List.cons_append, List.nil_append, List.length_cons, List.length_nil, List.replicate, List.getElem?_cons_zero, List.getElem?_cons_succ, Option.some.injEq, exists_eq_left', List.set_cons_zero, List.set_cons_succ, V.ref.injEq, tRet, x_tLst, x_tTup, tCons, tCB, tNil, tOp, x_addI, x_mulI, x_rI, x_rI0, x_ltI, x_leI, x_ltS, x_leS, x_eqI, x_neI, x_eqS, x_eqB, x_neB, x_isiI, x_isiS, x_int, x_max, x_min, cxOf, tIfS, tNext, tTest, V.bl.injEq, decide_eq_true_eq, gSub, tAnd, tOr, tNot, tB, tDrop, tBM, x_tFor, iRng1, iList, iTup, x_tLc, tYes, tCall, tIf, tAndV, tOrV, tNotV, tChain, List.append_nil, tUn, if_true, wipe, true_and, x_never, iU, x_itS, kV, Nat.reduceAdd, Nat.reduceSub, List.replicate_zero, x_rU, x_tMkO, iEnumT, x_tDc, x_tDGet, x_tDGet2, x_sDPut, x_tDSetd, x_tDNewK, x_iItems, x_iZip, x_tSAddK, x_tLockV, x_tTupRg, x_tRg2, tPar, tPar3, tBM0, x_rEqS, x_rNeI, tXf, List.getElem?_cons_zero])
abbrev s_l_error : Stmt := top 48
theorem sc_l_error : FnScope ["_law_call", "e", "_law_kinds", "_law_names", "_law_name"] ["_law_call"] (defScope s_l_error) := ⟨rfl, rfl, rfl, by decide +kernel, rfl, by decide +kernel, by decide +kernel⟩
/-- what _law_error makes of the lambda's reading -/
def TErr (C : Nat → Addr) : (XK → Hp → VK → Prop) → Hp → VK → Prop := fun tl H Q =>
  tl (fun cls d H' => ∃ (i : Nat) (st se : V), i < 13 ∧ ErrIs C i st se cls d H' ∧ ∀ p H'', Ex H' H'' → H'' p = some (.tup (errTell i st se)) → Q (.ref p) H'')
    H (fun _ H' => rTup [.str "none"] H' Q)
/-- what the suite is told: a holds the error -/
def errPre (C : Nat → Addr) (a : Addr) (cls : Value) (d : Option Addr) : TS := fun D σ H => (σ.length = 5 → σ[1]? = some (some (.ref a))) ∧ ∃ (i : Nat) (st se : V), i < 13 ∧ ErrIs C i st se cls d H ∧ ∀ p H'', Ex H H'' → H'' p = some (.tup (errTell i st se)) → D.rt (.ref p) H''
abbrev errN : List Str := ["_law_call", "e", "_law_kinds", "_law_names", "_law_name"]
abbrev errX (P : Program) (w : World) (K : PySem.W.Frag) (mg : Str → Option Value) (base : Heap) (A : Around) (st : List Env) (g : Addr) (cdg : Value) (s : Shared) (H : Hp) : Cx := cxOf C8.CX0 P w K mg base ["_law_call", "e", "_law_kinds", "_law_names", "_law_name"] "_law_error" (defScope s_l_error) g cdg A st s H C8.E0
theorem err_aux {P : Program} {w : World} {K : PySem.W.Frag} {mg : Str → Option Value} {base : Heap} {A : Around} {st : List Env} {g CF : Addr} {C : Nat → Addr} {cdg : Value} {q : Str} (R : Errs K mg CF C) (T : Bt mg) (f c' : Addr) (s : Shared) (H : Hp) (Q : VK) (tl : XK → Hp → VK → Prop)
    (act : ∀ (W : WX) (pn : List (Addr × Obj)) (xe : Value → Shared → Prop) (E : XK) (p1 p2 : Pos), Takes ((errX P w K mg base A st g cdg s H).tr pn xe) W → (∀ cls d σ' H', E cls d H' → W cls d σ' H') →
      PE ((errX P w K mg base A st g cdg s H).tr pn xe) (.Call (.Name "_law_call" p1) [] [] p2) (fun σZ HZ Q => σZ[0]? = some (some (.ref f)) ∧ HZ c' = some (CodeO c' q) ∧ tl E HZ Q))
    (hc : H c' = some (CodeO c' q)) (h : TErr C tl H Q) : ∃ t, PSs (errX P w K mg base A st g cdg s H).nox (defBody s_l_error) t ∧ t { nx := fun _ H' => Q .non H', rt := Q } (L2.start errN [.ref f]) H := by
  have hgl : Gl (errX P w K mg base A st g cdg s H).nox "FerryError" := rfl
  refine ⟨_, pss_cons (ps_try_as (X := (errX P w K mg base A st g cdg s H).nox) (i := 1) (c := .ref CF) (ts := errPre C)
      (tb := fun W D σ H => ∃ Ech : XK, (∀ cls d σ' H', Ech cls d H' → W cls d σ' H') ∧ σ[0]? = some (some (.ref f)) ∧ H c' = some (CodeO c' q) ∧ tl Ech H (fun _ H' => D.nx σ H'))
      rfl rfl sc_l_error.nd rfl rfl ⟨hgl, by decide, .inl R.gF⟩ L2.takes0 (fun W pn xe tk _ => ?_) (fun a oe cls d pn hz hf => ?_)) (pss_one (ps_ret (pe_tup (pa_cons pe_str pa_nil)))), ?_⟩
  · refine ⟨fun pins s' σ H' D I h' => ?_⟩
    obtain ⟨Ech, hW, h1, h2, h3⟩ := h'
    exact (pss_one (ps_expr (act W pn xe Ech _ _ tk hW))).run pins s' σ H' D I ⟨h1, h2, h3⟩
  · apply pss_impI
    · exact (pss_cons (ps_set (i := 2) sc_l_error.nd rfl (Or.inl rfl) (pe_lst (pa_cons (pe_callB (call_isX (K := K) hz hf) (by rfl) T.b_isinstance (by decide +kernel) (pa_cons (pv 1) (pa_cons (pe_glob (v := .ref (C 0)) rfl (R.g 0 (by decide)) rfl) pa_nil))) (pa_cons (pe_callB (call_isX (K := K) hz hf) (by rfl) T.b_isinstance (by decide +kernel) (pa_cons (pv 1) (pa_cons (pe_glob (v := .ref (C 1)) rfl (R.g 1 (by decide)) rfl) pa_nil))) (pa_cons (pe_callB (call_isX (K := K) hz hf) (by rfl) T.b_isinstance (by decide +kernel) (pa_cons (pv 1) (pa_cons (pe_glob (v := .ref (C 2)) rfl (R.g 2 (by decide)) rfl) pa_nil))) pa_nil)))))
      (pss_cons (ps_expr (pe_bm PySem.F.plainAttrs_list PySem.F.slot_list_extend PySem.F.type_list_extend mt_extend (pv 2) (pa_cons (pe_lst (pa_cons (pe_callB (call_isX (K := K) hz hf) (by rfl) T.b_isinstance (by decide +kernel) (pa_cons (pv 1) (pa_cons (pe_glob (v := .ref (C 3)) rfl (R.g 3 (by decide)) rfl) pa_nil))) (pa_cons (pe_callB (call_isX (K := K) hz hf) (by rfl) T.b_isinstance (by decide +kernel) (pa_cons (pv 1) (pa_cons (pe_glob (v := .ref (C 4)) rfl (R.g 4 (by decide)) rfl) pa_nil))) (pa_cons (pe_callB (call_isX (K := K) hz hf) (by rfl) T.b_isinstance (by decide +kernel) (pa_cons (pv 1) (pa_cons (pe_glob (v := .ref (C 5)) rfl (R.g 5 (by decide)) rfl) pa_nil))) pa_nil)))) pa_nil)))
      (pss_cons (ps_expr (pe_bm PySem.F.plainAttrs_list PySem.F.slot_list_extend PySem.F.type_list_extend mt_extend (pv 2) (pa_cons (pe_lst (pa_cons (pe_callB (call_isX (K := K) hz hf) (by rfl) T.b_isinstance (by decide +kernel) (pa_cons (pv 1) (pa_cons (pe_glob (v := .ref (C 6)) rfl (R.g 6 (by decide)) rfl) pa_nil))) (pa_cons (pe_callB (call_isX (K := K) hz hf) (by rfl) T.b_isinstance (by decide +kernel) (pa_cons (pv 1) (pa_cons (pe_glob (v := .ref (C 7)) rfl (R.g 7 (by decide)) rfl) pa_nil))) (pa_cons (pe_callB (call_isX (K := K) hz hf) (by rfl) T.b_isinstance (by decide +kernel) (pa_cons (pv 1) (pa_cons (pe_glob (v := .ref (C 8)) rfl (R.g 8 (by decide)) rfl) pa_nil))) pa_nil)))) pa_nil)))
      (pss_cons (ps_expr (pe_bm PySem.F.plainAttrs_list PySem.F.slot_list_extend PySem.F.type_list_extend mt_extend (pv 2) (pa_cons (pe_lst (pa_cons (pe_callB (call_isX (K := K) hz hf) (by rfl) T.b_isinstance (by decide +kernel) (pa_cons (pv 1) (pa_cons (pe_glob (v := .ref (C 9)) rfl (R.g 9 (by decide)) rfl) pa_nil))) (pa_cons (pe_callB (call_isX (K := K) hz hf) (by rfl) T.b_isinstance (by decide +kernel) (pa_cons (pv 1) (pa_cons (pe_glob (v := .ref (C 10)) rfl (R.g 10 (by decide)) rfl) pa_nil))) pa_nil))) pa_nil)))
      (pss_cons (ps_expr (pe_bm PySem.F.plainAttrs_list PySem.F.slot_list_extend PySem.F.type_list_extend mt_extend (pv 2) (pa_cons (pe_lst (pa_cons (pe_callB (call_isX (K := K) hz hf) (by rfl) T.b_isinstance (by decide +kernel) (pa_cons (pv 1) (pa_cons (pe_glob (v := .ref (C 11)) rfl (R.g 11 (by decide)) rfl) pa_nil))) (pa_cons (pe_callB (call_isX (K := K) hz hf) (by rfl) T.b_isinstance (by decide +kernel) (pa_cons (pv 1) (pa_cons (pe_glob (v := .ref (C 12)) rfl (R.g 12 (by decide)) rfl) pa_nil))) pa_nil))) pa_nil)))
      (pss_cons (ps_if (PW.pt (pw_or (pt_cmpR op_ne (pe_bm PySem.F.plainAttrs_list PySem.F.slot_list_count PySem.F.type_list_count mt_countF (pv 2) (pa_cons pe_bl pa_nil)) pe_int (nomark _)) (pw_or1 (pt_not (pt_val (pe_callB (call_isX (K := K) hz hf) (by rfl) T.b_isinstance (by decide +kernel) (pa_cons (pv 1) (pa_cons (pe_bltn (v := .ty "ValueError") (by rfl) R.b_ValueError (by decide +kernel) rfl) pa_nil)))))))) (pss_one (ps_ret (pe_tup (pa_cons pe_str pa_nil)))) pss_nil)
      (pss_cons (ps_set (i := 3) sc_l_error.nd rfl (Or.inl rfl) (pe_lst (pa_cons pe_str (pa_cons pe_str (pa_cons pe_str (pa_cons pe_str (pa_cons pe_str (pa_cons pe_str (pa_cons pe_str (pa_cons pe_str (pa_cons pe_str (pa_cons pe_str pa_nil))))))))))))
      (pss_cons (ps_set (i := 4) sc_l_error.nd rfl (Or.inl rfl) (pe_ix (ix_U (K := K)) (pe_op (op_addU (K := K)) (pv 3) (pe_lst (pa_cons pe_str (pa_cons pe_str (pa_cons pe_str pa_nil))))) (pe_bm PySem.F.plainAttrs_list PySem.F.slot_list_index PySem.F.type_list_index mt_index (pv 2) (pa_cons pe_bl pa_nil)) (fun _ _ => rfl)))
      (pss_one (ps_ret (pe_ifExp (pt_cmpR op_eq (pv 4) pe_str (nomark _)) (pe_tup (pa_cons (pv 4) (pa_cons (pe_xf R.xf R.no_station hz hf (pv 1)) (pa_cons (pe_xf R.xf R.no_seat hz hf (pv 1)) pa_nil)))) (pe_tup (pa_cons (pv 4) pa_nil)))))))))))))
    · rintro D σ H1 hl ⟨h1, i, st, se, hi, he, q⟩
      obtain ⟨x0, x1, x2, x3, x4, rfl⟩ : ∃ x0 x1 x2 x3 x4, σ = [x0, x1, x2, x3, x4] := match σ, hl with
        | [x0, x1, x2, x3, x4], _ => ⟨x0, x1, x2, x3, x4, rfl⟩
      obtain rfl : x1 = some (.ref a) := by simpa using h1 rfl
      walk_at "run"
      refine x_isX R hi he (fun _ _ h => h) 0 (by decide) (x_isX R hi he (fun _ _ h => h) 1 (by decide) (x_isX R hi he (fun _ _ h => h) 2 (by decide) ?_))
      refine x_lst (by simp) fun p H2 np e2 hp => ?_
      walk_at "run"
      have E2 : Ex H1 H2 := e2
      refine ⟨x_tyL (SqL.of hp), x_isX R hi he E2 3 (by decide) (x_isX R hi he E2 4 (by decide) (x_isX R hi he E2 5 (by decide) ?_))⟩
      refine x_lst (by simp) fun p3 H3 n3 e3 h3 => x_extend (e3 _ _ hp) h3 (by simp) fun H4 e4 h4 => ?_
      have E4 : Ex H1 H4 := fun x o h => e4 _ _ (ne_of_none h np) (e3 _ _ (E2 _ _ h))
      refine ⟨x_tyL (SqL.of h4), x_isX R hi he E4 6 (by decide) (x_isX R hi he E4 7 (by decide) (x_isX R hi he E4 8 (by decide) ?_))⟩
      refine x_lst (by simp) fun p5 H5 n5 e5 h5 => x_extend (e5 _ _ h4) h5 (by simp) fun H6 e6 h6 => ?_
      have E6 : Ex H1 H6 := fun x o h => e6 _ _ (ne_of_none h np) (e5 _ _ (E4 _ _ h))
      refine ⟨x_tyL (SqL.of h6), x_isX R hi he E6 9 (by decide) (x_isX R hi he E6 10 (by decide) ?_)⟩
      refine x_lst (by simp) fun p7 H7 n7 e7 h7 => x_extend (e7 _ _ h6) h7 (by simp) fun H8 e8 h8 => ?_
      have E8 : Ex H1 H8 := fun x o h => e8 _ _ (ne_of_none h np) (e7 _ _ (E6 _ _ h))
      refine ⟨x_tyL (SqL.of h8), x_isX R hi he E8 11 (by decide) (x_isX R hi he E8 12 (by decide) ?_)⟩
      refine x_lst (by simp) fun p9 H9 n9 e9 h9 => x_extend (e9 _ _ h8) h9 (by simp) fun H10 e10 h10 => ?_
      have E10 : Ex H1 H10 := fun x o h => e10 _ _ (ne_of_none h np) (e9 _ _ (E8 _ _ h))
      have hk : H10 p = some (.lst (kinds i)) := h10
      have fl : (kinds i).all flatV = true := by
        rw [List.all_eq_true]
        intro z hz
        obtain ⟨m, _, rfl⟩ := List.mem_map.mp hz
        rfl
      clear hp h3 h4 h5 h6 h7 h8 h9 h10
      refine ⟨x_tyL (SqL.of hk), p, kinds i, _, rfl, rfl, SqL.of hk, rfl, fl, ?_⟩
      rw [kinds_count i hi]
      walk_at "run"
      rw [if_neg (by decide)]
      refine x_isV R hi he E10 ?_
      walk_at "run"
      rw [if_neg (by decide)]
      refine x_lst (by simp) fun l1 H11 n1 e11 h11 => x_lst (by simp) fun l2 H12 n2 e12 h12 => ?_
      refine x_cat (e12 _ _ h11) h12 (by simp) fun l3 H13 n3 e13 h13 => ?_
      have E13 : Ex H1 H13 := fun x o h => e13 _ _ (e12 _ _ (e11 _ _ (E10 _ _ h)))
      have hw : H13 l3 = some (.lst (errWords.map V.str)) := h13
      have hk13 : H13 p = some (.lst (kinds i)) := e13 _ _ (e12 _ _ (e11 _ _ hk))
      refine ⟨x_tyL (SqL.of hk13), p, kinds i, _, i, _, rfl, rfl, SqL.of hk13, rfl, fl, kinds_at i hi, rfl, fun m z' hm hz => ?_, ?_⟩
      · rw [kinds_not i hi m (by omega) hm] at hz
        cases hz; rfl
      refine x_ixL (SqL.of hw) (atI_nat (words_at i hi)) ?_
      walk_at "run"
      by_cases z : i = 0
      · subst z
        rw [if_pos (by decide)]
        obtain ⟨hc1, hd1⟩ := he
        rw [if_pos rfl] at hd1
        obtain ⟨dd, hd2, hx⟩ := hd1
        refine ⟨hc1, dd, _, st, hd2, E13 _ _ hx, rfl, hc1, dd, _, se, hd2, E13 _ _ hx, rfl, x_tup (by simp) fun t H14 nt e14 h14 => ?_⟩
        exact q t H14 (fun x o h => e14 _ _ (E13 _ _ h)) h14
      · rw [if_neg (by simpa using words_first i hi z)]
        refine x_tup (by simp) fun t H14 nt e14 h14 => ?_
        refine q t H14 (fun x o h => e14 _ _ (E13 _ _ h)) ?_
        unfold errTell
        rw [if_neg z]
        exact h14
  · walk_at "run"
    refine ⟨fun cls d H' => ∃ (i : Nat) (st se : V), i < 13 ∧ ErrIs C i st se cls d H' ∧ ∀ p H'', Ex H' H'' → H'' p = some (.tup (errTell i st se)) → Q (.ref p) H'', fun cls d σ' H' ⟨i, st, se, hi, he, q⟩ => ?_, hc, ?_⟩
    · refine ⟨true, by rw [he.1]; exact R.exF i hi, fun _ a na => ⟨fun hl => ?_, i, st, se, hi, he, q⟩, fun z => nomatch z⟩
      rw [List.length_set] at hl
      rw [List.getElem?_set_self (by omega)]
    · exact h
theorem err_gives {X : Cx} {g CF : Addr} {C : Nat → Addr} {cdg : Value} {q : Str} (R : Errs X.K X.mg CF C) (T : Bt X.mg) :
    GivesTo X errN "_law_error" (defScope s_l_error) g cdg (defBody s_l_error) "_law_call" q (TErr C) := fun f c' s H Q tl act hc h => err_aux R T f c' s H Q tl act hc h
/-- _law_error(lambda: body) -/
theorem pe_err {KF : PySem.W.Frag} {mg : Str → Option Value} {X : Cx} {g CF c Pt : Addr} {gd : FuncData} {C : Nat → Addr} {T0 : List (Addr × Str)} {k : Nat} {params : Arguments} {body : Expr} {scope : Scope} {t : XK → TE} {p lpos pos : Pos}
    (D : Df KF mg "_law_error" s_l_error ["_law_call"] g gd) (R : Errs KF mg CF C) (T : Bt mg) (hg : Gl X "_law_error") (TB : TabB X.base mg c Pt) (hcode : X.env.code = .ref c) (hmT : (Pt, X.env.qual ++ "<lambda>") ∈ T0) (hu : ∀ p ∈ T0, p.1 = Pt → p.2 = X.env.qual ++ "<lambda>")
    (hr : Room (k + 2) X.A) (L : LamS X.env.scope scope) (hdef : defaultsOf params X.env = ([], []))
    (hbind : ∀ (q : Str) (cl : List (Str × Addr)) (pm cv ctv : Value), bindArgs (PySem.W.kla_fn "<lambda>" q params body scope cl pm cv ctv) ⟨[], []⟩ = pure [])
    (hbody : ∀ (A : Around) (outer : List Env) (s : Shared) (H : Hp) (E : XK) (f c' : Addr), Room k (A.deeper (lamEnv X scope s.heap.objs.size f c')) → PE (lamCx X A outer s H E scope f c') body (t E))
    (hK : X.K = KF := by rfl) (hm : X.mg = mg := by rfl) : PE X (.Call (.Name "_law_error" p) [.Lambda params body scope lpos] [] pos) (tLam T0 (TErr C) t) := by
  subst hK hm
  obtain ⟨oc, od, kV, doc, pm, an, cdv, ct, osl, rfl, lk, hcd⟩ := D.F.ex
  exact pe_lamcall (Ng := errN) (a := "_law_call") hg D.g D.F.kp lk hcd D.b sc_l_error rfl (.inl rfl) (err_gives R T) TB hcode hmT hu hr L hdef hbind hbody
end K
set_option Elab.async false
set_option linter.all false
set_option maxRecDepth 100000
set_option maxHeartbeats 1000000
set_option exponentiation.threshold 20000
namespace K
open PySem PySem.Spec PyProof.Rows L2 Evl FB
local macro_rules | `(tactic| walk_at "run") => `(tactic| try simp only [tSeq, tAsg, tVar, tC, gName, L2.start, List.map_cons, List.map_nil, List.cons_append, List.nil_append, List.length_cons, List.length_nil, List.replicate, List.getElem?_cons_zero, List.getElem?_cons_succ, Option.some.injEq, exists_eq_left', List.set_cons_zero, List.set_cons_succ, V.ref.injEq, tRet, x_tLst, x_tTup, tCons, tCB, tNil, tOp, x_addI, x_mulI, x_rI, x_rI0, x_ltI, x_leI, x_ltS, x_leS, x_eqI, x_neI, x_eqS, x_eqB, x_neB, x_isiI, x_isiS, x_int, x_max, x_min, cxOf, tIfS, tNext, tTest, V.bl.injEq, decide_eq_true_eq, gSub, tAnd, tOr, tNot, tB, tDrop, tBM, x_tFor, iRng1, iList, iTup, x_tLc, tYes, tCall, tIf, tAndV, tOrV, tNotV, tChain, List.append_nil, tUn, if_true, wipe, true_and, x_never, iU, x_itS, kV, Nat.reduceAdd, Nat.reduceSub, List.replicate_zero, x_rU, x_tMkO, iEnumT, x_tDc, x_tDGet, x_tDGet2, x_sDPut, x_tDSetd, x_tDNewK, x_iItems, x_iZip, x_tSAddK, x_tLockV, x_tTupRg, x_tRg2, tPar, tPar3, tBM0, tSl, tNoPart, tPart, x_tSetAdd, x_tDIn, x_iKeys, x_iZipX, tWhile, x_iZip3, iRevR, tRg1])
/-- a place's value, as the law has it -/
def plP (z : Str) (f : Nat → Rat) : Key → Int × Nat
  | .inl j => ((f j.toNat).num, (f j.toNat).den)
  | .inr y => (if y = z then 1 else 0, 1)
theorem plP_q (z : Str) (f : Nat → Rat) (p : Key) : pQ (plP z f p) = plR z f p := by
  cases p with
  | inl j => exact pQ_fr _
  | inr y =>
    show mkRat (if y = z then 1 else 0) 1 = if y = z then 1 else 0
    split
    · rfl
    · rfl
theorem plP_map {z : Str} {f : Nat → Rat} {s : List Key} : (s.map (plP z f)).map pQ = s.map (plR z f) := by
  rw [List.map_map]
  exact List.map_congr_left fun p _ => plP_q z f p
theorem sm_num {D c : Nat} {q : Rat} (h : Sm D c q) (h0 : D ≠ 0) (h1 : D ≤ 2 ^ 140) : q.num.natAbs ≤ c * 2 ^ 140 :=
  num_abs h.lo h.hi (Nat.le_trans (Nat.le_of_dvd (Nat.pos_of_ne_zero h0) h.dv) h1)
theorem plP_wd {D : Nat} {z : Str} {f : Nat → Rat} (hf : ∀ j, Sm D 2 (f j)) (h0 : D ≠ 0) (h1 : D ≤ 2 ^ 140) (p : Key) : (plP z f p).1.natAbs < 2 ^ 1500 ∧ (plP z f p).2 ≠ 0 ∧ (plP z f p).2 < 2 ^ 1500 := by
  cases p with
  | inl j =>
    have := (hf j.toNat).wd h0 h1 (by decide)
    exact ⟨this.1, (f j.toNat).den_nz, this.2⟩
  | inr y =>
    show (if y = z then (1 : Int) else 0).natAbs < 2 ^ 1500 ∧ (1 : Nat) ≠ 0 ∧ (1 : Nat) < 2 ^ 1500
    split <;> decide
section
variable {P : Program} {w : World} {K : PySem.W.Frag} {mg : Str → Option Value} {base : Heap}
abbrev s_l_times : Stmt := top 52
theorem sc_l_times : FnScope ["_law_one", "_law_number"] ["_law_one", "_law_number"] (defScope s_l_times) := ⟨rfl, rfl, rfl, by decide +kernel, rfl, by decide +kernel, by decide +kernel⟩
def spTimes (K : PySem.W.Frag) : Sp := fun vs H Q _ => ∃ (u : V) (a : Rat) (k D : Nat), vs = [u, .int (k : Nat)] ∧ FrAt K H u a ∧ Sm D 2 a ∧ D ≠ 0 ∧ D ≤ 2 ^ 140 ∧ k ≤ 8 ∧ ∀ H' r, Ex H H' → FrAt K H' r (a * ((k : Int) : Rat)) → Q r H'
theorem sum_one {q : Rat} : sumL [q] = q := by show q + 0 = q; grind
theorem ok_l_times {f g : Addr} {fd gd : FuncData} (D : Df K mg "_law_times" s_l_times ["_law_one", "_law_number"] f fd) (T : Bt mg) (D_l_sum : Df K mg "_law_sum" s_l_sum ["_law_fractions"] g gd) : FnOk P w K mg base CX0 2 f fd ["_law_one", "_law_number"] (spTimes K) := by
  have G_l_sum : FnOk P w K mg base CX0 1 g gd _ _ := ok_l_sum D_l_sum T
  refine D.F.ok sc_l_times (fun vs H Q E h => ?_) (fun cdv A outer s H vs Q E hr h => ?_)
  · obtain ⟨u, a, k, D, rfl, _⟩ := h
    rfl
  · obtain ⟨u, a, k, D, rfl, hu, hsm, d0, d1, hk, q⟩ := h
    refine ⟨_, (pss_one (ps_ret (pe_call (G_l_sum) (hr.mono (by decide)) rfl D_l_sum.g D_l_sum.F.kp D_l_sum.b .nil pass0 (pa_cons (pe_lst (pa_cons (pe_tup (pa_cons (pe_op (op_mulU (K := K)) (pe_ix (ix_U (K := K)) (pv 0) pe_int (fun _ _ => rfl)) (pv 1)) (pa_cons (pe_ix (ix_U (K := K)) (pv 0) pe_int (fun _ _ => rfl)) pa_nil))) pa_nil)) pa_nil)))), ?_⟩
    obtain ⟨x, rfl, hx⟩ := hu.at
    walk_at "run"
    refine x_ixT hx (v := .int a.num) rfl ?_
    walk_at "run"
    refine ⟨.inr ⟨by omega, by omega⟩, x_ixT hx (v := .int (a.den : Int)) rfl (x_tup (by simp) fun t H1 n1 e1 h1 => x_lst (by simp) fun l H2 n2 e2 h2 => ?_)⟩
    have hq : pQ (a.num * (k : Int), a.den) = a * ((k : Int) : Rat) := rat_mulI a k
    have hn := sm_num hsm d0 d1
    have hs : sumL ([(a.num * (k : Int), a.den)].map pQ) = a * ((k : Int) : Rat) := by
      show sumL [pQ _] = _
      rw [hq, sum_one]
    have hw := (hsm.mulN k).wd d0 d1 (Nat.le_trans (Nat.mul_le_mul_left 2 hk) (by decide))
    refine ⟨l, _, [(a.num * (k : Int), a.den)], rfl, SqL.of h2, .cons (.tup (SqT.of (e2 _ _ h1)) (.cons (.int _) (.cons (.int _) .nil))) .nil, fun p hp => ?_, fun i hi => ?_, fun H3 r e3 h3 => ?_⟩
    · obtain rfl := List.mem_singleton.mp hp
      refine ⟨?_, a.den_nz, (hsm.wd d0 d1 (by decide)).2⟩
      rw [Int.natAbs_mul, Int.natAbs_natCast]
      exact Nat.lt_of_le_of_lt (Nat.mul_le_mul hn hk) (by decide)
    · match i, hi with
      | 0, _ => exact (Sm.zero (D := D) (c := 2)).wd d0 d1 (by decide)
      | 1, _ =>
        show Wd (sumL ([(a.num * (k : Int), a.den)].map pQ))
        rw [hs]; exact hw
    · rw [hs] at h3
      exact q H3 r (e1.trans (e2.trans e3)) h3
end
end K
set_option Elab.async false
set_option linter.all false
set_option maxRecDepth 100000
set_option maxHeartbeats 1000000
set_option exponentiation.threshold 20000
namespace K
open PySem PySem.Spec PyProof.Rows L2 Evl FB
local macro_rules | `(tactic| walk_at "run") => `(tactic| try simp only [tSeq, tAsg, tVar, tC, gName, L2.start, List.map_cons, List.map_nil, List.cons_append, List.nil_append, List.length_cons, List.length_nil, List.replicate, List.getElem?_cons_zero, List.getElem?_cons_succ, Option.some.injEq, exists_eq_left', List.set_cons_zero, List.set_cons_succ, V.ref.injEq, tRet, x_tLst, x_tTup, tCons, tCB, tNil, tOp, x_addI, x_mulI, x_rI, x_rI0, x_ltI, x_leI, x_ltS, x_leS, x_eqI, x_neI, x_eqS, x_eqB, x_neB, x_isiI, x_isiS, x_int, x_max, x_min, cxOf, tIfS, tNext, tTest, V.bl.injEq, decide_eq_true_eq, gSub, tAnd, tOr, tNot, tB, tDrop, tBM, x_tFor, iRng1, iList, iTup, x_tLc, tYes, tCall, tIf, tAndV, tOrV, tNotV, tChain, List.append_nil, tUn, if_true, wipe, true_and, x_never, iU, x_itS, kV, Nat.reduceAdd, Nat.reduceSub, List.replicate_zero, x_rU, x_tMkO, iEnumT, x_tDc, x_tDGet, x_tDGet2, x_sDPut, x_tDSetd, x_tDNewK, x_iItems, x_iZip, x_tSAddK, x_tLockV, x_tTupRg, x_tRg2, tPar, tPar3, tBM0, tSl, tNoPart, tPart, x_tSetAdd, x_tDIn, x_iKeys, x_iZipX, tWhile, x_iZip3, iRevR, tRg1])
section
variable {P : Program} {w : World} {K : PySem.W.Frag} {mg : Str → Option Value} {base : Heap}
theorem pls_dp {D : Nat} {z : Str} {f : Nat → Rat} (hf : ∀ j, Sm D 2 (f j)) (h0 : D ≠ 0) (h1 : D ≤ 2 ^ 140) {s : List Key} (h8 : s.length ≤ 8) : (∀ p ∈ s.map (plP z f), p.1.natAbs < 2 ^ 1500 ∧ p.2 ≠ 0 ∧ p.2 < 2 ^ 1500) ∧ ∀ i, i ≤ (s.map (plP z f)).length → Wd (sumL (((s.map (plP z f)).take i).map pQ)) := by
  refine ⟨fun p hp => ?_, fun i hi => ?_⟩
  · obtain ⟨k, _, rfl⟩ := List.mem_map.mp hp
    exact plP_wd hf h0 h1 k
  · rw [List.map_take, plP_map]
    rw [List.length_map] at hi
    refine Sm.wds (D := D) (c := 2) (fun q hq => ?_) h0 h1 (by rw [List.length_map]; exact Nat.le_trans (show _ ≤ 16 by omega) (by decide)) i (by rw [List.length_map]; exact hi)
    obtain ⟨k, _, rfl⟩ := List.mem_map.mp hq
    exact plR_sm hf (by decide) k
/-- the element of the law's comprehension -/
theorem pl_elt {H : Hp} {ra : Addr} {ts : List V} {qs : List Rat} {z : Str} {p : Key} {x : V} {Q : VK} (hx : kV p = x) (hra : SqA K H ra ts) (hts : DpAll K H ts (qs.map frD)) (hp : ∀ j : Int, p = .inl j → 0 ≤ j ∧ j.toNat < qs.length)
    (k : ∀ H' v, Ex H H' → Dp K H' v (pD (plP z (fun j => qs.getD j 0) p)) → Q v H') :
    rIsiU K [x, .ty "str"] H fun y H1 => ∃ b, y = .bl b ∧ if b = true then (rEqU K x (.str z) H1 fun y H1 => rIntU [y] H1 fun y H1 => rTup [y, .int 1] H1 Q) else rIx K (.ref ra) x H1 Q := by
  subst hx
  cases p with
  | inl j =>
    obtain ⟨h0, hj⟩ := hp j rfl
    obtain ⟨m, rfl⟩ : ∃ m : Nat, j = (m : Int) := ⟨j.toNat, by omega⟩
    rw [Int.toNat_natCast] at hj
    obtain ⟨y, hy, hyd⟩ := hts.get (i := m) (d := frD (qs.getD m 0)) (by rw [List.getElem?_map, List.getD_eq_getElem?_getD]; simp [hj])
    show rIsiU K [.int m, _] H _
    rw [x_isiI]
    refine ⟨false, rfl, ?_⟩
    rw [if_neg Bool.false_ne_true]
    exact x_ixA hra (atI_nat hy) (k H y (Ex.refl H) hyd)
  | inr y =>
    show rIsiU K [.str y, _] H _
    rw [x_isiS]
    refine ⟨true, rfl, ?_⟩
    rw [if_pos rfl]
    show rEqU K (.str y) (.str z) H _
    rw [x_eqS]
    refine .inr ⟨_, rfl, x_tup (by simp) fun t H1 n1 e1 h1 => k H1 _ e1 ?_⟩
    by_cases e : y = z
    · rw [decide_eq_true e] at h1
      show Dp K H1 _ (.tuple [.int (if y = z then 1 else 0), .int 1])
      rw [if_pos e]
      exact .tup (SqT.of h1) (.cons (.int _) (.cons (.int _) .nil))
    · rw [decide_eq_false e] at h1
      show Dp K H1 _ (.tuple [.int (if y = z then 1 else 0), .int 1])
      rw [if_neg e]
      exact .tup (SqT.of h1) (.cons (.int _) (.cons (.int _) .nil))
abbrev s_l_rates : Stmt := top 53
theorem sc_l_rates : FnScope ["_law_network_here", "_law_port", "_law_rates_here", "_law_k", "_law_values", "_law_total", "_law_place_here"] ["_law_network_here", "_law_port"] (defScope s_l_rates) := ⟨rfl, rfl, rfl, by decide +kernel, rfl, by decide +kernel, by decide +kernel⟩
theorem ok_l_rates {f g : Addr} {fd gd : FuncData} (D : Df K mg "_law_rates" s_l_rates ["_law_network_here", "_law_port"] f fd) (T : Bt mg) (D_l_sum : Df K mg "_law_sum" s_l_sum ["_law_fractions"] g gd) : FnOk P w K mg base CX0 2 f fd ["_law_network_here", "_law_port"] (spMake K) := by
  have G_l_sum : FnOk P w K mg base CX0 1 g gd _ _ := ok_l_sum D_l_sum T
  refine D.F.ok sc_l_rates (fun vs H Q E h => ?_) (fun cdv A outer s H vs Q E hr h => ?_)
  · obtain ⟨v, z, N, rfl, _⟩ := h
    rfl
  · obtain ⟨v, z, N, rfl, hN, hV, q⟩ := h
    have hu := hr.units
    refine ⟨_, (pss_cons (ps_set (i := 2) sc_l_rates.nd rfl (Or.inr rfl) (pe_op (op_mulU (K := K)) (pe_lst (pa_cons (pe_tup (pa_cons pe_int (pa_cons pe_int pa_nil))) pa_nil)) (pe_callB (call_lenU (K := K)) (by rfl) T.b_len (by decide +kernel) (pa_cons (pv 0) pa_nil))))
      (pss_cons (ps_for PassesOwn.never rfl (pi_range3 (by rfl) T.b_range (pa_cons (pe_op op_sub (pe_callB (call_lenU (K := K)) (by rfl) T.b_len (by decide +kernel) (pa_cons (pv 0) pa_nil)) pe_int) (pa_cons (pe_un un_neg pe_int) (pa_cons (pe_un un_neg pe_int) pa_nil)))) (pg_name (i := 3) sc_l_rates.nd rfl (Or.inl rfl)) (pss_cons (ps_setLc (i := 4) (own := [("_law_place_here", 6)]) (g := gName 6) (tt := tYes) rfl sc_l_rates.nd rfl rfl (sw_true rfl rfl rfl (by decide +kernel)) (pi_U (K := K) (pe_ix (ix_U (K := K)) (pv 0) (pv 3) (fun _ _ => rfl))) (blkOk_by (own := [("_law_place_here", 6)]) (N := ["_law_network_here", "_law_port", "_law_rates_here", "_law_k", "_law_values", "_law_total", "_law_place_here"]) (sc := defScope s_l_rates) (by decide +kernel)) (fun _ _ _ _ _ => (pg_name (i := 6) sc_l_rates.nd rfl (Or.inl rfl))) (fun _ _ _ _ _ => pts_nil) (fun _ _ _ _ _ => (pe_ifExp (pt_val (pe_callB (call_isiU (K := K)) (by rfl) T.b_isinstance (by decide +kernel) (pa_cons (pv 6) (pa_cons (pe_bltn (v := .ty "str") (by rfl) T.b_str (by decide +kernel) rfl) pa_nil)))) (pe_tup (pa_cons (pe_callTy call_intU (by rfl) T.b_int (by decide +kernel) (pa_cons (pe_cmpR (op_eqU (K := K) hu) (pv 6) (pv 1) (nomark _)) pa_nil)) (pa_cons pe_int pa_nil))) (pe_ix (ix_U (K := K)) (pv 2) (pv 6) (fun _ _ => rfl)))))
      (pss_cons (ps_set (i := 5) sc_l_rates.nd rfl (Or.inl rfl) (pe_call (G_l_sum) (hr.mono (by decide)) rfl D_l_sum.g D_l_sum.F.kp D_l_sum.b .nil pass0 (pa_cons (pv 4) pa_nil)))
      (pss_one (ps_asg (pe_call (G_l_sum) (hr.mono (by decide)) rfl D_l_sum.g D_l_sum.F.kp D_l_sum.b .nil pass0 (pa_cons (pe_lst (pa_cons (pe_tup (pa_cons (pe_ix (ix_U (K := K)) (pv 5) pe_int (fun _ _ => rfl)) (pa_cons (pe_op (op_mulU (K := K)) (pe_ix (ix_U (K := K)) (pv 5) pe_int (fun _ _ => rfl)) (pe_callB (call_lenU (K := K)) (by rfl) T.b_len (by decide +kernel) (pa_cons (pe_ix (ix_U (K := K)) (pv 0) (pv 3) (fun _ _ => rfl)) pa_nil))) pa_nil))) pa_nil)) pa_nil)) (pg_sub (pv 2) (pv 3) set_list))))))
      (pss_one (ps_ret (pe_callTy (call_tupU (K := K)) (by rfl) T.b_tuple (by decide +kernel) (pa_cons (pv 2) pa_nil)))))), ?_⟩
    obtain ⟨na, ns, rfl, hNs, hns⟩ := hN.at
    have hnl : ns.length = N.length := by rw [hns.len, List.length_map]
    have h40 := hV.le
    have h1n := hV.pos
    walk_at "run"
    refine x_tup (by simp) fun t0 H0 n0 e0 h0 => x_lst (by simp) fun l1 H2 n1 e2 hl1 => x_lenT (ex_t (e0.trans e2) hNs) ?_
    rw [hnl]
    walk_at "run"
    refine x_repQ hl1 ⟨by omega, by omega⟩ (by simp) fun l H3 n3 e3 hl => ?_
    have E3 : Ex H H3 := e0.trans (e2.trans e3)
    have nl : H l = none := fresh_back (e0.trans e2) n3
    simp only [iRng3]
    walk_at "run"
    refine x_lenT (ex_t E3 hNs) ?_
    rw [hnl]
    walk_at "run"
    refine ⟨(N.length : Nat) - 1, -1, -1, _, rfl, RgC.neg (by omega) (by omega) (by decide) (by decide), ?_⟩
    rw [show (((N.length : Nat) : Int) - 1 - -1).toNat = N.length by omega]
    refine loop_it walk_rangeC (fun i σ H' => ∃ u3 u4 u5 u6 ts, σ = [some (.ref na), some (.str z), some (.ref l), u3, u4, u5, u6] ∧ Ex H H' ∧ H' l = some (.lst ts) ∧ DpAll K H' ts ((rtsI z N i).map frD)) ⟨_, _, _, _, _, rfl, E3, hl, ?_⟩ (fun _ _ _ _ _ => trivial) ?_ ?_
    · rw [rtsI_zero, List.map_replicate]
      have h03 : FrAt K H3 (.ref t0) 0 := FrAt.of (SqT.of (e3 _ _ (e2 _ _ h0)))
      have : ∀ n, DpAll K H3 (List.replicate n [V.ref t0]).flatten (List.replicate n (frD 0)) := fun n => by
        induction n with
        | zero => exact .nil
        | succ n ih =>
          rw [List.replicate_succ, List.replicate_succ]
          exact .cons h03 ih
      exact this _
    · rintro i x σ H4 H4' hi ⟨u3, u4, u5, u6, ts, rfl, e4, hl4, hts⟩ ⟨eH, rfl⟩
      subst eH
      obtain ⟨k, hk⟩ : ∃ k, k = N.length - 1 - i := ⟨_, rfl⟩
      have hkN : k < N.length := by omega
      have ek : ((N.length : Nat) : Int) - 1 + (i : Nat) * (-1) = (k : Nat) := by omega
      simp only [ek]
      obtain ⟨s, hs⟩ : ∃ s, N[k]? = some s := ⟨N[k], by simp [hkN]⟩
      have hg : N.getD k [] = s := by simp [List.getD_eq_getElem?_getD, hs]
      obtain ⟨sv, hsv, hsd⟩ := hns.get (i := k) (d := stD s) (by rw [List.getElem?_map, hs]; rfl)
      obtain ⟨b, rfl, hb⟩ := StAt.at hsd
      have h8 := hV.len8 k
      have h1 := hV.fwr.pos k hkN
      rw [hg] at h8 h1
      have htl : ts.length = N.length := by rw [hts.len, List.length_map, rtsI_len]
      walk_at "run"
      obtain ⟨f, hf⟩ : ∃ f : Nat → Rat, f = fun j => (rtsI z N i).getD j 0 := ⟨_, rfl⟩
      have hfs : ∀ j, Sm (denN N) 2 (f j) := fun j => by rw [hf]; exact getD_sm (rtsI_sm hV) j
      have hd0 := denN_pos hV
      have hd1 := denN_le hV
      refine x_ixT (ex_t e4 hNs) (atI_nat hsv) (x_itT (ex_t e4 hb) (lcl_it walk_tup (fun D j H' => Ex H4' H' ∧ LsAt K H' D (((s.take j).map (plP z f)).map pD)) (fun D H' hD e h => ⟨e, ⟨⟨[], h, .nil⟩⟩⟩) (fun D j H' _ h => ex_t (e4.trans h.1) hb) ?_ ?_))
      · rintro D j x H5 H5' hD hj ⟨e5, hL⟩ ⟨eH, hx⟩
        subst eH
        obtain ⟨p, hp, hpx⟩ : ∃ p, s[j]? = some p ∧ kV p = x := by simpa using hx
        have hL' := hL
        walk_at "run"
        refine pl_elt hpx (.inl (SqL.of (e5 _ _ hl4))) (DpAll.ex e5 hts) (fun m hm => ?_) fun H6 v e6 h6 => ?_
        · subst hm
          have := hV.fwr.fw k hkN m (by rw [hg]; exact List.mem_of_getElem? hp)
          rw [rtsI_len]
          omega
        obtain ⟨ls, hls, hlsd⟩ := (hL.ex2 e6).ex
        have hll : ls.length ≤ 8 := by rw [hlsd.len, List.length_map, List.length_map, List.length_take]; omega
        refine x_push hls (by omega) fun H7 e7 h7 => ⟨fun o u h => e7 _ _ (ne_of_none h hD) (e6 _ _ (e5 _ _ h)), ⟨⟨_, h7, ?_⟩⟩⟩
        have t7 : TX H6 H7 := TX.but hls e7
        rw [List.take_add_one, hp, List.map_append, List.map_append]
        rw [← hf] at h6
        exact DpAll.append (DpAll.tx t7 hlsd fun d hd => by obtain ⟨q, _, rfl⟩ := List.mem_map.mp hd; exact pD_t q) (.cons (Dp.tx t7 h6 (pD_t _)) .nil)
      · rintro D H5 hD ⟨e5, hL⟩
        rw [List.length_map, List.take_length] at hL
        obtain ⟨ls, hls, hlsd⟩ := hL.ex
        obtain ⟨w1, w2⟩ := pls_dp (z := z) hfs hd0 hd1 h8
        walk_at "run"
        refine ⟨D, ls, s.map (plP z f), rfl, SqL.of hls, hlsd, w1, w2, fun H6 r e6 h6 => ?_⟩
        rw [plP_map] at h6
        obtain ⟨y, hy⟩ : ∃ y, y = sumL (s.map (plR z f)) := ⟨_, rfl⟩
        rw [← hy] at h6
        have hsm : Sm (denN N) 16 y := by
          rw [hy]
          refine (Sm.sum (D := denN N) (c := 2) fun q hq => ?_).mono (by rw [List.length_map]; omega)
          obtain ⟨p, _, rfl⟩ := List.mem_map.mp hq
          exact plR_sm hfs (by decide) p
        have E6 : Ex H H6 := e4.trans (e5.trans e6)
        obtain ⟨t, rfl, ht⟩ := FrAt.at h6
        walk_at "run"
        refine x_ixT ht (v := .int y.num) rfl (x_ixT ht (v := .int (y.den : Int)) rfl (x_ixT (ex_t E6 hNs) (atI_nat hsv) (x_lenT (ex_t E6 hb) ?_)))
        rw [List.length_map]
        walk_at "run"
        refine ⟨.inr ⟨by omega, by omega⟩, x_tup (by simp) fun t2 H7 n7 e7 h7 => x_lst (by simp) fun l2 H8 n8 e8 h8 => ?_⟩
        have hwy := hsm.wd hd0 hd1 (by decide)
        have hq : pQ (y.num, y.den * s.length) = y / ((s.length : Nat) : Rat) := rat_divN y (by omega)
        have hstep := rt_step (z := z) hV hi
        rw [← hk, hg, ← hf, ← hy, ← hq] at hstep
        have hs1 : sumL ([(y.num, y.den * s.length)].map pQ) = rt z N k := by
          show sumL [pQ _] = _
          rw [hstep, sum_one]
        refine ⟨l2, _, [(y.num, y.den * s.length)], rfl, SqL.of h8, .cons (.tup (SqT.of (e8 _ _ h7)) (.cons (.int _) (.cons ?_ .nil))) .nil, fun p hp => ?_, fun i hi => ?_, fun H9 r9 e9 h9 => ?_⟩
        · rw [← Int.natCast_mul]; exact .int _
        · obtain rfl := List.mem_singleton.mp hp
          refine ⟨hwy.1, Nat.mul_ne_zero y.den_nz (by omega), ?_⟩
          have := Nat.le_trans (Nat.le_of_dvd (Nat.pos_of_ne_zero hd0) hsm.dv) hd1
          exact Nat.lt_of_le_of_lt (Nat.mul_le_mul this ‹s.length ≤ 8›) (by decide)
        · match i, hi with
          | 0, _ => exact (Sm.zero (D := denN N) (c := 2)).wd hd0 hd1 (by decide)
          | 1, _ =>
            show Wd (sumL ([(y.num, y.den * s.length)].map pQ))
            rw [hs1]
            exact (rt_sm hV hkN).wd hd0 hd1 (by decide)
        · rw [hs1] at h9
          have E59 : Ex H4' H9 := fun o u h => e9 _ _ (e8 _ _ (e7 _ _ (e6 _ _ (e5 _ _ h))))
          have hl9 := E59 _ _ hl4
          refine x_setL hl9 (ixN_in (n := ts.length) (by omega) (by omega)) fun H10 e10 h10 => ?_
          have tx := TX.but hl9 e10
          refine ⟨_, _, _, _, _, rfl, fun o u h => e10 _ _ (ne_of_none h nl) (E59 _ _ (e4 _ _ h)), h10, ?_⟩
          rw [← rtsI_set hi, ← hk, List.map_set, Int.toNat_natCast]
          exact DpAll.set (DpAll.tx ((TX.of E59).trans tx) hts (frs_t _)) (Dp.tx tx h9 (frD_t _))
    · rintro σ H4 ⟨u3, u4, u5, u6, ts, rfl, e4, hl4, hts⟩
      rw [rtsI_all] at hts
      walk_at "run"
      refine x_tupL (SqL.of hl4) fun t H5 nt e5 h5 => q H5 _ (e4.trans e5) (.tup (SqT.of h5) (DpAll.ex e5 hts))
end
end K
set_option Elab.async false
set_option linter.all false
set_option maxRecDepth 100000
set_option maxHeartbeats 1000000
set_option exponentiation.threshold 20000
namespace K
open PySem PySem.Spec PyProof.Rows L2 Evl FB
local macro_rules | `(tactic| walk_at "run") => `(tactic| try simp only [tSeq, tAsg, tVar, tC, gName, L2.start, List.map_cons, List.map_nil, List.cons_append, List.nil_append, List.length_cons, List.length_nil, List.replicate, List.getElem?_cons_zero, List.getElem?_cons_succ, Option.some.injEq, exists_eq_left', List.set_cons_zero, List.set_cons_succ, V.ref.injEq, tRet, x_tLst, x_tTup, tCons, tCB, tNil, tOp, x_addI, x_mulI, x_rI, x_rI0, x_ltI, x_leI, x_ltS, x_leS, x_eqI, x_neI, x_eqS, x_eqB, x_neB, x_isiI, x_isiS, x_int, x_max, x_min, cxOf, tIfS, tNext, tTest, V.bl.injEq, decide_eq_true_eq, gSub, tAnd, tOr, tNot, tB, tDrop, tBM, x_tFor, iRng1, iList, iTup, x_tLc, tYes, tCall, tIf, tAndV, tOrV, tNotV, tChain, List.append_nil, tUn, if_true, wipe, true_and, x_never, iU, x_itS, kV, Nat.reduceAdd, Nat.reduceSub, List.replicate_zero, x_rU, x_tMkO, iEnumT, x_tDc, x_tDGet, x_tDGet2, x_sDPut, x_tDSetd, x_tDNewK, x_iItems, x_iZip, x_tSAddK, x_tLockV, x_tTupRg, x_tRg2, tPar, tPar3, tBM0, tSl, tNoPart, tPart, x_tSetAdd, x_tDIn, x_iKeys, x_iZipX, tWhile, x_iZip3, iRevR, tRg1])
section
variable {P : Program} {w : World} {K : PySem.W.Frag} {mg : Str → Option Value} {base : Heap}
abbrev s_l_violation : Stmt := top 54
theorem sc_l_violation : FnScope ["_law_network_here", "_law_port", "_law_rates_here", "_law_k", "_law_values", "_law_place_here"] ["_law_network_here", "_law_port", "_law_rates_here"] (defScope s_l_violation) := ⟨rfl, rfl, rfl, by decide +kernel, rfl, by decide +kernel, by decide +kernel⟩
def spViolL (K : PySem.W.Frag) : Sp := fun vs H Q _ => ∃ (v u : V) (z : Str) (N : Net) (qs : List Rat) (D : Nat), vs = [v, .str z, u] ∧ NetAt K H v N ∧ ValidN N ∧ RsAt K H u qs ∧ qs.length = N.length ∧ D ≠ 0 ∧ D ≤ 2 ^ 140 ∧ (∀ q ∈ qs, Sm D 2 q) ∧ ∀ H', Ex H H' → Q (vV (viol z N qs)) H'
theorem ok_l_violation {f g g2 : Addr} {fd gd gd2 : FuncData} (D : Df K mg "_law_violation" s_l_violation ["_law_network_here", "_law_port", "_law_rates_here"] f fd) (T : Bt mg) (D_l_sum : Df K mg "_law_sum" s_l_sum ["_law_fractions"] g gd) (D_l_times : Df K mg "_law_times" s_l_times ["_law_one", "_law_number"] g2 gd2) : FnOk P w K mg base CX0 3 f fd ["_law_network_here", "_law_port", "_law_rates_here"] (spViolL K) := by
  have G_l_sum : FnOk P w K mg base CX0 1 g gd _ _ := ok_l_sum D_l_sum T
  have G_l_times : FnOk P w K mg base CX0 2 g2 gd2 _ _ := ok_l_times D_l_times T D_l_sum
  refine D.F.ok sc_l_violation (fun vs H Q E h => ?_) (fun cdv A outer s H vs Q E hr h => ?_)
  · obtain ⟨v, u, z, N, qs, D, rfl, _⟩ := h
    rfl
  · obtain ⟨v, u, z, N, qs, D, rfl, hN, hV, hR, hql, d0, d1, hsm, q⟩ := h
    have hu := hr.units
    refine ⟨_, (pss_cons (ps_for PassesOwn.never rfl (pi_range1 (by rfl) T.b_range (pa_cons (pe_callB (call_lenU (K := K)) (by rfl) T.b_len (by decide +kernel) (pa_cons (pv 0) pa_nil)) pa_nil)) (pg_name (i := 3) sc_l_violation.nd rfl (Or.inl rfl)) (pss_cons (ps_setLc (i := 4) (own := [("_law_place_here", 5)]) (g := gName 5) (tt := tYes) rfl sc_l_violation.nd rfl rfl (sw_true rfl rfl rfl (by decide +kernel)) (pi_U (K := K) (pe_ix (ix_U (K := K)) (pv 0) (pv 3) (fun _ _ => rfl))) (blkOk_by (own := [("_law_place_here", 5)]) (N := ["_law_network_here", "_law_port", "_law_rates_here", "_law_k", "_law_values", "_law_place_here"]) (sc := defScope s_l_violation) (by decide +kernel)) (fun _ _ _ _ _ => (pg_name (i := 5) sc_l_violation.nd rfl (Or.inl rfl))) (fun _ _ _ _ _ => pts_nil) (fun _ _ _ _ _ => (pe_ifExp (pt_val (pe_callB (call_isiU (K := K)) (by rfl) T.b_isinstance (by decide +kernel) (pa_cons (pv 5) (pa_cons (pe_bltn (v := .ty "str") (by rfl) T.b_str (by decide +kernel) rfl) pa_nil)))) (pe_tup (pa_cons (pe_callTy call_intU (by rfl) T.b_int (by decide +kernel) (pa_cons (pe_cmpR (op_eqU (K := K) hu) (pv 5) (pv 1) (nomark _)) pa_nil)) (pa_cons pe_int pa_nil))) (pe_ix (ix_U (K := K)) (pv 2) (pv 5) (fun _ _ => rfl)))))
      (pss_one (ps_if (pt_cmpR (op_neU (K := K) hu) (pe_call (G_l_sum) (hr.mono (by decide)) rfl D_l_sum.g D_l_sum.F.kp D_l_sum.b .nil pass0 (pa_cons (pv 4) pa_nil)) (pe_call (G_l_times) (hr.mono (by decide)) rfl D_l_times.g D_l_times.F.kp D_l_times.b .nil pass0 (pa_cons (pe_ix (ix_U (K := K)) (pv 2) (pv 3) (fun _ _ => rfl)) (pa_cons (pe_callB (call_lenU (K := K)) (by rfl) T.b_len (by decide +kernel) (pa_cons (pe_ix (ix_U (K := K)) (pv 0) (pv 3) (fun _ _ => rfl)) pa_nil)) pa_nil))) (nomark _)) (pss_one (ps_ret (pv 3))) pss_nil))))
      (pss_one (ps_ret pe_non))), ?_⟩
    obtain ⟨na, ns, rfl, hNs, hns⟩ := hN.at
    have hnl : ns.length = N.length := by rw [hns.len, List.length_map]
    obtain ⟨ra, rs, rfl, hRs, hrs⟩ := RsAt.at hR
    have hrl : rs.length = N.length := by rw [hrs.len, List.length_map, hql]
    have h40 := hV.le
    have h1n := hV.pos
    obtain ⟨f, hf⟩ : ∃ f : Nat → Rat, f = fun j => qs.getD j 0 := ⟨_, rfl⟩
    have hfs : ∀ j, Sm D 2 (f j) := fun j => by rw [hf]; exact getD_sm hsm j
    walk_at "run"
    refine x_lenT hNs ?_
    rw [hnl]
    refine ⟨(N.length : Nat), rfl, by omega, by omega, ?_⟩
    rw [Int.toNat_natCast]
    refine loop_it walk_range (fun i σ H' => ∃ u3 u4 u5, σ = [some (.ref na), some (.str z), some (.ref ra), u3, u4, u5] ∧ Ex H H' ∧ ∀ j, j < i → violQ z N qs j = false) ⟨_, _, _, rfl, Ex.refl H, fun j hj => by omega⟩ (fun _ _ _ _ _ => trivial) ?_ ?_
    · rintro k x σ H4 H4' hkN ⟨u3, u4, u5, rfl, e4, hv⟩ ⟨eH, rfl⟩
      subst eH
      have ek : (0 : Int) + (k : Nat) = (k : Nat) := by omega
      simp only [ek]
      obtain ⟨s, hs⟩ : ∃ s, N[k]? = some s := ⟨N[k], by simp [hkN]⟩
      have hg : N.getD k [] = s := by simp [List.getD_eq_getElem?_getD, hs]
      obtain ⟨sv, hsv, hsd⟩ := hns.get (i := k) (d := stD s) (by rw [List.getElem?_map, hs]; rfl)
      obtain ⟨b, rfl, hb⟩ := StAt.at hsd
      have h8 := hV.len8 k
      rw [hg] at h8
      obtain ⟨y, hyr, hyq⟩ := hrs.get (i := k) (d := frD (qs.getD k 0)) (by rw [List.getElem?_map, List.getD_eq_getElem?_getD]; simp [show k < qs.length by omega])
      walk_at "run"
      refine x_ixT (ex_t e4 hNs) (atI_nat hsv) (x_itT (ex_t e4 hb) (lcl_it walk_tup (fun D j H' => Ex H4' H' ∧ LsAt K H' D (((s.take j).map (plP z f)).map pD)) (fun D H' hD e h => ⟨e, ⟨⟨[], h, .nil⟩⟩⟩) (fun D j H' _ h => ex_t (e4.trans h.1) hb) ?_ ?_))
      · rintro D j x H5 H5' hD hj ⟨e5, hL⟩ ⟨eH, hx⟩
        subst eH
        obtain ⟨p, hp, hpx⟩ : ∃ p, s[j]? = some p ∧ kV p = x := by simpa using hx
        walk_at "run"
        refine pl_elt hpx (.inr (ex_t (e4.trans e5) hRs)) (DpAll.ex (e4.trans e5) hrs) (fun m hm => ?_) fun H6 v e6 h6 => ?_
        · subst hm
          have := hV.fwr.fw k hkN m (by rw [hg]; exact List.mem_of_getElem? hp)
          omega
        obtain ⟨ls, hls, hlsd⟩ := (hL.ex2 e6).ex
        have hll : ls.length ≤ 8 := by rw [hlsd.len, List.length_map, List.length_map, List.length_take]; omega
        refine x_push hls (by omega) fun H7 e7 h7 => ⟨fun o u h => e7 _ _ (ne_of_none h hD) (e6 _ _ (e5 _ _ h)), ⟨⟨_, h7, ?_⟩⟩⟩
        have t7 : TX H6 H7 := TX.but hls e7
        rw [List.take_add_one, hp, List.map_append, List.map_append]
        rw [← hf] at h6
        exact DpAll.append (DpAll.tx t7 hlsd fun d hd => by obtain ⟨q, _, rfl⟩ := List.mem_map.mp hd; exact pD_t q) (.cons (Dp.tx t7 h6 (pD_t _)) .nil)
      · rintro D2 H5 hD ⟨e5, hL⟩
        rw [List.length_map, List.take_length] at hL
        obtain ⟨ls, hls, hlsd⟩ := hL.ex
        obtain ⟨w1, w2⟩ := pls_dp (z := z) hfs d0 d1 h8
        have E5 := e4.trans e5
        walk_at "run"
        refine ⟨D2, ls, s.map (plP z f), rfl, SqL.of hls, hlsd, w1, w2, fun H6 r e6 h6 => ?_⟩
        rw [plP_map] at h6
        have E6 := E5.trans e6
        refine x_ixT (ex_t E6 hRs) (atI_nat hyr) (x_ixT (ex_t E6 hNs) (atI_nat hsv) (x_lenT (ex_t E6 hb) ?_))
        rw [List.length_map]
        refine ⟨y, _, s.length, D, rfl, Dp.ex E6 hyq, getD_sm hsm k, d0, d1, h8, fun H7 r7 e7 h7 => ?_⟩
        have E7 := E6.trans e7
        refine x_neD (Dp.ex e7 h6) h7 (by rfl) (by rfl) ?_
        rw [eqv_fr]
        have hvi : violQ z N qs k = !decide (sumL (s.map (plR z f)) = qs.getD k 0 * (((s.length : Nat) : Int) : Rat)) := by unfold violQ; rw [hg, hf]
        rw [← hvi]
        walk_at "run"
        by_cases c : violQ z N qs k = true
        · rw [if_pos c]
          have := viol_some hkN c hv
          rw [this] at q
          walk_at "run"
          exact q H7 E7
        · have c : violQ z N qs k = false := by simpa using c
          rw [c, if_neg Bool.false_ne_true]
          refine ⟨_, _, _, rfl, E7, fun j hj => ?_⟩
          by_cases e : j = k
          · subst e; exact c
          · exact hv j (by omega)
    · rintro σ H3 ⟨u3, u4, u5, rfl, e3, hv⟩
      rw [viol_none hv] at q
      walk_at "run"
      exact q H3 e3
end
end K
set_option Elab.async false
set_option linter.all false
set_option maxRecDepth 100000
set_option maxHeartbeats 1000000
set_option exponentiation.threshold 20000
namespace K
open PySem PySem.Spec PyProof.Rows L2 Evl FB
local macro_rules | `(tactic| walk_at "run") => `(tactic| try simp only [tSeq, tAsg, tVar, tC, gName, L2.start, List.map_cons, List.map_nil, List.cons_append, List.nil_append, List.length_cons, List.length_nil, List.replicate, List.getElem?_cons_zero, List.getElem?_cons_succ, Option.some.injEq, exists_eq_left', List.set_cons_zero, List.set_cons_succ, V.ref.injEq, tRet, x_tLst, x_tTup, tCons, tCB, tNil, tOp, x_addI, x_mulI, x_rI, x_rI0, x_ltI, x_leI, x_ltS, x_leS, x_eqI, x_neI, x_eqS, x_eqB, x_neB, x_isiI, x_isiS, x_int, x_max, x_min, cxOf, tIfS, tNext, tTest, V.bl.injEq, decide_eq_true_eq, gSub, tAnd, tOr, tNot, tB, tDrop, tBM, x_tFor, iRng1, iList, iTup, x_tLc, tYes, tCall, tIf, tAndV, tOrV, tNotV, tChain, List.append_nil, tUn, if_true, wipe, true_and, x_never, iU, x_itS, kV, Nat.reduceAdd, Nat.reduceSub, List.replicate_zero, x_rU, x_tMkO, iEnumT, x_tDc, x_tDGet, x_tDGet2, x_sDPut, x_tDSetd, x_tDNewK, x_iItems, x_iZip, x_tSAddK, x_tLockV, x_tTupRg, x_tRg2, tPar, tPar3, tBM0, tSl, tNoPart, tPart, x_tSetAdd, x_tDIn, x_iKeys, x_iZipX, tWhile, x_iZip3, iRevR, tRg1])
open LamX
/-- the law's facts of one turn -/
structure LW (K : PySem.W.Frag) (T0 : List (Addr × Str)) (h b : Addr) (v rv : V) (N : Net) (z : Str) (H : Hp) : Prop where
  gen : Gen H h b
  tabs : Tabs T0 H
  net : NetAt K H v N
  rts : RsAt K H rv (rtsL z N)
theorem rs_t (qs : List Rat) : TupD (.tuple (qs.map frD)) := .tup (frs_t qs)
section
variable {K : PySem.W.Frag} {T0 : List (Addr × Str)} {h b : Addr} {v rv : V} {N : Net} {z : Str} {H H' : Hp}
theorem LW.ex (W : LW K T0 h b v rv N z H) (e : Ex H H') : LW K T0 h b v rv N z H' := ⟨W.gen.ex e, W.tabs.ext e, Dp.ex e W.net, Dp.ex e W.rts⟩
theorem LW.nx (W : LW K T0 h b v rv N z H) (g : Gen H' h b) (e : Ex2 h b H H') : LW K T0 h b v rv N z H' := by
  have tx := W.gen.tx e
  refine ⟨g, ?_, Dp.tx tx W.net (netD_t N), Dp.tx tx W.rts (rs_t _)⟩
  obtain ⟨m, c, ns, x, y, _⟩ := W.gen
  exact tabs_ex2 x y W.tabs e
theorem LW.en (W : LW K T0 h b v rv N z H) (e : ExtN H H') (t : Tabs T0 H') : LW K T0 h b v rv N z H' := by
  have tx := extN_tx e
  refine ⟨?_, t, Dp.tx tx W.net (netD_t N), Dp.tx tx W.rts (rs_t _)⟩
  obtain ⟨m, c, ns, x, y, l⟩ := W.gen
  exact ⟨m, c, ns, e _ _ x (by simp), e _ _ y (by simp), l⟩
end
theorem frs_lay : ∀ qs : List Rat, PyData.canLayAll0 (qs.map frD) = true
  | [] => rfl
  | q :: qs => by
    show (PyData.canLay0 (frD q) && PyData.canLayAll0 (qs.map frD)) = true
    rw [frs_lay qs]; rfl
theorem frs_depth : ∀ qs : List Rat, PyData.depthAll (qs.map frD) ≤ 2
  | [] => by decide
  | q :: qs => by
    show max (PyData.depth (frD q)) (PyData.depthAll (qs.map frD)) ≤ 2
    refine Nat.max_le.mpr ⟨?_, frs_depth qs⟩
    unfold frD
    simp [PyData.depth, PyData.depthAll]
theorem rs_shaped (qs : List Rat) : SeqAt.shaped (.tuple (qs.map frD)) = true ∧ (PyData.tuple (qs.map frD)).depth ≤ 4 := by
  have h1 : (PyData.tuple (qs.map frD)).depth ≤ 4 := by
    rw [PyData.depth]
    have := frs_depth qs
    omega
  exact ⟨shaped_mk (by rw [PyData.canLay0]; exact frs_lay qs) (by omega), h1⟩
theorem fr_sm (q : Rat) : SmD (frD q) := .tup (by simp) fun d hd => by
  simp only [List.mem_cons, List.not_mem_nil, or_false] at hd
  rcases hd with rfl | rfl
  · exact .int _
  · exact .int _
theorem rs_sm {qs : List Rat} (h : qs.length ≤ 1000000) : SmD (.tuple (qs.map frD)) := .tup (by rw [List.length_map]; exact h) fun d hd => by
  obtain ⟨q, _, rfl⟩ := List.mem_map.mp hd
  exact fr_sm q
theorem ps_frs : ∀ qs : List Rat, (qs.map fun q => ((q.num, q.den) : Int × Nat)).map pD = qs.map frD
  | [] => rfl
  | q :: qs => by
    show pD (q.num, q.den) :: _ = frD q :: _
    rw [ps_frs qs]; rfl
theorem ps_qs : ∀ qs : List Rat, (qs.map fun q => ((q.num, q.den) : Int × Nat)).map pQ = qs
  | [] => rfl
  | q :: qs => by
    show pQ (q.num, q.den) :: _ = q :: _
    rw [ps_qs qs, pQ_fr]
theorem x_sumFr {K : PySem.W.Frag} {H : Hp} {a : Addr} {ts : List V} {qs : List Rat} {D c : Nat} {Q : VK} {E : XK} (hS : SqL K H a ts) (ht : DpAll K H ts (qs.map frD)) (hs : ∀ q ∈ qs, Sm D c q) (d0 : D ≠ 0) (d1 : D ≤ 2 ^ 140) (hc : c ≤ 2 ^ 50) (hl : qs.length ≤ 1000)
    (k : ∀ H' r, Ex H H' → FrAt K H' r (sumL qs) → Q r H') : spSumL K [.ref a] H Q E := by
  refine ⟨a, ts, qs.map fun q => (q.num, q.den), rfl, hS, by rw [ps_frs]; exact ht, fun p hp => ?_, fun i hi => ?_, fun H' r e hr => ?_⟩
  · obtain ⟨q, hq, rfl⟩ := List.mem_map.mp hp
    have := (hs q hq).wd d0 d1 (Nat.le_trans hc (by decide))
    exact ⟨this.1, q.den_nz, this.2⟩
  · rw [List.length_map] at hi
    rw [← List.map_take, ps_qs]
    exact Sm.wds hs d0 d1 (Nat.le_trans (Nat.mul_le_mul hl hc) (by decide)) i hi
  · rw [ps_qs] at hr
    exact k H' r e hr
theorem viol_rts {z : Str} {N : Net} (h : ValidN N) : viol z N (rtsL z N) = none := viol_none fun k hk => by
  unfold violQ
  have hp := h.fwr.pos k hk
  have e : (N.getD k []).map (plR z fun j => (rtsL z N).getD j 0) = (N.getD k []).map (plR z (rt z N)) := List.map_congr_left fun p hp => plR_congr fun j hj => by
    subst hj
    have := h.fwr.fw k hk j hp
    exact rtsL_get (by omega)
  rw [e, rtsL_get hk, rt_eq h.fwr hk, Rat.intCast_natCast]
  have h3 : (((N.getD k []).length : Nat) : Rat) ≠ 0 := by
    have : (N.getD k []).length ≠ 0 := by omega
    simpa using this
  rw [decide_eq_true (by grind)]
  rfl
/-- what the law puts between -/
theorem other_sm {N : Net} (hV : ValidN N) {z : Str} {k : Nat} (hk : k < N.length) : Sm (denN N) 2 (mkRat 1 2) ∧ Sm (denN N) 2 (mkRat (-1) 3) ∧ Sm (denN N) 1 (mkRat 1 7) ∧ Sm (denN N) 2 (sumL [rt z N k, mkRat 1 7]) := by
  have dv : ∀ {d : Nat}, d ∣ 42 → d ∣ denN N := fun h => Nat.dvd_trans h (Nat.dvd_mul_right _ _)
  have a7 : Sm (denN N) 1 (mkRat 1 7) := ⟨by decide, by decide, dv (by decide)⟩
  refine ⟨⟨by decide, by decide, dv (by decide)⟩, ⟨by decide, by decide, dv (by decide)⟩, a7, ?_⟩
  have : sumL [rt z N k, mkRat 1 7] = rt z N k + mkRat 1 7 := by show rt z N k + (mkRat 1 7 + 0) = _; grind
  rw [this]
  exact (rt_sm hV hk).add a7
theorem FrAt.of2 {K : PySem.W.Frag} {H : Hp} {a : Addr} {q : Rat} {n d : Int} (h : SqT K H a [.int n, .int d]) (hn : q.num = n) (hd : (q.den : Int) = d) : FrAt K H (.ref a) q := by
  subst hn hd
  exact FrAt.of h
/-- one item is put in the place of another, in a new tuple -/
theorem x_bend {K : PySem.W.Frag} {H : Hp} {ra : Addr} {rs : List V} {k : Nat} {t : V} {Q : VK} (h : SqT K H ra rs) (hk : k < rs.length) (hl : rs.length ≤ 1000) (q : ∀ A H', Ex H H' → SqT K H' A (rs.set k t) → Q (.ref A) H') :
    ∃ i, V.int (k : Nat) = V.int i ∧ rSlU K (.ref ra) none (some i) H fun x H1 => rTup [t] H1 fun y H2 => rAddU K x y H2 fun x H1 => ∃ i, V.int ((k : Nat) + 1) = V.int i ∧ rSlU K (.ref ra) (some i) none H1 fun y H2 => rAddU K x y H2 Q := by
  refine ⟨_, rfl, x_cutT h fun A1 H4 e4 hA1 => ?_⟩
  rw [cut_take (by omega)] at hA1
  refine x_tup (by simp) fun t6 H6 n6 e6 h6 => ?_
  refine x_catT (ex_t e6 hA1) (SqT.of h6) (by simp; omega) fun A2 H7 e7 hA2 => ⟨_, rfl, ?_⟩
  have e47 : Ex H H7 := fun o u h => e7 _ _ (e6 _ _ (e4 _ _ h))
  refine x_cutT (ex_t e47 h) fun A3 H8 e8 hA3 => ?_
  rw [show ((k : Int) + 1) = ((k + 1 : Nat) : Int) by omega, cut_drop (by omega)] at hA3
  refine x_catT (ex_t e8 hA2) hA3 (by simp; omega) fun A4 H9 e9 hA4 => ?_
  have hset : rs.take k ++ [t] ++ rs.drop (k + 1) = rs.set k t := by
    rw [List.set_eq_take_append_cons_drop, if_pos (by omega)]
    simp
  rw [hset] at hA4
  exact q A4 H9 (fun o u h => e9 _ _ (e8 _ _ (e47 _ _ h))) hA4
theorem vD_shaped : ∀ o, SeqAt.shaped (vD o) = true ∧ (vD o).depth ≤ 4 ∧ SmD (vD o)
  | none => ⟨rfl, by decide, .non⟩
  | some k => ⟨rfl, by simp [vD, PyData.depth], .int _⟩
theorem set_sm {D : Nat} {qs : List Rat} {k : Nat} {q : Rat} (h : ∀ q ∈ qs, Sm D 2 q) (hq : Sm D 2 q) : ∀ x ∈ qs.set k q, Sm D 2 x := fun x hx => by
  rcases List.mem_or_eq_of_mem_set hx with h1 | rfl
  · exact h x h1
  · exact hq
/-- what was told is none of two others -/
theorem x_tell2 {K : PySem.W.Frag} {Q : VK} {H : Hp} {p : Addr} {x y z : Str} (h : H p = some (.tup [.str x])) (hx : PyData.strOk x = true) (hy : PyData.strOk y = true) (hz : PyData.strOk z = true) (o : x = y ∨ x = z) (k : ∀ H', Ex H H' → Q (.bl false) H') :
    rTup [.str y] H fun a H1 => rTup [.str z] H1 fun b H2 => rTup [a, b] H2 fun c H3 => rNotInT K (.ref p) c H3 Q := by
  refine x_tup (by simp) fun ta H1 n1 e1 h1 => x_tup (by simp) fun tb H2 n2 e2 h2 => x_tup (by simp) fun tc H3 n3 e3 h3 => ?_
  refine ⟨.tuple [.str x], [.tuple [.str y], .tuple [.str z]], .tup (SqT.of (e3 _ _ (e2 _ _ (e1 _ _ h)))) (.cons (.str x) .nil), .tup (SqT.of h3) (.cons (.tup (SqT.of (e3 _ _ (e2 _ _ h1))) (.cons (.str y) .nil)) (.cons (.tup (SqT.of (e3 _ _ h2)) (.cons (.str z) .nil)) .nil)), sh_tell hx, ?_, by simp [PyData.depth, PyData.depthAll], ?_⟩
  · refine shaped_mk ?_ (by simp [PyData.depth, PyData.depthAll])
    have h1 := (shaped_get (sh_tell hy)).1
    have h2 := (shaped_get (sh_tell hz)).1
    simp only [PyData.canLay0, PyData.canLayAll0] at h1 h2 ⊢
    simp [h1, h2]
  · have : (([.tuple [.str y], .tuple [.str z]] : List PyData).any fun w => PyData.eqv w (.tuple [.str x])) = true := by
      rcases o with rfl | rfl
      · simp [PyData.eqv, PyData.eqvAll]
      · simp [PyData.eqv, PyData.eqvAll]
    rw [this]
    exact k H3 fun o u h => e3 _ _ (e2 _ _ (e1 _ _ h))
theorem zeros_t (n : Nat) : TupD (zerosD n) := .tup fun d hd => by
  rw [(List.mem_replicate.mp hd).2]
  exact .int 0
/-- a value that is no fraction: data that never changes, or a new list -/
def OddAt (K : PySem.W.Frag) (h b : Addr) (H : Hp) (v : V) : Prop := (∃ d, TupD d ∧ Dp K H v d ∧ isFrac d = false) ∨ ∃ l, v = .ref l ∧ l ≠ h ∧ l ≠ b ∧ H l = some (.lst [.int 1, .int 2])
section
variable {K : PySem.W.Frag} {h b : Addr} {H H' : Hp} {v : V}
theorem OddAt.ex (o : OddAt K h b H v) (e : Ex H H') : OddAt K h b H' v := by
  rcases o with ⟨d, t, hd, f⟩ | ⟨l, rfl, n1, n2, hl⟩
  · exact .inl ⟨d, t, Dp.ex e hd, f⟩
  · exact .inr ⟨l, rfl, n1, n2, e _ _ hl⟩
theorem OddAt.nx (o : OddAt K h b H v) (g : Gen H h b) (e : Ex2 h b H H') : OddAt K h b H' v := by
  rcases o with ⟨d, t, hd, f⟩ | ⟨l, rfl, n1, n2, hl⟩
  · exact .inl ⟨d, t, Dp.tx (g.tx e) hd t, f⟩
  · exact .inr ⟨l, rfl, n1, n2, e _ _ hl n1 n2⟩
theorem OddAt.en (o : OddAt K h b H v) (e : ExtN H H') : OddAt K h b H' v := by
  rcases o with ⟨d, t, hd, f⟩ | ⟨l, rfl, n1, n2, hl⟩
  · exact .inl ⟨d, t, Dp.tx (extN_tx e) hd t, f⟩
  · exact .inr ⟨l, rfl, n1, n2, e _ _ hl (by simp)⟩
theorem OddAt.dp (o : OddAt K h b H v) : ∃ d, Dp K H v d ∧ isFrac d = false := by
  rcases o with ⟨d, t, hd, f⟩ | ⟨l, rfl, n1, n2, hl⟩
  · exact ⟨d, hd, f⟩
  · exact ⟨_, .lst (SqL.of hl) (.cons (.int 1) (.cons (.int 2) .nil)), noFrac fun a b e => by cases e⟩
end
/-- what was told is compared: not the other -/
theorem x_tellN {K : PySem.W.Frag} {Q : VK} {H : Hp} {p : Addr} {x : Str} (h : H p = some (.tup [.str x])) (hx : PyData.strOk x = true) (k : ∀ H', Ex H H' → Q (.bl false) H') : rTup [.str x] H fun z H2 => rNeU K (.ref p) z H2 Q :=
  x_tup (by simp) fun t H1 n e h1 => x_neD (d := .tuple [.str x]) (e := .tuple [.str x]) (.tup (SqT.of (e _ _ h)) (.cons (.str x) .nil)) (.tup (SqT.of h1) (.cons (.str x) .nil)) (sh_tell hx) (sh_tell hx) (by rw [eqv_tell, decide_eq_true rfl]; exact k H1 e)
theorem bad_len {n : Nat} {ds : List PyData} (h : ds.length ≠ n) : badR n (.tuple ds) := fun ds' e hl => by
  cases e
  exact absurd hl h
theorem bad_not {n : Nat} {d : PyData} (h : ∀ ds, d ≠ .tuple ds) : badR n d := fun ds e => absurd e (h ds)
theorem bad_odd {n k : Nat} {ds : List PyData} {d : PyData} (hk : k < ds.length) (h : isFrac d = false) : badR n (.tuple (ds.set k d)) := fun ds' e hl => by
  cases e
  exact ⟨d, List.mem_set hk d, h⟩
end K
set_option Elab.async false
set_option linter.all false
set_option maxRecDepth 100000
set_option maxHeartbeats 1000000
set_option exponentiation.threshold 20000
namespace K
open PySem PySem.Spec PyProof.Rows L2 Evl FB
local macro_rules | `(tactic| walk_at "run") => `(tactic| try simp only [tSeq, tAsg, tVar, tC, gName, L2.start, List.map_cons, List.map_nil, List.cons_append, List.nil_append, List.length_cons, List.length_nil, List.replicate, List.getElem?_cons_zero, List.getElem?_cons_succ, Option.some.injEq, exists_eq_left', List.set_cons_zero, List.set_cons_succ, V.ref.injEq, tRet, x_tLst, x_tTup, tCons, tCB, tNil, tOp, x_addI, x_mulI, x_rI, x_rI0, x_ltI, x_leI, x_ltS, x_leS, x_eqI, x_neI, x_eqS, x_eqB, x_neB, x_isiI, x_isiS, x_int, x_max, x_min, cxOf, tIfS, tNext, tTest, V.bl.injEq, decide_eq_true_eq, gSub, tAnd, tOr, tNot, tB, tDrop, tBM, x_tFor, iRng1, iList, iTup, x_tLc, tYes, tCall, tIf, tAndV, tOrV, tNotV, tChain, List.append_nil, tUn, if_true, wipe, true_and, x_never, iU, x_itS, kV, Nat.reduceAdd, Nat.reduceSub, List.replicate_zero, x_rU, x_tMkO, iEnumT, x_tDc, x_tDGet, x_tDGet2, x_sDPut, x_tDSetd, x_tDNewK, x_iItems, x_iZip, x_tSAddK, x_tLockV, x_tTupRg, x_tRg2, tPar, tPar3, tBM0, tSl, tNoPart, tPart, x_tSetAdd, x_tDIn, x_iKeys, x_iZipX, tWhile, x_iZip3, iRevR, tRg1])
open LamX
section
variable {P : Program} {w : World} {K : PySem.W.Frag} {mg : Str → Option Value} {base : Heap}
abbrev s_law : Stmt := top 55
theorem sc_law : FnScope ["_law_script", "_law_h", "_law_turn", "_law_rates_here", "_law_k", "_law_deviation", "_law_time", "_law_other", "_law_due", "_law_error_here", "_law_odd", "_law_bad", "_law_bent", "_law_network_here", "_law_port", "_law_zeros"] ["_law_script"] (defScope s_law) := ⟨rfl, rfl, rfl, by decide +kernel, rfl, by decide +kernel, by decide +kernel⟩
def spLawT (K : PySem.W.Frag) (T0 : List (Addr × Str)) : Sp := fun vs H Q _ => ∃ (a : Addr) (ns : List Int), vs = [.ref a] ∧ SqL K H a (ns.map V.int) ∧ ns.length ≤ 63 ∧ Tabs T0 H ∧ ∀ H', Q (.bl true) H'
theorem ok_law {T0 : List (Addr × Str)} {c Pt CF : Addr} {C : Nat → Addr} {f g1 g2 g3 g4 g5 g6 g7 g8 g9 f1 f2 f3 f4 zr on : Addr} {fd gd1 gd2 gd3 gd4 gd5 gd6 gd7 gd8 gd9 fd1 fd2 fd3 fd4 : FuncData} (F : Fun K "law" "law" s_law f fd) (hc : fd.code = .ref c) (TB : TabB base mg c Pt) (T : Bt mg) (Ck : Ct K mg) (R : Errs K mg CF C)
    (hmT : (Pt, (("law" : Str) ++ (".<locals>." : Str)) ++ ("<lambda>" : Str)) ∈ T0) (huT : ∀ p ∈ T0, p.1 = Pt → p.2 = (("law" : Str) ++ (".<locals>." : Str)) ++ ("<lambda>" : Str))
    (D_l_mix : Df K mg "_law_mix" s_l_mix ["_law_script", "_law_seed"] g1 gd1) (D_l_next : Df K mg "_law_next" s_l_next ["_law_h", "_law_limit"] g2 gd2) (D_l_network : Df K mg "_law_network" s_l_network ["_law_h", "_law_most"] g3 gd3) (D_l_alike : Df K mg "_law_alike" s_l_alike ["_law_found", "_law_due"] g4 gd4)
    (D_l_error : Df K mg "_law_error" s_l_error ["_law_call"] g5 gd5) (D_l_sum : Df K mg "_law_sum" s_l_sum ["_law_fractions"] g6 gd6) (D_l_times : Df K mg "_law_times" s_l_times ["_law_one", "_law_number"] g7 gd7) (D_l_rates : Df K mg "_law_rates" s_l_rates ["_law_network_here", "_law_port"] g8 gd8)
    (D_l_violation : Df K mg "_law_violation" s_l_violation ["_law_network_here", "_law_port", "_law_rates_here"] g9 gd9) (DD : DF K mg zr on) (GG : DG K mg (C 8)) (D_make_rates : Df K mg "make_rates" s_make_rates ["network", "port"] f1 fd1) (D_check_rates : Df K mg "check_rates" s_check_rates ["network", "port", "rates"] f2 fd2)
    (D_count_by_rates : Df K mg "count_by_rates" s_count_by_rates ["network", "port", "rates", "before", "after", "count"] f3 fd3) (D_max_deviation : Df K mg "max_deviation" s_max_deviation ["network", "port"] f4 fd4)
    (G_l_network : FnOk P w K mg base CX0 3 g3 gd3 ["_law_h", "_law_most"] (spNetwork K)) :
    FnOk P w K mg base CX0 10 f fd ["_law_script"] (spLawT K T0) := by
  have G_l_mix : FnOk P w K mg base CX0 1 g1 gd1 _ _ := ok_l_mix D_l_mix T
  have G_l_next : FnOk P w K mg base CX0 1 g2 gd2 _ _ := ok_l_next D_l_next T
  have G_l_alike : FnOk P w K mg base CX0 5 g4 gd4 _ _ := ok_l_alike D_l_alike T 5
  have G_l_sum : FnOk P w K mg base CX0 1 g6 gd6 _ _ := ok_l_sum D_l_sum T
  have G_l_times : FnOk P w K mg base CX0 2 g7 gd7 _ _ := ok_l_times D_l_times T D_l_sum
  have G_l_rates : FnOk P w K mg base CX0 2 g8 gd8 _ _ := ok_l_rates D_l_rates T D_l_sum
  have G_l_violation : FnOk P w K mg base CX0 3 g9 gd9 _ _ := ok_l_violation D_l_violation T D_l_sum D_l_times
  obtain ⟨q1, qd1, D_sum_values⟩ := GG.sum
  have G_make_rates : FnOk P w K mg base CX0 5 f1 fd1 _ _ := ok_make_rates D_make_rates T Ck DD D_sum_values
  have G_check_rates : FnOk P w K mg base (L2.CX P w) 5 f2 fd2 _ _ := ok_check_rates D_check_rates T Ck DD D_sum_values GG.Z
  have G_count_by_rates : FnOk P w K mg base (L2.CX P w) 6 f3 fd3 _ _ := ok_count_by_rates D_count_by_rates T Ck DD GG
  have G_max_deviation : FnOk P w K mg base CX0 6 f4 fd4 _ _ := ok_max_deviation D_max_deviation T Ck DD D_sum_values D_make_rates
  refine okC F hc sc_law (fun vs H Q E h => ?_) (fun A outer s H vs Q E hr h => ?_)
  · obtain ⟨a, ns, rfl, _⟩ := h
    rfl
  · obtain ⟨a, ns, rfl, hS, hl, hT0, q⟩ := h
    have hu := hr.units
    refine ⟨_, (pss_cons (ps_set (i := 1) sc_law.nd rfl (Or.inl rfl) (pe_call (G_l_mix) (hr.mono (by decide)) rfl D_l_mix.g D_l_mix.F.kp D_l_mix.b .nil pass0 (pa_cons (pv 0) (pa_cons pe_int pa_nil))))
      (pss_cons (ps_for PassesOwn.never rfl (pi_range1 (by rfl) T.b_range (pa_cons pe_int pa_nil)) (pg_name (i := 2) sc_law.nd rfl (Or.inl rfl)) (pss_cons (ps_set (i := 13) sc_law.nd rfl (Or.inr rfl) (pe_call (G_l_network) (hr.mono (by decide)) rfl D_l_network.g D_l_network.F.kp D_l_network.b .nil pass0 (pa_cons (pv 1) (pa_cons (pe_ix (ix_U (K := K)) (pe_lst (pa_cons pe_int (pa_cons pe_int (pa_cons pe_int pa_nil)))) (pe_call (G_l_next) (hr.mono (by decide)) rfl D_l_next.g D_l_next.F.kp D_l_next.b .nil pass0 (pa_cons (pv 1) (pa_cons pe_int pa_nil))) (fun _ _ => rfl)) pa_nil))))
      (pss_cons (ps_set (i := 14) sc_law.nd rfl (Or.inr rfl) (pe_ix (ix_U (K := K)) (pe_lst (pa_cons pe_str (pa_cons pe_str (pa_cons pe_str (pa_cons pe_str pa_nil))))) (pe_call (G_l_next) (hr.mono (by decide)) rfl D_l_next.g D_l_next.F.kp D_l_next.b .nil pass0 (pa_cons (pv 1) (pa_cons pe_int pa_nil))) (fun _ _ => rfl)))
      (pss_cons (ps_set (i := 3) sc_law.nd rfl (Or.inr rfl) (pe_call (G_l_rates) (hr.mono (by decide)) rfl D_l_rates.g D_l_rates.F.kp D_l_rates.b .nil pass0 (pa_cons (pv 13) (pa_cons (pv 14) pa_nil))))
      (pss_cons (ps_if (PW.pt (pw_or (pt_not (pt_val (pe_call (G_l_alike) (hr.mono (by decide)) rfl D_l_alike.g D_l_alike.F.kp D_l_alike.b .nil pass0 (pa_cons (pe_call (G_make_rates) (hr.mono (by decide)) rfl D_make_rates.g D_make_rates.F.kp D_make_rates.b .nil pass0 (pa_cons (pv 13) (pa_cons (pv 14) pa_nil))) (pa_cons (pv 3) pa_nil))))) (pw_or1 (pt_cmpR op_notN (pe_call (E := fun _ _ _ => False) (G_check_rates) (hr.mono (by decide)) rfl D_check_rates.g D_check_rates.F.kp D_check_rates.b .nil (passes_call L2.takes0 fun _ _ _ _ h => h) (pa_cons (pv 13) (pa_cons (pv 14) (pa_cons (pv 3) pa_nil)))) pe_non (nomark _))))) (pss_one (ps_ret pe_bl)) pss_nil)
      (pss_cons (ps_set (i := 5) sc_law.nd rfl (Or.inl rfl) (pe_call (G_l_sum) (hr.mono (by decide)) rfl D_l_sum.g D_l_sum.F.kp D_l_sum.b .nil pass0 (pa_cons (pe_lc (own := [("_law_k", 4)]) (g := gName 4) (tt := tYes) rfl sc_law.nd (pi_range1 (by rfl) T.b_range (pa_cons (pe_callB (call_lenU (K := K)) (by rfl) T.b_len (by decide +kernel) (pa_cons (pv 13) pa_nil)) pa_nil)) (blkOk_by (own := [("_law_k", 4)]) (N := ["_law_script", "_law_h", "_law_turn", "_law_rates_here", "_law_k", "_law_deviation", "_law_time", "_law_other", "_law_due", "_law_error_here", "_law_odd", "_law_bad", "_law_bent", "_law_network_here", "_law_port", "_law_zeros"]) (sc := defScope s_law) (by decide +kernel)) (fun _ _ _ _ _ => (pg_name (i := 4) sc_law.nd rfl (Or.inl rfl))) (fun _ _ _ _ _ => pts_nil) (fun _ _ _ _ _ => (pe_call (G_l_times) (hr.mono (by decide)) rfl D_l_times.g D_l_times.F.kp D_l_times.b .nil pass0 (pa_cons (pe_ix (ix_U (K := K)) (pv 3) (pv 4) (fun _ _ => rfl)) (pa_cons (pe_op op_sub (pe_callB (call_lenU (K := K)) (by rfl) T.b_len (by decide +kernel) (pa_cons (pe_ix (ix_U (K := K)) (pv 13) (pv 4) (fun _ _ => rfl)) pa_nil)) pe_int) pa_nil))))) pa_nil)))
      (pss_cons (ps_if (pt_not (pt_val (pe_call (G_l_alike) (hr.mono (by decide)) rfl D_l_alike.g D_l_alike.F.kp D_l_alike.b .nil pass0 (pa_cons (pe_call (G_max_deviation) (hr.mono (by decide)) rfl D_max_deviation.g D_max_deviation.F.kp D_max_deviation.b .nil pass0 (pa_cons (pv 13) (pa_cons (pv 14) pa_nil))) (pa_cons (pv 5) pa_nil))))) (pss_one (ps_ret pe_bl)) pss_nil)
      (pss_cons (ps_for PassesOwn.never rfl (pi_range1 (by rfl) T.b_range (pa_cons pe_int pa_nil)) (pg_name (i := 6) sc_law.nd rfl (Or.inl rfl)) (pss_cons (ps_set (i := 4) sc_law.nd rfl (Or.inl rfl) (pe_call (G_l_next) (hr.mono (by decide)) rfl D_l_next.g D_l_next.F.kp D_l_next.b .nil pass0 (pa_cons (pv 1) (pa_cons (pe_callB (call_lenU (K := K)) (by rfl) T.b_len (by decide +kernel) (pa_cons (pv 13) pa_nil)) pa_nil))))
      (pss_cons (ps_set (i := 7) sc_law.nd rfl (Or.inl rfl) (pe_ix (ix_U (K := K)) (pe_lst (pa_cons (pe_tup (pa_cons pe_int (pa_cons pe_int pa_nil))) (pa_cons (pe_tup (pa_cons pe_int (pa_cons pe_int pa_nil))) (pa_cons (pe_tup (pa_cons pe_int (pa_cons pe_int pa_nil))) (pa_cons (pe_call (G_l_sum) (hr.mono (by decide)) rfl D_l_sum.g D_l_sum.F.kp D_l_sum.b .nil pass0 (pa_cons (pe_lst (pa_cons (pe_ix (ix_U (K := K)) (pv 3) (pv 4) (fun _ _ => rfl)) (pa_cons (pe_tup (pa_cons pe_int (pa_cons pe_int pa_nil))) pa_nil))) pa_nil)) (pa_cons (pe_tup (pa_cons (pe_un un_neg pe_int) (pa_cons pe_int pa_nil))) pa_nil)))))) (pe_call (G_l_next) (hr.mono (by decide)) rfl D_l_next.g D_l_next.F.kp D_l_next.b .nil pass0 (pa_cons (pv 1) (pa_cons pe_int pa_nil))) (fun _ _ => rfl)))
      (pss_cons (ps_set (i := 12) sc_law.nd rfl (Or.inr rfl) (pe_op (op_addU (K := K)) (pe_op (op_addU (K := K)) (pe_slice (sl_U (K := K)) (pv 3) po_none (po_some (pv 4))) (pe_tup (pa_cons (pv 7) pa_nil))) (pe_slice (sl_U (K := K)) (pv 3) (po_some (pe_op (op_addU (K := K)) (pv 4) pe_int)) po_none)))
      (pss_cons (ps_set (i := 8) sc_law.nd rfl (Or.inl rfl) (pe_call (G_l_violation) (hr.mono (by decide)) rfl D_l_violation.g D_l_violation.F.kp D_l_violation.b .nil pass0 (pa_cons (pv 13) (pa_cons (pv 14) (pa_cons (pv 12) pa_nil)))))
      (pss_cons (ps_if (pt_not (pt_val (pe_call (G_l_alike) (hr.mono (by decide)) rfl D_l_alike.g D_l_alike.F.kp D_l_alike.b .nil pass0 (pa_cons (pe_call (E := fun _ _ _ => False) (G_check_rates) (hr.mono (by decide)) rfl D_check_rates.g D_check_rates.F.kp D_check_rates.b .nil (passes_call L2.takes0 fun _ _ _ _ h => h) (pa_cons (pv 13) (pa_cons (pv 14) (pa_cons (pv 12) pa_nil)))) (pa_cons (pv 8) pa_nil))))) (pss_one (ps_ret pe_bl)) pss_nil)
      (pss_cons (ps_set (i := 15) sc_law.nd rfl (Or.inr rfl) (pe_op (op_mulV (K := K)) (pe_tup (pa_cons pe_int pa_nil)) (pe_callB (call_lenU (K := K)) (by rfl) T.b_len (by decide +kernel) (pa_cons (pv 13) pa_nil))))
      (pss_cons (ps_set (i := 9) sc_law.nd rfl (Or.inl rfl) (pe_err (t := fun E => tCall (spCntR K (C 8)) [] E (tCons (tVar 13) (tCons (tVar 14) (tCons (tVar 12) (tCons (tVar 15) (tCons (tVar 15) (tCons (tC (.int 1)) tNil))))))) D_l_error R T rfl TB rfl hmT huT hr (lamS_by (by rfl)) rfl (fun _ _ _ _ _ => rfl) (by intro A outer s H E f c hr2; exact (pe_call (G_count_by_rates) (hr2.mono (by decide)) rfl D_count_by_rates.g D_count_by_rates.F.kp D_count_by_rates.b .nil (passes_call (takes_of rfl rfl rfl rfl) fun _ _ _ _ h => h) (pa_cons (pv 13) (pa_cons (pv 14) (pa_cons (pv 12) (pa_cons (pv 15) (pa_cons (pv 15) (pa_cons pe_int pa_nil))))))))))
      (pss_one (ps_if (PW.pt (pw_or (pt_cmpR (op_neU (K := K) hu) (pe_cmpR (op_eqU (K := K) hu) (pv 9) (pe_tup (pa_cons pe_str pa_nil)) (nomark _)) (pe_cmpR op_notN (pv 8) pe_non (nomark _)) (nomark _)) (pw_or1 (pt_cmpR (op_notInT (K := K) hu) (pv 9) (pe_tup (pa_cons (pe_tup (pa_cons pe_str pa_nil)) (pa_cons (pe_tup (pa_cons pe_str pa_nil)) pa_nil))) (by rfl))))) (pss_one (ps_ret pe_bl)) pss_nil))))))))))
      (pss_cons (ps_set (i := 10) sc_law.nd rfl (Or.inl rfl) (pe_ix (ix_U (K := K)) (pe_lst (pa_cons (pe_tup (pa_cons pe_int (pa_cons pe_int pa_nil))) (pa_cons (pe_tup (pa_cons pe_int (pa_cons pe_int pa_nil))) (pa_cons (pe_tup (pa_cons pe_int (pa_cons (pe_un un_neg pe_int) pa_nil))) (pa_cons (pe_tup (pa_cons pe_int (pa_cons pe_int pa_nil))) (pa_cons pe_int (pa_cons pe_non (pa_cons (pe_tup (pa_cons pe_int pa_nil)) (pa_cons (pe_lst (pa_cons pe_int (pa_cons pe_int pa_nil))) (pa_cons (pe_tup (pa_cons pe_int (pa_cons pe_int pa_nil))) (pa_cons pe_str pa_nil))))))))))) (pe_call (G_l_next) (hr.mono (by decide)) rfl D_l_next.g D_l_next.F.kp D_l_next.b .nil pass0 (pa_cons (pv 1) (pa_cons pe_int pa_nil))) (fun _ _ => rfl)))
      (pss_cons (ps_set (i := 4) sc_law.nd rfl (Or.inl rfl) (pe_call (G_l_next) (hr.mono (by decide)) rfl D_l_next.g D_l_next.F.kp D_l_next.b .nil pass0 (pa_cons (pv 1) (pa_cons (pe_callB (call_lenU (K := K)) (by rfl) T.b_len (by decide +kernel) (pa_cons (pv 13) pa_nil)) pa_nil))))
      (pss_cons (ps_set (i := 11) sc_law.nd rfl (Or.inr rfl) (pe_ix (ix_U (K := K)) (pe_lst (pa_cons (pe_op (op_addU (K := K)) (pe_op (op_addU (K := K)) (pe_slice (sl_U (K := K)) (pv 3) po_none (po_some (pv 4))) (pe_tup (pa_cons (pv 10) pa_nil))) (pe_slice (sl_U (K := K)) (pv 3) (po_some (pe_op (op_addU (K := K)) (pv 4) pe_int)) po_none)) (pa_cons (pe_op (op_addU (K := K)) (pv 3) (pe_tup (pa_cons (pe_tup (pa_cons pe_int (pa_cons pe_int pa_nil))) pa_nil))) (pa_cons (pe_slice (sl_U (K := K)) (pv 3) (po_some pe_int) po_none) (pa_cons (pe_callTy (call_listU (K := K)) (by rfl) T.b_list (by decide +kernel) (pa_cons (pv 3) pa_nil)) (pa_cons pe_non pa_nil)))))) (pe_callB (call_maxU rfl) (by rfl) T.b_max (by decide +kernel) (pa_cons pe_int (pa_cons (pe_op op_sub (pe_call (G_l_next) (hr.mono (by decide)) rfl D_l_next.g D_l_next.F.kp D_l_next.b .nil pass0 (pa_cons (pv 1) (pa_cons pe_int pa_nil))) pe_int) pa_nil))) (fun _ _ => rfl)))
      (pss_one (ps_if (pt_cmpR (op_neU (K := K) hu) (pe_err (t := fun E => tCall (spChkR K (C 8)) [] E (tCons (tVar 13) (tCons (tVar 14) (tCons (tVar 11) tNil)))) D_l_error R T rfl TB rfl hmT huT hr (lamS_by (by rfl)) rfl (fun _ _ _ _ _ => rfl) (by intro A outer s H E f c hr2; exact (pe_call (G_check_rates) (hr2.mono (by decide)) rfl D_check_rates.g D_check_rates.F.kp D_check_rates.b .nil (passes_call (takes_of rfl rfl rfl rfl) fun _ _ _ _ h => h) (pa_cons (pv 13) (pa_cons (pv 14) (pa_cons (pv 11) pa_nil)))))) (pe_tup (pa_cons pe_str pa_nil)) (nomark _)) (pss_one (ps_ret pe_bl)) pss_nil)))))))))))))
      (pss_one (ps_ret pe_bl)))), ?_⟩
    walk_at "run"
    refine ⟨a, ns, 10, rfl, hS, hl, fun h b H1 e1 _ _ g1 => ?_⟩
    refine ⟨3, rfl, by decide, by decide, loop_it walk_range (fun i σ H' => ∃ u2 u3 u4 u5 u6 u7 u8 u9 u10 u11 u12 u13 u14 u15, σ = [some (.ref a), some (.ref h), u2, u3, u4, u5, u6, u7, u8, u9, u10, u11, u12, u13, u14, u15] ∧ Gen H' h b ∧ Tabs T0 H') ⟨_, _, _, _, _, _, _, _, _, _, _, _, _, _, rfl, g1, hT0.ext e1⟩ (fun _ _ _ _ _ => trivial) ?_ ?_⟩
    · rintro i0 x σ H2 H2' hi ⟨u2, u3, u4, u5, u6, u7, u8, u9, u10, u11, u12, u13, u14, u15, rfl, g2, t2⟩ ⟨eH, rfl⟩
      subst eH
      walk_at "run"
      refine x_lst (by simp) fun M H3 nM e3 hM => ?_
      refine x_next (g2.ex e3) (by decide) (by decide) fun r H4 r0 r1 g4 e4 => ?_
      have hM4 := e4 _ _ hM (g2.na nM) (g2.nb nM)
      refine x_menu hM4 r0 (by simpa using r1) fun mv _ hmv => ?_
      obtain ⟨most, rfl, hm1, hm40⟩ : ∃ c : Int, mv = .int c ∧ 1 ≤ c ∧ c ≤ 40 := by
        simp only [List.mem_cons, List.not_mem_nil, or_false] at hmv
        rcases hmv with rfl | rfl | rfl
        · exact ⟨_, rfl, by decide, by decide⟩
        · exact ⟨_, rfl, by decide, by decide⟩
        · exact ⟨_, rfl, by decide, by decide⟩
      have t4 : Tabs T0 H4 := by
        obtain ⟨m, c, ns, x, y, _⟩ := g2.ex e3
        exact tabs_ex2 x y (t2.ext e3) e4
      refine ⟨h, b, most, rfl, g4, hm1, by omega, fun v N H5 hD hN g5 e5 => ?_⟩
      have t5 : Tabs T0 H5 := by
        obtain ⟨m, c, ns, x, y, _⟩ := g4
        exact tabs_ex2 x y t4 e5
      have hV : ValidN N := hD.valid hm40
      have hd0 := denN_pos hV
      have hd1 := denN_le hV
      walk_at "run"
      refine x_lst (by simp) fun M2 H6 nM2 e6 hM2 => ?_
      refine x_next (g5.ex e6) (by decide) (by decide) fun r2 H7 r20 r21 g7 e7 => ?_
      have hM7 := e7 _ _ hM2 (g5.na nM2) (g5.nb nM2)
      refine x_menu hM7 r20 (by simpa using r21) fun zv _ hzv => ?_
      obtain ⟨z, rfl⟩ : ∃ z, zv = .str z := by
        simp only [List.mem_cons, List.not_mem_nil, or_false] at hzv
        rcases hzv with rfl | rfl | rfl | rfl
        · exact ⟨_, rfl⟩
        · exact ⟨_, rfl⟩
        · exact ⟨_, rfl⟩
        · exact ⟨_, rfl⟩
      walk_at "run"
      have x57 : Ex2 h b H5 H7 := fun x o hx h1 h2 => e7 _ _ (e6 _ _ hx) h1 h2
      have t7 : Tabs T0 H7 := by
        obtain ⟨m, c, ns, x, y, _⟩ := g5.ex e6
        exact tabs_ex2 x y (t5.ext e6) e7
      have hN7 : NetAt K H7 v N := Dp.tx (g5.tx x57) hN (netD_t N)
      refine ⟨v, z, N, rfl, hN7, hV, fun H8 rv e8 hR8 => ?_⟩
      have W8 : LW K T0 h b v rv N z H8 := ⟨g7.ex e8, t7.ext e8, Dp.ex e8 hN7, hR8⟩
      have rsh := rs_shaped (rtsL z N)
      have h40 := hV.le
      have h1n := hV.pos
      have rsm : SmD (.tuple ((rtsL z N).map frD)) := rs_sm (by rw [rtsL_len]; omega)
      refine ⟨v, z, N, rfl, W8.net, hV, fun H9 m9 e9 hm9 => ?_⟩
      have W9 := W8.ex e9
      refine ⟨m9, rv, _, rfl, hm9, W9.rts, rsh.1, rsh.2, rsm, fun H10 e10 => ?_⟩
      have W10 := W9.ex e10
      walk_at "run"
      rw [if_neg (by decide)]
      refine ⟨v, rv, z, N, _, rfl, W10.net, hV, W10.rts, .inl ⟨rtsL z N, denN N, rfl, rtsL_len, hd0, hd1, fun q hq => (rtsL_sm hV q hq).up, fun H11 e11 => ?_⟩⟩
      have W11 := W10.ex e11
      rw [viol_rts hV]
      unfold vV
      walk_at "run"
      rw [if_neg (by simp)]
      obtain ⟨na, ns', rfl, hNs, hns⟩ := W11.net.at
      have hnl : ns'.length = N.length := by rw [hns.len, List.length_map]
      obtain ⟨ra, rs, rfl, hRs, hrs⟩ := RsAt.at W11.rts
      have hrl : rs.length = N.length := by rw [hrs.len, List.length_map, rtsL_len]
      refine x_lenT hNs ?_
      rw [hnl]
      refine ⟨(N.length : Nat), rfl, by omega, by omega, ?_⟩
      rw [Int.toNat_natCast]
      refine lcl_it walk_range (fun D i H' => Ex H11 H' ∧ LsAt K H' D (((devL z N).take i).map frD)) (fun D H' hD e h => ⟨e, ⟨⟨[], h, .nil⟩⟩⟩) (fun _ _ _ _ _ => trivial) ?_ ?_
      · rintro D j x H12 H12' hD hj ⟨e12, hL⟩ ⟨eH, rfl⟩
        subst eH
        have ej : (0 : Int) + (j : Nat) = (j : Nat) := by omega
        simp only [ej]
        obtain ⟨s, hs⟩ : ∃ s, N[j]? = some s := ⟨N[j], by simp [hj]⟩
        have hg : N.getD j [] = s := by simp [List.getD_eq_getElem?_getD, hs]
        obtain ⟨sv, hsv, hsd⟩ := hns.get (i := j) (d := stD s) (by rw [List.getElem?_map, hs]; rfl)
        obtain ⟨sb, rfl, hsb⟩ := StAt.at hsd
        have h8 := hV.len8 j
        have h1 := hV.fwr.pos j hj
        rw [hg] at h8 h1
        obtain ⟨y, hyr, hyq⟩ := hrs.get (i := j) (d := frD (rt z N j)) (by rw [List.getElem?_map, rtsL_at hj]; rfl)
        walk_at "run"
        refine x_ixT (ex_t e12 hRs) (atI_nat hyr) (x_ixT (ex_t e12 hNs) (atI_nat hsv) (x_lenT (ex_t e12 hsb) ?_))
        rw [List.length_map]
        walk_at "run"
        have el : ((s.length : Nat) : Int) - 1 = ((s.length - 1 : Nat) : Int) := by omega
        rw [el]
        refine ⟨y, rt z N j, s.length - 1, denN N, rfl, Dp.ex e12 hyq, (rt_sm hV hj).up, hd0, hd1, by omega, fun H13 r13 e13 h13 => ?_⟩
        obtain ⟨ls, hls, hlsd⟩ := (hL.ex2 e13).ex
        have hll : ls.length ≤ 40 := by rw [hlsd.len, List.length_map, List.length_take]; omega
        refine x_push hls (by omega) fun H14 e14 h14 => ⟨fun o u h => e14 _ _ (ne_of_none h hD) (e13 _ _ (e12 _ _ h)), ⟨⟨_, h14, ?_⟩⟩⟩
        have t14 : TX H13 H14 := TX.but hls e14
        rw [devL_take hj, List.map_append, hg, el]
        exact DpAll.append (DpAll.tx t14 hlsd (frs_t _)) (.cons (Dp.tx t14 h13 (frD_t _)) .nil)
      · rintro D H12 hD ⟨e12, hL⟩
        rw [List.take_of_length_le (by rw [devL_len]; exact Nat.le_refl _)] at hL
        obtain ⟨ls, hls, hlsd⟩ := hL.ex
        walk_at "run"
        refine x_sumFr (SqL.of hls) hlsd (devL_sm hV) hd0 hd1 (by decide) (by rw [devL_len]; omega) fun H13 r13 e13 h13 => ?_
        have W13 := (W11.ex e12).ex e13
        refine ⟨.ref na, z, N, rfl, W13.net, hV, fun H14 r14 e14 h14 => ?_⟩
        have W14 := W13.ex e14
        refine ⟨r14, r13, _, rfl, h14, Dp.ex e14 h13, (by rfl), (by unfold frD; simp [PyData.depth, PyData.depthAll]), fr_sm _, fun H15 e15 => ?_⟩
        have W15 := W14.ex e15
        walk_at "run"
        rw [if_neg (by decide)]
        refine ⟨3, rfl, by decide, by decide, loop_it walk_range (fun i σ H' => ∃ u4 u6 u7 u8 u9 u12 u15, σ = [some (.ref a), some (.ref h), some (.int (0 + (i0 : Nat))), some (.ref ra), u4, some r13, u6, u7, u8, u9, u10, u11, u12, some (.ref na), some (.str z), u15] ∧ LW K T0 h b (.ref na) (.ref ra) N z H') ⟨_, _, _, _, _, _, _, rfl, W15⟩ (fun _ _ _ _ _ => trivial) ?_ ?_⟩
        · rintro tt x σ H16 H16' htt ⟨u4, u6, u7, u8, u9, u12, u15, rfl, W16⟩ ⟨eH, rfl⟩
          subst eH
          obtain ⟨na', ns'', en, hNs, hns⟩ := W16.net.at
          cases en
          have hnl : ns''.length = N.length := by rw [hns.len, List.length_map]
          obtain ⟨ra', rs', er, hRs, hrs⟩ := RsAt.at W16.rts
          cases er
          have hrl : rs'.length = N.length := by rw [hrs.len, List.length_map, rtsL_len]
          walk_at "run"
          refine x_lenT hNs ?_
          rw [hnl]
          refine x_next W16.gen (by omega) (by omega) fun kk H17 k0 k1 g17 e17 => ?_
          have W17 := W16.nx g17 e17
          have tx17 := W16.gen.tx e17
          have hRs17 := tx17.t hRs
          have hrs17 := DpAll.tx tx17 hrs (frs_t _)
          have hNs17 := tx17.t hNs
          clear hNs hRs
          obtain ⟨k, rfl⟩ : ∃ k : Nat, kk = (k : Int) := ⟨kk.toNat, by omega⟩
          have hkN : k < N.length := by omega
          obtain ⟨y, hyr, hyq⟩ := hrs17.get (i := k) (d := frD (rt z N k)) (by rw [List.getElem?_map, rtsL_at hkN]; rfl)
          obtain ⟨o2, o3, o7, oS⟩ := other_sm hV (z := z) hkN
          walk_at "run"
          refine x_tup (by simp) fun ta Ha nta ea hta => x_tup (by simp) fun tb Hb ntb eb htb => x_tup (by simp) fun tc Hc ntc ec htc => ?_
          have eac : Ex H17 Hc := ea.trans (eb.trans ec)
          refine x_ixT (ex_t eac hRs17) (atI_nat hyr) (x_tup (by simp) fun td Hd ntd ed htd => x_lst (by simp) fun le He nle ee hle => ?_)
          have eae : Ex H17 He := eac.trans (ed.trans ee)
          refine x_sumFr (qs := [rt z N k, mkRat 1 7]) (SqL.of hle) (.cons (Dp.ex eae hyq) (.cons (FrAt.of (q := mkRat 1 7) (SqT.of (ee _ _ htd))) .nil)) (D := denN N) (c := 2) (fun q hq => ?_) hd0 hd1 (by decide) (by simp) fun Hf rf ef hf => ?_
          · simp only [List.mem_cons, List.not_mem_nil, or_false] at hq
            rcases hq with rfl | rfl
            · exact (rt_sm hV hkN).up
            · exact o7.up
          walk_at "run"
          refine x_tup (by simp) fun tg Hg ntg eg htg => x_lst (by simp) fun ml Hm nml em hml => ?_
          have e1m : Ex H17 Hm := eae.trans (ef.trans (eg.trans em))
          have W18 := W17.ex e1m
          refine x_next W18.gen (by decide) (by decide) fun pick H19 p0 p1 g19 e19 => ?_
          have hml19 := e19 _ _ hml (g17.ex (eae.trans (ef.trans eg)) |>.na nml) (g17.ex (eae.trans (ef.trans eg)) |>.nb nml)
          have W19 := W18.nx g19 e19
          have tx19 := W18.gen.tx e19
          refine x_menu hml19 p0 (by simpa using p1) fun ov _ hov => ?_
          obtain ⟨qo, hqo, hqs⟩ : ∃ qo, FrAt K Hm ov qo ∧ Sm (denN N) 2 qo := by
            simp only [List.mem_cons, List.not_mem_nil, or_false] at hov
            rcases hov with rfl | rfl | rfl | rfl | rfl
            · exact ⟨0, FrAt.of (SqT.of (em _ _ (eg _ _ (ef _ _ (ee _ _ (ed _ _ (ec _ _ (eb _ _ hta)))))))), Sm.zero⟩
            · exact ⟨1, FrAt.of (SqT.of (em _ _ (eg _ _ (ef _ _ (ee _ _ (ed _ _ (ec _ _ htb))))))), Sm.one⟩
            · exact ⟨mkRat 1 2, FrAt.of (SqT.of (em _ _ (eg _ _ (ef _ _ (ee _ _ (ed _ _ htc)))))), o2⟩
            · exact ⟨_, Dp.ex (eg.trans em) hf, oS⟩
            · exact ⟨mkRat (-1) 3, FrAt.of2 (SqT.of (em _ _ htg)) (by decide) (by decide), o3⟩
          have hqo19 : FrAt K H19 ov qo := Dp.tx tx19 hqo (frD_t _)
          have hRs19 := tx19.t (ex_t e1m hRs17)
          have hNs19 := tx19.t (ex_t e1m hNs17)
          have hrs19 := DpAll.tx tx19 (DpAll.ex e1m hrs17) (frs_t _)
          walk_at "run"
          refine x_bend hRs19 (by omega) (by omega) fun A H20 e20 hA => ?_
          have W20 := W19.ex e20
          obtain ⟨qs, hqsD⟩ : ∃ qs, qs = (rtsL z N).set k qo := ⟨_, rfl⟩
          have hbent : RsAt K H20 (.ref A) qs := by
            rw [hqsD]
            refine .tup hA ?_
            rw [List.map_set]
            exact DpAll.set (DpAll.ex e20 hrs19) (Dp.ex e20 hqo19)
          have hql : qs.length = N.length := by rw [hqsD, List.length_set, rtsL_len]
          have hqsm : ∀ q ∈ qs, Sm (denN N) 2 q := by
            rw [hqsD]
            exact set_sm (fun q hq => (rtsL_sm hV q hq).up) hqs
          clear hqsD
          walk_at "run"
          refine ⟨.ref na, .ref A, z, N, qs, denN N, rfl, W20.net, hV, hbent, hql, hd0, hd1, hqsm, fun H21 e21 => ?_⟩
          have W21 := W20.ex e21
          refine ⟨.ref na, .ref A, z, N, _, rfl, W21.net, hV, Dp.ex e21 hbent, .inl ⟨qs, denN N, rfl, hql, hd0, hd1, hqsm, fun H22 e22 => ?_⟩⟩
          have W22 := W21.ex e22
          have hvd := vD_shaped (viol z N qs)
          refine ⟨_, _, _, rfl, vD_dp _, vD_dp _, hvd.1, hvd.2.1, hvd.2.2, fun H23 e23 => ?_⟩
          have W23 := W22.ex e23
          walk_at "run"
          rw [if_neg (by decide)]
          refine x_tup (by simp) fun tz H24 ntz e24 htz => ?_
          have e17_24 : Ex H19 H24 := fun o u h => e24 _ _ (e23 _ _ (e22 _ _ (e21 _ _ (e20 _ _ h))))
          refine x_lenT (ex_t e17_24 hNs19) ?_
          rw [hnl]
          refine x_mulT htz (by omega) (by omega) fun zz H25 e25 hzz => ?_
          have W25 := (W23.ex e24).ex e25
          have e20_25 : Ex H20 H25 := fun o u h => e25 _ _ (e24 _ _ (e23 _ _ (e22 _ _ (e21 _ _ h))))
          have hb25 : RsAt K H25 (.ref A) qs := Dp.ex e20_25 hbent
          have hz25 : Dp K H25 (.ref zz) (zerosD N.length) := by
            refine .tup (SqT.of hzz) ?_
            have : ∀ n, DpAll K H25 (List.replicate n (.int 0)) (List.replicate n (.int 0)) := fun n => by
              induction n with
              | zero => exact .nil
              | succ n ih =>
                rw [List.replicate_succ, List.replicate_succ]
                exact .cons (.int 0) ih
            exact this _
          refine ⟨W25.tabs, fun H26 e26 t26 => ?_⟩
          have W26 := W25.en e26 t26
          have tx26 := extN_tx e26
          unfold TErr
          walk_at "run"
          refine ⟨.ref na, .ref A, .ref zz, .ref zz, z, N, qs, denN N, rfl, W26.net, hV, Dp.tx tx26 hb25 (rs_t _), hql, hd0, hd1, hqsm, Dp.tx tx26 hz25 (zeros_t _), Dp.tx tx26 hz25 (zeros_t _), fun j hj H27 e27 => ?_, fun hj H27 r27 e27 => ?_⟩
          · refine ⟨8, .non, .non, by decide, ⟨rfl, by rw [if_neg (by decide)]⟩, fun p9 H9 e9 h9 => ?_⟩
            have h9' : H9 p9 = some (.tup [.str "rates"]) := h9
            have W29 := (W26.ex e27).ex e9
            rw [hj]
            unfold vV
            walk_at "run"
            refine x_tell h9' (by decide +kernel) (by decide +kernel) fun H28 e28 => x_neB.mpr ⟨_, rfl, ?_⟩
            rw [if_neg (by simp)]
            refine x_tell2 (e28 _ _ h9') (by decide +kernel) (by decide +kernel) (by decide +kernel) (.inl rfl) fun H29 e29 => ⟨false, rfl, ?_⟩
            rw [if_neg Bool.false_ne_true]
            exact ⟨_, _, _, _, _, _, _, rfl, (W29.ex e28).ex e29⟩
          · have W27 := W26.ex e27
            rw [hj]
            unfold vV
            walk_at "run"
            refine x_tup (by simp) fun p9 H9 n9 e9 h9 => ?_
            refine x_tell h9 (by decide +kernel) (by decide +kernel) fun H28 e28 => x_neB.mpr ⟨_, rfl, ?_⟩
            rw [if_neg (by simp; decide)]
            refine x_tell2 (e28 _ _ h9) (by decide +kernel) (by decide +kernel) (by decide +kernel) (.inr rfl) fun H29 e29 => ⟨false, rfl, ?_⟩
            rw [if_neg Bool.false_ne_true]
            exact ⟨_, _, _, _, _, _, _, rfl, ((W27.ex e9).ex e28).ex e29⟩
        · rintro σ H16 ⟨u4, u6, u7, u8, u9, u12, u15, rfl, W16⟩
          obtain ⟨na', ns'', en, hNs, hns⟩ := W16.net.at
          cases en
          have hnl : ns''.length = N.length := by rw [hns.len, List.length_map]
          obtain ⟨ra', rs', er, hRs, hrs⟩ := RsAt.at W16.rts
          cases er
          have hrl : rs'.length = N.length := by rw [hrs.len, List.length_map, rtsL_len]
          walk_at "run"
          refine x_tup (by simp) fun p1 Ha n1 ea h1 => x_tup (by simp) fun p2 Hb n2 eb h2 => x_tup (by simp) fun p3 Hc n3 ec h3 => x_tup (by simp) fun p4 Hd n4 ed h4 => x_tup (by simp) fun p5 He n5 ee h5 => ?_
          refine x_lst (by simp) fun p6 Hf n6 ef h6 => x_tup (by simp) fun p7 Hg n7 eg h7 => x_lst (by simp) fun ml Hm nml em hml => ?_
          have e6m : Ex Hf Hm := eg.trans em
          have e5m : Ex He Hm := ef.trans e6m
          have e4m : Ex Hd Hm := ee.trans e5m
          have e3m : Ex Hc Hm := ed.trans e4m
          have e2m : Ex Hb Hm := ec.trans e3m
          have e1m : Ex Ha Hm := eb.trans e2m
          have e0m : Ex H16 Hm := ea.trans e1m
          have E5 : Ex H16 He := ea.trans (eb.trans (ec.trans (ed.trans ee)))
          have Wm := W16.ex e0m
          have E7 : Ex H16 Hg := E5.trans (ef.trans eg)
          refine x_next Wm.gen (by decide) (by decide) fun pick H17 q0 q1 g17 e17 => ?_
          have W17 := Wm.nx g17 e17
          have hml17 := e17 _ _ hml ((W16.gen.ex E7).na nml) ((W16.gen.ex E7).nb nml)
          refine x_menu hml17 q0 (by simpa using q1) fun ov _ hov => ?_
          have od : OddAt K h b Hm ov := by
            simp only [List.mem_cons, List.not_mem_nil, or_false] at hov
            have t2 : ∀ {x : Addr} {i j : Int}, Hm x = some (.tup [.int i, .int j]) → isFrac (.tuple [.int i, .int j]) = false → OddAt K h b Hm (.ref x) := fun hx hf => .inl ⟨_, .tup (fun d hd => by
              simp only [List.mem_cons, List.not_mem_nil, or_false] at hd
              rcases hd with rfl | rfl <;> exact .int _), .tup (SqT.of hx) (.cons (.int _) (.cons (.int _) .nil)), hf⟩
            rcases hov with rfl | rfl | rfl | rfl | rfl | rfl | rfl | rfl | rfl | rfl
            · exact t2 (e1m _ _ h1) (by decide)
            · exact t2 (e2m _ _ h2) (by decide)
            · exact t2 (e3m _ _ h3) (by decide)
            · exact t2 (e4m _ _ h4) (by decide)
            · exact .inl ⟨_, .int 1, .int 1, noFrac fun a b e => by cases e⟩
            · exact .inl ⟨_, .non, .non, noFrac fun a b e => by cases e⟩
            · exact .inl ⟨_, .tup (fun d hd => by rw [List.mem_singleton.mp hd]; exact .int _), .tup (SqT.of (e5m _ _ h5)) (.cons (.int _) .nil), noFrac fun a b e => by cases e⟩
            · exact .inr ⟨p6, rfl, (W16.gen.ex E5).na n6, (W16.gen.ex E5).nb n6, e6m _ _ h6⟩
            · exact t2 (em _ _ h7) (by decide)
            · exact .inl ⟨_, .str _, .str _, noFrac fun a b e => by cases e⟩
          have od17 := od.nx Wm.gen e17
          clear od
          have tx17 := (TX.of e0m).trans (Wm.gen.tx e17)
          walk_at "run"
          refine x_lenT (tx17.t hNs) ?_
          rw [hnl]
          refine x_next g17 (by omega) (by omega) fun kk H18 k0 k1 g18 e18 => ?_
          have W18 := W17.nx g18 e18
          have od18 := od17.nx W17.gen e18
          have tx18 := tx17.trans (W17.gen.tx e18)
          have hRs18 := tx18.t hRs
          have hrs18 := DpAll.tx tx18 hrs (frs_t _)
          clear hNs hRs
          obtain ⟨k, rfl⟩ : ∃ k : Nat, kk = (k : Int) := ⟨kk.toNat, by omega⟩
          have hkN : k < N.length := by omega
          walk_at "run"
          refine x_bend hRs18 (by omega) (by omega) fun A H19 e19 hA => ?_
          refine x_tup (by simp) fun s1 H20 m1 e20 hs1 => x_tup (by simp) fun s2 H21 m2 e21 hs2 => ?_
          have e18_21 : Ex H18 H21 := e19.trans (e20.trans e21)
          refine x_catT (ex_t e18_21 hRs18) (SqT.of hs2) (by simp; omega) fun B H22 e22 hB => ?_
          have e18_22 : Ex H18 H22 := e18_21.trans e22
          refine ⟨1, rfl, x_cutT (ex_t e18_22 hRs18) fun Cc H23 e23 hCc => ?_⟩
          rw [show (1 : Int) = ((1 : Nat) : Int) from rfl, cut_drop (by omega)] at hCc
          have e18_23 : Ex H18 H23 := e18_22.trans e23
          refine x_listT (ex_t e18_23 hRs18) fun Dl H24 nD e24 hDl => ?_
          have e18_24 : Ex H18 H24 := e18_23.trans e24
          have g24 := W18.gen.ex e18_24
          refine x_lst (by simp) fun L H25 nL e25 hL => ?_
          have e18_25 : Ex H18 H25 := e18_24.trans e25
          have W25 := W18.ex e18_25
          refine x_next W25.gen (by decide) (by decide) fun pk H26 c0 c1 g26 e26 => ?_
          have W26 := W25.nx g26 e26
          have od26 := (od18.ex e18_25).nx W25.gen e26
          have hL26 := e26 _ _ hL (g24.na nL) (g24.nb nL)
          have gD := W18.gen.ex e18_23
          have hDl26 := e26 _ _ (e25 _ _ hDl) (gD.na nD) (gD.nb nD)
          have nDh := gD.na nD
          have nDb := gD.nb nD
          have tx26 := (TX.of e18_25).trans (W25.gen.tx e26)
          have tx22 : TX H22 H26 := (TX.of (e23.trans (e24.trans e25))).trans (W25.gen.tx e26)
          have tx23 : TX H23 H26 := (TX.of (e24.trans e25)).trans (W25.gen.tx e26)
          have e22' : Ex H21 H22 := e22
          have tx19 : TX H19 H26 := (TX.of (e20.trans (e21.trans (e22'.trans (e23.trans (e24.trans e25)))))).trans (W25.gen.tx e26)
          have hA26 := tx19.t hA
          have hB26 := tx22.t hB
          have hC26 := tx23.t hCc
          have hrs26 := DpAll.tx tx26 hrs18 (frs_t _)
          have hs1' : FrAt K H22 (.ref s1) 0 := FrAt.of (SqT.of (e22 _ _ (e21 _ _ hs1)))
          have hs26 : FrAt K H26 (.ref s1) 0 := Dp.tx tx22 hs1' (frD_t _)
          clear hA hB hCc hs1'
          walk_at "run"
          have hpk : 0 ≤ (if pk - 4 > 0 then pk - 4 else 0) ∧ (if pk - 4 > 0 then pk - 4 else 0) < 5 := by split <;> omega
          refine x_menu hL26 hpk.1 (by simpa using hpk.2) fun bv _ hbv => ?_
          refine ⟨W26.tabs, fun H27 e27 t27 => ?_⟩
          have W27 := W26.en e27 t27
          have od27 := od26.en e27
          have tx27 := extN_tx e27
          have hbad : ∃ d, Dp K H27 bv d ∧ badR N.length d := by
            have hrs27 := DpAll.tx tx27 hrs26 (frs_t _)
            have hl7 : ((rtsL z N).map frD).length = N.length := by rw [List.length_map, rtsL_len]
            simp only [List.mem_cons, List.not_mem_nil, or_false] at hbv
            rcases hbv with rfl | rfl | rfl | rfl | rfl
            · obtain ⟨d, hd, hf⟩ := od27.dp
              exact ⟨_, .tup (tx27.t hA26) (DpAll.set hrs27 hd), bad_odd (by rw [hl7]; exact hkN) hf⟩
            · exact ⟨_, .tup (tx27.t hB26) (DpAll.append hrs27 (.cons (Dp.tx tx27 hs26 (frD_t _)) .nil)), bad_len (by rw [List.length_append, hl7]; simp)⟩
            · exact ⟨_, .tup (tx27.t hC26) (DpAll.drop 1 hrs27), bad_len (by rw [List.length_drop, hl7]; omega)⟩
            · exact ⟨_, .lst (SqL.of (e27 _ _ hDl26 (by simp))) hrs27, bad_not fun ds e => by cases e⟩
            · exact ⟨_, .non, bad_not fun ds e => by cases e⟩
          obtain ⟨d, hd, hbd⟩ := hbad
          unfold TErr
          walk_at "run"
          refine ⟨.ref na, bv, z, N, d, rfl, W27.net, hV, hd, .inr ⟨hbd, fun H28 e28 => ?_⟩⟩
          refine ⟨8, .non, .non, by decide, ⟨rfl, by rw [if_neg (by decide)]⟩, fun p9 H9 e9 h9 => ?_⟩
          have h9' : H9 p9 = some (.tup [.str "rates"]) := h9
          have W29 := (W27.ex e28).ex e9
          refine x_tellN h9' (by decide +kernel) fun H30 e30 => ⟨false, rfl, ?_⟩
          rw [if_neg Bool.false_ne_true]
          have W30 := W29.ex e30
          exact ⟨_, _, _, _, _, _, _, _, _, _, _, _, _, _, rfl, W30.gen, W30.tabs⟩
    · rintro σ H2 ⟨u2, u3, u4, u5, u6, u7, u8, u9, u10, u11, u12, u13, u14, u15, rfl, g2, t2⟩
      walk_at "run"
      exact q H2
end
end K
set_option Elab.async false
set_option linter.all false
set_option maxRecDepth 100000
set_option maxHeartbeats 4000000
namespace K
open PySem PySem.Spec PyProof.Rows L2 Evl FB LamX
def rzB (K : PySem.W.Frag) (C : Addr) : Bool := PySem.W.excIn K C [.type "ValueError", .type "Exception", .type "BaseException", .type "object"] "ValueError.__new__" && (PySem.W.keepIn K (.ref C) && (decide (PySem.W.subIn K (.ref C) (.type "BaseException") = some true) && decide (PySem.W.typeIn K (.ref C) = some (.type "type"))))
theorem rz_ok {K : PySem.W.Frag} {mg : Str → Option Value} {x : Str} {C : Addr} (g : mg x = some (.ref C)) (h : rzB K C = true) : Rz K mg x C := by
  unfold rzB at h
  simp only [Bool.and_eq_true, decide_eq_true_eq] at h
  exact ⟨h.1, g, h.2.1, h.2.2.1, h.2.2.2⟩
def ercB (K : PySem.W.Frag) (D : Addr) : Bool := (PySem.W.clsIn K D).isSome && (decide (PySem.W.findIn K (.ref D) "__getattribute__" = some (some (.builtin "BaseException.__getattribute__"))) && (decide (PySem.W.findIn K (.ref D) "__getattr__" = some none) && (decide (PySem.W.subIn K (.ref D) (.type "BaseException") = some true) && (decide (PySem.W.findIn K (.ref D) "__class__" = some (some (.builtin "object.__class__"))) && (decide (PySem.W.specialIn K (.builtin "object.__class__") "__get__" = some (some (.builtin "getset_descriptor.__get__"))) && (decide (PySem.W.takesIn K (.builtin "object.__class__") = some true) && decide (PySem.W.mroIn K D (.type "object") = some true)))))))
theorem erc_ok {K : PySem.W.Frag} {D : Addr} (h : ercB K D = true) : ErC K D := by
  unfold ercB at h
  simp only [Bool.and_eq_true, decide_eq_true_eq] at h
  obtain ⟨a, b, c, d, e, f, g, i⟩ := h
  exact ⟨a, b, c, d, e, f, g, i⟩
def errB (K : PySem.W.Frag) (CF : Addr) (Cs : List Addr) : Bool :=
  (List.range 13).all (fun i => ercB K (Cs.getD i 0) && (decide (PySem.W.kitOne K (.ref (Cs.getD i 0)) (.type "ValueError") = some true) && decide (PySem.W.exmOne K (.ref (Cs.getD i 0)) (.ref CF) = some true))) &&
  ((List.range 13).all (fun i => (List.range 13).all fun j => decide (PySem.W.kitOne K (.ref (Cs.getD i 0)) (.ref (Cs.getD j 0)) = some (decide (i = j)))) &&
  (xfB K (Cs.getD 0 0) && (decide (PySem.W.findIn K (.ref (Cs.getD 0 0)) "station" = some none) && (decide (PySem.W.findIn K (.ref (Cs.getD 0 0)) "seat" = some none) && (PySem.W.keepIn K (.ref (Cs.getD 0 0)) && (decide (PySem.W.subIn K (.ref (Cs.getD 0 0)) (.type "BaseException") = some true) && decide (PySem.W.typeIn K (.ref (Cs.getD 0 0)) = some (.type "type"))))))))
structure ErrF (K : PySem.W.Frag) (CF : Addr) (C : Nat → Addr) : Prop where
  c : ∀ i, i < 13 → ErC K (C i)
  isv : ∀ i, i < 13 → PySem.W.kitOne K (.ref (C i)) (.type "ValueError") = some true
  exF : ∀ i, i < 13 → PySem.W.exmOne K (.ref (C i)) (.ref CF) = some true
  isi : ∀ i j, i < 13 → j < 13 → PySem.W.kitOne K (.ref (C i)) (.ref (C j)) = some (decide (i = j))
  xf : XfC K (C 0)
  n1 : PySem.W.findIn K (.ref (C 0)) "station" = some none
  n2 : PySem.W.findIn K (.ref (C 0)) "seat" = some none
  k0 : PySem.W.keepIn K (.ref (C 0)) = true
  s0 : PySem.W.subIn K (.ref (C 0)) (.type "BaseException") = some true
  t0 : PySem.W.typeIn K (.ref (C 0)) = some (.type "type")
theorem err_ok {K : PySem.W.Frag} {CF : Addr} {Cs : List Addr} (h : errB K CF Cs = true) : ErrF K CF (fun i => Cs.getD i 0) := by
  unfold errB at h
  simp only [Bool.and_eq_true, decide_eq_true_eq, List.all_eq_true, List.mem_range] at h
  obtain ⟨a, b, c, d, e, f, g, i⟩ := h
  exact ⟨fun j hj => erc_ok (a j hj).1, fun j hj => (a j hj).2.1, fun j hj => (a j hj).2.2, fun j k hj hk => b j hj k hk, xfB_ok c, d, e, f, g, i⟩
theorem all_mk {l : PySem.W.OpenLaw} {w : World} {K : PySem.W.Frag} {h : Heap} {mg : Str → Option Value} {fa : Addr} (X : K.In h) (G : h.Ns mainGlobals mg) (hfa : mg "law" = some (.ref fa))
    {f0 : Addr} {od0 an0 : Option Addr} {sl0 : Array (Option Value)} {oc0 kV0 dc0 pm0 ct0 : Value} {cd0 : Value}
    (a0 : PySem.W.nsIn K mainGlobals "check_count" = some (some (.ref f0)))
    (l0 : K.lookup f0 = some ⟨oc0, od0, .func (PySem.W.fnOf "check_count" "check_count" (defArgs s_check_count) (defBody s_check_count) (defScope s_check_count) .none kV0 dc0 pm0 an0 cd0 ct0), sl0⟩)
    (c0 : PySem.W.codeIn K cd0 "check_count" = true)
    (k0 : PySem.W.keepIn K (.ref f0) = true)
    {f1 : Addr} {od1 an1 : Option Addr} {sl1 : Array (Option Value)} {oc1 kV1 dc1 pm1 ct1 : Value} {cd1 : Value}
    (a1 : PySem.W.nsIn K mainGlobals "is_letters" = some (some (.ref f1)))
    (l1 : K.lookup f1 = some ⟨oc1, od1, .func (PySem.W.fnOf "is_letters" "is_letters" (defArgs s_is_letters) (defBody s_is_letters) (defScope s_is_letters) .none kV1 dc1 pm1 an1 cd1 ct1), sl1⟩)
    (c1 : PySem.W.codeIn K cd1 "is_letters" = true)
    (k1 : PySem.W.keepIn K (.ref f1) = true)
    {f2 : Addr} {od2 an2 : Option Addr} {sl2 : Array (Option Value)} {oc2 kV2 dc2 pm2 ct2 : Value} {cd2 : Value}
    (a2 : PySem.W.nsIn K mainGlobals "is_word" = some (some (.ref f2)))
    (l2 : K.lookup f2 = some ⟨oc2, od2, .func (PySem.W.fnOf "is_word" "is_word" (defArgs s_is_word) (defBody s_is_word) (defScope s_is_word) .none kV2 dc2 pm2 an2 cd2 ct2), sl2⟩)
    (c2 : PySem.W.codeIn K cd2 "is_word" = true)
    (k2 : PySem.W.keepIn K (.ref f2) = true)
    {f3 : Addr} {od3 an3 : Option Addr} {sl3 : Array (Option Value)} {oc3 kV3 dc3 pm3 ct3 : Value} {cd3 : Value}
    (a3 : PySem.W.nsIn K mainGlobals "is_place" = some (some (.ref f3)))
    (l3 : K.lookup f3 = some ⟨oc3, od3, .func (PySem.W.fnOf "is_place" "is_place" (defArgs s_is_place) (defBody s_is_place) (defScope s_is_place) .none kV3 dc3 pm3 an3 cd3 ct3), sl3⟩)
    (c3 : PySem.W.codeIn K cd3 "is_place" = true)
    (k3 : PySem.W.keepIn K (.ref f3) = true)
    {f4 : Addr} {od4 an4 : Option Addr} {sl4 : Array (Option Value)} {oc4 kV4 dc4 pm4 ct4 : Value} {cd4 : Value}
    (a4 : PySem.W.nsIn K mainGlobals "check_network" = some (some (.ref f4)))
    (l4 : K.lookup f4 = some ⟨oc4, od4, .func (PySem.W.fnOf "check_network" "check_network" (defArgs s_check_network) (defBody s_check_network) (defScope s_check_network) .none kV4 dc4 pm4 an4 cd4 ct4), sl4⟩)
    (c4 : PySem.W.codeIn K cd4 "check_network" = true)
    (k4 : PySem.W.keepIn K (.ref f4) = true)
    {f5 : Addr} {od5 an5 : Option Addr} {sl5 : Array (Option Value)} {oc5 kV5 dc5 pm5 ct5 : Value} {cd5 : Value}
    (a5 : PySem.W.nsIn K mainGlobals "is_integer" = some (some (.ref f5)))
    (l5 : K.lookup f5 = some ⟨oc5, od5, .func (PySem.W.fnOf "is_integer" "is_integer" (defArgs s_is_integer) (defBody s_is_integer) (defScope s_is_integer) .none kV5 dc5 pm5 an5 cd5 ct5), sl5⟩)
    (c5 : PySem.W.codeIn K cd5 "is_integer" = true)
    (k5 : PySem.W.keepIn K (.ref f5) = true)
    {f6 : Addr} {od6 an6 : Option Addr} {sl6 : Array (Option Value)} {oc6 kV6 dc6 pm6 ct6 : Value} {cd6 : Value}
    (a6 : PySem.W.nsIn K mainGlobals "is_fraction" = some (some (.ref f6)))
    (l6 : K.lookup f6 = some ⟨oc6, od6, .func (PySem.W.fnOf "is_fraction" "is_fraction" (defArgs s_is_fraction) (defBody s_is_fraction) (defScope s_is_fraction) .none kV6 dc6 pm6 an6 cd6 ct6), sl6⟩)
    (c6 : PySem.W.codeIn K cd6 "is_fraction" = true)
    (k6 : PySem.W.keepIn K (.ref f6) = true)
    {f7 : Addr} {od7 an7 : Option Addr} {sl7 : Array (Option Value)} {oc7 kV7 dc7 pm7 ct7 : Value} {cd7 : Value}
    (a7 : PySem.W.nsIn K mainGlobals "lowest_terms" = some (some (.ref f7)))
    (l7 : K.lookup f7 = some ⟨oc7, od7, .func (PySem.W.fnOf "lowest_terms" "lowest_terms" (defArgs s_lowest_terms) (defBody s_lowest_terms) (defScope s_lowest_terms) .none kV7 dc7 pm7 an7 cd7 ct7), sl7⟩)
    (c7 : PySem.W.codeIn K cd7 "lowest_terms" = true)
    (k7 : PySem.W.keepIn K (.ref f7) = true)
    {f8 : Addr} {od8 an8 : Option Addr} {sl8 : Array (Option Value)} {oc8 kV8 dc8 pm8 ct8 : Value} {cd8 : Value}
    (a8 : PySem.W.nsIn K mainGlobals "add" = some (some (.ref f8)))
    (l8 : K.lookup f8 = some ⟨oc8, od8, .func (PySem.W.fnOf "add" "add" (defArgs s_add) (defBody s_add) (defScope s_add) .none kV8 dc8 pm8 an8 cd8 ct8), sl8⟩)
    (c8 : PySem.W.codeIn K cd8 "add" = true)
    (k8 : PySem.W.keepIn K (.ref f8) = true)
    {f9 : Addr} {od9 an9 : Option Addr} {sl9 : Array (Option Value)} {oc9 kV9 dc9 pm9 ct9 : Value} {cd9 : Value}
    (a9 : PySem.W.nsIn K mainGlobals "multiply" = some (some (.ref f9)))
    (l9 : K.lookup f9 = some ⟨oc9, od9, .func (PySem.W.fnOf "multiply" "multiply" (defArgs s_multiply) (defBody s_multiply) (defScope s_multiply) .none kV9 dc9 pm9 an9 cd9 ct9), sl9⟩)
    (c9 : PySem.W.codeIn K cd9 "multiply" = true)
    (k9 : PySem.W.keepIn K (.ref f9) = true)
    {f10 : Addr} {od10 an10 : Option Addr} {sl10 : Array (Option Value)} {oc10 kV10 dc10 pm10 ct10 : Value} {cd10 : Value}
    (a10 : PySem.W.nsIn K mainGlobals "divide" = some (some (.ref f10)))
    (l10 : K.lookup f10 = some ⟨oc10, od10, .func (PySem.W.fnOf "divide" "divide" (defArgs s_divide) (defBody s_divide) (defScope s_divide) .none kV10 dc10 pm10 an10 cd10 ct10), sl10⟩)
    (c10 : PySem.W.codeIn K cd10 "divide" = true)
    (k10 : PySem.W.keepIn K (.ref f10) = true)
    {f11 : Addr} {od11 an11 : Option Addr} {sl11 : Array (Option Value)} {oc11 kV11 dc11 pm11 ct11 : Value} {cd11 : Value}
    (a11 : PySem.W.nsIn K mainGlobals "total" = some (some (.ref f11)))
    (l11 : K.lookup f11 = some ⟨oc11, od11, .func (PySem.W.fnOf "total" "total" (defArgs s_total) (defBody s_total) (defScope s_total) .none kV11 dc11 pm11 an11 cd11 ct11), sl11⟩)
    (c11 : PySem.W.codeIn K cd11 "total" = true)
    (k11 : PySem.W.keepIn K (.ref f11) = true)
    {f12 : Addr} {od12 an12 : Option Addr} {sl12 : Array (Option Value)} {oc12 kV12 dc12 pm12 ct12 : Value} {cd12 : Value}
    (a12 : PySem.W.nsIn K mainGlobals "make_rates" = some (some (.ref f12)))
    (l12 : K.lookup f12 = some ⟨oc12, od12, .func (PySem.W.fnOf "make_rates" "make_rates" (defArgs s_make_rates) (defBody s_make_rates) (defScope s_make_rates) .none kV12 dc12 pm12 an12 cd12 ct12), sl12⟩)
    (c12 : PySem.W.codeIn K cd12 "make_rates" = true)
    (k12 : PySem.W.keepIn K (.ref f12) = true)
    {f13 : Addr} {od13 an13 : Option Addr} {sl13 : Array (Option Value)} {oc13 kV13 dc13 pm13 ct13 : Value} {cd13 : Value}
    (a13 : PySem.W.nsIn K mainGlobals "check_rates" = some (some (.ref f13)))
    (l13 : K.lookup f13 = some ⟨oc13, od13, .func (PySem.W.fnOf "check_rates" "check_rates" (defArgs s_check_rates) (defBody s_check_rates) (defScope s_check_rates) .none kV13 dc13 pm13 an13 cd13 ct13), sl13⟩)
    (c13 : PySem.W.codeIn K cd13 "check_rates" = true)
    (k13 : PySem.W.keepIn K (.ref f13) = true)
    {f14 : Addr} {od14 an14 : Option Addr} {sl14 : Array (Option Value)} {oc14 kV14 dc14 pm14 ct14 : Value} {cd14 : Value}
    (a14 : PySem.W.nsIn K mainGlobals "count_by_rates" = some (some (.ref f14)))
    (l14 : K.lookup f14 = some ⟨oc14, od14, .func (PySem.W.fnOf "count_by_rates" "count_by_rates" (defArgs s_count_by_rates) (defBody s_count_by_rates) (defScope s_count_by_rates) .none kV14 dc14 pm14 an14 cd14 ct14), sl14⟩)
    (c14 : PySem.W.codeIn K cd14 "count_by_rates" = true)
    (k14 : PySem.W.keepIn K (.ref f14) = true)
    {f15 : Addr} {od15 an15 : Option Addr} {sl15 : Array (Option Value)} {oc15 kV15 dc15 pm15 ct15 : Value} {cd15 : Value}
    (a15 : PySem.W.nsIn K mainGlobals "max_deviation" = some (some (.ref f15)))
    (l15 : K.lookup f15 = some ⟨oc15, od15, .func (PySem.W.fnOf "max_deviation" "max_deviation" (defArgs s_max_deviation) (defBody s_max_deviation) (defScope s_max_deviation) .none kV15 dc15 pm15 an15 cd15 ct15), sl15⟩)
    (c15 : PySem.W.codeIn K cd15 "max_deviation" = true)
    (k15 : PySem.W.keepIn K (.ref f15) = true)
    {f16 : Addr} {od16 an16 : Option Addr} {sl16 : Array (Option Value)} {oc16 kV16 dc16 pm16 ct16 : Value} {cd16 : Value}
    (a16 : PySem.W.nsIn K mainGlobals "check_lengths" = some (some (.ref f16)))
    (l16 : K.lookup f16 = some ⟨oc16, od16, .func (PySem.W.fnOf "check_lengths" "check_lengths" (defArgs s_check_lengths) (defBody s_check_lengths) (defScope s_check_lengths) .none kV16 dc16 pm16 an16 cd16 ct16), sl16⟩)
    (c16 : PySem.W.codeIn K cd16 "check_lengths" = true)
    (k16 : PySem.W.keepIn K (.ref f16) = true)
    {f17 : Addr} {od17 an17 : Option Addr} {sl17 : Array (Option Value)} {oc17 kV17 dc17 pm17 ct17 : Value} {cd17 : Value}
    (a17 : PySem.W.nsIn K mainGlobals "sum_values" = some (some (.ref f17)))
    (l17 : K.lookup f17 = some ⟨oc17, od17, .func (PySem.W.fnOf "sum_values" "sum_values" (defArgs s_sum_values) (defBody s_sum_values) (defScope s_sum_values) .none kV17 dc17 pm17 an17 cd17 ct17), sl17⟩)
    (c17 : PySem.W.codeIn K cd17 "sum_values" = true)
    (k17 : PySem.W.keepIn K (.ref f17) = true)
    {f18 : Addr} {od18 an18 : Option Addr} {sl18 : Array (Option Value)} {oc18 kV18 dc18 pm18 ct18 : Value} {cd18 : Value}
    (a18 : PySem.W.nsIn K mainGlobals "_law_mix" = some (some (.ref f18)))
    (l18 : K.lookup f18 = some ⟨oc18, od18, .func (PySem.W.fnOf "_law_mix" "_law_mix" (defArgs s_l_mix) (defBody s_l_mix) (defScope s_l_mix) .none kV18 dc18 pm18 an18 cd18 ct18), sl18⟩)
    (c18 : PySem.W.codeIn K cd18 "_law_mix" = true)
    (k18 : PySem.W.keepIn K (.ref f18) = true)
    {f19 : Addr} {od19 an19 : Option Addr} {sl19 : Array (Option Value)} {oc19 kV19 dc19 pm19 ct19 : Value} {cd19 : Value}
    (a19 : PySem.W.nsIn K mainGlobals "_law_next" = some (some (.ref f19)))
    (l19 : K.lookup f19 = some ⟨oc19, od19, .func (PySem.W.fnOf "_law_next" "_law_next" (defArgs s_l_next) (defBody s_l_next) (defScope s_l_next) .none kV19 dc19 pm19 an19 cd19 ct19), sl19⟩)
    (c19 : PySem.W.codeIn K cd19 "_law_next" = true)
    (k19 : PySem.W.keepIn K (.ref f19) = true)
    {f20 : Addr} {od20 an20 : Option Addr} {sl20 : Array (Option Value)} {oc20 kV20 dc20 pm20 ct20 : Value} {cd20 : Value}
    (a20 : PySem.W.nsIn K mainGlobals "_law_alike" = some (some (.ref f20)))
    (l20 : K.lookup f20 = some ⟨oc20, od20, .func (PySem.W.fnOf "_law_alike" "_law_alike" (defArgs s_l_alike) (defBody s_l_alike) (defScope s_l_alike) .none kV20 dc20 pm20 an20 cd20 ct20), sl20⟩)
    (c20 : PySem.W.codeIn K cd20 "_law_alike" = true)
    (k20 : PySem.W.keepIn K (.ref f20) = true)
    {f21 : Addr} {od21 an21 : Option Addr} {sl21 : Array (Option Value)} {oc21 kV21 dc21 pm21 ct21 : Value} {cd21 : Value}
    (a21 : PySem.W.nsIn K mainGlobals "_law_error" = some (some (.ref f21)))
    (l21 : K.lookup f21 = some ⟨oc21, od21, .func (PySem.W.fnOf "_law_error" "_law_error" (defArgs s_l_error) (defBody s_l_error) (defScope s_l_error) .none kV21 dc21 pm21 an21 cd21 ct21), sl21⟩)
    (c21 : PySem.W.codeIn K cd21 "_law_error" = true)
    (k21 : PySem.W.keepIn K (.ref f21) = true)
    {f22 : Addr} {od22 an22 : Option Addr} {sl22 : Array (Option Value)} {oc22 kV22 dc22 pm22 ct22 : Value} {cd22 : Value}
    (a22 : PySem.W.nsIn K mainGlobals "_law_place" = some (some (.ref f22)))
    (l22 : K.lookup f22 = some ⟨oc22, od22, .func (PySem.W.fnOf "_law_place" "_law_place" (defArgs s_l_place) (defBody s_l_place) (defScope s_l_place) .none kV22 dc22 pm22 an22 cd22 ct22), sl22⟩)
    (c22 : PySem.W.codeIn K cd22 "_law_place" = true)
    (k22 : PySem.W.keepIn K (.ref f22) = true)
    {f23 : Addr} {od23 an23 : Option Addr} {sl23 : Array (Option Value)} {oc23 kV23 dc23 pm23 ct23 : Value} {cd23 : Value}
    (a23 : PySem.W.nsIn K mainGlobals "_law_network" = some (some (.ref f23)))
    (l23 : K.lookup f23 = some ⟨oc23, od23, .func (PySem.W.fnOf "_law_network" "_law_network" (defArgs s_l_network) (defBody s_l_network) (defScope s_l_network) .none kV23 dc23 pm23 an23 cd23 ct23), sl23⟩)
    (c23 : PySem.W.codeIn K cd23 "_law_network" = true)
    (k23 : PySem.W.keepIn K (.ref f23) = true)
    {f24 : Addr} {od24 an24 : Option Addr} {sl24 : Array (Option Value)} {oc24 kV24 dc24 pm24 ct24 : Value} {cd24 : Value}
    (a24 : PySem.W.nsIn K mainGlobals "_law_sum" = some (some (.ref f24)))
    (l24 : K.lookup f24 = some ⟨oc24, od24, .func (PySem.W.fnOf "_law_sum" "_law_sum" (defArgs s_l_sum) (defBody s_l_sum) (defScope s_l_sum) .none kV24 dc24 pm24 an24 cd24 ct24), sl24⟩)
    (c24 : PySem.W.codeIn K cd24 "_law_sum" = true)
    (k24 : PySem.W.keepIn K (.ref f24) = true)
    {f25 : Addr} {od25 an25 : Option Addr} {sl25 : Array (Option Value)} {oc25 kV25 dc25 pm25 ct25 : Value} {cd25 : Value}
    (a25 : PySem.W.nsIn K mainGlobals "_law_times" = some (some (.ref f25)))
    (l25 : K.lookup f25 = some ⟨oc25, od25, .func (PySem.W.fnOf "_law_times" "_law_times" (defArgs s_l_times) (defBody s_l_times) (defScope s_l_times) .none kV25 dc25 pm25 an25 cd25 ct25), sl25⟩)
    (c25 : PySem.W.codeIn K cd25 "_law_times" = true)
    (k25 : PySem.W.keepIn K (.ref f25) = true)
    {f26 : Addr} {od26 an26 : Option Addr} {sl26 : Array (Option Value)} {oc26 kV26 dc26 pm26 ct26 : Value} {cd26 : Value}
    (a26 : PySem.W.nsIn K mainGlobals "_law_rates" = some (some (.ref f26)))
    (l26 : K.lookup f26 = some ⟨oc26, od26, .func (PySem.W.fnOf "_law_rates" "_law_rates" (defArgs s_l_rates) (defBody s_l_rates) (defScope s_l_rates) .none kV26 dc26 pm26 an26 cd26 ct26), sl26⟩)
    (c26 : PySem.W.codeIn K cd26 "_law_rates" = true)
    (k26 : PySem.W.keepIn K (.ref f26) = true)
    {f27 : Addr} {od27 an27 : Option Addr} {sl27 : Array (Option Value)} {oc27 kV27 dc27 pm27 ct27 : Value} {cd27 : Value}
    (a27 : PySem.W.nsIn K mainGlobals "_law_violation" = some (some (.ref f27)))
    (l27 : K.lookup f27 = some ⟨oc27, od27, .func (PySem.W.fnOf "_law_violation" "_law_violation" (defArgs s_l_violation) (defBody s_l_violation) (defScope s_l_violation) .none kV27 dc27 pm27 an27 cd27 ct27), sl27⟩)
    (c27 : PySem.W.codeIn K cd27 "_law_violation" = true)
    (k27 : PySem.W.keepIn K (.ref f27) = true)
    {f28 : Addr} {od28 an28 : Option Addr} {sl28 : Array (Option Value)} {oc28 kV28 dc28 pm28 ct28 : Value} {q28 P28 : Addr}
    (a28 : PySem.W.nsIn K mainGlobals "law" = some (some (.ref f28)))
    (l28 : K.lookup f28 = some ⟨oc28, od28, .func (PySem.W.fnOf "law" "law" (defArgs s_law) (defBody s_law) (defScope s_law) .none kV28 dc28 pm28 an28 (.ref q28) ct28), sl28⟩)
    (c28 : PySem.W.codeIn K (.ref q28) "law" = true)
    (k28 : PySem.W.keepIn K (.ref f28) = true)
    (t28 : PySem.W.tabIn K "law" = some (q28, P28))
    (u28 : K.lookup P28 = none)
    {t_0 : Nat}
    (m0 : PySem.W.nsIn K mainGlobals "MAX_COUNT" = some (some (.int 1000000000000000000 t_0)))
    {t_1 : Nat}
    (m1 : PySem.W.nsIn K mainGlobals "MAX_STATIONS" = some (some (.int 40 t_1)))
    {t_2 : Nat}
    (m2 : PySem.W.nsIn K mainGlobals "MAX_SEATS" = some (some (.int 8 t_2)))
    {t_3 : Nat}
    (m3 : PySem.W.nsIn K mainGlobals "MAX_LETTERS" = some (some (.int 8 t_3)))
    {z_ZERO : Addr} {zo_ZERO : Option Addr} {zn_ZERO : Nat} {zs_ZERO : Array (Option Value)} {zt_ZERO_0 : Nat} {zt_ZERO_1 : Nat}
    (m4 : PySem.W.nsIn K mainGlobals "ZERO" = some (some (.ref z_ZERO)))
    (q_4 : K.lookup z_ZERO = some ⟨.type "tuple", zo_ZERO, .seq #[.int 0 zt_ZERO_0, .int 1 zt_ZERO_1] zn_ZERO, zs_ZERO⟩)
    {z_ONE : Addr} {zo_ONE : Option Addr} {zn_ONE : Nat} {zs_ONE : Array (Option Value)} {zt_ONE_0 : Nat} {zt_ONE_1 : Nat}
    (m5 : PySem.W.nsIn K mainGlobals "ONE" = some (some (.ref z_ONE)))
    (q_5 : K.lookup z_ONE = some ⟨.type "tuple", zo_ONE, .seq #[.int 1 zt_ONE_0, .int 1 zt_ONE_1] zn_ONE, zs_ONE⟩)
    (im_gcd : PySem.W.nsIn K mainGlobals "gcd" = some (some (.builtin "math.gcd")))
    (z0 : PySem.W.nsIn K mainGlobals "range" = some none)
    (z1 : PySem.W.nsIn K mainGlobals "tuple" = some none)
    (z2 : PySem.W.nsIn K mainGlobals "min" = some none)
    (z3 : PySem.W.nsIn K mainGlobals "isinstance" = some none)
    (z4 : PySem.W.nsIn K mainGlobals "str" = some none)
    (z5 : PySem.W.nsIn K mainGlobals "dict" = some none)
    (z6 : PySem.W.nsIn K mainGlobals "bool" = some none)
    (z7 : PySem.W.nsIn K mainGlobals "sorted" = some none)
    (z8 : PySem.W.nsIn K mainGlobals "set" = some none)
    (z9 : PySem.W.nsIn K mainGlobals "enumerate" = some none)
    (z10 : PySem.W.nsIn K mainGlobals "all" = some none)
    (z11 : PySem.W.nsIn K mainGlobals "len" = some none)
    (z12 : PySem.W.nsIn K mainGlobals "list" = some none)
    (z13 : PySem.W.nsIn K mainGlobals "int" = some none)
    (z14 : PySem.W.nsIn K mainGlobals "max" = some none)
    (z15 : PySem.W.nsIn K mainGlobals "sum" = some none)
    (z16 : PySem.W.nsIn K mainGlobals "zip" = some none)
    (z17 : PySem.W.nsIn K mainGlobals "abs" = some none)
    (z18 : PySem.W.nsIn K mainGlobals "reversed" = some none)
    (z19 : PySem.W.nsIn K mainGlobals "any" = some none)
    {CF : Addr} {C0 C1 C2 C3 C4 C5 C6 C7 C8 C9 C10 C11 C12 : Addr}
    (eF : PySem.W.nsIn K mainGlobals "FerryError" = some (some (.ref CF)))
    (e0 : PySem.W.nsIn K mainGlobals "InvalidNetwork" = some (some (.ref C0)))
    (e1 : PySem.W.nsIn K mainGlobals "InvalidState" = some (some (.ref C1)))
    (e2 : PySem.W.nsIn K mainGlobals "InvalidCount" = some (some (.ref C2)))
    (e3 : PySem.W.nsIn K mainGlobals "UnknownStation" = some (some (.ref C3)))
    (e4 : PySem.W.nsIn K mainGlobals "UnknownSeat" = some (some (.ref C4)))
    (e5 : PySem.W.nsIn K mainGlobals "UnknownPort" = some (some (.ref C5)))
    (e6 : PySem.W.nsIn K mainGlobals "UnknownPassenger" = some (some (.ref C6)))
    (e7 : PySem.W.nsIn K mainGlobals "EmptyBoat" = some (some (.ref C7)))
    (e8 : PySem.W.nsIn K mainGlobals "InvalidRates" = some (some (.ref C8)))
    (e9 : PySem.W.nsIn K mainGlobals "InvalidLengths" = some (some (.ref C9)))
    (e10 : PySem.W.nsIn K mainGlobals "InvalidPassengers" = some (some (.ref C10)))
    (e11 : PySem.W.nsIn K mainGlobals "TooManyCandidates" = some (some (.ref C11)))
    (e12 : PySem.W.nsIn K mainGlobals "Contradiction" = some (some (.ref C12)))
    (eV : PySem.W.nsIn K mainGlobals "ValueError" = some none)
    (eB : errB K CF [C0, C1, C2, C3, C4, C5, C6, C7, C8, C9, C10, C11, C12] = true)
    (r8 : rzB K C8 = true)
    (pd : (true) = true)
    : ∃ (fd : FuncData) (cs : List (Str × Addr × Addr)) (sp : Sp), (∀ p ∈ cs, p.1 ∈ (["law"] : List Str) ∧ PySem.W.tabIn K p.1 = some p.2 ∧ K.lookup p.2.2 = none) ∧ (∀ (s : Shared) (u : Value), BindsTo s fd ⟨[u], []⟩ [("_law_script", u)]) ∧
        (∀ (H : Hp) (a : Addr) (ns : List Int), ns.length ≤ 63 → (∀ p ∈ cs, H p.2.2 = some (.tbl #[])) → SqL K H a (ns.map V.int) → sp [.ref a] H (fun v _ => v = .bl true) fun _ _ _ => False) ∧
        ∀ base : Heap, K.In base → base.Ns mainGlobals mg → (∀ p ∈ cs, TabB base mg p.2.1 p.2.2) → FnOk l.prog w K mg base L2.CX0 10 fa fd ["_law_script"] sp := by
  have e := hfa.symm.trans (PySem.W.mg_of X G a28)
  cases e
  have F0 := fun_mk (st := s_check_count) l0 c0 k0
  have D_check_count : Df K mg "check_count" s_check_count ["count", "least", "most"] f0 _ := ⟨F0, PySem.W.mg_of X G a0, F0.binds (ps := ["count", "least", "most"]) fun _ _ _ _ _ _ us hl => match us, hl with | [_, _, _], _ => rfl⟩
  have F1 := fun_mk (st := s_is_letters) l1 c1 k1
  have D_is_letters : Df K mg "is_letters" s_is_letters ["text"] f1 _ := ⟨F1, PySem.W.mg_of X G a1, F1.binds (ps := ["text"]) fun _ _ _ _ _ _ us hl => match us, hl with | [_], _ => rfl⟩
  have F2 := fun_mk (st := s_is_word) l2 c2 k2
  have D_is_word : Df K mg "is_word" s_is_word ["text"] f2 _ := ⟨F2, PySem.W.mg_of X G a2, F2.binds (ps := ["text"]) fun _ _ _ _ _ _ us hl => match us, hl with | [_], _ => rfl⟩
  have F3 := fun_mk (st := s_is_place) l3 c3 k3
  have D_is_place : Df K mg "is_place" s_is_place ["place", "station", "stations"] f3 _ := ⟨F3, PySem.W.mg_of X G a3, F3.binds (ps := ["place", "station", "stations"]) fun _ _ _ _ _ _ us hl => match us, hl with | [_, _, _], _ => rfl⟩
  have F4 := fun_mk (st := s_check_network) l4 c4 k4
  have D_check_network : Df K mg "check_network" s_check_network ["network"] f4 _ := ⟨F4, PySem.W.mg_of X G a4, F4.binds (ps := ["network"]) fun _ _ _ _ _ _ us hl => match us, hl with | [_], _ => rfl⟩
  have F5 := fun_mk (st := s_is_integer) l5 c5 k5
  have D_is_integer : Df K mg "is_integer" s_is_integer ["value"] f5 _ := ⟨F5, PySem.W.mg_of X G a5, F5.binds (ps := ["value"]) fun _ _ _ _ _ _ us hl => match us, hl with | [_], _ => rfl⟩
  have F6 := fun_mk (st := s_is_fraction) l6 c6 k6
  have D_is_fraction : Df K mg "is_fraction" s_is_fraction ["value"] f6 _ := ⟨F6, PySem.W.mg_of X G a6, F6.binds (ps := ["value"]) fun _ _ _ _ _ _ us hl => match us, hl with | [_], _ => rfl⟩
  have F7 := fun_mk (st := s_lowest_terms) l7 c7 k7
  have D_lowest_terms : Df K mg "lowest_terms" s_lowest_terms ["numerator", "denominator"] f7 _ := ⟨F7, PySem.W.mg_of X G a7, F7.binds (ps := ["numerator", "denominator"]) fun _ _ _ _ _ _ us hl => match us, hl with | [_, _], _ => rfl⟩
  have F8 := fun_mk (st := s_add) l8 c8 k8
  have D_add : Df K mg "add" s_add ["one", "other"] f8 _ := ⟨F8, PySem.W.mg_of X G a8, F8.binds (ps := ["one", "other"]) fun _ _ _ _ _ _ us hl => match us, hl with | [_, _], _ => rfl⟩
  have F9 := fun_mk (st := s_multiply) l9 c9 k9
  have D_multiply : Df K mg "multiply" s_multiply ["fraction", "integer"] f9 _ := ⟨F9, PySem.W.mg_of X G a9, F9.binds (ps := ["fraction", "integer"]) fun _ _ _ _ _ _ us hl => match us, hl with | [_, _], _ => rfl⟩
  have F10 := fun_mk (st := s_divide) l10 c10 k10
  have D_divide : Df K mg "divide" s_divide ["fraction", "integer"] f10 _ := ⟨F10, PySem.W.mg_of X G a10, F10.binds (ps := ["fraction", "integer"]) fun _ _ _ _ _ _ us hl => match us, hl with | [_, _], _ => rfl⟩
  have F11 := fun_mk (st := s_total) l11 c11 k11
  have D_total : Df K mg "total" s_total ["fractions"] f11 _ := ⟨F11, PySem.W.mg_of X G a11, F11.binds (ps := ["fractions"]) fun _ _ _ _ _ _ us hl => match us, hl with | [_], _ => rfl⟩
  have F12 := fun_mk (st := s_make_rates) l12 c12 k12
  have D_make_rates : Df K mg "make_rates" s_make_rates ["network", "port"] f12 _ := ⟨F12, PySem.W.mg_of X G a12, F12.binds (ps := ["network", "port"]) fun _ _ _ _ _ _ us hl => match us, hl with | [_, _], _ => rfl⟩
  have F13 := fun_mk (st := s_check_rates) l13 c13 k13
  have D_check_rates : Df K mg "check_rates" s_check_rates ["network", "port", "rates"] f13 _ := ⟨F13, PySem.W.mg_of X G a13, F13.binds (ps := ["network", "port", "rates"]) fun _ _ _ _ _ _ us hl => match us, hl with | [_, _, _], _ => rfl⟩
  have F14 := fun_mk (st := s_count_by_rates) l14 c14 k14
  have D_count_by_rates : Df K mg "count_by_rates" s_count_by_rates ["network", "port", "rates", "before", "after", "count"] f14 _ := ⟨F14, PySem.W.mg_of X G a14, F14.binds (ps := ["network", "port", "rates", "before", "after", "count"]) fun _ _ _ _ _ _ us hl => match us, hl with | [_, _, _, _, _, _], _ => rfl⟩
  have F15 := fun_mk (st := s_max_deviation) l15 c15 k15
  have D_max_deviation : Df K mg "max_deviation" s_max_deviation ["network", "port"] f15 _ := ⟨F15, PySem.W.mg_of X G a15, F15.binds (ps := ["network", "port"]) fun _ _ _ _ _ _ us hl => match us, hl with | [_, _], _ => rfl⟩
  have F16 := fun_mk (st := s_check_lengths) l16 c16 k16
  have D_check_lengths : Df K mg "check_lengths" s_check_lengths ["network", "lengths"] f16 _ := ⟨F16, PySem.W.mg_of X G a16, F16.binds (ps := ["network", "lengths"]) fun _ _ _ _ _ _ us hl => match us, hl with | [_, _], _ => rfl⟩
  have F17 := fun_mk (st := s_sum_values) l17 c17 k17
  have D_sum_values : Df K mg "sum_values" s_sum_values ["network", "port", "rates", "station"] f17 _ := ⟨F17, PySem.W.mg_of X G a17, F17.binds (ps := ["network", "port", "rates", "station"]) fun _ _ _ _ _ _ us hl => match us, hl with | [_, _, _, _], _ => rfl⟩
  have F18 := fun_mk (st := s_l_mix) l18 c18 k18
  have D_l_mix : Df K mg "_law_mix" s_l_mix ["_law_script", "_law_seed"] f18 _ := ⟨F18, PySem.W.mg_of X G a18, F18.binds (ps := ["_law_script", "_law_seed"]) fun _ _ _ _ _ _ us hl => match us, hl with | [_, _], _ => rfl⟩
  have F19 := fun_mk (st := s_l_next) l19 c19 k19
  have D_l_next : Df K mg "_law_next" s_l_next ["_law_h", "_law_limit"] f19 _ := ⟨F19, PySem.W.mg_of X G a19, F19.binds (ps := ["_law_h", "_law_limit"]) fun _ _ _ _ _ _ us hl => match us, hl with | [_, _], _ => rfl⟩
  have F20 := fun_mk (st := s_l_alike) l20 c20 k20
  have D_l_alike : Df K mg "_law_alike" s_l_alike ["_law_found", "_law_due"] f20 _ := ⟨F20, PySem.W.mg_of X G a20, F20.binds (ps := ["_law_found", "_law_due"]) fun _ _ _ _ _ _ us hl => match us, hl with | [_, _], _ => rfl⟩
  have F21 := fun_mk (st := s_l_error) l21 c21 k21
  have D_l_error : Df K mg "_law_error" s_l_error ["_law_call"] f21 _ := ⟨F21, PySem.W.mg_of X G a21, F21.binds (ps := ["_law_call"]) fun _ _ _ _ _ _ us hl => match us, hl with | [_], _ => rfl⟩
  have F22 := fun_mk (st := s_l_place) l22 c22 k22
  have D_l_place : Df K mg "_law_place" s_l_place ["_law_h", "_law_station", "_law_count"] f22 _ := ⟨F22, PySem.W.mg_of X G a22, F22.binds (ps := ["_law_h", "_law_station", "_law_count"]) fun _ _ _ _ _ _ us hl => match us, hl with | [_, _, _], _ => rfl⟩
  have F23 := fun_mk (st := s_l_network) l23 c23 k23
  have D_l_network : Df K mg "_law_network" s_l_network ["_law_h", "_law_most"] f23 _ := ⟨F23, PySem.W.mg_of X G a23, F23.binds (ps := ["_law_h", "_law_most"]) fun _ _ _ _ _ _ us hl => match us, hl with | [_, _], _ => rfl⟩
  have F24 := fun_mk (st := s_l_sum) l24 c24 k24
  have D_l_sum : Df K mg "_law_sum" s_l_sum ["_law_fractions"] f24 _ := ⟨F24, PySem.W.mg_of X G a24, F24.binds (ps := ["_law_fractions"]) fun _ _ _ _ _ _ us hl => match us, hl with | [_], _ => rfl⟩
  have F25 := fun_mk (st := s_l_times) l25 c25 k25
  have D_l_times : Df K mg "_law_times" s_l_times ["_law_one", "_law_number"] f25 _ := ⟨F25, PySem.W.mg_of X G a25, F25.binds (ps := ["_law_one", "_law_number"]) fun _ _ _ _ _ _ us hl => match us, hl with | [_, _], _ => rfl⟩
  have F26 := fun_mk (st := s_l_rates) l26 c26 k26
  have D_l_rates : Df K mg "_law_rates" s_l_rates ["_law_network_here", "_law_port"] f26 _ := ⟨F26, PySem.W.mg_of X G a26, F26.binds (ps := ["_law_network_here", "_law_port"]) fun _ _ _ _ _ _ us hl => match us, hl with | [_, _], _ => rfl⟩
  have F27 := fun_mk (st := s_l_violation) l27 c27 k27
  have D_l_violation : Df K mg "_law_violation" s_l_violation ["_law_network_here", "_law_port", "_law_rates_here"] f27 _ := ⟨F27, PySem.W.mg_of X G a27, F27.binds (ps := ["_law_network_here", "_law_port", "_law_rates_here"]) fun _ _ _ _ _ _ us hl => match us, hl with | [_, _, _], _ => rfl⟩
  have F28 := fun_mk (st := s_law) l28 c28 k28
  have g_MAX_COUNT : ∃ t, mg "MAX_COUNT" = some (.int 1000000000000000000 t) := ⟨_, PySem.W.mg_of X G m0⟩
  have g_MAX_STATIONS : ∃ t, mg "MAX_STATIONS" = some (.int 40 t) := ⟨_, PySem.W.mg_of X G m1⟩
  have g_MAX_SEATS : ∃ t, mg "MAX_SEATS" = some (.int 8 t) := ⟨_, PySem.W.mg_of X G m2⟩
  have g_MAX_LETTERS : ∃ t, mg "MAX_LETTERS" = some (.int 8 t) := ⟨_, PySem.W.mg_of X G m3⟩
  have g_ZERO : mg "ZERO" = some (.ref z_ZERO) := PySem.W.mg_of X G m4
  have t_ZERO : ∀ H, SqT K H z_ZERO [.int 0, .int 1] := fun H => .inr ⟨_, _, _, q_4, rfl, rfl, by show 2 ≤ sizeLine; decide, (.cons ⟨_, rfl⟩ (.cons ⟨_, rfl⟩ .nil))⟩
  have g_ONE : mg "ONE" = some (.ref z_ONE) := PySem.W.mg_of X G m5
  have t_ONE : ∀ H, SqT K H z_ONE [.int 1, .int 1] := fun H => .inr ⟨_, _, _, q_5, rfl, rfl, by show 2 ≤ sizeLine; decide, (.cons ⟨_, rfl⟩ (.cons ⟨_, rfl⟩ .nil))⟩
  have h_gcd : mg "gcd" = some (.builtin "math.gcd") := PySem.W.mg_of X G im_gcd
  have T : Bt mg := ⟨PySem.W.mg_none_of X G z0, PySem.W.mg_none_of X G z1, PySem.W.mg_none_of X G z2, PySem.W.mg_none_of X G z3, PySem.W.mg_none_of X G z4, PySem.W.mg_none_of X G z5, PySem.W.mg_none_of X G z6, PySem.W.mg_none_of X G z7, PySem.W.mg_none_of X G z8, PySem.W.mg_none_of X G z9, PySem.W.mg_none_of X G z10, PySem.W.mg_none_of X G z11, PySem.W.mg_none_of X G z12, PySem.W.mg_none_of X G z13, PySem.W.mg_none_of X G z14, PySem.W.mg_none_of X G z15, PySem.W.mg_none_of X G z16, PySem.W.mg_none_of X G z17, PySem.W.mg_none_of X G z18, PySem.W.mg_none_of X G z19⟩
  have EF := err_ok eB
  generalize hCs : (fun i => ([C0, C1, C2, C3, C4, C5, C6, C7, C8, C9, C10, C11, C12] : List Addr).getD i 0) = C at EF
  have h0 : C 0 = C0 := by rw [← hCs]; rfl
  have h1 : C 1 = C1 := by rw [← hCs]; rfl
  have h2 : C 2 = C2 := by rw [← hCs]; rfl
  have h3 : C 3 = C3 := by rw [← hCs]; rfl
  have h4 : C 4 = C4 := by rw [← hCs]; rfl
  have h5 : C 5 = C5 := by rw [← hCs]; rfl
  have h6 : C 6 = C6 := by rw [← hCs]; rfl
  have h7 : C 7 = C7 := by rw [← hCs]; rfl
  have h8 : C 8 = C8 := by rw [← hCs]; rfl
  have h9 : C 9 = C9 := by rw [← hCs]; rfl
  have h10 : C 10 = C10 := by rw [← hCs]; rfl
  have h11 : C 11 = C11 := by rw [← hCs]; rfl
  have h12 : C 12 = C12 := by rw [← hCs]; rfl
  have R : Errs K mg CF C := ⟨PySem.W.mg_of X G eF, fun i hi => match i, hi with
    | 0, _ => by rw [h0]; exact PySem.W.mg_of X G e0
    | 1, _ => by rw [h1]; exact PySem.W.mg_of X G e1
    | 2, _ => by rw [h2]; exact PySem.W.mg_of X G e2
    | 3, _ => by rw [h3]; exact PySem.W.mg_of X G e3
    | 4, _ => by rw [h4]; exact PySem.W.mg_of X G e4
    | 5, _ => by rw [h5]; exact PySem.W.mg_of X G e5
    | 6, _ => by rw [h6]; exact PySem.W.mg_of X G e6
    | 7, _ => by rw [h7]; exact PySem.W.mg_of X G e7
    | 8, _ => by rw [h8]; exact PySem.W.mg_of X G e8
    | 9, _ => by rw [h9]; exact PySem.W.mg_of X G e9
    | 10, _ => by rw [h10]; exact PySem.W.mg_of X G e10
    | 11, _ => by rw [h11]; exact PySem.W.mg_of X G e11
    | 12, _ => by rw [h12]; exact PySem.W.mg_of X G e12
    , PySem.W.mg_none_of X G eV, EF.c, EF.isi, EF.isv, EF.exF, EF.xf, EF.n1, EF.n2⟩
  have Z_InvalidRates : Rz K mg "InvalidRates" (C 8) := by rw [h8]; exact rz_ok (PySem.W.mg_of X G e8) r8
  have pd := pd
  refine ⟨PySem.W.fnOf "law" "law" (defArgs s_law) (defBody s_law) (defScope s_law) .none kV28 dc28 pm28 an28 (.ref q28) ct28, [("law", q28, P28)], spLawT K [(P28, (("law" : Str) ++ (".<locals>." : Str)) ++ ("<lambda>" : Str))], ?_, fun s v => .of_eq rfl, ?_, fun base _ _ hTB => ?_⟩
  · intro p hp
    simp only [List.mem_cons, List.not_mem_nil, or_false] at hp
    rcases hp with rfl
    · exact ⟨.head _, t28, u28⟩
  · intro H a ns hl hT hS
    refine ⟨a, ns, rfl, hS, hl, fun p hp => ?_, fun _ => rfl⟩
    simp only [List.mem_cons, List.not_mem_nil, or_false] at hp
    rcases hp with rfl
    · exact TabS.nil (hT ("law", q28, P28) (.head _))
  · have F_law := F28
    have TB_law : TabB base mg q28 P28 := hTB ("law", q28, P28) (.head _)
    have hmT_law : (P28, (("law" : Str) ++ (".<locals>." : Str)) ++ ("<lambda>" : Str)) ∈ ([(P28, (("law" : Str) ++ (".<locals>." : Str)) ++ ("<lambda>" : Str))] : List (Addr × Str)) := .head _
    have huT_law : ∀ p ∈ ([(P28, (("law" : Str) ++ (".<locals>." : Str)) ++ ("<lambda>" : Str))] : List (Addr × Str)), p.1 = P28 → p.2 = (("law" : Str) ++ (".<locals>." : Str)) ++ ("<lambda>" : Str) := by
      intro p hp e
      cases hp with
      | head => exact rfl
      | tail _ hp => cases hp
    have Ck : Ct K mg := ⟨g_MAX_LETTERS, g_MAX_SEATS, g_MAX_STATIONS, ⟨_, _, D_is_letters⟩⟩
    have DD : DF K mg z_ZERO z_ONE := ⟨⟨_, _, D_lowest_terms⟩, ⟨_, _, D_add⟩, ⟨_, _, D_multiply⟩, ⟨_, _, D_divide⟩, ⟨_, _, D_total⟩, ⟨_, _, D_is_integer⟩, ⟨_, _, D_is_fraction⟩, ⟨_, _, D_is_word⟩, ⟨_, _, D_is_place⟩, ⟨_, _, D_check_network⟩, h_gcd, ⟨g_ZERO, t_ZERO⟩, ⟨g_ONE, t_ONE⟩⟩
    have GG : DG K mg (C 8) := ⟨⟨_, _, D_sum_values⟩, ⟨_, _, D_check_rates⟩, ⟨_, _, D_check_lengths⟩, ⟨_, _, D_check_count⟩, g_MAX_COUNT, Z_InvalidRates⟩
    exact ok_law F_law rfl TB_law T Ck R hmT_law huT_law D_l_mix D_l_next D_l_network D_l_alike D_l_error D_l_sum D_l_times D_l_rates D_l_violation DD GG D_make_rates D_check_rates D_count_by_rates D_max_deviation (ok_l_network D_l_network T D_l_next D_l_place)
end K
open PySem PySem.W PyProof.Rows
set_option maxRecDepth 100000 in
set_option maxHeartbeats 0 in
theorem PySem.Challenge.cw_fullboats_k10_rates_computed_holds : PySem.Challenge.rw_fullboats_k10_rates_computed.Holds := by
  w_on; o_law; k_head; (case hw => w_witness2)
  k_fill
  refine FB.walk_ofTab (l := PySem.Challenge.rw_fullboats_k10_rates_computed) (n := 63) (k := 10) (x := "_law_script") ["law"] rfl (by decide) rfl ⟨rfl, by decide, by decide⟩ (fun w h Y => Y.1) ?RR ?FF
  case RR =>
    intro y hy
    exact Option.isSome_iff_exists.mp (List.all_eq_true.mp (show ((["law"] : List Str).all fun y => ((recsOf _).find? fun e => e.name == y).isSome) = true from by decide +kernel) y hy)
  case FF =>
    intro w mg fa h KX G hmg
    refine' K.all_mk KX G hmg ?a0 ?l0 ?c0 ?k0 ?a1 ?l1 ?c1 ?k1 ?a2 ?l2 ?c2 ?k2 ?a3 ?l3 ?c3 ?k3 ?a4 ?l4 ?c4 ?k4 ?a5 ?l5 ?c5 ?k5 ?a6 ?l6 ?c6 ?k6 ?a7 ?l7 ?c7 ?k7 ?a8 ?l8 ?c8 ?k8 ?a9 ?l9 ?c9 ?k9 ?a10 ?l10 ?c10 ?k10 ?a11 ?l11 ?c11 ?k11 ?a12 ?l12 ?c12 ?k12 ?a13 ?l13 ?c13 ?k13 ?a14 ?l14 ?c14 ?k14 ?a15 ?l15 ?c15 ?k15 ?a16 ?l16 ?c16 ?k16 ?a17 ?l17 ?c17 ?k17 ?a18 ?l18 ?c18 ?k18 ?a19 ?l19 ?c19 ?k19 ?a20 ?l20 ?c20 ?k20 ?a21 ?l21 ?c21 ?k21 ?a22 ?l22 ?c22 ?k22 ?a23 ?l23 ?c23 ?k23 ?a24 ?l24 ?c24 ?k24 ?a25 ?l25 ?c25 ?k25 ?a26 ?l26 ?c26 ?k26 ?a27 ?l27 ?c27 ?k27 ?a28 ?l28 ?c28 ?k28 ?t28 ?u28 ?m0 ?m1 ?m2 ?m3 ?m4 ?q_4 ?m5 ?q_5 ?im_gcd ?z0 ?z1 ?z2 ?z3 ?z4 ?z5 ?z6 ?z7 ?z8 ?z9 ?z10 ?z11 ?z12 ?z13 ?z14 ?z15 ?z16 ?z17 ?z18 ?z19 ?eF ?e0 ?e1 ?e2 ?e3 ?e4 ?e5 ?e6 ?e7 ?e8 ?e9 ?e10 ?e11 ?e12 ?eV ?eB ?r8 ?pd
    (case a0 => k_is)
    (case l0 => k_is)
    (case c0 => k_is)
    (case k0 => k_is)
    (case a1 => k_is)
    (case l1 => k_is)
    (case c1 => k_is)
    (case k1 => k_is)
    (case a2 => k_is)
    (case l2 => k_is)
    (case c2 => k_is)
    (case k2 => k_is)
    (case a3 => k_is)
    (case l3 => k_is)
    (case c3 => k_is)
    (case k3 => k_is)
    (case a4 => k_is)
    (case l4 => k_is)
    (case c4 => k_is)
    (case k4 => k_is)
    (case a5 => k_is)
    (case l5 => k_is)
    (case c5 => k_is)
    (case k5 => k_is)
    (case a6 => k_is)
    (case l6 => k_is)
    (case c6 => k_is)
    (case k6 => k_is)
    (case a7 => k_is)
    (case l7 => k_is)
    (case c7 => k_is)
    (case k7 => k_is)
    (case a8 => k_is)
    (case l8 => k_is)
    (case c8 => k_is)
    (case k8 => k_is)
    (case a9 => k_is)
    (case l9 => k_is)
    (case c9 => k_is)
    (case k9 => k_is)
    (case a10 => k_is)
    (case l10 => k_is)
    (case c10 => k_is)
    (case k10 => k_is)
    (case a11 => k_is)
    (case l11 => k_is)
    (case c11 => k_is)
    (case k11 => k_is)
    (case a12 => k_is)
    (case l12 => k_is)
    (case c12 => k_is)
    (case k12 => k_is)
    (case a13 => k_is)
    (case l13 => k_is)
    (case c13 => k_is)
    (case k13 => k_is)
    (case a14 => k_is)
    (case l14 => k_is)
    (case c14 => k_is)
    (case k14 => k_is)
    (case a15 => k_is)
    (case l15 => k_is)
    (case c15 => k_is)
    (case k15 => k_is)
    (case a16 => k_is)
    (case l16 => k_is)
    (case c16 => k_is)
    (case k16 => k_is)
    (case a17 => k_is)
    (case l17 => k_is)
    (case c17 => k_is)
    (case k17 => k_is)
    (case a18 => k_is)
    (case l18 => k_is)
    (case c18 => k_is)
    (case k18 => k_is)
    (case a19 => k_is)
    (case l19 => k_is)
    (case c19 => k_is)
    (case k19 => k_is)
    (case a20 => k_is)
    (case l20 => k_is)
    (case c20 => k_is)
    (case k20 => k_is)
    (case a21 => k_is)
    (case l21 => k_is)
    (case c21 => k_is)
    (case k21 => k_is)
    (case a22 => k_is)
    (case l22 => k_is)
    (case c22 => k_is)
    (case k22 => k_is)
    (case a23 => k_is)
    (case l23 => k_is)
    (case c23 => k_is)
    (case k23 => k_is)
    (case a24 => k_is)
    (case l24 => k_is)
    (case c24 => k_is)
    (case k24 => k_is)
    (case a25 => k_is)
    (case l25 => k_is)
    (case c25 => k_is)
    (case k25 => k_is)
    (case a26 => k_is)
    (case l26 => k_is)
    (case c26 => k_is)
    (case k26 => k_is)
    (case a27 => k_is)
    (case l27 => k_is)
    (case c27 => k_is)
    (case k27 => k_is)
    (case a28 => k_is)
    (case l28 => k_is)
    (case c28 => k_is)
    (case k28 => k_is)
    (case t28 => first | k_is | rfl | decide +kernel)
    (case u28 => first | k_is | rfl | decide +kernel)
    (case m0 => k_is)
    (case m1 => k_is)
    (case m2 => k_is)
    (case m3 => k_is)
    (case m4 => k_is)
    (case q_4 => k_is)
    (case m5 => k_is)
    (case q_5 => k_is)
    (case im_gcd => k_is)
    (case z0 => k_is)
    (case z1 => k_is)
    (case z2 => k_is)
    (case z3 => k_is)
    (case z4 => k_is)
    (case z5 => k_is)
    (case z6 => k_is)
    (case z7 => k_is)
    (case z8 => k_is)
    (case z9 => k_is)
    (case z10 => k_is)
    (case z11 => k_is)
    (case z12 => k_is)
    (case z13 => k_is)
    (case z14 => k_is)
    (case z15 => k_is)
    (case z16 => k_is)
    (case z17 => k_is)
    (case z18 => k_is)
    (case z19 => k_is)
    (case eF => k_is)
    (case e0 => k_is)
    (case e1 => k_is)
    (case e2 => k_is)
    (case e3 => k_is)
    (case e4 => k_is)
    (case e5 => k_is)
    (case e6 => k_is)
    (case e7 => k_is)
    (case e8 => k_is)
    (case e9 => k_is)
    (case e10 => k_is)
    (case e11 => k_is)
    (case e12 => k_is)
    (case eV => k_is)
    (case eB => first | kernel_rfl | k_is | rfl)
    (case r8 => first | kernel_rfl | k_is | rfl)
    (case pd => decide +kernel)
