import PyProof.Rows.All
import Wide.All
import OpenK.AllK
import Wide.FinOn
import HandS.ForMost
import HandS.ForExc
import HandS.Evl
import HandS.IsInst
import HandS.TupAny
import HandS.TupMul
import HandS.SetKeys
import HandS.Walk
import KE.GoesEnum
import HandS.ExcInit
import HandS.DictComp
import HandS.Zip
import HandS.Conv
import HandS.Style
import HandS.WordsDict
import KE.KExcIs
import HandS.Lambda
import HandS.Exc
import HandS.ExcField
import HandS.ExcOwn
import HandS.SetFor
import HandS.EndTab
import KE.KNestM
import PySem.Challenge.RW_fullboats_k18_states_and_networks_edited
set_option Elab.async false
set_option linter.all false
set_option maxRecDepth 100000
set_option maxHeartbeats 4000000
/-! One rule an operator sign: which of the readings it is, the values tell. -/
namespace FB
open PySem PySem.Spec PyProof.Rows L2 Evl
section
variable {X : Cx}
theorem orOp {f : Value → Value → Sem Value} {r r' : R2} (h : OpR X f r) (h' : OpR X f r') : OpR X f (fun x y H Q => r x y H Q ∨ r' x y H Q) := fun pins s σ H x y v u Q I rx ry q =>
  q.elim (h pins s σ H x y v u Q I rx ry) (h' pins s σ H x y v u Q I rx ry)
theorem orCall {f : Value} {r r' : List V → Hp → VK → Prop} (h : CallR X f r) (h' : CallR X f r') : CallR X f (fun x H Q => r x H Q ∨ r' x H Q) := fun pins s σ H xs us Q I r q =>
  q.elim (h pins s σ H xs us Q I r) (h' pins s σ H xs us Q I r)
/-- a + b of ints, texts, lists, tuples -/
def rAddS2 : R2 := fun x y H Q => ∃ i j, x = .str i ∧ y = .str j ∧ i.length + j.length ≤ sizeLine ∧ Q (.str (i ++ j)) H
def rAddU (K : PySem.W.Frag) : R2 := fun x y H Q => (rI0 (fun i j => .int (i + j)) x y H Q ∨ rCat x y H Q) ∨ rCatA K x y H Q
theorem op_addU {K : PySem.W.Frag} (hK : X.K = K := by rfl) : OpR X (binaryOp .Add) (rAddU K) := by subst hK; exact orOp (orOp op_add op_cat) op_catA
def rMulU (K : PySem.W.Frag) : R2 := fun x y H Q => (rI CMul (fun i j => .int (i * j)) x y H Q ∨ rRep x y H Q) ∨ rRepT K x y H Q
theorem op_mulU {K : PySem.W.Frag} (hK : X.K = K := by rfl) : OpR X (binaryOp .Mult) (rMulU K) := by subst hK; exact orOp (orOp op_mul op_rep) op_repT
def rLtU : R2 := fun x y H Q => rI0 (fun i j => .bl (decide (i < j))) x y H Q ∨ (∃ i j, x = .str i ∧ y = .str j ∧ Q (.bl (decide (i.cps.toList < j.cps.toList))) H)
theorem op_ltU : OpR X (compareOp .Lt) rLtU := orOp op_lt op_lt_str
def rLeU : R2 := fun x y H Q => rI0 (fun i j => .bl (decide (i ≤ j))) x y H Q ∨ (∃ i j, x = .str i ∧ y = .str j ∧ Q (.bl (!decide (j.cps.toList < i.cps.toList))) H)
theorem op_leU : OpR X (compareOp .LtE) rLeU := orOp op_le op_le_str
abbrev rGtU : R2 := rI0 (fun i j => .bl (decide (j < i)))
theorem op_gtU : OpR X (compareOp .Gt) rGtU := op_gt
abbrev rGeU : R2 := rI0 (fun i j => .bl (decide (j ≤ i)))
theorem op_geU : OpR X (compareOp .GtE) rGeU := op_ge
def rEqU (K : PySem.W.Frag) : R2 := fun x y H Q => rEq x y H Q ∨ rEqD K x y H Q
theorem op_eqU {K : PySem.W.Frag} (hu : X.A.units + 64 < cLine) (hK : X.K = K := by rfl) : OpR X (compareOp .Eq) (rEqU K) := by subst hK; exact orOp op_eq (op_eqD hu)
def rNeU (K : PySem.W.Frag) : R2 := fun x y H Q => rNe x y H Q ∨ rNeD K x y H Q
theorem op_neU {K : PySem.W.Frag} (hu : X.A.units + 64 < cLine) (hK : X.K = K := by rfl) : OpR X (compareOp .NotEq) (rNeU K) := by subst hK; exact orOp op_ne (op_neD hu)
def rInU (K : PySem.W.Frag) (P : Program) (w : World) (neg : Bool) : R2 := fun x y H Q => rIn K neg x y H Q ∨ rSInK P w neg x y H Q
theorem op_inU {K : PySem.W.Frag} {P : Program} {w : World} (hK : X.K = K := by rfl) (hP : X.prog = P := by rfl) (hw : X.w = w := by rfl) : OpR X (compareOp .In) (rInU K P w false) := by subst hK hP hw; exact orOp op_in_seq or_sinK
theorem op_notInU {K : PySem.W.Frag} {P : Program} {w : World} (hK : X.K = K := by rfl) (hP : X.prog = P := by rfl) (hw : X.w = w := by rfl) : OpR X (compareOp .NotIn) (rInU K P w true) := by subst hK hP hw; exact orOp op_notIn_seq or_snotinK
theorem ix_U {K : PySem.W.Frag} (hK : X.K = K := by rfl) : IxR X (rIx K) := by subst hK; exact ix_seq
def rSlU (K : PySem.W.Frag) : V → Option Int → Option Int → Hp → VK → Prop := fun x lo hi H Q => rSlL K x lo hi H Q ∨ rSlA K x lo hi H Q
theorem sl_U {K : PySem.W.Frag} (hK : X.K = K := by rfl) : SlR X (rSlU K) := by subst hK; exact SlR.or sl_list sl_tupA
def rLenU (K : PySem.W.Frag) : List V → Hp → VK → Prop := fun xs H Q => ∃ x n, xs = [x] ∧ LenV K x H n ∧ Q (.int (n : Nat)) H
theorem call_lenU {K : PySem.W.Frag} (hK : X.K = K := by rfl) : CallR X (.builtin "len") (rLenU K) := by subst hK; exact call_len
def rIsiU (K : PySem.W.Frag) : List V → Hp → VK → Prop := fun xs H Q => rIsi K xs H Q ∨ rIsiT K xs H Q
theorem call_isiU {K : PySem.W.Frag} (hK : X.K = K := by rfl) : CallR X (.builtin "isinstance") (rIsiU K) := by subst hK; exact orCall call_isi call_isiT
def rIntU : List V → Hp → VK → Prop := fun xs H Q => (∃ i, xs = [.int i] ∧ Q (.int i) H) ∨ ∃ k, xs = [.bl k] ∧ Q (.int (if k then 1 else 0)) H
theorem call_intU : CallR X (.type "int") rIntU := call_int1
def rMaxU : List V → Hp → VK → Prop := fun xs H Q => ∃ i j, xs = [.int i, .int j] ∧ Q (.int (if j > i then j else i)) H
theorem call_maxU (hc : X.calm = true) : CallR X (.builtin "max") rMaxU := call_max2 hc
def rMinU : List V → Hp → VK → Prop := fun xs H Q => ∃ i j, xs = [.int i, .int j] ∧ Q (.int (if j < i then j else i)) H
theorem call_minU (hc : X.calm = true) : CallR X (.builtin "min") rMinU := call_min2 hc
def rListU (K : PySem.W.Frag) : List V → Hp → VK → Prop := fun xs H Q => ∃ p ys, xs = [.ref p] ∧ (SqL K H p ys ∨ SqT K H p ys) ∧ ∀ l, H l = none → Q (.ref l) (upd H l (.lst ys))
theorem call_listU {K : PySem.W.Frag} (hK : X.K = K := by rfl) : CallR X (.type "list") (rListU K) := by subst hK; exact call_list_of
def rTupU (K : PySem.W.Frag) : List V → Hp → VK → Prop := fun xs H Q => ∃ p ys, xs = [.ref p] ∧ ((SqL K H p ys ∧ ∀ l, H l = none → Q (.ref l) (upd H l (.tup ys))) ∨ (SqT K H p ys ∧ Q (.ref p) H))
theorem call_tupU {K : PySem.W.Frag} (hK : X.K = K := by rfl) : CallR X (.type "tuple") (rTupU K) := by subst hK; exact call_tuple_of
end
/-! ### evaluation -/
section
variable {K : PySem.W.Frag} {H H1 H2 : Hp} {Q : VK} {x y v : V} {a b p q l : Addr} {xs ys : List V} {i j : Int} {z z2 : Str} {P : Program} {w : World}
theorem x_addI : rAddU K (.int i) (.int j) H Q ↔ Q (.int (i + j)) H := by
  constructor
  · rintro ((⟨_, _, h1, h2, h⟩ | ⟨_, _, _, _, h1, _⟩) | ⟨_, _, _, _, h1, _⟩)
    · cases h1; cases h2; exact h
    · cases h1
    · cases h1
  · exact fun h => .inl (.inl ⟨i, j, rfl, rfl, h⟩)
theorem x_mulI : rMulU K (.int i) (.int j) H Q ↔ CMul i j ∧ Q (.int (i * j)) H := by
  constructor
  · rintro ((⟨_, _, h1, h2, h3, h⟩ | ⟨_, _, _, h1, _⟩) | ⟨_, _, _, h1, _⟩)
    · cases h1; cases h2; exact ⟨h3, h⟩
    · cases h1
    · cases h1
  · exact fun h => .inl (.inl ⟨i, j, rfl, rfl, h.1, h.2⟩)
theorem x_rI {C : Int → Int → Prop} {g : Int → Int → V} : rI C g (.int i) (.int j) H Q ↔ C i j ∧ Q (g i j) H := by
  constructor
  · rintro ⟨_, _, h1, h2, h3, h⟩
    cases h1; cases h2; exact ⟨h3, h⟩
  · exact fun h => ⟨i, j, rfl, rfl, h.1, h.2⟩
theorem x_rI0 {g : Int → Int → V} : rI0 g (.int i) (.int j) H Q ↔ Q (g i j) H := by
  constructor
  · rintro ⟨_, _, h1, h2, h⟩
    cases h1; cases h2; exact h
  · exact fun h => ⟨i, j, rfl, rfl, h⟩
theorem x_ltI : rLtU (.int i) (.int j) H Q ↔ Q (.bl (decide (i < j))) H := by
  constructor
  · rintro (⟨_, _, h1, h2, h⟩ | ⟨_, _, h1, _⟩)
    · cases h1; cases h2; exact h
    · cases h1
  · exact fun h => .inl ⟨i, j, rfl, rfl, h⟩
theorem x_leI : rLeU (.int i) (.int j) H Q ↔ Q (.bl (decide (i ≤ j))) H := by
  constructor
  · rintro (⟨_, _, h1, h2, h⟩ | ⟨_, _, h1, _⟩)
    · cases h1; cases h2; exact h
    · cases h1
  · exact fun h => .inl ⟨i, j, rfl, rfl, h⟩
theorem x_ltS : rLtU (.str z) (.str z2) H Q ↔ Q (.bl (decide (z.cps.toList < z2.cps.toList))) H := by
  constructor
  · rintro (⟨_, _, h1, _⟩ | ⟨_, _, h1, h2, h⟩)
    · cases h1
    · cases h1; cases h2; exact h
  · exact fun h => .inr ⟨z, z2, rfl, rfl, h⟩
theorem x_leS : rLeU (.str z) (.str z2) H Q ↔ Q (.bl (!decide (z2.cps.toList < z.cps.toList))) H := by
  constructor
  · rintro (⟨_, _, h1, _⟩ | ⟨_, _, h1, h2, h⟩)
    · cases h1
    · cases h1; cases h2; exact h
  · exact fun h => .inr ⟨z, z2, rfl, rfl, h⟩
theorem dp_int {d : PyData} (h : Dp K H (.int i) d) : d = .int i := by cases h; rfl
theorem dp_str {d : PyData} (h : Dp K H (.str z) d) : d = .str z := by cases h; rfl
theorem dp_bl {c : Bool} {d : PyData} (h : Dp K H (.bl c) d) : d = .bool c := by cases h; rfl
theorem dp_non {d : PyData} (h : Dp K H .non d) : d = .none := by cases h; rfl
theorem eqv_int : PyData.eqv (.int i) (.int j) = decide (V.int i = V.int j) := by
  unfold PyData.eqv
  rw [dec_int]
theorem eqv_str : PyData.eqv (.str z) (.str z2) = decide (V.str z = V.str z2) := by
  unfold PyData.eqv
  rw [dec_str]
theorem eqv_bl {c d : Bool} : PyData.eqv (.bool c) (.bool d) = decide (V.bl c = V.bl d) := by
  unfold PyData.eqv
  rw [dec_bl]
theorem x_eqI : rEqU K (.int i) (.int j) H Q ↔ Q (.bl (decide (i = j))) H := by
  have e0 : decide (V.int i = V.int j) = decide (i = j) := by simp
  constructor
  · rintro (⟨_, h⟩ | ⟨d, e, h1, h2, _, _, h⟩)
    · rw [e0] at h; exact h
    · rw [dp_int h1, dp_int h2, eqv_int, e0] at h; exact h
  · exact fun h => .inl ⟨rfl, by rw [e0]; exact h⟩
theorem x_neI : rNeU K (.int i) (.int j) H Q ↔ Q (.bl (!decide (i = j))) H := by
  have e0 : decide (V.int i = V.int j) = decide (i = j) := by simp
  constructor
  · rintro (⟨_, h⟩ | ⟨d, e, h1, h2, _, _, h⟩)
    · rw [e0] at h; exact h
    · rw [dp_int h1, dp_int h2, eqv_int, e0] at h; exact h
  · exact fun h => .inl ⟨rfl, by rw [e0]; exact h⟩
theorem x_eqS : rEqU K (.str z) (.str z2) H Q ↔ Q (.bl (decide (z = z2))) H := by
  have e0 : decide (V.str z = V.str z2) = decide (z = z2) := by simp
  constructor
  · rintro (⟨_, h⟩ | ⟨d, e, h1, h2, _, _, h⟩)
    · rw [e0] at h; exact h
    · rw [dp_str h1, dp_str h2, eqv_str, e0] at h; exact h
  · exact fun h => .inl ⟨rfl, by rw [e0]; exact h⟩
theorem x_eqB {c d : Bool} : rEqU K (.bl c) (.bl d) H Q ↔ Q (.bl (decide (c = d))) H := by
  have e0 : decide (V.bl c = V.bl d) = decide (c = d) := by simp
  constructor
  · rintro (⟨_, h⟩ | ⟨d, e, h1, h2, _, _, h⟩)
    · rw [e0] at h; exact h
    · rw [dp_bl h1, dp_bl h2, eqv_bl, e0] at h; exact h
  · exact fun h => .inl ⟨rfl, by rw [e0]; exact h⟩
theorem x_neB {c d : Bool} : rNeU K (.bl c) (.bl d) H Q ↔ Q (.bl (!decide (c = d))) H := by
  have e0 : decide (V.bl c = V.bl d) = decide (c = d) := by simp
  constructor
  · rintro (⟨_, h⟩ | ⟨d, e, h1, h2, _, _, h⟩)
    · rw [e0] at h; exact h
    · rw [dp_bl h1, dp_bl h2, eqv_bl, e0] at h; exact h
  · exact fun h => .inl ⟨rfl, by rw [e0]; exact h⟩
def rLst (xs : List V) (H : Hp) (Q : VK) : Prop := xs.length ≤ sizeLine ∧ ∀ p, H p = none → Q (.ref p) (upd H p (.lst xs))
def rTup (xs : List V) (H : Hp) (Q : VK) : Prop := xs.length ≤ sizeLine ∧ ∀ p, H p = none → Q (.ref p) (upd H p (.tup xs))
theorem x_tLst {t : TA} {σ : L2.St} : tLst t σ H Q = t σ H fun xs H1 => rLst xs H1 Q := rfl
theorem x_tTup {t : TA} {σ : L2.St} : tTup t σ H Q = t σ H fun xs H1 => rTup xs H1 Q := rfl
theorem x_new {o : HO} (k : ∀ p H', H p = none → Ex H H' → H' p = some o → Q (.ref p) H') : ∀ p, H p = none → Q (.ref p) (upd H p o) := fun p hp => k p _ hp (Ex.new hp) upd_same
theorem small {n : Nat} (h : n ≤ 1000000) : n ≤ sizeLine := by rw [sizeLine_eq]; omega
theorem x_lst (hl : xs.length ≤ 1000000) (k : ∀ p H', H p = none → Ex H H' → H' p = some (.lst xs) → Q (.ref p) H') : rLst xs H Q := ⟨small hl, x_new k⟩
theorem x_tup (hl : xs.length ≤ 1000000) (k : ∀ p H', H p = none → Ex H H' → H' p = some (.tup xs) → Q (.ref p) H') : rTup xs H Q := ⟨small hl, x_new k⟩
/-! subscripts -/
theorem x_ixL (h : SqL K H p xs) (e : atI xs i = some v) (k : Q v H) : rIx K (.ref p) (.int i) H Q := .inl ⟨p, xs, i, v, rfl, rfl, h, e, k⟩
theorem x_ixT (h : SqT K H p xs) (e : atI xs i = some v) (k : Q v H) : rIx K (.ref p) (.int i) H Q := .inr (.inl ⟨p, xs, i, v, rfl, rfl, h, e, k⟩)
theorem x_cat (h1 : H p = some (.lst xs)) (h2 : H q = some (.lst ys)) (hl : xs.length + ys.length ≤ 1000000) (k : ∀ l H', H l = none → Ex H H' → H' l = some (.lst (xs ++ ys)) → Q (.ref l) H') : rAddU K (.ref p) (.ref q) H Q :=
  .inl (.inr ⟨p, q, xs, ys, rfl, rfl, h1, h2, small hl, x_new k⟩)
theorem x_catT (h1 : SqT K H p xs) (h2 : SqT K H q ys) (hl : xs.length + ys.length ≤ 1000000) (k : ∀ l H', (∀ x o, H x = some o → H' x = some o) → SqT K H' l (xs ++ ys) → Q (.ref l) H') : rAddU K (.ref p) (.ref q) H Q := by
  refine .inr ⟨p, q, xs, ys, rfl, rfl, h1, h2, small hl, fun e => ?_, fun e e2 => ?_, fun e e2 l hl => ?_⟩
  · subst e; exact k q H (fun _ _ h => h) h2
  · subst e2; exact k p H (fun _ _ h => h) (by rw [List.append_nil]; exact h1)
  · exact k l _ (fun x o h => by rw [upd_ne (ne_of_none h hl)]; exact h) (SqT.of upd_same)
theorem x_lenL (h : SqL K H p xs) (k : Q (.int (xs.length : Nat)) H) : rLenU K [V.ref p] H Q := ⟨_, xs.length, rfl, .inl ⟨xs, h, rfl⟩, k⟩
theorem x_lenT (h : SqT K H p xs) (k : Q (.int (xs.length : Nat)) H) : rLenU K [V.ref p] H Q := ⟨_, xs.length, rfl, .inr ⟨xs, h, rfl⟩, k⟩
theorem x_lenS (h : z.length ≤ sizeLine) (k : Q (.int (z.length : Nat)) H) : rLenU K [V.str z] H Q := ⟨_, z.length, rfl, ⟨h, rfl⟩, k⟩
theorem x_int : rIntU [.int i] H Q ↔ Q (.int i) H := by
  constructor
  · rintro (⟨_, h1, h⟩ | ⟨_, h1, _⟩)
    · cases h1; exact h
    · cases h1
  · exact fun h => .inl ⟨_, rfl, h⟩
theorem x_max : rMaxU [.int i, .int j] H Q ↔ Q (.int (if j > i then j else i)) H := by
  constructor
  · rintro ⟨_, _, h1, h⟩
    cases h1; exact h
  · exact fun h => ⟨_, _, rfl, h⟩
theorem x_min : rMinU [.int i, .int j] H Q ↔ Q (.int (if j < i then j else i)) H := by
  constructor
  · rintro ⟨_, _, h1, h⟩
    cases h1; exact h
  · exact fun h => ⟨_, _, rfl, h⟩
theorem x_listL (h : SqL K H p xs) (k : ∀ l H', H l = none → Ex H H' → H' l = some (.lst xs) → Q (.ref l) H') : rListU K [.ref p] H Q := ⟨p, xs, rfl, .inl h, x_new k⟩
theorem x_listT (h : SqT K H p xs) (k : ∀ l H', H l = none → Ex H H' → H' l = some (.lst xs) → Q (.ref l) H') : rListU K [.ref p] H Q := ⟨p, xs, rfl, .inr h, x_new k⟩
theorem x_tupL (h : SqL K H p xs) (k : ∀ l H', H l = none → Ex H H' → H' l = some (.tup xs) → Q (.ref l) H') : rTupU K [.ref p] H Q := ⟨p, xs, rfl, .inl ⟨h, x_new k⟩⟩
theorem x_tupT (h : SqT K H p xs) (k : Q (.ref p) H) : rTupU K [.ref p] H Q := ⟨p, xs, rfl, .inr ⟨h, k⟩⟩
theorem x_setL {n : Nat} {k : Hp → Prop} (h : H p = some (.lst xs)) (hj : ixN xs.length i = some n) (q : ∀ H', (∀ x o, x ≠ p → H x = some o → H' x = some o) → H' p = some (.lst (xs.set n v)) → k H') : rSetL (.ref p) (.int i) v H k :=
  ⟨p, xs, i, n, rfl, rfl, h, hj, q _ (fun x o hx e => by rw [upd_ne hx]; exact e) upd_same⟩
theorem ixN_in {n : Nat} {i : Int} (h0 : 0 ≤ i) (h1 : i < n) : ixN n i = some i.toNat := by unfold ixN; rw [if_pos h0, if_pos h1]
theorem atI_in {xs : List V} {i : Int} {v : V} (h0 : 0 ≤ i) (h : xs[i.toNat]? = some v) : atI xs i = some v := by
  have h1 : i.toNat < xs.length := (List.getElem?_eq_some_iff.mp h).1
  unfold atI
  rw [ixN_in h0 (by omega)]
  exact h
theorem x_isiI : rIsiU K [.int i, .ty "str"] H Q ↔ Q (.bl false) H := by
  constructor
  · rintro (⟨x, c, t, u, b, h1, h2, h3, h4, h⟩ | ⟨x, tp, cs, t, us, b, h1, h2⟩)
    · cases h1
      cases h2
      cases h3 with
      | base h3 =>
        cases h3
        have e : PySem.W.kitOne K (.type "int") (.type "str") = some false := by rfl
        rw [e] at h4; cases h4; exact h
    · cases h1
  · exact fun h => .inl ⟨_, _, .type "int", .type "str", false, rfl, .ty _, .base (.int i), rfl, h⟩
theorem x_isiS : rIsiU K [.str z, .ty "str"] H Q ↔ Q (.bl true) H := by
  constructor
  · rintro (⟨x, c, t, u, b, h1, h2, h3, h4, h⟩ | ⟨x, tp, cs, t, us, b, h1, h2⟩)
    · cases h1
      cases h2
      cases h3 with
      | base h3 =>
        cases h3
        have e : PySem.W.kitOne K (.type "str") (.type "str") = some true := by rfl
        rw [e] at h4; cases h4; exact h
    · cases h1
  · exact fun h => .inl ⟨_, _, .type "str", .type "str", true, rfl, .ty _, .base (.str z), rfl, h⟩
end
end FB
set_option Elab.async false
set_option linter.all false
set_option maxRecDepth 100000
set_option maxHeartbeats 4000000
/-! Data that never changes: ints, texts, tuples of such. -/
namespace L2
open PySem PySem.Spec PyProof.Rows Evl FB
def isConst : HO → Prop
  | .tup _ => True
  | .frz _ _ => True
  | _ => False
/-- what never changes stands -/
def TX (H H' : Hp) : Prop := ∀ x o, H x = some o → isConst o → H' x = some o
/-- all but what stands at a and b -/
def Ex2 (a b : Addr) (H H' : Hp) : Prop := ∀ x o, H x = some o → x ≠ a → x ≠ b → H' x = some o
section
variable {K : PySem.W.Frag} {H H1 H' : Hp} {a b p x : Addr} {xs ys : List V} {v : V}
theorem TX.refl (H : Hp) : TX H H := fun _ _ h _ => h
theorem TX.trans (e : TX H H1) (f : TX H1 H') : TX H H' := fun x o h c => f x o (e x o h c) c
theorem TX.of (e : Ex H H') : TX H H' := fun x o h _ => e x o h
theorem TX.new {o : HO} (h : H p = none) : TX H (upd H p o) := TX.of (Ex.new h)
theorem TX.but (h : H p = some (.lst xs)) (e : ∀ x o, x ≠ p → H x = some o → H' x = some o) : TX H H' := fun x o hx c => e x o (fun z => by subst z; rw [h] at hx; cases hx; exact c) hx
theorem TX.upd {o : HO} (h : H p = some (.lst xs)) : TX H (upd H p o) := TX.but h fun x u hx e => by rw [upd_ne hx]; exact e
theorem TX.two (h : H a = some (.lst xs)) (h2 : H b = some (.lst ys)) (e : Ex2 a b H H') : TX H H' := fun x o hx c =>
  e x o hx (fun z => by subst z; rw [h] at hx; cases hx; exact c) (fun z => by subst z; rw [h2] at hx; cases hx; exact c)
theorem TX.rd {u : HO} (e : TX H H') (c : isConst u) (h : Rd H a u) : Rd H' a u := by
  rcases h with h | ⟨o, h⟩
  · exact .inl (e a _ h c)
  · exact .inr ⟨o, e a _ h trivial⟩
theorem TX.t (e : TX H H') (h : SqT K H a xs) : SqT K H' a xs := by
  rcases h with h | h
  · exact .inl (e.rd trivial h)
  · exact .inr h
theorem Ex2.refl (H : Hp) : Ex2 a b H H := fun _ _ h _ _ => h
theorem Ex2.of (e : Ex H H') : Ex2 a b H H' := fun x o h _ _ => e x o h
theorem Ex2.trans (e : Ex2 a b H H1) (f : Ex2 a b H1 H') : Ex2 a b H H' := fun x o h ha hb => f x o (e x o h ha hb) ha hb
theorem Ex2.ex (e : Ex2 a b H H1) (f : Ex H1 H') : Ex2 a b H H' := fun x o h ha hb => f x o (e x o h ha hb)
/-- ints, texts, tuples of such -/
inductive TupD : PyData → Prop
  | non : TupD .none
  | bl (b : Bool) : TupD (.bool b)
  | int (i : Int) : TupD (.int i)
  | str (x : Str) : TupD (.str x)
  | tup {ds : List PyData} : (∀ d ∈ ds, TupD d) → TupD (.tuple ds)
theorem TupD.all {ds : List PyData} (h : TupD (.tuple ds)) : ∀ d ∈ ds, TupD d := by
  cases h with
  | tup h => exact h
mutual
theorem Dp.tx (e : TX H H') : ∀ {v : V} {d : PyData}, Dp K H v d → TupD d → Dp K H' v d
  | _, _, .non, _ => .non
  | _, _, .bl b, _ => .bl b
  | _, _, .int i, _ => .int i
  | _, _, .str x, _ => .str x
  | _, _, .lst _ _, t => nomatch t
  | _, _, .tup h hs, .tup hd => .tup (e.t h) (DpAll.tx e hs hd)
theorem DpAll.tx (e : TX H H') : ∀ {vs : List V} {ds : List PyData}, DpAll K H vs ds → (∀ d ∈ ds, TupD d) → DpAll K H' vs ds
  | _, _, .nil, _ => .nil
  | _, _, .cons h hs, t => .cons (Dp.tx e h (t _ (List.mem_cons_self ..))) (DpAll.tx e hs fun d hd => t d (List.mem_cons_of_mem _ hd))
end
mutual
theorem Dp.ex (e : Ex H H') : ∀ {v : V} {d : PyData}, Dp K H v d → Dp K H' v d
  | _, _, .non => .non
  | _, _, .bl b => .bl b
  | _, _, .int i => .int i
  | _, _, .str x => .str x
  | _, _, .lst h hs => .lst (ex_l e h) (DpAll.ex e hs)
  | _, _, .tup h hs => .tup (ex_t e h) (DpAll.ex e hs)
theorem DpAll.ex (e : Ex H H') : ∀ {vs : List V} {ds : List PyData}, DpAll K H vs ds → DpAll K H' vs ds
  | _, _, .nil => .nil
  | _, _, .cons h hs => .cons (Dp.ex e h) (DpAll.ex e hs)
end
theorem Dp.tup_inv {ds : List PyData} (h : Dp K H v (.tuple ds)) : ∃ a xs, v = .ref a ∧ SqT K H a xs ∧ DpAll K H xs ds := by
  cases h with
  | tup h hs => exact ⟨_, _, rfl, h, hs⟩
theorem Dp.int_inv {i : Int} (h : Dp K H v (.int i)) : v = .int i := by cases h; rfl
theorem Dp.str_inv {i : Str} (h : Dp K H v (.str i)) : v = .str i := by cases h; rfl
theorem DpAll.len : ∀ {vs : List V} {ds : List PyData}, DpAll K H vs ds → vs.length = ds.length
  | _, _, .nil => rfl
  | _, _, .cons _ hs => congrArg (· + 1) hs.len
theorem DpAll.get : ∀ {vs : List V} {ds : List PyData} {i : Nat} {d : PyData}, DpAll K H vs ds → ds[i]? = some d → ∃ v, vs[i]? = some v ∧ Dp K H v d
  | _, _, _, _, .nil, e => by simp at e
  | _, _, 0, _, .cons h _, e => by simp at e; subst e; exact ⟨_, rfl, h⟩
  | _, _, i + 1, _, .cons _ hs, e => by
    obtain ⟨v, h1, h2⟩ := DpAll.get (i := i) hs (by simpa using e)
    exact ⟨v, by simpa using h1, h2⟩
theorem DpAll.get' : ∀ {vs : List V} {ds : List PyData} {i : Nat} {v : V}, DpAll K H vs ds → vs[i]? = some v → ∃ d, ds[i]? = some d ∧ Dp K H v d
  | _, _, _, _, .nil, e => by simp at e
  | _, _, 0, _, .cons h _, e => by simp at e; subst e; exact ⟨_, rfl, h⟩
  | _, _, i + 1, _, .cons _ hs, e => by
    obtain ⟨v, h1, h2⟩ := DpAll.get' (i := i) hs (by simpa using e)
    exact ⟨v, by simpa using h1, h2⟩
theorem DpAll.append : ∀ {vs ws : List V} {ds es : List PyData}, DpAll K H vs ds → DpAll K H ws es → DpAll K H (vs ++ ws) (ds ++ es)
  | _, _, _, _, .nil, h => h
  | _, _, _, _, .cons h hs, k => .cons h (hs.append k)
theorem DpAll.take : ∀ {vs : List V} {ds : List PyData} (n : Nat), DpAll K H vs ds → DpAll K H (vs.take n) (ds.take n)
  | _, _, 0, _ => .nil
  | _, _, _ + 1, .nil => .nil
  | _, _, n + 1, .cons h hs => .cons h (hs.take n)
theorem DpAll.drop : ∀ {vs : List V} {ds : List PyData} (n : Nat), DpAll K H vs ds → DpAll K H (vs.drop n) (ds.drop n)
  | _, _, 0, h => h
  | _, _, _ + 1, .nil => .nil
  | _, _, n + 1, .cons _ hs => hs.drop n
end
/-! ### a place, a station, a network -/
abbrev Net := List (List Key)
def keyD : Key → PyData
  | .inl i => .int i
  | .inr x => .str x
def stD (s : List Key) : PyData := .tuple (s.map keyD)
def netD (N : Net) : PyData := .tuple (N.map stD)
section
variable {K : PySem.W.Frag} {H H' : Hp} {v : V}
theorem keyD_t : ∀ k : Key, TupD (keyD k)
  | .inl i => .int i
  | .inr x => .str x
theorem stD_t (s : List Key) : TupD (stD s) := .tup fun d hd => by
  obtain ⟨k, _, rfl⟩ := List.mem_map.mp hd
  exact keyD_t k
theorem netD_t (N : Net) : TupD (netD N) := .tup fun d hd => by
  obtain ⟨k, _, rfl⟩ := List.mem_map.mp hd
  exact stD_t k
theorem key_dp : ∀ k : Key, Dp K H (kV k) (keyD k)
  | .inl i => .int i
  | .inr x => .str x
theorem keys_dp : ∀ s : List Key, DpAll K H (s.map kV) (s.map keyD)
  | [] => .nil
  | k :: s => .cons (key_dp k) (keys_dp s)
theorem dp_key {k : Key} (h : Dp K H v (keyD k)) : v = kV k := by
  cases k with
  | inl i => exact h.int_inv
  | inr x => exact h.str_inv
theorem dp_keys : ∀ {s : List Key} {vs : List V}, DpAll K H vs (s.map keyD) → vs = s.map kV
  | [], _, .nil => rfl
  | k :: s, _, .cons h hs => by rw [dp_key h, dp_keys hs]; rfl
/-- a station of the network stands at v -/
abbrev StAt (K : PySem.W.Frag) (H : Hp) (v : V) (s : List Key) : Prop := Dp K H v (stD s)
abbrev NetAt (K : PySem.W.Frag) (H : Hp) (v : V) (N : Net) : Prop := Dp K H v (netD N)
theorem StAt.at {s : List Key} (h : StAt K H v s) : ∃ a, v = .ref a ∧ SqT K H a (s.map kV) := by
  obtain ⟨a, xs, e, h1, h2⟩ := Dp.tup_inv h
  rw [dp_keys h2] at h1
  exact ⟨a, e, h1⟩
theorem StAt.of {a : Addr} {s : List Key} (h : SqT K H a (s.map kV)) : StAt K H (.ref a) s := .tup h (keys_dp s)
theorem NetAt.at {N : Net} (h : NetAt K H v N) : ∃ a ts, v = .ref a ∧ SqT K H a ts ∧ DpAll K H ts (N.map stD) := Dp.tup_inv h
theorem NetAt.tx {N : Net} (e : TX H H') (h : NetAt K H v N) : NetAt K H' v N := Dp.tx e h (netD_t N)
theorem StAt.tx {s : List Key} (e : TX H H') (h : StAt K H v s) : StAt K H' v s := Dp.tx e h (stD_t s)
end
end L2
set_option Elab.async false
set_option linter.all false
set_option maxRecDepth 100000
set_option maxHeartbeats 4000000
/-! Loops and comprehensions, folded. -/
namespace FB
open PySem PySem.Spec PyProof.Rows L2 Evl
/-- a loop's reading -/
def Loop (J : It) (g : TG) (tb : TS) (D : Ends) (σ : L2.St) (H1 : Hp) : Prop := ∃ W : Nat → Nat → L2.St → Hp → Prop, (∃ m, W 0 m σ H1) ∧ ∀ i m σ H, W i m σ H →
  (J.stop i H ∧ D.nx σ H) ∨ (J.go i H ∧ ∃ N : L2.St → Hp → Prop, (∀ σ' H', N σ' H' → ∃ m', m' < m ∧ W (i + 1) m' σ' H') ∧ ∀ x H', J.yld i H x H' → g x σ H' fun σ2 H2 => tb { D with nx := N, ct := N, bk := D.nx } σ2 H2)
theorem x_tFor {wi : TI} {g : TG} {tb : TS} {D : Ends} {σ : L2.St} {H : Hp} : tFor wi g tb D σ H = wi σ H fun J H1 => Loop J g tb D σ H1 := rfl
theorem loop_it {J : It} {n : Nat} {G : Hp → Prop} {Y : Nat → Hp → V → Hp → Prop} {g : TG} {tb : TS} {D : Ends} {σ : L2.St} {H : Hp} (w : Walk J n G Y) (Pv : Nat → L2.St → Hp → Prop) (h0 : Pv 0 σ H) (hG : ∀ i σ H, i ≤ n → Pv i σ H → G H)
    (hs : ∀ i x σ H H', i < n → Pv i σ H → Y i H x H' → g x σ H' fun σ2 H2 => tb { D with nx := Pv (i + 1), ct := Pv (i + 1), bk := D.nx } σ2 H2) (hd : ∀ σ H, Pv n σ H → D.nx σ H) : Loop J g tb D σ H := for_it w Pv h0 hG hs hd
/-- a comprehension's reading -/
def LcL (J : It) (g : TG) (tt : TT) (te : TE) (vs : List Nat) (σ : L2.St) (H1 : Hp) (Q : VK) : Prop := ∀ D, H1 D = none → ∃ W : Nat → Nat → Hp → Prop, (∃ m, W 0 m (upd H1 D (.lst []))) ∧ ∀ i m H, W i m H →
  (J.stop i H ∧ Q (.ref D) H) ∨ (J.go i H ∧ ∃ Nx : Hp → Prop, (∀ H', Nx H' → ∃ m', m' < m ∧ W (i + 1) m' H') ∧ ∀ x H', J.yld i H x H' → g x (wipe σ vs) H' fun σ2 H2 => wipe σ2 vs = wipe σ vs ∧ tt σ2 H2 fun b H3 =>
    if b = true then te σ2 H3 fun y H4 => ∃ acc, H4 D = some (.lst acc) ∧ acc.length < sizeLine ∧ Nx (upd H4 D (.lst (acc ++ [y]))) else Nx H3)
theorem x_tLc {wi : TI} {g : TG} {tt : TT} {te : TE} {vs : List Nat} {σ : L2.St} {H : Hp} {Q : VK} : tLc wi g tt te vs σ H Q = wi σ H fun J H1 => LcL J g tt te vs σ H1 Q := rfl
/-- the item goes to the list at D -/
def Push (D : Addr) (N : Hp → Prop) : VK := fun y H4 => ∃ acc, H4 D = some (.lst acc) ∧ acc.length < sizeLine ∧ N (upd H4 D (.lst (acc ++ [y])))
theorem x_push {D : Addr} {N : Hp → Prop} {y : V} {H : Hp} {acc : List V} (h : H D = some (.lst acc)) (hl : acc.length < 1000000) (k : ∀ H5, (∀ x o, x ≠ D → H x = some o → H5 x = some o) → H5 D = some (.lst (acc ++ [y])) → N H5) : Push D N y H :=
  ⟨acc, h, by rw [sizeLine_eq]; omega, k _ (fun x o hx e => by rw [upd_ne hx]; exact e) upd_same⟩
theorem lcl_it {J : It} {n : Nat} {G : Hp → Prop} {Y : Nat → Hp → V → Hp → Prop} {g : TG} {tt : TT} {te : TE} {vs : List Nat} {σ : L2.St} {H1 : Hp} {Q : VK} (w : Walk J n G Y) (Pv : Addr → Nat → Hp → Prop)
    (h0 : ∀ D H', H1 D = none → Ex H1 H' → H' D = some (.lst []) → Pv D 0 H') (hG : ∀ D i H, i ≤ n → Pv D i H → G H)
    (hs : ∀ D i x H H', H1 D = none → i < n → Pv D i H → Y i H x H' → g x (wipe σ vs) H' fun σ2 H2 => wipe σ2 vs = wipe σ vs ∧ tt σ2 H2 fun b H3 => if b = true then te σ2 H3 (Push D (Pv D (i + 1))) else Pv D (i + 1) H3)
    (hd : ∀ D H, H1 D = none → Pv D n H → Q (.ref D) H) : LcL J g tt te vs σ H1 Q := fun D hD =>
  lc_it w (Pv D) (h0 D _ hD (Ex.new hD) upd_same) (hG D) (fun i x H H' hi p y => hs D i x H H' hD hi p y) (fun H p => hd D H hD p)
section
variable {H : Hp} {p : Addr} {xs : List V} {v : V} {Q : VK}
theorem x_menu {K : PySem.W.Frag} {r : Int} (h : H p = some (.lst xs)) (r0 : 0 ≤ r) (r1 : r < xs.length) (k : ∀ v, xs[r.toNat]? = some v → v ∈ xs → Q v H) : rIx K (.ref p) (.int r) H Q := by
  have hr : r.toNat < xs.length := by omega
  exact x_ixL (SqL.of h) (atI_in r0 (by simp [hr])) (k xs[r.toNat] (by simp [hr]) (List.getElem_mem hr))
theorem x_tyL {K : PySem.W.Frag} (h : SqL K H p xs) : tyV K "list" (.ref p) H := .inl ⟨rfl, xs, h⟩
theorem x_append (h : H p = some (.lst xs)) (hl : xs.length < 1000000) (k : ∀ H', (∀ x o, x ≠ p → H x = some o → H' x = some o) → H' p = some (.lst (xs ++ [v])) → Q .non H') : rAppend (.ref p) [v] H Q :=
  ⟨p, xs, v, rfl, rfl, h, by rw [sizeLine_eq]; omega, k _ (fun x o hx e => by rw [upd_ne hx]; exact e) upd_same⟩
theorem x_never {D : Ends} {σ : L2.St} {H : Hp} : tNever D σ H = False := rfl
/-- a list or a tuple that is read -/
def SqA (K : PySem.W.Frag) (H : Hp) (p : Addr) (xs : List V) : Prop := SqL K H p xs ∨ SqT K H p xs
theorem SqA.ex {K : PySem.W.Frag} {H' : Hp} (h : SqA K H p xs) (e : Ex H H') : SqA K H' p xs := h.elim (fun h => .inl (ex_l e h)) (fun h => .inr (ex_t e h))
theorem x_ixA {K : PySem.W.Frag} {i : Int} (h : SqA K H p xs) (e : atI xs i = some v) (k : Q v H) : rIx K (.ref p) (.int i) H Q := h.elim (fun h => x_ixL h e k) (fun h => x_ixT h e k)
theorem x_lenA {K : PySem.W.Frag} (h : SqA K H p xs) (k : Q (.int (xs.length : Nat)) H) : rLenU K [.ref p] H Q := h.elim (fun h => x_lenL h k) (fun h => x_lenT h k)
theorem x_eqD {K : PySem.W.Frag} {x y : V} {d e : PyData} (h1 : Dp K H x d) (h2 : Dp K H y e) (s1 : SeqAt.shaped d = true) (s2 : SeqAt.shaped e = true) (k : Q (.bl (PyData.eqv d e)) H) : rEqU K x y H Q := .inr ⟨d, e, h1, h2, s1, s2, k⟩
theorem x_neD {K : PySem.W.Frag} {x y : V} {d e : PyData} (h1 : Dp K H x d) (h2 : Dp K H y e) (s1 : SeqAt.shaped d = true) (s2 : SeqAt.shaped e = true) (k : Q (.bl (!PyData.eqv d e)) H) : rNeU K x y H Q := .inr ⟨d, e, h1, h2, s1, s2, k⟩
def tyN : PyData → String
  | .none => "NoneType"
  | .bool _ => "bool"
  | .int _ => "int"
  | .str _ => "str"
  | .list _ => "list"
  | .tuple _ => "tuple"
  | .dict _ => "dict"
theorem dp_ty {K : PySem.W.Frag} {d : PyData} (h : Dp K H v d) : TyX K H v (.type (tyN d)) := by
  cases h with
  | non => exact .base .non
  | bl b => exact .base (.bl b)
  | int i => exact .base (.int i)
  | str x => exact .base (.str x)
  | lst h _ =>
    rcases h with (h | ⟨o, h⟩) | ⟨o, its, n, h1, h2, _⟩
    · exact .base (.lst h)
    · exact .base (.frz h)
    · exact .kList h1 h2
  | tup h _ =>
    rcases h with (h | ⟨o, h⟩) | ⟨o, its, n, h1, h2, _⟩
    · exact .base (.tup h)
    · exact .fTuple h
    · exact .kTuple h1 h2
theorem x_isD {K : PySem.W.Frag} {d : PyData} {T : String} {b : Bool} (h : Dp K H v d) (e : PySem.W.kitOne K (.type (tyN d)) (.type T) = some b) (k : Q (.bl b) H) : rIsiU K [v, .ty T] H Q := .inl ⟨_, _, _, _, b, rfl, .ty _, dp_ty h, e, k⟩
theorem x_isD2 {K : PySem.W.Frag} {d : PyData} {A B : String} {b : Bool} {tp : Addr} (h : Dp K H v d) (ht : H tp = some (.tup [.ty A, .ty B])) (e : PySem.W.kitAny K (.type (tyN d)) [.type A, .type B] = some b) (k : Q (.bl b) H) : rIsiU K [v, .ref tp] H Q :=
  .inr ⟨v, tp, [.ty A, .ty B], _, [.type A, .type B], b, rfl, ht, .cons (.ty _) (.cons (.ty _) .nil), dp_ty h, e, k⟩
theorem x_range1 {n : Int} {R : It → Hp → Prop} (h : -1000000000000000000 ≤ n ∧ n ≤ 1000000000000000000) (k : R (Itr 0 n.toNat) H) : ∃ j : Int, [V.int n] = [.int j] ∧ -(2 ^ 62) ≤ j ∧ j < 2 ^ 62 ∧ R (Itr 0 j.toNat) H := ⟨n, rfl, by omega, by omega, k⟩
end
/-- a list, a tuple, a text that is walked -/
def rIter (K : PySem.W.Frag) (x : V) (H : Hp) (R : It → Hp → Prop) : Prop := (∃ a xs, x = .ref a ∧ SqL K H a xs ∧ R (Itl K a) H) ∨ (∃ a xs, x = .ref a ∧ SqT K H a xs ∧ R (Itt K a) H) ∨ (∃ z, x = .str z ∧ R (Its z) H)
def iU (K : PySem.W.Frag) (te : TE) : TI := fun σ H R => te σ H fun x H1 => rIter K x H1 R
theorem pi_U {X : Cx} {tg e : Expr} {te : TE} {K : PySem.W.Frag} (he : PE X e te) (hK : X.K = K := by rfl) : PI X tg e (iU K te) := by
  subst hK
  refine ⟨fun pins s σ H R I h => ?_⟩
  refine thn (he.run pins s σ H _ I h) fun v s1 ⟨x, H1, I1, r1, q1⟩ => ?_
  rcases q1 with ⟨a, xs, e, hq, q⟩ | ⟨a, xs, e, hq, q⟩ | ⟨z, e, q⟩
  · subst e
    cases r1
    obtain ⟨its, rv, p, hz⟩ := I1.list hq
    refine wpAny_pyIter_list p.isList ?_
    refine ⟨s1.heap.objs.size, [s1.heap.objs.size], _, _, H1, rfl, I1.kept (t' := s1.toks) fun b o e => Heap.get?_push_of_some _ e, turn_list a _, ⟨_, Heap.get?_push_size _ rfl, rfl, rfl⟩, fun b hb => ?_, q⟩
    have e : b = s1.heap.objs.size := by simpa using hb
    subst e
    exact I1.fpOk (Nat.le_refl _) (I1.hok.fresh (Nat.le_refl _))
  · subst e
    cases r1
    obtain ⟨its, rv, p, hz⟩ := I1.tuple hq
    refine wpAny_pyIter_tuple (show s1.heap.IsTuple a its.toArray from p) ?_
    refine ⟨s1.heap.objs.size, [s1.heap.objs.size], _, _, H1, rfl, I1.kept (t' := s1.toks) fun b o e => Heap.get?_push_of_some _ e, turn_tuple a _, ⟨_, Heap.get?_push_size _ rfl, rfl, rfl⟩, fun b hb => ?_, q⟩
    have e : b = s1.heap.objs.size := by simpa using hb
    subst e
    exact I1.fpOk (Nat.le_refl _) (I1.hok.fresh (Nat.le_refl _))
  · subst e
    obtain ⟨t, rfl⟩ := r1
    cases ha : z.cps.all (· < 128)
    · exact wpAny_pyIter_wide ha (pi_one (tk := s1.toks) I1 _ (turn_str _ z t "str_iterator" (.inr rfl)) ⟨_, Heap.get?_push_size _ rfl, rfl, rfl⟩ q)
    · exact wpAny_pyIter_ascii ha (pi_one (tk := s1.toks) I1 _ (turn_str _ z t "str_ascii_iterator" (.inl rfl)) ⟨_, Heap.get?_push_size _ rfl, rfl, rfl⟩ q)
theorem x_itL {K : PySem.W.Frag} {H : Hp} {a : Addr} {xs : List V} {R : It → Hp → Prop} (h : SqL K H a xs) (k : R (Itl K a) H) : rIter K (.ref a) H R := .inl ⟨a, xs, rfl, h, k⟩
theorem x_itT {K : PySem.W.Frag} {H : Hp} {a : Addr} {xs : List V} {R : It → Hp → Prop} (h : SqT K H a xs) (k : R (Itt K a) H) : rIter K (.ref a) H R := .inr (.inl ⟨a, xs, rfl, h, k⟩)
theorem x_itS {K : PySem.W.Frag} {H : Hp} {z : Str} {R : It → Hp → Prop} : rIter K (.str z) H R ↔ R (Its z) H := by
  constructor
  · rintro (⟨_, _, e, _⟩ | ⟨_, _, e, _⟩ | ⟨_, e, h⟩)
    · cases e
    · cases e
    · cases e; exact h
  · exact fun h => .inr (.inr ⟨z, rfl, h⟩)
theorem call_allU {X : Cx} (hc : X.calm = true) {K : PySem.W.Frag} (hK : X.K = K := by rfl) : CallR X (.builtin "all") (rAll K) := by subst hK; exact cr_all hc
theorem call_anyU {X : Cx} (hc : X.calm = true) {K : PySem.W.Frag} (hK : X.K = K := by rfl) : CallR X (.builtin "any") (rAny K) := by subst hK; exact cr_any hc
end FB
set_option Elab.async false
set_option linter.all false
set_option maxRecDepth 100000
set_option maxHeartbeats 4000000
/-! enumerate of a tuple. -/
namespace FB
open PySem PySem.Spec PyProof.Rows L2 Evl
/-- one argument: the count begins at 0 -/
theorem meets_enum1 {v : Value} {o : Obj} {W : Heap → Prop} (B : Begins v o W) :
    Meets (Builtin.«enumerate.__new__» ⟨[.type "enumerate", v], []⟩) (fun _ R s => W s.heap ∧
      R (.ok (.ret (.ref (s.heap.push o).objs.size))) { s with heap := (s.heap.push o).push { cls := .type "enumerate", data := .fields #[.none, .bool false, .ref s.heap.objs.size, rawInt 0, .none, .none] } }) := by
  refine .of_wp ?_
  intro prog w A R s hs
  rcases s with ⟨hp, g, d, tk, os⟩
  rcases hs with ⟨h1, h2⟩
  have sub0 := sub_enumerate
  have go : ∀ {A' : Around} {E Q : Value → Shared → Prop}, Q (.ref hp.objs.size) ⟨hp.push o, g, d, tk, os⟩ → wpAny (model prog w) A' (pyIter v) Q E ⟨hp, g, d, tk, os⟩ := by
    intro A' E Q q
    exact B.iter prog w A' E _ Q h1 q
  wp_walk using go
  apply wpAny_stack_any
  intro st
  apply wpAny_pure
  split
  case h_1 c _ _ _ _ _ =>
    by_cases hc : (c == Value.type "enumerate") = true
    all_goals (simp only [hc]; wp_walk using go)
    all_goals exact ⟨_, rfl, h2⟩
  all_goals (wp_walk using go)
  all_goals exact ⟨_, rfl, h2⟩
section
variable {prog : Program} {w : World} {A : Around} {E : Value → Shared → Prop} {s : Shared}
theorem enum_one {v : Value} {o : Obj} {W : Heap → Prop} {Q : Value → Shared → Prop} (B : Begins v o W) (h1 : W s.heap)
    (h : ∀ h', IsEnum h' (s.heap.objs.size + 1) s.heap.objs.size 0 .none → h'.get? s.heap.objs.size = some o → (∀ b u, s.heap.get? b = some u → h'.get? b = some u) → Q (.ref (s.heap.objs.size + 1)) { s with heap := h' }) :
    wpAny (model prog w) A (call (.type "enumerate") [v]) Q E s := by
  have sz : (s.heap.push o).objs.size = s.heap.objs.size + 1 := Heap.size_push ..
  have at1 := Heap.get?_push_size (s.heap.push o) (o := { cls := .type "enumerate", data := .fields #[.none, .bool false, .ref s.heap.objs.size, rawInt 0, .none, .none] }) rfl
  rw [sz] at at1
  have en : IsEnum _ (s.heap.objs.size + 1) s.heap.objs.size 0 .none := at1
  apply callType_new F.called_enumerate (by decide) (F.typeCall_enumerate_1 _) (F.newCall_enumerate_1 _) (fun x => F.args_object_init_2 x _) F.entry_enumerate_new (meets_enum1 B)
  refine ⟨h1, ?_⟩
  rw [sz]
  exact ⟨⟨_, en, rfl⟩, h _ en (Heap.get?_push_of_some _ (Heap.get?_push_size _ B.free)) (fun b u x => Heap.get?_push_of_some _ (Heap.get?_push_of_some _ x))⟩
end
/-- the tuple at a, each item in a new pair with its place -/
def IteT (K : PySem.W.Frag) (a : Addr) : It where
  go := fun i H => ∃ (xs : List V) (x : V), SqT K H a xs ∧ xs[i]? = some x
  yld := fun i H v H' => ∃ T x, v = .ref T ∧ H T = none ∧ H' = upd H T (.tup [.int (i : Nat), x]) ∧ ∀ xs, SqT K H a xs → xs[i]? = some x
  stop := fun i H => ∃ xs : List V, SqT K H a xs ∧ xs.length = i
theorem walk_enumT {K : PySem.W.Frag} {a : Addr} {xs : List V} : Walk (IteT K a) xs.length (fun H => SqT K H a xs) (YPair (fun i => some (.int (i : Nat))) (fun i => xs[i]?)) where
  goes := fun i H hi q => ⟨xs, xs[i], q, by simp [hi]⟩
  stops := fun H q => ⟨xs, q, rfl⟩
  yields := fun i H v H' _ q ⟨T, x, h1, h2, h3, h4⟩ => ⟨T, .int (i : Nat), x, h1, h2, h3, rfl, h4 xs q⟩
/-- the iterator's two objects -/
def EnT (a e it : Addr) (i : Nat) (h : Heap) : Prop := (∃ old, IsEnum h e it ((i : Nat) : Int) old) ∧ h.IsTupleIter it a i ∧ e ≠ it
theorem turn_enumT {P : Program} {w : World} {K : PySem.W.Frag} {elts : List Expr} {kk : Nat} {tpos : Pos} (a e it : Addr) : Turn P w K (.Tuple elts kk tpos) (IteT K a) [e, it] e (EnT a e it) := by
  constructor
  case mem => exact List.mem_cons_self ..
  case obj =>
    rintro i h ⟨⟨old, he⟩, ⟨o, ho, _, hd⟩, _⟩ b hb
    simp only [List.mem_cons, List.not_mem_nil, or_false] at hb
    rcases hb with rfl | rfl
    · exact ⟨_, he, fun v q => nomatch q⟩
    · exact ⟨o, ho, fun v q => by rw [hd] at q; cases q⟩
  case keep =>
    rintro i h h' ⟨⟨old, he⟩, hi, ne⟩ k
    exact ⟨⟨old, k e (by simp) _ he⟩, hi.at (fun o q => k it (by simp) o q), ne⟩
  case self =>
    rintro A i s Q E ⟨⟨old, he⟩, _⟩ h
    exact wpAny_pyIter_enum he h
  case item =>
    rintro X rfl rfl rfl hc i pins s σ H E I hf ⟨⟨old, he⟩, hit, ne⟩ ⟨xs, x, hq, hx⟩
    obtain ⟨its, rv, p, hz⟩ := I.tuple hq
    have p' : s.heap.IsTuple a its.toArray := p
    obtain ⟨u, hu, ru⟩ := rv.get hx
    have hlt : i < its.length := (List.getElem?_eq_some_iff.mp hu).1
    have nai : a ≠ it := by
      rintro rfl
      obtain ⟨o1, e1, c1, _⟩ := p'
      obtain ⟨o2, e2, c2, _⟩ := hit
      rw [e1] at e2
      cases e2
      rw [c1] at c2
      exact absurd c2 (by decide)
    have nea : e ≠ a := by
      rintro rfl
      obtain ⟨o1, e1, c1, _⟩ := p'
      have e2 : s.heap.get? e = some _ := he
      rw [e1] at e2
      cases e2
      have c : Value.type "enumerate" = Value.type "tuple" := c1
      exact absurd c (by decide)
    have hh : X.A.in1.handled = none := I.ok.hd hc
    have le : e < s.heap.objs.size := Heap.lt_size he
    have li : it < s.heap.objs.size := by
      obtain ⟨_, q, _⟩ := hit
      exact Heap.lt_size q
    have ez : ((i + 1 : Nat) : Int) = (i : Int) + 1 := by omega
    refine wpAny_pyNext_enum_itemC (Draws.tuple hh it a nai its.toArray) he ⟨hit, p'⟩ (by simpa using hlt) ne (by simp [ne, nea]) ?_
    intro y h' tk hy ho hst hT _ hk
    obtain rfl : y = u := by
      have : its[i]? = some y := by simpa using hy
      rw [hu] at this
      exact (Option.some.inj this).symm
    refine ⟨_, rfl, wpAny_letOwnedTupleGo_enum (s := { s with heap := h', toks := tk + 1 }) ho ?_⟩
    intro h2 he2 sb
    have hT2 : h2.get? s.heap.objs.size = some { cls := .type "tuple", data := .seq #[.int i tk, y] } := (sb.2 _ (Nat.ne_of_gt le)).trans hT
    have mk : ObjOk X.prog X.w (upd H s.heap.objs.size (.tup [.int (i : Nat), x])) h2 s.heap.objs.size (.tup [.int (i : Nat), x]) :=
      ⟨small (n := 2) (by omega), [.int i tk, y], .cons ⟨tk, rfl⟩ (.cons ru .nil), ⟨_, hT2, rfl, _, rfl⟩⟩
    have J : Inv X pins σ (upd H s.heap.objs.size (.tup [.int (i : Nat), x])) { s with heap := h2, toks := tk + 1 } := by
      refine I.turnedNew (ch := [e, it]) (fun b ob hb q => ?_) hf (Nat.le_refl _) mk
      simp only [List.mem_cons, List.not_mem_nil, or_false, not_or] at hb
      exact (sb.2 b hb.1).trans (hk b ob hb.1 hb.2 q)
    refine ⟨.ref s.heap.objs.size, _, J, rfl, ⟨_, x, rfl, I.hok.fresh (Nat.le_refl _), rfl, fun ys hy => by rw [I.tuple_inj hy hq]; exact hx⟩, ⟨⟨y, ?_⟩, hst.1.at (fun o q => (sb.2 it ne.symm).trans q), ne⟩, fun b hb => ?_⟩
    · rw [ez]
      exact he2
    · have lb : b < s.heap.objs.size := by
        simp only [List.mem_cons, List.not_mem_nil, or_false] at hb
        rcases hb with rfl | rfl
        · exact le
        · exact li
      rw [upd_ne (Nat.ne_of_lt lb)]
      exact (hf b hb).1
  case done =>
    rintro X rfl rfl rfl hc i pins s σ H E I hf ⟨⟨old, he⟩, hit, ne⟩ ⟨xs, hq, hx⟩
    obtain ⟨its, rv, p, hz⟩ := I.tuple hq
    have p' : s.heap.IsTuple a its.toArray := p
    have hlen := rv.length
    have hh : X.A.in1.handled = none := I.ok.hd hc
    have nai : a ≠ it := by
      rintro rfl
      obtain ⟨o1, e1, c1, _⟩ := p'
      obtain ⟨o2, e2, c2, _⟩ := hit
      rw [e1] at e2
      cases e2
      rw [c1] at c2
      exact absurd c2 (by decide)
    have hi : its.toArray.size = i := by rw [List.size_toArray, ← hlen, hx]
    obtain ⟨f0, f1, f2, f3, f4, f5⟩ := hf it (by simp)
    refine wpAny_pyNext_enum_endD (Draws.tuple hh it a nai its.toArray) he (by rw [hi]; exact ⟨hit, p'⟩) ?_
    intro h' eb
    exact ⟨rfl, I.turned (t' := s.toks) (fun b o hb q => eb b o hb q) f0 f1 f3 f4 f5⟩
def iEnumT (K : PySem.W.Frag) (ta : TA) : TI := fun σ H R => ta σ H fun vs H1 => ∃ a xs, vs = [.ref a] ∧ SqT K H1 a xs ∧ R (IteT K a) H1
theorem pi_enumT {X : Cx} {e : Expr} {ta : TA} {p pos tpos : Pos} {elts : List Expr} {kk : Nat} {K : PySem.W.Frag} (hg : Gl X "enumerate") (hm : X.mg "enumerate" = none) (ha : PA X [e] ta) (hK : X.K = K := by rfl) (hs : starEach [e] X.env = [(false, eval e X.env)] := by rfl) :
    PI X (.Tuple elts kk tpos) (.Call (.Name "enumerate" p) [e] [] pos) (iEnumT K ta) := by
  subst hK
  constructor
  intro pins s σ H R I h
  apply Call_ (ld_blt I hg hm boot_enumerate (PyProof.Rows.callWith_type1 (thn (ha.run pos pins s σ H _ I h) ?_) hs rfl))
  rintro us s1 ⟨vs, H1, I1, r1, a, xs, rfl, hq, q⟩
  cases r1 with
  | cons r rr =>
    cases rr
    cases r
    obtain ⟨its, rv, p', hz⟩ := I1.tuple hq
    refine enum_one (begins_tuple a its.toArray) p' fun h' he hit hk => wpAny_pyIter_enum he ?_
    have I2 : Inv X pins σ H1 { s1 with heap := h' } := I1.kept (t' := s1.toks) hk
    refine ⟨s1.heap.objs.size + 1, [s1.heap.objs.size + 1, s1.heap.objs.size], _, _, H1, rfl, I2, turn_enumT a (s1.heap.objs.size + 1) s1.heap.objs.size, ⟨⟨.none, he⟩, ⟨_, hit, rfl, rfl⟩, Nat.succ_ne_self _⟩, fun b hb => ?_, q⟩
    have le : s1.heap.objs.size ≤ b := by
      simp only [List.mem_cons, List.not_mem_nil, or_false] at hb
      rcases hb with rfl | rfl
      · exact Nat.le_succ _
      · exact Nat.le_refl _
    exact I1.fpOk le (I1.hok.fresh le)
section
variable {K : PySem.W.Frag} {H : Hp} {σ : L2.St}
theorem x_rU {g : Int → V} {i : Int} {Q : VK} : rU g (.int i) H Q ↔ Q (g i) H := by
  constructor
  · rintro ⟨_, h1, h⟩
    cases h1; exact h
  · exact fun h => ⟨i, rfl, h⟩
theorem x_two {n i j : Nat} {T : Addr} {x y : V} {Q : L2.St → Hp → Prop} (h : SqT K H T [x, y]) (k : Q ((σ.set i (some x)).set j (some y)) H) (hn : n = 2 := by rfl) : gTup K n (gCons (gName i) (gCons (gName j) gNil)) (.ref T) σ H Q := by
  subst hn
  exact ⟨T, _, rfl, h, rfl, x, [y], rfl, y, [], rfl, rfl, k⟩
end
/-- C(..), its __init__ keeping sp -/
def rMk (C : Addr) (sp : Sp) (dvs vs : List V) (H1 : Hp) (Q : XK) : Prop := vs.length ≤ 1000 ∧ ∀ a, H1 a = none → sp (.ref a :: (vs ++ dvs)) (upd H1 a (exo a C none))
  (fun v H2 => v = .non ∧ ∃ (d : Addr) (fs : List (Str × V)), H2 a = some (exo a C (some d)) ∧ H2 d = some (exd d fs) ∧ H1 d = none ∧ Q (.ref C) (some d) (upd (del H2 a) d (.xd fs))) (fun _ _ _ => False)
theorem x_tMkO {C : Addr} {sp : Sp} {dvs : List V} {ta : TA} {σ : L2.St} {H : Hp} {Q : XK} : tMkO C sp dvs ta σ H Q = ta σ H fun vs H1 => rMk C sp dvs vs H1 Q := rfl
end FB
set_option Elab.async false
set_option linter.all false
set_option maxRecDepth 100000
set_option maxHeartbeats 4000000
/-! Dicts: made by a comprehension, walked, asked, filled; sets; zip of tuples. -/
namespace FB
open PySem PySem.Spec PyProof.Rows L2 Evl
section
variable {X : Cx}
/-- the value is locked from here on -/
def tLockV (t : TE) : TE := fun σ H Q => t σ H fun x H1 => ∃ d u, x = .ref d ∧ H1 d = some u ∧ Mut (some u) ∧ ∀ od, Q x (upd H1 d (.frz od u))
theorem pe_lockV {e : Expr} {t : TE} (h : PE X e t) : PE X e (tLockV t) := by
  refine ⟨fun pins s σ H Q I hw => ?_⟩
  refine thn (h.run pins s σ _ _ I hw) fun v s1 ⟨x, H1, I1, r, d, u, e, hd, mu, q⟩ => ?_
  obtain ⟨od, I2⟩ := I1.lock hd mu
  exact ⟨x, _, I2, r, q od⟩
/-- name = {..} on one line, the name a local -/
theorem ps_setDc {i : Nat} {y : Str} {py : Pos} {kx vx tg iter : Expr} {ifs : List Expr} {scope : Scope} {own : List (Str × Nat)} {pos spos : Pos} {wi : TI} {g : TG} {tt : TT} {tk tv : TE} (hc : X.calm = true) (hN : X.N.Nodup) (hy : X.N[i]? = some y) (hyl : X.env.scope.names.lookup y = some .local)
    (hsw : swapsWith (.DictComp kx vx [⟨tg, iter, ifs, 0⟩] scope pos) (some (.Name y py)) spos.line X.env = pure true) (hi : PI X tg iter wi) (ok : BlkOk X.N X.env.scope scope own)
    (hg : ∀ (s : Shared) (H : Hp) (C : Addr) (cl : List (Str × Addr)) (fp : List Addr), PG (X.blk s H scope (compEnvC scope cl C X.env) fp) tg g) (ht : ∀ (s : Shared) (H : Hp) (C : Addr) (cl : List (Str × Addr)) (fp : List Addr), PTs (X.blk s H scope (compEnvC scope cl C X.env) fp) ifs tt)
    (hk : ∀ (s : Shared) (H : Hp) (C : Addr) (cl : List (Str × Addr)) (fp : List Addr), PE (X.blk s H scope (compEnvC scope cl C X.env) fp) kx tk)
    (he : ∀ (s : Shared) (H : Hp) (C : Addr) (cl : List (Str × Addr)) (fp : List Addr), PE (X.blk s H scope (compEnvC scope cl C X.env) fp) vx tv) (hs : ∀ x, foldedSetIterable iter X.env x = pure x := by intro _; rfl) :
    PS X (.Assign [.Name y py] (.DictComp kx vx [⟨tg, iter, ifs, 0⟩] scope pos) spos) (tAsg (tDc wi g tt tk tv (own.map (·.2))) (gName i)) := by
  refine ⟨fun pins s σ H D I h => ?_⟩
  rw [exec_Assign_Name_used _ _ _ _ hsw]
  refine wpAny_bind (wpAny_standAt (wpAny_bind ?_))
  show wpAny _ X.A (do let _ ← comprehension (.DictComp kx vx [⟨tg, iter, ifs, 0⟩] scope pos) scope X.env (firstIterPos [⟨tg, iter, ifs, 0⟩] pos) newDict false (eval iter X.env) (some (assign (.Name y py) X.env))) _ _ s
  have h : tDc wi g tt tk tv (own.map (·.2)) σ H (fun x H1 => gName i x σ H1 D.nx) := h
  refine wpAny_bind (thn (dc_core (Qf := fun _ s' => SP X pins D .next s') hc hN I hi ok hg ht hk he hs h fun L C s' m H' I' q hn f => ?_) fun _ s' hq => wpAny_pure (wpAny_pure hq))
  show wpAny _ _ (assign (.Name y py) X.env (.ref L)) _ _ _
  refine wpAny_assign_Name (store_ok2 (v := V.ref L) I' hN hy (.inl hyl) rfl (fun s2 I2 ⟨a, sb, ha⟩ => ?_) (.inr hyl))
  obtain ⟨f0, f1, f2, f3, f4, f5⟩ := f
  have haC : C ≠ a := by
    rcases ha with z | z
    · rw [z]; exact f1
    · exact fun e => f4 y a z e.symm
  refine ⟨m, hn.sameBut sb haC, fun h3 sb3 => ?_⟩
  exact ⟨_, H', I2.turned (t' := s2.toks) (fun b o hb e => (sb3.2 b hb).trans e) f0 f1 f3 f4 f5, q⟩
theorem sw_trueD {kx vx : Expr} {gs : List Comprehension} {scope : Scope} {pos py : Pos} {y : Str} {l : Nat} {env : Env} (hk : env.scope.kind = .function) (hy : env.scope.names.lookup y = some .local) (hl : (py.line == pos.line) = true)
    (ha : (scope.names.any fun (n, k) => n == y && (k == .local || k == .cell)) = false) : swapsWith (.DictComp kx vx gs scope pos) (some (.Name y py)) l env = pure true := by
  have ky : env.kindOf y = some .local := hy
  have hb : env.blockKind = .function := by unfold Env.blockKind; rw [hk]; rfl
  unfold swapsWith
  simp only [hb, ky, ha, Expr.pos, hl]
  rfl
end
/-- a dict comprehension's reading -/
def DcL (J : It) (g : TG) (tt : TT) (tk tv : TE) (vs : List Nat) (σ : L2.St) (H1 : Hp) (Q : VK) : Prop := ∀ D, H1 D = none → ∃ W : Nat → Nat → Hp → Prop, (∃ m, W 0 m (upd H1 D (.dK []))) ∧ ∀ i m H, W i m H →
  (J.stop i H ∧ Q (.ref D) H) ∨ (J.go i H ∧ ∃ Nx : Hp → Prop, (∀ H', Nx H' → ∃ m', m' < m ∧ W (i + 1) m' H') ∧ ∀ x H', J.yld i H x H' → g x (wipe σ vs) H' fun σ2 H2 => wipe σ2 vs = wipe σ vs ∧ tt σ2 H2 fun b H3 =>
    if b = true then tk σ2 H3 fun y H4 => tv σ2 H4 fun z H5 => ∃ kvs k, y = kV k ∧ H5 D = some (.dK kvs) ∧ kvs.length < sizeLine ∧ Nx (upd H5 D (.dK (putK kvs k z))) else Nx H3)
theorem x_tDc {wi : TI} {g : TG} {tt : TT} {tk tv : TE} {vs : List Nat} {σ : L2.St} {H : Hp} {Q : VK} : tDc wi g tt tk tv vs σ H Q = wi σ H fun J H1 => DcL J g tt tk tv vs σ H1 Q := rfl
/-- the item goes to the dict at D -/
def PutD (D : Addr) (N : Hp → Prop) (y : V) : VK := fun z H5 => ∃ kvs k, y = kV k ∧ H5 D = some (.dK kvs) ∧ kvs.length < sizeLine ∧ N (upd H5 D (.dK (putK kvs k z)))
theorem x_putD {D : Addr} {N : Hp → Prop} {k : Key} {z : V} {H : Hp} {kvs : List (Key × V)} (h : H D = some (.dK kvs)) (hl : kvs.length < 1000000) (q : ∀ H5, (∀ x o, x ≠ D → H x = some o → H5 x = some o) → H5 D = some (.dK (putK kvs k z)) → N H5) : PutD D N (kV k) z H :=
  ⟨kvs, k, rfl, h, by rw [sizeLine_eq]; omega, q _ (fun x o hx e => by rw [upd_ne hx]; exact e) upd_same⟩
theorem dcl_it {J : It} {n : Nat} {G : Hp → Prop} {Y : Nat → Hp → V → Hp → Prop} {g : TG} {tt : TT} {tk tv : TE} {vs : List Nat} {σ : L2.St} {H1 : Hp} {Q : VK} (w : Walk J n G Y) (Pv : Addr → Nat → Hp → Prop)
    (h0 : ∀ D H', H1 D = none → Ex H1 H' → H' D = some (.dK []) → Pv D 0 H') (hG : ∀ D i H, i ≤ n → Pv D i H → G H)
    (hs : ∀ D i x H H', H1 D = none → i < n → Pv D i H → Y i H x H' → g x (wipe σ vs) H' fun σ2 H2 => wipe σ2 vs = wipe σ vs ∧ tt σ2 H2 fun b H3 => if b = true then tk σ2 H3 fun y H4 => tv σ2 H4 (PutD D (Pv D (i + 1)) y) else Pv D (i + 1) H3)
    (hd : ∀ D H, H1 D = none → Pv D n H → Q (.ref D) H) : DcL J g tt tk tv vs σ H1 Q := fun D hD => by
  refine ⟨fun i m H => m = n - i ∧ i ≤ n ∧ Pv D i H, ⟨n, by simp, Nat.zero_le _, h0 D _ hD (Ex.new hD) upd_same⟩, ?_⟩
  rintro i m H ⟨rfl, hi, p⟩
  have q := hG D i H hi p
  by_cases hlt : i < n
  · exact .inr ⟨w.goes i H hlt q, Pv D (i + 1), fun H' p' => ⟨n - (i + 1), by omega, rfl, hlt, p'⟩, fun x H' y => hs D i x H H' hD hlt p (w.yields i H x H' hlt q y)⟩
  · have e : i = n := by omega
    subst e
    exact .inl ⟨w.stops H q, hd D H hD p⟩
section
variable {K : PySem.W.Frag} {H H' : Hp} {a b d p : Addr} {kvs : List (Key × V)} {k : Key} {v : V} {Q : VK} {xs ys : List V}
theorem x_lock {t : TE} {σ : L2.St} {u : HO} (h : H d = some u) (mu : Mut (some u)) (q : ∀ od H1, (∀ x o, x ≠ d → H x = some o → H1 x = some o) → (∀ x, x ≠ d → H1 x = none → H x = none) → H1 d = some (.frz od u) → t σ H1 fun v H' => H' d = some (.frz od u) ∧ Q v (upd H' d u)) : tLockE t σ H Q :=
  ⟨d, u, h, mu, fun od => q od _ (fun x o hx e => by rw [upd_ne hx]; exact e) (fun x hx e => by rw [upd_ne hx] at e; exact e) upd_same⟩
def rLockV (x : V) (H : Hp) (Q : VK) : Prop := ∃ d u, x = .ref d ∧ H d = some u ∧ Mut (some u) ∧ ∀ od, Q x (upd H d (.frz od u))
theorem x_tLockV {t : TE} {σ : L2.St} : tLockV t σ H Q = t σ H fun x H1 => rLockV x H1 Q := rfl
theorem x_lockV {u : HO} (h : H d = some u) (mu : Mut (some u)) (q : ∀ od H1, (∀ x o, x ≠ d → H x = some o → H1 x = some o) → (∀ x, x ≠ d → H1 x = none → H x = none) → H1 d = some (.frz od u) → Q (.ref d) H1) : rLockV (.ref d) H Q :=
  ⟨d, u, rfl, h, mu, fun od => q od _ (fun x o hx e => by rw [upd_ne hx]; exact e) (fun x hx e => by rw [upd_ne hx] at e; exact e) upd_same⟩
/-- d[k] -/
def rDGet (x y : V) (H : Hp) (Q : VK) : Prop := ∃ a v, x = .ref a ∧ DGet H a y (some v) ∧ Q v H
theorem x_tDGet {td ty : TE} {σ : L2.St} : tDGet td ty σ H Q = td σ H fun x H1 => ty σ H1 fun y H2 => rDGet x y H2 Q := rfl
theorem x_dget (h : H a = some (.dK kvs)) (e : valV kvs k = some v) (q : Q v H) : rDGet (.ref a) (kV k) H Q := ⟨a, v, rfl, by rw [← e]; exact DGet.k h, q⟩
/-- d.get(k, z) -/
def rDGet2 (a : Addr) (y z : V) (H : Hp) (Q : VK) : Prop := ∃ o, DGet H a y o ∧ Q (o.getD z) H
theorem x_tDGet2 {td ty tx : TE} {σ : L2.St} : tDGet2 td ty tx σ H Q = td σ H fun x H1 => ∃ a, x = .ref a ∧ IsD H1 a ∧ ty σ H1 fun y H2 => tx σ H2 fun z H3 => rDGet2 a y z H3 Q := rfl
theorem isD_k (h : H a = some (.dK kvs)) : IsD H a := .inl ⟨kvs, .inl h⟩
theorem x_dget2 {z : V} (h : H a = some (.dK kvs)) (q : Q ((valV kvs k).getD z) H) : rDGet2 a (kV k) z H Q := ⟨_, DGet.k h, q⟩
/-- d[k] = v -/
def rDPut (x y v : V) (H : Hp) (N : Hp → Prop) : Prop := ∃ a H4, x = .ref a ∧ DPut H a y v H4 ∧ N H4
theorem x_sDPut {td ty tv : TE} {σ : L2.St} {D : Ends} : sDPut td ty tv D σ H = tv σ H fun v H1 => td σ H1 fun x H2 => ty σ H2 fun y H3 => rDPut x y v H3 (D.nx σ) := rfl
theorem x_dput {N : Hp → Prop} (h : H a = some (.dK kvs)) (hl : kvs.length < 1000000) (q : ∀ H1, (∀ x o, x ≠ a → H x = some o → H1 x = some o) → (∀ x, x ≠ a → H1 x = none → H x = none) → H1 a = some (.dK (putK kvs k v)) → N H1) : rDPut (.ref a) (kV k) v H N :=
  ⟨a, _, rfl, DPut.k h (by rw [sizeLine_eq]; omega), q _ (fun x o hx e => by rw [upd_ne hx]; exact e) (fun x hx e => by rw [upd_ne hx] at e; exact e) upd_same⟩
/-- d.setdefault(k, z) -/
def rDSetd (a : Addr) (y z : V) (H : Hp) (Q : VK) : Prop := ∃ (kvs : List (Key × V)) (k : Key), H a = some (.dK kvs) ∧ y = kV k ∧ kvs.length < sizeLine ∧ (∀ v, valV kvs k = some v → Q v H) ∧ (valV kvs k = none → Q z (upd H a (.dK (putK kvs k z))))
theorem x_tDSetd {td ty tx : TE} {σ : L2.St} : tDSetd td ty tx σ H Q = td σ H fun x H1 => ∃ a, x = .ref a ∧ IsD H1 a ∧ ty σ H1 fun y H2 => tx σ H2 fun z H3 => rDSetd a y z H3 Q := rfl
theorem x_dsetd {z : V} (h : H a = some (.dK kvs)) (hl : kvs.length < 1000000) (q : ∀ v, valV kvs k = some v → Q v H)
    (q2 : valV kvs k = none → ∀ H1, (∀ x o, x ≠ a → H x = some o → H1 x = some o) → (∀ x, x ≠ a → H1 x = none → H x = none) → H1 a = some (.dK (putK kvs k z)) → Q z H1) : rDSetd a (kV k) z H Q :=
  ⟨kvs, k, h, rfl, by rw [sizeLine_eq]; omega, q, fun e => q2 e _ (fun x o hx e => by rw [upd_ne hx]; exact e) (fun x hx e => by rw [upd_ne hx] at e; exact e) upd_same⟩
/-- {} -/
def rDNew (H : Hp) (Q : VK) : Prop := ∀ p, H p = none → Q (.ref p) (upd H p (.dK []))
theorem x_tDNewK {σ : L2.St} : tDNewK σ H Q = rDNew H Q := rfl
theorem x_dnew (q : ∀ p H', H p = none → Ex H H' → H' p = some (.dK []) → Q (.ref p) H') : rDNew H Q := x_new q
/-- items of a locked dict -/
def rItems (x : V) (H : Hp) (R : It → Hp → Prop) : Prop := ∃ d o kvs, x = .ref d ∧ H d = some (.frz o (.dK kvs)) ∧ R (Iti d o kvs) H
theorem x_iItems {td : TE} {σ : L2.St} {R : It → Hp → Prop} : iItems td σ H R = td σ H fun x H1 => rItems x H1 R := rfl
theorem x_items {o : Obj} {R : It → Hp → Prop} (h : H d = some (.frz o (.dK kvs))) (q : R (Iti d o kvs) H) : rItems (.ref d) H R := ⟨d, o, kvs, rfl, h, q⟩
/-- tuple(range(i, j)) -/
def rTupRg (i j : Int) (H : Hp) (Q : VK) : Prop := RgOk i j ∧ ∀ q, H q = none → Q (.ref q) (upd H q (.tup (rgV i j)))
theorem x_tTupRg {te : L2.St → Hp → (Int → Int → Hp → Prop) → Prop} {σ : L2.St} : tTupRg te σ H Q = te σ H fun i j H1 => rTupRg i j H1 Q := rfl
theorem x_tRg2 {ta tb : TE} {σ : L2.St} {R : Int → Int → Hp → Prop} : tRg2 ta tb σ H R = ta σ H fun x H1 => tb σ H1 fun y H2 => ∃ i j, x = .int i ∧ y = .int j ∧ R i j H2 := rfl
theorem x_tupRg {i j : Int} (h : RgOk i j) (q : ∀ t H', H t = none → Ex H H' → H' t = some (.tup (rgV i j)) → Q (.ref t) H') : rTupRg i j H Q := ⟨h, x_new q⟩
theorem x_sum {ns : List Int} (h : SqL K H a (ns.map V.int)) (q : Q (.int ns.sum) H) : rSum K [.ref a] H Q := ⟨a, ns, rfl, h, q⟩
theorem walk_zipT (hn : xs.length = ys.length) : Walk (RZ.ItzT K a b) xs.length (fun H => SqT K H a xs ∧ SqT K H b ys) (YPair (fun i => xs[i]?) (fun i => ys[i]?)) := by
  refine ⟨fun i _ hi q => ?_, fun _ q => ⟨xs, ys, q.1, q.2, by omega⟩, fun i H v H' _ q y => ?_⟩
  · have h2 : i < ys.length := by omega
    exact ⟨xs, ys, xs[i], ys[i], q.1, q.2, by simp [hi], by simp [h2]⟩
  · obtain ⟨T, x, z, h1, h2, h3, h4, h5⟩ := y
    exact ⟨T, x, z, h1, h2, h3, h4 xs q.1, h5 ys q.2⟩
def rZip (K : PySem.W.Frag) (vs : List V) (H : Hp) (R : It → Hp → Prop) : Prop := ∃ a b xs ys, vs = [.ref a, .ref b] ∧ ((SqL K H a xs ∧ SqL K H b ys ∧ R (Itz K a b) H) ∨ (SqT K H a xs ∧ SqT K H b ys ∧ R (RZ.ItzT K a b) H))
theorem x_iZip {ta : TA} {σ : L2.St} {R : It → Hp → Prop} : RZ.iZipA K ta σ H R = ta σ H fun vs H1 => rZip K vs H1 R := rfl
theorem x_zipT {R : It → Hp → Prop} (h1 : SqT K H a xs) (h2 : SqT K H b ys) (q : R (RZ.ItzT K a b) H) : rZip K [.ref a, .ref b] H R := ⟨a, b, xs, ys, rfl, .inr ⟨h1, h2, q⟩⟩
end
end FB
set_option Elab.async false
set_option linter.all false
set_option maxRecDepth 100000
set_option maxHeartbeats 4000000
/-! The seats of a network's first stations, and who feeds a place. -/
namespace FB
open PySem PySem.Spec PyProof.Rows L2 Evl
/-- a seat: its station, and where it leads -/
abbrev Seats := List (Nat × Key)
def stSeats (k : Nat) (s : List Key) : Seats := s.map fun p => (k, p)
/-- the seats of the first k stations -/
def seatsOf (N : Net) : Nat → Seats
  | 0 => []
  | k + 1 => seatsOf N k ++ stSeats k (N.getD k [])
/-- what f gives for the seats that lead to q -/
def toQ (f : Nat → Int) (q : Key) : Seats → Int
  | [] => 0
  | (i, p) :: r => (if p = q then f i else 0) + toQ f q r
theorem toQ_append {f : Nat → Int} {q : Key} : ∀ {a b : Seats}, toQ f q (a ++ b) = toQ f q a + toQ f q b
  | [], b => by simp [toQ]
  | (i, p) :: r, b => by
    show (if p = q then f i else 0) + toQ f q (r ++ b) = (if p = q then f i else 0) + toQ f q r + toQ f q b
    rw [toQ_append]; omega
theorem toQ_nil {f : Nat → Int} {q : Key} : ∀ {a : Seats}, (∀ s ∈ a, s.2 ≠ q) → toQ f q a = 0
  | [], _ => rfl
  | (i, p) :: r, h => by
    show (if p = q then f i else 0) + toQ f q r = 0
    rw [if_neg (h (i, p) (List.mem_cons_self ..)), toQ_nil fun s hs => h s (List.mem_cons_of_mem _ hs)]
    rfl
theorem toQ_congr {f g : Nat → Int} {q : Key} : ∀ {a : Seats}, (∀ s ∈ a, s.2 = q → f s.1 = g s.1) → toQ f q a = toQ g q a
  | [], _ => rfl
  | (i, p) :: r, h => by
    show (if p = q then f i else 0) + toQ f q r = (if p = q then g i else 0) + toQ g q r
    rw [toQ_congr fun s hs => h s (List.mem_cons_of_mem _ hs)]
    by_cases e : p = q
    · rw [if_pos e, if_pos e, h (i, p) (List.mem_cons_self ..) e]
    · rw [if_neg e, if_neg e]
theorem toQ_nn {f : Nat → Int} {q : Key} : ∀ {a : Seats}, (∀ s ∈ a, 0 ≤ f s.1) → 0 ≤ toQ f q a
  | [], _ => by simp [toQ]
  | (i, p) :: r, h => by
    show 0 ≤ (if p = q then f i else 0) + toQ f q r
    have h1 : 0 ≤ f i := h (i, p) (List.mem_cons_self ..)
    have h2 := toQ_nn (q := q) fun s hs => h s (List.mem_cons_of_mem _ hs)
    split <;> omega
theorem mem_seatsOf {N : Net} {i : Nat} {q : Key} : ∀ {k : Nat}, (i, q) ∈ seatsOf N k ↔ i < k ∧ q ∈ N.getD i []
  | 0 => by simp [seatsOf]
  | k + 1 => by
    show (i, q) ∈ seatsOf N k ++ stSeats k (N.getD k []) ↔ _
    rw [List.mem_append, mem_seatsOf]
    have e : (i, q) ∈ stSeats k (N.getD k []) ↔ i = k ∧ q ∈ N.getD k [] := by
      unfold stSeats
      rw [List.mem_map]
      constructor
      · rintro ⟨p, hp, e⟩
        cases e
        exact ⟨rfl, hp⟩
      · rintro ⟨rfl, h⟩
        exact ⟨q, h, rfl⟩
    rw [e]
    constructor
    · rintro (⟨h1, h2⟩ | ⟨rfl, h2⟩)
      · exact ⟨by omega, h2⟩
      · exact ⟨by omega, h2⟩
    · rintro ⟨h1, h2⟩
      by_cases z : i = k
      · subst z; exact .inr ⟨rfl, h2⟩
      · exact .inl ⟨by omega, h2⟩
theorem seatsOf_len {N : Net} (h : ∀ s ∈ N, s.length ≤ 8) : ∀ k, (seatsOf N k).length ≤ 8 * k
  | 0 => by simp [seatsOf]
  | k + 1 => by
    show (seatsOf N k ++ stSeats k (N.getD k [])).length ≤ _
    rw [List.length_append]
    have h1 := seatsOf_len h k
    have h2 : (stSeats k (N.getD k [])).length ≤ 8 := by
      unfold stSeats
      rw [List.length_map, List.getD_eq_getElem?_getD]
      cases e : N[k]? with
      | none => simp
      | some s => exact h s (List.mem_of_getElem? e)
    omega
/-! ### a place's feeders -/
abbrev Cnt := List (Nat × Int)
def cntV (G : Cnt) : List (Key × V) := G.map fun g => (.inl (g.1 : Int), .int g.2)
def cntQ (f : Nat → Int) : Cnt → Int
  | [] => 0
  | (i, c) :: r => c * f i + cntQ f r
def getC (i : Nat) : Cnt → Int
  | [] => 0
  | (j, c) :: r => if j = i then c else getC i r
def bump (i : Nat) : Cnt → Cnt
  | [] => [(i, 1)]
  | (j, c) :: r => if j = i then (j, c + 1) :: r else (j, c) :: bump i r
theorem cntQ_bump {f : Nat → Int} {i : Nat} : ∀ {G : Cnt}, cntQ f (bump i G) = cntQ f G + f i
  | [] => by simp [bump, cntQ]
  | (j, c) :: r => by
    unfold bump
    by_cases e : j = i
    · rw [if_pos e]
      show (c + 1) * f j + cntQ f r = c * f j + cntQ f r + f i
      rw [e, Int.add_mul]; omega
    · rw [if_neg e]
      show c * f j + cntQ f (bump i r) = c * f j + cntQ f r + f i
      rw [cntQ_bump]; omega
theorem val_cntV {i : Nat} : ∀ {G : Cnt}, (valV (cntV G) (.inl (i : Int))).getD (.int 0) = .int (getC i G)
  | [] => rfl
  | (j, c) :: r => by
    show (valV ((.inl (j : Int), .int c) :: cntV r) (.inl (i : Int))).getD (.int 0) = .int (if j = i then c else getC i r)
    by_cases e : j = i
    · subst e
      rw [if_pos rfl, valV_pos rfl]; rfl
    · rw [if_neg e, valV_neg (by show ¬ (Sum.inl (j : Int) : Key) = Sum.inl (i : Int); intro z; exact e (by have := Sum.inl.inj z; omega)), val_cntV]
theorem any_cntV {i : Nat} : ∀ {G : Cnt}, ((cntV G).any fun kv => decide (kv.1 = (.inl (i : Int) : Key))) = true ↔ i ∈ G.map (·.1)
  | [] => by simp [cntV]
  | (j, c) :: r => by
    show (decide ((Sum.inl (j : Int) : Key) = Sum.inl (i : Int)) || (cntV r).any fun kv => decide (kv.1 = (.inl (i : Int) : Key))) = true ↔ i ∈ j :: r.map (·.1)
    rw [Bool.or_eq_true, any_cntV, List.mem_cons, decide_eq_true_eq]
    constructor
    · rintro (h | h)
      · exact .inl (by have := Sum.inl.inj h; omega)
      · exact .inr h
    · rintro (h | h)
      · exact .inl (by rw [h])
      · exact .inr h
theorem getC_not {i : Nat} : ∀ {G : Cnt}, ¬ i ∈ G.map (·.1) → getC i G = 0
  | [], _ => rfl
  | (j, c) :: r, h => by
    rw [List.map_cons, List.mem_cons, not_or] at h
    show (if j = i then c else getC i r) = 0
    rw [if_neg (fun z => h.1 z.symm), getC_not h.2]
theorem bump_not {i : Nat} : ∀ {G : Cnt}, ¬ i ∈ G.map (·.1) → bump i G = G ++ [(i, 1)]
  | [], _ => rfl
  | (j, c) :: r, h => by
    rw [List.map_cons, List.mem_cons, not_or] at h
    show (if j = i then _ else _) = _
    rw [if_neg (fun z => h.1 z.symm), bump_not h.2]; rfl
theorem map_not {i : Nat} {y : V} : ∀ {G : Cnt}, ¬ i ∈ G.map (·.1) → (cntV G).map (fun kv => if kv.1 = (.inl (i : Int) : Key) then (kv.1, y) else kv) = cntV G
  | [], _ => rfl
  | (j, c) :: r, h => by
    rw [List.map_cons, List.mem_cons, not_or] at h
    show (if (Sum.inl (j : Int) : Key) = Sum.inl (i : Int) then _ else _) :: (cntV r).map _ = _ :: cntV r
    rw [if_neg (fun z => h.1 (by have := Sum.inl.inj z; omega)), map_not h.2]
theorem put_cntV {i : Nat} : ∀ {G : Cnt}, (G.map (·.1)).Nodup → putK (cntV G) (.inl (i : Int)) (.int (getC i G + 1)) = cntV (bump i G)
  | G, nd => by
    unfold putK
    by_cases h : i ∈ G.map (·.1)
    · rw [if_pos (any_cntV.mpr h)]
      induction G with
      | nil => simp at h
      | cons g r ih =>
        obtain ⟨j, c⟩ := g
        rw [List.map_cons, List.nodup_cons] at nd
        by_cases e : j = i
        · subst e
          show (if (Sum.inl (j : Int) : Key) = Sum.inl (j : Int) then ((Sum.inl (j : Int) : Key), V.int (getC j ((j, c) :: r) + 1)) else _) :: (cntV r).map _ = cntV (if j = j then _ else _)
          rw [if_pos rfl, if_pos rfl, map_not nd.1]
          show (_, V.int ((if j = j then c else getC j r) + 1)) :: _ = _
          rw [if_pos rfl]; rfl
        · rw [List.map_cons, List.mem_cons] at h
          have hr : i ∈ r.map (·.1) := h.resolve_left fun z => e z.symm
          show (if (Sum.inl (j : Int) : Key) = Sum.inl (i : Int) then _ else ((Sum.inl (j : Int) : Key), V.int c)) :: (cntV r).map (fun kv => if kv.1 = (.inl (i : Int) : Key) then (kv.1, V.int ((if j = i then c else getC i r) + 1)) else kv) = cntV (if j = i then _ else _)
          rw [if_neg (fun z => e (by have := Sum.inl.inj z; omega)), if_neg e, if_neg e, ih nd.2 hr]; rfl
    · rw [if_neg (fun z => h (any_cntV.mp z)), bump_not h, getC_not h]
      simp [cntV]
theorem bump_keys {i j : Nat} : ∀ {G : Cnt}, j ∈ (bump i G).map (·.1) ↔ j = i ∨ j ∈ G.map (·.1)
  | [] => by simp [bump]
  | (l, c) :: r => by
    unfold bump
    by_cases e : l = i
    · subst e
      rw [if_pos rfl]
      simp
    · rw [if_neg e, List.map_cons, List.mem_cons, bump_keys, List.map_cons, List.mem_cons]
      constructor
      · rintro (h | h | h)
        · exact .inr (.inl h)
        · exact .inl h
        · exact .inr (.inr h)
      · rintro (h | h | h)
        · exact .inr (.inl h)
        · exact .inl h
        · exact .inr (.inr h)
theorem bump_nd {i : Nat} : ∀ {G : Cnt}, (G.map (·.1)).Nodup → ((bump i G).map (·.1)).Nodup
  | [], _ => by simp [bump]
  | (l, c) :: r, nd => by
    rw [List.map_cons, List.nodup_cons] at nd
    unfold bump
    by_cases e : l = i
    · rw [if_pos e, List.map_cons, List.nodup_cons]
      exact nd
    · rw [if_neg e, List.map_cons, List.nodup_cons]
      refine ⟨fun z => ?_, bump_nd nd.2⟩
      rcases bump_keys.mp z with h | h
      · exact e h
      · exact nd.1 h
theorem bump_le {i : Nat} {b : Int} : ∀ {G : Cnt}, (∀ g ∈ G, 0 < g.2 ∧ g.2 ≤ b) → 0 ≤ b → ∀ g ∈ bump i G, 0 < g.2 ∧ g.2 ≤ b + 1
  | [], _, h0, g, hg => by
    have e : g = (i, 1) := by simpa [bump] using hg
    rw [e]; exact ⟨by show (0 : Int) < 1; decide, by show (1 : Int) ≤ b + 1; omega⟩
  | (l, c) :: r, h, h0, g, hg => by
    have hr : ∀ g ∈ r, 0 < g.2 ∧ g.2 ≤ b := fun g hg => h g (List.mem_cons_of_mem _ hg)
    have hc := h (l, c) (List.mem_cons_self ..)
    unfold bump at hg
    by_cases e : l = i
    · rw [if_pos e] at hg
      rcases List.mem_cons.mp hg with rfl | hg
      · exact ⟨by show 0 < c + 1; have := hc.1; omega, by show c + 1 ≤ b + 1; have := hc.2; omega⟩
      · have := hr g hg; exact ⟨this.1, by omega⟩
    · rw [if_neg e] at hg
      rcases List.mem_cons.mp hg with rfl | hg
      · exact ⟨hc.1, by have := hc.2; omega⟩
      · exact bump_le hr h0 g hg
theorem bump_len {i : Nat} : ∀ {G : Cnt}, (bump i G).length ≤ G.length + 1
  | [] => by simp [bump]
  | (l, c) :: r => by
    unfold bump
    by_cases e : l = i
    · rw [if_pos e]; simp
    · rw [if_neg e]
      have := @bump_len i r
      simp; omega
/-! ### dicts as functions -/
theorem putK_keys {kvs : List (Key × V)} {k : Key} {v : V} (nd : (kvs.map (·.1)).Nodup) : ((putK kvs k v).map (·.1)).Nodup := by
  unfold putK
  by_cases h : (kvs.any fun kv => decide (kv.1 = k)) = true
  · rw [if_pos h, List.map_map]
    have e : kvs.map ((·.1) ∘ fun kv => if kv.1 = k then (kv.1, v) else kv) = kvs.map (·.1) := List.map_congr_left fun a _ => by
      show (if a.1 = k then (a.1, v) else a).1 = a.1
      split <;> rfl
    rw [e]; exact nd
  · rw [if_neg h, List.map_append]
    refine nd_snoc nd fun z => h ?_
    obtain ⟨p, hp, e⟩ := List.mem_map.mp z
    exact List.any_eq_true.mpr ⟨p, hp, decide_eq_true e⟩
theorem val_of_mem : ∀ {kvs : List (Key × V)} {k : Key} {v : V}, (kvs.map (·.1)).Nodup → (k, v) ∈ kvs → valV kvs k = some v
  | p :: r, k, v, nd, h => by
    rw [List.map_cons, List.nodup_cons] at nd
    rcases List.mem_cons.mp h with e | h
    · rw [← e, valV_pos rfl]
    · rw [valV_neg (fun z => nd.1 (by rw [z]; exact List.mem_map.mpr ⟨_, h, rfl⟩)), val_of_mem nd.2 h]
theorem sq_but {K : PySem.W.Frag} {H H1 : Hp} {b d : Addr} {xs : List V} {kvs : List (Key × V)} (h : SqL K H b xs) (hd : H d = some (.dK kvs)) (e : ∀ x o, x ≠ d → H x = some o → H1 x = some o) : SqL K H1 b xs := by
  rcases h with (h | ⟨o, h⟩) | h
  · exact .inl (.inl (e _ _ (ne_of h hd (fun z => by cases z)) h))
  · exact .inl (.inr ⟨o, e _ _ (ne_of h hd (fun z => by cases z)) h⟩)
  · exact .inr h
theorem mem_of_val : ∀ {kvs : List (Key × V)} {k : Key} {v : V}, valV kvs k = some v → (k, v) ∈ kvs
  | [], k, v, h => by cases h
  | p :: r, k, v, h => by
    by_cases e : p.1 = k
    · rw [valV_pos e] at h
      rw [← Option.some.inj h, ← e]; exact List.mem_cons_self ..
    · rw [valV_neg e] at h
      exact List.mem_cons_of_mem _ (mem_of_val h)
/-- the dict at D with the feeders of all places, n stations given and the seats of L counted; H0: ahead of it all -/
structure Feed (H0 H : Hp) (D : Addr) (n : Nat) (L : Seats) (A : Key → Option Addr) (G : Key → Cnt) (kvs : List (Key × V)) : Prop where
  nd : (kvs.map (·.1)).Nodup
  val : ∀ q, valV kvs q = (A q).map V.ref
  inj : ∀ q q' a, A q = some a → A q' = some a → q = q'
  ne : ∀ q a, A q = some a → a ≠ D
  inn : ∀ q a, A q = some a → H a = some (.dK (cntV (G q)))
  new : ∀ q a, A q = some a → H0 a = none
  newD : H0 D = none
  keys : ∀ q, (A q).isSome = true ↔ (∃ i : Nat, i < n ∧ q = .inl (i : Int)) ∨ ∃ i, (i, q) ∈ L
  sum : ∀ q f, cntQ f (G q) = toQ f q L
  mem : ∀ q g, g ∈ G q → (g.1, q) ∈ L
  le : ∀ q, ∀ g ∈ G q, 0 < g.2 ∧ g.2 ≤ (L.length : Int)
  ndG : ∀ q, ((G q).map (·.1)).Nodup
  len : kvs.length ≤ n + L.length
  lenG : ∀ q, (G q).length ≤ L.length
  ex : Ex H0 H
section
variable {H0 H H2 : Hp} {D z : Addr} {n i : Nat} {L : Seats} {A : Key → Option Addr} {G : Key → Cnt} {kvs : List (Key × V)} {p : Key}
theorem Feed.empty (F : Feed H0 H D n L A G kvs) (h : A p = none) : G p = [] := by
  cases e : G p with
  | nil => rfl
  | cons g r =>
    have := (F.keys p).mpr (.inr ⟨g.1, F.mem p g (by rw [e]; exact List.mem_cons_self ..)⟩)
    rw [h] at this; cases this
/-- the heap may grow and change elsewhere -/
theorem Feed.but (F : Feed H0 H D n L A G kvs) (e : ∀ x o, H0 x = some o → H2 x = some o) (k : ∀ q a, A q = some a → H2 a = H a) : Feed H0 H2 D n L A G kvs :=
  { F with inn := fun q a h => by rw [k q a h]; exact F.inn q a h, ex := e }
theorem Feed.ex2 (F : Feed H0 H D n L A G kvs) (e : Ex H H2) : Feed H0 H2 D n L A G kvs :=
  { F with inn := fun q a h => e _ _ (F.inn q a h), ex := F.ex.trans e }
/-- one station more in the dict, nobody leads there yet -/
theorem Feed.key (F : Feed H0 H D i [] A G kvs) (hz : H0 z = none) (hzD : z ≠ D) (hzA : ∀ q a, A q = some a → a ≠ z) (h2 : ∀ x o, x ≠ D → H x = some o → H2 x = some o) (h3 : H2 z = some (.dK [])) :
    Feed H0 H2 D (i + 1) [] (fun q => if q = .inl (i : Int) then some z else A q) G (putK kvs (.inl (i : Int)) (.ref z)) where
  nd := putK_keys F.nd
  val := fun q => by
    rw [valV_put, F.val]
    by_cases e : q = .inl (i : Int)
    · rw [if_pos e, if_pos e]; rfl
    · rw [if_neg e, if_neg e]
  inj := fun q q' a h h' => by
    by_cases e : q = .inl (i : Int)
    · rw [if_pos e] at h
      by_cases e' : q' = .inl (i : Int)
      · rw [e, e']
      · rw [if_neg e'] at h'
        exact absurd (Option.some.inj h).symm (hzA _ _ h')
    · rw [if_neg e] at h
      by_cases e' : q' = .inl (i : Int)
      · rw [if_pos e'] at h'
        exact absurd (Option.some.inj h').symm (hzA _ _ h)
      · rw [if_neg e'] at h'
        exact F.inj q q' a h h'
  ne := fun q a h => by
    by_cases e : q = .inl (i : Int)
    · rw [if_pos e] at h; rw [← Option.some.inj h]; exact hzD
    · rw [if_neg e] at h; exact F.ne q a h
  inn := fun q a h => by
    by_cases e : q = .inl (i : Int)
    · rw [if_pos e] at h; rw [← Option.some.inj h, h3]
      have : G q = [] := by
        cases e2 : G q with
        | nil => rfl
        | cons g r =>
          have := F.mem q g (by rw [e2]; exact List.mem_cons_self ..)
          simp at this
      rw [this]; rfl
    · rw [if_neg e] at h; exact h2 _ _ (F.ne q a h) (F.inn q a h)
  new := fun q a h => by
    by_cases e : q = .inl (i : Int)
    · rw [if_pos e] at h; rw [← Option.some.inj h]; exact hz
    · rw [if_neg e] at h; exact F.new q a h
  newD := F.newD
  keys := fun q => by
    by_cases e : q = .inl (i : Int)
    · rw [if_pos e]
      exact ⟨fun _ => .inl ⟨i, by omega, e⟩, fun _ => rfl⟩
    · rw [if_neg e, F.keys q]
      constructor
      · rintro (⟨j, hj, h⟩ | h)
        · exact .inl ⟨j, by omega, h⟩
        · exact .inr h
      · rintro (⟨j, hj, h⟩ | h)
        · by_cases z : j = i
          · rw [z] at h; exact absurd h e
          · exact .inl ⟨j, by omega, h⟩
        · exact .inr h
  sum := F.sum
  mem := F.mem
  le := F.le
  ndG := F.ndG
  len := by
    have := length_putK kvs (.inl (i : Int)) (.ref z)
    have := F.len
    simp at *
    omega
  lenG := F.lenG
  ex := fun x o h => h2 x o (ne_of_none h F.newD) (F.ex x o h)
theorem Feed.start (h : H0 D = none) (e : Ex H0 H) : Feed H0 H D 0 [] (fun _ => none) (fun _ => []) [] where
  nd := List.nodup_nil
  val := fun q => rfl
  inj := fun _ _ _ h => nomatch h
  ne := fun _ _ h => nomatch h
  inn := fun _ _ h => nomatch h
  new := fun _ _ h => nomatch h
  newD := h
  keys := fun q => by simp
  sum := fun q f => rfl
  mem := fun _ _ h => by simp at h
  le := fun _ _ h => by simp at h
  ndG := fun _ => List.nodup_nil
  len := by simp
  lenG := fun _ => by simp
  ex := e
/-- a seat more: z is its place's dict, old or new -/
theorem Feed.seat (F : Feed H0 H D n L A G kvs) (hz : A p = some z ∨ (A p = none ∧ H0 z = none ∧ z ≠ D ∧ ∀ q a, A q = some a → a ≠ z)) (h2 : ∀ x o, x ≠ D → x ≠ z → H x = some o → H2 x = some o) (h3 : H2 z = some (.dK (cntV (bump i (G p))))) :
    Feed H0 H2 D n (L ++ [(i, p)]) (fun q => if q = p then some z else A q) (fun q => if q = p then bump i (G p) else G q) (if A p = none then putK kvs p (.ref z) else kvs) := by
  have hzD : z ≠ D := by
    rcases hz with h | h
    · exact F.ne _ _ h
    · exact h.2.2.1
  have hz0 : H0 z = none := by
    rcases hz with h | h
    · exact F.new _ _ h
    · exact h.2.1
  have hzA : ∀ q a, q ≠ p → A q = some a → a ≠ z := fun q a hq h => by
    rcases hz with h' | h'
    · intro e; subst e; exact hq (F.inj _ _ _ h h')
    · exact h'.2.2.2 q a h
  have pos : 0 ≤ (L.length : Int) := by omega
  refine { nd := ?_, val := fun q => ?_, inj := fun q q' a h h' => ?_, ne := fun q a h => ?_, inn := fun q a h => ?_, new := fun q a h => ?_, newD := F.newD, keys := fun q => ?_, sum := fun q f => ?_, mem := fun q g hg => ?_, le := fun q g hg => ?_, ndG := fun q => ?_, len := ?_, lenG := fun q => ?_, ex := fun x o h => h2 x o (ne_of_none h F.newD) (ne_of_none h hz0) (F.ex x o h) }
  · split
    · exact putK_keys F.nd
    · exact F.nd
  · by_cases e : q = p
    · subst e
      rw [if_pos rfl]
      rcases hz with h | h
      · rw [if_neg (by rw [h]; simp), F.val, h]
      · rw [if_pos h.1, valV_put, if_pos rfl]; rfl
    · rw [if_neg e]
      split
      · rw [valV_put, if_neg e]; exact F.val q
      · exact F.val q
  · by_cases e : q = p
    · by_cases e' : q' = p
      · rw [e, e']
      · rw [if_pos e] at h
        rw [if_neg e'] at h'
        exact absurd (Option.some.inj h).symm (hzA _ _ e' h')
    · rw [if_neg e] at h
      by_cases e' : q' = p
      · rw [if_pos e'] at h'
        exact absurd (Option.some.inj h').symm (hzA _ _ e h)
      · rw [if_neg e'] at h'
        exact F.inj q q' a h h'
  · by_cases e : q = p
    · rw [if_pos e] at h; rw [← Option.some.inj h]; exact hzD
    · rw [if_neg e] at h; exact F.ne q a h
  · by_cases e : q = p
    · rw [if_pos e] at h; rw [← Option.some.inj h, if_pos e]; exact h3
    · rw [if_neg e] at h
      rw [if_neg e]
      exact h2 _ _ (F.ne q a h) (hzA q a e h) (F.inn q a h)
  · by_cases e : q = p
    · rw [if_pos e] at h; rw [← Option.some.inj h]; exact hz0
    · rw [if_neg e] at h; exact F.new q a h
  · by_cases e : q = p
    · rw [if_pos e]
      refine ⟨fun _ => .inr ⟨i, ?_⟩, fun _ => rfl⟩
      rw [e]; simp
    · rw [if_neg e, F.keys q]
      constructor
      · rintro (h | ⟨j, h⟩)
        · exact .inl h
        · exact .inr ⟨j, List.mem_append_left _ h⟩
      · rintro (h | ⟨j, h⟩)
        · exact .inl h
        · rcases List.mem_append.mp h with h | h
          · exact .inr ⟨j, h⟩
          · have : (j, q) = (i, p) := by simpa using h
            exact absurd (Prod.mk.inj this).2 e
  · rw [toQ_append]
    show cntQ f (if q = p then bump i (G p) else G q) = toQ f q L + ((if p = q then f i else 0) + 0)
    by_cases e : q = p
    · subst e
      rw [if_pos rfl, if_pos rfl, cntQ_bump, F.sum]; omega
    · rw [if_neg e, if_neg (fun z => e z.symm), F.sum]; omega
  · by_cases e : q = p
    · rw [if_pos e] at hg
      have hk : g.1 ∈ (bump i (G p)).map (·.1) := List.mem_map.mpr ⟨g, hg, rfl⟩
      rcases bump_keys.mp hk with h | h
      · rw [h, e]; simp
      · obtain ⟨g', hg', e'⟩ := List.mem_map.mp h
        have := F.mem p g' hg'
        rw [e', ← e] at this
        exact List.mem_append_left _ this
    · rw [if_neg e] at hg
      exact List.mem_append_left _ (F.mem q g hg)
  · have hl : ((L ++ [(i, p)]).length : Int) = L.length + 1 := by simp
    rw [hl]
    by_cases e : q = p
    · rw [if_pos e] at hg
      exact bump_le (F.le p) pos g hg
    · rw [if_neg e] at hg
      have := F.le q g hg
      exact ⟨this.1, by omega⟩
  · by_cases e : q = p
    · rw [if_pos e]; exact bump_nd (F.ndG p)
    · rw [if_neg e]; exact F.ndG q
  · rw [List.length_append]
    have := F.len
    split
    · have := length_putK kvs p (.ref z)
      simp; omega
    · simp; omega
  · rw [List.length_append]
    have h1 := F.lenG q
    have h2 := F.lenG p
    have h3 := @bump_len i (G p)
    by_cases e : q = p
    · rw [if_pos e]; simp; omega
    · rw [if_neg e]; simp; omega
end
/-! ### states -/
def qD (q : List Int) : PyData := .tuple (q.map PyData.int)
def qsD (qs : List (List Int)) : PyData := .tuple (qs.map qD)
def stateD (p : Int) (qs : List (List Int)) : PyData := .tuple [.int p, qsD qs]
theorem qD_t (q : List Int) : TupD (qD q) := .tup fun d hd => by
  obtain ⟨k, _, rfl⟩ := List.mem_map.mp hd
  exact .int k
theorem qsD_t (qs : List (List Int)) : TupD (qsD qs) := .tup fun d hd => by
  obtain ⟨k, _, rfl⟩ := List.mem_map.mp hd
  exact qD_t k
theorem stateD_t (p : Int) (qs : List (List Int)) : TupD (stateD p qs) := .tup fun d hd => by
  simp only [List.mem_cons, List.not_mem_nil, or_false] at hd
  rcases hd with rfl | rfl
  · exact .int p
  · exact qsD_t qs
theorem ints_dp {K : PySem.W.Frag} {H : Hp} : ∀ q : List Int, DpAll K H (q.map V.int) (q.map PyData.int)
  | [] => .nil
  | i :: q => .cons (.int i) (ints_dp q)
theorem dp_ints {K : PySem.W.Frag} {H : Hp} : ∀ {q : List Int} {vs : List V}, DpAll K H vs (q.map PyData.int) → vs = q.map V.int
  | [], _, .nil => rfl
  | i :: q, _, .cons h hs => by rw [h.int_inv, dp_ints hs]; rfl
theorem q_at {K : PySem.W.Frag} {H : Hp} {v : V} {q : List Int} (h : Dp K H v (qD q)) : ∃ a, v = .ref a ∧ SqT K H a (q.map V.int) := by
  obtain ⟨a, xs, e, h1, h2⟩ := Dp.tup_inv h
  rw [dp_ints h2] at h1
  exact ⟨a, e, h1⟩
theorem qs_at {K : PySem.W.Frag} {H : Hp} {v : V} {qs : List (List Int)} (h : Dp K H v (qsD qs)) : ∃ a ts, v = .ref a ∧ SqT K H a ts ∧ DpAll K H ts (qs.map qD) := Dp.tup_inv h
theorem state_at {K : PySem.W.Frag} {H : Hp} {v : V} {p : Int} {qs : List (List Int)} (h : Dp K H v (stateD p qs)) : ∃ a u, v = .ref a ∧ SqT K H a [.int p, u] ∧ Dp K H u (qsD qs) := by
  obtain ⟨a, xs, e, h1, h2⟩ := Dp.tup_inv h
  cases h2 with
  | cons h hs =>
    cases hs with
    | cons h' hs =>
      cases hs
      rw [h.int_inv] at h1
      exact ⟨a, _, e, h1, h'⟩
/-- the queues of a network's stations -/
structure StOk (N : Net) (p : Int) (qs : List (List Int)) : Prop where
  pos : 1 ≤ p
  len : qs.length = N.length
  lt : ∀ (k : Nat) q s, qs[k]? = some q → N[k]? = some s → q.length < s.length
  nd : qs.flatten.Nodup
  rng : ∀ x ∈ qs.flatten, 1 ≤ x ∧ x < p
/-! ### sets -/
section
variable {K : PySem.W.Frag} {P : Program} {w : World} {H : Hp} {Q : VK} {p : Addr} {S : Key → Bool} {n : Nat} {k : Key}
theorem x_tSAddK {to : TE} {t : TA} {σ : L2.St} : tSAddK P w to t σ H Q = to σ H fun x H1 => (∃ a S n, x = V.ref a ∧ H1 a = some (SetK P w a S n)) ∧ t σ H1 fun xs H2 => rSAddK P w x xs H2 Q := rfl
theorem x_set0 (q : ∀ p H', H p = none → Ex H H' → H' p = some (SetK P w p (fun _ => false) 0) → Q (.ref p) H') : rSet0K P w [] H Q := ⟨rfl, fun p hp => q p _ hp (Ex.new hp) upd_same⟩
theorem x_inS (h : H p = some (SetK P w p S n)) (q : Q (.bl (S k)) H) : rInU K P w false (kV k) (.ref p) H Q := .inr ⟨k, p, S, n, rfl, rfl, h, q⟩
theorem x_sadd (h : H p = some (SetK P w p S n)) (hn : n ≤ 1000) (q : ∀ H' m, (∀ x o, x ≠ p → H x = some o → H' x = some o) → m ≤ n + 1 → H' p = some (SetK P w p (fun j => S j || decide (j = k)) m) → Q .non H') : rSAddK P w (.ref p) [kV k] H Q :=
  ⟨p, k, S, n, rfl, rfl, h, by have : (1002 : Nat) ≤ scanBound := by decide +kernel
                               omega, q _ _ (fun x o hx e => by rw [upd_ne hx]; exact e) (by split <;> omega) upd_same⟩
end
end FB
set_option Elab.async false
set_option linter.all false
set_option maxRecDepth 100000
set_option maxHeartbeats 4000000
/-! Sorted texts; flat data. -/
namespace FB
open PySem PySem.Spec PyProof.Rows L2 Evl
theorem str_ext {a b : Str} (h : a.cps.toList = b.cps.toList) : a = b := by
  cases a with
  | mk x =>
    cases b with
    | mk y =>
      have : x = y := by
        have h : x.toList = y.toList := h
        rw [← Array.toArray_toList (xs := x), ← Array.toArray_toList (xs := y), h]
      rw [this]
theorem rising_pw : ∀ {r : List Str} {p : Str}, risingS p r = true → (p :: r).Pairwise fun a b => a.cps.toList ≤ b.cps.toList
  | [], p, _ => by simp
  | x :: r, p, h => by
    have h : (!ltCps x.cps.toList p.cps.toList && risingS x r) = true := h
    rw [Bool.and_eq_true] at h
    have ih := rising_pw h.2
    have hx : p.cps.toList ≤ x.cps.toList := by
      have := h.1
      rw [PyProof.Rows.ltCps_eq] at this
      simpa using this
    rw [List.pairwise_cons]
    refine ⟨fun y hy => ?_, ih⟩
    rcases List.mem_cons.mp hy with rfl | hy
    · exact hx
    · exact List.le_trans hx ((List.pairwise_cons.mp ih).1 y hy)
theorem sorted_same {a b : List Str} (hp : a.Perm b) (ha : sortedS a = true) (hb : sortedS b = true) : a = b := by
  have pw : ∀ {l : List Str}, sortedS l = true → l.Pairwise fun a b => a.cps.toList ≤ b.cps.toList := fun {l} h => by
    cases l with
    | nil => exact List.Pairwise.nil
    | cons x r => exact rising_pw h
  exact List.Perm.eq_of_pairwise (fun x y _ _ h1 h2 => str_ext (List.le_antisymm h1 h2)) (pw ha) (pw hb) hp
theorem depthAll_le {m : Nat} : ∀ {ds : List PyData}, (∀ d ∈ ds, d.depth ≤ m) → PyData.depthAll ds ≤ m
  | [], _ => by simp [PyData.depthAll]
  | d :: r, h => by
    have h1 := h d (List.mem_cons_self ..)
    have h2 := depthAll_le fun d hd => h d (List.mem_cons_of_mem _ hd)
    simp [PyData.depthAll]
    omega
theorem layAll : ∀ {ds : List PyData}, (∀ d ∈ ds, d.canLay0 = true) → PyData.canLayAll0 ds = true
  | [], _ => by simp [PyData.canLayAll0]
  | d :: r, h => by
    simp [PyData.canLayAll0, h d (List.mem_cons_self ..), layAll fun d hd => h d (List.mem_cons_of_mem _ hd)]
theorem strs_dp {K : PySem.W.Frag} {H : Hp} : ∀ q : List Str, DpAll K H (q.map V.str) (q.map PyData.str)
  | [] => .nil
  | i :: q => .cons (.str i) (strs_dp q)
/-- sorted(d), the keys texts -/
def rSortD (vs : List V) (H : Hp) (Q : VK) : Prop := ∃ (a : Addr) (kvs : List (Key × V)) (ks : List Str), vs = [.ref a] ∧ Rd H a (.dK kvs) ∧ kvs.map (·.1) = ks.map Sum.inr ∧ ks.length < 64 ∧ ∀ ys p, ys.Perm ks → sortedS ys = true → H p = none → Q (.ref p) (upd H p (.lst (ys.map V.str)))
theorem call_sortD {X : Cx} (hc : X.calm = true) : CallR X (.builtin "sorted") rSortD := call_sortedD hc
section
variable {K : PySem.W.Frag} {H : Hp} {a b : Addr} {ka kb : List (Key × V)} {Q : VK}
theorem x_sortD {ks : List Str} (h : H a = some (.dK ka)) (hk : ka.map (·.1) = ks.map Sum.inr) (hl : ks.length < 64) (q : ∀ ys p H', ys.Perm ks → sortedS ys = true → H p = none → Ex H H' → H' p = some (.lst (ys.map V.str)) → Q (.ref p) H') : rSortD [.ref a] H Q :=
  ⟨a, ka, ks, rfl, .inl h, hk, hl, fun ys p h1 h2 h3 => q ys p _ h1 h2 h3 (Ex.new h3) upd_same⟩
theorem x_isDict (h : H a = some (.dK ka)) (q : Q (.bl true) H) : rIsiU K [.ref a, .ty "dict"] H Q := .inl ⟨_, _, .type "dict", .type "dict", true, rfl, .ty _, .base (.dK h), rfl, q⟩
theorem x_eqDA (h1 : H a = some (.dK ka)) (h2 : H b = some (.dK kb)) (hl : ka.length = kb.length) (hp : ∀ p ∈ ka, valV kb p.1 = some p.2 ∧ flatB p.2 = true) (q : Q (.bl true) H) : rEqDA (.ref a) (.ref b) H Q := ⟨a, b, ka, kb, rfl, rfl, h1, h2, hl, hp, q⟩
end
end FB
set_option Elab.async false
set_option linter.all false
set_option maxRecDepth 100000
set_option maxHeartbeats 4000000
/-! Arrivals: who joins a queue, whose boat departs. -/
namespace FB
open PySem PySem.Spec PyProof.Rows L2 Evl
/-- queues of what waits -/
abbrev QsA (α : Type) := List (List α)
abbrev Qs := QsA Int
/-- what happens: a boat with its passengers (.inl), one who finishes (.inr) -/
abbrev EvsA (α : Type) := List (Key × List α)
abbrev Evs := EvsA Int
abbrev Dep (α : Type) := QsA α → Nat → QsA α × EvsA α
section
variable {α : Type} [Inhabited α]
def joinW (N : Net) (dep : Dep α) (qs : QsA α) (j : Nat) (p : α) : QsA α × EvsA α :=
  if (qs.getD j [] ++ [p]).length = (N.getD j []).length then dep (qs.set j (qs.getD j [] ++ [p])) j else (qs.set j (qs.getD j [] ++ [p]), [])
def moveW (N : Net) (dep : Dep α) : List (Key × α) → QsA α → QsA α × EvsA α
  | [], qs => (qs, [])
  | (.inr z, p) :: r, qs => ((moveW N dep r qs).1, (.inr z, [p]) :: (moveW N dep r qs).2)
  | (.inl j, p) :: r, qs => ((moveW N dep r (joinW N dep qs j.toNat p).1).1, (joinW N dep qs j.toNat p).2 ++ (moveW N dep r (joinW N dep qs j.toNat p).1).2)
/-- f: how many stations are left at most -/
def departW (N : Net) : Nat → Dep α
  | 0 => fun qs _ => (qs, [])
  | f + 1 => fun qs st => ((moveW N (departW N f) ((N.getD st []).zip (qs.getD st [])) (qs.set st [])).1, (.inl (st : Int), qs.getD st []) :: (moveW N (departW N f) ((N.getD st []).zip (qs.getD st [])) (qs.set st [])).2)
/-- who finishes -/
def finOf : EvsA α → List (Str × α)
  | [] => []
  | (.inl _, _) :: r => finOf r
  | (.inr z, ps) :: r => (z, ps.headD default) :: finOf r
theorem finOf_append : ∀ {a b : EvsA α}, finOf (a ++ b) = finOf a ++ finOf b
  | [], _ => rfl
  | (.inl _, _) :: r, b => finOf_append (a := r)
  | (.inr z, ps) :: r, b => congrArg ((z, ps.headD default) :: ·) (finOf_append (a := r))
theorem moveW_append {N : Net} {dep : Dep α} : ∀ {a b : List (Key × α)} {qs : QsA α}, moveW N dep (a ++ b) qs = ((moveW N dep b (moveW N dep a qs).1).1, (moveW N dep a qs).2 ++ (moveW N dep b (moveW N dep a qs).1).2)
  | [], b, qs => rfl
  | (.inr z, p) :: r, b, qs => by
    show ((moveW N dep (r ++ b) qs).1, (.inr z, [p]) :: (moveW N dep (r ++ b) qs).2) = _
    rw [moveW_append]; rfl
  | (.inl j, p) :: r, b, qs => by
    show ((moveW N dep (r ++ b) (joinW N dep qs j.toNat p).1).1, (joinW N dep qs j.toNat p).2 ++ (moveW N dep (r ++ b) (joinW N dep qs j.toNat p).1).2) = _
    rw [moveW_append]
    show (_, (joinW N dep qs j.toNat p).2 ++ (_ ++ _)) = (_, ((joinW N dep qs j.toNat p).2 ++ _) ++ _)
    rw [List.append_assoc]; rfl
/-- one move more -/
theorem moveW_snoc {N : Net} {dep : Dep α} {a : List (Key × α)} {k : Key} {p : α} {qs : QsA α} : moveW N dep (a ++ [(k, p)]) qs = ((moveW N dep [(k, p)] (moveW N dep a qs).1).1, (moveW N dep a qs).2 ++ (moveW N dep [(k, p)] (moveW N dep a qs).1).2) := moveW_append
theorem move_one_r {N : Net} {dep : Dep α} {z : Str} {p : α} {qs : QsA α} : moveW N dep [(.inr z, p)] qs = (qs, [(.inr z, [p])]) := rfl
theorem move_one_l {N : Net} {dep : Dep α} {j : Int} {p : α} {qs : QsA α} : moveW N dep [(.inl j, p)] qs = joinW N dep qs j.toNat p := by
  show (_, (joinW N dep qs j.toNat p).2 ++ []) = _
  rw [List.append_nil]; rfl
/-- each queue is shorter than its boat -/
structure Short (N : Net) (qs : QsA α) : Prop where
  len : qs.length = N.length
  lt : ∀ k, k < N.length → (qs.getD k []).length < (N.getD k []).length
/-- seats lead to later stations that there are -/
def Fw (N : Net) : Prop := ∀ i, i < N.length → ∀ j : Int, (.inl j : Key) ∈ N.getD i [] → (i : Int) < j ∧ j < N.length
theorem getD_set' {l : QsA α} {i j : Nat} {x : List α} (h : i < l.length) : (l.set i x).getD j [] = if j = i then x else l.getD j [] := by
  rw [List.getD_eq_getElem?_getD, List.getElem?_set]
  by_cases e : i = j
  · subst e
    rw [if_pos rfl, if_pos rfl, if_pos h]; rfl
  · rw [if_neg e, if_neg (fun z => e z.symm), ← List.getD_eq_getElem?_getD]
/-- a departure from st on is sound: what it asks, what it leaves -/
def DepOk (N : Net) (f : Nat) (dep : Dep α) : Prop := ∀ qs st, N.length ≤ st + f → st < N.length → qs.length = N.length → (∀ k, k < N.length → k ≠ st → (qs.getD k []).length < (N.getD k []).length) → (qs.getD st []).length ≤ (N.getD st []).length → 1 ≤ (N.getD st []).length →
  Short N (dep qs st).1 ∧ ∀ k, k < st → (dep qs st).1.getD k [] = qs.getD k []
theorem joinW_ok {N : Net} {f : Nat} {dep : Dep α} (h1 : ∀ k, k < N.length → 1 ≤ (N.getD k []).length) (hd : DepOk N f dep) {qs : QsA α} {j : Nat} {p : α} (S : Short N qs) (hj : j < N.length) (hf : N.length ≤ j + f) : Short N (joinW N dep qs j p).1 ∧ ∀ k, k < j → (joinW N dep qs j p).1.getD k [] = qs.getD k [] := by
  have hjl : j < qs.length := by rw [S.len]; exact hj
  have lt := S.lt j hj
  unfold joinW
  split
  · rename_i e
    have q := hd (qs.set j (qs.getD j [] ++ [p])) j hf hj (by rw [List.length_set]; exact S.len) (fun k hk hne => by rw [getD_set' hjl, if_neg hne]; exact S.lt k hk) (by rw [getD_set' hjl, if_pos rfl]; omega) (h1 j hj)
    exact ⟨q.1, fun k hk => by rw [q.2 k hk, getD_set' hjl, if_neg (by omega)]⟩
  · rename_i e
    refine ⟨⟨by rw [List.length_set]; exact S.len, fun k hk => ?_⟩, fun k hk => by rw [getD_set' hjl, if_neg (by omega)]⟩
    rw [getD_set' hjl]
    split
    · rename_i e2
      subst e2
      have e3 : (qs.getD k [] ++ [p]).length = (qs.getD k []).length + 1 := by simp
      omega
    · exact S.lt k hk
theorem moveW_ok {N : Net} {f : Nat} {dep : Dep α} (h1 : ∀ k, k < N.length → 1 ≤ (N.getD k []).length) (hd : DepOk N f dep) {st : Nat} (hf : N.length ≤ st + 1 + f) : ∀ {ms : List (Key × α)} {qs : QsA α}, (∀ m ∈ ms, ∀ j : Int, m.1 = .inl j → (st : Int) < j ∧ j < N.length) → Short N qs →
    Short N (moveW N dep ms qs).1 ∧ ∀ k, k ≤ st → (moveW N dep ms qs).1.getD k [] = qs.getD k []
  | [], qs, _, S => ⟨S, fun _ _ => rfl⟩
  | (.inr z, p) :: r, qs, hm, S => moveW_ok h1 hd hf (ms := r) (fun m h => hm m (List.mem_cons_of_mem _ h)) S
  | (.inl j, p) :: r, qs, hm, S => by
    obtain ⟨a, b⟩ := hm _ (List.mem_cons_self ..) j rfl
    obtain ⟨S1, K1⟩ := joinW_ok h1 hd (p := p) S (j := j.toNat) (by omega) (by omega)
    obtain ⟨S2, K2⟩ := moveW_ok h1 hd hf (ms := r) (fun m h => hm m (List.mem_cons_of_mem _ h)) S1
    exact ⟨S2, fun k hk => by
      show (moveW N dep r (joinW N dep qs j.toNat p).1).1.getD k [] = _
      rw [K2 k hk, K1 k (by omega)]⟩
theorem departW_ok {N : Net} (h1 : ∀ k, k < N.length → 1 ≤ (N.getD k []).length) (fw : Fw N) : ∀ f, DepOk N f (departW (α := α) N f)
  | 0 => fun qs st h1 h2 => by omega
  | f + 1 => fun qs st hf hst hl hs hs2 h1s => by
    have hql : st < qs.length := by rw [hl]; exact hst
    have S0 : Short N (qs.set st []) := ⟨by rw [List.length_set]; exact hl, fun k hk => by
      rw [getD_set' hql]
      split
      · rename_i e; subst e; exact h1s
      · rename_i e; exact hs k hk e⟩
    obtain ⟨S1, K1⟩ := moveW_ok h1 (departW_ok h1 fw f) (st := st) (by omega) (ms := (N.getD st []).zip (qs.getD st [])) (fun m hm j e => fw st hst j (by rw [← e]; exact (List.of_mem_zip hm).1)) S0
    exact ⟨S1, fun k hk => by
      show (moveW N (departW N f) _ _).1.getD k [] = _
      rw [K1 k (by omega), getD_set' hql, if_neg (by omega)]⟩
/-! ### nobody is lost -/
theorem flat_set {x y : List α} : ∀ {qs : QsA α} {j : Nat}, qs[j]? = some x → ∃ a b, qs.flatten = a ++ x ++ b ∧ (qs.set j y).flatten = a ++ y ++ b
  | [], j, h => by simp at h
  | q :: qs, 0, h => by
    have e : q = x := by simpa using h
    subst e
    exact ⟨[], qs.flatten, by simp, by simp⟩
  | q :: qs, j + 1, h => by
    obtain ⟨a, b, h1, h2⟩ := flat_set (qs := qs) (j := j) (x := x) (y := y) (by simpa using h)
    exact ⟨q ++ a, b, by simp [h1], by simp [h2]⟩
theorem getD_some {qs : QsA α} {j : Nat} (h : j < qs.length) : qs[j]? = some (qs.getD j []) := by simp [List.getD_eq_getElem?_getD, h]
/-- who waits or has finished afterwards has waited before -/
def DepPm (N : Net) (dep : Dep α) : Prop := ∀ qs st, st < qs.length → qs.length = N.length → (qs.getD st []).length ≤ (N.getD st []).length → (dep qs st).1.length = qs.length ∧ ((dep qs st).1.flatten ++ (finOf (dep qs st).2).map (·.2)).Perm qs.flatten
theorem set_perm {qs : QsA α} {j : Nat} {p : α} (h : j < qs.length) : ((qs.set j (qs.getD j [] ++ [p])).flatten).Perm (qs.flatten ++ [p]) := by
  obtain ⟨a, b, h1, h2⟩ := flat_set (y := qs.getD j [] ++ [p]) (getD_some h)
  rw [h1, h2]
  simp only [List.append_assoc]
  refine List.Perm.append_left _ (List.Perm.append_left _ ?_)
  exact List.perm_append_comm
theorem joinW_pm {N : Net} {dep : Dep α} (hd : DepPm N dep) {qs : QsA α} {j : Nat} {p : α} (h : j < qs.length) (hl : qs.length = N.length) : (joinW N dep qs j p).1.length = qs.length ∧ ((joinW N dep qs j p).1.flatten ++ (finOf (joinW N dep qs j p).2).map (·.2)).Perm (qs.flatten ++ [p]) := by
  unfold joinW
  split
  · rename_i e
    obtain ⟨a, b⟩ := hd (qs.set j (qs.getD j [] ++ [p])) j (by rw [List.length_set]; exact h) (by rw [List.length_set]; exact hl) (by rw [getD_set' h, if_pos rfl]; omega)
    exact ⟨by rw [a, List.length_set], b.trans (set_perm h)⟩
  · exact ⟨by rw [List.length_set], by simpa [finOf] using set_perm (p := p) h⟩
theorem moveW_pm {N : Net} {dep : Dep α} (hd : DepPm N dep) : ∀ {ms : List (Key × α)} {qs : QsA α}, (∀ m ∈ ms, ∀ j : Int, m.1 = .inl j → j.toNat < qs.length) → qs.length = N.length → (moveW N dep ms qs).1.length = qs.length ∧ ((moveW N dep ms qs).1.flatten ++ (finOf (moveW N dep ms qs).2).map (·.2)).Perm (qs.flatten ++ ms.map (·.2))
  | [], qs, _, _ => ⟨rfl, by simp [moveW, finOf]⟩
  | (.inr z, p) :: r, qs, hm, hl => by
    obtain ⟨a, b⟩ := moveW_pm hd (ms := r) (qs := qs) (fun m h => hm m (List.mem_cons_of_mem _ h)) hl
    refine ⟨a, ?_⟩
    show ((moveW N dep r qs).1.flatten ++ p :: (finOf (moveW N dep r qs).2).map (·.2)).Perm (qs.flatten ++ p :: r.map (·.2))
    exact (List.perm_middle.trans (b.cons p)).trans List.perm_middle.symm
  | (.inl j, p) :: r, qs, hm, hl => by
    obtain ⟨a1, b1⟩ := joinW_pm (N := N) hd (p := p) (hm _ (List.mem_cons_self ..) j rfl) hl
    obtain ⟨a2, b2⟩ := moveW_pm hd (ms := r) (qs := (joinW N dep qs j.toNat p).1) (fun m h j' e => by rw [a1]; exact hm m (List.mem_cons_of_mem _ h) j' e) (a1.trans hl)
    refine ⟨a2.trans a1, ?_⟩
    show ((moveW N dep r (joinW N dep qs j.toNat p).1).1.flatten ++ (finOf ((joinW N dep qs j.toNat p).2 ++ (moveW N dep r (joinW N dep qs j.toNat p).1).2)).map (·.2)).Perm (qs.flatten ++ p :: r.map (·.2))
    rw [finOf_append, List.map_append]
    generalize (moveW N dep r (joinW N dep qs j.toNat p).1).1.flatten = X at b2
    generalize (finOf (moveW N dep r (joinW N dep qs j.toNat p).1).2).map (·.2) = Y at b2
    generalize (joinW N dep qs j.toNat p).1.flatten = Z at b1 b2
    generalize (finOf (joinW N dep qs j.toNat p).2).map (·.2) = U at b1
    have e1 : (X ++ (U ++ Y)).Perm (U ++ (X ++ Y)) := by
      rw [← List.append_assoc, ← List.append_assoc]
      exact List.Perm.append_right _ List.perm_append_comm
    have e2 : (U ++ (X ++ Y)).Perm (U ++ (Z ++ r.map (·.2))) := List.Perm.append_left _ b2
    have e3 : (U ++ (Z ++ r.map (·.2))).Perm ((Z ++ U) ++ r.map (·.2)) := by
      rw [← List.append_assoc]
      exact List.Perm.append_right _ List.perm_append_comm
    have e4 : ((Z ++ U) ++ r.map (·.2)).Perm ((qs.flatten ++ [p]) ++ r.map (·.2)) := List.Perm.append_right _ b1
    have e5 : (qs.flatten ++ [p]) ++ r.map (·.2) = qs.flatten ++ p :: r.map (·.2) := by simp
    rw [← e5]
    exact ((e1.trans e2).trans e3).trans e4
theorem zip_snd : ∀ {a : List Key} {b : List α}, b.length ≤ a.length → (a.zip b).map (·.2) = b
  | _, [], _ => by simp
  | [], _ :: _, h => by simp at h
  | x :: a, y :: b, h => by
    rw [List.zip_cons_cons, List.map_cons, zip_snd (by simpa using h)]
theorem departW_pm {N : Net} (fw : Fw N) : ∀ f, DepPm N (departW (α := α) N f)
  | 0 => fun qs st _ _ _ => ⟨rfl, by simp [departW, finOf]⟩
  | f + 1 => fun qs st hst hl hs => by
    obtain ⟨a, b⟩ := moveW_pm (departW_pm fw f) (ms := (N.getD st []).zip (qs.getD st [])) (qs := qs.set st []) (fun m hm j e => by
      have := fw st (by omega) j (by rw [← e]; exact (List.of_mem_zip hm).1)
      rw [List.length_set]; omega) (by rw [List.length_set]; exact hl)
    refine ⟨by show (moveW N (departW N f) _ _).1.length = _; rw [a, List.length_set], ?_⟩
    show ((moveW (α := α) N (departW N f) ((N.getD st []).zip (qs.getD st [])) (qs.set st [])).1.flatten ++ (finOf (α := α) (moveW N (departW N f) ((N.getD st []).zip (qs.getD st [])) (qs.set st [])).2).map (fun x : Str × α => x.2)).Perm _
    refine b.trans ?_
    rw [zip_snd hs]
    obtain ⟨u, v, h1, h2⟩ := flat_set (y := []) (getD_some hst)
    rw [h1, h2]
    simp only [List.append_nil, List.append_assoc]
    exact List.Perm.append_left _ List.perm_append_comm
end
/-! ### the queues as lists in a list -/
structure QsAt (K : PySem.W.Frag) (H : Hp) (Qa : Addr) (as : List Addr) (qs : Qs) : Prop where
  at_ : H Qa = some (.lst (as.map V.ref))
  len : as.length = qs.length
  nd : as.Nodup
  ne : Qa ∉ as
  q : ∀ (i : Nat) a, as[i]? = some a → H a = some (.lst ((qs.getD i []).map V.int))
def fpD (p : Str × Int) : PyData := .tuple [.str p.1, .int p.2]
theorem fpD_t (p : Str × Int) : TupD (fpD p) := .tup fun d hd => by
  simp only [List.mem_cons, List.not_mem_nil, or_false] at hd
  rcases hd with rfl | rfl
  · exact .str _
  · exact .int _
structure FinAt (K : PySem.W.Frag) (H : Hp) (Fa : Addr) (fs : List (Str × Int)) : Prop where
  ex : ∃ ts, H Fa = some (.lst ts) ∧ DpAll K H ts (fs.map fpD)
section
variable {K : PySem.W.Frag} {H H2 : Hp} {Qa Fa a : Addr} {as : List Addr} {qs : Qs} {fs : List (Str × Int)} {j : Nat} {y : List Int}
theorem QsAt.ex (W : QsAt K H Qa as qs) (e : Ex H H2) : QsAt K H2 Qa as qs := ⟨e _ _ W.at_, W.len, W.nd, W.ne, fun i a h => e _ _ (W.q i a h)⟩
theorem QsAt.but (W : QsAt K H Qa as qs) (e : ∀ x o, x ≠ a → H x = some o → H2 x = some o) (h1 : Qa ≠ a) (h2 : a ∉ as) : QsAt K H2 Qa as qs :=
  ⟨e _ _ h1 W.at_, W.len, W.nd, W.ne, fun i b h => e _ _ (fun z => h2 (by rw [← z]; exact List.mem_of_getElem? h)) (W.q i b h)⟩
theorem QsAt.set (W : QsAt K H Qa as qs) (ha : as[j]? = some a) (e : ∀ x o, x ≠ a → H x = some o → H2 x = some o) (h2 : H2 a = some (.lst (y.map V.int))) : QsAt K H2 Qa as (qs.set j y) := by
  have hj : j < qs.length := by rw [← W.len]; exact (List.getElem?_eq_some_iff.mp ha).1
  refine ⟨e _ _ (fun z => W.ne (by rw [z]; exact List.mem_of_getElem? ha)) W.at_, by rw [List.length_set]; exact W.len, W.nd, W.ne, fun i b h => ?_⟩
  rw [getD_set' hj]
  by_cases z : i = j
  · subst z
    rw [ha] at h
    cases h
    rw [if_pos rfl, h2]
  · rw [if_neg z]
    refine e _ _ (fun z2 => z ?_) (W.q i b h)
    subst z2
    have hi := (List.getElem?_eq_some_iff.mp h).1
    exact (List.getElem?_inj hi W.nd).mp (by rw [h, ha])
theorem FinAt.tx (W : FinAt K H Fa fs) (t : TX H H2) (h : ∀ o, H Fa = some o → H2 Fa = some o) : FinAt K H2 Fa fs := by
  obtain ⟨ts, h1, h2⟩ := W.ex
  exact ⟨⟨ts, h _ h1, DpAll.tx t h2 fun d hd => by
    obtain ⟨p, _, rfl⟩ := List.mem_map.mp hd
    exact fpD_t p⟩⟩
theorem FinAt.e (W : FinAt K H Fa fs) (e : Ex H H2) : FinAt K H2 Fa fs := W.tx (TX.of e) fun o h => e _ _ h
theorem QsAt.get (W : QsAt K H Qa as qs) (hj : j < qs.length) : ∃ a, as[j]? = some a ∧ H a = some (.lst ((qs.getD j []).map V.int)) ∧ a ∈ as := by
  have hj2 : j < as.length := by rw [W.len]; exact hj
  exact ⟨as[j], List.getElem?_eq_getElem hj2, W.q j _ (List.getElem?_eq_getElem hj2), List.getElem_mem hj2⟩
/-- all but the queues and the list of who finished stand -/
def Ex3 (as : List Addr) (Fa : Addr) (H H' : Hp) : Prop := ∀ x o, H x = some o → x ≠ Fa → x ∉ as → H' x = some o
theorem Ex3.tx (e : Ex3 as Fa H H2) (W : QsAt K H Qa as qs) (F : FinAt K H Fa fs) : TX H H2 := fun x o h c => by
  obtain ⟨ts, h1, _⟩ := F.ex
  refine e x o h (fun z => by subst z; rw [h1] at h; cases h; exact c) fun z => ?_
  obtain ⟨i, hi⟩ := List.mem_iff_getElem?.mp z
  rw [W.q i x hi] at h
  cases h
  exact c
end
theorem pm_len {a b c : Qs × Evs} {q : Qs} {x : List Int} (h : (a.1.flatten ++ (finOf a.2).map (·.2)).Perm x) : a.1.flatten.length + (finOf a.2).length = x.length := by
  have := h.length_eq
  rw [List.length_append, List.length_map] at this
  exact this
theorem shInts (ns : List Int) : SeqAt.shaped (.list (ns.map PyData.int)) = true := by
  have h1 : PyData.canLayAll0 (ns.map PyData.int) = true := layAll fun d hd => by
    obtain ⟨i, _, rfl⟩ := List.mem_map.mp hd; rfl
  have h2 : PyData.depthAll (ns.map PyData.int) ≤ 1 := depthAll_le fun d hd => by
    obtain ⟨i, _, rfl⟩ := List.mem_map.mp hd; simp [PyData.depth]
  have h3 : (PyData.list (ns.map PyData.int)).depth ≤ 64 := by rw [PyData.depth]; omega
  unfold SeqAt.shaped
  rw [show (PyData.list (ns.map PyData.int)).canLay0 = true by rw [PyData.canLay0]; exact h1]
  simpa using h3
theorem eqv_empty (ns : List Int) : PyData.eqv (.list (ns.map PyData.int)) (.list []) = decide (ns = []) := by
  cases ns with
  | nil => simp [PyData.eqv, PyData.eqvAll]
  | cons a r => simp [PyData.eqv, PyData.eqvAll]
section
variable {K : PySem.W.Frag} {H H2 : Hp} {Qa Fa a h b : Addr} {as : List Addr} {qs : Qs} {fs : List (Str × Int)} {Q : VK} {q : List Int}
theorem QsAt.ex2 (W : QsAt K H Qa as qs) (e : Ex2 h b H H2) (h1 : Qa ≠ h ∧ Qa ≠ b) (h2 : ∀ a ∈ as, a ≠ h ∧ a ≠ b) : QsAt K H2 Qa as qs :=
  ⟨e _ _ W.at_ h1.1 h1.2, W.len, W.nd, W.ne, fun i a ha => have z := h2 a (List.mem_of_getElem? ha); e _ _ (W.q i a ha) z.1 z.2⟩
/-- x != [], a list of ints -/
theorem x_neEmpty (h1 : H a = some (.lst (q.map V.int))) (k : ∀ H', Ex H H' → Q (.bl (!decide (q = []))) H') : rLst [] H (fun y H1 => rNeU K (.ref a) y H1 Q) :=
  x_lst (by simp) fun p H1 np e hp => x_neD (.lst (SqL.of (e _ _ h1)) (ints_dp q)) (.lst (SqL.of hp) .nil) (shInts q) rfl (by rw [eqv_empty]; exact k H1 e)
end
end FB
set_option Elab.async false
set_option linter.all false
set_option maxRecDepth 100000
set_option maxHeartbeats 4000000
/-! Queues as tuples in a list, and the list of what happens. -/
namespace FB
open PySem PySem.Spec PyProof.Rows L2 Evl
section
variable {K : PySem.W.Frag} {H H' H2 : Hp} {a b Qa Ea x : Addr} {xs ys : List V}
theorem walk_zipM : Walk (RZ.ItzT K a b) (min xs.length ys.length) (fun H => SqT K H a xs ∧ SqT K H b ys) (YPair (fun i => xs[i]?) (fun i => ys[i]?)) := by
  refine ⟨fun i _ hi q => ?_, fun _ q => ⟨xs, ys, q.1, q.2, by omega⟩, fun i H v H' _ q y => ?_⟩
  · have h1 : i < xs.length := by omega
    have h2 : i < ys.length := by omega
    exact ⟨xs, ys, xs[i], ys[i], q.1, q.2, by simp [h1], by simp [h2]⟩
  · obtain ⟨T, x, z, h1, h2, h3, h4, h5⟩ := y
    exact ⟨T, x, z, h1, h2, h3, h4 xs q.1, h5 ys q.2⟩
theorem DpAll.set : ∀ {vs : List V} {ds : List PyData} {i : Nat} {v : V} {d : PyData}, DpAll K H vs ds → Dp K H v d → DpAll K H (vs.set i v) (ds.set i d)
  | _, _, _, _, _, .nil, _ => .nil
  | _, _, 0, _, _, .cons _ hs, h => .cons h hs
  | _, _, _ + 1, _, _, .cons h0 hs, h => .cons h0 (DpAll.set hs h)
section
variable {α : Type} [Inhabited α]
/-- what each passenger is, as data -/
structure PD (pd : α → PyData) : Prop where
  t : ∀ a, TupD (pd a)
def qA (pd : α → PyData) (q : List α) : PyData := .tuple (q.map pd)
def evA (pd : α → PyData) (e : Key × List α) : PyData := .tuple [keyD e.1, qA pd e.2]
variable {pd : α → PyData} {qs : QsA α} {es : EvsA α}
theorem qA_t (h : PD pd) (q : List α) : TupD (qA pd q) := .tup fun d hd => by
  obtain ⟨k, _, rfl⟩ := List.mem_map.mp hd
  exact h.t k
theorem evA_t (h : PD pd) (e : Key × List α) : TupD (evA pd e) := .tup fun d hd => by
  simp only [List.mem_cons, List.not_mem_nil, or_false] at hd
  rcases hd with rfl | rfl
  · exact keyD_t _
  · exact qA_t h _
/-- data in a list -/
structure LsAt (K : PySem.W.Frag) (H : Hp) (a : Addr) (ds : List PyData) : Prop where
  ex : ∃ ts, H a = some (.lst ts) ∧ DpAll K H ts ds
theorem LsAt.tx {ds : List PyData} (W : LsAt K H a ds) (td : ∀ d ∈ ds, TupD d) (t : TX H H2) (h : ∀ o, H a = some o → H2 a = some o) : LsAt K H2 a ds := by
  obtain ⟨ts, h1, h2⟩ := W.ex
  exact ⟨⟨ts, h _ h1, DpAll.tx t h2 td⟩⟩
theorem LsAt.ex2 {ds : List PyData} (W : LsAt K H a ds) (e : Ex H H2) : LsAt K H2 a ds := by
  obtain ⟨ts, h1, h2⟩ := W.ex
  exact ⟨⟨ts, e _ _ h1, DpAll.ex e h2⟩⟩
abbrev QtAt (K : PySem.W.Frag) (H : Hp) (Qa : Addr) (pd : α → PyData) (qs : QsA α) : Prop := LsAt K H Qa (qs.map (qA pd))
abbrev EvAt (K : PySem.W.Frag) (H : Hp) (Ea : Addr) (pd : α → PyData) (es : EvsA α) : Prop := LsAt K H Ea (es.map (evA pd))
theorem qs_t (h : PD pd) : ∀ d ∈ qs.map (qA pd), TupD d := fun d hd => by
  obtain ⟨q, _, rfl⟩ := List.mem_map.mp hd
  exact qA_t h q
theorem es_t (h : PD pd) : ∀ d ∈ es.map (evA pd), TupD d := fun d hd => by
  obtain ⟨q, _, rfl⟩ := List.mem_map.mp hd
  exact evA_t h q
theorem QtAt.get (W : QtAt K H Qa pd qs) {j : Nat} (hj : j < qs.length) : ∃ ts b vs, H Qa = some (.lst ts) ∧ DpAll K H ts (qs.map (qA pd)) ∧ ts[j]? = some (.ref b) ∧ SqT K H b vs ∧ DpAll K H vs ((qs.getD j []).map pd) := by
  obtain ⟨ts, h1, h2⟩ := W.ex
  obtain ⟨v, hv, hd⟩ := h2.get (show (qs.map (qA pd))[j]? = some (qA pd (qs.getD j [])) by simp [List.getD_eq_getElem?_getD, hj])
  obtain ⟨b, vs, rfl, h3, h4⟩ := Dp.tup_inv hd
  exact ⟨ts, b, vs, h1, h2, hv, h3, h4⟩
/-! ### how much happens -/
/-- everybody's way still to go, twice -/
def wayW (n : Nat) : Nat → QsA α → Nat
  | _, [] => 0
  | k, q :: r => q.length * (2 * (n - k)) + wayW n (k + 1) r
theorem wayW_set {n : Nat} : ∀ {qs : QsA α} {k j : Nat} {q : List α}, j < qs.length → wayW n k (qs.set j q) + (qs.getD j []).length * (2 * (n - (k + j))) = wayW n k qs + q.length * (2 * (n - (k + j)))
  | [], _, _, _, h => by simp at h
  | q0 :: r, k, 0, q, _ => by
    show q.length * (2 * (n - k)) + wayW n (k + 1) r + q0.length * (2 * (n - (k + 0))) = q0.length * (2 * (n - k)) + wayW n (k + 1) r + q.length * (2 * (n - (k + 0)))
    simp only [Nat.add_zero]; omega
  | q0 :: r, k, j + 1, q, h => by
    have ih := wayW_set (n := n) (qs := r) (k := k + 1) (j := j) (q := q) (by simpa using h)
    show q0.length * (2 * (n - k)) + wayW n (k + 1) (r.set j q) + (r.getD j []).length * (2 * (n - (k + (j + 1)))) = q0.length * (2 * (n - k)) + wayW n (k + 1) r + q.length * (2 * (n - (k + (j + 1))))
    have e : k + (j + 1) = k + 1 + j := by omega
    rw [e]; omega
theorem wayW_le {n : Nat} : ∀ {qs : QsA α} {k : Nat}, wayW n k qs ≤ qs.flatten.length * (2 * n)
  | [], _ => by simp [wayW]
  | q :: r, k => by
    show q.length * (2 * (n - k)) + wayW n (k + 1) r ≤ _
    have h1 := wayW_le (n := n) (qs := r) (k := k + 1)
    have h2 : q.length * (2 * (n - k)) ≤ q.length * (2 * n) := Nat.mul_le_mul_left _ (by omega)
    rw [List.flatten_cons, List.length_append, Nat.add_mul]
    omega
/-- what a departure costs at most -/
def DepW (N : Net) (f : Nat) (dep : Dep α) : Prop := ∀ qs st, qs.length = N.length → st < N.length → N.length ≤ st + f → 1 ≤ (qs.getD st []).length → wayW N.length 0 (dep qs st).1 + (dep qs st).2.length ≤ wayW N.length 0 qs ∧ (dep qs st).1.length = qs.length
theorem joinW_way {N : Net} {f : Nat} {dep : Dep α} (hd : DepW N f dep) {qs : QsA α} {j : Nat} {p : α} (hl : qs.length = N.length) (hj : j < N.length) (hf : N.length ≤ j + f) : wayW N.length 0 (joinW N dep qs j p).1 + (joinW N dep qs j p).2.length ≤ wayW N.length 0 qs + 2 * (N.length - j) ∧ (joinW N dep qs j p).1.length = qs.length := by
  have h0 := wayW_set (n := N.length) (qs := qs) (k := 0) (j := j) (q := qs.getD j [] ++ [p]) (by omega)
  rw [List.length_append, show [p].length = 1 from rfl, Nat.add_mul, Nat.zero_add, Nat.one_mul] at h0
  unfold joinW
  split
  · obtain ⟨a, b⟩ := hd (qs.set j (qs.getD j [] ++ [p])) j (by rw [List.length_set]; exact hl) hj hf (by rw [getD_set' (by omega), if_pos rfl]; simp)
    refine ⟨?_, by rw [b, List.length_set]⟩
    omega
  · refine ⟨?_, by rw [List.length_set]⟩
    show wayW N.length 0 (qs.set j (qs.getD j [] ++ [p])) + 0 ≤ _
    omega
theorem moveW_way {N : Net} {f : Nat} {dep : Dep α} (hd : DepW N f dep) {st : Nat} (hf : N.length ≤ st + 1 + f) (hst : st < N.length) : ∀ {ms : List (Key × α)} {qs : QsA α}, (∀ m ∈ ms, ∀ j : Int, m.1 = .inl j → (st : Int) < j ∧ j < N.length) → qs.length = N.length →
    wayW N.length 0 (moveW N dep ms qs).1 + (moveW N dep ms qs).2.length + ms.length ≤ wayW N.length 0 qs + ms.length * (2 * (N.length - st)) ∧ (moveW N dep ms qs).1.length = qs.length
  | [], qs, _, _ => by simp [moveW]
  | (.inr z, p) :: r, qs, hm, hl => by
    obtain ⟨a, b⟩ := moveW_way hd hf hst (ms := r) (qs := qs) (fun m h => hm m (List.mem_cons_of_mem _ h)) hl
    refine ⟨?_, b⟩
    show wayW N.length 0 (moveW N dep r qs).1 + ((moveW N dep r qs).2.length + 1) + (r.length + 1) ≤ wayW N.length 0 qs + (r.length + 1) * (2 * (N.length - st))
    rw [Nat.add_mul, Nat.one_mul]
    omega
  | (.inl j, p) :: r, qs, hm, hl => by
    obtain ⟨j1, j2⟩ := hm _ (List.mem_cons_self ..) j rfl
    obtain ⟨a1, b1⟩ := joinW_way (N := N) hd (p := p) (j := j.toNat) hl (by omega) (by omega)
    obtain ⟨a2, b2⟩ := moveW_way hd hf hst (ms := r) (qs := (joinW N dep qs j.toNat p).1) (fun m h => hm m (List.mem_cons_of_mem _ h)) (b1.trans hl)
    refine ⟨?_, b2.trans b1⟩
    show wayW N.length 0 (moveW N dep r (joinW N dep qs j.toNat p).1).1 + ((joinW N dep qs j.toNat p).2 ++ (moveW N dep r (joinW N dep qs j.toNat p).1).2).length + (r.length + 1) ≤ wayW N.length 0 qs + (r.length + 1) * (2 * (N.length - st))
    rw [List.length_append, Nat.add_mul, Nat.one_mul]
    omega
theorem departW_way {N : Net} (fw : Fw N) : ∀ f, DepW N f (departW (α := α) N f)
  | 0 => fun qs st hl hst hf _ => absurd hf (by omega)
  | f + 1 => fun qs st hl hst hf h1 => by
    obtain ⟨a, b⟩ := moveW_way (departW_way fw f) (st := st) (by omega) hst (ms := (N.getD st []).zip (qs.getD st [])) (qs := qs.set st []) (fun m hm j e => by
      exact fw st hst j (by rw [← e]; exact (List.of_mem_zip hm).1)) (by rw [List.length_set]; exact hl)
    refine ⟨?_, b.trans (List.length_set ..)⟩
    have h0 := wayW_set (n := N.length) (qs := qs) (k := 0) (j := st) (q := []) (by omega)
    rw [Nat.zero_add, List.length_nil, Nat.zero_mul] at h0
    have hz : ((N.getD st []).zip (qs.getD st [])).length ≤ (qs.getD st []).length := by rw [List.length_zip]; omega
    generalize hm : ((N.getD st []).zip (qs.getD st [])).length = m at a hz
    show wayW N.length 0 (moveW (α := α) N (departW N f) ((N.getD st []).zip (qs.getD st [])) (qs.set st [])).1 + ((moveW (α := α) N (departW N f) ((N.getD st []).zip (qs.getD st [])) (qs.set st [])).2.length + 1) ≤ _
    have hp : m * (2 * (N.length - st)) - m + 1 ≤ (qs.getD st []).length * (2 * (N.length - st)) := by
      generalize hX : 2 * (N.length - st) = X
      have hX2 : 2 ≤ X := by omega
      generalize (qs.getD st []).length = L at hz h1
      have hle : m * X ≤ L * X := Nat.mul_le_mul_right _ hz
      by_cases e : m = 0
      · subst e
        have : 1 * X ≤ L * X := Nat.mul_le_mul_right _ h1
        omega
      · have : m ≤ m * X := Nat.le_mul_of_pos_right _ (by omega)
        omega
    have hm2 : m ≤ m * (2 * (N.length - st)) := Nat.le_mul_of_pos_right _ (by omega)
    omega
/-- whoever finishes is told -/
def EvOk (es : EvsA α) : Prop := ∀ e ∈ es, ∀ z, e.1 = .inr z → e.2 ≠ []
def DepE (dep : Dep α) : Prop := ∀ qs st, EvOk (dep qs st).2
theorem EvOk.nil : EvOk ([] : EvsA α) := fun _ h => by cases h
theorem EvOk.cons {e : Key × List α} {es : EvsA α} (h1 : ∀ z, e.1 = .inr z → e.2 ≠ []) (h2 : EvOk es) : EvOk (e :: es) := fun x h => by
  rcases List.mem_cons.mp h with rfl | h
  · exact h1
  · exact h2 x h
theorem EvOk.append {a b : EvsA α} (h1 : EvOk a) (h2 : EvOk b) : EvOk (a ++ b) := fun x h => (List.mem_append.mp h).elim (h1 x) (h2 x)
theorem joinW_e {N : Net} {dep : Dep α} (h : DepE dep) (qs : QsA α) (j : Nat) (p : α) : EvOk (joinW N dep qs j p).2 := by
  unfold joinW
  split
  · exact h _ _
  · exact EvOk.nil
theorem moveW_e {N : Net} {dep : Dep α} (h : DepE dep) : ∀ (ms : List (Key × α)) (qs : QsA α), EvOk (moveW N dep ms qs).2
  | [], _ => EvOk.nil
  | (.inr z, p) :: r, qs => EvOk.cons (fun _ _ => by simp) (moveW_e h r qs)
  | (.inl j, p) :: r, qs => EvOk.append (joinW_e h qs j.toNat p) (moveW_e h r _)
theorem departW_e {N : Net} : ∀ f, DepE (departW (α := α) N f)
  | 0 => fun _ _ => EvOk.nil
  | f + 1 => fun qs st => EvOk.cons (fun z e => nomatch e) (moveW_e (departW_e f) ((N.getD st []).zip (qs.getD st [])) (qs.set st []))
/-- who finishes does so at a port of the network -/
def FinS (N : Net) (es : EvsA α) : Prop := ∀ x ∈ finOf es, ∃ k, (.inr x.1 : Key) ∈ N.getD k []
theorem FinS.append {N : Net} {a b : EvsA α} (h1 : FinS N a) (h2 : FinS N b) : FinS N (a ++ b) := fun x h => by
  rw [finOf_append] at h
  exact (List.mem_append.mp h).elim (h1 x) (h2 x)
theorem FinS.nil {N : Net} : FinS N ([] : EvsA α) := fun _ h => by cases h
def DepS (N : Net) (dep : Dep α) : Prop := ∀ qs st, FinS N (dep qs st).2
theorem joinW_s {N : Net} {dep : Dep α} (h : DepS N dep) (qs : QsA α) (j : Nat) (p : α) : FinS N (joinW N dep qs j p).2 := by
  unfold joinW
  split
  · exact h _ _
  · exact FinS.nil
theorem moveW_s {N : Net} {dep : Dep α} (h : DepS N dep) : ∀ (ms : List (Key × α)) (qs : QsA α), (∀ m ∈ ms, ∃ k, m.1 ∈ N.getD k []) → FinS N (moveW N dep ms qs).2
  | [], _, _ => FinS.nil
  | (.inr z, p) :: r, qs, hm => fun x hx => by
    rcases List.mem_cons.mp hx with rfl | hx
    · exact hm _ (List.mem_cons_self ..)
    · exact moveW_s h r qs (fun m h => hm m (List.mem_cons_of_mem _ h)) x hx
  | (.inl j, p) :: r, qs, hm => FinS.append (joinW_s h qs j.toNat p) (moveW_s h r _ fun m h => hm m (List.mem_cons_of_mem _ h))
theorem departW_s {N : Net} : ∀ f, DepS N (departW (α := α) N f)
  | 0 => fun _ _ => FinS.nil
  | f + 1 => fun qs st => fun x hx => moveW_s (departW_s f) ((N.getD st []).zip (qs.getD st [])) (qs.set st []) (fun m hm => ⟨st, (List.of_mem_zip hm).1⟩) x hx
end
end
end FB
set_option Elab.async false
set_option linter.all false
set_option maxRecDepth 100000
set_option maxHeartbeats 4000000
/-! What a caught error says of itself. -/
namespace FB
open PySem PySem.Spec PyProof.Rows L2 Evl
/-! ### list.count of flat items -/
def rCntF (K : PySem.W.Frag) : V → List V → Hp → VK → Prop := fun x xs H Q => ∃ (a : Addr) (ys : List V) (y : V), x = .ref a ∧ xs = [y] ∧ SqL K H a ys ∧ flatV y = true ∧ ys.all flatV = true ∧ Q (.int (ys.countP (fun z => eqV z y) : Nat)) H
theorem count_flat {y : V} : ∀ {ys : List V} {us : List Value}, Vals ys us → ys.all flatV = true → us.countP (eqU y) = ys.countP (fun z => eqV z y)
  | _, _, .nil, _ => rfl
  | z :: ys, u :: us, .cons r rr, f => by
    rw [List.all_cons, Bool.and_eq_true] at f
    rw [List.countP_cons, List.countP_cons, count_flat rr f.2, eqU_of r f.1]
theorem mt_countF {X : Cx} : MtR X "list.count" (rCntF X.K) := by
  intro pins s σ H x xs v us Q I rx rxs h
  obtain ⟨a, ys, y, rfl, rfl, hs, fy, fys, q⟩ := h
  cases rx
  obtain ⟨uy, rfl, ry⟩ := rxs.one
  obtain ⟨its, rv, ⟨⟨cls, dd, data, sl⟩, n, ho, hc, hdn, hd⟩, hlen⟩ := I.list hs
  cases hc
  cases hd
  refine call_meets PySem.F.slot_list_count ⟨_, ho, rfl⟩ PySem.F.entry_list_count (PySem.F.args_list_count_2 _ _)
    (SeqAt.list_countAt a its.toArray n dd sl uy (eqU y)) ⟨ho, fun u hu => mem_eqAt ry fy rv fys u (List.mem_toArray.mp hu), ?_⟩
  rw [show its.toArray.toList.countP (eqU y) = ys.countP (fun z => eqV z y) from count_flat rv fys]
  exact ⟨.int (ys.countP (fun z => eqV z y) : Nat), H, I.tok _, ⟨_, rfl⟩, q⟩
/-! ### isinstance of the caught error -/
/-- what an own error class says of itself -/
structure ErC (K : PySem.W.Frag) (D : Addr) : Prop where
  cl : (PySem.W.clsIn K D).isSome = true
  ga : PySem.W.findIn K (.ref D) "__getattribute__" = some (some (.builtin "BaseException.__getattribute__"))
  gt : PySem.W.findIn K (.ref D) "__getattr__" = some none
  sb : PySem.W.subIn K (.ref D) (.type "BaseException") = some true
  ca : PySem.W.findIn K (.ref D) "__class__" = some (some (.builtin "object.__class__"))
  sp : PySem.W.specialIn K (.builtin "object.__class__") "__get__" = some (some (.builtin "getset_descriptor.__get__"))
  tk : PySem.W.takesIn K (.builtin "object.__class__") = some true
  mr : PySem.W.mroIn K D (.type "object") = some true
/-- the error's own dict, if it has one, stands -/
def HasD (H : Hp) (d : Option Addr) : Prop := d = none ∨ ∃ dd fs, d = some dd ∧ H dd = some (.xd fs)
def rIsX (K : PySem.W.Frag) (cls : Value) (d : Option Addr) (a : Addr) : List V → Hp → VK → Prop := fun xs H Q => ∃ (c : V) (cv : Value) (b : Bool) (D : Addr), xs = [.ref a, c] ∧ (∀ u, RelV c u → u = cv) ∧ cls = .ref D ∧ ErC K D ∧ HasD H d ∧ PySem.W.kitOne K (.ref D) cv = some b ∧ Q (.bl b) H
theorem call_isX {X : Cx} {a : Addr} {oe : Obj} {cls : Value} {d : Option Addr} {pn : List (Addr × Obj)} (hz : Zc cls d oe) (hf : ∃ vs, oe.data = .fields vs) {K : PySem.W.Frag} (hK : X.K = K := by rfl) : CallR (X.suite a ((a, oe) :: pn)) (.builtin "isinstance") (rIsX K cls d a) := by
  subst hK
  intro pins s σ H xs us Q I r h
  obtain ⟨c, cv, b, D, rfl, hcv, rfl, C, hD, e, q⟩ := h
  cases r with
  | cons rx rr =>
    cases rr with
    | cons rt rr =>
      cases rr
      cases rx
      obtain rfl := hcv _ rt
      obtain ⟨ha, _⟩ := I.pin (a, oe) (List.mem_append_left _ List.mem_cons_self)
      obtain ⟨vs, hv⟩ := hf
      have nc : PySem.W.notCls oe := by unfold PySem.W.notCls; rw [hv] <;> rfl
      have J : ∃ od, PySem.W.InstAt s.heap a oe D od := by
        rcases hD with rfl | ⟨dd, fs, rfl, hx⟩
        · exact ⟨none, ha, hz.1, nc, by rw [hz.2]; trivial⟩
        · obtain ⟨mA, hns, _⟩ : ObjOk X.prog X.w H s.heap dd (.xd fs) := I.hok dd _ hx
          obtain ⟨od, ho, _⟩ := lookIn_ns hns
          exact ⟨some od, ha, hz.1, nc, by rw [hz.2]; exact ho⟩
      obtain ⟨od, J⟩ := J
      exact PySem.W.kia_one (PySem.W.kitx_exc C.cl C.ga C.gt C.sb C.ca C.sp C.tk C.mr) I.kIn J e (fun z => nomatch z) fun tk => ⟨.bl b, H, I.tok _, rfl, q⟩
/-- a stronger wish does as well; the slots are as many as the names -/
theorem pss_impI {X : Cx} {b : List Stmt} {t t' : TS} (h : PSs X b t) (k : ∀ D σ H, σ.length = X.N.length → t' D σ H → t D σ H) : PSs X b t' :=
  ⟨fun pins s σ H D I q => h.run pins s σ H D I (k D σ H I.len q)⟩
/-! ### == and != of ints and texts alone -/
section
variable {H : Hp} {Q : VK} {i j : Int} {z z2 : Str}
theorem x_rEqS : rEq (.str z) (.str z2) H Q ↔ Q (.bl (decide (z = z2))) H := by
  have e0 : decide (V.str z = V.str z2) = decide (z = z2) := by simp
  constructor
  · rintro ⟨_, h⟩; rw [e0] at h; exact h
  · exact fun h => ⟨rfl, by rw [e0]; exact h⟩
theorem x_rNeI : rNe (.int i) (.int j) H Q ↔ Q (.bl (!decide (i = j))) H := by
  have e0 : decide (V.int i = V.int j) = decide (i = j) := by simp
  constructor
  · rintro ⟨_, h⟩; rw [e0] at h; exact h
  · exact fun h => ⟨rfl, by rw [e0]; exact h⟩
end
theorem x_extend {H : Hp} {Q : VK} {l b : Addr} {xs zs : List V} (h1 : H l = some (.lst xs)) (h2 : H b = some (.lst zs)) (hl : xs.length + zs.length ≤ 1000000) (k : ∀ H', (∀ x o, x ≠ l → H x = some o → H' x = some o) → H' l = some (.lst (xs ++ zs)) → Q .non H') : rExtend (.ref l) [.ref b] H Q :=
  ⟨l, b, xs, zs, rfl, rfl, h1, h2, small hl, k _ (fun x o hx h => by rw [upd_ne hx]; exact h) upd_same⟩
/-! ### a tuple's slices -/
theorem x_cutT {K : PySem.W.Frag} {H : Hp} {Q : VK} {a : Addr} {xs : List V} {lo hi : Option Int} (h : SqT K H a xs) (k : ∀ t H', Ex H H' → SqT K H' t (cutV xs lo hi) → Q (.ref t) H') : rSlU K (.ref a) lo hi H Q :=
  .inr ⟨a, xs, rfl, h, fun ⟨e1, e2⟩ => k a H (fun _ _ h => h) (by
    have : cutV xs lo hi = xs := by
      unfold cutV
      rw [e1, e2]
      simp
    rw [this]; exact h), fun _ p hp => k p _ (Ex.new hp) (SqT.of upd_same)⟩
theorem cut_take {xs : List V} {j : Nat} (h : j ≤ xs.length) : cutV xs none (some (j : Int)) = xs.take j := by
  unfold cutV
  rw [HT.sIx_none, HT.sIx_nat, Nat.min_eq_left h]; rfl
theorem cut_drop {xs : List V} {j : Nat} (h : j ≤ xs.length) : cutV xs (some (j : Int)) none = xs.drop j := by
  unfold cutV
  rw [HT.sIx_none, HT.sIx_nat, Nat.min_eq_left h]
  exact List.take_of_length_le (by rw [List.length_drop]; omega)
/-! ### the errors -/
def kinds (i : Nat) : List V := (List.range 13).map fun j => .bl (decide (i = j))
theorem kinds_count : ∀ i, i < 13 → (kinds i).countP (fun z => eqV z (.bl true)) = 1 := by decide
theorem kinds_at : ∀ i, i < 13 → (kinds i)[i]? = some (.bl true) := by decide
theorem kinds_not : ∀ i, i < 13 → ∀ m, m < 13 → m < i → (kinds i)[m]? = some (.bl false) := by decide
/-- the words for the errors, in the order of their classes -/
def errWords : List Str := ["network", "state", "count", "station", "seat", "port", "passenger", "empty", "rates", "lengths", "passengers", "many", "contradiction"]
def errNames : List Str := ["InvalidNetwork", "InvalidState", "InvalidCount", "UnknownStation", "UnknownSeat", "UnknownPort", "UnknownPassenger", "EmptyBoat", "InvalidRates", "InvalidLengths", "InvalidPassengers", "TooManyCandidates", "Contradiction"]
theorem words_at : ∀ i, i < 13 → (errWords.map V.str)[i]? = some (.str (errWords.getD i "")) := by decide
theorem words_first : ∀ i, i < 13 → i ≠ 0 → errWords.getD i "" ≠ "network" := by decide
/-- the error classes: C i is the i-th, CF is above all -/
structure Errs (K : PySem.W.Frag) (mg : Str → Option Value) (CF : Addr) (C : Nat → Addr) : Prop where
  gF : mg "FerryError" = some (.ref CF)
  g : ∀ i, i < 13 → mg (errNames.getD i "") = some (.ref (C i))
  b_ValueError : mg "ValueError" = none
  c : ∀ i, i < 13 → ErC K (C i)
  isi : ∀ i j, i < 13 → j < 13 → PySem.W.kitOne K (.ref (C i)) (.ref (C j)) = some (decide (i = j))
  isv : ∀ i, i < 13 → PySem.W.kitOne K (.ref (C i)) (.type "ValueError") = some true
  exF : ∀ i, i < 13 → PySem.W.exmOne K (.ref (C i)) (.ref CF) = some true
  xf : XfC K (C 0)
  no_station : PySem.W.findIn K (.ref (C 0)) "station" = some none
  no_seat : PySem.W.findIn K (.ref (C 0)) "seat" = some none
/-- the i-th error, with fields if it is the first -/
def ErrIs (C : Nat → Addr) (i : Nat) (st se : V) (cls : Value) (d : Option Addr) (H : Hp) : Prop := cls = .ref (C i) ∧ (if i = 0 then ∃ dd, d = some dd ∧ H dd = some (.xd [("seat", se), ("station", st)]) else d = none)
theorem ErrIs.has {C : Nat → Addr} {i : Nat} {st se : V} {cls : Value} {d : Option Addr} {H : Hp} (h : ErrIs C i st se cls d H) : HasD H d := by
  obtain ⟨_, h⟩ := h
  split at h
  · obtain ⟨dd, rfl, hx⟩ := h; exact .inr ⟨dd, _, rfl, hx⟩
  · exact .inl h
/-- what is told of it -/
def errTell (i : Nat) (st se : V) : List V := if i = 0 then [.str "network", st, se] else [.str (errWords.getD i "")]
theorem x_isX {K : PySem.W.Frag} {mg : Str → Option Value} {CF : Addr} {C : Nat → Addr} {cls : Value} {d : Option Addr} {a : Addr} {i : Nat} {st se : V} {H0 H : Hp} {Q : VK} (R : Errs K mg CF C) (hi : i < 13) (e : ErrIs C i st se cls d H0) (f : Ex H0 H) (j : Nat) (hj : j < 13) (q : Q (.bl (decide (i = j))) H) : rIsX K cls d a [.ref a, .ref (C j)] H Q := by
  refine ⟨_, _, _, C i, rfl, fun u r => r, e.1, R.c i hi, ?_, R.isi i j hi hj, q⟩
  rcases e.has with h | ⟨dd, fs, h, hx⟩
  · exact .inl h
  · exact .inr ⟨dd, fs, h, f _ _ hx⟩
theorem x_isV {K : PySem.W.Frag} {mg : Str → Option Value} {CF : Addr} {C : Nat → Addr} {cls : Value} {d : Option Addr} {a : Addr} {i : Nat} {st se : V} {H0 H : Hp} {Q : VK} (R : Errs K mg CF C) (hi : i < 13) (e : ErrIs C i st se cls d H0) (f : Ex H0 H) (q : Q (.bl true) H) : rIsX K cls d a [.ref a, .ty "ValueError"] H Q := by
  refine ⟨_, _, _, C i, rfl, fun u r => r, e.1, R.c i hi, ?_, R.isv i hi, q⟩
  rcases e.has with h | ⟨dd, fs, h, hx⟩
  · exact .inl h
  · exact .inr ⟨dd, fs, h, f _ _ hx⟩
end FB
set_option Elab.async false
set_option linter.all false
set_option maxRecDepth 100000
set_option maxHeartbeats 1000000
/-! Tables of code objects through a law; a def whose code object is known. -/
namespace FB
open PySem PySem.Spec PyProof.Rows L2 Evl LamX
/-- all but the source of draws and the tables stands -/
def ExN (a b : Addr) (H H' : Hp) : Prop := ∀ x o, H x = some o → x ≠ a → x ≠ b → (∀ ps, o ≠ .tbl ps) → H' x = some o
section
variable {H H1 H2 : Hp} {a b : Addr} {T : List (Addr × Str)}
theorem ExN.of2 (e : Ex2 a b H H1) : ExN a b H H1 := fun x o h h1 h2 _ => e x o h h1 h2
theorem ExN.trans (e : ExN a b H H1) (f : ExN a b H1 H2) : ExN a b H H2 := fun x o h h1 h2 n => f x o (e x o h h1 h2 n) h1 h2 n
theorem ExN.ofN (e : ExtN H H1) : ExN a b H H1 := fun x o h _ _ n => e x o h n
theorem ExN.ex (e : ExN a b H H1) (f : Ex H1 H2) : ExN a b H H2 := fun x o h h1 h2 n => f x o (e x o h h1 h2 n)
theorem eqv_tell {a b : Str} : PyData.eqv (.tuple [.str a]) (.tuple [.str b]) = decide (a = b) := by
  simp only [PyData.eqv, PyData.eqvAll, Bool.and_true]
  by_cases h : a = b
  · simp [h]
  · simp [h]
theorem sh_tell {y : Str} (h : PyData.strOk y = true) : SeqAt.shaped (.tuple [.str y]) = true := by
  unfold SeqAt.shaped
  simp [PyData.canLay0, PyData.canLayAll0, PyData.depth, PyData.depthAll, h]
theorem shIntsT (ns : List Int) : SeqAt.shaped (.tuple (ns.map PyData.int)) = true := by
  have h1 : PyData.canLayAll0 (ns.map PyData.int) = true := layAll fun d hd => by
    obtain ⟨i, _, rfl⟩ := List.mem_map.mp hd; rfl
  have h2 : PyData.depthAll (ns.map PyData.int) ≤ 1 := depthAll_le fun d hd => by
    obtain ⟨i, _, rfl⟩ := List.mem_map.mp hd; simp [PyData.depth]
  have h3 : (PyData.tuple (ns.map PyData.int)).depth ≤ 64 := by rw [PyData.depth]; omega
  unfold SeqAt.shaped
  rw [show (PyData.tuple (ns.map PyData.int)).canLay0 = true by rw [PyData.canLay0]; exact h1]
  simpa using h3
theorem eqv_emptyT (ns : List Int) : PyData.eqv (.tuple (ns.map PyData.int)) (.tuple []) = decide (ns = []) := by
  cases ns with
  | nil => simp [PyData.eqv, PyData.eqvAll]
  | cons a r => simp [PyData.eqv, PyData.eqvAll]
/-- x == (), a tuple of ints -/
theorem x_eqEmptyT {K : PySem.W.Frag} {Q : VK} {x : V} {ns : List Int} (h : Dp K H x (.tuple (ns.map PyData.int))) (k : ∀ H', Ex H H' → Q (.bl (decide (ns = []))) H') : rTup [] H fun z H2 => rEqU K x z H2 Q :=
  x_tup (by simp) fun t H1 n e h1 => x_eqD (Dp.ex e h) (.tup (SqT.of h1) .nil) (shIntsT ns) rfl (by rw [eqv_emptyT]; exact k H1 e)
/-- what was told is compared -/
theorem x_tell {K : PySem.W.Frag} {Q : VK} {p : Addr} {x y : Str} (h : H p = some (.tup [.str x])) (hx : PyData.strOk x = true) (hy : PyData.strOk y = true) (k : ∀ H', Ex H H' → Q (.bl (decide (x = y))) H') : rTup [.str y] H fun z H2 => rEqU K (.ref p) z H2 Q :=
  x_tup (by simp) fun t H1 n e h1 => x_eqD (d := .tuple [.str x]) (e := .tuple [.str y]) (.tup (SqT.of (e _ _ h)) (.cons (.str x) .nil)) (.tup (SqT.of h1) (.cons (.str y) .nil)) (sh_tell hx) (sh_tell hy) (by rw [eqv_tell]; exact k H1 e)
/-- tables are neither lists -/
theorem tabs_ex2 {xs ys : List V} (ha : H a = some (.lst xs)) (hb : H b = some (.lst ys)) (t : Tabs T H) (e : Ex2 a b H H1) : Tabs T H1 := fun p hp => by
  obtain ⟨ps, h1, h2, h3⟩ := t p hp
  have ne : ∀ (x : Addr) (o : HO) (zs : List V) (y : Addr), H y = some (.lst zs) → H x = some o → o ≠ .lst zs → x ≠ y := fun x o zs y hy hx hn z => hn (by rw [z, hy] at hx; exact (Option.some.inj hx).symm)
  have cne : ∀ (c : Addr) (q : Str) (zs : List V), CodeO c q ≠ .lst zs := fun c q zs z => by unfold CodeO at z; cases z
  refine ⟨ps, e _ _ h1 (ne _ _ _ _ ha h1 (by simp)) (ne _ _ _ _ hb h1 (by simp)), h2, fun pos cv hc => ?_⟩
  obtain ⟨c, e1, e2⟩ := h3 pos cv hc
  exact ⟨c, e1, e _ _ e2 (ne _ _ _ _ ha e2 (cne _ _ _)) (ne _ _ _ _ hb e2 (cne _ _ _))⟩
theorem extN_t {K : PySem.W.Frag} {xs : List V} (e : ExtN H H1) (h : SqT K H a xs) : SqT K H1 a xs := by
  rcases h with (h | ⟨o, h⟩) | h
  · exact .inl (.inl (e _ _ h (by simp)))
  · exact .inl (.inr ⟨o, e _ _ h (by simp)⟩)
  · exact .inr h
theorem extN_tx (e : ExtN H H1) : TX H H1 := fun x o h c => e x o h (fun ps z => by rw [z] at c; exact c)
end
section
variable {P : Program} {w : World} {K : PySem.W.Frag} {mg : Str → Option Value} {base : Heap}
/-- a def of the code object c -/
theorem okC {c : Addr} {x qual : Str} {st : Stmt} {f : Addr} {fd : FuncData} {N ps : List Str} {k : Nat} {sp : Sp} (F : Fun K x qual st f fd) (hc : fd.code = .ref c) (S : FnScope N ps (defScope st)) (len : ∀ vs H Q E, sp vs H Q E → vs.length = ps.length)
    (hbody : ∀ (A : Around) (outer : List Env) (s : Shared) (H : Hp) (vs : List V) (Q : VK) (E : XK), Room k (A.deeper (envOfC qual (defScope st) s.heap.objs.size f (.ref c))) → sp vs H Q E →
      ∃ t, PSs (cxOf CX0 P w K mg base N qual (defScope st) f (.ref c) A outer s H E).nox (defBody st) t ∧ t { nx := fun _ H' => Q .non H', rt := Q } (L2.start N vs) H) : FnOk P w K mg base CX0 (k + 1) f fd ps sp := by
  obtain ⟨oc, od, kV, doc, pm, an, cdv, ct, osl, rfl, lk, hcd⟩ := F.ex
  obtain rfl : cdv = .ref c := hc
  exact fn_of lk hcd S len fun A outer s H vs Q E hr hsp => by
    obtain ⟨t, h, q⟩ := hbody A outer s H vs Q E hr hsp
    exact ⟨t, h.nox, q⟩
end
end FB
set_option Elab.async false
set_option linter.all false
set_option maxRecDepth 100000
set_option maxHeartbeats 1000000
/-! The end of a law with lambdas: the tables that the top has left empty, by the names of their defs. -/
namespace FB
open PySem PySem.Spec PyProof.Rows L2 Evl LamX
theorem walk_ofTab {l : PySem.W.OpenLaw} {n k : Nat} {q : Program} {loose : List Str} {XP : (Str → Option Value) → Heap → Prop} {YP : World → Heap → Prop} {d : DefRec} {K : Params → PySem.W.Frag} {x : Str} (names : List Str)
    (h1 : l.most = some n) (h2 : n ≤ sizeLine) (h3 : d.params.defaults = []) (h4 : Room k callerA) (h5 : ∀ (w : World) (h : Heap), YP w h → (K w.params).In h)
    (h6 : ∀ y ∈ names, ∃ e, (recsOf q).find? (fun e => e.name == y) = some e)
    (F : ∀ (w : World) (mg : Str → Option Value) (fa : Addr) (h : Heap), (K w.params).In h → h.Ns mainGlobals mg → mg d.name = some (.ref fa) →
      ∃ (fd : FuncData) (cs : List (Str × Addr × Addr)) (sp : Sp), (∀ p ∈ cs, p.1 ∈ names ∧ PySem.W.tabIn (K w.params) p.1 = some p.2 ∧ (K w.params).lookup p.2.2 = none) ∧ (∀ (s : Shared) (u : Value), BindsTo s fd ⟨[u], []⟩ [(x, u)]) ∧
        (∀ (H : Hp) (a : Addr) (ns : List Int), ns.length ≤ n → (∀ p ∈ cs, H p.2.2 = some (.tbl #[])) → SqL (K w.params) H a (ns.map V.int) → sp [.ref a] H (fun v _ => v = .bl true) fun _ _ _ => False) ∧
        ∀ base : Heap, (K w.params).In base → base.Ns mainGlobals mg → (∀ p ∈ cs, TabB base mg p.2.1 p.2.2) → FnOk l.prog w (K w.params) mg base L2.CX0 k fa fd [x] sp) :
    PySem.W.WalkO q loose XP YP l.row.toRowW d [] (fun f vs => PySem.call f vs) := by
  refine Att.attach_callB h1 h3 fun w sA sB mg mb fa ob pm cd dc a us ns G Y z1 z2 z3 hm z4 z5 z6 z7 z8 => ?_
  have kx := h5 w _ Y
  obtain ⟨fd, cs, sp, hc, hb, hs, hF⟩ := F w mg fa _ kx G.T.g hm
  have tb : ∀ p ∈ cs, PySem.W.CodeHd sB.heap p.2.1 p.2.2 ∧ sB.heap.get? p.2.2 = some { cls := .none, data := .fields #[] } := fun p hp => by
    obtain ⟨m1, m2, _⟩ := hc p hp
    obtain ⟨e, he⟩ := h6 _ m1
    exact PySem.W.tab_of G.T kx he m2
  have mem : ∀ p ∈ cs.map (·.2), ∃ y, (y, p) ∈ cs := fun p hp => by
    obtain ⟨r, hr, rfl⟩ := List.mem_map.mp hp
    exact ⟨r.1, hr⟩
  refine law_callTs (cs := cs.map (·.2)) kx G.T.g G.T.b G.T.builtins G.T.nolimit z8 (fun p hp => ?_) (fun p hp => ?_) (fun p hp => ?_) G.T.bmain z4 z5 (Nat.le_trans z6 h2) h4 (fun base b1 b2 b3 => hF base b1 b2 fun p hp => b3 p.2 (List.mem_map.mpr ⟨p, hp, rfl⟩)) hb (fun H hH hS => hs H a ns z6 (fun p hp => hH p.2 (List.mem_map.mpr ⟨p, hp, rfl⟩)) hS) (fun _ _ _ h => h)
  · obtain ⟨y, hy⟩ := mem p hp
    exact (tb _ hy).2
  · obtain ⟨y, hy⟩ := mem p hp
    exact (hc _ hy).2.2
  · obtain ⟨y, hy⟩ := mem p hp
    exact (tb _ hy).1
end FB
set_option Elab.async false
set_option linter.all false
set_option maxRecDepth 100000
set_option maxHeartbeats 4000000
namespace K
open PySem PySem.Spec PyProof.Rows L2 Evl FB
def top (i : Nat) : Stmt := PySem.Challenge.pw_fullboats_k18_states_and_networks_edited.main.body.getD i (.Pass ⟨0, 0, 0, 0⟩)
/-- a def of the text as it stands behind the top -/
structure Df (K : PySem.W.Frag) (mg : Str → Option Value) (x : Str) (st : Stmt) (ps : List Str) (f : Addr) (fd : FuncData) : Prop where
  F : Fun K x x st f fd
  g : mg x = some (.ref f)
  b : Binds K fd ps []
structure Bt (mg : Str → Option Value) : Prop where
  b_range : mg "range" = none
  b_tuple : mg "tuple" = none
  b_min : mg "min" = none
  b_isinstance : mg "isinstance" = none
  b_str : mg "str" = none
  b_dict : mg "dict" = none
  b_bool : mg "bool" = none
  b_sorted : mg "sorted" = none
  b_set : mg "set" = none
  b_enumerate : mg "enumerate" = none
  b_all : mg "all" = none
  b_len : mg "len" = none
  b_list : mg "list" = none
  b_int : mg "int" = none
  b_max : mg "max" = none
  b_sum : mg "sum" = none
  b_zip : mg "zip" = none
  b_abs : mg "abs" = none
  b_reversed : mg "reversed" = none
  b_any : mg "any" = none
local macro_rules | `(tactic| walk_at "run") => `(tactic| try simp only [tSeq, tAsg, tVar, tC, gName, L2.start, List.map_cons, List.map_nil, List.cons_append, List.nil_append, List.length_cons, List.length_nil, List.replicate, List.getElem?_cons_zero, List.getElem?_cons_succ, Option.some.injEq, exists_eq_left', List.set_cons_zero, List.set_cons_succ, V.ref.injEq, tRet, x_tLst, x_tTup, tCons, tCB, tNil, tOp, x_addI, x_mulI, x_rI, x_rI0, x_ltI, x_leI, x_ltS, x_leS, x_eqI, x_neI, x_eqS, x_eqB, x_neB, x_isiI, x_isiS, x_int, x_max, x_min, cxOf, tIfS, tNext, tTest, V.bl.injEq, decide_eq_true_eq, gSub, tAnd, tOr, tNot, tB, tDrop, tBM, x_tFor, iRng1, iList, iTup, x_tLc, tYes, tCall, tIf, tAndV, tOrV, tNotV, tChain, List.append_nil, tUn, if_true, wipe, true_and, x_never, iU, x_itS])
abbrev s_l_mix : Stmt := top 39
theorem sc_l_mix : FnScope ["_law_script", "_law_seed", "_law_mixed", "_law_cell"] ["_law_script", "_law_seed"] (defScope s_l_mix) := ⟨rfl, rfl, rfl, by decide +kernel, rfl, by decide +kernel, by decide +kernel⟩
/-- the law's source of draws: its list at a, its cells at b -/
def Gen (H : Hp) (a b : Addr) : Prop := ∃ (m c : Int) (ns : List Int), H a = some (.lst [.int m, .ref b, .int c]) ∧ H b = some (.lst (ns.map V.int)) ∧ ns.length ≤ 63
section
variable {P : Program} {w : World} {K : PySem.W.Frag} {mg : Str → Option Value} {base : Heap}
def spMix (K : PySem.W.Frag) : Sp := fun vs H Q _ => ∃ (a : Addr) (ns : List Int) (z : Int), vs = [.ref a, .int z] ∧ SqL K H a (ns.map V.int) ∧ ns.length ≤ 63 ∧ ∀ (p b : Addr) (H' : Hp), Ex H H' → H p = none → H b = none → Gen H' p b → Q (.ref p) H'
theorem ok_l_mix {f : Addr} {fd : FuncData} (D : Df K mg "_law_mix" s_l_mix ["_law_script", "_law_seed"] f fd) (T : Bt mg) : FnOk P w K mg base CX0 1 f fd ["_law_script", "_law_seed"] (spMix K) := by
  refine D.F.ok sc_l_mix (fun vs H Q E h => ?_) (fun cdv A outer s H vs Q E hr h => ?_)
  · obtain ⟨a, ns, z, rfl, _⟩ := h
    rfl
  · obtain ⟨a, ns, z, rfl, hS, hl, k⟩ := h
    refine ⟨_, (pss_cons (ps_set (i := 2) sc_l_mix.nd rfl (Or.inl rfl) (pv 1))
      (pss_cons (ps_for PassesOwn.never rfl (pi_U (K := K) (pv 0)) (pg_name (i := 3) sc_l_mix.nd rfl (Or.inl rfl)) (pss_one (ps_set (i := 2) sc_l_mix.nd rfl (Or.inl rfl) (pe_op op_modN (pe_op (op_addU (K := K)) (pe_op (op_addU (K := K)) (pe_op (op_mulU (K := K)) (pv 2) pe_int) (pe_op op_modN (pv 3) pe_int)) pe_int) pe_int))))
      (pss_one (ps_ret (pe_lst (pa_cons (pv 2) (pa_cons (pe_callTy (call_listU (K := K)) (by rfl) T.b_list (by decide +kernel) (pa_cons (pv 0) pa_nil)) (pa_cons pe_int pa_nil)))))))), ?_⟩
    walk_at "run"
    refine x_itL hS (loop_it (walk_list (xs := ns.map V.int)) (fun i σ H' => ∃ (m : Int) (u : Option V), σ = [some (.ref a), some (.int z), some (.int m), u] ∧ H' = H) ⟨z, _, rfl, rfl⟩ (fun i σ H' _ ⟨_, _, _, e⟩ => e ▸ hS) ?_ ?_)
    · rintro i y σ H' _ _ ⟨m, u, rfl, rfl⟩ ⟨rfl, hi⟩
      obtain ⟨n, _, rfl⟩ : ∃ n, ns[i]? = some n ∧ V.int n = y := by simpa using hi
      walk_at "run"
      refine ⟨.inr (by decide), by decide, by decide, _, _, rfl, trivial⟩
    · rintro σ H' ⟨m, u, rfl, rfl⟩
      walk_at "run"
      refine x_listL hS fun l H1 nl e1 h1 => ?_
      walk_at "run"
      refine x_lst (by simp) fun p H2 np e2 h2 => ?_
      exact k p l _ (e1.trans e2) (fresh_back e1 np) nl ⟨m, 0, ns, h2, e2 _ _ h1, hl⟩

theorem ints_ne {ns : List Int} {m c : Int} {b : Addr} : ns.map V.int ≠ [.int m, .ref b, .int c] := by
  intro h
  match ns, h with
  | [], h => cases h
  | [_], h => cases h
  | _ :: _ :: _, h =>
    simp at h
theorem Gen.ne {H : Hp} {a b : Addr} (g : Gen H a b) : a ≠ b := by
  obtain ⟨m, c, ns, h1, h2, _⟩ := g
  exact ne_of h1 h2 (fun z => ints_ne (HO.lst.inj z).symm)
abbrev s_l_next : Stmt := top 40
theorem sc_l_next : FnScope ["_law_h", "_law_limit", "_law_cell"] ["_law_h", "_law_limit"] (defScope s_l_next) := ⟨rfl, rfl, rfl, by decide +kernel, rfl, by decide +kernel, by decide +kernel⟩
def spNext : Sp := fun vs H Q _ => ∃ (a b : Addr) (n : Int), vs = [.ref a, .int n] ∧ Gen H a b ∧ 0 < n ∧ n < 1073741824 ∧ ∀ (r : Int) (H' : Hp), 0 ≤ r → r < n → Gen H' a b → Ex2 a b H H' → Q (.int r) H'
theorem ok_l_next {f : Addr} {fd : FuncData} (D : Df K mg "_law_next" s_l_next ["_law_h", "_law_limit"] f fd) (T : Bt mg) : FnOk P w K mg base CX0 1 f fd ["_law_h", "_law_limit"] spNext := by
  refine D.F.ok sc_l_next (fun vs H Q E h => ?_) (fun cdv A outer s H vs Q E hr h => ?_)
  · obtain ⟨a, b, n, rfl, _⟩ := h
    rfl
  · obtain ⟨a, b, n, rfl, ⟨m, c, ns, hA, hB, hl⟩, h0, h1, k⟩ := h
    refine ⟨_, (pss_cons (ps_set (i := 2) sc_l_next.nd rfl (Or.inl rfl) (pe_ix (ix_U (K := K)) (pe_op (op_addU (K := K)) (pe_ix (ix_U (K := K)) (pv 0) pe_int (fun _ _ => rfl)) (pe_lst (pa_cons pe_int pa_nil))) (pe_op op_modN (pe_callTy call_intU (by rfl) T.b_int (by decide +kernel) (pa_cons (pe_ix (ix_U (K := K)) (pv 0) pe_int (fun _ _ => rfl)) pa_nil)) (pe_callB (call_maxU rfl) (by rfl) T.b_max (by decide +kernel) (pa_cons pe_int (pa_cons (pe_callB (call_lenU (K := K)) (by rfl) T.b_len (by decide +kernel) (pa_cons (pe_ix (ix_U (K := K)) (pv 0) pe_int (fun _ _ => rfl)) pa_nil)) pa_nil)))) (fun _ _ => rfl)))
      (pss_cons (ps_if (pt_cmpR (op_geU) (pv 2) (pe_op op_pow pe_int pe_int) (nomark _)) (pss_cons (ps_asg (pe_op op_fdivN (pv 2) (pv 1)) (pg_sub (pe_ix (ix_U (K := K)) (pv 0) pe_int (fun _ _ => rfl)) (pe_op op_modN (pe_callTy call_intU (by rfl) T.b_int (by decide +kernel) (pa_cons (pe_ix (ix_U (K := K)) (pv 0) pe_int (fun _ _ => rfl)) pa_nil)) (pe_callB (call_lenU (K := K)) (by rfl) T.b_len (by decide +kernel) (pa_cons (pe_ix (ix_U (K := K)) (pv 0) pe_int (fun _ _ => rfl)) pa_nil))) set_list))
      (pss_one (ps_ret (pe_op op_modN (pe_callTy call_intU (by rfl) T.b_int (by decide +kernel) (pa_cons (pv 2) pa_nil)) (pv 1))))) pss_nil)
      (pss_cons (ps_asg (pe_op op_modN (pe_op (op_addU (K := K)) (pe_op (op_addU (K := K)) (pe_op (op_mulU (K := K)) (pe_ix (ix_U (K := K)) (pv 0) pe_int (fun _ _ => rfl)) pe_int) (pe_op (op_mulU (K := K)) (pv 2) pe_int)) pe_int) pe_int) (pg_sub (pv 0) pe_int set_list))
      (pss_cons (ps_asg (pe_op (op_addU (K := K)) (pe_ix (ix_U (K := K)) (pv 0) pe_int (fun _ _ => rfl)) pe_int) (pg_sub (pv 0) pe_int set_list))
      (pss_one (ps_ret (pe_op op_modN (pe_op op_fdivN (pe_ix (ix_U (K := K)) (pv 0) pe_int (fun _ _ => rfl)) pe_int) (pv 1)))))))), ?_⟩
    walk_at "run"
    refine x_ixL (SqL.of hA) rfl ?_
    refine x_lst (by simp) fun p H1 np e1 hp => ?_
    refine x_cat (e1 _ _ hB) hp (by simp; omega) fun l H2 nl e2 hL => ?_
    have hA2 := e2 _ _ (e1 _ _ hA)
    have hB2 := e2 _ _ (e1 _ _ hB)
    refine x_ixL (SqL.of hA2) rfl ?_
    walk_at "run"
    refine x_ixL (SqL.of hA2) rfl ?_
    refine x_lenL (SqL.of hB2) ?_
    walk_at "run"
    have hn : (List.map V.int ns).length = ns.length := List.length_map ..
    rw [hn]
    refine ⟨by split <;> omega, ?_⟩
    generalize hd : (if (ns.length : Int) > 1 then (ns.length : Int) else 1) = d
    have d0 : 0 < d := by rw [← hd]; split <;> omega
    have d1 : d ≤ ns.length ∨ (ns = [] ∧ d = 1) := by
      rw [← hd]
      split
      · exact .inl (Int.le_refl _)
      · by_cases z : ns = []
        · exact .inr ⟨z, rfl⟩
        · have := List.length_pos_iff.mpr z
          exact .inl (by omega)
    have k0 : 0 ≤ c.fmod d := Int.fmod_nonneg_of_pos _ d0
    have k1 : c.fmod d < d := Int.fmod_lt_of_pos _ d0
    obtain ⟨cell, hc, hc0⟩ : ∃ cell : Int, (List.map V.int ns ++ [V.int 0])[(c.fmod d).toNat]? = some (V.int cell) ∧ (cell ≠ 0 → ns ≠ []) := by
      rcases d1 with h | ⟨h, h'⟩
      · have hk : (c.fmod d).toNat < ns.length := by omega
        refine ⟨ns[(c.fmod d).toNat], ?_, fun _ z => by subst z; simp at hk⟩
        rw [List.getElem?_append_left (by simpa using hk)]
        simp [hk]
      · subst h
        subst h'
        have z : c.fmod 1 = 0 := by omega
        rw [z]
        exact ⟨0, rfl, fun z => (z rfl).elim⟩
    refine x_ixL (SqL.of hL) (atI_in k0 hc) ?_
    walk_at "run"
    refine ⟨⟨by decide, by decide, by decide⟩, ?_⟩
    split
    · rename_i hge
      have hge : (10 : Int) ^ Int.toNat 18 ≤ cell := hge
      have hne : ns ≠ [] := hc0 (by intro z; rw [z] at hge; exact absurd hge (by decide))
      have hp' := List.length_pos_iff.mpr hne
      refine ⟨⟨by omega, by omega⟩, ?_⟩
      refine x_ixL (SqL.of hA2) rfl ?_
      refine x_ixL (SqL.of hA2) rfl ?_
      walk_at "run"
      refine x_ixL (SqL.of hA2) rfl ?_
      refine x_lenL (SqL.of hB2) ?_
      walk_at "run"
      rw [hn]
      have q0 : 0 ≤ c.fmod ns.length := Int.fmod_nonneg_of_pos _ (by omega)
      have q1 : c.fmod ns.length < ns.length := Int.fmod_lt_of_pos _ (by omega)
      refine ⟨by omega, ?_⟩
      refine x_setL hB2 (ixN_in q0 (by simpa using q1)) fun H3 e3 hB3 => ?_
      walk_at "run"
      refine ⟨by omega, ?_⟩
      have nab : a ≠ b := Gen.ne ⟨m, c, ns, hA2, hB2, hl⟩
      refine k _ H3 (Int.fmod_nonneg_of_pos _ h0) (Int.fmod_lt_of_pos _ h0) ⟨m, c, ns.set (c.fmod ns.length).toNat (cell.fdiv n), e3 _ _ nab hA2, by rw [hB3, List.map_set], by simpa using hl⟩ fun x o h _ hb => e3 _ _ hb (e2 _ _ (e1 _ _ h))
    · refine x_ixL (SqL.of hA2) rfl ?_
      walk_at "run"
      refine ⟨.inr (by decide), .inr (by decide), by decide, ?_⟩
      refine x_setL hA2 rfl fun H3 e3 hA3 => ?_
      refine x_ixL (SqL.of hA3) rfl ?_
      walk_at "run"
      refine x_setL hA3 rfl fun H4 e4 hA4 => ?_
      refine x_ixL (SqL.of hA4) rfl ?_
      walk_at "run"
      refine ⟨⟨by decide, by decide⟩, by omega, ?_⟩
      have nab : b ≠ a := (Gen.ne ⟨m, c, ns, hA2, hB2, hl⟩).symm
      refine k _ H4 (Int.fmod_nonneg_of_pos _ h0) (Int.fmod_lt_of_pos _ h0) ⟨_, _, ns, hA4, e4 _ _ nab (e3 _ _ nab hB2), hl⟩ fun x o h ha _ => e4 _ _ ha (e3 _ _ ha (e2 _ _ (e1 _ _ h)))
end
end K
set_option Elab.async false
set_option linter.all false
set_option maxRecDepth 100000
set_option maxHeartbeats 4000000
namespace K
open PySem PySem.Spec PyProof.Rows L2 Evl FB
local macro_rules | `(tactic| walk_at "run") => `(tactic| try simp only [tSeq, tAsg, tVar, tC, gName, L2.start, List.map_cons, List.map_nil, List.cons_append, List.nil_append, List.length_cons, List.length_nil, List.replicate, List.getElem?_cons_zero, List.getElem?_cons_succ, Option.some.injEq, exists_eq_left', List.set_cons_zero, List.set_cons_succ, V.ref.injEq, tRet, x_tLst, x_tTup, tCons, tCB, tNil, tOp, x_addI, x_mulI, x_rI, x_rI0, x_ltI, x_leI, x_ltS, x_leS, x_eqI, x_neI, x_eqS, x_eqB, x_neB, x_isiI, x_isiS, x_int, x_max, x_min, cxOf, tIfS, tNext, tTest, V.bl.injEq, decide_eq_true_eq, gSub, tAnd, tOr, tNot, tB, tDrop, tBM, x_tFor, iRng1, iList, iTup, x_tLc, tYes, tCall, tIf, tAndV, tOrV, tNotV, tChain, List.append_nil, tUn, if_true, wipe, true_and, x_never, iU, x_itS])
theorem Gen.ex {H H' : Hp} {a b : Addr} (g : Gen H a b) (e : Ex H H') : Gen H' a b := by
  obtain ⟨m, c, ns, h1, h2, h3⟩ := g
  exact ⟨m, c, ns, e _ _ h1, e _ _ h2, h3⟩
theorem Gen.na {H : Hp} {a b p : Addr} (g : Gen H a b) (h : H p = none) : p ≠ a := by
  obtain ⟨m, c, ns, h1, h2, h3⟩ := g
  exact (ne_of_none h1 h).symm
theorem Gen.nb {H : Hp} {a b p : Addr} (g : Gen H a b) (h : H p = none) : p ≠ b := by
  obtain ⟨m, c, ns, h1, h2, h3⟩ := g
  exact (ne_of_none h2 h).symm
theorem Gen.tx {H H' : Hp} {a b : Addr} (g : Gen H a b) (e : Ex2 a b H H') : TX H H' := by
  obtain ⟨m, c, ns, h1, h2, h3⟩ := g
  exact TX.two h1 h2 e
theorem Gen.but {H H' : Hp} {a b p : Addr} (g : Gen H a b) (ha : p ≠ a) (hb : p ≠ b) (e : ∀ x o, x ≠ p → H x = some o → H' x = some o) : Gen H' a b := by
  obtain ⟨m, c, ns, h1, h2, h3⟩ := g
  exact ⟨m, c, ns, e _ _ ha.symm h1, e _ _ hb.symm h2, h3⟩
theorem x_next {H : Hp} {a b : Addr} {n : Int} {Q : VK} {E : XK} (g : Gen H a b) (h0 : 0 < n) (h1 : n < 1073741824) (k : ∀ r H', 0 ≤ r → r < n → Gen H' a b → Ex2 a b H H' → Q (.int r) H') : spNext [.ref a, .int n] H Q E :=
  ⟨a, b, n, rfl, g, h0, h1, k⟩
def W4 : List Str := ["a", "b", "west", "abcdefgh"]
/-- a place that is drawn for a seat of the station st of n -/
def PlOk (st n : Int) : Key → Prop
  | .inl j => st < j ∧ j < n
  | .inr z => z ∈ W4
abbrev s_l_place : Stmt := top 43
theorem sc_l_place : FnScope ["_law_h", "_law_station", "_law_count", "_law_far"] ["_law_h", "_law_station", "_law_count"] (defScope s_l_place) := ⟨rfl, rfl, rfl, by decide +kernel, rfl, by decide +kernel, by decide +kernel⟩
/-- a network that is drawn -/
structure Drawn (N : Net) (most : Int) : Prop where
  pos : 1 ≤ N.length
  le : (N.length : Int) ≤ most
  st : ∀ (k : Nat) s, N[k]? = some s → 1 ≤ s.length ∧ s.length ≤ 8 ∧ ∀ p ∈ s, PlOk k N.length p
section
variable {P : Program} {w : World} {K : PySem.W.Frag} {mg : Str → Option Value} {base : Heap}
def spPlace : Sp := fun vs H Q _ => ∃ (a b : Addr) (st n : Int), vs = [.ref a, .int st, .int n] ∧ Gen H a b ∧ 0 ≤ st ∧ st < n ∧ n ≤ 1000000 ∧ ∀ (k : Key) (H' : Hp), PlOk st n k → Gen H' a b → Ex2 a b H H' → Q (kV k) H'
theorem ok_l_place {f f1 : Addr} {fd fd1 : FuncData} (D : Df K mg "_law_place" s_l_place ["_law_h", "_law_station", "_law_count"] f fd) (T : Bt mg) (D_l_next : Df K mg "_law_next" s_l_next ["_law_h", "_law_limit"] f1 fd1) :
    FnOk P w K mg base CX0 2 f fd ["_law_h", "_law_station", "_law_count"] spPlace := by
  have G_l_next : FnOk P w K mg base CX0 1 f1 fd1 _ _ := ok_l_next D_l_next T
  refine D.F.ok sc_l_place (fun vs H Q E h => ?_) (fun cdv A outer s H vs Q E hr h => ?_)
  · obtain ⟨a, b, st, n, rfl, _⟩ := h
    rfl
  · obtain ⟨a, b, st, n, rfl, g, h0, h1, h2, k⟩ := h
    refine ⟨_, (pss_cons (ps_if (PW.pt (pw_and (pt_cmpR (op_ltU) (pe_op (op_addU (K := K)) (pv 1) pe_int) (pv 2) (nomark _)) (pw_and1 (pt_cmpR (op_gtU) (pe_call (G_l_next) (hr.mono (by decide)) rfl D_l_next.g D_l_next.F.kp D_l_next.b .nil pass0 (pa_cons (pv 0) (pa_cons pe_int pa_nil))) pe_int (nomark _))))) (pss_cons (ps_set (i := 3) sc_l_place.nd rfl (Or.inl rfl) (pe_ix (ix_U (K := K)) (pe_lst (pa_cons pe_int (pa_cons pe_int (pa_cons (pv 2) pa_nil)))) (pe_call (G_l_next) (hr.mono (by decide)) rfl D_l_next.g D_l_next.F.kp D_l_next.b .nil pass0 (pa_cons (pv 0) (pa_cons pe_int pa_nil))) (fun _ _ => rfl)))
      (pss_one (ps_ret (pe_op (op_addU (K := K)) (pe_op (op_addU (K := K)) (pv 1) pe_int) (pe_call (G_l_next) (hr.mono (by decide)) rfl D_l_next.g D_l_next.F.kp D_l_next.b .nil pass0 (pa_cons (pv 0) (pa_cons (pe_callB (call_maxU rfl) (by rfl) T.b_max (by decide +kernel) (pa_cons pe_int (pa_cons (pe_callB (call_minU rfl) (by rfl) T.b_min (by decide +kernel) (pa_cons (pv 3) (pa_cons (pe_op op_sub (pe_op op_sub (pv 2) (pv 1)) pe_int) pa_nil))) pa_nil))) pa_nil))))))) pss_nil)
      (pss_one (ps_ret (pe_ix (ix_U (K := K)) (pe_lst (pa_cons pe_str (pa_cons pe_str (pa_cons pe_str (pa_cons pe_str pa_nil))))) (pe_call (G_l_next) (hr.mono (by decide)) rfl D_l_next.g D_l_next.F.kp D_l_next.b .nil pass0 (pa_cons (pv 0) (pa_cons pe_int pa_nil))) (fun _ _ => rfl))))), ?_⟩
    walk_at "run"
    have tail : ∀ H1, Gen H1 a b → Ex2 a b H H1 → rLst [V.str "a", V.str "b", V.str "west", V.str "abcdefgh"] H1 fun x H1 => spNext [V.ref a, V.int 4] H1 (fun y H2 => rIx K x y H2 Q) E0 := by
      intro H1 g1 e1
      refine x_lst (by simp) fun p H2 np e2 hp => ?_
      refine x_next (g1.ex e2) (by decide) (by decide) fun r H3 r0 r1 g3 e3 => ?_
      have hp3 := e3 _ _ hp (g1.na np) (g1.nb np)
      have e := (e1.ex e2).trans e3
      obtain rfl | rfl | rfl | rfl : r = 0 ∨ r = 1 ∨ r = 2 ∨ r = 3 := by omega
      · exact x_ixL (SqL.of hp3) rfl (k (.inr "a") _ (.head _) g3 e)
      · exact x_ixL (SqL.of hp3) rfl (k (.inr "b") _ (.tail _ (.head _)) g3 e)
      · exact x_ixL (SqL.of hp3) rfl (k (.inr "west") _ (.tail _ (.tail _ (.head _))) g3 e)
      · exact x_ixL (SqL.of hp3) rfl (k (.inr "abcdefgh") _ (.tail _ (.tail _ (.tail _ (.head _)))) g3 e)
    split
    · refine x_next g (by decide) (by decide) fun r H1 r0 r1 g1 e1 => ?_
      walk_at "run"
      split
      · refine x_lst (by simp) fun p H2 np e2 hp => ?_
        refine x_next (g1.ex e2) (by decide) (by decide) fun r H3 r0 r1 g3 e3 => ?_
        have hp3 := e3 _ _ hp (g1.na np) (g1.nb np)
        have e := (e1.ex e2).trans e3
        have fin : ∀ far : Int, 1 ≤ far → far ≤ 1000000 → rMinU [V.int far, V.int (n - st - 1)] H3 fun x H1 => rMaxU [V.int 1, x] H1 fun x H1 => spNext [V.ref a, x] H1 (fun y H2 => rAddU K (V.int (st + 1)) y H2 Q) E0 := by
          intro far f0 f1
          walk_at "run"
          refine x_next g3 (by split <;> (split at * <;> omega)) (by split <;> (split at * <;> omega)) fun r H4 r0 r1 g4 e4 => ?_
          walk_at "run"
          exact k (.inl (st + 1 + r)) _ ⟨by omega, by revert r1; split <;> (split at * <;> omega)⟩ g4 (e.trans e4)
        obtain rfl | rfl | rfl : r = 0 ∨ r = 1 ∨ r = 2 := by omega
        · exact x_ixL (SqL.of hp3) rfl (fin _ (by omega) (by omega))
        · exact x_ixL (SqL.of hp3) rfl (fin _ (by omega) (by omega))
        · exact x_ixL (SqL.of hp3) rfl (fin _ (by omega) (by omega))
      · exact tail _ g1 e1
    · rw [if_neg Bool.false_ne_true]
      exact tail _ g (Ex2.refl _)
abbrev s_l_network : Stmt := top 44
theorem sc_l_network : FnScope ["_law_h", "_law_most", "_law_count", "_law_network_here", "_law_station", "_law_seats", "_law_seat"] ["_law_h", "_law_most"] (defScope s_l_network) := ⟨rfl, rfl, rfl, by decide +kernel, rfl, by decide +kernel, by decide +kernel⟩
def spNetwork (K : PySem.W.Frag) : Sp := fun vs H Q _ => ∃ (a b : Addr) (most : Int), vs = [.ref a, .int most] ∧ Gen H a b ∧ 1 ≤ most ∧ most ≤ 1000 ∧ ∀ (v : V) (N : Net) (H' : Hp), Drawn N most → NetAt K H' v N → Gen H' a b → Ex2 a b H H' → Q v H'
theorem ok_l_network {f f1 f2 : Addr} {fd fd1 fd2 : FuncData} (D : Df K mg "_law_network" s_l_network ["_law_h", "_law_most"] f fd) (T : Bt mg) (D_l_next : Df K mg "_law_next" s_l_next ["_law_h", "_law_limit"] f1 fd1)
    (D_l_place : Df K mg "_law_place" s_l_place ["_law_h", "_law_station", "_law_count"] f2 fd2) :
    FnOk P w K mg base CX0 3 f fd ["_law_h", "_law_most"] (spNetwork K) := by
  have G_l_next : FnOk P w K mg base CX0 1 f1 fd1 _ _ := ok_l_next D_l_next T
  have G_l_place : FnOk P w K mg base CX0 2 f2 fd2 _ _ := ok_l_place D_l_place T D_l_next
  refine D.F.ok sc_l_network (fun vs H Q E h => ?_) (fun cdv A outer s H vs Q E hr h => ?_)
  · obtain ⟨a, b, n, rfl, _⟩ := h
    rfl
  · obtain ⟨a, b, most, rfl, g, h0, h1, k⟩ := h
    refine ⟨_, (pss_cons (ps_set (i := 2) sc_l_network.nd rfl (Or.inr rfl) (pe_op (op_addU (K := K)) pe_int (pe_call (G_l_next) (hr.mono (by decide)) rfl D_l_next.g D_l_next.F.kp D_l_next.b .nil pass0 (pa_cons (pv 0) (pa_cons (pv 1) pa_nil)))))
      (pss_cons (ps_set (i := 3) sc_l_network.nd rfl (Or.inl rfl) (pe_lst pa_nil))
      (pss_cons (ps_for PassesOwn.never rfl (pi_range1 (by rfl) T.b_range (pa_cons (pv 2) pa_nil)) (pg_name (i := 4) sc_l_network.nd rfl (Or.inr rfl)) (pss_cons (ps_set (i := 5) sc_l_network.nd rfl (Or.inl rfl) (pe_op (op_addU (K := K)) pe_int (pe_call (G_l_next) (hr.mono (by decide)) rfl D_l_next.g D_l_next.F.kp D_l_next.b .nil pass0 (pa_cons (pv 0) (pa_cons (pe_ix (ix_U (K := K)) (pe_lst (pa_cons pe_int (pa_cons pe_int (pa_cons pe_int pa_nil)))) (pe_call (G_l_next) (hr.mono (by decide)) rfl D_l_next.g D_l_next.F.kp D_l_next.b .nil pass0 (pa_cons (pv 0) (pa_cons pe_int pa_nil))) (fun _ _ => rfl)) pa_nil)))))
      (pss_one (ps_expr (pe_bm PySem.F.plainAttrs_list PySem.F.slot_list_append PySem.F.type_list_append mt_append (pv 3) (pa_cons (pe_callTy (call_tupU (K := K)) (by rfl) T.b_tuple (by decide +kernel) (pa_cons (pe_lc (own := [("_law_seat", 6)]) (g := gName 6) (tt := tYes) rfl sc_l_network.nd (pi_range1 (by rfl) T.b_range (pa_cons (pv 5) pa_nil)) (blkOk_by (own := [("_law_seat", 6)]) (N := ["_law_h", "_law_most", "_law_count", "_law_network_here", "_law_station", "_law_seats", "_law_seat"]) (sc := defScope s_l_network) (by decide +kernel)) (fun _ _ _ _ _ => (pg_name (i := 6) sc_l_network.nd rfl (Or.inl rfl))) (fun _ _ _ _ _ => pts_nil) (fun _ _ _ _ _ => (pe_call (G_l_place) (hr.mono (by decide)) rfl D_l_place.g D_l_place.F.kp D_l_place.b .nil pass0 (pa_cons (pv 0) (pa_cons (pv 4) (pa_cons (pv 2) pa_nil)))))) pa_nil)) pa_nil))))))
      (pss_one (ps_ret (pe_callTy (call_tupU (K := K)) (by rfl) T.b_tuple (by decide +kernel) (pa_cons (pv 3) pa_nil))))))), ?_⟩
    walk_at "run"
    refine x_next g (by omega) (by omega) fun r H1 r0 r1 g1 e1 => ?_
    walk_at "run"
    refine x_lst (by simp) fun L H2 nL e2 hL => ?_
    obtain ⟨n, hn⟩ : ∃ n : Nat, 1 + r = (n : Int) := ⟨(1 + r).toNat, by omega⟩
    rw [hn]
    refine ⟨n, rfl, by omega, by omega, ?_⟩
    have hn1 : 1 ≤ n := by omega
    have nLa := (g1.na nL)
    have nLb := (g1.nb nL)
    have e02 : Ex2 a b H H2 := e1.ex e2
    refine loop_it walk_range (fun i σ H' => ∃ (u5 u6 u4 : Option V) (ts : List V) (M : Net), σ = [some (.ref a), some (.int most), some (.int n), some (.ref L), u4, u5, u6] ∧ H' L = some (.lst ts) ∧ DpAll K H' ts (M.map stD) ∧ M.length = i ∧ Gen H' a b ∧ (∀ x o, H x = some o → x ≠ a → x ≠ b → H' x = some o) ∧
      ∀ (k : Nat) s, M[k]? = some s → 1 ≤ s.length ∧ s.length ≤ 8 ∧ ∀ p ∈ s, PlOk k n p) ⟨_, _, _, [], [], rfl, hL, .nil, rfl, g1.ex e2, e02, fun k s h => by simp at h⟩ (fun _ _ _ _ _ => trivial) ?_ ?_
    · rintro i x σ H3 H3' hi ⟨u5, u6, u4, ts, M, rfl, hL3, hts, hM, g3, e3, hok⟩ ⟨eH, rfl⟩
      subst eH
      have hi : i < n := by simpa using hi
      walk_at "run"
      refine x_lst (by simp) fun p H4 np e4 hp => ?_
      refine x_next (g3.ex e4) (by decide) (by decide) fun r H5 r0 r1 g5 e5 => ?_
      have hp5 := e5 _ _ hp (g3.na np) (g3.nb np)
      have hL5 := e5 _ _ (e4 _ _ hL3) nLa nLb
      have e35 := (Ex2.of e4).trans e5
      have t35 := (TX.of e4).trans ((g3.ex e4).tx e5)
      refine x_menu hp5 r0 (by simpa using r1) fun v _ hv => ?_
      obtain ⟨q, rfl, q0, q1⟩ : ∃ q : Int, v = .int q ∧ 2 ≤ q ∧ q ≤ 8 := by
        simp at hv
        rcases hv with rfl | rfl | rfl <;> exact ⟨_, rfl, by omega, by omega⟩
      refine x_next g5 (by omega) (by omega) fun r H6 r0 r1 g6 e6 => ?_
      obtain ⟨m, hm⟩ : ∃ m : Nat, 1 + r = (m : Int) := ⟨(1 + r).toNat, by omega⟩
      have hL6 := e6 _ _ hL5 nLa nLb
      walk_at "run"
      rw [hm]
      refine ⟨x_tyL (SqL.of hL6), m, rfl, by omega, by omega, ?_⟩
      refine lcl_it walk_range (fun D j H' => ∃ acc : List Key, H' D = some (.lst (acc.map kV)) ∧ acc.length = j ∧ (∀ p ∈ acc, PlOk i n p) ∧ Gen H' a b ∧ ∀ x o, H6 x = some o → x ≠ a → x ≠ b → H' x = some o)
        (fun D H' hD e h => ⟨[], h, rfl, (by simp), g6.ex e, fun x o hx _ _ => e _ _ hx⟩) (fun _ _ _ _ _ => trivial) ?_ ?_
      · rintro D j x H7 H7' hD hj ⟨acc, hacc, hl, hok, g7, e7⟩ ⟨eH, rfl⟩
        subst eH
        have hj : j < m := by simpa using hj
        walk_at "run"
        refine ⟨a, b, _, _, rfl, g7, by omega, by omega, by omega, fun k H8 hk g8 e8 => ?_⟩
        refine x_push (e8 _ _ hacc (g6.na hD) (g6.nb hD)) (by simp; omega) fun H9 e9 h9 => ⟨acc ++ [k], by rw [h9]; simp, by simp [hl], ?_, g8.but (g6.na hD) (g6.nb hD) e9, fun x o hx ha hb => e9 _ _ (ne_of_none hx hD) (e8 _ _ (e7 _ _ hx ha hb) ha hb)⟩
        intro p hp
        rcases List.mem_append.mp hp with h | h
        · exact hok p h
        · obtain rfl : p = k := by simpa using h
          have e : (0 : Int) + i = i := by omega
          rw [e] at hk
          exact hk
      · rintro D H7 hD ⟨acc, hacc, hl, hok', g7, e7⟩
        have hl : acc.length = m := by simpa using hl
        refine x_tupL (SqL.of hacc) fun t H8 nt e8 ht => ?_
        have hL8 := e8 _ _ (e7 _ _ hL6 nLa nLb)
        refine x_append hL8 (by rw [hts.len]; simp; omega) fun H9 e9 h9 => ?_
        have t9 : TX H3' H9 := (((t35.trans (g5.tx e6)).trans (g6.tx e7)).trans (TX.of e8)).trans (TX.but hL8 e9)
        have hL7 := e7 _ _ hL6 nLa nLb
        have nLt : L ≠ t := ne_of_none hL7 nt
        refine ⟨some (.int m), u6, some (.int (0 + (i : Int))), ts ++ [.ref t], M ++ [acc], rfl, h9, ?_, by simp [hM], (g7.ex e8).but nLa nLb e9, fun x o hx ha hb => ?_, ?_⟩
        · rw [List.map_append]
          exact DpAll.append (DpAll.tx t9 hts fun d hd => (netD_t M).all d hd) (.cons (StAt.of (SqT.of (e9 _ _ nLt.symm ht))) .nil)
        · exact e9 _ _ (fun z => by subst z; exact absurd (e1 _ _ hx ha hb) (by rw [nL]; simp)) (e8 _ _ (e7 _ _ (e6 _ _ (e5 _ _ (e4 _ _ (e3 _ _ hx ha hb)) ha hb) ha hb) ha hb))
        · intro k s hs
          by_cases hk : k < M.length
          · rw [List.getElem?_append_left hk] at hs
            exact hok k s hs
          · rw [List.getElem?_append_right (by omega)] at hs
            have hz : k - M.length = 0 := by
              have := (List.getElem?_eq_some_iff.mp hs).1
              simp at this
              omega
            rw [hz] at hs
            obtain rfl : acc = s := by simpa using hs
            exact ⟨by omega, by omega, fun p hp => by
              have e : k = i := by omega
              rw [e]; exact hok' p hp⟩
    · rintro σ H3 ⟨u5, u6, u4, ts, M, rfl, hL3, hts, hM, g3, e3, hok⟩
      walk_at "run"
      refine x_tupL (SqL.of hL3) fun p H4 np e4 hp => ?_
      have hM : M.length = n := by simpa using hM
      refine k _ M _ ⟨by omega, by omega, fun k s h => by rw [hM]; exact hok k s h⟩ (.tup (SqT.of hp) (DpAll.ex e4 hts)) (g3.ex e4) (Ex2.ex e3 e4)
end
end K
set_option Elab.async false
set_option linter.all false
set_option maxRecDepth 100000
set_option maxHeartbeats 4000000
namespace K
open PySem PySem.Spec PyProof.Rows L2 Evl FB
local macro_rules | `(tactic| walk_at "run") => `(tactic| try simp only [tSeq, tAsg, tVar, tC, gName, L2.start, List.map_cons, List.map_nil, List.cons_append, List.nil_append, List.length_cons, List.length_nil, List.replicate, List.getElem?_cons_zero, List.getElem?_cons_succ, Option.some.injEq, exists_eq_left', List.set_cons_zero, List.set_cons_succ, V.ref.injEq, tRet, x_tLst, x_tTup, tCons, tCB, tNil, tOp, x_addI, x_mulI, x_rI, x_rI0, x_ltI, x_leI, x_ltS, x_leS, x_eqI, x_neI, x_eqS, x_eqB, x_neB, x_isiI, x_isiS, x_int, x_max, x_min, cxOf, tIfS, tNext, tTest, V.bl.injEq, decide_eq_true_eq, gSub, tAnd, tOr, tNot, tB, tDrop, tBM, x_tFor, iRng1, iList, iTup, x_tLc, tYes, tCall, tIf, tAndV, tOrV, tNotV, tChain, List.append_nil, tUn, if_true, wipe, true_and, x_never, iU, x_itS])
section
variable {P : Program} {w : World} {K : PySem.W.Frag} {mg : Str → Option Value} {base : Heap}
theorem FnOk.never {CX : CXT} {k : Nat} {f : Addr} {fd : FuncData} {ps : List Str} : FnOk P w K mg base CX k f fd ps (fun _ _ _ _ => False) := ⟨fun _ _ _ _ h => h.elim, fun _ _ _ _ _ _ _ _ _ _ _ _ _ h => h.elim⟩
abbrev s_l_alike : Stmt := top 41
theorem sc_l_alike : FnScope ["_law_found", "_law_due", "_law_k"] ["_law_found", "_law_due"] (defScope s_l_alike) := ⟨rfl, rfl, rfl, by decide +kernel, rfl, by decide +kernel, by decide +kernel⟩
theorem mem_depth : ∀ {ds : List PyData} {e : PyData}, e ∈ ds → e.depth ≤ PyData.depthAll ds
  | x :: r, e, h => by
    rw [PyData.depthAll]
    rcases List.mem_cons.mp h with rfl | h
    · omega
    · have := mem_depth h
      omega
theorem mem_lay : ∀ {ds : List PyData} {e : PyData}, PyData.canLayAll0 ds = true → e ∈ ds → e.canLay0 = true
  | x :: r, e, hc, h => by
    rw [PyData.canLayAll0, Bool.and_eq_true] at hc
    rcases List.mem_cons.mp h with rfl | h
    · exact hc.1
    · exact mem_lay hc.2 h
theorem shaped_mk {d : PyData} (h : d.canLay0 = true) (h2 : d.depth ≤ 64) : SeqAt.shaped d = true := by
  unfold SeqAt.shaped
  rw [h]
  simpa using h2
theorem shaped_get {d : PyData} (h : SeqAt.shaped d = true) : d.canLay0 = true ∧ d.depth ≤ 64 := by
  unfold SeqAt.shaped at h
  simpa using h
theorem shaped_l {ds : List PyData} {e : PyData} (h : SeqAt.shaped (.list ds) = true) (he : e ∈ ds) : SeqAt.shaped e = true ∧ e.depth + 1 ≤ (PyData.list ds).depth := by
  obtain ⟨h1, h2⟩ := shaped_get h
  rw [PyData.canLay0] at h1
  rw [PyData.depth] at h2 ⊢
  have := mem_depth he
  exact ⟨shaped_mk (mem_lay h1 he) (by omega), by omega⟩
theorem shaped_t {ds : List PyData} {e : PyData} (h : SeqAt.shaped (.tuple ds) = true) (he : e ∈ ds) : SeqAt.shaped e = true ∧ e.depth + 1 ≤ (PyData.tuple ds).depth := by
  obtain ⟨h1, h2⟩ := shaped_get h
  rw [PyData.canLay0] at h1
  rw [PyData.depth] at h2 ⊢
  have := mem_depth he
  exact ⟨shaped_mk (mem_lay h1 he) (by omega), by omega⟩
theorem eqv_same {d : PyData} (h : SeqAt.shaped d = true) : PyData.eqv d d = true := SeqAt.eqv_refl d (shaped_get h).1
/-- no list or tuple in it is very long -/
inductive SmD : PyData → Prop
  | non : SmD .none
  | bl (b : Bool) : SmD (.bool b)
  | int (i : Int) : SmD (.int i)
  | str (x : Str) : SmD (.str x)
  | lst {ds : List PyData} : ds.length ≤ 1000000 → (∀ d ∈ ds, SmD d) → SmD (.list ds)
  | tup {ds : List PyData} : ds.length ≤ 1000000 → (∀ d ∈ ds, SmD d) → SmD (.tuple ds)
/-- the same data on both sides, not deeper than n -/
def spAlike (K : PySem.W.Frag) : Nat → Sp
  | 0 => fun _ _ _ _ => False
  | n + 1 => fun vs H Q _ => ∃ (x y : V) (d : PyData), vs = [x, y] ∧ Dp K H x d ∧ Dp K H y d ∧ SeqAt.shaped d = true ∧ d.depth ≤ n ∧ SmD d ∧ ∀ H', Ex H H' → Q (.bl true) H'
theorem ok_l_alike {f : Addr} {fd : FuncData} (D : Df K mg "_law_alike" s_l_alike ["_law_found", "_law_due"] f fd) (T : Bt mg) : ∀ n, FnOk P w K mg base CX0 n f fd ["_law_found", "_law_due"] (spAlike K n)
  | 0 => FnOk.never
  | n + 1 => by
    have D_l_alike := D
    have G_l_alike : FnOk P w K mg base CX0 n f fd _ _ := ok_l_alike D T n
    refine D.F.ok sc_l_alike (fun vs H Q E h => ?_) (fun cdv A outer s H vs Q E hr h => ?_)
    · obtain ⟨a, b, n, rfl, _⟩ := h
      rfl
    · obtain ⟨x, y, d, rfl, hx, hy, sh, hd, sm, k⟩ := h
      have hu := hr.units
      refine ⟨_, (pss_cons (ps_if (pt_val (pe_callB (call_isiU (K := K)) (by rfl) T.b_isinstance (by decide +kernel) (pa_cons (pv 1) (pa_cons (pe_bltn (v := .ty "dict") (by rfl) T.b_dict (by decide +kernel) rfl) pa_nil)))) pss_never pss_nil)
      (pss_cons (ps_if (pt_val (pe_callB (call_isiU (K := K)) (by rfl) T.b_isinstance (by decide +kernel) (pa_cons (pv 1) (pa_cons (pe_tup (pa_cons (pe_bltn (v := .ty "tuple") (by rfl) T.b_tuple (by decide +kernel) rfl) (pa_cons (pe_bltn (v := .ty "list") (by rfl) T.b_list (by decide +kernel) rfl) pa_nil))) pa_nil)))) (pss_cons (ps_if (PW.pt (pw_or (pt_not (pt_val (pe_callB (call_isiU (K := K)) (by rfl) T.b_isinstance (by decide +kernel) (pa_cons (pv 0) (pa_cons (pe_tup (pa_cons (pe_bltn (v := .ty "tuple") (by rfl) T.b_tuple (by decide +kernel) rfl) (pa_cons (pe_bltn (v := .ty "list") (by rfl) T.b_list (by decide +kernel) rfl) pa_nil))) pa_nil))))) (pw_or1 (pt_cmpR (op_neU (K := K) hu) (pe_callB (call_isiU (K := K)) (by rfl) T.b_isinstance (by decide +kernel) (pa_cons (pv 0) (pa_cons (pe_bltn (v := .ty "list") (by rfl) T.b_list (by decide +kernel) rfl) pa_nil))) (pe_callB (call_isiU (K := K)) (by rfl) T.b_isinstance (by decide +kernel) (pa_cons (pv 1) (pa_cons (pe_bltn (v := .ty "list") (by rfl) T.b_list (by decide +kernel) rfl) pa_nil))) (nomark _))))) (pss_one (ps_ret pe_bl)) pss_nil)
      (pss_cons (ps_if (pt_cmpR (op_neU (K := K) hu) (pe_callB (call_lenU (K := K)) (by rfl) T.b_len (by decide +kernel) (pa_cons (pv 0) pa_nil)) (pe_callB (call_lenU (K := K)) (by rfl) T.b_len (by decide +kernel) (pa_cons (pv 1) pa_nil)) (nomark _)) (pss_one (ps_ret pe_bl)) pss_nil)
      (pss_one (ps_ret (pe_cmpR (op_eqU (K := K) hu) (pe_lc (own := [("_law_k", 2)]) (g := gName 2) (tt := _) rfl sc_l_alike.nd (pi_range1 (by rfl) T.b_range (pa_cons (pe_callB (call_lenU (K := K)) (by rfl) T.b_len (by decide +kernel) (pa_cons (pv 1) pa_nil)) pa_nil)) (blkOk_by (own := [("_law_k", 2)]) (N := ["_law_found", "_law_due", "_law_k"]) (sc := defScope s_l_alike) (by decide +kernel)) (fun _ _ _ _ _ => (pg_name (i := 2) sc_l_alike.nd rfl (Or.inl rfl))) (fun _ _ _ _ _ => (pts_one (pt_not (pt_val (pe_call (G_l_alike) hr rfl D_l_alike.g D_l_alike.F.kp D_l_alike.b .nil pass0 (pa_cons (pe_ix (ix_U (K := K)) (pv 0) (pv 2) (fun _ _ => rfl)) (pa_cons (pe_ix (ix_U (K := K)) (pv 1) (pv 2) (fun _ _ => rfl)) pa_nil))))))) (fun _ _ _ _ _ => (pv 2))) (pe_lst pa_nil) (nomark _)))))) pss_nil)
      (pss_cons (ps_if (PW.pt (pw_or (pt_cmpR op_isN (pv 1) pe_non (nomark _)) (pw_or1 (pt_val (pe_callB (call_isiU (K := K)) (by rfl) T.b_isinstance (by decide +kernel) (pa_cons (pv 1) (pa_cons (pe_bltn (v := .ty "str") (by rfl) T.b_str (by decide +kernel) rfl) pa_nil))))))) (pss_one (ps_ret (pe_and (pe_cmpR (op_eqU (K := K) hu) (pv 0) (pv 1) (nomark _)) (pe_one (pe_cmpR (op_eqU (K := K) hu) (pe_callB (call_isiU (K := K)) (by rfl) T.b_isinstance (by decide +kernel) (pa_cons (pv 0) (pa_cons (pe_bltn (v := .ty "str") (by rfl) T.b_str (by decide +kernel) rfl) pa_nil))) (pe_callB (call_isiU (K := K)) (by rfl) T.b_isinstance (by decide +kernel) (pa_cons (pv 1) (pa_cons (pe_bltn (v := .ty "str") (by rfl) T.b_str (by decide +kernel) rfl) pa_nil))) (nomark _)))))) pss_nil)
      (pss_one (ps_ret (pe_and (pe_callB (call_isiU (K := K)) (by rfl) T.b_isinstance (by decide +kernel) (pa_cons (pv 0) (pa_cons (pe_bltn (v := .ty "int") (by rfl) T.b_int (by decide +kernel) rfl) pa_nil))) (pe_and (pe_cmpR (op_eqU (K := K) hu) (pe_callB (call_isiU (K := K)) (by rfl) T.b_isinstance (by decide +kernel) (pa_cons (pv 0) (pa_cons (pe_bltn (v := .ty "bool") (by rfl) T.b_bool (by decide +kernel) rfl) pa_nil))) (pe_callB (call_isiU (K := K)) (by rfl) T.b_isinstance (by decide +kernel) (pa_cons (pv 1) (pa_cons (pe_bltn (v := .ty "bool") (by rfl) T.b_bool (by decide +kernel) rfl) pa_nil))) (nomark _)) (pe_one (pe_cmpR (op_eqU (K := K) hu) (pv 0) (pv 1) (nomark _)))))))))), ?_⟩
      walk_at "run"
      -- a tuple or a list: the items
      have seq : ∀ (ds : List PyData) (a b : Addr) (xs ys : List V) (H1 : Hp), Ex H H1 → x = .ref a → y = .ref b → SqA K H1 a xs → SqA K H1 b ys → DpAll K H1 xs ds → DpAll K H1 ys ds → ds.length ≤ 1000000 → (∀ e ∈ ds, SeqAt.shaped e = true ∧ e.depth + 1 ≤ n ∧ SmD e) →
          rLenU K [x] H1 fun x_8 H1 => rLenU K [y] H1 fun y_2 H2 => rNeU K x_8 y_2 H2 fun x_9 H' => ∃ k, x_9 = V.bl k ∧ if k = true then Q (V.bl false) H' else rLenU K [y] H' fun x_10 H1 => ∃ j, [x_10] = [V.int j] ∧ -2 ^ 62 ≤ j ∧ j < 2 ^ 62 ∧
            LcL (Itr 0 j.toNat) (gName 2) (tNot (tB (tCall (spAlike K n) [] E0 (tCons (tOp (rIx K) (tVar 0) (tVar 2)) (tCons (tOp (rIx K) (tVar 1) (tVar 2)) tNil))))) (tVar 2) [2] [some x, some y, none] H1 fun x H1 => rLst [] H1 fun y H2 => rEqU K x y H2 Q := by
        intro ds a b xs ys H1 e1 hxa hyb ha hb dx dy hlen hds
        subst hxa hyb
        have lx := dx.len
        have ly := dy.len
        refine x_lenA ha (x_lenA hb ?_)
        rw [lx, ly]
        walk_at "run"
        rw [if_neg (by simp)]
        refine x_lenA hb ⟨_, rfl, by omega, by omega, ?_⟩
        refine lcl_it walk_range (fun D i H' => H' D = some (.lst []) ∧ Ex H1 H') (fun D H' _ e h => ⟨h, e⟩) (fun _ _ _ _ _ => trivial) ?_ ?_
        · rintro D i v H2 H2' hD hi ⟨hD2, e2⟩ ⟨eH, rfl⟩
          subst eH
          have hi : i < ys.length := by simpa using hi
          obtain ⟨v1, hv1⟩ : ∃ v, xs[i]? = some v := ⟨xs[i], by simp⟩
          obtain ⟨v2, hv2⟩ : ∃ v, ys[i]? = some v := ⟨ys[i], by simp⟩
          obtain ⟨e, he, hd1⟩ := dx.get' hv1
          obtain ⟨e', he', hd2⟩ := dy.get' hv2
          obtain rfl : e = e' := by rw [he] at he'; exact Option.some.inj he'
          have hm := hds e (List.mem_of_getElem? he)
          have hz : (0 : Int) + i = (i : Int) := by omega
          walk_at "run"
          rw [hz]
          refine x_ixA (ha.ex e2) (atI_nat hv1) (x_ixA (hb.ex e2) (atI_nat hv2) ?_)
          obtain ⟨m, rfl⟩ : ∃ m, n = m + 1 := ⟨n - 1, by omega⟩
          refine ⟨_, _, e, rfl, Dp.ex e2 hd1, Dp.ex e2 hd2, hm.1, by omega, hm.2.2, fun H4 e4 => ⟨true, rfl, ?_⟩⟩
          rw [if_neg (by simp)]
          exact ⟨e4 _ _ hD2, e2.trans e4⟩
        · rintro D H2 hD ⟨hD2, e2⟩
          refine x_lst (by simp) fun p H3 np e3 hp => ?_
          refine x_eqD (.lst (SqL.of (e3 _ _ hD2)) .nil) (.lst (SqL.of hp) .nil) rfl rfl ?_
          exact k H3 (e1.trans (e2.trans e3))
      -- a scalar
      have e0 := eqv_same sh
      have eqd : ∀ (H1 : Hp) (Q1 : VK), Ex H H1 → Q1 (.bl true) H1 → rEqU K x y H1 Q1 := fun H1 Q1 e q => x_eqD (Dp.ex e hx) (Dp.ex e hy) sh sh (by rw [e0]; exact q)
      cases d with
      | dict _ => cases hx
      | list ds =>
        obtain ⟨a, xs, rfl, hxs, dx⟩ : ∃ a xs, x = .ref a ∧ SqL K H a xs ∧ DpAll K H xs ds := by
          cases hx with
          | lst h1 h2 => exact ⟨_, _, rfl, h1, h2⟩
        obtain ⟨b, ys, rfl, hys, dy⟩ : ∃ b ys, y = .ref b ∧ SqL K H b ys ∧ DpAll K H ys ds := by
          cases hy with
          | lst h1 h2 => exact ⟨_, _, rfl, h1, h2⟩
        obtain ⟨hlen, hsm⟩ : ds.length ≤ 1000000 ∧ ∀ d ∈ ds, SmD d := by
          cases sm with
          | lst h1 h2 => exact ⟨h1, h2⟩
        refine x_isD hy rfl ?_
        refine ⟨false, rfl, ?_⟩
        rw [if_neg Bool.false_ne_true]
        refine x_tup (by simp) fun p H1 np e1 hp => ?_
        refine x_isD2 (Dp.ex e1 hy) hp rfl ?_
        refine ⟨true, rfl, ?_⟩
        rw [if_pos rfl]
        refine x_tup (by simp) fun p2 H2 np2 e2 hp2 => ?_
        have e02 := e1.trans e2
        refine x_isD2 (Dp.ex e02 hx) hp2 rfl ?_
        refine ⟨true, rfl, ?_⟩
        rw [if_neg (by simp)]
        refine x_isD (Dp.ex e02 hx) rfl (x_isD (Dp.ex e02 hy) rfl ?_)
        walk_at "run"
        rw [if_neg (by simp)]
        refine seq ds a b xs ys H2 e02 rfl rfl (.inl (ex_l e02 hxs)) (.inl (ex_l e02 hys)) (DpAll.ex e02 dx) (DpAll.ex e02 dy) hlen fun e he => ?_
        have := shaped_l sh he
        exact ⟨this.1, by omega, hsm e he⟩
      | tuple ds =>
        obtain ⟨a, xs, rfl, hxs, dx⟩ := Dp.tup_inv hx
        obtain ⟨b, ys, rfl, hys, dy⟩ := Dp.tup_inv hy
        obtain ⟨hlen, hsm⟩ : ds.length ≤ 1000000 ∧ ∀ d ∈ ds, SmD d := by
          cases sm with
          | tup h1 h2 => exact ⟨h1, h2⟩
        refine x_isD hy rfl ?_
        refine ⟨false, rfl, ?_⟩
        rw [if_neg Bool.false_ne_true]
        refine x_tup (by simp) fun p H1 np e1 hp => ?_
        refine x_isD2 (Dp.ex e1 hy) hp rfl ?_
        refine ⟨true, rfl, ?_⟩
        rw [if_pos rfl]
        refine x_tup (by simp) fun p2 H2 np2 e2 hp2 => ?_
        have e02 := e1.trans e2
        refine x_isD2 (Dp.ex e02 hx) hp2 rfl ?_
        refine ⟨true, rfl, ?_⟩
        rw [if_neg (by simp)]
        refine x_isD (Dp.ex e02 hx) rfl (x_isD (Dp.ex e02 hy) rfl ?_)
        walk_at "run"
        rw [if_neg (by simp)]
        refine seq ds a b xs ys H2 e02 rfl rfl (.inr (ex_t e02 hxs)) (.inr (ex_t e02 hys)) (DpAll.ex e02 dx) (DpAll.ex e02 dy) hlen fun e he => ?_
        have := shaped_t sh he
        exact ⟨this.1, by omega, hsm e he⟩
      | none =>
        obtain rfl : y = .non := by cases hy; rfl
        refine x_isD hy rfl ⟨false, rfl, ?_⟩
        rw [if_neg Bool.false_ne_true]
        refine x_tup (by simp) fun p H1 np e1 hp => ?_
        refine x_isD2 (Dp.ex e1 hy) hp rfl ⟨false, rfl, ?_⟩
        rw [if_neg Bool.false_ne_true, if_pos rfl]
        refine eqd H1 _ e1 ⟨true, rfl, ?_⟩
        rw [if_pos rfl]
        refine x_isD (Dp.ex e1 hx) rfl (x_isD (Dp.ex e1 hy) rfl ?_)
        walk_at "run"
        exact k H1 e1
      | str z =>
        obtain rfl : y = .str z := by cases hy; rfl
        refine x_isD hy rfl ⟨false, rfl, ?_⟩
        rw [if_neg Bool.false_ne_true]
        refine x_tup (by simp) fun p H1 np e1 hp => ?_
        refine x_isD2 (Dp.ex e1 hy) hp rfl ⟨false, rfl, ?_⟩
        rw [if_neg Bool.false_ne_true, if_neg (by simp)]
        refine x_isD (Dp.ex e1 hy) rfl ⟨true, rfl, ?_⟩
        rw [if_pos rfl]
        refine eqd H1 _ e1 ⟨true, rfl, ?_⟩
        rw [if_pos rfl]
        refine x_isD (Dp.ex e1 hx) rfl (x_isD (Dp.ex e1 hy) rfl ?_)
        walk_at "run"
        exact k H1 e1
      | int z =>
        obtain rfl : y = .int z := by cases hy; rfl
        refine x_isD hy rfl ⟨false, rfl, ?_⟩
        rw [if_neg Bool.false_ne_true]
        refine x_tup (by simp) fun p H1 np e1 hp => ?_
        refine x_isD2 (Dp.ex e1 hy) hp rfl ⟨false, rfl, ?_⟩
        rw [if_neg Bool.false_ne_true, if_neg (by simp)]
        refine x_isD (Dp.ex e1 hy) rfl ⟨false, rfl, ?_⟩
        rw [if_neg Bool.false_ne_true]
        refine x_isD (Dp.ex e1 hx) rfl ⟨true, rfl, ?_⟩
        rw [if_pos rfl]
        refine x_isD (Dp.ex e1 hx) rfl (x_isD (Dp.ex e1 hy) rfl ?_)
        walk_at "run"
        exact eqd H1 _ e1 (k H1 e1)
      | bool z =>
        obtain rfl : y = .bl z := by cases hy; rfl
        refine x_isD hy rfl ⟨false, rfl, ?_⟩
        rw [if_neg Bool.false_ne_true]
        refine x_tup (by simp) fun p H1 np e1 hp => ?_
        refine x_isD2 (Dp.ex e1 hy) hp rfl ⟨false, rfl, ?_⟩
        rw [if_neg Bool.false_ne_true, if_neg (by simp)]
        refine x_isD (Dp.ex e1 hy) rfl ⟨false, rfl, ?_⟩
        rw [if_neg Bool.false_ne_true]
        refine x_isD (Dp.ex e1 hx) rfl ⟨true, rfl, ?_⟩
        rw [if_pos rfl]
        refine x_isD (Dp.ex e1 hx) rfl (x_isD (Dp.ex e1 hy) rfl ?_)
        walk_at "run"
        exact eqd H1 _ e1 (k H1 e1)
end
end K
set_option Elab.async false
set_option linter.all false
set_option maxRecDepth 100000
set_option maxHeartbeats 4000000
namespace K
open PySem PySem.Spec PyProof.Rows L2 Evl FB
local macro_rules | `(tactic| walk_at "run") => `(tactic| try simp only [tSeq, tAsg, tVar, tC, gName, L2.start, List.map_cons, List.map_nil, List.cons_append, List.nil_append, List.length_cons, List.length_nil, List.replicate, List.getElem?_cons_zero, List.getElem?_cons_succ, Option.some.injEq, exists_eq_left', List.set_cons_zero, List.set_cons_succ, V.ref.injEq, tRet, x_tLst, x_tTup, tCons, tCB, tNil, tOp, x_addI, x_mulI, x_rI, x_rI0, x_ltI, x_leI, x_ltS, x_leS, x_eqI, x_neI, x_eqS, x_eqB, x_neB, x_isiI, x_isiS, x_int, x_max, x_min, cxOf, tIfS, tNext, tTest, V.bl.injEq, decide_eq_true_eq, gSub, tAnd, tOr, tNot, tB, tDrop, tBM, x_tFor, iRng1, iList, iTup, x_tLc, tYes, tCall, tIf, tAndV, tOrV, tNotV, tChain, List.append_nil, tUn, if_true, wipe, true_and, x_never, iU, x_itS, kV])
/-- the program's constants -/
abbrev s_is_letters : Stmt := top 21
structure Ct (K : PySem.W.Frag) (mg : Str → Option Value) : Prop where
  g_MAX_LETTERS : ∃ t, mg "MAX_LETTERS" = some (.int 8 t)
  g_MAX_SEATS : ∃ t, mg "MAX_SEATS" = some (.int 8 t)
  g_MAX_STATIONS : ∃ t, mg "MAX_STATIONS" = some (.int 40 t)
  is_letters : ∃ f fd, Df K mg "is_letters" s_is_letters ["text"] f fd
def okc (c : Nat) : Bool := decide (97 ≤ c) && decide (c ≤ 122)
theorem one_lt (c d : Nat) : decide (([c] : List Nat) < [d]) = decide (c < d) := by
  have e : (([c] : List Nat) < [d]) ↔ c < d := by
    simp [List.cons_lt_cons_iff]
  simp [e]
/-- one to eight letters -/
def wordB (z : Str) : Bool := decide (1 ≤ z.length) && decide (z.length ≤ 8) && z.cps.toList.all okc
/-- a seat of the station st of n may lead to it -/
def placeB (st n : Int) : Key → Bool
  | .inl j => decide (st < j) && decide (j < n)
  | .inr z => wordB z
section
variable {P : Program} {w : World} {K : PySem.W.Frag} {mg : Str → Option Value} {base : Heap}
theorem sc_is_letters : FnScope ["text", "letter"] ["text"] (defScope s_is_letters) := ⟨rfl, rfl, rfl, by decide +kernel, rfl, by decide +kernel, by decide +kernel⟩
/-- letters a to z, at least one -/
def lettersB (z : Str) : Bool := decide (1 ≤ z.length) && z.cps.toList.all okc
def spLetters : Sp := fun vs H Q _ => ∃ z : Str, vs = [.str z] ∧ z.length ≤ 100000 ∧ ∀ H', Ex H H' → Q (.bl (lettersB z)) H'
theorem ok_is_letters {f : Addr} {fd : FuncData} (D : Df K mg "is_letters" s_is_letters ["text"] f fd) (T : Bt mg) : FnOk P w K mg base CX0 1 f fd ["text"] spLetters := by
  refine D.F.ok sc_is_letters (fun vs H Q E h => ?_) (fun cdv A outer s H vs Q E hr h => ?_)
  · obtain ⟨z, rfl, _⟩ := h
    rfl
  · obtain ⟨z, rfl, hl, k⟩ := h
    refine ⟨_, (pss_one (ps_ret (pe_and (pe_cmpR (op_gtU) (pe_callB (call_lenU (K := K)) (by rfl) T.b_len (by decide +kernel) (pa_cons (pv 0) pa_nil)) pe_int (nomark _)) (pe_one (pe_callB (call_allU (K := K) rfl) (by rfl) T.b_all (by decide +kernel) (pa_cons (pe_lc (own := [("letter", 1)]) (g := gName 1) (tt := tYes) rfl sc_is_letters.nd (pi_U (K := K) (pv 0)) (blkOk_by (own := [("letter", 1)]) (N := ["text", "letter"]) (sc := defScope s_is_letters) (by decide +kernel)) (fun _ _ _ _ _ => (pg_name (i := 1) sc_is_letters.nd rfl (Or.inl rfl))) (fun _ _ _ _ _ => pts_nil) (fun _ _ _ _ _ => (pe_chain (op_leU) (op_leU) pe_str (pv 1) pe_str))) pa_nil)))))), ?_⟩
    walk_at "run"
    refine x_lenS (by rw [sizeLine_eq]; omega) ?_
    walk_at "run"
    by_cases h1 : (0 : Int) < (z.length : Nat)
    · rw [if_pos h1]
      walk_at "run"
      have hz : z.cps.size = z.cps.toList.length := by simp
      have hzl : z.cps.size = z.length := rfl
      refine lcl_it walk_str (fun D i H' => H' D = some (.lst (((z.cps.toList.take i).map okc).map V.bl)) ∧ Ex H H') (fun D H' _ e h => ⟨h, e⟩) (fun _ _ _ _ _ => trivial) ?_ ?_
      · rintro D i v H2 H2' hD hi ⟨hD2, e2⟩ ⟨eH, c, hc, rfl⟩
        subst eH
        have hc' : z.cps.toList[i]? = some c := by simpa using hc
        walk_at "run"
        have ea : (Str.ofString "a").cps.toList = [97] := by decide +kernel
        have ez : (Str.ofString "z").cps.toList = [122] := by decide +kernel
        rw [ea]
        show if (!decide (([c] : List Nat) < [97])) = true then _ else _
        rw [one_lt]
        have push : ∀ b, b = okc c → Push D (fun H' => H' D = some (.lst (((z.cps.toList.take (i + 1)).map okc).map V.bl)) ∧ Ex H H') (.bl b) H2' := fun b hb => by
          refine x_push hD2 (by simp; omega) fun H5 e5 h5 => ⟨?_, fun x o hx => e5 _ _ (ne_of_none hx hD) (e2 _ _ hx)⟩
          rw [h5, List.take_add_one, hc', hb]
          simp
        by_cases g1 : c < 97
        · rw [if_neg (by simp [g1])]
          refine push _ ?_
          unfold okc
          simp; omega
        · rw [if_pos (by simp [g1])]
          rw [ez]
          show Push D _ (V.bl (!decide (([122] : List Nat) < [c]))) H2'
          rw [one_lt]
          refine push _ ?_
          unfold okc
          by_cases g2 : 122 < c
          · have : ¬ c ≤ 122 := by omega
            simp [g2, this]
          · have h1 : 97 ≤ c := by omega
            have h2 : c ≤ 122 := by omega
            simp [g2, h1, h2]
      · rintro D H2 hD ⟨hD2, e2⟩
        refine ⟨D, _, rfl, SqL.of hD2, ?_⟩
        have e : (((z.cps.toList.take z.cps.size).map okc).all id) = lettersB z := by
          rw [hz, List.take_length]
          unfold lettersB
          have a1 : decide (1 ≤ z.length) = true := by simp; omega
          rw [a1, List.all_map]
          rfl
        rw [e]
        exact k H2 e2
    · rw [if_neg h1]
      have q := k H (Ex.refl H)
      have e : lettersB z = false := by unfold lettersB; have : ¬ 1 ≤ z.length := by omega
                                        simp [this]
      rw [e] at q
      exact q
abbrev s_is_word : Stmt := top 22
theorem sc_is_word : FnScope ["text"] ["text"] (defScope s_is_word) := ⟨rfl, rfl, rfl, by decide +kernel, rfl, by decide +kernel, by decide +kernel⟩
def spWord : Sp := fun vs H Q _ => ∃ z : Str, vs = [.str z] ∧ z.length ≤ 1000 ∧ ∀ H', Ex H H' → Q (.bl (wordB z)) H'
theorem ok_is_word {f : Addr} {fd : FuncData} (D : Df K mg "is_word" s_is_word ["text"] f fd) (T : Bt mg) (C : Ct K mg) : FnOk P w K mg base CX0 2 f fd ["text"] spWord := by
  obtain ⟨f1, fd1, D_is_letters⟩ := C.is_letters
  have G_is_letters : FnOk P w K mg base CX0 1 f1 fd1 _ _ := ok_is_letters D_is_letters T
  refine D.F.ok sc_is_word (fun vs H Q E h => ?_) (fun cdv A outer s H vs Q E hr h => ?_)
  · obtain ⟨z, rfl, _⟩ := h
    rfl
  · obtain ⟨z, rfl, hl, k⟩ := h
    obtain ⟨tl, g_MAX_LETTERS⟩ := C.g_MAX_LETTERS
    refine ⟨_, (pss_one (ps_ret (pe_and (pe_cmpR (op_leU) (pe_callB (call_lenU (K := K)) (by rfl) T.b_len (by decide +kernel) (pa_cons (pv 0) pa_nil)) (pe_glob (v := .int 8) rfl g_MAX_LETTERS ⟨_, rfl⟩) (nomark _)) (pe_one (pe_call (G_is_letters) (hr.mono (by decide)) rfl D_is_letters.g D_is_letters.F.kp D_is_letters.b .nil pass0 (pa_cons (pv 0) pa_nil)))))), ?_⟩
    walk_at "run"
    refine x_lenS (by rw [sizeLine_eq]; omega) ?_
    walk_at "run"
    by_cases h8 : ((z.length : Nat) : Int) ≤ 8
    · rw [if_pos h8]
      refine ⟨z, rfl, by omega, fun H1 e1 => ?_⟩
      have e : lettersB z = wordB z := by
        unfold lettersB wordB
        have a2 : decide (z.length ≤ 8) = true := by simp; omega
        rw [a2, Bool.and_true]
      rw [e]
      exact k H1 e1
    · rw [if_neg h8]
      have q := k H (Ex.refl H)
      have e : wordB z = false := by unfold wordB; have : ¬ z.length ≤ 8 := by omega
                                     simp [this]
      rw [e] at q
      exact q
abbrev s_is_place : Stmt := top 23
theorem sc_is_place : FnScope ["place", "station", "stations"] ["place", "station", "stations"] (defScope s_is_place) := ⟨rfl, rfl, rfl, by decide +kernel, rfl, by decide +kernel, by decide +kernel⟩
def spPlaceQ : Sp := fun vs H Q _ => ∃ (k : Key) (st n : Int), vs = [kV k, .int st, .int n] ∧ (∀ z, k = .inr z → z.length ≤ 1000) ∧ ∀ H', Ex H H' → Q (.bl (placeB st n k)) H'
theorem ok_is_place {f f1 : Addr} {fd fd1 : FuncData} (D : Df K mg "is_place" s_is_place ["place", "station", "stations"] f fd) (T : Bt mg) (C : Ct K mg) (D_is_word : Df K mg "is_word" s_is_word ["text"] f1 fd1) :
    FnOk P w K mg base CX0 3 f fd ["place", "station", "stations"] spPlaceQ := by
  have G_is_word : FnOk P w K mg base CX0 2 f1 fd1 _ _ := ok_is_word D_is_word T C
  refine D.F.ok sc_is_place (fun vs H Q E h => ?_) (fun cdv A outer s H vs Q E hr h => ?_)
  · obtain ⟨k, st, n, rfl, _⟩ := h
    rfl
  · obtain ⟨key, st, n, rfl, hl, k⟩ := h
    refine ⟨_, (pss_cons (ps_if (pt_val (pe_callB (call_isiU (K := K)) (by rfl) T.b_isinstance (by decide +kernel) (pa_cons (pv 0) (pa_cons (pe_bltn (v := .ty "str") (by rfl) T.b_str (by decide +kernel) rfl) pa_nil)))) (pss_one (ps_ret (pe_call (G_is_word) (hr.mono (by decide)) rfl D_is_word.g D_is_word.F.kp D_is_word.b .nil pass0 (pa_cons (pv 0) pa_nil)))) pss_nil)
      (pss_one (ps_ret (pe_chain (op_ltU) (op_ltU) (pv 1) (pv 0) (pv 2))))), ?_⟩
    cases key with
    | inl j =>
      walk_at "run"
      rw [if_neg Bool.false_ne_true]
      by_cases h : st < j
      · rw [if_pos h]
        have e : placeB st n (.inl j) = decide (j < n) := by unfold placeB; simp [h]
        rw [← e]
        exact k H (Ex.refl H)
      · rw [if_neg h]
        have e : placeB st n (.inl j) = false := by unfold placeB; simp [h]
        rw [← e]
        exact k H (Ex.refl H)
    | inr z =>
      walk_at "run"
      exact ⟨z, rfl, hl z rfl, k⟩
end
end K
set_option Elab.async false
set_option linter.all false
set_option maxRecDepth 100000
set_option maxHeartbeats 4000000
namespace K
open PySem PySem.Spec PyProof.Rows L2 Evl FB
local macro_rules | `(tactic| walk_at "run") => `(tactic| try simp only [tSeq, tAsg, tVar, tC, gName, L2.start, List.map_cons, List.map_nil, List.cons_append, List.nil_append, List.length_cons, List.length_nil, List.replicate, List.getElem?_cons_zero, List.getElem?_cons_succ, Option.some.injEq, exists_eq_left', List.set_cons_zero, List.set_cons_succ, V.ref.injEq, tRet, x_tLst, x_tTup, tCons, tCB, tNil, tOp, x_addI, x_mulI, x_rI, x_rI0, x_ltI, x_leI, x_ltS, x_leS, x_eqI, x_neI, x_eqS, x_eqB, x_neB, x_isiI, x_isiS, x_int, x_max, x_min, cxOf, tIfS, tNext, tTest, V.bl.injEq, decide_eq_true_eq, gSub, tAnd, tOr, tNot, tB, tDrop, tBM, x_tFor, iRng1, iList, iTup, x_tLc, tYes, tCall, tIf, tAndV, tOrV, tNotV, tChain, List.append_nil, tUn, if_true, wipe, true_and, x_never, iU, x_itS, kV, Nat.reduceAdd, Nat.reduceSub, List.replicate_zero, x_rU, x_tMkO, iEnumT])
/-- a network without fault -/
structure ValidN (N : Net) : Prop where
  pos : 1 ≤ N.length
  le : N.length ≤ 40
  st : ∀ (k : Nat) s, N[k]? = some s → 1 ≤ s.length ∧ s.length ≤ 8 ∧ ∀ p ∈ s, placeB k N.length p = true ∧ ∀ z, p = .inr z → z.length ≤ 1000
theorem wordB_W4 {z : Str} (h : z ∈ W4) : wordB z = true ∧ z.length ≤ 8 := by
  unfold W4 at h
  simp only [List.mem_cons, List.not_mem_nil, or_false] at h
  rcases h with rfl | rfl | rfl | rfl <;> exact ⟨by decide +kernel, by decide +kernel⟩
theorem Drawn.valid {N : Net} {most : Int} (D : Drawn N most) (h : most ≤ 40) : ValidN N where
  pos := D.pos
  le := by have := D.le; omega
  st := fun k s hk => by
    obtain ⟨h1, h2, h3⟩ := D.st k s hk
    refine ⟨h1, h2, fun p hp => ?_⟩
    have := h3 p hp
    cases p with
    | inl j =>
      obtain ⟨a, b⟩ := this
      exact ⟨by unfold placeB; simp; omega, fun z e => by cases e⟩
    | inr z =>
      have := wordB_W4 this
      exact ⟨this.1, fun y e => by cases e; omega⟩
theorem ValidN.seat {N : Net} (h : ValidN N) {i : Nat} {s : List Key} (hs : N[i]? = some s) {j : Int} (hp : (.inl j : Key) ∈ s) : (i : Int) < j ∧ j < N.length := by
  have := ((h.st i s hs).2.2 _ hp).1
  unfold placeB at this
  simpa using this
section
variable {P : Program} {w : World} {K : PySem.W.Frag} {mg : Str → Option Value} {base : Heap}
def spCheckOk (K : PySem.W.Frag) : Sp := fun vs H Q _ => ∃ (v : V) (N : Net), vs = [v] ∧ NetAt K H v N ∧ ValidN N ∧ ∀ H', Ex H H' → Q .non H'
abbrev s_check_network : Stmt := top 24
theorem sc_check_network : FnScope ["network", "station", "seats", "seat", "place"] ["network"] (defScope s_check_network) := ⟨rfl, rfl, rfl, by decide +kernel, rfl, by decide +kernel, by decide +kernel⟩
theorem ok_check_network0 {f f1 f2 : Addr} {fd fd1 fd2 : FuncData} (D : Df K mg "check_network" s_check_network ["network"] f fd) (T : Bt mg) (Ck : Ct K mg) (D_is_word : Df K mg "is_word" s_is_word ["text"] f1 fd1)
    (D_is_place : Df K mg "is_place" s_is_place ["place", "station", "stations"] f2 fd2) :
    FnOk P w K mg base CX0 4 f fd ["network"] (spCheckOk K) := by
  have G_is_place : FnOk P w K mg base CX0 3 f2 fd2 _ _ := ok_is_place D_is_place T Ck D_is_word
  refine D.F.ok sc_check_network (fun vs H Q E h => ?_) (fun cdv A outer s H vs Q E hr h => ?_)
  · obtain ⟨v, N, rfl, _⟩ := h
    rfl
  · obtain ⟨v, N, rfl, hN, hV, k1⟩ := h
    have hu := hr.units
    obtain ⟨tML, g_MAX_STATIONS⟩ := Ck.g_MAX_STATIONS
    obtain ⟨tMS, g_MAX_SEATS⟩ := Ck.g_MAX_SEATS
    refine ⟨_, (pss_cons (ps_if (pt_cmpR (op_eqU (K := K) hu) (pe_callB (call_lenU (K := K)) (by rfl) T.b_len (by decide +kernel) (pa_cons (pv 0) pa_nil)) pe_int (nomark _)) pss_never pss_nil)
      (pss_one (ps_for PassesOwn.never rfl (pi_enumT (by rfl) T.b_enumerate (pa_cons (pv 0) pa_nil)) (pg_tup rfl (pgs_cons (pg_name (i := 1) sc_check_network.nd rfl (Or.inl rfl)) (pgs_cons (pg_name (i := 2) sc_check_network.nd rfl (Or.inl rfl)) pgs_nil))) (pss_cons (ps_if (PW.pt (pw_or (pt_cmpR (op_eqU (K := K) hu) (pv 1) (pe_glob (v := .int 40) rfl g_MAX_STATIONS ⟨_, rfl⟩) (nomark _)) (pw_or1 (pt_not (pt_chain (op_leU) (op_leU) pe_int (pe_callB (call_lenU (K := K)) (by rfl) T.b_len (by decide +kernel) (pa_cons (pv 2) pa_nil)) (pe_glob (v := .int 8) rfl g_MAX_SEATS ⟨_, rfl⟩)))))) pss_never pss_nil)
      (pss_one (ps_for PassesOwn.never rfl (pi_enumT (by rfl) T.b_enumerate (pa_cons (pv 2) pa_nil)) (pg_tup rfl (pgs_cons (pg_name (i := 3) sc_check_network.nd rfl (Or.inl rfl)) (pgs_cons (pg_name (i := 4) sc_check_network.nd rfl (Or.inl rfl)) pgs_nil))) (pss_one (ps_if (pt_not (pt_val (pe_call (G_is_place) (hr.mono (by decide)) rfl D_is_place.g D_is_place.F.kp D_is_place.b .nil pass0 (pa_cons (pv 4) (pa_cons (pv 1) (pa_cons (pe_callB (call_lenU (K := K)) (by rfl) T.b_len (by decide +kernel) (pa_cons (pv 0) pa_nil)) pa_nil)))))) pss_never pss_nil)))))))), ?_⟩
    walk_at "run"
    obtain ⟨a, ts, rfl, hT, hts⟩ := hN.at
    have hl : ts.length = N.length := by rw [hts.len, List.length_map]
    have hp := hV.pos
    have h40 := hV.le
    refine x_lenT hT ?_
    rw [hl]
    walk_at "run"
    rw [if_neg (by omega)]
    refine ⟨_, _, rfl, hT, loop_it walk_enumT (fun i σ H' => ∃ u1 u2 u3 u4, σ = [some (.ref a), u1, u2, u3, u4] ∧ Ex H H') ⟨_, _, _, _, rfl, Ex.refl H⟩
      (fun i σ H' _ ⟨_, _, _, _, _, e⟩ => ex_t e hT) ?_ ?_⟩
    · rintro i v σ H1 H2 hi ⟨u1, u2, u3, u4, rfl, e1⟩ ⟨T0, x, y, rfl, hT0, rfl, hx, hy⟩
      obtain rfl : V.int (i : Nat) = x := Option.some.inj hx
      have e2 : Ex H (upd H1 T0 (.tup [.int (i : Nat), y])) := e1.trans (Ex.new hT0)
      refine x_two (SqT.of upd_same) ?_
      generalize upd H1 T0 (.tup [.int (i : Nat), y]) = H2 at e2
      obtain ⟨sD, hs, hy2⟩ := hts.get' hy
      obtain ⟨s, hsN, rfl⟩ : ∃ s, N[i]? = some s ∧ stD s = sD := by simpa using hs
      obtain ⟨b, rfl, hB⟩ := StAt.at hy2
      obtain ⟨s1, s2, s3⟩ := hV.st i s hsN
      walk_at "run"
      rw [if_neg (by omega)]
      refine x_lenT (ex_t e2 hB) ?_
      rw [List.length_map]
      walk_at "run"
      rw [if_pos (by omega), if_neg (by simp; omega)]
      refine ⟨_, _, rfl, ex_t e2 hB, loop_it walk_enumT (fun j σ H' => ∃ u3 u4, σ = [some (.ref a), some (.int i), some (.ref b), u3, u4] ∧ Ex H H') ⟨_, _, rfl, e2⟩
        (fun j σ H' _ ⟨_, _, _, e⟩ => ex_t e hB) ?_ ?_⟩
      · rintro j v σ H3 H4 hj ⟨u3, u4, rfl, e3⟩ ⟨T1, x, y, rfl, hT1, rfl, hx, hy⟩
        obtain rfl : V.int (j : Nat) = x := Option.some.inj hx
        have e4 : Ex H (upd H3 T1 (.tup [.int (j : Nat), y])) := e3.trans (Ex.new hT1)
        refine x_two (SqT.of upd_same) ?_
        generalize upd H3 T1 (.tup [.int (j : Nat), y]) = H4 at e4
        obtain ⟨p, hp, rfl⟩ : ∃ p, s[j]? = some p ∧ kV p = y := by simpa using hy
        have hpm := s3 p (List.mem_of_getElem? hp)
        walk_at "run"
        refine x_lenT (ex_t e4 hT) ?_
        rw [hl]
        refine ⟨p, i, N.length, rfl, hpm.2, fun H5 e5 => ⟨_, rfl, ?_⟩⟩
        rw [if_neg (by rw [hpm.1]; decide)]
        exact ⟨_, _, rfl, e4.trans e5⟩
      · rintro σ H3 ⟨u3, u4, rfl, e3⟩
        exact ⟨_, _, _, _, rfl, e3⟩
    · rintro σ H1 ⟨u1, u2, u3, u4, rfl, e1⟩
      exact k1 H1 e1
end
/-- what is enough of a network for the counting -/
structure CntN (N : Net) : Prop where
  le : N.length ≤ 40
  st : ∀ s ∈ N, 1 ≤ s.length ∧ s.length ≤ 8
  fw : ∀ (i : Nat) s, N[i]? = some s → ∀ j : Int, (.inl j : Key) ∈ s → (i : Int) < j ∧ j < N.length
theorem ValidN.cnt {N : Net} (h : ValidN N) : CntN N :=
  ⟨h.le, fun s hs => by
    obtain ⟨k, hk⟩ := List.mem_iff_getElem?.mp hs
    obtain ⟨a, b, _⟩ := h.st k s hk
    exact ⟨a, b⟩, fun i s hs j hj => h.seat hs hj⟩
theorem seats_len {N : Net} (h : CntN N) {k : Nat} (hk : k ≤ N.length) : (seatsOf N k).length ≤ 320 := by
  have := seatsOf_len (N := N) (fun s hs => (h.st s hs).2) k
  have := h.le
  omega
end K
set_option Elab.async false
set_option linter.all false
set_option maxRecDepth 100000
set_option maxHeartbeats 4000000
namespace K
open PySem PySem.Spec PyProof.Rows L2 Evl FB
local macro_rules | `(tactic| walk_at "run") => `(tactic| try simp only [tSeq, tAsg, tVar, tC, gName, L2.start, List.map_cons, List.map_nil, List.cons_append, List.nil_append, List.length_cons, List.length_nil, List.replicate, List.getElem?_cons_zero, List.getElem?_cons_succ, Option.some.injEq, exists_eq_left', List.set_cons_zero, List.set_cons_succ, V.ref.injEq, tRet, x_tLst, x_tTup, tCons, tCB, tNil, tOp, x_addI, x_mulI, x_rI, x_rI0, x_ltI, x_leI, x_ltS, x_leS, x_eqI, x_neI, x_eqS, x_eqB, x_neB, x_isiI, x_isiS, x_int, x_max, x_min, cxOf, tIfS, tNext, tTest, V.bl.injEq, decide_eq_true_eq, gSub, tAnd, tOr, tNot, tB, tDrop, tBM, x_tFor, iRng1, iList, iTup, x_tLc, tYes, tCall, tIf, tAndV, tOrV, tNotV, tChain, List.append_nil, tUn, if_true, wipe, true_and, x_never, iU, x_itS, kV, Nat.reduceAdd, Nat.reduceSub, List.replicate_zero, x_rU, x_tMkO, iEnumT, x_tDc, x_tDGet, x_tDGet2, x_sDPut, x_tDSetd, x_tDNewK, x_iItems, x_iZip, x_tSAddK])
section
variable {P : Program} {w : World} {K : PySem.W.Frag} {mg : Str → Option Value} {base : Heap}
abbrev s_check_passengers : Stmt := top 27
theorem sc_check_passengers : FnScope ["next_passenger", "queues", "waiting", "queue", "passenger"] ["next_passenger", "queues"] (defScope s_check_passengers) := ⟨rfl, rfl, rfl, by decide +kernel, rfl, by decide +kernel, by decide +kernel⟩
def spPass (K : PySem.W.Frag) : Sp := fun vs H Q _ => ∃ (v : V) (p : Int) (qs : List (List Int)), vs = [.int p, v] ∧ Dp K H v (qsD qs) ∧ qs.flatten.Nodup ∧ (∀ x ∈ qs.flatten, 1 ≤ x ∧ x < p) ∧ qs.flatten.length ≤ 1000 ∧ ∀ H', Ex H H' → Q .non H'
theorem ok_check_passengers {f : Addr} {fd : FuncData} (D : Df K mg "check_passengers" s_check_passengers ["next_passenger", "queues"] f fd) (T : Bt mg) : FnOk P w K mg base CX0 1 f fd ["next_passenger", "queues"] (spPass K) := by
  refine D.F.ok sc_check_passengers (fun vs H Q E h => ?_) (fun cdv A outer s H vs Q E hr h => ?_)
  · obtain ⟨v, p, qs, rfl, _⟩ := h
    rfl
  · obtain ⟨v, p, qs, rfl, hv, nd, rg, hl, q⟩ := h
    have hu := hr.units
    refine ⟨_, (pss_cons (ps_set (i := 2) sc_check_passengers.nd rfl (Or.inl rfl) (pe_callTy0 cr_set0K (by rfl) T.b_set (by decide +kernel)))
      (pss_one (ps_for PassesOwn.never rfl (pi_U (K := K) (pv 1)) (pg_name (i := 3) sc_check_passengers.nd rfl (Or.inl rfl)) (pss_one (ps_for PassesOwn.never rfl (pi_U (K := K) (pv 3)) (pg_name (i := 4) sc_check_passengers.nd rfl (Or.inl rfl)) (pss_cons (ps_if (pt_not (pt_chain (op_leU) (op_ltU) pe_int (pv 4) (pv 0))) pss_never pss_nil)
      (pss_cons (ps_if (pt_cmpR ((op_inU (K := K) (P := P) (w := w))) (pv 4) (pv 2) (by rfl)) pss_never pss_nil)
      (pss_one (ps_expr (pe_saddK (pv 2) (pa_cons (pv 4) pa_nil))))))))))), ?_⟩
    walk_at "run"
    obtain ⟨a, ts, rfl, hT, hts⟩ := qs_at hv
    have hlt : ts.length = qs.length := by rw [hts.len, List.length_map]
    refine x_set0 fun S H1 nS e1 hS => ?_
    refine x_itT (ex_t e1 hT) (loop_it walk_tup (fun i σ H' => ∃ u3 u4 W n, σ = [some (.int p), some (.ref a), some (.ref S), u3, u4] ∧ Ex H H' ∧ H' S = some (SetK P w S W n) ∧ n ≤ (qs.take i).flatten.length ∧ ∀ x : Int, W (.inl x) = true ↔ x ∈ (qs.take i).flatten) ⟨_, _, _, _, rfl, e1, hS, by simp, by simp⟩
      (fun i σ H' _ ⟨_, _, _, _, _, e, _⟩ => ex_t e hT) ?_ ?_)
    · rintro i x σ H2 H2' hi ⟨u3, u4, W, n, rfl, e2, hS2, hn, hW⟩ ⟨eH, hx⟩
      subst eH
      obtain ⟨d, hd, hd2⟩ := hts.get' hx
      obtain ⟨qi, hq, rfl⟩ : ∃ q, qs[i]? = some q ∧ qD q = d := by simpa using hd
      obtain ⟨b, rfl, hb⟩ := q_at hd2
      have htk : (qs.take (i + 1)).flatten = (qs.take i).flatten ++ qi := by
        rw [List.take_add_one, hq, List.flatten_append]; simp
      have hpre : ((qs.take i).flatten ++ qi) <+: qs.flatten := by
        rw [← htk]
        have : qs.flatten = (qs.take (i + 1)).flatten ++ (qs.drop (i + 1)).flatten := by rw [← List.flatten_append, List.take_append_drop]
        rw [this]; exact List.prefix_append _ _
      have hlen := hpre.length_le
      rw [List.length_append] at hlen
      have nd2 : ((qs.take i).flatten ++ qi).Nodup := nd.sublist hpre.sublist
      walk_at "run"
      refine x_itT (ex_t e2 hb) (loop_it walk_tup (fun j σ H' => ∃ u4 W n, σ = [some (.int p), some (.ref a), some (.ref S), some (.ref b), u4] ∧ Ex H H' ∧ H' S = some (SetK P w S W n) ∧ n ≤ ((qs.take i).flatten ++ qi.take j).length ∧ ∀ x : Int, W (.inl x) = true ↔ x ∈ (qs.take i).flatten ++ qi.take j) ⟨_, _, _, rfl, e2, hS2, by simpa using hn, by simpa using hW⟩
        (fun i σ H' _ ⟨_, _, _, _, e, _⟩ => ex_t e hb) ?_ ?_)
      · rintro j y σ H3 H3' hj ⟨u4, W, n, rfl, e3, hS3, hn, hW⟩ ⟨eH, hy⟩
        subst eH
        obtain ⟨z, hz, rfl⟩ : ∃ z, qi[j]? = some z ∧ V.int z = y := by simpa using hy
        have hj2 : j < qi.length := (List.getElem?_eq_some_iff.mp hz).1
        have hzm : z ∈ qs.flatten := hpre.subset (List.mem_append_right _ (List.mem_of_getElem? hz))
        obtain ⟨z1, z2⟩ := rg z hzm
        have htj : qi.take (j + 1) = qi.take j ++ [z] := by rw [List.take_add_one, hz]; rfl
        have hnot : ¬ z ∈ (qs.take i).flatten ++ qi.take j := by
          have hp2 : ((qs.take i).flatten ++ qi.take j ++ [z]) <+: ((qs.take i).flatten ++ qi) := by
            rw [List.append_assoc, ← htj]
            exact List.prefix_append_right_inj _ |>.mpr (List.take_prefix _ _)
          have nd3 := nd2.sublist hp2.sublist
          rw [List.nodup_append] at nd3
          intro hm
          exact nd3.2.2 z hm z (by simp) rfl
        have hWz : W (.inl z) = false := by
          cases e : W (.inl z) with
          | false => rfl
          | true => exact absurd ((hW z).mp e) hnot
        walk_at "run"
        rw [if_pos (by omega)]
        rw [if_neg (by simp; omega)]
        refine x_inS (k := .inl z) hS3 ?_
        rw [hWz]
        refine ⟨_, rfl, ?_⟩
        rw [if_neg Bool.false_ne_true]
        have hln : ((qs.take i).flatten ++ qi.take j).length ≤ 1000 := by
          rw [List.length_append, List.length_take]; omega
        refine ⟨⟨_, _, _, rfl, hS3⟩, x_sadd (k := .inl z) hS3 (by omega) fun H4 m e4 hm h4 => ?_⟩
        refine ⟨_, _, _, rfl, fun x o hx => e4 _ _ (ne_of_none hx nS) (e3 _ _ hx), h4, ?_, fun x => ?_⟩
        · rw [htj, ← List.append_assoc, List.length_append]
          simp only [List.length_cons, List.length_nil]
          omega
        · rw [htj, ← List.append_assoc, List.mem_append, ← hW x]
          simp
      · rintro σ H3 ⟨u4, W, n, rfl, e3, hS3, hn, hW⟩
        have hlq : qi.take ((qi.map V.int).length) = qi := by rw [List.length_map, List.take_length]
        rw [hlq, ← htk] at hn hW
        exact ⟨_, _, _, _, rfl, e3, hS3, hn, hW⟩
    · rintro σ H2 ⟨u3, u4, W, n, rfl, e2, _⟩
      exact q H2 e2
end
end K
set_option Elab.async false
set_option linter.all false
set_option maxRecDepth 100000
set_option maxHeartbeats 4000000
namespace K
open PySem PySem.Spec PyProof.Rows L2 Evl FB
local macro_rules | `(tactic| walk_at "run") => `(tactic| try simp only [tSeq, tAsg, tVar, tC, gName, L2.start, List.map_cons, List.map_nil, List.cons_append, List.nil_append, List.length_cons, List.length_nil, List.replicate, List.getElem?_cons_zero, List.getElem?_cons_succ, Option.some.injEq, exists_eq_left', List.set_cons_zero, List.set_cons_succ, V.ref.injEq, tRet, x_tLst, x_tTup, tCons, tCB, tNil, tOp, x_addI, x_mulI, x_rI, x_rI0, x_ltI, x_leI, x_ltS, x_leS, x_eqI, x_neI, x_eqS, x_eqB, x_neB, x_isiI, x_isiS, x_int, x_max, x_min, cxOf, tIfS, tNext, tTest, V.bl.injEq, decide_eq_true_eq, gSub, tAnd, tOr, tNot, tB, tDrop, tBM, x_tFor, iRng1, iList, iTup, x_tLc, tYes, tCall, tIf, tAndV, tOrV, tNotV, tChain, List.append_nil, tUn, if_true, wipe, true_and, x_never, iU, x_itS, kV, Nat.reduceAdd, Nat.reduceSub, List.replicate_zero, x_rU, x_tMkO, iEnumT, x_tDc, x_tDGet, x_tDGet2, x_sDPut, x_tDSetd, x_tDNewK, x_iItems, x_iZip, x_tSAddK])
theorem flat_len : ∀ {qs : List (List Int)} {N : Net}, qs.length = N.length → (∀ (k : Nat) q s, qs[k]? = some q → N[k]? = some s → q.length < s.length) → (∀ s ∈ N, s.length ≤ 8) → qs.flatten.length ≤ 8 * N.length
  | [], _, _, _, _ => by simp
  | q :: qs, [], h, _, _ => by simp at h
  | q :: qs, s :: N, h, hlt, h8 => by
    have h1 := hlt 0 q s rfl rfl
    have h2 := h8 s (List.mem_cons_self ..)
    have h3 := flat_len (qs := qs) (N := N) (by simpa using h) (fun k q' s' a b => hlt (k + 1) q' s' (by simpa using a) (by simpa using b)) (fun s hs => h8 s (List.mem_cons_of_mem _ hs))
    rw [List.flatten_cons, List.length_append, List.length_cons]
    omega
section
variable {P : Program} {w : World} {K : PySem.W.Frag} {mg : Str → Option Value} {base : Heap}
abbrev s_check_state : Stmt := top 26
theorem sc_check_state : FnScope ["network", "state", "next_passenger", "queues", "seats", "queue"] ["network", "state"] (defScope s_check_state) := ⟨rfl, rfl, rfl, by decide +kernel, rfl, by decide +kernel, by decide +kernel⟩
def spState (K : PySem.W.Frag) : Sp := fun vs H Q _ => ∃ (v u : V) (N : Net) (p : Int) (qs : List (List Int)), vs = [v, u] ∧ NetAt K H v N ∧ ValidN N ∧ Dp K H u (stateD p qs) ∧ StOk N p qs ∧ ∀ H', Ex H H' → Q .non H'
theorem ok_check_state {f f1 f2 f3 f4 : Addr} {fd fd1 fd2 fd3 fd4 : FuncData} (D : Df K mg "check_state" s_check_state ["network", "state"] f fd) (T : Bt mg) (Ck : Ct K mg)
    (D_check_network : Df K mg "check_network" s_check_network ["network"] f1 fd1) (D_check_passengers : Df K mg "check_passengers" s_check_passengers ["next_passenger", "queues"] f2 fd2) (D_is_word : Df K mg "is_word" s_is_word ["text"] f3 fd3)
    (D_is_place : Df K mg "is_place" s_is_place ["place", "station", "stations"] f4 fd4) : FnOk P w K mg base CX0 5 f fd ["network", "state"] (spState K) := by
  have G_check_network : FnOk P w K mg base CX0 4 f1 fd1 _ _ := ok_check_network0 D_check_network T Ck D_is_word D_is_place
  have G_check_passengers : FnOk P w K mg base CX0 1 f2 fd2 _ _ := ok_check_passengers D_check_passengers T
  refine D.F.ok sc_check_state (fun vs H Q E h => ?_) (fun cdv A outer s H vs Q E hr h => ?_)
  · obtain ⟨v, u, N, p, qs, rfl, _⟩ := h
    rfl
  · obtain ⟨v, u, N, p, qs, rfl, hN, hV, hu2, hO, q⟩ := h
    have hu := hr.units
    refine ⟨_, (pss_cons (ps_expr (pe_call (G_check_network) (hr.mono (by decide)) rfl D_check_network.g D_check_network.F.kp D_check_network.b .nil pass0 (pa_cons (pv 0) pa_nil)))
      (pss_cons (ps_asg (pv 1) (pg_tup rfl (pgs_cons (pg_name (i := 2) sc_check_state.nd rfl (Or.inl rfl)) (pgs_cons (pg_name (i := 3) sc_check_state.nd rfl (Or.inl rfl)) pgs_nil))))
      (pss_cons (ps_if (pt_cmpR (op_ltU) (pv 2) pe_int (nomark _)) pss_never pss_nil)
      (pss_cons (ps_if (pt_cmpR (op_neU (K := K) hu) (pe_callB (call_lenU (K := K)) (by rfl) T.b_len (by decide +kernel) (pa_cons (pv 3) pa_nil)) (pe_callB (call_lenU (K := K)) (by rfl) T.b_len (by decide +kernel) (pa_cons (pv 0) pa_nil)) (nomark _)) pss_never pss_nil)
      (pss_cons (ps_for PassesOwn.never rfl (RZ.pi_zipA (by rfl) T.b_zip (pa_cons (pv 0) (pa_cons (pv 3) pa_nil))) (pg_tup rfl (pgs_cons (pg_name (i := 4) sc_check_state.nd rfl (Or.inl rfl)) (pgs_cons (pg_name (i := 5) sc_check_state.nd rfl (Or.inl rfl)) pgs_nil))) (pss_one (ps_if (pt_cmpR (op_geU) (pe_callB (call_lenU (K := K)) (by rfl) T.b_len (by decide +kernel) (pa_cons (pv 5) pa_nil)) (pe_callB (call_lenU (K := K)) (by rfl) T.b_len (by decide +kernel) (pa_cons (pv 4) pa_nil)) (nomark _)) pss_never pss_nil)))
      (pss_one (ps_expr (pe_call (G_check_passengers) (hr.mono (by decide)) rfl D_check_passengers.g D_check_passengers.F.kp D_check_passengers.b .nil pass0 (pa_cons (pv 2) (pa_cons (pv 3) pa_nil)))))))))), ?_⟩
    walk_at "run"
    refine ⟨v, N, rfl, hN, hV, fun H1 e1 => ?_⟩
    obtain ⟨a, y, rfl, hS, hy⟩ := state_at hu2
    refine x_two (ex_t e1 hS) ?_
    obtain ⟨b, ts, rfl, hT, hts⟩ := qs_at hy
    obtain ⟨c, us, rfl, hU, hus⟩ := hN.at
    have hlt : ts.length = qs.length := by rw [hts.len, List.length_map]
    have hlu : us.length = N.length := by rw [hus.len, List.length_map]
    have hp := hO.pos
    have hql := hO.len
    walk_at "run"
    rw [if_neg (by omega)]
    refine x_lenT (ex_t e1 hT) (x_lenT (ex_t e1 hU) ?_)
    rw [hlt, hlu]
    walk_at "run"
    rw [if_neg (by simp; omega)]
    refine x_zipT (ex_t e1 hU) (ex_t e1 hT) ?_
    refine loop_it (walk_zipT (by omega)) (fun i σ H' => ∃ u4 u5, σ = [some (.ref c), some (.ref a), some (.int p), some (.ref b), u4, u5] ∧ Ex H H') ⟨_, _, rfl, e1⟩ (fun i σ H' _ ⟨_, _, _, e⟩ => ⟨ex_t e hU, ex_t e hT⟩) ?_ ?_
    · rintro i v σ H2 H3 hi ⟨u4, u5, rfl, e2⟩ ⟨T0, x, y, rfl, hT0, rfl, hx, hy⟩
      have e3 : Ex H (upd H2 T0 (.tup [x, y])) := e2.trans (Ex.new hT0)
      refine x_two (SqT.of upd_same) ?_
      generalize upd H2 T0 (.tup [x, y]) = H3 at e3
      obtain ⟨sD, hs, hx2⟩ := hus.get' hx
      obtain ⟨s, hsN, rfl⟩ : ∃ s, N[i]? = some s ∧ stD s = sD := by simpa using hs
      obtain ⟨b1, rfl, hb1⟩ := StAt.at hx2
      obtain ⟨qD', hq, hy2⟩ := hts.get' hy
      obtain ⟨qi, hqi, rfl⟩ : ∃ s, qs[i]? = some s ∧ qD s = qD' := by simpa using hq
      obtain ⟨b2, rfl, hb2⟩ := q_at hy2
      have := hO.lt i qi s hqi hsN
      walk_at "run"
      refine x_lenT (ex_t e3 hb2) (x_lenT (ex_t e3 hb1) ?_)
      rw [List.length_map, List.length_map]
      walk_at "run"
      rw [if_neg (by omega)]
      exact ⟨_, _, rfl, e3⟩
    · rintro σ H2 ⟨u4, u5, rfl, e2⟩
      walk_at "run"
      have hfl := flat_len hql hO.lt (fun s hs => (hV.cnt.st s hs).2)
      have h40 := hV.le
      exact ⟨_, p, qs, rfl, Dp.ex e2 hy, hO.nd, hO.rng, by omega, fun H3 e3 => q H3 (e2.trans e3)⟩
end
end K
set_option Elab.async false
set_option linter.all false
set_option maxRecDepth 100000
set_option maxHeartbeats 4000000
namespace K
open PySem PySem.Spec PyProof.Rows L2 Evl FB
local macro_rules | `(tactic| walk_at "run") => `(tactic| try simp only [tSeq, tAsg, tVar, tC, gName, L2.start, List.map_cons, List.map_nil, List.cons_append, List.nil_append, List.length_cons, List.length_nil, List.replicate, List.getElem?_cons_zero, List.getElem?_cons_succ, Option.some.injEq, exists_eq_left', List.set_cons_zero, List.set_cons_succ, V.ref.injEq, tRet, x_tLst, x_tTup, tCons, tCB, tNil, tOp, x_addI, x_mulI, x_rI, x_rI0, x_ltI, x_leI, x_ltS, x_leS, x_eqI, x_neI, x_eqS, x_eqB, x_neB, x_isiI, x_isiS, x_int, x_max, x_min, cxOf, tIfS, tNext, tTest, V.bl.injEq, decide_eq_true_eq, gSub, tAnd, tOr, tNot, tB, tDrop, tBM, x_tFor, iRng1, iList, iTup, x_tLc, tYes, tCall, tIf, tAndV, tOrV, tNotV, tChain, List.append_nil, tUn, if_true, wipe, true_and, x_never, iU, x_itS, kV, Nat.reduceAdd, Nat.reduceSub, List.replicate_zero, x_rU, x_tMkO, iEnumT, x_tDc, x_tDGet, x_tDGet2, x_sDPut, x_tDSetd, x_tDNewK, x_iItems, x_iZip, x_tSAddK, x_tLockV, x_tTupRg, x_tRg2, tPar, tPar3, tBM0])
/-- a network on which boats depart: stations of one to eight seats, seats lead on -/
structure JN (N : Net) : Prop where
  le : N.length ≤ 40
  st : ∀ k, k < N.length → 1 ≤ (N.getD k []).length ∧ (N.getD k []).length ≤ 8
  fw : Fw N
section
variable {P : Program} {w : World} {K : PySem.W.Frag} {mg : Str → Option Value} {base : Heap}
theorem FnOk.absurd {CX : CXT} {k : Nat} {f : Addr} {fd : FuncData} {ps : List Str} {sp : Sp} (h : ∀ vs H Q E, sp vs H Q E → False) : FnOk P w K mg base CX k f fd ps sp :=
  ⟨fun _ _ _ _ x => (h _ _ _ _ x).elim, fun _ _ _ _ _ _ _ _ _ _ _ _ _ x => (h _ _ _ _ x).elim⟩
abbrev s_l_join : Stmt := top 45
theorem sc_l_join : FnScope ["_law_network_here", "_law_queues", "_law_station", "_law_passenger", "_law_finished"] ["_law_network_here", "_law_queues", "_law_station", "_law_passenger", "_law_finished"] (defScope s_l_join) := ⟨rfl, rfl, rfl, by decide +kernel, rfl, by decide +kernel, by decide +kernel⟩
abbrev s_l_depart : Stmt := top 46
theorem sc_l_depart : FnScope ["_law_network_here", "_law_queues", "_law_station", "_law_finished", "_law_passengers", "_law_seat", "_law_place_here"] ["_law_network_here", "_law_queues", "_law_station", "_law_finished"] (defScope s_l_depart) := ⟨rfl, rfl, rfl, by decide +kernel, rfl, by decide +kernel, by decide +kernel⟩
def spJoinL (K : PySem.W.Frag) (f : Nat) : Sp := fun vs H Q _ => ∃ (v : V) (N : Net) (Qa Fa : Addr) (as : List Addr) (qs : Qs) (fs : List (Str × Int)) (j : Nat) (p : Int), vs = [v, .ref Qa, .int (j : Int), .int p, .ref Fa] ∧ NetAt K H v N ∧ JN N ∧ QsAt K H Qa as qs ∧ FinAt K H Fa fs ∧ Fa ≠ Qa ∧ Fa ∉ as ∧
  Short N qs ∧ j < N.length ∧ N.length ≤ j + f ∧ fs.length + qs.flatten.length + 1 ≤ 100000 ∧
  ∀ H', Ex3 as Fa H H' → QsAt K H' Qa as (joinW N (departW N f) qs j p).1 → FinAt K H' Fa (fs ++ finOf (joinW N (departW N f) qs j p).2) → Q .non H'
def spDepartL (K : PySem.W.Frag) (f : Nat) : Sp := fun vs H Q _ => ∃ (v : V) (N : Net) (Qa Fa : Addr) (as : List Addr) (qs : Qs) (fs : List (Str × Int)) (st : Nat), vs = [v, .ref Qa, .int (st : Int), .ref Fa] ∧ NetAt K H v N ∧ JN N ∧ QsAt K H Qa as qs ∧ FinAt K H Fa fs ∧ Fa ≠ Qa ∧ Fa ∉ as ∧
  qs.length = N.length ∧ (∀ k, k < N.length → k ≠ st → (qs.getD k []).length < (N.getD k []).length) ∧ (qs.getD st []).length ≤ (N.getD st []).length ∧ st < N.length ∧ N.length ≤ st + f ∧ fs.length + qs.flatten.length ≤ 100000 ∧
  ∀ H', Ex3 as Fa H H' → QsAt K H' Qa as (departW N f qs st).1 → FinAt K H' Fa (fs ++ finOf (departW N f qs st).2) → Q .non H'
theorem ok_l_join {f g : Addr} {fd gd : FuncData} {l n : Nat} (D : Df K mg "_law_join" s_l_join ["_law_network_here", "_law_queues", "_law_station", "_law_passenger", "_law_finished"] f fd) (T : Bt mg) (D_l_depart : Df K mg "_law_depart" s_l_depart ["_law_network_here", "_law_queues", "_law_station", "_law_finished"] g gd)
    (G_l_depart : FnOk P w K mg base CX0 l g gd ["_law_network_here", "_law_queues", "_law_station", "_law_finished"] (spDepartL K n)) : FnOk P w K mg base CX0 (l + 1) f fd ["_law_network_here", "_law_queues", "_law_station", "_law_passenger", "_law_finished"] (spJoinL K n) := by
  refine D.F.ok sc_l_join (fun vs H Q E h => ?_) (fun cdv A outer s H vs Q E hr h => ?_)
  · obtain ⟨v, N, Qa, Fa, as, qs, fs, j, p, rfl, _⟩ := h
    rfl
  · obtain ⟨v, N, Qa, Fa, as, qs, fs, j, p, rfl, hN, hJ, hQ, hF, n1, n2, S, hj, hf, hb, q⟩ := h
    have hu := hr.units
    refine ⟨_, (pss_cons (ps_expr (pe_bm PySem.F.plainAttrs_list PySem.F.slot_list_append PySem.F.type_list_append mt_append (pe_ix (ix_U (K := K)) (pv 1) (pv 2) (fun _ _ => rfl)) (pa_cons (pv 3) pa_nil)))
      (pss_one (ps_if (pt_cmpR (op_eqU (K := K) hu) (pe_callB (call_lenU (K := K)) (by rfl) T.b_len (by decide +kernel) (pa_cons (pe_ix (ix_U (K := K)) (pv 1) (pv 2) (fun _ _ => rfl)) pa_nil)) (pe_callB (call_lenU (K := K)) (by rfl) T.b_len (by decide +kernel) (pa_cons (pe_ix (ix_U (K := K)) (pv 0) (pv 2) (fun _ _ => rfl)) pa_nil)) (nomark _)) (pss_one (ps_expr (pe_call (G_l_depart) hr rfl D_l_depart.g D_l_depart.F.kp D_l_depart.b .nil pass0 (pa_cons (pv 0) (pa_cons (pv 1) (pa_cons (pv 2) (pa_cons (pv 4) pa_nil))))))) pss_nil))), ?_⟩
    walk_at "run"
    have hjq : j < qs.length := by rw [S.len]; exact hj
    obtain ⟨a, ha, hHa, ham⟩ := hQ.get hjq
    obtain ⟨vn, us, rfl, hU, hus⟩ := hN.at
    obtain ⟨h1s, h8s⟩ := hJ.st j hj
    have hlt := S.lt j hj
    have haj : (as.map V.ref)[j]? = some (.ref a) := by simp [ha]
    refine x_ixL (SqL.of hQ.at_) (atI_nat haj) ?_
    refine ⟨x_tyL (SqL.of hHa), x_append hHa (by rw [List.length_map]; omega) fun H1 e1 h1 => ?_⟩
    have hQ1 : QsAt K H1 Qa as (qs.set j (qs.getD j [] ++ [p])) := hQ.set ha e1 (by rw [h1, List.map_append]; rfl)
    have t1 : TX H H1 := TX.but hHa e1
    have hFa : a ≠ Fa := fun z => n2 (by rw [← z]; exact ham)
    have hF1 : FinAt K H1 Fa fs := hF.tx t1 fun o h => e1 _ _ hFa.symm h
    have ex1 : Ex3 as Fa H H1 := fun x o h h1 h2 => e1 x o (fun z => h2 (by rw [z]; exact ham)) h
    refine x_ixL (SqL.of hQ1.at_) (atI_nat haj) (x_lenL (SqL.of h1) ?_)
    obtain ⟨sv, hsv, hsd⟩ := hus.get (show (N.map stD)[j]? = some (stD (N.getD j [])) by simp [List.getD_eq_getElem?_getD, hj])
    obtain ⟨b, rfl, hbs⟩ := StAt.at hsd
    refine x_ixT (t1.t hU) (atI_nat hsv) (x_lenT (t1.t hbs) ?_)
    rw [List.length_map, List.length_append, List.length_map, show [V.int p].length = 1 from rfl]
    walk_at "run"
    have hlen : (qs.getD j [] ++ [p]).length = (qs.getD j []).length + 1 := by simp
    by_cases e : (qs.getD j [] ++ [p]).length = (N.getD j []).length
    · rw [if_pos (by omega)]
      have hjw : joinW N (departW N n) qs j p = departW N n (qs.set j (qs.getD j [] ++ [p])) j := by unfold joinW; rw [if_pos e]
      rw [hjw] at q
      have hfl := (set_perm (p := p) hjq).length_eq
      rw [List.length_append, show [p].length = 1 from rfl] at hfl
      refine ⟨_, N, Qa, Fa, as, _, fs, j, rfl, hN.tx t1, hJ, hQ1, hF1, n1, n2, by rw [List.length_set]; exact S.len, fun k hk hne => by rw [getD_set' hjq, if_neg hne]; exact S.lt k hk, by rw [getD_set' hjq, if_pos rfl]; omega, hj, hf, by omega, fun H2 ex2 hQ2 hF2 => ?_⟩
      exact q H2 (fun x o h h1 h2 => ex2 x o (ex1 x o h h1 h2) h1 h2) hQ2 hF2
    · rw [if_neg (by omega)]
      have hjw : joinW N (departW N n) qs j p = (qs.set j (qs.getD j [] ++ [p]), []) := by unfold joinW; rw [if_neg e]
      rw [hjw] at q
      exact q H1 ex1 hQ1 (by simpa [finOf] using hF1)
theorem ok_l_depart {f g : Addr} {fd gd : FuncData} {l n : Nat} (D : Df K mg "_law_depart" s_l_depart ["_law_network_here", "_law_queues", "_law_station", "_law_finished"] f fd) (T : Bt mg) (D_l_join : Df K mg "_law_join" s_l_join ["_law_network_here", "_law_queues", "_law_station", "_law_passenger", "_law_finished"] g gd)
    (G_l_join : FnOk P w K mg base CX0 l g gd ["_law_network_here", "_law_queues", "_law_station", "_law_passenger", "_law_finished"] (spJoinL K n)) : FnOk P w K mg base CX0 (l + 1) f fd ["_law_network_here", "_law_queues", "_law_station", "_law_finished"] (spDepartL K (n + 1)) := by
  refine D.F.ok sc_l_depart (fun vs H Q E h => ?_) (fun cdv A outer s H vs Q E hr h => ?_)
  · obtain ⟨v, N, Qa, Fa, as, qs, fs, st, rfl, _⟩ := h
    rfl
  · obtain ⟨v, N, Qa, Fa, as, qs, fs, st, rfl, hN, hJ, hQ, hF, n1, n2, hl, hsh, hle, hst, hf, hb, q⟩ := h
    refine ⟨_, (pss_cons (ps_set (i := 4) sc_l_depart.nd rfl (Or.inl rfl) (pe_callTy (call_listU (K := K)) (by rfl) T.b_list (by decide +kernel) (pa_cons (pe_ix (ix_U (K := K)) (pv 1) (pv 2) (fun _ _ => rfl)) pa_nil)))
      (pss_cons (ps_expr (pe_bm0 PySem.F.plainAttrs_list PySem.F.slot_list_clear PySem.F.type_list_clear mt_clear (pe_ix (ix_U (K := K)) (pv 1) (pv 2) (fun _ _ => rfl))))
      (pss_one (ps_for PassesOwn.never rfl (pi_range1 (by rfl) T.b_range (pa_cons (pe_callB (call_lenU (K := K)) (by rfl) T.b_len (by decide +kernel) (pa_cons (pv 4) pa_nil)) pa_nil)) (pg_name (i := 5) sc_l_depart.nd rfl (Or.inl rfl)) (pss_cons (ps_set (i := 6) sc_l_depart.nd rfl (Or.inl rfl) (pe_ix (ix_U (K := K)) (pe_ix (ix_U (K := K)) (pv 0) (pv 2) (fun _ _ => rfl)) (pv 5) (fun _ _ => rfl)))
      (pss_one (ps_if (pt_val (pe_callB (call_isiU (K := K)) (by rfl) T.b_isinstance (by decide +kernel) (pa_cons (pv 6) (pa_cons (pe_bltn (v := .ty "str") (by rfl) T.b_str (by decide +kernel) rfl) pa_nil)))) (pss_one (ps_expr (pe_bm PySem.F.plainAttrs_list PySem.F.slot_list_append PySem.F.type_list_append mt_append (pv 3) (pa_cons (pe_tup (pa_cons (pv 6) (pa_cons (pe_ix (ix_U (K := K)) (pv 4) (pv 5) (fun _ _ => rfl)) pa_nil))) pa_nil)))) (pss_one (ps_expr (pe_call (G_l_join) hr rfl D_l_join.g D_l_join.F.kp D_l_join.b .nil pass0 (pa_cons (pv 0) (pa_cons (pv 1) (pa_cons (pv 6) (pa_cons (pe_ix (ix_U (K := K)) (pv 4) (pv 5) (fun _ _ => rfl)) (pa_cons (pv 3) pa_nil))))))))))))))), ?_⟩
    walk_at "run"
    have hsq : st < qs.length := by omega
    obtain ⟨a, ha, hHa, ham⟩ := hQ.get hsq
    obtain ⟨vn, us, rfl, hU, hus⟩ := hN.at
    obtain ⟨h1s, h8s⟩ := hJ.st st hst
    have haj : (as.map V.ref)[st]? = some (.ref a) := by simp [ha]
    have hFa : a ≠ Fa := fun z => n2 (by rw [← z]; exact ham)
    refine x_ixL (SqL.of hQ.at_) (atI_nat haj) (x_listL (SqL.of hHa) fun pl H1 npl e1 h1 => ?_)
    walk_at "run"
    refine x_ixL (SqL.of (e1 _ _ hQ.at_)) (atI_nat haj) ⟨x_tyL (SqL.of (e1 _ _ hHa)), a, _, rfl, rfl, e1 _ _ hHa, ?_⟩
    generalize hH2 : upd H1 a (.lst []) = H2
    have e2 : ∀ x o, x ≠ a → H1 x = some o → H2 x = some o := fun x o hx h => by rw [← hH2, upd_ne hx]; exact h
    have h2 : H2 a = some (.lst []) := by rw [← hH2, upd_same]
    have hpa : pl ≠ a := (ne_of_none hHa npl).symm
    have t2 : TX H H2 := (TX.of e1).trans (TX.but (e1 _ _ hHa) e2)
    have hQ2 : QsAt K H2 Qa as (qs.set st []) := (hQ.ex e1).set ha e2 h2
    have hF2 : FinAt K H2 Fa fs := (hF.e e1).tx (TX.but (e1 _ _ hHa) e2) fun o h => e2 _ _ hFa.symm h
    have hpl2 := e2 _ _ hpa h1
    have hplF : pl ≠ Fa := fun z => by
      obtain ⟨ts, h, _⟩ := hF.ex
      rw [z] at npl
      rw [npl] at h; cases h
    have hpls : pl ∉ as := fun z => by
      obtain ⟨i, hi⟩ := List.mem_iff_getElem?.mp z
      have := hQ.q i pl hi
      rw [npl] at this; cases this
    have ex2 : Ex3 as Fa H H2 := fun x o h h1 h2 => e2 x o (fun z => h2 (by rw [z]; exact ham)) (e1 _ _ h)
    refine x_lenL (SqL.of hpl2) ⟨_, rfl, by rw [List.length_map]; omega, by rw [List.length_map]; omega, ?_⟩
    have hnn : ((((qs.getD st []).map V.int).length : Nat) : Int).toNat = (qs.getD st []).length := by rw [List.length_map]; omega
    rw [hnn]
    have h1k : ∀ k, k < N.length → 1 ≤ (N.getD k []).length := fun k hk => (hJ.st k hk).1
    have S0 : Short N (qs.set st []) := ⟨by rw [List.length_set]; exact hl, fun k hk => by
      rw [getD_set' hsq]
      split
      · rename_i e; subst e; exact h1s
      · rename_i e; exact hsh k hk e⟩
    have hdep := departW_ok (α := Int) h1k hJ.fw n
    have hpm := departW_pm (α := Int) hJ.fw n
    have hzl : ((N.getD st []).zip (qs.getD st [])).length = (qs.getD st []).length := by rw [List.length_zip]; omega
    have hmem : ∀ i, ∀ m ∈ ((N.getD st []).zip (qs.getD st [])).take i, ∀ j : Int, m.1 = .inl j → (st : Int) < j ∧ j < N.length := fun i m hm j e =>
      hJ.fw st hst j (by rw [← e]; exact (List.of_mem_zip (List.mem_of_mem_take hm)).1)
    have hfl0 : (qs.set st []).flatten.length + (qs.getD st []).length = qs.flatten.length := by
      obtain ⟨u, w, h1, h2⟩ := flat_set (y := []) (getD_some hsq)
      rw [h1, h2]
      simp only [List.append_nil, List.length_append]
      omega
    refine loop_it walk_range (fun i σ H' => ∃ u5 u6, σ = [some (.ref vn), some (.ref Qa), some (.int (st : Int)), some (.ref Fa), some (.ref pl), u5, u6] ∧ Ex3 as Fa H H' ∧ TX H H' ∧ H' pl = some (.lst ((qs.getD st []).map V.int)) ∧
      QsAt K H' Qa as (moveW N (departW N n) (((N.getD st []).zip (qs.getD st [])).take i) (qs.set st [])).1 ∧ FinAt K H' Fa (fs ++ finOf (moveW N (departW N n) (((N.getD st []).zip (qs.getD st [])).take i) (qs.set st [])).2)) ⟨_, _, rfl, ex2, t2, hpl2, hQ2, by simpa [moveW, finOf] using hF2⟩ (fun _ _ _ _ _ => trivial) ?_ ?_
    · rintro i x σ H3 H3' hi ⟨u5, u6, rfl, ex3, t3, hpl3, hQ3, hF3⟩ ⟨eH, rfl⟩
      subst eH
      have hz : (0 : Int) + i = (i : Int) := by omega
      obtain ⟨S3, K3⟩ := moveW_ok h1k hdep (st := st) (by omega) (ms := ((N.getD st []).zip (qs.getD st [])).take i) (hmem i) S0
      obtain ⟨L3, P3⟩ := moveW_pm hpm (ms := ((N.getD st []).zip (qs.getD st [])).take i) (qs := qs.set st []) (fun m hm j e => by
        have := hmem i m hm j e
        rw [List.length_set]; omega) (by rw [List.length_set]; exact hl)
      have hlen3 := P3.length_eq
      rw [List.length_append, List.length_append, List.length_map, List.length_map, List.length_take, hzl] at hlen3
      obtain ⟨k, hk⟩ : ∃ k, (N.getD st [])[i]? = some k := ⟨(N.getD st [])[i]'(by omega), List.getElem?_eq_getElem (by omega)⟩
      obtain ⟨p, hp⟩ : ∃ p, (qs.getD st [])[i]? = some p := ⟨(qs.getD st [])[i]'(by omega), List.getElem?_eq_getElem (by omega)⟩
      have hzi : ((N.getD st []).zip (qs.getD st []))[i]? = some (k, p) := by
        rw [List.getElem?_zip_eq_some]
        exact ⟨hk, hp⟩
      have htk : ((N.getD st []).zip (qs.getD st [])).take (i + 1) = ((N.getD st []).zip (qs.getD st [])).take i ++ [(k, p)] := by rw [List.take_add_one, hzi]; rfl
      rw [htk, moveW_snoc]
      generalize hR : moveW N (departW N n) (((N.getD st []).zip (qs.getD st [])).take i) (qs.set st []) = R at hQ3 hF3 S3 K3 L3 hlen3
      walk_at "run"
      rw [hz]
      have hpi : ((qs.getD st []).map V.int)[i]? = some (.int p) := by simp only [List.getElem?_map, hp]; rfl
      obtain ⟨sv, hsv, hsd⟩ := hus.get (show (N.map stD)[st]? = some (stD (N.getD st [])) by simp [List.getD_eq_getElem?_getD, hst])
      obtain ⟨b, rfl, hbs⟩ := StAt.at hsd
      have hki : ((N.getD st []).map kV)[i]? = some (kV k) := by simp only [List.getElem?_map, hk]; rfl
      refine x_ixT (t3.t hU) (atI_nat hsv) (x_ixT (t3.t hbs) (atI_nat hki) ?_)
      cases k with
      | inl j =>
        have hj := hJ.fw st hst j (List.mem_of_getElem? hk)
        obtain ⟨j', rfl⟩ : ∃ j' : Nat, j = (j' : Int) := ⟨j.toNat, by omega⟩
        walk_at "run"
        rw [if_neg Bool.false_ne_true]
        refine x_ixL (SqL.of hpl3) (atI_nat hpi) ?_
        have hjo := move_one_l (N := N) (dep := departW N n) (j := (j' : Int)) (p := p) (qs := R.1)
        rw [Int.toNat_natCast] at hjo
        rw [hjo]
        refine ⟨_, N, Qa, Fa, as, R.1, _, j', p, rfl, hN.tx t3, hJ, hQ3, hF3, n1, n2, S3, by omega, by omega, ?_, fun H4 ex4 hQ4 hF4 => ?_⟩
        · rw [List.length_append]; omega
        · refine ⟨_, _, rfl, fun x o h h1 h2 => ex4 x o (ex3 x o h h1 h2) h1 h2, t3.trans (ex4.tx hQ3 hF3), ex4 _ _ hpl3 hplF hpls, hQ4, ?_⟩
          rw [finOf_append, ← List.append_assoc]
          exact hF4
      | inr z =>
        walk_at "run"
        obtain ⟨ts, hF4, hts⟩ := hF3.ex
        refine ⟨x_tyL (SqL.of hF4), x_ixL (SqL.of hpl3) (atI_nat hpi) ?_⟩
        refine x_tup (by simp) fun tp H4 ntp e4 h4 => ?_
        have htl := hts.len
        rw [List.length_map, List.length_append] at htl
        refine x_append (e4 _ _ hF4) (by rw [htl]; omega) fun H5 e5 h5 => ?_
        have hFt : Fa ≠ tp := ne_of_none hF4 ntp
        have t5 : TX H3' H5 := (TX.of e4).trans (TX.but (e4 _ _ hF4) e5)
        rw [move_one_r]
        refine ⟨_, _, rfl, fun x o h h1 h2 => e5 _ _ h1 (e4 _ _ (ex3 x o h h1 h2)), t3.trans t5, e5 _ _ hplF (e4 _ _ hpl3), (hQ3.ex e4).but e5 n1.symm n2, ⟨_, h5, ?_⟩⟩
        rw [finOf_append, ← List.append_assoc, List.map_append]
        refine DpAll.append (DpAll.tx t5 hts fun d hd => ?_) (.cons (.tup (SqT.of (e5 _ _ hFt.symm h4)) (.cons (.str z) (.cons (.int p) .nil))) .nil)
        obtain ⟨y, _, rfl⟩ := List.mem_map.mp hd
        exact fpD_t y
    · rintro σ H3 ⟨u5, u6, rfl, ex3, t3, hpl3, hQ3, hF3⟩
      have ht : ((N.getD st []).zip (qs.getD st [])).take (qs.getD st []).length = (N.getD st []).zip (qs.getD st []) := List.take_of_length_le (by omega)
      rw [ht] at hQ3 hF3
      exact q H3 ex3 hQ3 hF3
end
end K
set_option Elab.async false
set_option linter.all false
set_option maxRecDepth 100000
set_option maxHeartbeats 4000000
namespace K
open PySem PySem.Spec PyProof.Rows L2 Evl FB
local macro_rules | `(tactic| walk_at "run") => `(tactic| try simp only [tSeq, tAsg, tVar, tC, gName, L2.start, List.map_cons, List.map_nil, List.cons_append, List.nil_append, List.length_cons, List.length_nil, List.replicate, List.getElem?_cons_zero, List.getElem?_cons_succ, Option.some.injEq, exists_eq_left', List.set_cons_zero, List.set_cons_succ, V.ref.injEq, tRet, x_tLst, x_tTup, tCons, tCB, tNil, tOp, x_addI, x_mulI, x_rI, x_rI0, x_ltI, x_leI, x_ltS, x_leS, x_eqI, x_neI, x_eqS, x_eqB, x_neB, x_isiI, x_isiS, x_int, x_max, x_min, cxOf, tIfS, tNext, tTest, V.bl.injEq, decide_eq_true_eq, gSub, tAnd, tOr, tNot, tB, tDrop, tBM, x_tFor, iRng1, iList, iTup, x_tLc, tYes, tCall, tIf, tAndV, tOrV, tNotV, tChain, List.append_nil, tUn, if_true, wipe, true_and, x_never, iU, x_itS, kV, Nat.reduceAdd, Nat.reduceSub, List.replicate_zero, x_rU, x_tMkO, iEnumT, x_tDc, x_tDGet, x_tDGet2, x_sDPut, x_tDSetd, x_tDNewK, x_iItems, x_iZip, x_tSAddK, x_tLockV, x_tTupRg, x_tRg2, tPar, tPar3, tBM0])
theorem Drawn.jn {N : Net} {most : Int} (D : Drawn N most) (h : most ≤ 40) : JN N where
  le := by have := D.le; omega
  st := fun k hk => by
    have e : N[k]? = some (N.getD k []) := by simp [List.getD_eq_getElem?_getD, hk]
    have := D.st k _ e
    exact ⟨this.1, this.2.1⟩
  fw := fun i hi j hj => by
    have e : N[i]? = some (N.getD i []) := by simp [List.getD_eq_getElem?_getD, hi]
    exact (D.st i _ e).2.2 _ hj
/-- a state while it is drawn -/
structure LS (K : PySem.W.Frag) (H0 H : Hp) (N : Net) (h b Qa Fa : Addr) (as : List Addr) (qs : Qs) (fs : List (Str × Int)) (p : Int) (i : Nat) : Prop where
  gen : Gen H h b
  q : QsAt K H Qa as qs
  f : FinAt K H Fa fs
  sh : Short N qs
  nd : qs.flatten.Nodup
  rg : ∀ x ∈ qs.flatten, 1 ≤ x ∧ x < p
  pos : 1 ≤ p
  le : fs.length + qs.flatten.length ≤ i
  ex : Ex2 h b H0 H
/-- the lists of the state are new -/
structure Nw (H0 : Hp) (h b Qa Fa : Addr) (as : List Addr) : Prop where
  g : Gen H0 h b
  q : H0 Qa = none
  f : H0 Fa = none
  a : ∀ a ∈ as, H0 a = none
  fq : Fa ≠ Qa
  fa : Fa ∉ as
section
variable {K : PySem.W.Frag} {H0 H H2 : Hp} {N : Net} {h b Qa Fa : Addr} {as : List Addr} {qs qs' : Qs} {fs fs' : List (Str × Int)} {p p' : Int} {i i' : Nat}
theorem LS.ex1 (W : LS K H0 H N h b Qa Fa as qs fs p i) (e : Ex H H2) : LS K H0 H2 N h b Qa Fa as qs fs p i :=
  { W with gen := W.gen.ex e, q := W.q.ex e, f := W.f.e e, ex := W.ex.ex e }
theorem LS.dr (W : LS K H0 H N h b Qa Fa as qs fs p i) (n : Nw H0 h b Qa Fa as) (g : Gen H2 h b) (e : Ex2 h b H H2) : LS K H0 H2 N h b Qa Fa as qs fs p i :=
  { W with gen := g, q := W.q.ex2 e ⟨n.g.na n.q, n.g.nb n.q⟩ (fun a ha => ⟨n.g.na (n.a a ha), n.g.nb (n.a a ha)⟩), f := W.f.tx (W.gen.tx e) (fun o ho => e _ _ ho (n.g.na n.f) (n.g.nb n.f)), ex := W.ex.trans e }
theorem LS.more (W : LS K H0 H N h b Qa Fa as qs fs p i) (hi : i ≤ i') : LS K H0 H N h b Qa Fa as qs fs p i' := { W with le := by have := W.le; omega }
/-- the queues and the list of who finished are others now -/
theorem LS.put (W : LS K H0 H N h b Qa Fa as qs fs p i) (n : Nw H0 h b Qa Fa as) (e : Ex3 as Fa H H2) (q2 : QsAt K H2 Qa as qs') (f2 : FinAt K H2 Fa fs') (sh : Short N qs') (nd : qs'.flatten.Nodup) (rg : ∀ x ∈ qs'.flatten, 1 ≤ x ∧ x < p') (pos : 1 ≤ p') (le : fs'.length + qs'.flatten.length ≤ i') :
    LS K H0 H2 N h b Qa Fa as qs' fs' p' i' := by
  have no : ∀ x o, H0 x = some o → x ≠ Fa ∧ x ∉ as := fun x o hx => ⟨ne_of_none hx n.f, fun z => ne_of_none hx (n.a x z) rfl⟩
  obtain ⟨m, c, ns, g1, g2, g3⟩ := n.g
  obtain ⟨m2, c2, ns2, k1, k2, k3⟩ := W.gen
  refine ⟨⟨m2, c2, ns2, e _ _ k1 (no _ _ g1).1 (no _ _ g1).2, e _ _ k2 (no _ _ g2).1 (no _ _ g2).2, k3⟩, q2, f2, sh, nd, rg, pos, le, fun x o hx ha hb => e _ _ (W.ex x o hx ha hb) (no _ _ hx).1 (no _ _ hx).2⟩
end
theorem MeetsSeq_idx {k n : Nat} (h : k < n) : seqIndex? (k : Int) n = some k := by
  unfold seqIndex?
  have h1 : ¬ (k : Int) < 0 := by omega
  rw [if_neg h1]
  have h2 : (decide (0 ≤ (k : Int)) && decide ((k : Int) < (n : Int))) = true := by
    rw [Bool.and_eq_true, decide_eq_true_eq, decide_eq_true_eq]; omega
  show (if (decide (0 ≤ (k : Int)) && decide ((k : Int) < (n : Int))) = true then some ((k : Int)).toNat else none) = some k
  rw [if_pos h2]
  rfl
theorem eraseIdx_mapV : ∀ {l : List Int} {k : Nat}, (l.map V.int).eraseIdx k = (l.eraseIdx k).map V.int
  | [], _ => by simp
  | a :: r, 0 => rfl
  | a :: r, k + 1 => by
    show V.int a :: (r.map V.int).eraseIdx k = V.int a :: (r.eraseIdx k).map V.int
    rw [eraseIdx_mapV]
theorem sub_of_pm {a b c : List Int} (h : (a ++ b).Perm c) : (c.Nodup → a.Nodup) ∧ ∀ x ∈ a, x ∈ c :=
  ⟨fun n => (List.nodup_append.mp (h.nodup_iff.mpr n)).1, fun x hx => h.mem_iff.mp (List.mem_append_left _ hx)⟩
/-- a passenger put into a queue, or an arrival -/
def tThird (K : PySem.W.Frag) : TS := tIfS (tAnd (tTest (tOp (rEqU K) (tVar 8) (tC (V.int 2)))) (tTest (tOp rLtU (tOp (rAddU K) (tCB (rLenU K) (tCons (tOp (rIx K) (tVar 4) (tVar 3)) tNil)) (tC (V.int 1))) (tCB (rLenU K) (tCons (tOp (rIx K) (tVar 1) (tVar 3)) tNil)))))
    (tSeq (tDrop (tBM K "list" rAppend (tOp (rIx K) (tVar 4) (tVar 3)) (tCons (tVar 5) tNil))) (tAsg (tOp (rAddU K) (tVar 5) (tC (V.int 1))) (gName 5)))
    (tSeq (tDrop (tCall (spJoinL K 8) [] E0 (tCons (tVar 1) (tCons (tVar 4) (tCons (tC (V.int 0)) (tCons (tVar 5) (tCons (tVar 6) tNil))))))) (tAsg (tOp (rAddU K) (tVar 5) (tC (V.int 1))) (gName 5)))
def tSecond (K : PySem.W.Frag) : TS := tIfS (tAnd (tTest (tOp (rEqU K) (tVar 8) (tC (V.int 1)))) (tTest (tOp (rNeU K) (tOp (rIx K) (tVar 4) (tVar 3)) (tLst tNil))))
    (tDrop (tBM K "list" rPopAt (tOp (rIx K) (tVar 4) (tVar 3)) (tCons (tCall spNext [] E0 (tCons (tVar 0) (tCons (tCB (rLenU K) (tCons (tOp (rIx K) (tVar 4) (tVar 3)) tNil)) tNil))) tNil))) (tThird K)
def tFirst (K : PySem.W.Frag) : TS := tIfS (tAnd (tTest (tOp (rEqU K) (tVar 8) (tC (V.int 0)))) (tTest (tOp (rNeU K) (tOp (rIx K) (tVar 4) (tVar 3)) (tLst tNil))))
    (tDrop (tCall (spDepartL K 8) [] E0 (tCons (tVar 1) (tCons (tVar 4) (tCons (tVar 3) (tCons (tVar 6) tNil)))))) (tSecond K)
section
variable {K : PySem.W.Frag} {H0 H : Hp} {N : Net} {h b Qa Fa vn : Addr} {us : List V} {as : List Addr} {qs : Qs} {fs : List (Str × Int)} {p most kd : Int} {i st : Nat} {u7 u9 : Option V} {D : Ends}
theorem LS.total (W : LS K H0 H N h b Qa Fa as qs fs p i) : qs.length = N.length := W.sh.len
theorem state_third (hJ : JN N) (hD8 : N.length ≤ 8) (h0 : 1 ≤ N.length) (hU : SqT K H0 vn us) (hus : DpAll K H0 us (N.map stD)) (n : Nw H0 h b Qa Fa as) (hst : st < N.length) (hi : i ≤ 1000) (W : LS K H0 H N h b Qa Fa as qs fs p i) (nx : ∀ p' qs' fs' H1, LS K H0 H1 N h b Qa Fa as qs' fs' p' (i + 1) → D.nx [some (.ref h), some (.ref vn), some (.int most), some (.int (st : Nat)), some (.ref Qa), some (.int p'), some (.ref Fa), u7, some (.int kd), u9] H1) : tThird K D [some (.ref h), some (.ref vn), some (.int most), some (.int (st : Nat)), some (.ref Qa), some (.int p), some (.ref Fa), u7, some (.int kd), u9] H := by
  have t := n.g.tx W.ex
  have hsq : st < qs.length := by rw [W.total]; exact hst
  have hle := W.le
  have join : spJoinL K 8 [.ref vn, .ref Qa, .int 0, .int p, .ref Fa] H (fun _ H1 => D.nx [some (.ref h), some (.ref vn), some (.int most), some (.int (st : Nat)), some (.ref Qa), some (.int (p + 1)), some (.ref Fa), u7, some (.int kd), u9] H1) E0 := by
    have h0q : 0 < qs.length := by rw [W.total]; omega
    obtain ⟨jl, jp⟩ := joinW_pm (departW_pm hJ.fw 8) (p := p) h0q W.total
    obtain ⟨j1, _⟩ := joinW_ok (fun k hk => (hJ.st k hk).1) (departW_ok (fun k hk => (hJ.st k hk).1) hJ.fw 8) (p := p) W.sh (j := 0) (by omega) (by omega)
    have hlen := jp.length_eq
    rw [List.length_append, List.length_append, List.length_map, show [p].length = 1 from rfl] at hlen
    have hsub := sub_of_pm jp
    refine ⟨_, N, Qa, Fa, as, qs, fs, 0, p, rfl, .tup (t.t hU) (DpAll.tx t hus (netD_t N).all), hJ, W.q, W.f, n.fq, n.fa, W.sh, by omega, by omega, by omega, fun H1 e1 q1 f1 => nx _ _ _ _ (W.put n e1 q1 f1 j1 ?_ ?_ (by have := W.pos; omega) ?_)⟩
    · refine hsub.1 ?_
      rw [List.nodup_append]
      refine ⟨W.nd, by simp, fun a ha b hb e => ?_⟩
      rw [List.mem_singleton.mp hb] at e
      have := (W.rg a ha).2
      omega
    · intro x hx
      rcases List.mem_append.mp (hsub.2 x hx) with h | h
      · have := W.rg x h; omega
      · rw [List.mem_singleton.mp h]; have := W.pos; omega
    · rw [List.length_append]
      omega
  unfold tThird
  walk_at "run"
  by_cases h2 : kd = 2
  · rw [if_pos h2]
    obtain ⟨a, ha, hHa, ham⟩ := W.q.get hsq
    have haj : (as.map V.ref)[st]? = some (.ref a) := by simp [ha]
    obtain ⟨sv, hsv, hsd⟩ := hus.get (show (N.map stD)[st]? = some (stD (N.getD st [])) by simp [List.getD_eq_getElem?_getD, hst])
    obtain ⟨bs, rfl, hbs⟩ := StAt.at hsd
    obtain ⟨h1s, h8s⟩ := hJ.st st hst
    refine x_ixL (SqL.of W.q.at_) (atI_nat haj) (x_lenL (SqL.of hHa) ?_)
    walk_at "run"
    refine x_ixT (t.t hU) (atI_nat hsv) (x_lenT (t.t hbs) ?_)
    rw [List.length_map, List.length_map]
    walk_at "run"
    by_cases hlt : (qs.getD st []).length + 1 < (N.getD st []).length
    · rw [if_pos (by omega)]
      refine x_ixL (SqL.of W.q.at_) (atI_nat haj) ⟨x_tyL (SqL.of hHa), x_append hHa (by rw [List.length_map]; omega) fun H1 e1 h1 => ?_⟩
      have hQ1 : QsAt K H1 Qa as (qs.set st (qs.getD st [] ++ [p])) := W.q.set ha e1 (by rw [h1, List.map_append]; rfl)
      have hFa : a ≠ Fa := fun z => n.fa (by rw [← z]; exact ham)
      have hpm := set_perm (p := p) hsq
      have hlen := hpm.length_eq
      rw [List.length_append, show [p].length = 1 from rfl] at hlen
      refine nx _ _ _ _ (W.put n (fun x o hx h1 h2 => e1 x o (fun z => h2 (by rw [z]; exact ham)) hx) hQ1 (W.f.tx (TX.but hHa e1) fun o ho => e1 _ _ hFa.symm ho) ⟨by rw [List.length_set]; exact W.total, fun k hk => ?_⟩ ?_ (fun x hx => ?_) (by have := W.pos; omega) (by omega))
      · rw [getD_set' hsq]
        split
        · rename_i e; subst e; rw [List.length_append, show [p].length = 1 from rfl]; exact hlt
        · exact W.sh.lt k hk
      · rw [hpm.nodup_iff, List.nodup_append]
        refine ⟨W.nd, by simp, fun a ha b hb e => ?_⟩
        rw [List.mem_singleton.mp hb] at e
        have := (W.rg a ha).2
        omega
      · rcases List.mem_append.mp (hpm.mem_iff.mp hx) with h | h
        · have := W.rg x h; omega
        · rw [List.mem_singleton.mp h]; have := W.pos; omega
    · rw [if_neg (by omega)]
      exact join
  · rw [if_neg h2, if_neg Bool.false_ne_true]
    exact join
theorem state_second (hJ : JN N) (hD8 : N.length ≤ 8) (h0 : 1 ≤ N.length) (hU : SqT K H0 vn us) (hus : DpAll K H0 us (N.map stD)) (n : Nw H0 h b Qa Fa as) (hst : st < N.length) (hi : i ≤ 1000) (W : LS K H0 H N h b Qa Fa as qs fs p i) (nx : ∀ p' qs' fs' H1, LS K H0 H1 N h b Qa Fa as qs' fs' p' (i + 1) → D.nx [some (.ref h), some (.ref vn), some (.int most), some (.int (st : Nat)), some (.ref Qa), some (.int p'), some (.ref Fa), u7, some (.int kd), u9] H1) : tSecond K D [some (.ref h), some (.ref vn), some (.int most), some (.int (st : Nat)), some (.ref Qa), some (.int p), some (.ref Fa), u7, some (.int kd), u9] H := by
  have t := n.g.tx W.ex
  have hsq : st < qs.length := by rw [W.total]; exact hst
  have hle := W.le
  unfold tSecond
  walk_at "run"
  by_cases h1 : kd = 1
  · rw [if_pos h1]
    obtain ⟨a, ha, hHa, ham⟩ := W.q.get hsq
    have haj : (as.map V.ref)[st]? = some (.ref a) := by simp [ha]
    refine x_ixL (SqL.of W.q.at_) (atI_nat haj) (x_neEmpty hHa fun H1 e1 => ⟨_, rfl, ?_⟩)
    have W1 := W.ex1 e1
    by_cases hq : qs.getD st [] = []
    · rw [if_neg (by rw [decide_eq_true hq]; decide)]
      exact state_third hJ hD8 h0 hU hus n hst hi W1 nx
    · rw [if_pos (by rw [decide_eq_false hq]; rfl)]
      have hql : 0 < (qs.getD st []).length := List.length_pos_iff.mpr hq
      obtain ⟨_, h8s⟩ := hJ.st st hst
      have hlt := W.sh.lt st hst
      refine x_ixL (SqL.of W1.q.at_) (atI_nat haj) ⟨x_tyL (SqL.of (e1 _ _ hHa)), x_ixL (SqL.of W1.q.at_) (atI_nat haj) (x_lenL (SqL.of (e1 _ _ hHa)) ?_)⟩
      rw [List.length_map]
      refine x_next W1.gen (by omega) (by omega) fun r H2 r0 r1 g2 e2 => ?_
      have W2 := W1.dr n g2 e2
      obtain ⟨k, rfl⟩ : ∃ k : Nat, r = (k : Int) := ⟨r.toNat, by omega⟩
      have hk : k < (qs.getD st []).length := by omega
      have hHa2 := W2.q.q st a ha
      refine ⟨a, _, (k : Int), k, .int ((qs.getD st [])[k]), rfl, rfl, hHa2, by omega, by omega, by rw [List.length_map]; exact MeetsSeq_idx hk, by rw [List.getElem?_map, List.getElem?_eq_getElem hk]; rfl, ?_⟩
      generalize hH3 : upd H2 a (.lst (((qs.getD st []).map V.int).eraseIdx k)) = H3
      have e3 : ∀ x o, x ≠ a → H2 x = some o → H3 x = some o := fun x o hx h => by rw [← hH3, upd_ne hx]; exact h
      have h3 : H3 a = some (.lst (((qs.getD st []).eraseIdx k).map V.int)) := by rw [← hH3, upd_same, eraseIdx_mapV]
      have hQ3 : QsAt K H3 Qa as (qs.set st ((qs.getD st []).eraseIdx k)) := W2.q.set ha e3 h3
      have hFa : a ≠ Fa := fun z => n.fa (by rw [← z]; exact ham)
      obtain ⟨u, v, k1, k2⟩ := flat_set (y := (qs.getD st []).eraseIdx k) (getD_some hsq)
      have hsl : (qs.set st ((qs.getD st []).eraseIdx k)).flatten.Sublist qs.flatten := by
        rw [k1, k2]
        exact ((List.Sublist.refl u).append (List.eraseIdx_sublist ..)).append (List.Sublist.refl v)
      refine nx _ _ _ _ (W2.put n (fun x o hx h1 h2 => e3 x o (fun z => h2 (by rw [z]; exact ham)) hx) hQ3 (W2.f.tx (TX.but hHa2 e3) fun o ho => e3 _ _ hFa.symm ho) ⟨by rw [List.length_set]; exact W.total, fun j hj => ?_⟩ (W.nd.sublist hsl) (fun x hx => W.rg x (hsl.subset hx)) W.pos (by have := hsl.length_le; omega))
      rw [getD_set' hsq]
      split
      · rename_i e; subst e
        have := (List.eraseIdx_sublist (qs.getD j []) k).length_le
        omega
      · exact W.sh.lt j hj
  · rw [if_neg h1, if_neg Bool.false_ne_true]
    exact state_third hJ hD8 h0 hU hus n hst hi W nx
theorem state_first (hJ : JN N) (hD8 : N.length ≤ 8) (h0 : 1 ≤ N.length) (hU : SqT K H0 vn us) (hus : DpAll K H0 us (N.map stD)) (n : Nw H0 h b Qa Fa as) (hst : st < N.length) (hi : i ≤ 1000) (W : LS K H0 H N h b Qa Fa as qs fs p i) (nx : ∀ p' qs' fs' H1, LS K H0 H1 N h b Qa Fa as qs' fs' p' (i + 1) → D.nx [some (.ref h), some (.ref vn), some (.int most), some (.int (st : Nat)), some (.ref Qa), some (.int p'), some (.ref Fa), u7, some (.int kd), u9] H1) : tFirst K D [some (.ref h), some (.ref vn), some (.int most), some (.int (st : Nat)), some (.ref Qa), some (.int p), some (.ref Fa), u7, some (.int kd), u9] H := by
  have t := n.g.tx W.ex
  have hsq : st < qs.length := by rw [W.total]; exact hst
  have hle := W.le
  unfold tFirst
  walk_at "run"
  by_cases h1 : kd = 0
  · rw [if_pos h1]
    obtain ⟨a, ha, hHa, ham⟩ := W.q.get hsq
    have haj : (as.map V.ref)[st]? = some (.ref a) := by simp [ha]
    refine x_ixL (SqL.of W.q.at_) (atI_nat haj) (x_neEmpty hHa fun H1 e1 => ⟨_, rfl, ?_⟩)
    have W1 := W.ex1 e1
    by_cases hq : qs.getD st [] = []
    · rw [if_neg (by rw [decide_eq_true hq]; decide)]
      exact state_second hJ hD8 h0 hU hus n hst hi W1 nx
    · rw [if_pos (by rw [decide_eq_false hq]; rfl)]
      have hlt := W.sh.lt st hst
      obtain ⟨dl, dp⟩ := departW_pm hJ.fw 8 qs st hsq W.total (by omega)
      obtain ⟨d1, _⟩ := departW_ok (fun k hk => (hJ.st k hk).1) hJ.fw 8 qs st (by omega) hst W.total (fun k hk _ => W.sh.lt k hk) (by omega) (hJ.st st hst).1
      have hlen := dp.length_eq
      rw [List.length_append, List.length_map] at hlen
      have hsub := sub_of_pm dp
      have t1 := n.g.tx W1.ex
      refine ⟨_, N, Qa, Fa, as, qs, fs, st, rfl, .tup (t1.t hU) (DpAll.tx t1 hus (netD_t N).all), hJ, W1.q, W1.f, n.fq, n.fa, W.total, fun k hk _ => W.sh.lt k hk, by omega, hst, by omega, by omega, fun H2 e2 q2 f2 => nx _ _ _ _ (W1.put n e2 q2 f2 d1 (hsub.1 W.nd) (fun x hx => W.rg x (hsub.2 x hx)) W.pos ?_)⟩
      rw [List.length_append]
      omega
  · rw [if_neg h1, if_neg Bool.false_ne_true]
    exact state_second hJ hD8 h0 hU hus n hst hi W nx
end
section
variable {P : Program} {w : World} {K : PySem.W.Frag} {mg : Str → Option Value} {base : Heap}
theorem ok_l_pair {f g : Addr} {fd gd : FuncData} (D_l_join : Df K mg "_law_join" s_l_join ["_law_network_here", "_law_queues", "_law_station", "_law_passenger", "_law_finished"] f fd) (T : Bt mg) (D_l_depart : Df K mg "_law_depart" s_l_depart ["_law_network_here", "_law_queues", "_law_station", "_law_finished"] g gd) : ∀ n : Nat,
    FnOk P w K mg base CX0 (2 * n) g gd ["_law_network_here", "_law_queues", "_law_station", "_law_finished"] (spDepartL K n) ∧ FnOk P w K mg base CX0 (2 * n + 1) f fd ["_law_network_here", "_law_queues", "_law_station", "_law_passenger", "_law_finished"] (spJoinL K n)
  | 0 => by
    have h0 : FnOk P w K mg base CX0 (2 * 0) g gd ["_law_network_here", "_law_queues", "_law_station", "_law_finished"] (spDepartL K 0) := FnOk.absurd fun vs H Q E ⟨_, _, _, _, _, _, _, _, _, _, _, _, _, _, _, _, _, _, h1, h2, _⟩ => by omega
    exact ⟨h0, ok_l_join D_l_join T D_l_depart h0⟩
  | n + 1 => by
    have h0 : FnOk P w K mg base CX0 (2 * (n + 1)) g gd ["_law_network_here", "_law_queues", "_law_station", "_law_finished"] (spDepartL K (n + 1)) := ok_l_depart D_l_depart T D_l_join (ok_l_pair D_l_join T D_l_depart n).2
    exact ⟨h0, ok_l_join D_l_join T D_l_depart h0⟩
abbrev s_l_state : Stmt := top 47
theorem sc_l_state : FnScope ["_law_h", "_law_network_here", "_law_most", "_law_station", "_law_queues", "_law_number", "_law_finished", "_law_k", "_law_kind", "_law_queue"] ["_law_h", "_law_network_here", "_law_most"] (defScope s_l_state) := ⟨rfl, rfl, rfl, by decide +kernel, rfl, by decide +kernel, by decide +kernel⟩
def spStateL (K : PySem.W.Frag) : Sp := fun vs H Q _ => ∃ (h b : Addr) (v : V) (N : Net) (most : Int), vs = [.ref h, v, .int most] ∧ Gen H h b ∧ NetAt K H v N ∧ Drawn N 8 ∧ 1 ≤ most ∧ most ≤ 1000 ∧
  ∀ (u : V) (p : Int) (qs : Qs) (H' : Hp), StOk N p qs → Dp K H' u (stateD p qs) → Gen H' h b → Ex2 h b H H' → Q u H'
theorem ok_l_state {f f1 f2 f3 : Addr} {fd fd1 fd2 fd3 : FuncData} (D : Df K mg "_law_state" s_l_state ["_law_h", "_law_network_here", "_law_most"] f fd) (T : Bt mg) (D_l_next : Df K mg "_law_next" s_l_next ["_law_h", "_law_limit"] f1 fd1)
    (D_l_join : Df K mg "_law_join" s_l_join ["_law_network_here", "_law_queues", "_law_station", "_law_passenger", "_law_finished"] f2 fd2) (D_l_depart : Df K mg "_law_depart" s_l_depart ["_law_network_here", "_law_queues", "_law_station", "_law_finished"] f3 fd3) : FnOk P w K mg base CX0 18 f fd ["_law_h", "_law_network_here", "_law_most"] (spStateL K) := by
  have G_l_next : FnOk P w K mg base CX0 1 f1 fd1 _ _ := ok_l_next D_l_next T
  have G_l_depart : FnOk P w K mg base CX0 16 f3 fd3 _ _ := (ok_l_pair D_l_join T D_l_depart 8).1
  have G_l_join : FnOk P w K mg base CX0 17 f2 fd2 _ _ := (ok_l_pair D_l_join T D_l_depart 8).2
  refine D.F.ok sc_l_state (fun vs H Q E h => ?_) (fun cdv A outer s H vs Q E hr h => ?_)
  · obtain ⟨a, b, v, N, most, rfl, _⟩ := h
    rfl
  · obtain ⟨h, b, v, N, most, rfl, g0, hN, hD, m0, m1, q⟩ := h
    have hu := hr.units
    refine ⟨_, (pss_cons (ps_par3 (i := 4) (j := 5) (l := 6) rfl sc_l_state.nd rfl rfl rfl (by decide) (by decide) (by decide) rfl rfl rfl (pa_cons (pe_lc (own := [("_law_station", 3)]) (g := gName 3) (tt := tYes) rfl sc_l_state.nd (pi_U (K := K) (pv 1)) (blkOk_by (own := [("_law_station", 3)]) (N := ["_law_h", "_law_network_here", "_law_most", "_law_station", "_law_queues", "_law_number", "_law_finished", "_law_k", "_law_kind", "_law_queue"]) (sc := defScope s_l_state) (by decide +kernel)) (fun _ _ _ _ _ => (pg_name (i := 3) sc_l_state.nd rfl (Or.inl rfl))) (fun _ _ _ _ _ => pts_nil) (fun _ _ _ _ _ => (pe_lst pa_nil))) (pa_cons (pe_op (op_addU (K := K)) pe_int (pe_call (G_l_next) (hr.mono (by decide)) rfl D_l_next.g D_l_next.F.kp D_l_next.b .nil pass0 (pa_cons (pv 0) (pa_cons pe_int pa_nil)))) (pa_cons (pe_lst pa_nil) pa_nil))) (by rfl))
      (pss_cons (ps_for PassesOwn.never rfl (pi_range1 (by rfl) T.b_range (pa_cons (pe_call (G_l_next) (hr.mono (by decide)) rfl D_l_next.g D_l_next.F.kp D_l_next.b .nil pass0 (pa_cons (pv 0) (pa_cons (pv 2) pa_nil))) pa_nil)) (pg_name (i := 7) sc_l_state.nd rfl (Or.inl rfl)) (pss_cons (ps_par (i := 8) (j := 3) (by rfl) sc_l_state.nd rfl rfl (by decide) rfl rfl (pa_cons (pe_call (G_l_next) (hr.mono (by decide)) rfl D_l_next.g D_l_next.F.kp D_l_next.b .nil pass0 (pa_cons (pv 0) (pa_cons pe_int pa_nil))) (pa_cons (pe_call (G_l_next) (hr.mono (by decide)) rfl D_l_next.g D_l_next.F.kp D_l_next.b .nil pass0 (pa_cons (pv 0) (pa_cons (pe_callB (call_lenU (K := K)) (by rfl) T.b_len (by decide +kernel) (pa_cons (pv 1) pa_nil)) pa_nil))) pa_nil)) (by rfl))
      (pss_one (ps_if (PW.pt (pw_and (pt_cmpR (op_eqU (K := K) hu) (pv 8) pe_int (nomark _)) (pw_and1 (pt_cmpR (op_neU (K := K) hu) (pe_ix (ix_U (K := K)) (pv 4) (pv 3) (fun _ _ => rfl)) (pe_lst pa_nil) (nomark _))))) (pss_one (ps_expr (pe_call (G_l_depart) (hr.mono (by decide)) rfl D_l_depart.g D_l_depart.F.kp D_l_depart.b .nil pass0 (pa_cons (pv 1) (pa_cons (pv 4) (pa_cons (pv 3) (pa_cons (pv 6) pa_nil))))))) (pss_one (ps_if (PW.pt (pw_and (pt_cmpR (op_eqU (K := K) hu) (pv 8) pe_int (nomark _)) (pw_and1 (pt_cmpR (op_neU (K := K) hu) (pe_ix (ix_U (K := K)) (pv 4) (pv 3) (fun _ _ => rfl)) (pe_lst pa_nil) (nomark _))))) (pss_one (ps_expr (pe_bm PySem.F.plainAttrs_list PySem.F.slot_list_pop PySem.F.type_list_pop mt_popAt (pe_ix (ix_U (K := K)) (pv 4) (pv 3) (fun _ _ => rfl)) (pa_cons (pe_call (G_l_next) (hr.mono (by decide)) rfl D_l_next.g D_l_next.F.kp D_l_next.b .nil pass0 (pa_cons (pv 0) (pa_cons (pe_callB (call_lenU (K := K)) (by rfl) T.b_len (by decide +kernel) (pa_cons (pe_ix (ix_U (K := K)) (pv 4) (pv 3) (fun _ _ => rfl)) pa_nil)) pa_nil))) pa_nil)))) (pss_one (ps_if (PW.pt (pw_and (pt_cmpR (op_eqU (K := K) hu) (pv 8) pe_int (nomark _)) (pw_and1 (pt_cmpR (op_ltU) (pe_op (op_addU (K := K)) (pe_callB (call_lenU (K := K)) (by rfl) T.b_len (by decide +kernel) (pa_cons (pe_ix (ix_U (K := K)) (pv 4) (pv 3) (fun _ _ => rfl)) pa_nil)) pe_int) (pe_callB (call_lenU (K := K)) (by rfl) T.b_len (by decide +kernel) (pa_cons (pe_ix (ix_U (K := K)) (pv 1) (pv 3) (fun _ _ => rfl)) pa_nil)) (nomark _))))) (pss_cons (ps_expr (pe_bm PySem.F.plainAttrs_list PySem.F.slot_list_append PySem.F.type_list_append mt_append (pe_ix (ix_U (K := K)) (pv 4) (pv 3) (fun _ _ => rfl)) (pa_cons (pv 5) pa_nil)))
      (pss_one (ps_set (i := 5) sc_l_state.nd rfl (Or.inl rfl) (pe_op (op_addU (K := K)) (pv 5) pe_int)))) (pss_cons (ps_expr (pe_call (G_l_join) (hr.mono (by decide)) rfl D_l_join.g D_l_join.F.kp D_l_join.b .nil pass0 (pa_cons (pv 1) (pa_cons (pv 4) (pa_cons pe_int (pa_cons (pv 5) (pa_cons (pv 6) pa_nil)))))))
      (pss_one (ps_set (i := 5) sc_l_state.nd rfl (Or.inl rfl) (pe_op (op_addU (K := K)) (pv 5) pe_int))))))))))))
      (pss_one (ps_ret (pe_tup (pa_cons (pv 5) (pa_cons (pe_callTy (call_tupU (K := K)) (by rfl) T.b_tuple (by decide +kernel) (pa_cons (pe_lc (own := [("_law_queue", 9)]) (g := gName 9) (tt := tYes) rfl sc_l_state.nd (pi_U (K := K) (pv 4)) (blkOk_by (own := [("_law_queue", 9)]) (N := ["_law_h", "_law_network_here", "_law_most", "_law_station", "_law_queues", "_law_number", "_law_finished", "_law_k", "_law_kind", "_law_queue"]) (sc := defScope s_l_state) (by decide +kernel)) (fun _ _ _ _ _ => (pg_name (i := 9) sc_l_state.nd rfl (Or.inl rfl))) (fun _ _ _ _ _ => pts_nil) (fun _ _ _ _ _ => (pe_callTy (call_tupU (K := K)) (by rfl) T.b_tuple (by decide +kernel) (pa_cons (pv 9) pa_nil)))) pa_nil)) pa_nil))))))), ?_⟩
    walk_at "run"
    obtain ⟨vn, us, rfl, hU, hus⟩ := hN.at
    have hlu : us.length = N.length := by rw [hus.len, List.length_map]
    have hN1 := hD.pos
    have hN8 := hD.le
    have hJ : JN N := hD.jn (by decide)
    refine x_itT hU (lcl_it walk_tup (fun D i H' => ∃ as : List Addr, H' D = some (.lst (as.map V.ref)) ∧ as.length = i ∧ as.Nodup ∧ D ∉ as ∧ (∀ a ∈ as, H a = none ∧ H' a = some (.lst [])) ∧ Ex H H') (fun D H' hD e h => ⟨[], h, rfl, List.nodup_nil, by simp, by simp, e⟩) (fun D i H' _ ⟨_, _, _, _, _, _, e⟩ => ex_t e hU) ?_ ?_)
    · rintro D i x H2 H2' hDn hi ⟨as, hA, hl, nd, nm, has, e2⟩ ⟨eH, hx⟩
      subst eH
      walk_at "run"
      refine x_lst (by simp) fun t H3 nt e3 ht => x_push (e3 _ _ hA) (by rw [List.length_map]; omega) fun H4 e4 h4 => ?_
      have hDt : D ≠ t := ne_of_none hA nt
      have hta : t ∉ as := fun z => ne_of_none (has t z).2 nt rfl
      refine ⟨as ++ [t], by rw [h4, List.map_append]; rfl, by simp [hl], ?_, ?_, fun a ha => ?_, fun x o hx => e4 _ _ (ne_of_none hx hDn) (e3 _ _ (e2 _ _ hx))⟩
      · exact nd_snoc nd hta
      · simp [nm, hDt]
      · rcases List.mem_append.mp ha with ha | ha
        · exact ⟨(has a ha).1, e4 _ _ (fun z => nm (by rw [← z]; exact ha)) (e3 _ _ (has a ha).2)⟩
        · rw [List.mem_singleton.mp ha]
          exact ⟨fresh_back e2 nt, e4 _ _ hDt.symm ht⟩
    · rintro Qa H1 nQ ⟨as, hA, hl, nd, nm, has, e1⟩
      rw [hlu] at hl
      refine x_next (g0.ex e1) (by decide) (by decide) fun r H2 r0 r1 g2 e2 => ?_
      walk_at "run"
      refine x_lst (by simp) fun Fa H3 nF e3 hF3 => ⟨_, _, _, rfl, ?_⟩
      have nQh : Qa ≠ h ∧ Qa ≠ b := ⟨g0.na nQ, g0.nb nQ⟩
      have nah : ∀ a ∈ as, a ≠ h ∧ a ≠ b := fun a ha => ⟨g0.na (has a ha).1, g0.nb (has a ha).1⟩
      have hQ1 : QsAt K H1 Qa as (List.replicate N.length []) := ⟨hA, by rw [List.length_replicate]; exact hl, nd, nm, fun i a ha => by
        rw [(has a (List.mem_of_getElem? ha)).2, List.getD_eq_getElem?_getD]
        cases e : (List.replicate N.length ([] : List Int))[i]? with
        | none => rfl
        | some y => rw [List.eq_of_mem_replicate (List.mem_of_getElem? e)]; rfl⟩
      have hQ2 := (hQ1.ex2 e2 nQh nah).ex e3
      have ex3 : Ex2 h b H H3 := ((Ex2.of e1).trans e2).ex e3
      have hF0 : H Fa = none := fresh_back e1 (by
        cases e : H1 Fa with
        | none => rfl
        | some o =>
          by_cases z1 : Fa = h
          · obtain ⟨_, _, _, k1, _⟩ := g2
            rw [← z1, nF] at k1; cases k1
          · by_cases z2 : Fa = b
            · obtain ⟨_, _, _, _, k2, _⟩ := g2
              rw [← z2, nF] at k2; cases k2
            · have := e2 _ _ e z1 z2
              rw [nF] at this; cases this)
      have hQ2' := hQ1.ex2 e2 nQh nah
      have nw : Nw H h b Qa Fa as := ⟨g0, nQ, hF0, fun a ha => (has a ha).1, fun z => ne_of_none hQ2'.at_ nF z.symm, fun z => by
        obtain ⟨i, hi⟩ := List.mem_iff_getElem?.mp z
        exact ne_of_none (hQ2'.q i Fa hi) nF rfl⟩
      have flr : (List.replicate N.length ([] : List Int)).flatten = [] := by
        generalize N.length = n
        induction n with
        | zero => rfl
        | succ n ih => rw [List.replicate_succ, List.flatten_cons, ih]; rfl
      have W0 : LS K H H3 N h b Qa Fa as (List.replicate N.length []) [] (1 + r) 0 := ⟨g2.ex e3, hQ2, ⟨[], hF3, .nil⟩, ⟨List.length_replicate .., fun k hk => by
          have := (hJ.st k hk).1
          rw [List.getD_eq_getElem?_getD, List.getElem?_replicate, if_pos hk]
          show 0 < _
          omega⟩, by rw [flr]; exact List.nodup_nil, by rw [flr]; simp, by omega, by rw [flr]; simp, ex3⟩
      refine x_next W0.gen (by omega) (by omega) fun r2 H4 r20 r21 g4 e4 => ⟨_, rfl, by omega, by omega, ?_⟩
      refine loop_it walk_range (fun i σ H' => ∃ u3 u7 u8 u9 qs fs p, σ = [some (.ref h), some (.ref vn), some (.int most), u3, some (.ref Qa), some (.int p), some (.ref Fa), u7, u8, u9] ∧ LS K H H' N h b Qa Fa as qs fs p i) ⟨_, _, _, _, _, _, _, rfl, W0.dr nw g4 e4⟩ (fun _ _ _ _ _ => trivial) ?_ ?_
      · rintro i x σ H5 H5' hi ⟨u3, u7, u8, u9, qs, fs, p, rfl, W⟩ ⟨eH, rfl⟩
        subst eH
        have hi : i < 1000 := by omega
        show tSeq (tPar 8 3 _) (tFirst K) _ _ _
        walk_at "run"
        refine x_next W.gen (by decide) (by decide) fun kd H6 kd0 kd1 g6 e6 => ?_
        have W6 := W.dr nw g6 e6
        have t6 := nw.g.tx W6.ex
        refine x_lenT (t6.t hU) ?_
        rw [hlu]
        refine x_next W6.gen (by omega) (by omega) fun st H7 st0 st1 g7 e7 => ?_
        have W7 := W6.dr nw g7 e7
        obtain ⟨st, rfl⟩ : ∃ k : Nat, st = (k : Int) := ⟨st.toNat, by omega⟩
        refine ⟨_, _, rfl, ?_⟩
        exact state_first hJ (by omega) hN1 hU hus nw (by omega) (by omega) W7 fun p' qs' fs' H1 W' => ⟨_, _, _, _, _, _, _, rfl, W'⟩
      · rintro σ H5 ⟨u3, u7, u8, u9, qs, fs, p, rfl, W⟩
        walk_at "run"
        have hal : (as.map V.ref).length = as.length := List.length_map ..
        refine x_itL (SqL.of W.q.at_) (lcl_it walk_list (fun D i H' => ∃ ts, H' D = some (.lst ts) ∧ DpAll K H' ts ((qs.take i).map qD) ∧ Ex H5 H') (fun D H' hD e hd => ⟨[], hd, by simpa using DpAll.nil, e⟩) (fun D i H' _ ⟨_, _, _, e⟩ => ex_l e (SqL.of W.q.at_)) ?_ ?_)
        · rintro D i x H6 H6' hDn hi ⟨ts, hd, hts, e6⟩ ⟨eH, hx⟩
          subst eH
          have hia : i < as.length := by rw [List.length_map] at hi; exact hi
          have hiq : i < qs.length := by rw [← W.q.len]; exact hia
          obtain ⟨a, ha, hHa, _⟩ := W.q.get hiq
          obtain rfl : x = .ref a := by
            have : (as.map V.ref)[i]? = some (.ref a) := by simp only [List.getElem?_map, ha]; rfl
            rw [hx] at this
            exact Option.some.inj this
          walk_at "run"
          refine x_tupL (SqL.of (e6 _ _ hHa)) fun t H7 nt e7 ht => ?_
          have htl := hts.len
          rw [List.length_map, List.length_take] at htl
          have hql : qs.length = N.length := W.sh.len
          refine x_push (e7 _ _ hd) (by omega) fun H8 e8 h8 => ⟨_, h8, ?_, fun x o hx => e8 _ _ (ne_of_none hx hDn) (e7 _ _ (e6 _ _ hx))⟩
          have hDt : D ≠ t := ne_of_none hd nt
          have t8 : TX H6' H8 := (TX.of e7).trans (TX.but (e7 _ _ hd) e8)
          have htk : qs.take (i + 1) = qs.take i ++ [qs.getD i []] := by rw [List.take_add_one, getD_some hiq]; rfl
          rw [htk, List.map_append]
          refine DpAll.append (DpAll.tx t8 hts fun d hd => ?_) (.cons (.tup (SqT.of (e8 _ _ hDt.symm ht)) (ints_dp _)) .nil)
          obtain ⟨y, _, rfl⟩ := List.mem_map.mp hd
          exact qD_t y
        · rintro D H6 hDn ⟨ts, hd, hts, e6⟩
          have hql : qs.length = N.length := W.sh.len
          have hlq : qs.take (as.map V.ref).length = qs := by rw [hal, W.q.len, List.take_length]
          rw [hlq] at hts
          refine x_tupL (SqL.of hd) fun t H7 nt e7 ht => x_tup (by simp) fun t2 H8 nt2 e8 ht2 => ?_
          have e58 := (e6.trans e7).trans e8
          refine q _ p qs H8 ⟨W.pos, hql, fun k q' s h1 h2 => ?_, W.nd, W.rg⟩ (.tup (SqT.of ht2) (.cons (.int p) (.cons (.tup (SqT.of (e8 _ _ ht)) (DpAll.ex (e7.trans e8) hts)) .nil))) (W.gen.ex e58) (W.ex.ex e58)
          have hk := (List.getElem?_eq_some_iff.mp h2).1
          have := W.sh.lt k hk
          rw [List.getD_eq_getElem?_getD, h1, List.getD_eq_getElem?_getD, h2] at this
          exact this
end
end K
set_option Elab.async false
set_option linter.all false
set_option maxRecDepth 100000
set_option maxHeartbeats 4000000
namespace K
open PySem PySem.Spec PyProof.Rows L2 Evl FB
local macro_rules | `(tactic| walk_at "run") => `(tactic| try simp only [tSeq, tAsg, tVar, tC, gName, L2.start, List.map_cons, List.map_nil, List.cons_append, List.nil_append, List.length_cons, List.length_nil, List.replicate, List.getElem?_cons_zero, List.getElem?_cons_succ, Option.some.injEq, exists_eq_left', List.set_cons_zero, List.set_cons_succ, V.ref.injEq, tRet, x_tLst, x_tTup, tCons, tCB, tNil, tOp, x_addI, x_mulI, x_rI, x_rI0, x_ltI, x_leI, x_ltS, x_leS, x_eqI, x_neI, x_eqS, x_eqB, x_neB, x_isiI, x_isiS, x_int, x_max, x_min, cxOf, tIfS, tNext, tTest, V.bl.injEq, decide_eq_true_eq, gSub, tAnd, tOr, tNot, tB, tDrop, tBM, x_tFor, iRng1, iList, iTup, x_tLc, tYes, tCall, tIf, tAndV, tOrV, tNotV, tChain, List.append_nil, tUn, if_true, wipe, true_and, x_never, iU, x_itS, kV, Nat.reduceAdd, Nat.reduceSub, List.replicate_zero, x_rU, x_tMkO, iEnumT, x_tDc, x_tDGet, x_tDGet2, x_sDPut, x_tDSetd, x_tDNewK, x_iItems, x_iZip, x_tSAddK, x_tLockV, x_tTupRg, x_tRg2, tPar, tPar3, tBM0])
section
variable {P : Program} {w : World} {K : PySem.W.Frag} {mg : Str → Option Value} {base : Heap} {α : Type} [Inhabited α] {pd : α → PyData}
abbrev s_join_queue : Stmt := top 29
theorem sc_join_queue : FnScope ["network", "queues", "station", "passenger", "events"] ["network", "queues", "station", "passenger", "events"] (defScope s_join_queue) := ⟨rfl, rfl, rfl, by decide +kernel, rfl, by decide +kernel, by decide +kernel⟩
abbrev s_depart : Stmt := top 30
theorem sc_depart : FnScope ["network", "queues", "station", "events", "passengers", "place", "passenger"] ["network", "queues", "station", "events"] (defScope s_depart) := ⟨rfl, rfl, rfl, by decide +kernel, rfl, by decide +kernel, by decide +kernel⟩
/-- a passenger joins a queue of the package -/
def spJoinP (K : PySem.W.Frag) (pd : α → PyData) (f : Nat) : Sp := fun vs H Q _ => ∃ (v x : V) (N : Net) (Qa Ea : Addr) (qs : QsA α) (es : EvsA α) (j : Nat) (p : α), vs = [v, .ref Qa, .int (j : Int), x, .ref Ea] ∧ NetAt K H v N ∧ JN N ∧ Dp K H x (pd p) ∧ QtAt K H Qa pd qs ∧ EvAt K H Ea pd es ∧ Qa ≠ Ea ∧
  Short N qs ∧ j < N.length ∧ N.length ≤ j + f ∧ es.length + (wayW N.length 0 qs + 2 * (N.length - j)) ≤ 900000 ∧
  ∀ H', Ex2 Qa Ea H H' → QtAt K H' Qa pd (joinW N (departW N f) qs j p).1 → EvAt K H' Ea pd (es ++ (joinW N (departW N f) qs j p).2) → Q .non H'
def spDepartP (K : PySem.W.Frag) (pd : α → PyData) (f : Nat) : Sp := fun vs H Q _ => ∃ (v : V) (N : Net) (Qa Ea : Addr) (qs : QsA α) (es : EvsA α) (st : Nat), vs = [v, .ref Qa, .int (st : Int), .ref Ea] ∧ NetAt K H v N ∧ JN N ∧ QtAt K H Qa pd qs ∧ EvAt K H Ea pd es ∧ Qa ≠ Ea ∧
  qs.length = N.length ∧ (∀ k, k < N.length → k ≠ st → (qs.getD k []).length < (N.getD k []).length) ∧ (qs.getD st []).length ≤ (N.getD st []).length ∧ 1 ≤ (qs.getD st []).length ∧ st < N.length ∧ N.length ≤ st + f ∧ es.length + wayW N.length 0 qs ≤ 900000 ∧
  ∀ H', Ex2 Qa Ea H H' → QtAt K H' Qa pd (departW N f qs st).1 → EvAt K H' Ea pd (es ++ (departW N f qs st).2) → Q .non H'
theorem ok_join_queue (hp : PD pd) {f g : Addr} {fd gd : FuncData} {l n : Nat} (D : Df K mg "join_queue" s_join_queue ["network", "queues", "station", "passenger", "events"] f fd) (T : Bt mg) (D_depart : Df K mg "depart" s_depart ["network", "queues", "station", "events"] g gd)
    (G_depart : FnOk P w K mg base CX0 l g gd ["network", "queues", "station", "events"] (spDepartP K pd n)) : FnOk P w K mg base CX0 (l + 1) f fd ["network", "queues", "station", "passenger", "events"] (spJoinP K pd n) := by
  refine D.F.ok sc_join_queue (fun vs H Q E h => ?_) (fun cdv A outer s H vs Q E hr h => ?_)
  · obtain ⟨v, x, N, Qa, Ea, qs, es, j, p, rfl, _⟩ := h
    rfl
  · obtain ⟨v, x, N, Qa, Ea, qs, es, j, p, rfl, hN, hJ, hx, hQ, hE, hne, S, hj, hf, hb, q⟩ := h
    have hu := hr.units
    refine ⟨_, (pss_cons (ps_asg (pe_op (op_addU (K := K)) (pe_ix (ix_U (K := K)) (pv 1) (pv 2) (fun _ _ => rfl)) (pe_tup (pa_cons (pv 3) pa_nil))) (pg_sub (pv 1) (pv 2) set_list))
      (pss_one (ps_if (pt_cmpR (op_eqU (K := K) hu) (pe_callB (call_lenU (K := K)) (by rfl) T.b_len (by decide +kernel) (pa_cons (pe_ix (ix_U (K := K)) (pv 1) (pv 2) (fun _ _ => rfl)) pa_nil)) (pe_callB (call_lenU (K := K)) (by rfl) T.b_len (by decide +kernel) (pa_cons (pe_ix (ix_U (K := K)) (pv 0) (pv 2) (fun _ _ => rfl)) pa_nil)) (nomark _)) (pss_one (ps_expr (pe_call (G_depart) hr rfl D_depart.g D_depart.F.kp D_depart.b .nil pass0 (pa_cons (pv 0) (pa_cons (pv 1) (pa_cons (pv 2) (pa_cons (pv 4) pa_nil))))))) pss_nil))), ?_⟩
    walk_at "run"
    have hjq : j < qs.length := by rw [S.len]; exact hj
    obtain ⟨ts, b, vs, hQa, hts, htj, hbv, hvs⟩ := QtAt.get hQ hjq
    obtain ⟨vn, us, rfl, hU, hus⟩ := hN.at
    obtain ⟨h1s, h8s⟩ := hJ.st j hj
    have hlt := S.lt j hj
    have hvl : vs.length = (qs.getD j []).length := by rw [hvs.len, List.length_map]
    have htl : ts.length = qs.length := by rw [hts.len, List.length_map]
    refine x_ixL (SqL.of hQa) (atI_nat htj) (x_tup (by simp) fun t1 H1 nt1 e1 h1 => ?_)
    refine x_catT (ex_t e1 hbv) (SqT.of h1) (by simp; omega) fun t2 H2 e2 h2 => ?_
    walk_at "run"
    have hix : ixN ts.length (j : Int) = some j := by unfold ixN; rw [if_pos (by omega), if_pos (by omega)]; simp
    refine x_setL (e2 _ _ (e1 _ _ hQa)) hix fun H3 e3 h3 => ?_
    have e12 : Ex H H2 := fun x o h => e2 _ _ (e1 _ _ h)
    have t3 : TX H H3 := (TX.of e12).trans (TX.but (e2 _ _ (e1 _ _ hQa)) e3)
    have hQ3 : QtAt K H3 Qa pd (qs.set j (qs.getD j [] ++ [p])) := ⟨⟨_, h3, by
      rw [List.map_set]
      refine DpAll.set (DpAll.tx t3 hts (qs_t hp)) ?_
      unfold qA
      rw [List.map_append]
      refine .tup ((TX.but (e2 _ _ (e1 _ _ hQa)) e3).t h2) ?_
      refine DpAll.append (DpAll.tx t3 hvs fun d hd => ?_) (.cons (Dp.tx t3 hx (hp.t p)) .nil)
      obtain ⟨y, _, rfl⟩ := List.mem_map.mp hd
      exact hp.t y⟩⟩
    have hE3 : EvAt K H3 Ea pd es := hE.tx (es_t hp) t3 fun o h => e3 _ _ hne.symm (e12 _ _ h)
    have ex3 : Ex2 Qa Ea H H3 := fun x o h h1 _ => e3 _ _ h1 (e12 _ _ h)
    have htj3 : (ts.set j (.ref t2))[j]? = some (.ref t2) := by rw [List.getElem?_set_self (by omega)]
    refine x_ixL (SqL.of h3) (atI_nat htj3) (x_lenT ((TX.but (e2 _ _ (e1 _ _ hQa)) e3).t h2) ?_)
    obtain ⟨sv, hsv, hsd⟩ := hus.get (show (N.map stD)[j]? = some (stD (N.getD j [])) by simp [List.getD_eq_getElem?_getD, hj])
    obtain ⟨c, rfl, hcs⟩ := StAt.at hsd
    refine x_ixT (t3.t hU) (atI_nat hsv) (x_lenT (t3.t hcs) ?_)
    rw [List.length_map, List.length_append, show [x].length = 1 from rfl]
    walk_at "run"
    have hlen : (qs.getD j [] ++ [p]).length = (qs.getD j []).length + 1 := by simp
    by_cases e : (qs.getD j [] ++ [p]).length = (N.getD j []).length
    · rw [if_pos (by omega)]
      have hjw : joinW N (departW N n) qs j p = departW N n (qs.set j (qs.getD j [] ++ [p])) j := by unfold joinW; rw [if_pos e]
      rw [hjw] at q
      have hw := wayW_set (n := N.length) (qs := qs) (k := 0) (j := j) (q := qs.getD j [] ++ [p]) hjq
      rw [List.length_append, show [p].length = 1 from rfl, Nat.add_mul, Nat.zero_add, Nat.one_mul] at hw
      refine ⟨_, N, Qa, Ea, _, es, j, rfl, hN.tx t3, hJ, hQ3, hE3, hne, by rw [List.length_set]; exact S.len, fun k hk hn => by rw [getD_set' hjq, if_neg hn]; exact S.lt k hk, by rw [getD_set' hjq, if_pos rfl]; omega, by rw [getD_set' hjq, if_pos rfl]; simp, hj, hf, by omega, fun H4 ex4 hQ4 hE4 => ?_⟩
      exact q H4 (fun x o h h1 h2 => ex4 x o (ex3 x o h h1 h2) h1 h2) hQ4 hE4
    · rw [if_neg (by omega)]
      have hjw : joinW N (departW N n) qs j p = (qs.set j (qs.getD j [] ++ [p]), []) := by unfold joinW; rw [if_neg e]
      rw [hjw] at q
      exact q H3 ex3 hQ3 (by simpa using hE3)
theorem ok_depart (hp : PD pd) {f g : Addr} {fd gd : FuncData} {l n : Nat} (D : Df K mg "depart" s_depart ["network", "queues", "station", "events"] f fd) (T : Bt mg) (D_join_queue : Df K mg "join_queue" s_join_queue ["network", "queues", "station", "passenger", "events"] g gd)
    (G_join_queue : FnOk P w K mg base CX0 l g gd ["network", "queues", "station", "passenger", "events"] (spJoinP K pd n)) : FnOk P w K mg base CX0 (l + 1) f fd ["network", "queues", "station", "events"] (spDepartP K pd (n + 1)) := by
  refine D.F.ok sc_depart (fun vs H Q E h => ?_) (fun cdv A outer s H vs Q E hr h => ?_)
  · obtain ⟨v, N, Qa, Ea, qs, es, st, rfl, _⟩ := h
    rfl
  · obtain ⟨v, N, Qa, Ea, qs, es, st, rfl, hN, hJ, hQ, hE, hne, hl, hsh, hle, h1q, hst, hf, hb, q⟩ := h
    have hu := hr.units
    refine ⟨_, (pss_cons (ps_set (i := 4) sc_depart.nd rfl (Or.inl rfl) (pe_ix (ix_U (K := K)) (pv 1) (pv 2) (fun _ _ => rfl)))
      (pss_cons (ps_asg (pe_tup pa_nil) (pg_sub (pv 1) (pv 2) set_list))
      (pss_cons (ps_expr (pe_bm PySem.F.plainAttrs_list PySem.F.slot_list_append PySem.F.type_list_append mt_append (pv 3) (pa_cons (pe_tup (pa_cons (pv 2) (pa_cons (pv 4) pa_nil))) pa_nil)))
      (pss_one (ps_for PassesOwn.never rfl (RZ.pi_zipA (by rfl) T.b_zip (pa_cons (pe_ix (ix_U (K := K)) (pv 0) (pv 2) (fun _ _ => rfl)) (pa_cons (pv 4) pa_nil))) (pg_tup rfl (pgs_cons (pg_name (i := 5) sc_depart.nd rfl (Or.inl rfl)) (pgs_cons (pg_name (i := 6) sc_depart.nd rfl (Or.inl rfl)) pgs_nil))) (pss_one (ps_if (pt_val (pe_callB (call_isiU (K := K)) (by rfl) T.b_isinstance (by decide +kernel) (pa_cons (pv 5) (pa_cons (pe_bltn (v := .ty "str") (by rfl) T.b_str (by decide +kernel) rfl) pa_nil)))) (pss_one (ps_expr (pe_bm PySem.F.plainAttrs_list PySem.F.slot_list_append PySem.F.type_list_append mt_append (pv 3) (pa_cons (pe_tup (pa_cons (pv 5) (pa_cons (pe_tup (pa_cons (pv 6) pa_nil)) pa_nil))) pa_nil)))) (pss_one (ps_expr (pe_call (G_join_queue) hr rfl D_join_queue.g D_join_queue.F.kp D_join_queue.b .nil pass0 (pa_cons (pv 0) (pa_cons (pv 1) (pa_cons (pv 5) (pa_cons (pv 6) (pa_cons (pv 3) pa_nil))))))))))))))), ?_⟩
    walk_at "run"
    have hsq : st < qs.length := by omega
    obtain ⟨ts, b, vs, hQa, hts, htj, hbv, hvs⟩ := QtAt.get hQ hsq
    obtain ⟨vn, us, rfl, hU, hus⟩ := hN.at
    obtain ⟨h1s, h8s⟩ := hJ.st st hst
    have hvl : vs.length = (qs.getD st []).length := by rw [hvs.len, List.length_map]
    have htl : ts.length = qs.length := by rw [hts.len, List.length_map]
    have hix : ixN ts.length (st : Int) = some st := by unfold ixN; rw [if_pos (by omega), if_pos (by omega)]; simp
    refine x_ixL (SqL.of hQa) (atI_nat htj) (x_tup (by simp) fun t1 H1 nt1 e1 h1 => ?_)
    walk_at "run"
    refine x_setL (e1 _ _ hQa) hix fun H2 e2 h2 => ?_
    have t12 : TX H1 H2 := TX.but (e1 _ _ hQa) e2
    have t2 : TX H H2 := (TX.of e1).trans t12
    have hQ2 : QtAt K H2 Qa pd (qs.set st []) := ⟨⟨_, h2, by
      rw [List.map_set]
      exact DpAll.set (DpAll.tx t2 hts (qs_t hp)) (.tup (t12.t (SqT.of h1)) .nil)⟩⟩
    have hE2 : EvAt K H2 Ea pd es := hE.tx (es_t hp) t2 fun o h => e2 _ _ hne.symm (e1 _ _ h)
    have ex2 : Ex2 Qa Ea H H2 := fun x o h h1 _ => e2 _ _ h1 (e1 _ _ h)
    obtain ⟨eS, hEa, heS⟩ := hE2.ex
    have hel : eS.length = es.length := by rw [heS.len, List.length_map]
    refine ⟨x_tyL (SqL.of hEa), x_tup (by simp) fun t3 H3 nt3 e3 h3 => ?_⟩
    refine x_append (e3 _ _ hEa) (by omega) fun H4 e4 h4 => ?_
    have t24 : TX H2 H4 := (TX.of e3).trans (TX.but (e3 _ _ hEa) e4)
    have t4 : TX H H4 := t2.trans t24
    have hEt3 : Ea ≠ t3 := ne_of_none hEa nt3
    have hbq : Dp K H4 (.ref b) (qA pd (qs.getD st [])) := Dp.tx t4 (.tup hbv hvs) (qA_t hp _)
    have hE4 : EvAt K H4 Ea pd (es ++ [(.inl (st : Int), qs.getD st [])]) := ⟨⟨_, h4, by
      rw [List.map_append]
      refine DpAll.append (DpAll.tx t24 heS (es_t hp)) (.cons (.tup (SqT.of (e4 _ _ hEt3.symm h3)) (.cons (.int _) (.cons hbq .nil))) .nil)⟩⟩
    have hQ4 : QtAt K H4 Qa pd (qs.set st []) := hQ2.tx (qs_t hp) t24 fun o h => e4 _ _ hne (e3 _ _ h)
    have ex4 : Ex2 Qa Ea H H4 := fun x o h h1 h2 => e4 _ _ h2 (e3 _ _ (ex2 x o h h1 h2))
    obtain ⟨sv, hsv, hsd⟩ := hus.get (show (N.map stD)[st]? = some (stD (N.getD st [])) by simp [List.getD_eq_getElem?_getD, hst])
    obtain ⟨c, rfl, hcs⟩ := StAt.at hsd
    refine x_ixT (t4.t hU) (atI_nat hsv) (x_zipT (t4.t hcs) (t4.t hbv) ?_)
    have hw := wayW_set (n := N.length) (qs := qs) (k := 0) (j := st) (q := []) hsq
    rw [Nat.zero_add, List.length_nil, Nat.zero_mul] at hw
    have h1k : ∀ k, k < N.length → 1 ≤ (N.getD k []).length := fun k hk => (hJ.st k hk).1
    have S0 : Short N (qs.set st []) := ⟨by rw [List.length_set]; exact hl, fun k hk => by
      rw [getD_set' hsq]
      split
      · rename_i e; subst e; exact h1s
      · rename_i e; exact hsh k hk e⟩
    have hdep := departW_ok (α := α) h1k hJ.fw n
    have hway := departW_way (α := α) hJ.fw n
    have hzl : ((N.getD st []).zip (qs.getD st [])).length = (qs.getD st []).length := by rw [List.length_zip]; omega
    have hmem : ∀ i, ∀ m ∈ ((N.getD st []).zip (qs.getD st [])).take i, ∀ j : Int, m.1 = .inl j → (st : Int) < j ∧ j < N.length := fun i m hm j e =>
      hJ.fw st hst j (by rw [← e]; exact (List.of_mem_zip (List.mem_of_mem_take hm)).1)
    have hmn : min ((N.getD st []).map kV).length vs.length = (qs.getD st []).length := by rw [List.length_map]; omega
    refine loop_it walk_zipM (fun i σ H' => ∃ u5 u6, σ = [some (.ref vn), some (.ref Qa), some (.int (st : Int)), some (.ref Ea), some (.ref b), u5, u6] ∧ Ex2 Qa Ea H H' ∧ TX H4 H' ∧
      QtAt K H' Qa pd (moveW (α := α) N (departW N n) (((N.getD st []).zip (qs.getD st [])).take i) (qs.set st [])).1 ∧ EvAt K H' Ea pd ((es ++ [(.inl (st : Int), qs.getD st [])]) ++ (moveW (α := α) N (departW N n) (((N.getD st []).zip (qs.getD st [])).take i) (qs.set st [])).2)) ⟨_, _, rfl, ex4, TX.refl _, hQ4, by simpa [moveW] using hE4⟩
      (fun i σ H' _ ⟨_, _, _, _, t, _, _⟩ => ⟨(t4.trans t).t hcs, (t4.trans t).t hbv⟩) ?_ ?_
    · rintro i v σ H5 H6 hi ⟨u5, u6, rfl, ex5, t5, hQ5, hE5⟩ ⟨T0, x, y, rfl, hT0, rfl, hx, hy⟩
      rw [hmn] at hi
      have e6 : Ex H5 (upd H5 T0 (.tup [x, y])) := Ex.new hT0
      refine x_two (SqT.of upd_same) ?_
      generalize upd H5 T0 (.tup [x, y]) = H6 at e6
      have t6 : TX H4 H6 := t5.trans (TX.of e6)
      obtain ⟨S5, K5⟩ := moveW_ok h1k hdep (st := st) (by omega) (ms := ((N.getD st []).zip (qs.getD st [])).take i) (hmem i) S0
      obtain ⟨W5, L5⟩ := moveW_way (f := n) hway (st := st) (by omega) hst (ms := ((N.getD st []).zip (qs.getD st [])).take i) (qs := qs.set st []) (hmem i) (by rw [List.length_set]; exact hl)
      have hlen5 : (((N.getD st []).zip (qs.getD st [])).take i).length = i := by rw [List.length_take]; omega
      rw [hlen5] at W5
      obtain ⟨k, hk⟩ : ∃ k, (N.getD st [])[i]? = some k := ⟨(N.getD st [])[i]'(by omega), List.getElem?_eq_getElem (by omega)⟩
      obtain ⟨p, hp2⟩ : ∃ p, (qs.getD st [])[i]? = some p := ⟨(qs.getD st [])[i]'(by omega), List.getElem?_eq_getElem (by omega)⟩
      have hzi : ((N.getD st []).zip (qs.getD st []))[i]? = some (k, p) := by
        rw [List.getElem?_zip_eq_some]
        exact ⟨hk, hp2⟩
      have htk : ((N.getD st []).zip (qs.getD st [])).take (i + 1) = ((N.getD st []).zip (qs.getD st [])).take i ++ [(k, p)] := by rw [List.take_add_one, hzi]; rfl
      rw [htk, moveW_snoc]
      have hQ6 := hQ5.ex2 e6
      have hE6 := hE5.ex2 e6
      have ex6 : Ex2 Qa Ea H H6 := ex5.ex e6
      generalize moveW (α := α) N (departW N n) (((N.getD st []).zip (qs.getD st [])).take i) (qs.set st []) = R at hQ6 hE6 S5 K5 L5 W5
      obtain rfl : kV k = x := by
        change ((N.getD st []).map kV)[i]? = some x at hx
        have : ((N.getD st []).map kV)[i]? = some (kV k) := by simp only [List.getElem?_map, hk]; rfl
        rw [this] at hx
        exact Option.some.inj hx
      obtain ⟨dp, hdp, hyd⟩ := DpAll.get' (DpAll.tx t4 hvs fun d hd => by
        obtain ⟨y, _, rfl⟩ := List.mem_map.mp hd
        exact hp.t y) hy
      obtain rfl : pd p = dp := by
        have : ((qs.getD st []).map pd)[i]? = some (pd p) := by simp only [List.getElem?_map, hp2]; rfl
        rw [this] at hdp
        exact Option.some.inj hdp
      have hy6 : Dp K H6 y (pd p) := Dp.tx t6 hyd (hp.t p)
      have hiX : i * (2 * (N.length - st)) + 2 * (N.length - st) ≤ (qs.getD st []).length * (2 * (N.length - st)) := by
        have := Nat.mul_le_mul_right (2 * (N.length - st)) (show i + 1 ≤ (qs.getD st []).length by omega)
        rw [Nat.add_mul, Nat.one_mul] at this
        exact this
      walk_at "run"
      cases k with
      | inl j =>
        have hj := hJ.fw st hst j (List.mem_of_getElem? hk)
        obtain ⟨j', rfl⟩ : ∃ j' : Nat, j = (j' : Int) := ⟨j.toNat, by omega⟩
        walk_at "run"
        rw [if_neg Bool.false_ne_true]
        have hjo := move_one_l (N := N) (dep := departW N n) (j := (j' : Int)) (p := p) (qs := R.1)
        rw [Int.toNat_natCast] at hjo
        rw [hjo]
        refine ⟨_, y, N, Qa, Ea, R.1, _, j', p, rfl, hN.tx (t4.trans t6), hJ, hy6, hQ6, hE6, hne, S5, by omega, by omega, ?_, fun H7 ex7 hQ7 hE7 => ?_⟩
        · rw [List.length_append, List.length_append, List.length_singleton]; omega
        · refine ⟨_, _, rfl, fun x o h h1 h2 => ex7 x o (ex6 x o h h1 h2) h1 h2, t6.trans ?_, hQ7, ?_⟩
          · obtain ⟨_, a1, _⟩ := hQ6.ex
            obtain ⟨_, a2, _⟩ := hE6.ex
            exact TX.two a1 a2 ex7
          · rw [← List.append_assoc]
            exact hE7
      | inr z =>
        walk_at "run"
        obtain ⟨es6, hEa6, hes6⟩ := hE6.ex
        have hl6 : es6.length = es.length + 1 + R.2.length := by rw [hes6.len, List.length_map, List.length_append, List.length_append, List.length_singleton]
        refine ⟨x_tyL (SqL.of hEa6), x_tup (by simp) fun t7 H7 nt7 e7 h7 => x_tup (by simp) fun t8 H8 nt8 e8 h8 => ?_⟩
        refine x_append (e8 _ _ (e7 _ _ hEa6)) (by omega) fun H9 e9 h9 => ?_
        have hE7' : Ea ≠ t7 := ne_of_none hEa6 nt7
        have hE8' : Ea ≠ t8 := ne_of_none (e7 _ _ hEa6) nt8
        have t69 : TX H6 H9 := ((TX.of e7).trans (TX.of e8)).trans (TX.but (e8 _ _ (e7 _ _ hEa6)) e9)
        rw [move_one_r]
        refine ⟨_, _, rfl, fun x o h h1 h2 => e9 _ _ h2 (e8 _ _ (e7 _ _ (ex6 x o h h1 h2))), t6.trans t69, hQ6.tx (qs_t hp) t69 fun o h => e9 _ _ hne (e8 _ _ (e7 _ _ h)), ⟨⟨_, h9, ?_⟩⟩⟩
        rw [← List.append_assoc, List.map_append]
        refine DpAll.append (DpAll.tx t69 hes6 (es_t hp)) (.cons (.tup (SqT.of (e9 _ _ hE8'.symm h8)) (.cons (.str z) (.cons (.tup (SqT.of (e9 _ _ hE7'.symm (e8 _ _ h7))) (.cons (Dp.tx t69 hy6 (hp.t p)) .nil)) .nil))) .nil)
    · rintro σ H5 ⟨u5, u6, rfl, ex5, t5, hQ5, hE5⟩
      rw [hmn] at hQ5 hE5
      have ht : ((N.getD st []).zip (qs.getD st [])).take (qs.getD st []).length = (N.getD st []).zip (qs.getD st []) := List.take_of_length_le (by omega)
      rw [ht] at hQ5 hE5
      refine q H5 ex5 hQ5 ?_
      rw [List.append_assoc] at hE5
      exact hE5
theorem ok_p_pair (hp : PD pd) {f g : Addr} {fd gd : FuncData} (D_join_queue : Df K mg "join_queue" s_join_queue ["network", "queues", "station", "passenger", "events"] f fd) (T : Bt mg) (D_depart : Df K mg "depart" s_depart ["network", "queues", "station", "events"] g gd) : ∀ n : Nat,
    FnOk P w K mg base CX0 (2 * n) g gd ["network", "queues", "station", "events"] (spDepartP K pd n) ∧ FnOk P w K mg base CX0 (2 * n + 1) f fd ["network", "queues", "station", "passenger", "events"] (spJoinP K pd n)
  | 0 => by
    have h0 : FnOk P w K mg base CX0 (2 * 0) g gd ["network", "queues", "station", "events"] (spDepartP K pd 0) := FnOk.absurd fun vs H Q E ⟨_, _, _, _, _, _, _, _, _, _, _, _, _, _, _, _, _, h1, h2, _⟩ => by omega
    exact ⟨h0, ok_join_queue hp D_join_queue T D_depart h0⟩
  | n + 1 => by
    have h0 : FnOk P w K mg base CX0 (2 * (n + 1)) g gd ["network", "queues", "station", "events"] (spDepartP K pd (n + 1)) := ok_depart hp D_depart T D_join_queue (ok_p_pair hp D_join_queue T D_depart n).2
    exact ⟨h0, ok_join_queue hp D_join_queue T D_depart h0⟩
end
end K
set_option Elab.async false
set_option linter.all false
set_option maxRecDepth 100000
set_option maxHeartbeats 4000000
namespace K
open PySem PySem.Spec PyProof.Rows L2 Evl FB
local macro_rules | `(tactic| walk_at "run") => `(tactic| try simp only [tSeq, tAsg, tVar, tC, gName, L2.start, List.map_cons, List.map_nil, List.cons_append, List.nil_append, List.length_cons, List.length_nil, List.replicate, List.getElem?_cons_zero, List.getElem?_cons_succ, Option.some.injEq, exists_eq_left', List.set_cons_zero, List.set_cons_succ, V.ref.injEq, tRet, x_tLst, x_tTup, tCons, tCB, tNil, tOp, x_addI, x_mulI, x_rI, x_rI0, x_ltI, x_leI, x_ltS, x_leS, x_eqI, x_neI, x_eqS, x_eqB, x_neB, x_isiI, x_isiS, x_int, x_max, x_min, cxOf, tIfS, tNext, tTest, V.bl.injEq, decide_eq_true_eq, gSub, tAnd, tOr, tNot, tB, tDrop, tBM, x_tFor, iRng1, iList, iTup, x_tLc, tYes, tCall, tIf, tAndV, tOrV, tNotV, tChain, List.append_nil, tUn, if_true, wipe, true_and, x_never, iU, x_itS, kV, Nat.reduceAdd, Nat.reduceSub, List.replicate_zero, x_rU, x_tMkO, iEnumT, x_tDc, x_tDGet, x_tDGet2, x_sDPut, x_tDSetd, x_tDNewK, x_iItems, x_iZip, x_tSAddK, x_tLockV, x_tTupRg, x_tRg2, tPar, tPar3, tBM0])
/-- an own error class without fields -/
structure Rz (K : PySem.W.Frag) (mg : Str → Option Value) (x : Str) (C : Addr) : Prop where
  xP : PySem.W.excIn K C [.type "ValueError", .type "Exception", .type "BaseException", .type "object"] "ValueError.__new__" = true
  g : mg x = some (.ref C)
  kP : PySem.W.keepIn K (.ref C) = true
  bP : PySem.W.subIn K (.ref C) (.type "BaseException") = some true
  tP : PySem.W.typeIn K (.ref C) = some (.type "type")
section
variable {P : Program} {w : World} {K : PySem.W.Frag} {mg : Str → Option Value} {base : Heap} {α : Type} [Inhabited α] {pd : α → PyData}
abbrev s_list_finished : Stmt := top 28
theorem sc_list_finished : FnScope ["events", "place", "passengers"] ["events"] (defScope s_list_finished) := ⟨rfl, rfl, rfl, by decide +kernel, rfl, by decide +kernel, by decide +kernel⟩
/-- who finishes, as data -/
def fpA (pd : α → PyData) (p : Str × α) : PyData := .tuple [.str p.1, pd p.2]
theorem fpA_t (hp : PD pd) (p : Str × α) : TupD (fpA pd p) := .tup fun d hd => by
  simp only [List.mem_cons, List.not_mem_nil, or_false] at hd
  rcases hd with rfl | rfl
  · exact .str _
  · exact hp.t _
def spListF (K : PySem.W.Frag) (pd : α → PyData) : Sp := fun vs H Q _ => ∃ (Ea : Addr) (es : EvsA α), vs = [.ref Ea] ∧ EvAt K H Ea pd es ∧ EvOk es ∧ es.length ≤ 1000000 ∧ ∀ H' l, Ex H H' → H l = none → LsAt K H' l ((finOf es).map (fpA pd)) → Q (.ref l) H'
theorem ok_list_finished (hp : PD pd) {f : Addr} {fd : FuncData} (D : Df K mg "list_finished" s_list_finished ["events"] f fd) (T : Bt mg) : FnOk P w K mg base CX0 1 f fd ["events"] (spListF K pd) := by
  refine D.F.ok sc_list_finished (fun vs H Q E h => ?_) (fun cdv A outer s H vs Q E hr h => ?_)
  · obtain ⟨Ea, es, rfl, _⟩ := h
    rfl
  · obtain ⟨Ea, es, rfl, hE, hok, hlen, q⟩ := h
    refine ⟨_, (pss_one (ps_ret (pe_lc (own := [("place", 1), ("passengers", 2)]) (g := (gTup K 2 (gCons (gName 1) (gCons (gName 2) gNil)))) (tt := _) rfl sc_list_finished.nd (pi_U (K := K) (pv 0)) (blkOk_by (own := [("place", 1), ("passengers", 2)]) (N := ["events", "place", "passengers"]) (sc := defScope s_list_finished) (by decide +kernel)) (fun _ _ _ _ _ => (pg_tup rfl (pgs_cons (pg_name (i := 1) sc_list_finished.nd rfl (Or.inl rfl)) (pgs_cons (pg_name (i := 2) sc_list_finished.nd rfl (Or.inl rfl)) pgs_nil)))) (fun _ _ _ _ _ => (pts_one (pt_val (pe_callB (call_isiU (K := K)) (by rfl) T.b_isinstance (by decide +kernel) (pa_cons (pv 1) (pa_cons (pe_bltn (v := .ty "str") (by rfl) T.b_str (by decide +kernel) rfl) pa_nil)))))) (fun _ _ _ _ _ => (pe_tup (pa_cons (pv 1) (pa_cons (pe_ix (ix_U (K := K)) (pv 2) pe_int (fun _ _ => rfl)) pa_nil))))))), ?_⟩
    walk_at "run"
    obtain ⟨ts, hEa, hts⟩ := hE.ex
    have htl : ts.length = es.length := by rw [hts.len, List.length_map]
    refine x_itL (SqL.of hEa) (lcl_it walk_list (fun D i H' => Ex H H' ∧ LsAt K H' D ((finOf (es.take i)).map (fpA pd)) ∧ (finOf (es.take i)).length ≤ i) (fun D H' hD e h => ⟨e, ⟨⟨[], h, .nil⟩⟩, by simp [finOf]⟩) (fun D i H' _ h => SqL.of (h.1 _ _ hEa)) ?_ ?_)
    · rintro D i v H1 H1' hD hi ⟨e1, hL, hn⟩ ⟨eH, hx⟩
      subst eH
      obtain ⟨d, hd, hv⟩ := hts.get' hx
      obtain ⟨e, he, rfl⟩ : ∃ e, es[i]? = some e ∧ evA pd e = d := by simpa using hd
      obtain ⟨t, ys, rfl, hT, hys⟩ := Dp.tup_inv (Dp.ex e1 hv)
      have hl2 : ys.length = 2 := hys.len
      obtain ⟨ky, py, rfl⟩ : ∃ x y, ys = [x, y] := match ys, hl2 with
        | [x, y], _ => ⟨x, y, rfl⟩
      obtain ⟨hk, hpy⟩ : Dp K H1' ky (keyD e.1) ∧ Dp K H1' py (qA pd e.2) := by
        cases hys with
        | cons a b => cases b with
          | cons c _ => exact ⟨a, c⟩
      obtain rfl := dp_key hk
      refine x_two hT ?_
      have htk : es.take (i + 1) = es.take i ++ [e] := by rw [List.take_add_one, he]; rfl
      obtain ⟨k, ps⟩ := e
      cases k with
      | inl j =>
        walk_at "run"
        rw [htk, finOf_append]
        exact ⟨e1, by simpa [finOf] using hL, by simpa [finOf] using (by omega : (finOf (es.take i)).length ≤ i + 1)⟩
      | inr z =>
        walk_at "run"
        have hne : ps ≠ [] := hok _ (List.mem_of_getElem? he) z rfl
        obtain ⟨p, pr, rfl⟩ : ∃ p pr, ps = p :: pr := List.exists_cons_of_ne_nil hne
        obtain ⟨b, us, rfl, hU, hus⟩ := Dp.tup_inv hpy
        obtain ⟨u, hu0, hud⟩ := hus.get (show ((p :: pr).map pd)[0]? = some (pd p) from rfl)
        refine x_ixT hU (atI_nat (j := 0) hu0) (x_tup (by simp) fun t2 H2 n2 e2 h2 => ?_)
        obtain ⟨ls, hls, hlsd⟩ := hL.ex
        have hll : ls.length = (finOf (es.take i)).length := by rw [hlsd.len, List.length_map]
        refine x_push (e2 _ _ hls) (by omega) fun H3 e3 h3 => ?_
        have hDt : D ≠ t2 := ne_of_none hls n2
        have e13 : Ex H H3 := fun x o h => e3 _ _ (ne_of_none h hD) (e2 _ _ (e1 _ _ h))
        have t13 : TX H1' H3 := (TX.of e2).trans (TX.but (e2 _ _ hls) e3)
        refine ⟨e13, ⟨⟨_, h3, ?_⟩⟩, ?_⟩
        · rw [htk, finOf_append, List.map_append]
          refine DpAll.append (DpAll.tx t13 hlsd fun d hd => ?_) (.cons (.tup (SqT.of (e3 _ _ hDt.symm h2)) (.cons (.str z) (.cons (Dp.tx t13 hud (hp.t p)) .nil))) .nil)
          obtain ⟨y, _, rfl⟩ := List.mem_map.mp hd
          exact fpA_t hp y
        · rw [htk, finOf_append, List.length_append]
          show _ + 1 ≤ _
          omega
    · rintro D H1 hD ⟨e1, hL, _⟩
      rw [htl, List.take_length] at hL
      exact q H1 D e1 hD hL
abbrev s_check_station : Stmt := top 16
theorem sc_check_station : FnScope ["network", "station"] ["network", "station"] (defScope s_check_station) := ⟨rfl, rfl, rfl, by decide +kernel, rfl, by decide +kernel, by decide +kernel⟩
def spCkSt (K : PySem.W.Frag) (C : Addr) : Sp := fun vs H Q E => ∃ (v : V) (N : Net) (st : Int), vs = [v, .int st] ∧ NetAt K H v N ∧ N.length ≤ 1000 ∧ (0 ≤ st ∧ st < N.length → Q .non H) ∧ (¬ (0 ≤ st ∧ st < N.length) → E (.ref C) none H)
theorem ok_check_station {f C : Addr} {fd : FuncData} (D : Df K mg "check_station" s_check_station ["network", "station"] f fd) (T : Bt mg) (Z : Rz K mg "UnknownStation" C) : FnOk P w K mg base (L2.CX P w) 1 f fd ["network", "station"] (spCkSt K C) := by
  refine D.F.okX sc_check_station (fun vs H Q E h => ?_) (fun cdv A outer s H vs Q E hr h => ?_)
  · obtain ⟨v, N, st, rfl, _⟩ := h
    rfl
  · obtain ⟨v, N, st, rfl, hN, hl, q1, q2⟩ := h
    refine ⟨_, (pss_one (ps_if (pt_not (pt_chain (op_leU) (op_ltU) pe_int (pv 1) (pe_callB (call_lenU (K := K)) (by rfl) T.b_len (by decide +kernel) (pa_cons (pv 0) pa_nil)))) (pss_one (ps_raise rfl (takes_of rfl rfl rfl rfl) (pmk_own PySem.F.excBase_ValueError Z.xP Z.g Z.kP (raises_own Z.bP Z.tP) rfl))) pss_nil)), ?_⟩
    walk_at "run"
    by_cases h0 : 0 ≤ st
    · obtain ⟨a, ts, rfl, hT, hts⟩ := hN.at
      have htl : ts.length = N.length := by rw [hts.len, List.length_map]
      rw [if_pos h0]
      refine x_lenT hT ?_
      rw [htl]
      walk_at "run"
      by_cases h1 : st < N.length
      · rw [if_neg (by simp; omega)]
        exact q1 ⟨h0, h1⟩
      · rw [if_pos (by simp; omega)]
        exact q2 fun z => h1 z.2
    · rw [if_neg h0, if_pos (by rfl)]
      exact q2 fun z => h0 z.1
end
end K
set_option Elab.async false
set_option linter.all false
set_option maxRecDepth 100000
set_option maxHeartbeats 4000000
namespace K
open PySem PySem.Spec PyProof.Rows L2 Evl FB LamX
local macro_rules | `(tactic| walk_at "run") => `(tactic| try simp only [tSeq, tAsg, tVar, tC, gName, L2.start, List.map_cons, List.map_nil, List.cons_append, List.nil_append, List.length_cons, List.length_nil, List.replicate, List.getElem?_cons_zero, List.getElem?_cons_succ, Option.some.injEq, exists_eq_left', List.set_cons_zero, List.set_cons_succ, V.ref.injEq, tRet, x_tLst, x_tTup, tCons, tCB, tNil, tOp, x_addI, x_mulI, x_rI, x_rI0, x_ltI, x_leI, x_ltS, x_leS, x_eqI, x_neI, x_eqS, x_eqB, x_neB, x_isiI, x_isiS, x_int, x_max, x_min, cxOf, tIfS, tNext, tTest, V.bl.injEq, decide_eq_true_eq, gSub, tAnd, tOr, tNot, tB, tDrop, tBM, x_tFor, iRng1, iList, iTup, x_tLc, tYes, tCall, tIf, tAndV, tOrV, tNotV, tChain, List.append_nil, tUn, if_true, wipe, true_and, x_never, iU, x_itS, kV, Nat.reduceAdd, Nat.reduceSub, List.replicate_zero, x_rU, x_tMkO, iEnumT, x_tDc, x_tDGet, x_tDGet2, x_sDPut, x_tDSetd, x_tDNewK, x_iItems, x_iZip, x_tSAddK, x_tLockV, x_tTupRg, x_tRg2, tPar, tPar3, tBM0, x_rEqS, x_rNeI, tXf, List.getElem?_cons_zero])
abbrev s_l_error : Stmt := top 42
theorem sc_l_error : FnScope ["_law_call", "e", "_law_kinds", "_law_names", "_law_name"] ["_law_call"] (defScope s_l_error) := ⟨rfl, rfl, rfl, by decide +kernel, rfl, by decide +kernel, by decide +kernel⟩
/-- what _law_error makes of the lambda's reading -/
def TErr (C : Nat → Addr) : (XK → Hp → VK → Prop) → Hp → VK → Prop := fun tl H Q =>
  tl (fun cls d H' => ∃ (i : Nat) (st se : V), i < 13 ∧ ErrIs C i st se cls d H' ∧ ∀ p H'', Ex H' H'' → H'' p = some (.tup (errTell i st se)) → Q (.ref p) H'')
    H (fun _ H' => rTup [.str "none"] H' Q)
/-- what the suite is told: a holds the error -/
def errPre (C : Nat → Addr) (a : Addr) (cls : Value) (d : Option Addr) : TS := fun D σ H => (σ.length = 5 → σ[1]? = some (some (.ref a))) ∧ ∃ (i : Nat) (st se : V), i < 13 ∧ ErrIs C i st se cls d H ∧ ∀ p H'', Ex H H'' → H'' p = some (.tup (errTell i st se)) → D.rt (.ref p) H''
abbrev errN : List Str := ["_law_call", "e", "_law_kinds", "_law_names", "_law_name"]
abbrev errX (P : Program) (w : World) (K : PySem.W.Frag) (mg : Str → Option Value) (base : Heap) (A : Around) (st : List Env) (g : Addr) (cdg : Value) (s : Shared) (H : Hp) : Cx := cxOf C8.CX0 P w K mg base ["_law_call", "e", "_law_kinds", "_law_names", "_law_name"] "_law_error" (defScope s_l_error) g cdg A st s H C8.E0
theorem err_aux {P : Program} {w : World} {K : PySem.W.Frag} {mg : Str → Option Value} {base : Heap} {A : Around} {st : List Env} {g CF : Addr} {C : Nat → Addr} {cdg : Value} {q : Str} (R : Errs K mg CF C) (T : Bt mg) (f c' : Addr) (s : Shared) (H : Hp) (Q : VK) (tl : XK → Hp → VK → Prop)
    (act : ∀ (W : WX) (pn : List (Addr × Obj)) (xe : Value → Shared → Prop) (E : XK) (p1 p2 : Pos), Takes ((errX P w K mg base A st g cdg s H).tr pn xe) W → (∀ cls d σ' H', E cls d H' → W cls d σ' H') →
      PE ((errX P w K mg base A st g cdg s H).tr pn xe) (.Call (.Name "_law_call" p1) [] [] p2) (fun σZ HZ Q => σZ[0]? = some (some (.ref f)) ∧ HZ c' = some (CodeO c' q) ∧ tl E HZ Q))
    (hc : H c' = some (CodeO c' q)) (h : TErr C tl H Q) : ∃ t, PSs (errX P w K mg base A st g cdg s H).nox (defBody s_l_error) t ∧ t { nx := fun _ H' => Q .non H', rt := Q } (L2.start errN [.ref f]) H := by
  have hgl : Gl (errX P w K mg base A st g cdg s H).nox "FerryError" := rfl
  refine ⟨_, pss_cons (ps_try_as (X := (errX P w K mg base A st g cdg s H).nox) (i := 1) (c := .ref CF) (ts := errPre C)
      (tb := fun W D σ H => ∃ Ech : XK, (∀ cls d σ' H', Ech cls d H' → W cls d σ' H') ∧ σ[0]? = some (some (.ref f)) ∧ H c' = some (CodeO c' q) ∧ tl Ech H (fun _ H' => D.nx σ H'))
      rfl rfl sc_l_error.nd rfl rfl ⟨hgl, by decide, .inl R.gF⟩ L2.takes0 (fun W pn xe tk _ => ?_) (fun a oe cls d pn hz hf => ?_)) (pss_one (ps_ret (pe_tup (pa_cons pe_str pa_nil)))), ?_⟩
  · refine ⟨fun pins s' σ H' D I h' => ?_⟩
    obtain ⟨Ech, hW, h1, h2, h3⟩ := h'
    exact (pss_one (ps_expr (act W pn xe Ech _ _ tk hW))).run pins s' σ H' D I ⟨h1, h2, h3⟩
  · apply pss_impI
    · exact (pss_cons (ps_set (i := 2) sc_l_error.nd rfl (Or.inl rfl) (pe_lst (pa_cons (pe_callB (call_isX (K := K) hz hf) (by rfl) T.b_isinstance (by decide +kernel) (pa_cons (pv 1) (pa_cons (pe_glob (v := .ref (C 0)) rfl (R.g 0 (by decide)) rfl) pa_nil))) (pa_cons (pe_callB (call_isX (K := K) hz hf) (by rfl) T.b_isinstance (by decide +kernel) (pa_cons (pv 1) (pa_cons (pe_glob (v := .ref (C 1)) rfl (R.g 1 (by decide)) rfl) pa_nil))) (pa_cons (pe_callB (call_isX (K := K) hz hf) (by rfl) T.b_isinstance (by decide +kernel) (pa_cons (pv 1) (pa_cons (pe_glob (v := .ref (C 2)) rfl (R.g 2 (by decide)) rfl) pa_nil))) pa_nil)))))
      (pss_cons (ps_expr (pe_bm PySem.F.plainAttrs_list PySem.F.slot_list_extend PySem.F.type_list_extend mt_extend (pv 2) (pa_cons (pe_lst (pa_cons (pe_callB (call_isX (K := K) hz hf) (by rfl) T.b_isinstance (by decide +kernel) (pa_cons (pv 1) (pa_cons (pe_glob (v := .ref (C 3)) rfl (R.g 3 (by decide)) rfl) pa_nil))) (pa_cons (pe_callB (call_isX (K := K) hz hf) (by rfl) T.b_isinstance (by decide +kernel) (pa_cons (pv 1) (pa_cons (pe_glob (v := .ref (C 4)) rfl (R.g 4 (by decide)) rfl) pa_nil))) (pa_cons (pe_callB (call_isX (K := K) hz hf) (by rfl) T.b_isinstance (by decide +kernel) (pa_cons (pv 1) (pa_cons (pe_glob (v := .ref (C 5)) rfl (R.g 5 (by decide)) rfl) pa_nil))) pa_nil)))) pa_nil)))
      (pss_cons (ps_expr (pe_bm PySem.F.plainAttrs_list PySem.F.slot_list_extend PySem.F.type_list_extend mt_extend (pv 2) (pa_cons (pe_lst (pa_cons (pe_callB (call_isX (K := K) hz hf) (by rfl) T.b_isinstance (by decide +kernel) (pa_cons (pv 1) (pa_cons (pe_glob (v := .ref (C 6)) rfl (R.g 6 (by decide)) rfl) pa_nil))) (pa_cons (pe_callB (call_isX (K := K) hz hf) (by rfl) T.b_isinstance (by decide +kernel) (pa_cons (pv 1) (pa_cons (pe_glob (v := .ref (C 7)) rfl (R.g 7 (by decide)) rfl) pa_nil))) (pa_cons (pe_callB (call_isX (K := K) hz hf) (by rfl) T.b_isinstance (by decide +kernel) (pa_cons (pv 1) (pa_cons (pe_glob (v := .ref (C 8)) rfl (R.g 8 (by decide)) rfl) pa_nil))) pa_nil)))) pa_nil)))
      (pss_cons (ps_expr (pe_bm PySem.F.plainAttrs_list PySem.F.slot_list_extend PySem.F.type_list_extend mt_extend (pv 2) (pa_cons (pe_lst (pa_cons (pe_callB (call_isX (K := K) hz hf) (by rfl) T.b_isinstance (by decide +kernel) (pa_cons (pv 1) (pa_cons (pe_glob (v := .ref (C 9)) rfl (R.g 9 (by decide)) rfl) pa_nil))) (pa_cons (pe_callB (call_isX (K := K) hz hf) (by rfl) T.b_isinstance (by decide +kernel) (pa_cons (pv 1) (pa_cons (pe_glob (v := .ref (C 10)) rfl (R.g 10 (by decide)) rfl) pa_nil))) pa_nil))) pa_nil)))
      (pss_cons (ps_expr (pe_bm PySem.F.plainAttrs_list PySem.F.slot_list_extend PySem.F.type_list_extend mt_extend (pv 2) (pa_cons (pe_lst (pa_cons (pe_callB (call_isX (K := K) hz hf) (by rfl) T.b_isinstance (by decide +kernel) (pa_cons (pv 1) (pa_cons (pe_glob (v := .ref (C 11)) rfl (R.g 11 (by decide)) rfl) pa_nil))) (pa_cons (pe_callB (call_isX (K := K) hz hf) (by rfl) T.b_isinstance (by decide +kernel) (pa_cons (pv 1) (pa_cons (pe_glob (v := .ref (C 12)) rfl (R.g 12 (by decide)) rfl) pa_nil))) pa_nil))) pa_nil)))
      (pss_cons (ps_if (PW.pt (pw_or (pt_cmpR op_ne (pe_bm PySem.F.plainAttrs_list PySem.F.slot_list_count PySem.F.type_list_count mt_countF (pv 2) (pa_cons pe_bl pa_nil)) pe_int (nomark _)) (pw_or1 (pt_not (pt_val (pe_callB (call_isX (K := K) hz hf) (by rfl) T.b_isinstance (by decide +kernel) (pa_cons (pv 1) (pa_cons (pe_bltn (v := .ty "ValueError") (by rfl) R.b_ValueError (by decide +kernel) rfl) pa_nil)))))))) (pss_one (ps_ret (pe_tup (pa_cons pe_str pa_nil)))) pss_nil)
      (pss_cons (ps_set (i := 3) sc_l_error.nd rfl (Or.inl rfl) (pe_lst (pa_cons pe_str (pa_cons pe_str (pa_cons pe_str (pa_cons pe_str (pa_cons pe_str (pa_cons pe_str (pa_cons pe_str (pa_cons pe_str (pa_cons pe_str (pa_cons pe_str pa_nil))))))))))))
      (pss_cons (ps_set (i := 4) sc_l_error.nd rfl (Or.inl rfl) (pe_ix (ix_U (K := K)) (pe_op (op_addU (K := K)) (pv 3) (pe_lst (pa_cons pe_str (pa_cons pe_str (pa_cons pe_str pa_nil))))) (pe_bm PySem.F.plainAttrs_list PySem.F.slot_list_index PySem.F.type_list_index mt_index (pv 2) (pa_cons pe_bl pa_nil)) (fun _ _ => rfl)))
      (pss_one (ps_ret (pe_ifExp (pt_cmpR op_eq (pv 4) pe_str (nomark _)) (pe_tup (pa_cons (pv 4) (pa_cons (pe_xf R.xf R.no_station hz hf (pv 1)) (pa_cons (pe_xf R.xf R.no_seat hz hf (pv 1)) pa_nil)))) (pe_tup (pa_cons (pv 4) pa_nil)))))))))))))
    · rintro D σ H1 hl ⟨h1, i, st, se, hi, he, q⟩
      obtain ⟨x0, x1, x2, x3, x4, rfl⟩ : ∃ x0 x1 x2 x3 x4, σ = [x0, x1, x2, x3, x4] := match σ, hl with
        | [x0, x1, x2, x3, x4], _ => ⟨x0, x1, x2, x3, x4, rfl⟩
      obtain rfl : x1 = some (.ref a) := by simpa using h1 rfl
      walk_at "run"
      refine x_isX R hi he (fun _ _ h => h) 0 (by decide) (x_isX R hi he (fun _ _ h => h) 1 (by decide) (x_isX R hi he (fun _ _ h => h) 2 (by decide) ?_))
      refine x_lst (by simp) fun p H2 np e2 hp => ?_
      walk_at "run"
      have E2 : Ex H1 H2 := e2
      refine ⟨x_tyL (SqL.of hp), x_isX R hi he E2 3 (by decide) (x_isX R hi he E2 4 (by decide) (x_isX R hi he E2 5 (by decide) ?_))⟩
      refine x_lst (by simp) fun p3 H3 n3 e3 h3 => x_extend (e3 _ _ hp) h3 (by simp) fun H4 e4 h4 => ?_
      have E4 : Ex H1 H4 := fun x o h => e4 _ _ (ne_of_none h np) (e3 _ _ (E2 _ _ h))
      refine ⟨x_tyL (SqL.of h4), x_isX R hi he E4 6 (by decide) (x_isX R hi he E4 7 (by decide) (x_isX R hi he E4 8 (by decide) ?_))⟩
      refine x_lst (by simp) fun p5 H5 n5 e5 h5 => x_extend (e5 _ _ h4) h5 (by simp) fun H6 e6 h6 => ?_
      have E6 : Ex H1 H6 := fun x o h => e6 _ _ (ne_of_none h np) (e5 _ _ (E4 _ _ h))
      refine ⟨x_tyL (SqL.of h6), x_isX R hi he E6 9 (by decide) (x_isX R hi he E6 10 (by decide) ?_)⟩
      refine x_lst (by simp) fun p7 H7 n7 e7 h7 => x_extend (e7 _ _ h6) h7 (by simp) fun H8 e8 h8 => ?_
      have E8 : Ex H1 H8 := fun x o h => e8 _ _ (ne_of_none h np) (e7 _ _ (E6 _ _ h))
      refine ⟨x_tyL (SqL.of h8), x_isX R hi he E8 11 (by decide) (x_isX R hi he E8 12 (by decide) ?_)⟩
      refine x_lst (by simp) fun p9 H9 n9 e9 h9 => x_extend (e9 _ _ h8) h9 (by simp) fun H10 e10 h10 => ?_
      have E10 : Ex H1 H10 := fun x o h => e10 _ _ (ne_of_none h np) (e9 _ _ (E8 _ _ h))
      have hk : H10 p = some (.lst (kinds i)) := h10
      have fl : (kinds i).all flatV = true := by
        rw [List.all_eq_true]
        intro z hz
        obtain ⟨m, _, rfl⟩ := List.mem_map.mp hz
        rfl
      clear hp h3 h4 h5 h6 h7 h8 h9 h10
      refine ⟨x_tyL (SqL.of hk), p, kinds i, _, rfl, rfl, SqL.of hk, rfl, fl, ?_⟩
      rw [kinds_count i hi]
      walk_at "run"
      rw [if_neg (by decide)]
      refine x_isV R hi he E10 ?_
      walk_at "run"
      rw [if_neg (by decide)]
      refine x_lst (by simp) fun l1 H11 n1 e11 h11 => x_lst (by simp) fun l2 H12 n2 e12 h12 => ?_
      refine x_cat (e12 _ _ h11) h12 (by simp) fun l3 H13 n3 e13 h13 => ?_
      have E13 : Ex H1 H13 := fun x o h => e13 _ _ (e12 _ _ (e11 _ _ (E10 _ _ h)))
      have hw : H13 l3 = some (.lst (errWords.map V.str)) := h13
      have hk13 : H13 p = some (.lst (kinds i)) := e13 _ _ (e12 _ _ (e11 _ _ hk))
      refine ⟨x_tyL (SqL.of hk13), p, kinds i, _, i, _, rfl, rfl, SqL.of hk13, rfl, fl, kinds_at i hi, rfl, fun m z' hm hz => ?_, ?_⟩
      · rw [kinds_not i hi m (by omega) hm] at hz
        cases hz; rfl
      refine x_ixL (SqL.of hw) (atI_nat (words_at i hi)) ?_
      walk_at "run"
      by_cases z : i = 0
      · subst z
        rw [if_pos (by decide)]
        obtain ⟨hc1, hd1⟩ := he
        rw [if_pos rfl] at hd1
        obtain ⟨dd, hd2, hx⟩ := hd1
        refine ⟨hc1, dd, _, st, hd2, E13 _ _ hx, rfl, hc1, dd, _, se, hd2, E13 _ _ hx, rfl, x_tup (by simp) fun t H14 nt e14 h14 => ?_⟩
        exact q t H14 (fun x o h => e14 _ _ (E13 _ _ h)) h14
      · rw [if_neg (by simpa using words_first i hi z)]
        refine x_tup (by simp) fun t H14 nt e14 h14 => ?_
        refine q t H14 (fun x o h => e14 _ _ (E13 _ _ h)) ?_
        unfold errTell
        rw [if_neg z]
        exact h14
  · walk_at "run"
    refine ⟨fun cls d H' => ∃ (i : Nat) (st se : V), i < 13 ∧ ErrIs C i st se cls d H' ∧ ∀ p H'', Ex H' H'' → H'' p = some (.tup (errTell i st se)) → Q (.ref p) H'', fun cls d σ' H' ⟨i, st, se, hi, he, q⟩ => ?_, hc, ?_⟩
    · refine ⟨true, by rw [he.1]; exact R.exF i hi, fun _ a na => ⟨fun hl => ?_, i, st, se, hi, he, q⟩, fun z => nomatch z⟩
      rw [List.length_set] at hl
      rw [List.getElem?_set_self (by omega)]
    · exact h
theorem err_gives {X : Cx} {g CF : Addr} {C : Nat → Addr} {cdg : Value} {q : Str} (R : Errs X.K X.mg CF C) (T : Bt X.mg) :
    GivesTo X errN "_law_error" (defScope s_l_error) g cdg (defBody s_l_error) "_law_call" q (TErr C) := fun f c' s H Q tl act hc h => err_aux R T f c' s H Q tl act hc h
/-- _law_error(lambda: body) -/
theorem pe_err {KF : PySem.W.Frag} {mg : Str → Option Value} {X : Cx} {g CF c Pt : Addr} {gd : FuncData} {C : Nat → Addr} {T0 : List (Addr × Str)} {k : Nat} {params : Arguments} {body : Expr} {scope : Scope} {t : XK → TE} {p lpos pos : Pos}
    (D : Df KF mg "_law_error" s_l_error ["_law_call"] g gd) (R : Errs KF mg CF C) (T : Bt mg) (hg : Gl X "_law_error") (TB : TabB X.base mg c Pt) (hcode : X.env.code = .ref c) (hmT : (Pt, X.env.qual ++ "<lambda>") ∈ T0) (hu : ∀ p ∈ T0, p.1 = Pt → p.2 = X.env.qual ++ "<lambda>")
    (hr : Room (k + 2) X.A) (L : LamS X.env.scope scope) (hdef : defaultsOf params X.env = ([], []))
    (hbind : ∀ (q : Str) (cl : List (Str × Addr)) (pm cv ctv : Value), bindArgs (PySem.W.kla_fn "<lambda>" q params body scope cl pm cv ctv) ⟨[], []⟩ = pure [])
    (hbody : ∀ (A : Around) (outer : List Env) (s : Shared) (H : Hp) (E : XK) (f c' : Addr), Room k (A.deeper (lamEnv X scope s.heap.objs.size f c')) → PE (lamCx X A outer s H E scope f c') body (t E))
    (hK : X.K = KF := by rfl) (hm : X.mg = mg := by rfl) : PE X (.Call (.Name "_law_error" p) [.Lambda params body scope lpos] [] pos) (tLam T0 (TErr C) t) := by
  subst hK hm
  obtain ⟨oc, od, kV, doc, pm, an, cdv, ct, osl, rfl, lk, hcd⟩ := D.F.ex
  exact pe_lamcall (Ng := errN) (a := "_law_call") hg D.g D.F.kp lk hcd D.b sc_l_error rfl (.inl rfl) (err_gives R T) TB hcode hmT hu hr L hdef hbind hbody
end K
set_option Elab.async false
set_option linter.all false
set_option maxRecDepth 100000
set_option maxHeartbeats 1000000
namespace K
open PySem PySem.Spec PyProof.Rows L2 Evl FB
local macro_rules | `(tactic| walk_at "run") => `(tactic| try simp only [tSeq, tAsg, tVar, tC, gName, L2.start, List.map_cons, List.map_nil, List.cons_append, List.nil_append, List.length_cons, List.length_nil, List.replicate, List.getElem?_cons_zero, List.getElem?_cons_succ, Option.some.injEq, exists_eq_left', List.set_cons_zero, List.set_cons_succ, V.ref.injEq, tRet, x_tLst, x_tTup, tCons, tCB, tNil, tOp, x_addI, x_mulI, x_rI, x_rI0, x_ltI, x_leI, x_ltS, x_leS, x_eqI, x_neI, x_eqS, x_eqB, x_neB, x_isiI, x_isiS, x_int, x_max, x_min, cxOf, tIfS, tNext, tTest, V.bl.injEq, decide_eq_true_eq, gSub, tAnd, tOr, tNot, tB, tDrop, tBM, x_tFor, iRng1, iList, iTup, x_tLc, tYes, tCall, tIf, tAndV, tOrV, tNotV, tChain, List.append_nil, tUn, if_true, wipe, true_and, x_never, iU, x_itS, kV, Nat.reduceAdd, Nat.reduceSub, List.replicate_zero, x_rU, x_tMkO, iEnumT, x_tDc, x_tDGet, x_tDGet2, x_sDPut, x_tDSetd, x_tDNewK, x_iItems, x_iZip, x_tSAddK, x_tLockV, x_tTupRg, x_tRg2, tPar, tPar3, tBM0])
section
variable {P : Program} {w : World} {K : PySem.W.Frag} {mg : Str → Option Value} {base : Heap}
theorem pdI : PD PyData.int := ⟨fun a => .int a⟩
abbrev s_send_boat : Stmt := top 35
theorem sc_send_boat : FnScope ["network", "state", "station", "queues", "events"] ["network", "state", "station"] (defScope s_send_boat) := ⟨rfl, rfl, rfl, by decide +kernel, rfl, by decide +kernel, by decide +kernel⟩
/-- a state and who finishes -/
def sentD (p : Int) (qs : Qs) (fs : List (Str × Int)) : PyData := .tuple [stateD p qs, .list (fs.map (fpA PyData.int))]
def spSend (K : PySem.W.Frag) (n : Nat) (C1 C2 : Addr) : Sp := fun vs H Q E => ∃ (v u : V) (N : Net) (p : Int) (qs : Qs) (st : Int), vs = [v, u, .int st] ∧ NetAt K H v N ∧ ValidN N ∧ N.length ≤ n ∧ JN N ∧ Dp K H u (stateD p qs) ∧ StOk N p qs ∧
  (¬ (0 ≤ st ∧ st < N.length) → ∀ H', Ex H H' → E (.ref C1) none H') ∧ ((0 ≤ st ∧ st < N.length) → qs.getD st.toNat [] = [] → ∀ H', Ex H H' → E (.ref C2) none H') ∧
  ((0 ≤ st ∧ st < N.length) → qs.getD st.toNat [] ≠ [] → ∀ H' r, Ex H H' → (∀ H'' : Hp, (∀ x o, H x = none → H' x = some o → H'' x = some o) → TX H' H'' → Dp K H'' r (sentD p (departW N n qs st.toNat).1 (finOf (departW N n qs st.toNat).2))) → Q r H')
/-- the defs that check_state calls -/
structure DState (K : PySem.W.Frag) (mg : Str → Option Value) : Prop where
  is_word : ∃ f fd, Df K mg "is_word" s_is_word ["text"] f fd
  is_place : ∃ f fd, Df K mg "is_place" s_is_place ["place", "station", "stations"] f fd
  check_network : ∃ f fd, Df K mg "check_network" s_check_network ["network"] f fd
  check_passengers : ∃ f fd, Df K mg "check_passengers" s_check_passengers ["next_passenger", "queues"] f fd
  check_state : ∃ f fd, Df K mg "check_state" s_check_state ["network", "state"] f fd
theorem ok_send_boat {n : Nat} (hn : 2 ≤ n) {f f1 f2 f3 f4 C1 C2 : Addr} {fd fd1 fd2 fd3 fd4 : FuncData} (D : Df K mg "send_boat" s_send_boat ["network", "state", "station"] f fd) (T : Bt mg)
    (D_check_station : Df K mg "check_station" s_check_station ["network", "station"] f1 fd1) (D_depart : Df K mg "depart" s_depart ["network", "queues", "station", "events"] f2 fd2) (D_join_queue : Df K mg "join_queue" s_join_queue ["network", "queues", "station", "passenger", "events"] f3 fd3)
    (D_list_finished : Df K mg "list_finished" s_list_finished ["events"] f4 fd4) (Z1 : Rz K mg "UnknownStation" C1) (Z2 : Rz K mg "EmptyBoat" C2) : FnOk P w K mg base (L2.CX P w) (2 * n + 1) f fd ["network", "state", "station"] (spSend K n C1 C2) := by
  have G_check_station : FnOk P w K mg base (L2.CX P w) 1 f1 fd1 _ _ := ok_check_station D_check_station T Z1
  have G_depart : FnOk P w K mg base CX0 (2 * n) f2 fd2 _ (spDepartP K PyData.int n) := (ok_p_pair pdI D_join_queue T D_depart n).1
  have G_list_finished : FnOk P w K mg base CX0 1 f4 fd4 _ (spListF K PyData.int) := ok_list_finished pdI D_list_finished T
  refine D.F.okX sc_send_boat (fun vs H Q E h => ?_) (fun cdv A outer s H vs Q E hr h => ?_)
  · obtain ⟨v, u, N, p, qs, st, rfl, _⟩ := h
    rfl
  · obtain ⟨v, u, N, p, qs, st, rfl, hN, hV, hn8, hJ, hS, hO, k1, k2, q⟩ := h
    have hu := hr.units
    refine ⟨_, (pss_cons (ps_expr (pe_call (G_check_station) (hr.mono (by omega)) rfl D_check_station.g D_check_station.F.kp D_check_station.b .nil (passes_call (takes_of rfl rfl rfl rfl) fun _ _ _ _ h => h) (pa_cons (pv 0) (pa_cons (pv 2) pa_nil))))
      (pss_cons (ps_set (i := 3) sc_send_boat.nd rfl (Or.inl rfl) (pe_callTy (call_listU (K := K)) (by rfl) T.b_list (by decide +kernel) (pa_cons (pe_ix (ix_U (K := K)) (pv 1) pe_int (fun _ _ => rfl)) pa_nil)))
      (pss_cons (ps_if (pt_cmpR (op_eqU (K := K) hu) (pe_callB (call_lenU (K := K)) (by rfl) T.b_len (by decide +kernel) (pa_cons (pe_ix (ix_U (K := K)) (pv 3) (pv 2) (fun _ _ => rfl)) pa_nil)) pe_int (nomark _)) (pss_one (ps_raise rfl (takes_of rfl rfl rfl rfl) (pmk_own PySem.F.excBase_ValueError Z2.xP Z2.g Z2.kP (raises_own Z2.bP Z2.tP) rfl))) pss_nil)
      (pss_cons (ps_set (i := 4) sc_send_boat.nd rfl (Or.inl rfl) (pe_lst pa_nil))
      (pss_cons (ps_expr (pe_call (G_depart) (hr.mono (by omega)) rfl D_depart.g D_depart.F.kp D_depart.b .nil pass0 (pa_cons (pv 0) (pa_cons (pv 3) (pa_cons (pv 2) (pa_cons (pv 4) pa_nil))))))
      (pss_one (ps_ret (pe_tup (pa_cons (pe_tup (pa_cons (pe_ix (ix_U (K := K)) (pv 1) pe_int (fun _ _ => rfl)) (pa_cons (pe_callTy (call_tupU (K := K)) (by rfl) T.b_tuple (by decide +kernel) (pa_cons (pv 3) pa_nil)) pa_nil))) (pa_cons (pe_call (G_list_finished) (hr.mono (by omega)) rfl D_list_finished.g D_list_finished.F.kp D_list_finished.b .nil pass0 (pa_cons (pv 4) pa_nil)) pa_nil)))))))))), ?_⟩
    walk_at "run"
    have h40 := hV.le
    have e1 : Ex H H := Ex.refl H
    refine ⟨v, N, st, rfl, hN, by omega, fun hst => ?_, fun h => k1 h H e1⟩
    obtain ⟨j, rfl⟩ : ∃ j : Nat, st = (j : Int) := ⟨st.toNat, by omega⟩
    have hj : j < N.length := by omega
    have hql := hO.len
    have k2' := k2 hst
    have q' := q hst
    rw [Int.toNat_natCast] at k2' q'
    clear k1 k2 q
    obtain ⟨a, y, rfl, hSa, hy⟩ := state_at hS
    obtain ⟨b, ts, rfl, hT, hts⟩ := qs_at hy
    have htl : ts.length = qs.length := by rw [hts.len, List.length_map]
    refine x_ixT (ex_t e1 hSa) (v := .ref b) rfl (x_listT (ex_t e1 hT) fun Qa H2 nQ e2 hQa => ?_)
    obtain ⟨c, hc, hcd⟩ := hts.get (show (qs.map qD)[j]? = some (qD (qs.getD j [])) by simp [List.getD_eq_getElem?_getD, hql, hj])
    obtain ⟨c, cs, rfl, hC, hcs⟩ := Dp.tup_inv hcd
    have hcl : cs.length = (qs.getD j []).length := by rw [hcs.len, List.length_map]
    refine x_ixL (SqL.of hQa) (atI_nat hc) (x_lenT (ex_t (e1.trans e2) hC) ?_)
    walk_at "run"
    rw [hcl]
    by_cases hq : qs.getD j [] = []
    · rw [if_pos (by rw [hq]; rfl)]
      exact k2' hq H2 (e1.trans e2)
    have hq1 : 1 ≤ (qs.getD j []).length := by
      cases h : qs.getD j [] with
      | nil => exact absurd h hq
      | cons _ _ => simp
    rw [if_neg (by omega)]
    refine x_lst (by simp) fun Ea H3 nE e3 hEa => ?_
    have hltk : ∀ k, k < N.length → (qs.getD k []).length < (N.getD k []).length := fun k hk => by
      have h1 : qs[k]? = some (qs.getD k []) := by simp [List.getD_eq_getElem?_getD, hql, hk]
      have h2 : N[k]? = some (N.getD k []) := by simp [List.getD_eq_getElem?_getD, hk]
      exact hO.lt k _ _ h1 h2
    have hfl := flat_len hql hO.lt fun s hs => (hV.cnt.st s hs).2
    have hway := wayW_le (n := N.length) (qs := qs) (k := 0)
    have hb2 : qs.flatten.length * (2 * N.length) ≤ 320 * 80 := Nat.mul_le_mul (by omega) (by omega)
    have hdw := (departW_way (α := Int) hJ.fw n qs j hql hj (by omega) hq1).1
    have hne : Qa ≠ Ea := ne_of_none hQa nE
    have hQt : QtAt K H3 Qa PyData.int qs := ⟨⟨ts, e3 _ _ hQa, DpAll.ex ((e1.trans e2).trans e3) hts⟩⟩
    refine ⟨v, N, Qa, Ea, qs, [], j, rfl, Dp.ex ((e1.trans e2).trans e3) hN, hJ, hQt, ⟨⟨[], hEa, .nil⟩⟩, hne, hql, fun k hk _ => hltk k hk, Nat.le_of_lt (hltk j hj), hq1, hj, by omega, ?_, fun H4 ex4 hQ4 hE4 => ?_⟩
    · rw [List.length_nil]; omega
    have t4 : TX H3 H4 := TX.two (e3 _ _ hQa) hEa ex4
    have t04 : TX H H4 := (TX.of ((e1.trans e2).trans e3)).trans t4
    have e04 : Ex H H4 := fun x o h => ex4 x o (e3 _ _ (e2 _ _ (e1 _ _ h))) (ne_of_none (e1 _ _ h) nQ) (ne_of_none (e2 _ _ (e1 _ _ h)) nE)
    refine x_ixT (t04.t hSa) (v := .int p) rfl ?_
    obtain ⟨tq, hQa4, htq⟩ := hQ4.ex
    refine x_tupL (SqL.of hQa4) fun t5 H5 n5 e5 h5 => x_tup (by simp) fun t6 H6 n6 e6 h6 => ?_
    rw [List.nil_append] at hE4
    refine ⟨Ea, _, rfl, (hE4.ex2 e5).ex2 e6, departW_e n qs j, by omega, fun H7 l e7 nl hL => ?_⟩
    refine x_tup (by simp) fun t8 H8 n8 e8 h8 => ?_
    obtain ⟨fl, hfl8, hfd⟩ := (hL.ex2 e8).ex
    have e58 : Ex H5 H8 := fun x o h => e8 _ _ (e7 _ _ (e6 _ _ h))
    have hln : H l = none := fresh_back (fun x o h => e6 _ _ (e5 _ _ (e04 _ _ h))) nl
    refine q' hq H8 _ (fun x o h => e8 _ _ (e7 _ _ (e6 _ _ (e5 _ _ (e04 _ _ h))))) fun H9 hn ht => ?_
    refine .tup (ht.t (SqT.of h8)) (.cons (Dp.tx ht ?_ (stateD_t _ _)) (.cons ?_ .nil))
    · refine .tup (SqT.of (e8 _ _ (e7 _ _ h6))) (.cons (.int p) (.cons ?_ .nil))
      exact .tup (SqT.of (e58 _ _ h5)) (DpAll.ex (fun x o h => e58 _ _ (e5 _ _ h)) htq)
    · refine .lst (SqL.of (hn _ _ hln hfl8)) (DpAll.tx ht hfd fun d hd => ?_)
      obtain ⟨y, _, rfl⟩ := List.mem_map.mp hd
      exact fpA_t pdI y
abbrev s_send_early : Stmt := top 32
theorem sc_send_early : FnScope ["network", "state", "station"] ["network", "state", "station"] (defScope s_send_early) := ⟨rfl, rfl, rfl, by decide +kernel, rfl, by decide +kernel, by decide +kernel⟩
theorem ok_send_early {n : Nat} (hn : 2 ≤ n) {f f1 C1 C2 : Addr} {fd fd1 : FuncData} (D : Df K mg "send_early" s_send_early ["network", "state", "station"] f fd) (T : Bt mg) (Ck : Ct K mg) (DD : DState K mg)
    (D_send_boat : Df K mg "send_boat" s_send_boat ["network", "state", "station"] f1 fd1) (G_send_boat : FnOk P w K mg base (L2.CX P w) (2 * n + 1) f1 fd1 ["network", "state", "station"] (spSend K n C1 C2)) : FnOk P w K mg base (L2.CX P w) (2 * n + 2) f fd ["network", "state", "station"] (spSend K n C1 C2) := by
  obtain ⟨g1, gd1, D_is_word⟩ := DD.is_word
  obtain ⟨g2, gd2, D_is_place⟩ := DD.is_place
  obtain ⟨g3, gd3, D_check_network⟩ := DD.check_network
  obtain ⟨g4, gd4, D_check_passengers⟩ := DD.check_passengers
  obtain ⟨g5, gd5, D_check_state⟩ := DD.check_state
  have G_check_state : FnOk P w K mg base CX0 5 g5 gd5 _ _ := ok_check_state D_check_state T Ck D_check_network D_check_passengers D_is_word D_is_place
  refine D.F.okX sc_send_early (fun vs H Q E h => ?_) (fun cdv A outer s H vs Q E hr h => ?_)
  · obtain ⟨v, u, N, p, qs, st, rfl, _⟩ := h
    rfl
  · obtain ⟨v, u, N, p, qs, st, rfl, hN, hV, hn8, hJ, hS, hO, k1, k2, q⟩ := h
    refine ⟨_, (pss_cons (ps_expr (pe_call (G_check_state) (hr.mono (by omega)) rfl D_check_state.g D_check_state.F.kp D_check_state.b .nil pass0 (pa_cons (pv 0) (pa_cons (pv 1) pa_nil))))
      (pss_one (ps_ret (pe_call (G_send_boat) (hr.mono (by omega)) rfl D_send_boat.g D_send_boat.F.kp D_send_boat.b .nil (passes_call (takes_of rfl rfl rfl rfl) fun _ _ _ _ h => h) (pa_cons (pv 0) (pa_cons (pv 1) (pa_cons (pv 2) pa_nil))))))), ?_⟩
    walk_at "run"
    refine ⟨v, u, N, p, qs, rfl, hN, hV, hS, hO, fun H1 e1 => ?_⟩
    exact ⟨v, u, N, p, qs, st, rfl, Dp.ex e1 hN, hV, hn8, hJ, Dp.ex e1 hS, hO, fun h H' e => k1 h H' (e1.trans e), fun h1 h2 H' e => k2 h1 h2 H' (e1.trans e), fun h1 h2 H' r e hd => q h1 h2 H' r (e1.trans e) fun H'' hn ht => hd H'' (fun x o hx => hn x o (fresh_back e1 hx)) ht⟩
end
end K
set_option Elab.async false
set_option linter.all false
set_option maxRecDepth 100000
set_option maxHeartbeats 1000000
namespace K
open PySem PySem.Spec PyProof.Rows L2 Evl FB
local macro_rules | `(tactic| walk_at "run") => `(tactic| try simp only [tSeq, tAsg, tVar, tC, gName, L2.start, List.map_cons, List.map_nil, List.cons_append, List.nil_append, List.length_cons, List.length_nil, List.replicate, List.getElem?_cons_zero, List.getElem?_cons_succ, Option.some.injEq, exists_eq_left', List.set_cons_zero, List.set_cons_succ, V.ref.injEq, tRet, x_tLst, x_tTup, tCons, tCB, tNil, tOp, x_addI, x_mulI, x_rI, x_rI0, x_ltI, x_leI, x_ltS, x_leS, x_eqI, x_neI, x_eqS, x_eqB, x_neB, x_isiI, x_isiS, x_int, x_max, x_min, cxOf, tIfS, tNext, tTest, V.bl.injEq, decide_eq_true_eq, gSub, tAnd, tOr, tNot, tB, tDrop, tBM, x_tFor, iRng1, iList, iTup, x_tLc, tYes, tCall, tIf, tAndV, tOrV, tNotV, tChain, List.append_nil, tUn, if_true, wipe, true_and, x_never, iU, x_itS, kV, Nat.reduceAdd, Nat.reduceSub, List.replicate_zero, x_rU, x_tMkO, iEnumT, x_tDc, x_tDGet, x_tDGet2, x_sDPut, x_tDSetd, x_tDNewK, x_iItems, x_iZip, x_tSAddK, x_tLockV, x_tTupRg, x_tRg2, tPar, tPar3, tBM0])
section
variable {P : Program} {w : World} {K : PySem.W.Frag} {mg : Str → Option Value} {base : Heap}
abbrev s_remove_passenger : Stmt := top 36
theorem sc_remove_passenger : FnScope ["state", "passenger", "next_passenger", "queues", "left", "queue", "other"] ["state", "passenger"] (defScope s_remove_passenger) := ⟨rfl, rfl, rfl, by decide +kernel, rfl, by decide +kernel, by decide +kernel⟩
/-- without x -/
def leftQ (x : Int) (qs : Qs) : Qs := qs.map fun q => q.filter fun y => !decide (y = x)
theorem dp_ints {H : Hp} : ∀ {q : List Int} {vs : List V}, DpAll K H vs (q.map PyData.int) → vs = q.map V.int
  | [], _, .nil => rfl
  | i :: q, _, .cons h hs => by rw [h.int_inv, dp_ints hs]; rfl
theorem flat_ints (q : List Int) : (q.map V.int).all flatV = true := by
  rw [List.all_eq_true]
  intro z hz
  obtain ⟨i, _, rfl⟩ := List.mem_map.mp hz
  rfl
theorem inV_ints {x : Int} : ∀ {q : List Int}, inV (.int x) (q.map V.int) = decide (x ∈ q)
  | [] => rfl
  | i :: q => by
    show (eqV (.int i) (.int x) || inV (.int x) (q.map V.int)) = _
    rw [inV_ints]
    by_cases e : i = x
    · subst e; simp [eqV]
    · have : ¬ x = i := fun z => e z.symm
      simp [eqV, e, this]
theorem any_flat {x : Int} : ∀ {qs : Qs}, ((qs.map fun q => decide (x ∈ q)).any id) = decide (x ∈ qs.flatten)
  | [] => rfl
  | q :: r => by
    rw [List.map_cons, List.any_cons, any_flat, List.flatten_cons]
    simp [List.mem_append]
def spLeave (K : PySem.W.Frag) (C : Addr) : Sp := fun vs H Q E => ∃ (v u : V) (N : Net) (p : Int) (qs : Qs) (x : Int), vs = [v, u, .int x] ∧ NetAt K H v N ∧ ValidN N ∧ Dp K H u (stateD p qs) ∧ StOk N p qs ∧
  (x ∉ qs.flatten → ∀ H', Ex H H' → E (.ref C) none H') ∧ (x ∈ qs.flatten → ∀ H' r, Ex H H' → Dp K H' r (stateD p (leftQ x qs)) → Q r H')
def spRemove (K : PySem.W.Frag) (C : Addr) : Sp := fun vs H Q E => ∃ (u : V) (p : Int) (qs : Qs) (x : Int), vs = [u, .int x] ∧ Dp K H u (stateD p qs) ∧ qs.length ≤ 40 ∧ (∀ q ∈ qs, q.length ≤ 8) ∧
  (x ∉ qs.flatten → ∀ H', Ex H H' → E (.ref C) none H') ∧ (x ∈ qs.flatten → ∀ H' r, Ex H H' → Dp K H' r (stateD p (leftQ x qs)) → Q r H')
theorem ok_remove_passenger {f C : Addr} {fd : FuncData} (D : Df K mg "remove_passenger" s_remove_passenger ["state", "passenger"] f fd) (T : Bt mg) (Z : Rz K mg "UnknownPassenger" C) : FnOk P w K mg base (L2.CX P w) 1 f fd ["state", "passenger"] (spRemove K C) := by
  refine D.F.okX sc_remove_passenger (fun vs H Q E h => ?_) (fun cdv A outer s H vs Q E hr h => ?_)
  · obtain ⟨u, p, qs, x, rfl, _⟩ := h
    rfl
  · obtain ⟨u, p, qs, x, rfl, hS, hql, hq8, k1, q⟩ := h
    have hu := hr.units
    refine ⟨_, (pss_cons (ps_asg (pv 0) (pg_tup rfl (pgs_cons (pg_name (i := 2) sc_remove_passenger.nd rfl (Or.inl rfl)) (pgs_cons (pg_name (i := 3) sc_remove_passenger.nd rfl (Or.inl rfl)) pgs_nil))))
      (pss_cons (ps_if (pt_not (pt_val (pe_callB (call_anyU (K := K) rfl) (by rfl) T.b_any (by decide +kernel) (pa_cons (pe_lc (own := [("queue", 5)]) (g := gName 5) (tt := tYes) rfl sc_remove_passenger.nd (pi_U (K := K) (pv 3)) (blkOk_by (own := [("queue", 5)]) (N := ["state", "passenger", "next_passenger", "queues", "left", "queue", "other"]) (sc := defScope s_remove_passenger) (by decide +kernel)) (fun _ _ _ _ _ => (pg_name (i := 5) sc_remove_passenger.nd rfl (Or.inl rfl))) (fun _ _ _ _ _ => pts_nil) (fun _ _ _ _ _ => (pe_cmpR ((op_inU (K := K) (P := P) (w := w))) (pv 1) (pv 5) (by rfl)))) pa_nil)))) (pss_one (ps_raise rfl (takes_of rfl rfl rfl rfl) (pmk_own PySem.F.excBase_ValueError Z.xP Z.g Z.kP (raises_own Z.bP Z.tP) rfl))) pss_nil)
      (pss_cons (ps_setLc (i := 4) (own := [("queue", 5)]) (g := gName 5) (tt := tYes) rfl sc_remove_passenger.nd rfl rfl (sw_true rfl rfl rfl (by decide +kernel)) (pi_U (K := K) (pv 3)) (blkOk_by (own := [("queue", 5)]) (N := ["state", "passenger", "next_passenger", "queues", "left", "queue", "other"]) (sc := defScope s_remove_passenger) (by decide +kernel)) (fun _ _ _ _ _ => (pg_name (i := 5) sc_remove_passenger.nd rfl (Or.inl rfl))) (fun _ _ _ _ _ => pts_nil) (fun _ _ _ _ _ => (pe_callTy (call_tupU (K := K)) (by rfl) T.b_tuple (by decide +kernel) (pa_cons (pe_lc (own := [("other", 6)]) (g := gName 6) (tt := _) rfl sc_remove_passenger.nd (pi_U (K := K) (pv 5)) (blkOk_by (own := [("other", 6)]) (N := ["state", "passenger", "next_passenger", "queues", "left", "queue", "other"]) (sc := _) (by dsimp only [Cx.blk, compEnvC, cxOf, envOfC, relabel, Env.kindOf]; rfl)) (fun _ _ _ _ _ => (pg_name (i := 6) sc_remove_passenger.nd rfl (Or.inl rfl))) (fun _ _ _ _ _ => (pts_one (pt_cmpR (op_neU (K := K) hu) (pv 6) (pv 1) (nomark _)))) (fun _ _ _ _ _ => (pv 6))) pa_nil))))
      (pss_one (ps_ret (pe_tup (pa_cons (pv 2) (pa_cons (pe_callTy (call_tupU (K := K)) (by rfl) T.b_tuple (by decide +kernel) (pa_cons (pv 4) pa_nil)) pa_nil)))))))), ?_⟩
    walk_at "run"
    have e1 : Ex H H := Ex.refl H
    obtain ⟨a, y, rfl, hSa, hy⟩ := state_at hS
    refine x_two (ex_t e1 hSa) ?_
    obtain ⟨b, ts, rfl, hT, hts⟩ := qs_at hy
    have htl : ts.length = qs.length := by rw [hts.len, List.length_map]
    walk_at "run"
    refine x_itT (ex_t e1 hT) (lcl_it walk_tup (fun D i H' => Ex H H' ∧ H' D = some (.lst (((qs.take i).map fun q => decide (x ∈ q)).map V.bl))) (fun D H' hD e h => ⟨e, by simpa using h⟩) (fun D i H' _ h => ex_t (e1.trans h.1) hT) ?_ ?_)
    · rintro D i z H2 H2' hD hi ⟨e2, hL⟩ ⟨eH, hx⟩
      subst eH
      obtain ⟨d, hd, hz⟩ := hts.get' hx
      obtain ⟨qi, hq, rfl⟩ : ∃ qi, qs[i]? = some qi ∧ qD qi = d := by simpa using hd
      obtain ⟨c, cs, rfl, hC, hcs⟩ := Dp.tup_inv hz
      obtain rfl := dp_ints hcs
      walk_at "run"
      refine .inl ⟨c, qi.map V.int, rfl, .inr (ex_t (e1.trans e2) hC), rfl, flat_ints qi, ?_⟩
      rw [if_neg Bool.false_ne_true, inV_ints]
      refine x_push hL (by simp; omega) fun H3 e3 h3 => ⟨fun o u h => e3 _ _ (ne_of_none h hD) (e2 _ _ h), ?_⟩
      rw [h3, List.take_add_one, hq, List.map_append, List.map_append]
      rfl
    · rintro D H2 hD ⟨e2, hL⟩
      rw [htl, List.take_length] at hL
      refine ⟨D, _, rfl, SqL.of hL, ?_⟩
      rw [any_flat]
      walk_at "run"
      by_cases hm : x ∈ qs.flatten
      · rw [if_neg (by simp [hm])]
        refine x_itT (ex_t (e1.trans e2) hT) (lcl_it walk_tup (fun D i H' => Ex H2 H' ∧ LsAt K H' D ((leftQ x (qs.take i)).map qD)) (fun D H' hD e h => ⟨e, ⟨⟨[], h, .nil⟩⟩⟩) (fun D i H' _ h => ex_t ((e1.trans e2).trans h.1) hT) ?_ ?_)
        · rintro D2 i z H3 H3' hD2 hi ⟨e3, hL3⟩ ⟨eH, hx⟩
          subst eH
          obtain ⟨d, hd, hz⟩ := hts.get' hx
          obtain ⟨qi, hq, rfl⟩ : ∃ qi, qs[i]? = some qi ∧ qD qi = d := by simpa using hd
          obtain ⟨c, cs, rfl, hC, hcs⟩ := Dp.tup_inv hz
          obtain rfl := dp_ints hcs
          have hC3 := ex_t ((e1.trans e2).trans e3) hC
          have hqi := hq8 qi (List.mem_of_getElem? hq)
          walk_at "run"
          refine x_itT hC3 (lcl_it walk_tup (fun D3 m H' => Ex H3' H' ∧ H' D3 = some (.lst (((qi.take m).filter fun y => !decide (y = x)).map V.int))) (fun D3 H' _ e h => ⟨e, by simpa using h⟩) (fun D3 m H' _ h => ex_t h.1 hC3) ?_ ?_)
          · rintro D3 m z H4 H4' hD3 hm3 ⟨e4, h4⟩ ⟨eH, hx3⟩
            subst eH
            rw [List.length_map] at hm3
            obtain ⟨yy, hyy, rfl⟩ : ∃ yy, qi[m]? = some yy ∧ V.int yy = z := by simpa using hx3
            have hf : ((qi.take m).filter fun y => !decide (y = x)).length ≤ m := Nat.le_trans (List.length_filter_le _ _) (by rw [List.length_take]; omega)
            walk_at "run"
            by_cases hyx : yy = x
            · rw [if_neg (by simp [hyx])]
              refine ⟨e4, ?_⟩
              rw [h4, List.take_add_one, hyy, List.filter_append]
              simp [hyx]
            · rw [if_pos (by simp [hyx])]
              refine x_push h4 (by rw [List.length_map]; omega) fun H5 e5 h5 => ⟨fun o u h => e5 _ _ (ne_of_none h hD3) (e4 _ _ h), ?_⟩
              rw [h5, List.take_add_one, hyy, List.filter_append]
              simp [hyx]
          · rintro D3 H4 hD3 ⟨e4, h4⟩
            rw [List.length_map, List.take_length] at h4
            refine x_tupL (SqL.of h4) fun t H5 n5 e5 h5 => ?_
            obtain ⟨ls, hls, hlsd⟩ := hL3.ex
            have hll : ls.length ≤ i := by rw [hlsd.len, List.length_map]; unfold leftQ; rw [List.length_map, List.length_take]; omega
            have e35 : Ex H3' H5 := e4.trans e5
            refine x_push (e35 _ _ hls) (by omega) fun H6 e6 h6 => ?_
            have hDt : D2 ≠ t := ne_of_none (e4 _ _ hls) n5
            have t6 : TX H5 H6 := TX.but (e35 _ _ hls) e6
            refine ⟨fun o u h => e6 _ _ (ne_of_none h hD2) (e35 _ _ (e3 _ _ h)), ⟨⟨_, h6, ?_⟩⟩⟩
            have hlt : leftQ x (qs.take (i + 1)) = leftQ x (qs.take i) ++ [qi.filter fun y => !decide (y = x)] := by
              unfold leftQ
              rw [List.take_add_one, hq, List.map_append]; rfl
            rw [hlt, List.map_append]
            refine DpAll.append (DpAll.tx ((TX.of e35).trans t6) hlsd fun d hd => ?_) (.cons (.tup (SqT.of (e6 _ _ hDt.symm h5)) (ints_dp _)) .nil)
            obtain ⟨q', _, rfl⟩ := List.mem_map.mp hd
            exact qA_t pdI q'
        · rintro D2 H3 hD2 ⟨e3, hL3⟩
          rw [htl, List.take_length] at hL3
          walk_at "run"
          obtain ⟨ls, hls, hlsd⟩ := hL3.ex
          refine x_tupL (SqL.of hls) fun t H4 n4 e4 h4 => x_tup (by simp) fun r H5 n5 e5 h5 => ?_
          refine q hm H5 _ (fun o u h => e5 _ _ (e4 _ _ (e3 _ _ (e2 _ _ (e1 _ _ h))))) ?_
          exact .tup (SqT.of h5) (.cons (.int p) (.cons (.tup (SqT.of (e5 _ _ h4)) (DpAll.ex (fun o u h => e5 _ _ (e4 _ _ h)) hlsd)) .nil))
      · rw [if_pos (by simp [hm])]
        exact k1 hm H2 (e1.trans e2)
abbrev s_leave : Stmt := top 33
theorem sc_leave : FnScope ["network", "state", "passenger"] ["network", "state", "passenger"] (defScope s_leave) := ⟨rfl, rfl, rfl, by decide +kernel, rfl, by decide +kernel, by decide +kernel⟩
theorem ok_leave {f f1 C : Addr} {fd fd1 : FuncData} (D : Df K mg "leave" s_leave ["network", "state", "passenger"] f fd) (T : Bt mg) (Ck : Ct K mg) (DD : DState K mg) (D_remove_passenger : Df K mg "remove_passenger" s_remove_passenger ["state", "passenger"] f1 fd1) (Z : Rz K mg "UnknownPassenger" C) : FnOk P w K mg base (L2.CX P w) 6 f fd ["network", "state", "passenger"] (spLeave K C) := by
  obtain ⟨g1, gd1, D_is_word⟩ := DD.is_word
  obtain ⟨g2, gd2, D_is_place⟩ := DD.is_place
  obtain ⟨g3, gd3, D_check_network⟩ := DD.check_network
  obtain ⟨g4, gd4, D_check_passengers⟩ := DD.check_passengers
  obtain ⟨g5, gd5, D_check_state⟩ := DD.check_state
  have G_check_state : FnOk P w K mg base CX0 5 g5 gd5 _ _ := ok_check_state D_check_state T Ck D_check_network D_check_passengers D_is_word D_is_place
  have G_remove_passenger : FnOk P w K mg base (L2.CX P w) 1 f1 fd1 _ _ := ok_remove_passenger D_remove_passenger T Z
  refine D.F.okX sc_leave (fun vs H Q E h => ?_) (fun cdv A outer s H vs Q E hr h => ?_)
  · obtain ⟨v, u, N, p, qs, x, rfl, _⟩ := h
    rfl
  · obtain ⟨v, u, N, p, qs, x, rfl, hN, hV, hS, hO, k1, q⟩ := h
    refine ⟨_, (pss_cons (ps_expr (pe_call (G_check_state) (hr.mono (by decide)) rfl D_check_state.g D_check_state.F.kp D_check_state.b .nil pass0 (pa_cons (pv 0) (pa_cons (pv 1) pa_nil))))
      (pss_one (ps_ret (pe_call (G_remove_passenger) (hr.mono (by decide)) rfl D_remove_passenger.g D_remove_passenger.F.kp D_remove_passenger.b .nil (passes_call (takes_of rfl rfl rfl rfl) fun _ _ _ _ h => h) (pa_cons (pv 1) (pa_cons (pv 2) pa_nil)))))), ?_⟩
    walk_at "run"
    refine ⟨v, u, N, p, qs, rfl, hN, hV, hS, hO, fun H1 e1 => ?_⟩
    have h40 := hV.le
    have hql := hO.len
    have hq8 : ∀ q ∈ qs, q.length ≤ 8 := fun q hq => by
      obtain ⟨k, hk⟩ := List.mem_iff_getElem?.mp hq
      have hkl := (List.getElem?_eq_some_iff.mp hk).1
      obtain ⟨s, hs⟩ : ∃ s, N[k]? = some s := ⟨N[k]'(by omega), List.getElem?_eq_getElem (by omega)⟩
      have h1 := hO.lt k q s hk hs
      have h2 := (hV.cnt.st s (List.mem_of_getElem? hs)).2
      omega
    exact ⟨u, p, qs, x, rfl, Dp.ex e1 hS, by omega, hq8, fun h H' e => k1 h H' (e1.trans e), fun h H' r e => q h H' r (e1.trans e)⟩
end
end K
set_option Elab.async false
set_option linter.all false
set_option maxRecDepth 100000
set_option maxHeartbeats 4000000
namespace K
open PySem PySem.Spec PyProof.Rows L2 Evl FB
local macro_rules | `(tactic| walk_at "run") => `(tactic| try simp only [tSeq, tAsg, tVar, tC, gName, L2.start, List.map_cons, List.map_nil, List.cons_append, List.nil_append, List.length_cons, List.length_nil, List.replicate, List.getElem?_cons_zero, List.getElem?_cons_succ, Option.some.injEq, exists_eq_left', List.set_cons_zero, List.set_cons_succ, V.ref.injEq, tRet, x_tLst, x_tTup, tCons, tCB, tNil, tOp, x_addI, x_mulI, x_rI, x_rI0, x_ltI, x_leI, x_ltS, x_leS, x_eqI, x_neI, x_eqS, x_eqB, x_neB, x_isiI, x_isiS, x_int, x_max, x_min, cxOf, tIfS, tNext, tTest, V.bl.injEq, decide_eq_true_eq, gSub, tAnd, tOr, tNot, tB, tDrop, tBM, x_tFor, iRng1, iList, iTup, x_tLc, tYes, tCall, tIf, tAndV, tOrV, tNotV, tChain, List.append_nil, tUn, if_true, wipe, true_and, x_never, iU, x_itS, kV, Nat.reduceAdd, Nat.reduceSub, List.replicate_zero, x_rU, x_tMkO, iEnumT])
/-- an own error class with an __init__ of its own, at C; its __init__ at fI -/
structure Er (K : PySem.W.Frag) (mg : Str → Option Value) (x : Str) (C fI : Addr) : Prop where
  O : OexC K C
  g : mg x = some (.ref C)
  iC : PySem.W.findIn K (.ref C) "__init__" = some (some (.ref fI))
  tI : PySem.W.typeIn K (.ref fI) = some (.type "function")
/-- the first seat from the j-th on that leads nowhere -/
def seatBad (k n : Int) : Nat → List Key → Option Nat
  | _, [] => none
  | j, p :: r => if placeB k n p = true then seatBad k n (j + 1) r else some j
/-- what is wrong at the station k -/
def stBad (n : Int) (k : Nat) (s : List Key) : Option Int :=
  if k = 40 ∨ ¬ (1 ≤ s.length ∧ s.length ≤ 8) then some (-1) else (seatBad k n 0 s).map (fun (j : Nat) => (j : Int))
/-- the first fault from the k-th station on -/
def netBad (n : Int) : Nat → Net → Option (Int × Int)
  | _, [] => none
  | k, s :: r => match stBad n k s with
    | some j => some (k, j)
    | none => netBad n (k + 1) r
def firstBad (N : Net) : Option (Int × Int) := if N.length = 0 then some (0, -1) else netBad N.length 0 N
/-- nothing in it is very long -/
def SmN (N : Net) : Prop := N.length ≤ 1000 ∧ ∀ s ∈ N, s.length ≤ 1000 ∧ ∀ p ∈ s, ∀ z, p = Sum.inr z → z.length ≤ 1000
abbrev s_init : Stmt := inClass (top 2) 0
theorem sc_init : FnScope ["self", "station", "seat"] ["self", "station", "seat"] (defScope s_init) := ⟨rfl, rfl, rfl, by decide +kernel, rfl, by decide +kernel, by decide +kernel⟩
section
variable {P : Program} {w : World} {K : PySem.W.Frag} {mg : Str → Option Value} {base : Heap}
def spInit (C : Addr) : Sp := fun vs H Q _ => ∃ (a : Addr) (s t : V), vs = [.ref a, s, t] ∧ H a = some (exo a C none) ∧ ∀ (d : Addr) (H' : Hp), H d = none → H' a = some (exo a C (some d)) → H' d = some (exd d [("seat", t), ("station", s)]) → (∀ x o, x ≠ a → H x = some o → H' x = some o) → Q .non H'
theorem ok_init {f C fI : Addr} {fd : FuncData} (F : Fun K "__init__" "InvalidNetwork.__init__" s_init f fd) (N_E : Er K mg "InvalidNetwork" C fI) (n1 : PySem.W.findIn K (.ref C) "station" = some none) (n2 : PySem.W.findIn K (.ref C) "seat" = some none) :
    FnOk P w K mg base CX0 1 f fd ["self", "station", "seat"] (spInit C) := by
  refine F.ok sc_init (fun vs H Q E h => ?_) (fun cdv A outer s H vs Q E hr h => ?_)
  · obtain ⟨a, s, t, rfl, _⟩ := h
    rfl
  · obtain ⟨a, s, t, rfl, hA, k⟩ := h
    refine ⟨_, pss_cons (ps_ost (pv 0) (pv 1)) (pss_one (ps_ost (pv 0) (pv 2))), ?_⟩
    walk_at "run"
    refine ⟨_, rfl, _, rfl, a, C, rfl, N_E.O, n1, .inl ⟨hA, fun d hd hda => ?_⟩⟩
    refine ⟨_, rfl, _, rfl, a, C, rfl, N_E.O, n2, .inr ⟨d, _, upd_same, by rw [upd_ne hda, upd_same], by simp, ?_⟩⟩
    refine k d _ hd (by rw [upd_ne hda.symm, upd_same]) upd_same fun x o hx e => ?_
    rw [upd_ne (ne_of_none e hd), upd_ne hx, upd_ne (ne_of_none e hd)]
    exact e
theorem x_init {C : Addr} {s t : V} {H : Hp} {Q : XK} (k : ∀ d H', Ex H H' → H d = none → H' d = some (.xd [("seat", t), ("station", s)]) → Q (.ref C) (some d) H') : rMk C (spInit C) [] [s, t] H Q := by
  refine ⟨by simp, fun a ha => ⟨a, s, t, rfl, upd_same, fun d H' hd h1 h2 h3 => ⟨rfl, d, _, h1, h2, ?_, ?_⟩⟩⟩
  · by_cases z : d = a
    · rw [z]; exact ha
    · rw [upd_ne z] at hd; exact hd
  · have hdn : H d = none := by
      by_cases z : d = a
      · rw [z]; exact ha
      · rw [upd_ne z] at hd; exact hd
    refine k d _ (fun x o hx => ?_) hdn upd_same
    rw [upd_ne (ne_of_none hx hdn), del_ne (ne_of_none hx ha)]
    exact h3 _ _ (ne_of_none hx ha) (by rw [upd_ne (ne_of_none hx ha)]; exact hx)
/-- N stands at v: nothing happens, or the error of its first fault -/
def spCheck (K : PySem.W.Frag) (C : Addr) : Sp := fun vs H Q E => ∃ (v : V) (N : Net), vs = [v] ∧ NetAt K H v N ∧ SmN N ∧ (firstBad N = none → ∀ H', Ex H H' → Q .non H') ∧
  ∀ k j, firstBad N = some (k, j) → ∀ d H', Ex H H' → H d = none → H' d = some (.xd [("seat", .int j), ("station", .int k)]) → E (.ref C) (some d) H'
theorem ok_check_network {f f1 f2 C fI : Addr} {fd fd1 fd2 fdI : FuncData} (D : Df K mg "check_network" s_check_network ["network"] f fd) (T : Bt mg) (Ck : Ct K mg) (D_is_word : Df K mg "is_word" s_is_word ["text"] f1 fd1)
    (D_is_place : Df K mg "is_place" s_is_place ["place", "station", "stations"] f2 fd2) (N_E : Er K mg "InvalidNetwork" C fI) (D_init_F : Fun K "__init__" "InvalidNetwork.__init__" s_init fI fdI) (D_init_b : Binds K fdI ["self", "station", "seat"] [])
    (n1 : PySem.W.findIn K (.ref C) "station" = some none) (n2 : PySem.W.findIn K (.ref C) "seat" = some none) :
    FnOk P w K mg base (L2.CX P w) 4 f fd ["network"] (spCheck K C) := by
  have G_is_place : FnOk P w K mg base CX0 3 f2 fd2 _ _ := ok_is_place D_is_place T Ck D_is_word
  have G_init : FnOk P w K mg base CX0 1 fI fdI _ _ := ok_init D_init_F N_E n1 n2
  refine D.F.okX sc_check_network (fun vs H Q E h => ?_) (fun cdv A outer s H vs Q E hr h => ?_)
  · obtain ⟨v, N, rfl, _⟩ := h
    rfl
  · obtain ⟨v, N, rfl, hN, hS, k1, k2⟩ := h
    have hu := hr.units
    obtain ⟨tML, g_MAX_STATIONS⟩ := Ck.g_MAX_STATIONS
    obtain ⟨tMS, g_MAX_SEATS⟩ := Ck.g_MAX_SEATS
    refine ⟨_, (pss_cons (ps_if (pt_cmpR (op_eqU (K := K) hu) (pe_callB (call_lenU (K := K)) (by rfl) T.b_len (by decide +kernel) (pa_cons (pv 0) pa_nil)) pe_int (nomark _)) (pss_one (ps_raise rfl (takes_of rfl rfl rfl rfl) (pmk_oex (N_E.O) N_E.iC N_E.tI G_init (hr.mono (by decide)) D_init_b .nil pass0 rfl N_E.g (pa_cons pe_int (pa_cons (pe_un un_neg pe_int) pa_nil))))) pss_nil)
      (pss_one (ps_for (passes_of rfl) rfl (pi_enumT (by rfl) T.b_enumerate (pa_cons (pv 0) pa_nil)) (pg_tup rfl (pgs_cons (pg_name (i := 1) sc_check_network.nd rfl (Or.inl rfl)) (pgs_cons (pg_name (i := 2) sc_check_network.nd rfl (Or.inl rfl)) pgs_nil))) (pss_cons (ps_if (PW.pt (pw_or (pt_cmpR (op_eqU (K := K) hu) (pv 1) (pe_glob (v := .int 40) rfl g_MAX_STATIONS ⟨_, rfl⟩) (nomark _)) (pw_or1 (pt_not (pt_chain (op_leU) (op_leU) pe_int (pe_callB (call_lenU (K := K)) (by rfl) T.b_len (by decide +kernel) (pa_cons (pv 2) pa_nil)) (pe_glob (v := .int 8) rfl g_MAX_SEATS ⟨_, rfl⟩)))))) (pss_one (ps_raise rfl (takes_of rfl rfl rfl rfl) (pmk_oex (N_E.O) N_E.iC N_E.tI G_init (hr.mono (by decide)) D_init_b .nil pass0 rfl N_E.g (pa_cons (pv 1) (pa_cons (pe_un un_neg pe_int) pa_nil))))) pss_nil)
      (pss_one (ps_for (passes_of rfl) rfl (pi_enumT (by rfl) T.b_enumerate (pa_cons (pv 2) pa_nil)) (pg_tup rfl (pgs_cons (pg_name (i := 3) sc_check_network.nd rfl (Or.inl rfl)) (pgs_cons (pg_name (i := 4) sc_check_network.nd rfl (Or.inl rfl)) pgs_nil))) (pss_one (ps_if (pt_not (pt_val (pe_call (G_is_place) (hr.mono (by decide)) rfl D_is_place.g D_is_place.F.kp D_is_place.b .nil pass0 (pa_cons (pv 4) (pa_cons (pv 1) (pa_cons (pe_callB (call_lenU (K := K)) (by rfl) T.b_len (by decide +kernel) (pa_cons (pv 0) pa_nil)) pa_nil)))))) (pss_one (ps_raise rfl (takes_of rfl rfl rfl rfl) (pmk_oex (N_E.O) N_E.iC N_E.tI G_init (hr.mono (by decide)) D_init_b .nil pass0 rfl N_E.g (pa_cons (pv 1) (pa_cons (pv 3) pa_nil))))) pss_nil)))))))), ?_⟩
    walk_at "run"
    obtain ⟨a, ts, rfl, hT, hts⟩ := hN.at
    have hl : ts.length = N.length := by rw [hts.len, List.length_map]
    refine x_lenT hT ?_
    rw [hl]
    walk_at "run"
    by_cases h0 : N.length = 0
    · rw [if_pos (by omega)]
      exact x_init fun d H' e hd h => k2 0 (-1) (if_pos h0) d H' e hd h
    rw [if_neg (by omega)]
    have hR : firstBad N = netBad N.length 0 N := if_neg h0
    refine ⟨_, _, rfl, hT, loop_it walk_enumT (fun i σ H' => ∃ u1 u2 u3 u4, σ = [some (.ref a), u1, u2, u3, u4] ∧ Ex H H' ∧ netBad N.length i (N.drop i) = netBad N.length 0 N) ⟨_, _, _, _, rfl, Ex.refl H, rfl⟩
      (fun i σ H' _ ⟨_, _, _, _, _, e, _⟩ => ex_t e hT) ?_ ?_⟩
    · rintro i v σ H1 H2 hi ⟨u1, u2, u3, u4, rfl, e1, hb⟩ ⟨T0, x, y, rfl, hT0, rfl, hx, hy⟩
      obtain rfl : V.int (i : Nat) = x := Option.some.inj hx
      have e2 : Ex H (upd H1 T0 (.tup [.int (i : Nat), y])) := e1.trans (Ex.new hT0)
      refine x_two (SqT.of upd_same) ?_
      generalize upd H1 T0 (.tup [.int (i : Nat), y]) = H2 at e2
      obtain ⟨sD, hs, hy2⟩ := hts.get' hy
      obtain ⟨s, hsN, rfl⟩ : ∃ s, N[i]? = some s ∧ stD s = sD := by simpa using hs
      obtain ⟨b, rfl, hB⟩ := StAt.at hy2
      have hm : s ∈ N := List.mem_of_getElem? hsN
      obtain ⟨s1, s2⟩ := hS.2 s hm
      have hd : N.drop i = s :: N.drop (i + 1) := by
        obtain ⟨q, e⟩ := List.getElem?_eq_some_iff.mp hsN
        rw [List.drop_eq_getElem_cons q, e]
      rw [hd] at hb
      have hb1 : (match stBad N.length i s with
        | some j => some ((i : Int), j)
        | none => netBad N.length (i + 1) (N.drop (i + 1))) = netBad N.length 0 N := hb
      have bad : ∀ j : Int, stBad N.length i s = some j → firstBad N = some ((i : Int), j) := fun j h => by
        rw [hR, ← hb1, h]
      have fine : stBad N.length i s = none → netBad N.length (i + 1) (N.drop (i + 1)) = netBad N.length 0 N := fun h => by
        rw [← hb1, h]
      walk_at "run"
      by_cases h40 : i = 40
      · rw [if_pos (by omega)]
        exact x_init fun d H' e hd h => k2 i (-1) (bad _ (if_pos (.inl h40))) d H' (e2.trans e) (fresh_back e2 hd) h
      rw [if_neg (by omega)]
      refine x_lenT (ex_t e2 hB) ?_
      rw [List.length_map]
      walk_at "run"
      have wrong : ¬ (1 ≤ s.length ∧ s.length ≤ 8) → rMk C (spInit C) [] [V.int (i : Nat), V.int (-1)] H2 fun cls d H' => E cls d H' := fun z =>
        x_init fun d H' e hd h => k2 i (-1) (bad _ (if_pos (.inr z))) d H' (e2.trans e) (fresh_back e2 hd) h
      by_cases g1 : 1 ≤ s.length
      · rw [if_pos (by omega)]
        by_cases g8 : s.length ≤ 8
        · rw [if_neg (by simp; omega)]
          have sb : stBad N.length i s = (seatBad i N.length 0 s).map (fun (j : Nat) => (j : Int)) := if_neg (fun z => z.elim h40 (fun h => h ⟨g1, g8⟩))
          refine ⟨_, _, rfl, ex_t e2 hB, loop_it walk_enumT (fun j σ H' => ∃ u3 u4, σ = [some (.ref a), some (.int i), some (.ref b), u3, u4] ∧ Ex H H' ∧ seatBad i N.length j (s.drop j) = seatBad i N.length 0 s) ⟨_, _, rfl, e2, rfl⟩
            (fun j σ H' _ ⟨_, _, _, e, _⟩ => ex_t e hB) ?_ ?_⟩
          · rintro j v σ H3 H4 hj ⟨u3, u4, rfl, e3, hb3⟩ ⟨T1, x, y, rfl, hT1, rfl, hx, hy⟩
            obtain rfl : V.int (j : Nat) = x := Option.some.inj hx
            have e4 : Ex H (upd H3 T1 (.tup [.int (j : Nat), y])) := e3.trans (Ex.new hT1)
            refine x_two (SqT.of upd_same) ?_
            generalize upd H3 T1 (.tup [.int (j : Nat), y]) = H4 at e4
            obtain ⟨p, hp, rfl⟩ : ∃ p, s[j]? = some p ∧ kV p = y := by simpa using hy
            have hd2 : s.drop j = p :: s.drop (j + 1) := by
              obtain ⟨q, e⟩ := List.getElem?_eq_some_iff.mp hp
              rw [List.drop_eq_getElem_cons q, e]
            rw [hd2] at hb3
            have hb4 : (if placeB i N.length p = true then seatBad i N.length (j + 1) (s.drop (j + 1)) else some j) = seatBad i N.length 0 s := hb3
            walk_at "run"
            refine x_lenT (ex_t e4 hT) ?_
            rw [hl]
            refine ⟨p, i, N.length, rfl, fun z hz => s2 p (List.mem_of_getElem? hp) z hz, fun H5 e5 => ⟨_, rfl, ?_⟩⟩
            have e6 := e4.trans e5
            by_cases hg : placeB i N.length p = true
            · rw [if_neg (by rw [hg]; decide)]
              rw [if_pos hg] at hb4
              exact ⟨_, _, rfl, e6, hb4⟩
            · rw [if_pos (by simpa using hg)]
              rw [if_neg hg] at hb4
              exact x_init fun d H' e hd h => k2 i j (bad _ (by rw [sb, ← hb4]; rfl)) d H' (e6.trans e) (fresh_back e6 hd) h
          · rintro σ H3 ⟨u3, u4, rfl, e3, hb3⟩
            refine ⟨_, _, _, _, rfl, e3, fine ?_⟩
            rw [sb, ← hb3, List.length_map, List.drop_length]
            rfl
        · rw [if_pos (by simp; omega)]
          exact wrong (fun z => g8 z.2)
      · rw [if_neg (by omega)]
        rw [if_pos (by decide)]
        exact wrong (fun z => g1 z.1)
    · rintro σ H1 ⟨u1, u2, u3, u4, rfl, e1, hb⟩
      refine k1 ?_ H1 e1
      rw [hR, ← hb, hl, List.drop_length]
      rfl
end
end K
set_option Elab.async false
set_option linter.all false
set_option maxRecDepth 100000
set_option maxHeartbeats 1000000
namespace K
open PySem PySem.Spec PyProof.Rows L2 Evl FB
local macro_rules | `(tactic| walk_at "run") => `(tactic| try simp only [tSeq, tAsg, tVar, tC, gName, L2.start, List.map_cons, List.map_nil, List.cons_append, List.nil_append, List.length_cons, List.length_nil, List.replicate, List.getElem?_cons_zero, List.getElem?_cons_succ, Option.some.injEq, exists_eq_left', List.set_cons_zero, List.set_cons_succ, V.ref.injEq, tRet, x_tLst, x_tTup, tCons, tCB, tNil, tOp, x_addI, x_mulI, x_rI, x_rI0, x_ltI, x_leI, x_ltS, x_leS, x_eqI, x_neI, x_eqS, x_eqB, x_neB, x_isiI, x_isiS, x_int, x_max, x_min, cxOf, tIfS, tNext, tTest, V.bl.injEq, decide_eq_true_eq, gSub, tAnd, tOr, tNot, tB, tDrop, tBM, x_tFor, iRng1, iList, iTup, x_tLc, tYes, tCall, tIf, tAndV, tOrV, tNotV, tChain, List.append_nil, tUn, if_true, wipe, true_and, x_never, iU, x_itS, kV, Nat.reduceAdd, Nat.reduceSub, List.replicate_zero, x_rU, x_tMkO, iEnumT, x_tDc, x_tDGet, x_tDGet2, x_sDPut, x_tDSetd, x_tDNewK, x_iItems, x_iZip, x_tSAddK, x_tLockV, x_tTupRg, x_tRg2, tPar, tPar3, tBM0, tSl, tNoPart, tPart])
section
variable {P : Program} {w : World} {K : PySem.W.Frag} {mg : Str → Option Value} {base : Heap}
abbrev s_change_seat : Stmt := top 37
theorem sc_change_seat : FnScope ["network", "station", "seat", "place", "seats", "changed"] ["network", "station", "seat", "place"] (defScope s_change_seat) := ⟨rfl, rfl, rfl, by decide +kernel, rfl, by decide +kernel, by decide +kernel⟩
/-- the seat se of the station st leads to pl -/
def replN (N : Net) (st se : Nat) (pl : Key) : Net := N.set st ((N.getD st []).set se pl)
def spRepl (K : PySem.W.Frag) (C1 C2 C : Addr) : Sp := fun vs H Q E => ∃ (v : V) (N : Net) (st se : Int) (pl : Key), vs = [v, .int st, .int se, kV pl] ∧ NetAt K H v N ∧ ValidN N ∧ (∀ z, pl = .inr z → z.length ≤ 1000) ∧
  (¬ (0 ≤ st ∧ st < N.length) → ∀ H', Ex H H' → E (.ref C1) none H') ∧
  ((0 ≤ st ∧ st < N.length) → ¬ (0 ≤ se ∧ se < (N.getD st.toNat []).length) → ∀ H', Ex H H' → E (.ref C2) none H') ∧
  ((0 ≤ st ∧ st < N.length) → (0 ≤ se ∧ se < (N.getD st.toNat []).length) → ∀ k j, firstBad (replN N st.toNat se.toNat pl) = some (k, j) → ∀ d H', Ex H H' → H d = none → H' d = some (.xd [("seat", .int j), ("station", .int k)]) → E (.ref C) (some d) H') ∧
  ((0 ≤ st ∧ st < N.length) → (0 ≤ se ∧ se < (N.getD st.toNat []).length) → firstBad (replN N st.toNat se.toNat pl) = none → ∀ H' r, Ex H H' → NetAt K H' r (replN N st.toNat se.toNat pl) → Q r H')
theorem ok_change_seat {f f1 f2 f3 f4 C1 C2 C fI : Addr} {fd fd1 fd2 fd3 fd4 fdI : FuncData} (D : Df K mg "change_seat" s_change_seat ["network", "station", "seat", "place"] f fd) (T : Bt mg) (Ck : Ct K mg)
    (D_check_network : Df K mg "check_network" s_check_network ["network"] f1 fd1) (D_is_word : Df K mg "is_word" s_is_word ["text"] f2 fd2) (D_is_place : Df K mg "is_place" s_is_place ["place", "station", "stations"] f3 fd3) (D_check_station : Df K mg "check_station" s_check_station ["network", "station"] f4 fd4)
    (N_E : Er K mg "InvalidNetwork" C fI) (D_init_F : Fun K "__init__" "InvalidNetwork.__init__" s_init fI fdI) (D_init_b : Binds K fdI ["self", "station", "seat"] []) (n1 : PySem.W.findIn K (.ref C) "station" = some none) (n2 : PySem.W.findIn K (.ref C) "seat" = some none)
    (Z1 : Rz K mg "UnknownStation" C1) (Z2 : Rz K mg "UnknownSeat" C2) : FnOk P w K mg base (L2.CX P w) 5 f fd ["network", "station", "seat", "place"] (spRepl K C1 C2 C) := by
  have G_check_network : FnOk P w K mg base (L2.CX P w) 4 f1 fd1 _ _ := ok_check_network D_check_network T Ck D_is_word D_is_place N_E D_init_F D_init_b n1 n2
  have G_check_station : FnOk P w K mg base (L2.CX P w) 1 f4 fd4 _ _ := ok_check_station D_check_station T Z1
  refine D.F.okX sc_change_seat (fun vs H Q E h => ?_) (fun cdv A outer s H vs Q E hr h => ?_)
  · obtain ⟨v, N, st, se, pl, rfl, _⟩ := h
    rfl
  · obtain ⟨v, N, st, se, pl, rfl, hN, hV, hpl, k1, k2, k3, q⟩ := h
    have hu := hr.units
    refine ⟨_, (pss_cons (ps_expr (pe_call (G_check_station) (hr.mono (by decide)) rfl D_check_station.g D_check_station.F.kp D_check_station.b .nil (passes_call (takes_of rfl rfl rfl rfl) fun _ _ _ _ h => h) (pa_cons (pv 0) (pa_cons (pv 1) pa_nil))))
      (pss_cons (ps_set (i := 4) sc_change_seat.nd rfl (Or.inl rfl) (pe_callTy (call_listU (K := K)) (by rfl) T.b_list (by decide +kernel) (pa_cons (pe_ix (ix_U (K := K)) (pv 0) (pv 1) (fun _ _ => rfl)) pa_nil)))
      (pss_cons (ps_if (pt_not (pt_chain (op_leU) (op_ltU) pe_int (pv 2) (pe_callB (call_lenU (K := K)) (by rfl) T.b_len (by decide +kernel) (pa_cons (pv 4) pa_nil)))) (pss_one (ps_raise rfl (takes_of rfl rfl rfl rfl) (pmk_own PySem.F.excBase_ValueError Z2.xP Z2.g Z2.kP (raises_own Z2.bP Z2.tP) rfl))) pss_nil)
      (pss_cons (ps_asg (pv 3) (pg_sub (pv 4) (pv 2) set_list))
      (pss_cons (ps_set (i := 5) sc_change_seat.nd rfl (Or.inl rfl) (pe_op (op_addU (K := K)) (pe_op (op_addU (K := K)) (pe_slice (sl_U (K := K)) (pv 0) po_none (po_some (pv 1))) (pe_tup (pa_cons (pe_callTy (call_tupU (K := K)) (by rfl) T.b_tuple (by decide +kernel) (pa_cons (pv 4) pa_nil)) pa_nil))) (pe_slice (sl_U (K := K)) (pv 0) (po_some (pe_op (op_addU (K := K)) (pv 1) pe_int)) po_none)))
      (pss_cons (ps_expr (pe_call (G_check_network) (hr.mono (by decide)) rfl D_check_network.g D_check_network.F.kp D_check_network.b .nil (passes_call (takes_of rfl rfl rfl rfl) fun _ _ _ _ h => h) (pa_cons (pv 5) pa_nil)))
      (pss_one (ps_ret (pv 5))))))))), ?_⟩
    generalize hkx : kV pl = x
    have hx : ∀ H : Hp, Dp K H x (keyD pl) := fun H => by rw [← hkx]; exact key_dp pl
    walk_at "run"
    have e1 : Ex H H := Ex.refl H
    have h40 := hV.le
    refine ⟨v, N, st, rfl, Dp.ex e1 hN, by omega, fun hst => ?_, fun h => k1 h H e1⟩
    obtain ⟨j, rfl⟩ : ∃ j : Nat, st = (j : Int) := ⟨st.toNat, by omega⟩
    have hj : j < N.length := by omega
    have k2' := k2 hst
    have k3' := k3 hst
    have q' := q hst
    rw [Int.toNat_natCast] at k2' k3' q'
    clear k1 k2 k3 q
    obtain ⟨vn, us, rfl, hU, hus⟩ := hN.at
    have hul : us.length = N.length := by rw [hus.len, List.length_map]
    obtain ⟨sv, hsv, hsd⟩ := hus.get (show (N.map stD)[j]? = some (stD (N.getD j [])) by simp [List.getD_eq_getElem?_getD, hj])
    obtain ⟨c, rfl, hcs⟩ := StAt.at hsd
    have hs8 : (N.getD j []).length ≤ 8 := (hV.cnt.st _ (by rw [List.getD_eq_getElem?_getD, List.getElem?_eq_getElem hj]; exact List.getElem_mem hj)).2
    refine x_ixT (ex_t e1 hU) (atI_nat hsv) (x_listT (ex_t e1 hcs) fun L H2 nL e2 hL => ?_)
    have bad : ¬ (0 ≤ se ∧ se < (N.getD j []).length) → E (.ref C2) none H2 := fun h => k2' h H2 (e1.trans e2)
    by_cases h0 : 0 ≤ se
    · rw [if_pos h0]
      refine x_lenL (SqL.of hL) ?_
      rw [List.length_map]
      walk_at "run"
      by_cases h1 : se < (N.getD j []).length
      · rw [if_neg (by rw [decide_eq_true h1]; decide)]
        obtain ⟨i, rfl⟩ : ∃ i : Nat, se = (i : Int) := ⟨se.toNat, by omega⟩
        have hi : i < (N.getD j []).length := by omega
        have k3'' := k3' ⟨h0, h1⟩
        have q'' := q' ⟨h0, h1⟩
        rw [Int.toNat_natCast] at k3'' q''
        clear k2' k3' q' bad
        have hix : ixN ((N.getD j []).map kV).length (i : Int) = some i := by unfold ixN; rw [List.length_map, if_pos (by omega), if_pos (by omega)]; simp
        refine x_setL hL hix fun H3 e3 h3 => ?_
        have e12 : Ex H H2 := e1.trans e2
        have e3x : Ex H H3 := fun o u h => e3 _ _ (ne_of_none (e1 _ _ h) nL) (e12 _ _ h)
        refine ⟨_, rfl, x_cutT (ex_t e3x hU) fun A1 H4 e4 hA1 => ?_⟩
        rw [cut_take (by omega)] at hA1
        refine x_tupL (SqL.of (e4 _ _ h3)) fun t5 H5 n5 e5 h5 => x_tup (by simp) fun t6 H6 n6 e6 h6 => ?_
        refine x_catT (ex_t (e5.trans e6) hA1) (SqT.of h6) (by simp; omega) fun A2 H7 e7 hA2 => ⟨_, rfl, ?_⟩
        have e37 : Ex H3 H7 := fun o u h => e7 _ _ (e6 _ _ (e5 _ _ (e4 _ _ h)))
        refine x_cutT (ex_t (e3x.trans e37) hU) fun A3 H8 e8 hA3 => ?_
        rw [show ((j : Int) + 1) = ((j + 1 : Nat) : Int) by omega, cut_drop (by omega)] at hA3
        refine x_catT (ex_t e8 hA2) hA3 (by simp; omega) fun A4 H9 e9 hA4 => ?_
        have e39 : Ex H3 H9 := fun o u h => e9 _ _ (e8 _ _ (e37 _ _ h))
        have e0 : Ex H H9 := e3x.trans e39
        have hset : us.take j ++ [V.ref t5] ++ us.drop (j + 1) = us.set j (.ref t5) := by
          rw [List.set_eq_take_append_cons_drop, if_pos (by omega)]
          simp
        rw [hset] at hA4
        have hR : NetAt K H9 (.ref A4) (replN N j i pl) := by
          refine .tup hA4 ?_
          unfold replN
          rw [List.map_set]
          refine DpAll.set (DpAll.ex e0 hus) ?_
          unfold stD
          rw [List.map_set]
          refine .tup (SqT.of (e9 _ _ (e8 _ _ (e7 _ _ (e6 _ _ h5))))) ?_
          exact DpAll.set (keys_dp _) (hx _)
        have hS : SmN (replN N j i pl) := by
          have old : ∀ s ∈ N, s.length ≤ 1000 ∧ ∀ p ∈ s, ∀ z, p = Sum.inr z → z.length ≤ 1000 := fun s hs => by
            obtain ⟨k, hk⟩ := List.mem_iff_getElem?.mp hs
            obtain ⟨_, b, c⟩ := hV.st k s hk
            exact ⟨by omega, fun p hp => (c p hp).2⟩
          refine ⟨by unfold replN; rw [List.length_set]; omega, fun s hs => ?_⟩
          rcases List.mem_or_eq_of_mem_set hs with h | rfl
          · exact old s h
          · have hm : N.getD j [] ∈ N := by rw [List.getD_eq_getElem?_getD, List.getElem?_eq_getElem hj]; exact List.getElem_mem hj
            obtain ⟨_, b⟩ := old _ hm
            refine ⟨by rw [List.length_set]; omega, fun p hp z hz => ?_⟩
            rcases List.mem_or_eq_of_mem_set hp with h | rfl
            · exact b p h z hz
            · exact hpl z hz
        exact ⟨_, _, rfl, hR, hS, fun hb H' e => q'' hb H' _ (e0.trans e) (Dp.ex e hR), fun k m hb d H' e hd hx2 => k3'' k m hb d H' (e0.trans e) (fresh_back e0 hd) hx2⟩
      · rw [if_pos (by rw [decide_eq_false h1]; rfl)]
        exact bad fun z => h1 z.2
    · rw [if_neg h0, if_pos (by rfl)]
      exact bad fun z => h0 z.1
abbrev s_replace_seat : Stmt := top 34
theorem sc_replace_seat : FnScope ["network", "station", "seat", "place"] ["network", "station", "seat", "place"] (defScope s_replace_seat) := ⟨rfl, rfl, rfl, by decide +kernel, rfl, by decide +kernel, by decide +kernel⟩
theorem ok_replace_seat {f f1 f2 f3 f5 C1 C2 C : Addr} {fd fd1 fd2 fd3 fd5 : FuncData} (D : Df K mg "replace_seat" s_replace_seat ["network", "station", "seat", "place"] f fd) (T : Bt mg) (Ck : Ct K mg)
    (D_check_network : Df K mg "check_network" s_check_network ["network"] f1 fd1) (D_is_word : Df K mg "is_word" s_is_word ["text"] f2 fd2) (D_is_place : Df K mg "is_place" s_is_place ["place", "station", "stations"] f3 fd3)
    (D_change_seat : Df K mg "change_seat" s_change_seat ["network", "station", "seat", "place"] f5 fd5) (G_change_seat : FnOk P w K mg base (L2.CX P w) 5 f5 fd5 ["network", "station", "seat", "place"] (spRepl K C1 C2 C)) : FnOk P w K mg base (L2.CX P w) 6 f fd ["network", "station", "seat", "place"] (spRepl K C1 C2 C) := by
  have G_check_network0 : FnOk P w K mg base CX0 4 f1 fd1 _ _ := ok_check_network0 D_check_network T Ck D_is_word D_is_place
  refine D.F.okX sc_replace_seat (fun vs H Q E h => ?_) (fun cdv A outer s H vs Q E hr h => ?_)
  · obtain ⟨v, N, st, se, pl, rfl, _⟩ := h
    rfl
  · obtain ⟨v, N, st, se, pl, rfl, hN, hV, hpl, k1, k2, k3, q⟩ := h
    refine ⟨_, (pss_cons (ps_expr (pe_call (G_check_network0) (hr.mono (by decide)) rfl D_check_network.g D_check_network.F.kp D_check_network.b .nil pass0 (pa_cons (pv 0) pa_nil)))
      (pss_one (ps_ret (pe_call (G_change_seat) (hr.mono (by decide)) rfl D_change_seat.g D_change_seat.F.kp D_change_seat.b .nil (passes_call (takes_of rfl rfl rfl rfl) fun _ _ _ _ h => h) (pa_cons (pv 0) (pa_cons (pv 1) (pa_cons (pv 2) (pa_cons (pv 3) pa_nil)))))))), ?_⟩
    generalize hkx : kV pl = x
    walk_at "run"
    refine ⟨v, N, rfl, hN, hV, fun H1 e1 => ?_⟩
    exact ⟨v, N, st, se, pl, by rw [hkx], Dp.ex e1 hN, hV, hpl, fun h H' e => k1 h H' (e1.trans e), fun a b H' e => k2 a b H' (e1.trans e), fun a b k j c d H' e hd => k3 a b k j c d H' (e1.trans e) (fresh_back e1 hd), fun a b c H' r e => q a b c H' r (e1.trans e)⟩
end
end K
set_option Elab.async false
set_option linter.all false
set_option maxRecDepth 100000
set_option maxHeartbeats 1000000
namespace K
open PySem PySem.Spec PyProof.Rows L2 Evl FB LamX
local macro_rules | `(tactic| walk_at "run") => `(tactic| try simp only [tSeq, tAsg, tVar, tC, gName, L2.start, List.map_cons, List.map_nil, List.cons_append, List.nil_append, List.length_cons, List.length_nil, List.replicate, List.getElem?_cons_zero, List.getElem?_cons_succ, Option.some.injEq, exists_eq_left', List.set_cons_zero, List.set_cons_succ, V.ref.injEq, tRet, x_tLst, x_tTup, tCons, tCB, tNil, tOp, x_addI, x_mulI, x_rI, x_rI0, x_ltI, x_leI, x_ltS, x_leS, x_eqI, x_neI, x_eqS, x_eqB, x_neB, x_isiI, x_isiS, x_int, x_max, x_min, cxOf, tIfS, tNext, tTest, V.bl.injEq, decide_eq_true_eq, gSub, tAnd, tOr, tNot, tB, tDrop, tBM, x_tFor, iRng1, iList, iTup, x_tLc, tYes, tCall, tIf, tAndV, tOrV, tNotV, tChain, List.append_nil, tUn, if_true, wipe, true_and, x_never, iU, x_itS, kV, Nat.reduceAdd, Nat.reduceSub, List.replicate_zero, x_rU, x_tMkO, iEnumT, x_tDc, x_tDGet, x_tDGet2, x_sDPut, x_tDSetd, x_tDNewK, x_iItems, x_iZip, x_tSAddK, x_tLockV, x_tTupRg, x_tRg2, tPar, tPar3, tBM0, tSl, tNoPart, tPart])
section
variable {P : Program} {w : World} {K : PySem.W.Frag} {mg : Str → Option Value} {base : Heap}
abbrev s_l_sent_right : Stmt := top 48
theorem sc_l_sent_right : FnScope ["_law_h", "_law_network_here", "_law_state_here", "_law_size", "_law_error_here", "_law_queues", "_law_finished", "_law_due", "_law_results", "_law_station", "_law_queue"] ["_law_h", "_law_network_here", "_law_state_here"] (defScope s_l_sent_right) := ⟨rfl, rfl, rfl, by decide +kernel, rfl, by decide +kernel, by decide +kernel⟩
/-- data that can be compared, not deep, not long -/
structure Fine (n : Nat) (d : PyData) : Prop where
  lay : d.canLay0 = true
  dep : d.depth ≤ n
  sm : SmD d
theorem fine_int (i : Int) : Fine 1 (.int i) := ⟨rfl, by simp [PyData.depth], .int i⟩
theorem fine_str {z : Str} (h : PyData.strOk z = true) : Fine 1 (.str z) := ⟨by rw [PyData.canLay0]; exact h, by simp [PyData.depth], .str z⟩
theorem fine_tup {n : Nat} {ds : List PyData} (hl : ds.length ≤ 1000000) (h : ∀ d ∈ ds, Fine n d) : Fine (n + 1) (.tuple ds) :=
  ⟨by rw [PyData.canLay0]; exact layAll fun d hd => (h d hd).lay, by rw [PyData.depth]; have := depthAll_le fun d hd => (h d hd).dep; omega, .tup hl fun d hd => (h d hd).sm⟩
theorem fine_lst {n : Nat} {ds : List PyData} (hl : ds.length ≤ 1000000) (h : ∀ d ∈ ds, Fine n d) : Fine (n + 1) (.list ds) :=
  ⟨by rw [PyData.canLay0]; exact layAll fun d hd => (h d hd).lay, by rw [PyData.depth]; have := depthAll_le fun d hd => (h d hd).dep; omega, .lst hl fun d hd => (h d hd).sm⟩
theorem Fine.mono {n m : Nat} {d : PyData} (h : Fine n d) (e : n ≤ m) : Fine m d := ⟨h.lay, Nat.le_trans h.dep e, h.sm⟩
theorem Fine.shaped {n : Nat} {d : PyData} (h : Fine n d) (e : n ≤ 64) : SeqAt.shaped d = true := shaped_mk h.lay (Nat.le_trans h.dep e)
theorem fine_state {p : Int} {qs : Qs} (h1 : qs.length ≤ 1000000) (h2 : ∀ q ∈ qs, q.length ≤ 1000000) : Fine 4 (stateD p qs) := by
  refine fine_tup (by simp) fun d hd => ?_
  simp only [List.mem_cons, List.not_mem_nil, or_false] at hd
  rcases hd with rfl | rfl
  · exact (fine_int p).mono (by decide)
  · refine fine_tup (by rw [List.length_map]; exact h1) fun d hd => ?_
    obtain ⟨q, hq, rfl⟩ := List.mem_map.mp hd
    refine fine_tup (by rw [List.length_map]; exact h2 q hq) fun d hd => ?_
    obtain ⟨i, _, rfl⟩ := List.mem_map.mp hd
    exact fine_int i
theorem fine_sent {p : Int} {qs : Qs} {fs : List (Str × Int)} (h1 : qs.length ≤ 1000000) (h2 : ∀ q ∈ qs, q.length ≤ 1000000) (h3 : fs.length ≤ 1000000) (h4 : ∀ x ∈ fs, PyData.strOk x.1 = true) : Fine 5 (sentD p qs fs) := by
  refine fine_tup (by simp) fun d hd => ?_
  simp only [List.mem_cons, List.not_mem_nil, or_false] at hd
  rcases hd with rfl | rfl
  · exact fine_state h1 h2
  · refine (fine_lst (n := 2) (by rw [List.length_map]; exact h3) fun d hd => ?_).mono (by decide)
    obtain ⟨x, hx, rfl⟩ := List.mem_map.mp hd
    refine fine_tup (by simp) fun d hd => ?_
    simp only [List.mem_cons, List.not_mem_nil, or_false] at hd
    rcases hd with rfl | rfl
    · exact fine_str (h4 x hx)
    · exact fine_int x.2
theorem ok_W4 : ∀ z ∈ W4, PyData.strOk z = true := by decide +kernel
theorem Drawn.fin {N : Net} {most : Int} {α : Type} [Inhabited α] {es : EvsA α} (D : Drawn N most) (h : FinS N es) : ∀ x ∈ finOf es, PyData.strOk x.1 = true := fun x hx => by
  obtain ⟨k, hk⟩ := h x hx
  rw [List.getD_eq_getElem?_getD] at hk
  cases e : N[k]? with
  | none => rw [e] at hk; cases hk
  | some s =>
    rw [e] at hk
    exact ok_W4 _ ((D.st k s e).2.2 _ hk)
def lamQ (q : Str) : Str := q ++ "<lambda>"
def spSent (K : PySem.W.Frag) (T0 : List (Addr × Str)) : Sp := fun vs H Q _ => ∃ (h b : Addr) (v u : V) (N : Net) (p : Int) (qs : Qs), vs = [.ref h, v, u] ∧ Gen H h b ∧ NetAt K H v N ∧ Drawn N 8 ∧ Dp K H u (stateD p qs) ∧ StOk N p qs ∧ Tabs T0 H ∧ ∀ H', Gen H' h b → ExN h b H H' → Tabs T0 H' → Q (.bl true) H'
theorem ok_l_sent_right {T0 : List (Addr × Str)} {c Pt : Addr} {f g1 g2 g3 g4 g5 f1 CF : Addr} {fd gd1 gd2 gd3 gd4 gd5 fd1 : FuncData} {C : Nat → Addr} (D : Df K mg "_law_sent_right" s_l_sent_right ["_law_h", "_law_network_here", "_law_state_here"] f fd) (hc : fd.code = .ref c) (TB : TabB base mg c Pt) (T : Bt mg) (R : Errs K mg CF C)
    (hmT : (Pt, (("_law_sent_right" : Str) ++ (".<locals>." : Str)) ++ ("<lambda>" : Str)) ∈ T0) (huT : ∀ p ∈ T0, p.1 = Pt → p.2 = (("_law_sent_right" : Str) ++ (".<locals>." : Str)) ++ ("<lambda>" : Str))
    (D_l_next : Df K mg "_law_next" s_l_next ["_law_h", "_law_limit"] g1 gd1) (D_l_error : Df K mg "_law_error" s_l_error ["_law_call"] g2 gd2) (D_l_depart : Df K mg "_law_depart" s_l_depart ["_law_network_here", "_law_queues", "_law_station", "_law_finished"] g3 gd3) (D_l_join : Df K mg "_law_join" s_l_join ["_law_network_here", "_law_queues", "_law_station", "_law_passenger", "_law_finished"] g4 gd4) (D_l_alike : Df K mg "_law_alike" s_l_alike ["_law_found", "_law_due"] g5 gd5)
    (D_send_early : Df K mg "send_early" s_send_early ["network", "state", "station"] f1 fd1) (G_send_early : FnOk P w K mg base (L2.CX P w) 18 f1 fd1 ["network", "state", "station"] (spSend K 8 (C 3) (C 7))) (G_l_alike : FnOk P w K mg base CX0 8 g5 gd5 ["_law_found", "_law_due"] (spAlike K 8)) :
    FnOk P w K mg base CX0 21 f fd ["_law_h", "_law_network_here", "_law_state_here"] (spSent K T0) := by
  have G_l_next : FnOk P w K mg base CX0 1 g1 gd1 _ _ := ok_l_next D_l_next T
  have G_l_depart : FnOk P w K mg base CX0 16 g3 gd3 _ _ := (ok_l_pair D_l_join T D_l_depart 8).1
  refine okC D.F hc sc_l_sent_right (fun vs H Q E h => ?_) (fun A outer s H vs Q E hr h => ?_)
  · obtain ⟨h, b, v, u, N, p, qs, rfl, _⟩ := h
    rfl
  · obtain ⟨h, b, v, u, N, p, qs, rfl, g0, hN, hD, hS, hO, hT0, q⟩ := h
    have hu := hr.units
    refine ⟨_, (pss_cons (ps_asg (pe_tup (pa_cons (pe_callB (call_lenU (K := K)) (by rfl) T.b_len (by decide +kernel) (pa_cons (pv 1) pa_nil)) (pa_cons (pe_lst pa_nil) pa_nil))) (pg_tup rfl (pgs_cons (pg_name (i := 3) sc_l_sent_right.nd rfl (Or.inl rfl)) (pgs_cons (pg_name (i := 8) sc_l_sent_right.nd rfl (Or.inr rfl)) pgs_nil))))
      (pss_cons (ps_set (i := 9) sc_l_sent_right.nd rfl (Or.inr rfl) (pe_ix (ix_U (K := K)) (pe_lst (pa_cons (pe_call (G_l_next) (hr.mono (by decide)) rfl D_l_next.g D_l_next.F.kp D_l_next.b .nil pass0 (pa_cons (pv 0) (pa_cons (pv 3) pa_nil))) (pa_cons (pe_un un_neg pe_int) (pa_cons (pv 3) pa_nil)))) (pe_op op_fdivN (pe_call (G_l_next) (hr.mono (by decide)) rfl D_l_next.g D_l_next.F.kp D_l_next.b .nil pass0 (pa_cons (pv 0) (pa_cons pe_int pa_nil))) pe_int) (fun _ _ => rfl)))
      (pss_cons (ps_set (i := 4) sc_l_sent_right.nd rfl (Or.inl rfl) (pe_err (t := fun E => tBM K "list" rAppend (tVar 8) (tCons (tCall (spSend K 8 (C 3) (C 7)) [] E (tCons (tVar 1) (tCons (tVar 2) (tCons (tVar 9) tNil)))) tNil)) D_l_error R T rfl TB rfl hmT huT hr (lamS_by (by rfl)) rfl (fun _ _ _ _ _ => rfl) (by intro A outer s H E f c hr2; exact (pe_bm PySem.F.plainAttrs_list PySem.F.slot_list_append PySem.F.type_list_append mt_append (pv 8) (pa_cons (pe_call (G_send_early) (hr2.mono (by decide)) rfl D_send_early.g D_send_early.F.kp D_send_early.b .nil (passes_call (takes_of rfl rfl rfl rfl) fun _ _ _ _ h => h) (pa_cons (pv 1) (pa_cons (pv 2) (pa_cons (pv 9) pa_nil)))) pa_nil)))))
      (pss_cons (ps_if (pt_not (pt_chain (op_leU) (op_ltU) pe_int (pv 9) (pv 3))) (pss_one (ps_ret (pe_cmpR (op_eqU (K := K) hu) (pv 4) (pe_tup (pa_cons pe_str pa_nil)) (nomark _)))) pss_nil)
      (pss_cons (ps_if (pt_cmpR (op_eqU (K := K) hu) (pe_ix (ix_U (K := K)) (pe_ix (ix_U (K := K)) (pv 2) pe_int (fun _ _ => rfl)) (pv 9) (fun _ _ => rfl)) (pe_tup pa_nil) (nomark _)) (pss_one (ps_ret (pe_cmpR (op_eqU (K := K) hu) (pv 4) (pe_tup (pa_cons pe_str pa_nil)) (nomark _)))) pss_nil)
      (pss_cons (ps_par (i := 5) (j := 6) (by rfl) sc_l_sent_right.nd rfl rfl (by decide) rfl rfl (pa_cons (pe_lc (own := [("_law_queue", 10)]) (g := gName 10) (tt := tYes) rfl sc_l_sent_right.nd (pi_U (K := K) (pe_ix (ix_U (K := K)) (pv 2) pe_int (fun _ _ => rfl))) (blkOk_by (own := [("_law_queue", 10)]) (N := ["_law_h", "_law_network_here", "_law_state_here", "_law_size", "_law_error_here", "_law_queues", "_law_finished", "_law_due", "_law_results", "_law_station", "_law_queue"]) (sc := defScope s_l_sent_right) (by decide +kernel)) (fun _ _ _ _ _ => (pg_name (i := 10) sc_l_sent_right.nd rfl (Or.inl rfl))) (fun _ _ _ _ _ => pts_nil) (fun _ _ _ _ _ => (pe_callTy (call_listU (K := K)) (by rfl) T.b_list (by decide +kernel) (pa_cons (pv 10) pa_nil)))) (pa_cons (pe_lst pa_nil) pa_nil)) (by rfl))
      (pss_cons (ps_expr (pe_call (G_l_depart) (hr.mono (by decide)) rfl D_l_depart.g D_l_depart.F.kp D_l_depart.b .nil pass0 (pa_cons (pv 1) (pa_cons (pv 5) (pa_cons (pv 9) (pa_cons (pv 6) pa_nil))))))
      (pss_cons (ps_set (i := 7) sc_l_sent_right.nd rfl (Or.inl rfl) (pe_tup (pa_cons (pe_tup (pa_cons (pe_ix (ix_U (K := K)) (pv 2) pe_int (fun _ _ => rfl)) (pa_cons (pe_callTy (call_tupU (K := K)) (by rfl) T.b_tuple (by decide +kernel) (pa_cons (pe_lc (own := [("_law_queue", 10)]) (g := gName 10) (tt := tYes) rfl sc_l_sent_right.nd (pi_U (K := K) (pv 5)) (blkOk_by (own := [("_law_queue", 10)]) (N := ["_law_h", "_law_network_here", "_law_state_here", "_law_size", "_law_error_here", "_law_queues", "_law_finished", "_law_due", "_law_results", "_law_station", "_law_queue"]) (sc := defScope s_l_sent_right) (by decide +kernel)) (fun _ _ _ _ _ => (pg_name (i := 10) sc_l_sent_right.nd rfl (Or.inl rfl))) (fun _ _ _ _ _ => pts_nil) (fun _ _ _ _ _ => (pe_callTy (call_tupU (K := K)) (by rfl) T.b_tuple (by decide +kernel) (pa_cons (pv 10) pa_nil)))) pa_nil)) pa_nil))) (pa_cons (pv 6) pa_nil))))
      (pss_one (ps_ret (pe_and (pe_cmpR (op_eqU (K := K) hu) (pv 4) (pe_tup (pa_cons pe_str pa_nil)) (nomark _)) (pe_one (pe_call (G_l_alike) (hr.mono (by decide)) rfl D_l_alike.g D_l_alike.F.kp D_l_alike.b .nil pass0 (pa_cons (pv 8) (pa_cons (pe_lst (pa_cons (pv 7) pa_nil)) pa_nil))))))))))))))), ?_⟩
    walk_at "run"
    obtain ⟨vn, us, rfl, hU, hus⟩ := hN.at
    have hul : us.length = N.length := by rw [hus.len, List.length_map]
    have hpos := hD.pos
    have hle := hD.le
    refine x_lenT hU (x_lst (by simp) fun Rl H1 nR e1 hR => x_tup (by simp) fun t1 H2 n2 e2 h2 => x_two (SqT.of h2) ?_)
    rw [hul]
    have e12 : Ex H H2 := fun x o h => e2 _ _ (e1 _ _ h)
    have hR2 := e2 _ _ hR
    walk_at "run"
    refine x_next (g0.ex e12) (by omega) (by omega) fun r H3 r0 r1 g3 e3 => ?_
    walk_at "run"
    refine x_lst (by simp) fun t4 H4 n4 e4 h4 => x_next (g3.ex e4) (by decide) (by decide) fun k H5 k0 k1 g5 e5 => ?_
    walk_at "run"
    refine ⟨⟨by decide, by decide⟩, ?_⟩
    have h45 : H5 t4 = some (.lst [.int r, .int (-1), .int (N.length : Nat)]) := e5 _ _ h4 ((g3.na n4)) (g3.nb n4)
    have hfd : k.fdiv 2 = k / 2 := Int.fdiv_eq_ediv_of_nonneg k (by decide)
    rw [hfd]
    refine x_menu h45 (by omega) (by simp; omega) fun sv _ hm => ?_
    obtain ⟨st, rfl, hs1, hs2⟩ : ∃ st : Int, V.int st = sv ∧ -1 ≤ st ∧ st ≤ N.length := by
      simp only [List.mem_cons, List.not_mem_nil, or_false] at hm
      rcases hm with rfl | rfl | rfl
      · exact ⟨r, rfl, by omega, by omega⟩
      · exact ⟨-1, rfl, by omega, by omega⟩
      · exact ⟨N.length, rfl, by omega, by omega⟩
    have t5 : Tabs T0 H5 := by
      obtain ⟨m2, c2, ns2, a2, b2, _⟩ := g0.ex e12
      obtain ⟨m4, c4, ns4, a4, b4, _⟩ := g3.ex e4
      exact tabs_ex2 a4 b4 ((tabs_ex2 a2 b2 (hT0.ext e12) e3).ext e4) e5
    have x5 : Ex2 h b H H5 := fun x o hx h1 h2 => e5 _ _ (e4 _ _ (e3 _ _ (e12 _ _ hx) h1 h2)) h1 h2
    have hR5 : H5 Rl = some (.lst []) := e5 _ _ (e4 _ _ (e3 _ _ hR2 (g0.na nR) (g0.nb nR))) (g0.na nR) (g0.nb nR)
    refine ⟨t5, fun H6 e6 t6 => ?_⟩
    have g6 : Gen H6 h b := by
      obtain ⟨m, c, ns, a, b, l⟩ := g5
      exact ⟨m, c, ns, e6 _ _ a (by simp), e6 _ _ b (by simp), l⟩
    have hR6 : H6 Rl = some (.lst []) := e6 _ _ hR5 (by simp)
    have x6 : ExN h b H H6 := (ExN.of2 x5).trans (ExN.ofN e6)
    have tx6 : TX H H6 := (g0.tx x5).trans (extN_tx e6)
    have hN6 : NetAt K H6 (.ref vn) N := Dp.tx tx6 hN (netD_t N)
    have hS6 : Dp K H6 u (stateD p qs) := Dp.tx tx6 hS (stateD_t p qs)
    unfold TErr
    walk_at "run"
    refine ⟨x_tyL (SqL.of hR6), _, u, N, p, qs, st, rfl, hN6, hD.valid (by decide), by omega, hD.jn (by decide), hS6, hO, fun hst H7 e7 => ?_, fun hst hem H7 e7 => ?_, fun hst hem H7 r7 e7 hr7 => ?_⟩
    · refine ⟨3, .non, .non, by decide, ⟨rfl, by rw [if_neg (by decide)]⟩, fun p9 H9 e9 h9 => ?_⟩
      have h9' : H9 p9 = some (.tup [.str "station"]) := h9
      have fin : ∀ H', Ex H9 H' → Q (.bl true) H' := fun H' e => q H' (((g6.ex e7).ex e9).ex e) (((x6.ex e7).ex e9).ex e) (((t6.ext e7).ext e9).ext e)
      by_cases h0 : 0 ≤ st
      · rw [if_pos h0]
        walk_at "run"
        rw [if_pos (by rw [decide_eq_false (by omega)]; rfl)]
        exact x_tell h9' (by decide +kernel) (by decide +kernel) fun H' e => fin H' e
      · rw [if_neg h0, if_pos (by rfl)]
        exact x_tell h9' (by decide +kernel) (by decide +kernel) fun H' e => fin H' e
    · refine ⟨7, .non, .non, by decide, ⟨rfl, by rw [if_neg (by decide)]⟩, fun p9 H9 e9 h9 => ?_⟩
      have h9' : H9 p9 = some (.tup [.str "empty"]) := h9
      have fin : ∀ H', Ex H9 H' → Q (.bl true) H' := fun H' e => q H' (((g6.ex e7).ex e9).ex e) (((x6.ex e7).ex e9).ex e) (((t6.ext e7).ext e9).ext e)
      obtain ⟨j, rfl⟩ : ∃ j : Nat, st = (j : Int) := ⟨st.toNat, by omega⟩
      have hS9 := Dp.ex e9 (Dp.ex e7 hS6)
      obtain ⟨ua, uy, rfl, hSa, hSy⟩ := state_at hS9
      obtain ⟨ub, ts, rfl, hT, hts⟩ := qs_at hSy
      rw [if_pos (by omega)]
      walk_at "run"
      rw [if_neg (by rw [decide_eq_true (by omega)]; decide)]
      have hjq : j < qs.length := by have := hO.len; omega
      obtain ⟨cq, hcq, hcd⟩ := hts.get (show (qs.map qD)[j]? = some (qD (qs.getD j [])) by simp [List.getD_eq_getElem?_getD, hjq])
      refine x_ixT hSa (v := .ref ub) rfl (x_ixT hT (atI_nat hcq) (x_eqEmptyT hcd fun H10 e10 => ?_))
      rw [Int.toNat_natCast] at hem
      refine ⟨_, rfl, ?_⟩
      rw [if_pos (by rw [hem]; rfl)]
      exact x_tell (e10 _ _ h9') (by decide +kernel) (by decide +kernel) fun H' e => fin H' (fun o x h => e _ _ (e10 _ _ h))
    · refine x_append (e7 _ _ hR6) (by simp) fun H8 e8 h8 => x_tup (by simp) fun p9 H9 n9 e9 h9 => ?_
      obtain ⟨j, rfl⟩ : ∃ j : Nat, st = (j : Int) := ⟨st.toNat, by omega⟩
      rw [Int.toNat_natCast] at hem hr7
      have nRl : ∀ x o, H6 x = none → H7 x = some o → H8 x = some o := fun x o h1 h2 => e8 _ _ (fun z => by rw [z, hR6] at h1; cases h1) h2
      have tx8 : TX H7 H8 := TX.but (e7 _ _ hR6) e8
      have tx69 : TX H6 H9 := ((TX.of e7).trans tx8).trans (TX.of e9)
      have g8 : Gen H8 h b := (g6.ex e7).but (g0.na nR) (g0.nb nR) e8
      have hS9 := Dp.tx tx69 hS6 (stateD_t p qs)
      obtain ⟨ua, uy, rfl, hSa, hSy⟩ := state_at hS9
      obtain ⟨ub, ts, rfl, hT, hts⟩ := qs_at hSy
      have htl : ts.length = qs.length := by rw [hts.len, List.length_map]
      have hql := hO.len
      rw [if_pos (by omega)]
      walk_at "run"
      rw [if_neg (by rw [decide_eq_true (by omega)]; decide)]
      have hjq : j < qs.length := by omega
      obtain ⟨cq, hcq, hcd⟩ := hts.get (show (qs.map qD)[j]? = some (qD (qs.getD j [])) by simp [List.getD_eq_getElem?_getD, hjq])
      refine x_ixT hSa (v := .ref ub) rfl (x_ixT hT (atI_nat hcq) (x_eqEmptyT hcd fun H10 e10 => ?_))
      refine ⟨_, rfl, ?_⟩
      rw [if_neg (by rw [decide_eq_false hem]; decide)]
      refine x_ixT (ex_t e10 hSa) (v := .ref ub) rfl (x_itT (ex_t e10 hT) ?_)
      have h8q : ∀ m, m < N.length → (qs.getD m []).length < (N.getD m []).length := fun m hm => by
        have h1 : qs[m]? = some (qs.getD m []) := by simp [List.getD_eq_getElem?_getD, hql, hm]
        have h2 : N[m]? = some (N.getD m []) := by simp [List.getD_eq_getElem?_getD, hm]
        exact hO.lt m _ _ h1 h2
      have hfl := flat_len hql hO.lt fun s hs => ((hD.valid (by decide)).cnt.st s hs).2
      refine lcl_it walk_tup (fun D i H' => ∃ as : List Addr, H' D = some (.lst (as.map V.ref)) ∧ as.length = i ∧ as.Nodup ∧ D ∉ as ∧ (∀ (m : Nat) a, as[m]? = some a → H10 a = none ∧ H' a = some (.lst ((qs.getD m []).map V.int))) ∧ Ex H10 H') (fun D H' hD e h => ⟨[], h, rfl, List.nodup_nil, by simp, by simp, e⟩) (fun D i H' _ ⟨_, _, _, _, _, _, e⟩ => ex_t e (ex_t e10 hT)) ?_ ?_
      · rintro D i x H11 H11' hDn hi ⟨as, hA, hl, nd, nm, has, e11⟩ ⟨eH, hx⟩
        subst eH
        obtain ⟨d, hd, hz⟩ := hts.get' hx
        obtain ⟨qi, hq, rfl⟩ : ∃ qi, qs[i]? = some qi ∧ qD qi = d := by simpa using hd
        obtain ⟨c1, cs, rfl, hC, hcs⟩ := Dp.tup_inv hz
        obtain rfl := dp_ints hcs
        walk_at "run"
        refine x_listT (ex_t e11 (ex_t e10 hC)) fun t H12 nt e12 ht => x_push (e12 _ _ hA) (by rw [List.length_map]; omega) fun H13 e13 h13 => ?_
        have hDt : D ≠ t := ne_of_none hA nt
        have hta : t ∉ as := fun z => by
          obtain ⟨m, hm⟩ := List.mem_iff_getElem?.mp z
          exact ne_of_none (has m t hm).2 nt rfl
        refine ⟨as ++ [t], by rw [h13, List.map_append]; rfl, by simp [hl], nd_snoc nd hta, by simp [nm, hDt], fun m a ha => ?_, fun x o hx => e13 _ _ (ne_of_none hx hDn) (e12 _ _ (e11 _ _ hx))⟩
        by_cases hm : m < as.length
        · rw [List.getElem?_append_left hm] at ha
          exact ⟨(has m a ha).1, e13 _ _ (fun z => nm (by rw [← z]; exact List.mem_of_getElem? ha)) (e12 _ _ (has m a ha).2)⟩
        · rw [List.getElem?_append_right (by omega)] at ha
          obtain ⟨z1, z2⟩ := List.getElem?_eq_some_iff.mp ha
          have hmi : m = i := by simp at z1; omega
          have hta2 : t = a := by simpa using z2
          subst hmi hta2
          refine ⟨fresh_back e11 nt, e13 _ _ hDt.symm ?_⟩
          rw [ht, List.getD_eq_getElem?_getD, hq]; rfl
      · rintro Qa H11 nQ ⟨as, hA, hl, nd, nm, has, e11⟩
        rw [htl] at hl
        have hQ11 : QsAt K H11 Qa as qs := ⟨hA, hl, nd, nm, fun m a h => (has m a h).2⟩
        refine x_lst (by simp) fun Fa H12 nF e12 hF => ⟨_, _, rfl, ?_⟩
        have hFQ : Fa ≠ Qa := (ne_of_none hA nF).symm
        have hFa : Fa ∉ as := fun z => by
          obtain ⟨m, hm⟩ := List.mem_iff_getElem?.mp z
          exact ne_of_none (has m Fa hm).2 nF rfl
        have e912 : Ex H9 H12 := fun x o h => e12 _ _ (e11 _ _ (e10 _ _ h))
        have hN12 : NetAt K H12 (.ref vn) N := Dp.tx (tx69.trans (TX.of e912)) hN6 (netD_t N)
        refine ⟨_, N, Qa, Fa, as, qs, [], j, rfl, hN12, hD.jn (by decide), hQ11.ex e12, ⟨⟨[], hF, .nil⟩⟩, hFQ, hFa, hql, fun m hm _ => h8q m hm, Nat.le_of_lt (h8q j (by omega)), by omega, by omega, by rw [List.length_nil]; omega, fun H13 ex3 hQ13 hF13 => ?_⟩
        rw [List.nil_append] at hF13
        have e1013 : Ex H10 H13 := fun x o h => ex3 x o (e12 _ _ (e11 _ _ h)) (ne_of_none (e11 _ _ h) nF) (fun z => by
          obtain ⟨m, hm⟩ := List.mem_iff_getElem?.mp z
          exact ne_of_none h (has m x hm).1 rfl)
        generalize hqs' : (departW (α := Int) N 8 qs j).1 = qs' at hQ13 hr7
        generalize hfs' : finOf (departW (α := Int) N 8 qs j).2 = fs' at hF13 hr7
        refine x_ixT (ex_t e1013 (ex_t e10 hSa)) (v := .int p) rfl (x_itL (SqL.of hQ13.at_) ?_)
        have hpm := departW_pm (α := Int) (hD.jn (by decide)).fw 8 qs j hjq hql (Nat.le_of_lt (h8q j (by omega)))
        have hfin := hD.fin (departW_s (N := N) (α := Int) 8 qs j)
        rw [hqs', hfs'] at hpm
        rw [hfs'] at hfin
        have hln := hpm.2.length_eq
        rw [List.length_append, List.length_map] at hln
        have hq1 : ∀ q ∈ qs', q.length ≤ qs'.flatten.length := fun q hq => by
          obtain ⟨u1, u2, rfl⟩ := List.append_of_mem hq
          simp; omega
        have hfine : Fine 6 (.list [sentD p qs' fs']) := fine_lst (by simp) fun d hd => by
          rw [List.mem_singleton.mp hd]
          exact fine_sent (by omega) (fun q hq => by have := hq1 q hq; omega) (by omega) hfin
        have hasl := hQ13.len
        refine lcl_it walk_list (fun D i H' => Ex H13 H' ∧ LsAt K H' D ((qs'.take i).map qD)) (fun D H' hD e h => ⟨e, ⟨⟨[], h, .nil⟩⟩⟩) (fun D i H' _ h => SqL.of (h.1 _ _ hQ13.at_)) ?_ ?_
        · rintro D i x H14 H14' hDn hi ⟨e14, hL⟩ ⟨eH, hx⟩
          subst eH
          rw [List.length_map] at hi
          obtain ⟨a, ha, rfl⟩ : ∃ a, as[i]? = some a ∧ V.ref a = x := by simpa using hx
          have hqa := hQ13.q i a ha
          obtain ⟨qi, hq⟩ : ∃ qi, qs'[i]? = some qi := ⟨qs'[i]'(by omega), List.getElem?_eq_getElem (by omega)⟩
          rw [List.getD_eq_getElem?_getD, hq] at hqa
          walk_at "run"
          obtain ⟨ls, hls, hlsd⟩ := hL.ex
          have hll : ls.length ≤ i := by rw [hlsd.len, List.length_map, List.length_take]; omega
          refine x_tupL (SqL.of (e14 _ _ hqa)) fun t H15 nt e15 ht => x_push (e15 _ _ hls) (by omega) fun H16 e16 h16 => ?_
          have hDt : D ≠ t := ne_of_none hls nt
          refine ⟨fun o u h => e16 _ _ (ne_of_none h hDn) (e15 _ _ (e14 _ _ h)), ⟨⟨_, h16, ?_⟩⟩⟩
          rw [List.take_add_one, hq, List.map_append]
          refine DpAll.append (DpAll.tx ((TX.of e15).trans (TX.but (e15 _ _ hls) e16)) hlsd fun d hd => ?_) (.cons (.tup (SqT.of (e16 _ _ hDt.symm ht)) (ints_dp qi)) .nil)
          obtain ⟨q', _, rfl⟩ := List.mem_map.mp hd
          exact qA_t pdI q'
        · rintro D H14 hD ⟨e14, hL⟩
          rw [List.length_map, hasl, List.take_length] at hL
          obtain ⟨ls, hls, hlsd⟩ := hL.ex
          refine x_tupL (SqL.of hls) fun tq H15 n15 e15 h15 => x_tup (by simp) fun ts' H16 n16 e16 h16 => x_tup (by simp) fun td H17 n17 e17 h17 => ?_
          have e1317 : Ex H13 H17 := fun x o h => e17 _ _ (e16 _ _ (e15 _ _ (e14 _ _ h)))
          have h9' : H17 p9 = some (.tup [.str "none"]) := e1317 _ _ (e1013 _ _ (e10 _ _ h9))
          refine x_tell h9' (by decide +kernel) (by decide +kernel) fun H18 e18 => ⟨_, rfl, ?_⟩
          rw [if_pos (by rfl)]
          refine x_lst (by simp) fun L H19 nL e19 hL19 => ?_
          have e1719 : Ex H17 H19 := fun x o h => e19 _ _ (e18 _ _ h)
          have e1319 : Ex H13 H19 := fun x o h => e1719 _ _ (e1317 _ _ h)
          have e819 : Ex H8 H19 := fun x o h => e1319 _ _ (e1013 _ _ (e10 _ _ (e9 _ _ h)))
          have hRl : H19 Rl = some (.lst [r7]) := e819 _ _ h8
          obtain ⟨fsv, hFa13, hfsd⟩ := hF13.ex
          refine ⟨_, _, .list [sentD p qs' fs'], rfl, .lst (SqL.of hRl) (.cons (hr7 H19 (fun x o h1 h2 => e819 _ _ (nRl x o h1 h2)) (tx8.trans (TX.of e819))) .nil), .lst (SqL.of hL19) (.cons ?_ .nil), hfine.shaped (by decide), Nat.le_trans hfine.dep (by decide), hfine.sm, fun H20 e20 => ?_⟩
          · refine .tup (SqT.of (e1719 _ _ h17)) (.cons ?_ (.cons (.lst (SqL.of (e1319 _ _ hFa13)) (DpAll.ex e1319 hfsd)) .nil))
            refine .tup (SqT.of (e1719 _ _ (e17 _ _ h16))) (.cons (.int p) (.cons (.tup (SqT.of (e1719 _ _ (e17 _ _ (e16 _ _ h15)))) (DpAll.ex ?_ hlsd)) .nil))
            exact fun x o h => e1719 _ _ (e17 _ _ (e16 _ _ (e15 _ _ h)))
          · have e820 : Ex H8 H20 := fun x o h => e20 _ _ (e819 _ _ h)
            refine q H20 (g8.ex e820) (fun x o hx h1 h2 n => ?_) ?_
            · exact e820 _ _ (e8 _ _ (ne_of_none hx nR) (e7 _ _ (x6 x o hx h1 h2 n)))
            · refine Tabs.ext (fun pp hpp => ?_) e820
              obtain ⟨ps, a1, a2, a3⟩ := (t6.ext e7) pp hpp
              refine ⟨ps, e8 _ _ (fun z => by rw [z, e7 _ _ hR6] at a1; cases a1) a1, a2, fun pos cv hc => ?_⟩
              obtain ⟨c0, b1, b2⟩ := a3 pos cv hc
              exact ⟨c0, b1, e8 _ _ (fun z => by rw [z, e7 _ _ hR6] at b2; unfold CodeO at b2; cases b2) b2⟩
end
end K
set_option Elab.async false
set_option linter.all false
set_option maxRecDepth 100000
set_option maxHeartbeats 1000000
namespace K
open PySem PySem.Spec PyProof.Rows L2 Evl FB LamX
local macro_rules | `(tactic| walk_at "run") => `(tactic| try simp only [tSeq, tAsg, tVar, tC, gName, L2.start, List.map_cons, List.map_nil, List.cons_append, List.nil_append, List.length_cons, List.length_nil, List.replicate, List.getElem?_cons_zero, List.getElem?_cons_succ, Option.some.injEq, exists_eq_left', List.set_cons_zero, List.set_cons_succ, V.ref.injEq, tRet, x_tLst, x_tTup, tCons, tCB, tNil, tOp, x_addI, x_mulI, x_rI, x_rI0, x_ltI, x_leI, x_ltS, x_leS, x_eqI, x_neI, x_eqS, x_eqB, x_neB, x_isiI, x_isiS, x_int, x_max, x_min, cxOf, tIfS, tNext, tTest, V.bl.injEq, decide_eq_true_eq, gSub, tAnd, tOr, tNot, tB, tDrop, tBM, x_tFor, iRng1, iList, iTup, x_tLc, tYes, tCall, tIf, tAndV, tOrV, tNotV, tChain, List.append_nil, tUn, if_true, wipe, true_and, x_never, iU, x_itS, kV, Nat.reduceAdd, Nat.reduceSub, List.replicate_zero, x_rU, x_tMkO, iEnumT, x_tDc, x_tDGet, x_tDGet2, x_sDPut, x_tDSetd, x_tDNewK, x_iItems, x_iZip, x_tSAddK, x_tLockV, x_tTupRg, x_tRg2, tPar, tPar3, tBM0, tSl, tNoPart, tPart])
section
variable {P : Program} {w : World} {K : PySem.W.Frag} {mg : Str → Option Value} {base : Heap}
abbrev s_l_left_right : Stmt := top 49
theorem sc_l_left_right : FnScope ["_law_h", "_law_network_here", "_law_state_here", "_law_waiting", "_law_queue", "_law_queues", "_law_passenger", "_law_one"] ["_law_h", "_law_network_here", "_law_state_here"] (defScope s_l_left_right) := ⟨rfl, rfl, rfl, by decide +kernel, rfl, by decide +kernel, by decide +kernel⟩
theorem ok_l_left_right {T0 : List (Addr × Str)} {c Pt : Addr} {f g1 g2 g5 f1 CF : Addr} {fd gd1 gd2 gd5 fd1 : FuncData} {C : Nat → Addr} (D : Df K mg "_law_left_right" s_l_left_right ["_law_h", "_law_network_here", "_law_state_here"] f fd) (hc : fd.code = .ref c) (TB : TabB base mg c Pt) (T : Bt mg) (R : Errs K mg CF C)
    (hmT : (Pt, (("_law_left_right" : Str) ++ (".<locals>." : Str)) ++ ("<lambda>" : Str)) ∈ T0) (huT : ∀ p ∈ T0, p.1 = Pt → p.2 = (("_law_left_right" : Str) ++ (".<locals>." : Str)) ++ ("<lambda>" : Str))
    (D_l_next : Df K mg "_law_next" s_l_next ["_law_h", "_law_limit"] g1 gd1) (D_l_error : Df K mg "_law_error" s_l_error ["_law_call"] g2 gd2) (D_l_alike : Df K mg "_law_alike" s_l_alike ["_law_found", "_law_due"] g5 gd5)
    (D_leave : Df K mg "leave" s_leave ["network", "state", "passenger"] f1 fd1) (G_leave : FnOk P w K mg base (L2.CX P w) 6 f1 fd1 ["network", "state", "passenger"] (spLeave K (C 6))) (G_l_alike : FnOk P w K mg base CX0 8 g5 gd5 ["_law_found", "_law_due"] (spAlike K 8)) :
    FnOk P w K mg base CX0 20 f fd ["_law_h", "_law_network_here", "_law_state_here"] (spSent K T0) := by
  have G_l_next : FnOk P w K mg base CX0 1 g1 gd1 _ _ := ok_l_next D_l_next T
  refine okC D.F hc sc_l_left_right (fun vs H Q E h => ?_) (fun A outer s H vs Q E hr h => ?_)
  · obtain ⟨h, b, v, u, N, p, qs, rfl, _⟩ := h
    rfl
  · obtain ⟨h, b, v, u, N, p, qs, rfl, g0, hN, hD, hS, hO, hT0, q⟩ := h
    have hu := hr.units
    refine ⟨_, (pss_cons (ps_set (i := 3) sc_l_left_right.nd rfl (Or.inl rfl) (pe_lst pa_nil))
      (pss_cons (ps_for PassesOwn.never rfl (pi_U (K := K) (pe_ix (ix_U (K := K)) (pv 2) pe_int (fun _ _ => rfl))) (pg_name (i := 4) sc_l_left_right.nd rfl (Or.inl rfl)) (pss_one (ps_set (i := 3) sc_l_left_right.nd rfl (Or.inl rfl) (pe_op (op_addU (K := K)) (pv 3) (pe_callTy (call_listU (K := K)) (by rfl) T.b_list (by decide +kernel) (pa_cons (pv 4) pa_nil))))))
      (pss_cons (ps_set (i := 6) sc_l_left_right.nd rfl (Or.inr rfl) (pe_ix (ix_U (K := K)) (pe_op (op_addU (K := K)) (pv 3) (pe_lst (pa_cons pe_int (pa_cons (pe_ix (ix_U (K := K)) (pv 2) pe_int (fun _ _ => rfl)) (pa_cons (pe_un un_neg pe_int) pa_nil))))) (pe_call (G_l_next) (hr.mono (by decide)) rfl D_l_next.g D_l_next.F.kp D_l_next.b .nil pass0 (pa_cons (pv 0) (pa_cons (pe_op (op_addU (K := K)) (pe_callB (call_lenU (K := K)) (by rfl) T.b_len (by decide +kernel) (pa_cons (pv 3) pa_nil)) pe_int) pa_nil))) (fun _ _ => rfl)))
      (pss_cons (ps_if (pt_cmpR ((op_notInU (K := K) (P := P) (w := w))) (pv 6) (pv 3) (by rfl)) (pss_one (ps_ret (pe_cmpR (op_eqU (K := K) hu) (pe_err (t := fun E => tCall (spLeave K (C 6)) [] E (tCons (tVar 1) (tCons (tVar 2) (tCons (tVar 6) tNil)))) D_l_error R T rfl TB rfl hmT huT hr (lamS_by (by rfl)) rfl (fun _ _ _ _ _ => rfl) (by intro A outer s H E f c hr2; exact (pe_call (G_leave) (hr2.mono (by decide)) rfl D_leave.g D_leave.F.kp D_leave.b .nil (passes_call (takes_of rfl rfl rfl rfl) fun _ _ _ _ h => h) (pa_cons (pv 1) (pa_cons (pv 2) (pa_cons (pv 6) pa_nil)))))) (pe_tup (pa_cons pe_str pa_nil)) (nomark _)))) pss_nil)
      (pss_cons (ps_set (i := 5) sc_l_left_right.nd rfl (Or.inl rfl) (pe_lst pa_nil))
      (pss_cons (ps_for PassesOwn.never rfl (pi_U (K := K) (pe_ix (ix_U (K := K)) (pv 2) pe_int (fun _ _ => rfl))) (pg_name (i := 4) sc_l_left_right.nd rfl (Or.inl rfl)) (pss_one (ps_expr (pe_bm PySem.F.plainAttrs_list PySem.F.slot_list_append PySem.F.type_list_append mt_append (pv 5) (pa_cons (pe_callTy (call_tupU (K := K)) (by rfl) T.b_tuple (by decide +kernel) (pa_cons (pe_lc (own := [("_law_one", 7)]) (g := gName 7) (tt := _) rfl sc_l_left_right.nd (pi_U (K := K) (pv 4)) (blkOk_by (own := [("_law_one", 7)]) (N := ["_law_h", "_law_network_here", "_law_state_here", "_law_waiting", "_law_queue", "_law_queues", "_law_passenger", "_law_one"]) (sc := defScope s_l_left_right) (by decide +kernel)) (fun _ _ _ _ _ => (pg_name (i := 7) sc_l_left_right.nd rfl (Or.inl rfl))) (fun _ _ _ _ _ => (pts_one (pt_cmpR (op_neU (K := K) hu) (pv 7) (pv 6) (nomark _)))) (fun _ _ _ _ _ => (pv 7))) pa_nil)) pa_nil)))))
      (pss_one (ps_ret (pe_call (G_l_alike) (hr.mono (by decide)) rfl D_l_alike.g D_l_alike.F.kp D_l_alike.b .nil pass0 (pa_cons (pe_call (E := fun _ _ _ => False) (G_leave) (hr.mono (by decide)) rfl D_leave.g D_leave.F.kp D_leave.b .nil (passes_call L2.takes0 fun _ _ _ _ h => h) (pa_cons (pv 1) (pa_cons (pv 2) (pa_cons (pv 6) pa_nil)))) (pa_cons (pe_tup (pa_cons (pe_ix (ix_U (K := K)) (pv 2) pe_int (fun _ _ => rfl)) (pa_cons (pe_callTy (call_tupU (K := K)) (by rfl) T.b_tuple (by decide +kernel) (pa_cons (pv 5) pa_nil)) pa_nil))) pa_nil))))))))))), ?_⟩
    walk_at "run"
    obtain ⟨ua, uy, rfl, hSa, hSy⟩ := state_at hS
    obtain ⟨ub, ts, rfl, hT, hts⟩ := qs_at hSy
    have htl : ts.length = qs.length := by rw [hts.len, List.length_map]
    have hql := hO.len
    have hpos := hD.pos
    have hle := hD.le
    have hfl := flat_len hql hO.lt fun s hs => ((hD.valid (by decide)).cnt.st s hs).2
    refine x_lst (by simp) fun W1 H1 n1 e1 h1 => x_ixT (ex_t e1 hSa) (v := .ref ub) rfl (x_itT (ex_t e1 hT) ?_)
    refine loop_it walk_tup (fun i σ H' => ∃ (Wl : Addr) (u4 : Option V), σ = [some (.ref h), some v, some (.ref ua), some (.ref Wl), u4, none, none, none] ∧ Ex H H' ∧ H Wl = none ∧ H' Wl = some (.lst ((qs.take i).flatten.map V.int))) ⟨W1, _, rfl, e1, n1, by simpa using h1⟩ (fun i σ H' _ ⟨_, _, _, e, _⟩ => ex_t e hT) ?_ ?_
    · rintro i x σ H2 H2' hi ⟨Wl, u4, rfl, e2, nW, hW⟩ ⟨eH, hx⟩
      subst eH
      obtain ⟨d, hd, hz⟩ := hts.get' hx
      obtain ⟨qi, hq, rfl⟩ : ∃ qi, qs[i]? = some qi ∧ qD qi = d := by simpa using hd
      obtain ⟨c1, cs, rfl, hC, hcs⟩ := Dp.tup_inv hz
      obtain rfl := dp_ints hcs
      walk_at "run"
      have hb : ((qs.take i).flatten ++ qi).length ≤ qs.flatten.length := by
        have : qs.take (i + 1) = qs.take i ++ [qi] := by rw [List.take_add_one, hq]; rfl
        have h2 : qs.flatten = (qs.take (i + 1)).flatten ++ (qs.drop (i + 1)).flatten := by rw [← List.flatten_append, List.take_append_drop]
        rw [h2, this, List.flatten_append, List.length_append, List.length_append, List.length_append]
        simp
      rw [List.length_append] at hb
      refine x_listT (ex_t e2 hC) fun l H3 n3 e3 h3 => x_cat (e3 _ _ hW) h3 (by simp only [List.length_map]; omega) fun l2 H4 n4 e4 h4 => ?_
      refine ⟨l2, _, rfl, fun o u h => e4 _ _ (e3 _ _ (e2 _ _ h)), fresh_back (fun o u h => e3 _ _ (e2 _ _ h)) n4, ?_⟩
      rw [h4, List.take_add_one, hq, List.flatten_append, List.map_append]
      simp
    · rintro σ H2 ⟨Wl, u4, rfl, e2, nW, hW⟩
      rw [htl, List.take_length] at hW
      walk_at "run"
      refine x_ixT (ex_t e2 hSa) (v := .int p) rfl (x_lst (by simp) fun M1 H3 n3 e3 h3 => x_cat (e3 _ _ hW) h3 (by simp only [List.length_map, List.length_cons, List.length_nil]; omega) fun M2 H4 n4 e4 h4 => x_lenL (SqL.of (e4 _ _ (e3 _ _ hW))) ?_)
      rw [List.length_map]
      walk_at "run"
      have e04 : Ex H H4 := fun o u h => e4 _ _ (e3 _ _ (e2 _ _ h))
      refine x_next (g0.ex e04) (by omega) (by omega) fun r H5 r0 r1 g5 e5 => ?_
      have x5 : Ex2 h b H H5 := fun o u hx h1 h2 => e5 _ _ (e04 _ _ hx) h1 h2
      have nM2 : H M2 = none := fresh_back (fun o u h => e3 _ _ (e2 _ _ h)) n4
      have hM5 : H5 M2 = some (.lst (qs.flatten.map V.int ++ [.int 0, .int p, .int (-1)])) := e5 _ _ h4 (g0.na nM2) (g0.nb nM2)
      refine x_menu hM5 r0 (by simp only [List.length_append, List.length_map, List.length_cons, List.length_nil]; omega) fun sv _ hm => ?_
      obtain ⟨x, rfl⟩ : ∃ x : Int, V.int x = sv := by
        rcases List.mem_append.mp hm with h | h
        · obtain ⟨x, _, rfl⟩ := List.mem_map.mp h; exact ⟨x, rfl⟩
        · simp only [List.mem_cons, List.not_mem_nil, or_false] at h
          rcases h with rfl | rfl | rfl
          · exact ⟨0, rfl⟩
          · exact ⟨p, rfl⟩
          · exact ⟨-1, rfl⟩
      have hW5 : H5 Wl = some (.lst (qs.flatten.map V.int)) := e5 _ _ (e4 _ _ (e3 _ _ hW)) (g0.na nW) (g0.nb nW)
      refine .inl ⟨Wl, _, rfl, .inl (SqL.of hW5), rfl, flat_ints _, ⟨_, rfl, ?_⟩⟩
      rw [if_pos rfl, inV_ints]
      have t5 : Tabs T0 H5 := by
        obtain ⟨m, c, ns, a, b, _⟩ := g0.ex e04
        exact tabs_ex2 a b (hT0.ext e04) e5
      have tx5 : TX H H5 := g0.tx x5
      by_cases hx : x ∈ qs.flatten
      · rw [if_neg (by rw [decide_eq_true hx]; decide)]
        refine x_lst (by simp) fun Ql H6 n6 e6 h6 => x_ixT (ex_t e6 (tx5.t hSa)) (v := .ref ub) rfl (x_itT (ex_t e6 (tx5.t hT)) ?_)
        refine loop_it walk_tup (fun i σ H' => ∃ (u4 : Option V), σ = [some (.ref h), some v, some (.ref ua), some (.ref Wl), u4, some (.ref Ql), some (.int x), none] ∧ Ex H5 H' ∧ LsAt K H' Ql ((leftQ x (qs.take i)).map qD)) ⟨_, rfl, e6, ⟨⟨[], h6, .nil⟩⟩⟩ (fun i σ H' _ ⟨_, _, e, _⟩ => ex_t e (tx5.t hT)) ?_ ?_
        · rintro i z σ H7 H7' hi ⟨u4', rfl, e7, hL7⟩ ⟨eH, hx2⟩
          subst eH
          obtain ⟨d, hd, hz⟩ := hts.get' hx2
          obtain ⟨qi, hq, rfl⟩ : ∃ qi, qs[i]? = some qi ∧ qD qi = d := by simpa using hd
          obtain ⟨c1, cs, rfl, hC, hcs⟩ := Dp.tup_inv hz
          obtain rfl := dp_ints hcs
          have hC7 := ex_t e7 (tx5.t hC)
          obtain ⟨ls, hls, hlsd⟩ := hL7.ex
          have hqi : qi.length ≤ qs.flatten.length := by
            obtain ⟨u1, u2, h⟩ := List.append_of_mem (List.mem_of_getElem? hq)
            rw [h]; simp; omega
          have hll : ls.length ≤ i := by rw [hlsd.len, List.length_map]; unfold leftQ; rw [List.length_map, List.length_take]; omega
          walk_at "run"
          refine ⟨x_tyL (SqL.of hls), x_itT hC7 (lcl_it walk_tup (fun D3 m H' => Ex H7' H' ∧ H' D3 = some (.lst (((qi.take m).filter fun y => !decide (y = x)).map V.int))) (fun D3 H' _ e h => ⟨e, by simpa using h⟩) (fun D3 m H' _ h => ex_t h.1 hC7) ?_ ?_)⟩
          · rintro D3 m z H8 H8' hD3 hm3 ⟨e8, h8⟩ ⟨eH, hx3⟩
            subst eH
            rw [List.length_map] at hm3
            obtain ⟨yy, hyy, rfl⟩ : ∃ yy, qi[m]? = some yy ∧ V.int yy = z := by simpa using hx3
            have hf : ((qi.take m).filter fun y => !decide (y = x)).length ≤ m := Nat.le_trans (List.length_filter_le _ _) (by rw [List.length_take]; omega)
            walk_at "run"
            by_cases hyx : yy = x
            · rw [if_neg (by simp [hyx])]
              refine ⟨e8, ?_⟩
              rw [h8, List.take_add_one, hyy, List.filter_append]
              simp [hyx]
            · rw [if_pos (by simp [hyx])]
              refine x_push h8 (by rw [List.length_map]; omega) fun H9 e9 h9 => ⟨fun o u h => e9 _ _ (ne_of_none h hD3) (e8 _ _ h), ?_⟩
              rw [h9, List.take_add_one, hyy, List.filter_append]
              simp [hyx]
          · rintro D3 H8 hD3 ⟨e8, h8⟩
            rw [List.length_map, List.take_length] at h8
            refine x_tupL (SqL.of h8) fun t H9 n9 e9 h9 => ?_
            have e79 : Ex H7' H9 := e8.trans e9
            have hQt : Ql ≠ t := ne_of_none (e8 _ _ hls) n9
            refine x_append (e79 _ _ hls) (by omega) fun H10 e10 h10 => ⟨_, rfl, fun o u h => e10 _ _ (ne_of_none h n6) (e79 _ _ (e7 _ _ h)), ⟨⟨_, h10, ?_⟩⟩⟩
            have t6 : TX H9 H10 := TX.but (e79 _ _ hls) e10
            have hlt : leftQ x (qs.take (i + 1)) = leftQ x (qs.take i) ++ [qi.filter fun y => !decide (y = x)] := by
              unfold leftQ
              rw [List.take_add_one, hq, List.map_append]; rfl
            rw [hlt, List.map_append]
            refine DpAll.append (DpAll.tx ((TX.of e79).trans t6) hlsd fun d hd => ?_) (.cons (.tup (SqT.of (e10 _ _ hQt.symm h9)) (ints_dp _)) .nil)
            obtain ⟨q', _, rfl⟩ := List.mem_map.mp hd
            exact qA_t pdI q'
        · rintro σ H7 ⟨u4', rfl, e7, hL7⟩
          rw [htl, List.take_length] at hL7
          walk_at "run"
          have tx7 : TX H H7 := tx5.trans (TX.of e7)
          refine ⟨v, .ref ua, N, p, qs, x, rfl, Dp.tx tx7 hN (netD_t N), hD.valid (by decide), Dp.tx tx7 hS (stateD_t p qs), hO, fun hn => absurd hx hn, fun _ H8 r8 e8 hr8 => ?_⟩
          obtain ⟨ls, hls, hlsd⟩ := hL7.ex
          refine x_ixT (ex_t e8 (tx7.t hSa)) (v := .int p) rfl (x_tupL (SqL.of (e8 _ _ hls)) fun tq H9 n9 e9 h9 => x_tup (by simp) fun td H10 n10 e10 h10 => ?_)
          have e810 : Ex H8 H10 := fun o u h => e10 _ _ (e9 _ _ h)
          have hfine : Fine 4 (stateD p (leftQ x qs)) := fine_state (by unfold leftQ; rw [List.length_map]; omega) fun q hq => by
            obtain ⟨q0, hq0, rfl⟩ := List.mem_map.mp hq
            have h1 : q0.length ≤ qs.flatten.length := by
              obtain ⟨u1, u2, h⟩ := List.append_of_mem hq0
              rw [h]; simp; omega
            have h2 := List.length_filter_le (fun y => !decide (y = x)) q0
            omega
          refine ⟨r8, _, _, rfl, Dp.ex e810 hr8, .tup (SqT.of h10) (.cons (.int p) (.cons (.tup (SqT.of (e10 _ _ h9)) (DpAll.ex (fun o u h => e10 _ _ (e9 _ _ (e8 _ _ h))) hlsd)) .nil)), hfine.shaped (by decide), Nat.le_trans hfine.dep (by decide), hfine.sm, fun H11 e11 => ?_⟩
          have e511 : Ex H5 H11 := fun o u h => e11 _ _ (e810 _ _ (e8 _ _ (e7 _ _ h)))
          exact q H11 (g5.ex e511) ((ExN.of2 x5).ex e511) (t5.ext e511)
      · rw [if_pos (by rw [decide_eq_false hx]; rfl)]
        refine ⟨t5, fun H6 e6 t6 => ?_⟩
        have g6 : Gen H6 h b := by
          obtain ⟨m, c, ns, a, b, l⟩ := g5
          exact ⟨m, c, ns, e6 _ _ a (by simp), e6 _ _ b (by simp), l⟩
        have x6 : ExN h b H H6 := (ExN.of2 x5).trans (ExN.ofN e6)
        have tx6 : TX H H6 := tx5.trans (extN_tx e6)
        unfold TErr
        walk_at "run"
        refine ⟨v, .ref ua, N, p, qs, x, rfl, Dp.tx tx6 hN (netD_t N), hD.valid (by decide), Dp.tx tx6 hS (stateD_t p qs), hO, fun _ H7 e7 => ?_, fun hn => absurd hn hx⟩
        refine ⟨6, .non, .non, by decide, ⟨rfl, by rw [if_neg (by decide)]⟩, fun p9 H9 e9 h9 => ?_⟩
        have h9' : H9 p9 = some (.tup [.str "passenger"]) := h9
        exact x_tell h9' (by decide +kernel) (by decide +kernel) fun H' e => q H' (((g6.ex e7).ex e9).ex e) (((x6.ex e7).ex e9).ex e) (((t6.ext e7).ext e9).ext e)
end
end K
set_option Elab.async false
set_option linter.all false
set_option maxRecDepth 100000
set_option maxHeartbeats 1000000
namespace K
open PySem PySem.Spec PyProof.Rows L2 Evl FB LamX
local macro_rules | `(tactic| walk_at "run") => `(tactic| try simp only [tSeq, tAsg, tVar, tC, gName, L2.start, List.map_cons, List.map_nil, List.cons_append, List.nil_append, List.length_cons, List.length_nil, List.replicate, List.getElem?_cons_zero, List.getElem?_cons_succ, Option.some.injEq, exists_eq_left', List.set_cons_zero, List.set_cons_succ, V.ref.injEq, tRet, x_tLst, x_tTup, tCons, tCB, tNil, tOp, x_addI, x_mulI, x_rI, x_rI0, x_ltI, x_leI, x_ltS, x_leS, x_eqI, x_neI, x_eqS, x_eqB, x_neB, x_isiI, x_isiS, x_int, x_max, x_min, cxOf, tIfS, tNext, tTest, V.bl.injEq, decide_eq_true_eq, gSub, tAnd, tOr, tNot, tB, tDrop, tBM, x_tFor, iRng1, iList, iTup, x_tLc, tYes, tCall, tIf, tAndV, tOrV, tNotV, tChain, List.append_nil, tUn, if_true, wipe, true_and, x_never, iU, x_itS, kV, Nat.reduceAdd, Nat.reduceSub, List.replicate_zero, x_rU, x_tMkO, iEnumT, x_tDc, x_tDGet, x_tDGet2, x_sDPut, x_tDSetd, x_tDNewK, x_iItems, x_iZip, x_tSAddK, x_tLockV, x_tTupRg, x_tRg2, tPar, tPar3, tBM0, tSl, tNoPart, tPart])
/-! ### the first fault behind a replaced seat -/
theorem seatBad_none {k n : Int} : ∀ {s : List Key} {j : Nat}, (∀ p ∈ s, placeB k n p = true) → seatBad k n j s = none
  | [], _, _ => rfl
  | p :: r, j, h => by
    show (if placeB k n p = true then seatBad k n (j + 1) r else some j) = none
    rw [if_pos (h p (List.mem_cons_self ..))]
    exact seatBad_none fun q hq => h q (List.mem_cons_of_mem _ hq)
theorem seatBad_set {k n : Int} {pl : Key} (hb : placeB k n pl = false) : ∀ {s : List Key} {j m : Nat}, (∀ p ∈ s, placeB k n p = true) → m < s.length → seatBad k n j (s.set m pl) = some (j + m)
  | [], _, _, _, h => by simp at h
  | p :: r, j, 0, _, _ => by
    show (if placeB k n pl = true then seatBad k n (j + 1) r else some j) = some (j + 0)
    rw [if_neg (by rw [hb]; decide)]; rfl
  | p :: r, j, m + 1, h, hm => by
    show (if placeB k n p = true then seatBad k n (j + 1) (r.set m pl) else some j) = some (j + (m + 1))
    rw [if_pos (h p (List.mem_cons_self ..)), seatBad_set hb (fun q hq => h q (List.mem_cons_of_mem _ hq)) (by simpa using hm)]
    congr 1; omega
theorem netBad_none {n : Int} : ∀ {N : Net} {k : Nat}, (∀ (i : Nat) s, N[i]? = some s → stBad n (k + i) s = none) → netBad n k N = none
  | [], _, _ => rfl
  | s :: r, k, h => by
    have h0 : stBad n k s = none := h 0 s rfl
    show (match stBad n k s with
      | some j => some ((k : Int), j)
      | none => netBad n (k + 1) r) = none
    rw [h0]
    exact netBad_none fun i s' hs => by
      have := h (i + 1) s' hs
      rw [show k + (i + 1) = k + 1 + i by omega] at this
      exact this
theorem netBad_set {n : Int} {s' : List Key} {j : Int} : ∀ {N : Net} {k m : Nat}, (∀ (i : Nat) s, N[i]? = some s → stBad n (k + i) s = none) → m < N.length → stBad n (k + m) s' = some j → netBad n k (N.set m s') = some (((k + m : Nat) : Int), j)
  | [], _, _, _, h, _ => by simp at h
  | s :: r, k, 0, h, _, hb => by
    show (match stBad n k s' with
      | some j => some ((k : Int), j)
      | none => netBad n (k + 1) r) = _
    rw [show stBad n k s' = some j from hb]; rfl
  | s :: r, k, m + 1, h, hm, hb => by
    have h0 : stBad n k s = none := h 0 s rfl
    show (match stBad n k s with
      | some j => some ((k : Int), j)
      | none => netBad n (k + 1) (r.set m s')) = _
    rw [h0]
    have := netBad_set (N := r) (k := k + 1) (m := m) (s' := s') (j := j) (n := n) (fun i q hq => by
      have := h (i + 1) q hq
      rw [show k + (i + 1) = k + 1 + i by omega] at this
      exact this) (by simpa using hm) (by rw [show k + 1 + m = k + (m + 1) by omega]; exact hb)
    show netBad n (k + 1) (r.set m s') = _
    rw [this, show k + 1 + m = k + (m + 1) by omega]
theorem ValidN.stOk {N : Net} (V : ValidN N) (i : Nat) (s : List Key) (hs : N[i]? = some s) : stBad N.length i s = none := by
  obtain ⟨h1, h2, h3⟩ := V.st i s hs
  have hi := (List.getElem?_eq_some_iff.mp hs).1
  have h40 := V.le
  unfold stBad
  rw [if_neg (by omega), seatBad_none fun p hp => (h3 p hp).1]; rfl
theorem replN_bad {N : Net} (V : ValidN N) {st se : Nat} {pl : Key} (hst : st < N.length) (hse : se < (N.getD st []).length) :
    firstBad (replN N st se pl) = if placeB st N.length pl = true then none else some ((st : Int), (se : Int)) := by
  have hp := V.pos
  have h40 := V.le
  have hl : (replN N st se pl).length = N.length := by unfold replN; rw [List.length_set]
  unfold firstBad
  rw [hl, if_neg (by omega)]
  have hN : N[st]? = some (N.getD st []) := by simp [List.getD_eq_getElem?_getD, hst]
  obtain ⟨h1, h2, h3⟩ := V.st st _ hN
  have ok : ∀ (i : Nat) s, N[i]? = some s → stBad N.length (0 + i) s = none := fun i s hs => by rw [Nat.zero_add]; exact V.stOk i s hs
  by_cases hb : placeB st N.length pl = true
  · rw [if_pos hb]
    refine netBad_none fun i s hs => ?_
    rw [Nat.zero_add]
    unfold replN at hs
    by_cases e : st = i
    · subst e
      rw [List.getElem?_set_self hst] at hs
      cases hs
      unfold stBad
      rw [List.length_set, if_neg (by omega), seatBad_none]
      · rfl
      · intro p hp
        rcases List.mem_or_eq_of_mem_set hp with h | rfl
        · exact (h3 p h).1
        · exact hb
    · rw [List.getElem?_set_ne e] at hs
      exact V.stOk i s hs
  · rw [if_neg hb]
    have := netBad_set (N := N) (k := 0) (m := st) (s' := (N.getD st []).set se pl) (j := (se : Int)) (n := N.length) ok hst (by
      rw [Nat.zero_add]
      unfold stBad
      rw [List.length_set, if_neg (by omega), seatBad_set (by simpa using hb) (fun p hp => (h3 p hp).1) hse, Nat.zero_add]; rfl)
    rw [Nat.zero_add] at this
    exact this
/-- the network that is due, and the comparison -/
def tailG (K : PySem.W.Frag) (vn Rl p9 : Addr) (st se : Int) (x : V) (H : Hp) (Q : VK) : Prop :=
  rIx K (.ref vn) (.int st) H fun x4 H1 => ∃ i, V.int se = V.int i ∧ rSlU K x4 none (some i) H1 fun x5 H1 => rTup [x] H1 fun y H2 => rAddU K x5 y H2 fun x6 H1 =>
  rIx K (.ref vn) (.int st) H1 fun x7 H1 => ∃ i, V.int (se + 1) = V.int i ∧ rSlU K x7 (some i) none H1 fun y H2 => rAddU K x6 y H2 fun x8 H1 =>
  ∃ i, V.int st = V.int i ∧ rSlU K (.ref vn) none (some i) H1 fun x9 H1 => rTup [x8] H1 fun y H2 => rAddU K x9 y H2 fun x10 H1 =>
  ∃ i, V.int (st + 1) = V.int i ∧ rSlU K (.ref vn) (some i) none H1 fun y H2 => rAddU K x10 y H2 fun x11 H1 =>
  rTup [.str "none"] H1 fun y H2 => rEqU K (.ref p9) y H2 fun x12 H1 => ∃ c, x12 = V.bl c ∧ if c = true then rLst [x11] H1 fun x H1 => spAlike K 8 [.ref Rl, x] H1 Q E0 else Q (.bl false) H1
theorem fine_net {N : Net} (h1 : N.length ≤ 1000000) (h2 : ∀ s ∈ N, s.length ≤ 1000000 ∧ ∀ p ∈ s, ∀ z, p = .inr z → PyData.strOk z = true) : Fine 3 (netD N) := by
  refine fine_tup (by rw [List.length_map]; exact h1) fun d hd => ?_
  obtain ⟨s, hs, rfl⟩ := List.mem_map.mp hd
  refine fine_tup (by rw [List.length_map]; exact (h2 s hs).1) fun d hd => ?_
  obtain ⟨p, hp, rfl⟩ := List.mem_map.mp hd
  cases p with
  | inl i => exact fine_int i
  | inr z => exact fine_str ((h2 s hs).2 _ hp z rfl)
theorem tailG_ok {K : PySem.W.Frag} {vn Rl p9 : Addr} {j i : Nat} {pl : Key} {x r7 : V} {H : Hp} {Q : VK} {N : Net} {us : List V} (hU : SqT K H vn us) (hus : DpAll K H us (N.map stD)) (h40 : N.length ≤ 40) (h8 : ∀ s ∈ N, s.length ≤ 8) (hj : j < N.length) (hi : i < (N.getD j []).length) (hx : ∀ H : Hp, Dp K H x (keyD pl))
    (h9 : H p9 = some (.tup [.str "none"])) (hR : H Rl = some (.lst [r7])) (h7 : NetAt K H r7 (replN N j i pl)) (hF : Fine 3 (netD (replN N j i pl))) (q : ∀ H', Ex H H' → Q (.bl true) H') : tailG K vn Rl p9 (j : Int) (i : Int) x H Q := by
  have hul : us.length = N.length := by rw [hus.len, List.length_map]
  obtain ⟨sv, hsv, hsd⟩ := hus.get (show (N.map stD)[j]? = some (stD (N.getD j [])) by simp [List.getD_eq_getElem?_getD, hj])
  obtain ⟨c, rfl, hcs⟩ := StAt.at hsd
  have hs8 : (N.getD j []).length ≤ 8 := h8 _ (by rw [List.getD_eq_getElem?_getD, List.getElem?_eq_getElem hj]; exact List.getElem_mem hj)
  have hlk : ((N.getD j []).map kV).length = (N.getD j []).length := List.length_map ..
  unfold tailG
  refine x_ixT hU (atI_nat hsv) ⟨_, rfl, x_cutT hcs fun A1 H1 e1 hA1 => ?_⟩
  rw [cut_take (by omega)] at hA1
  refine x_tup (by simp) fun t2 H2 n2 e2 h2 => x_catT (ex_t e2 hA1) (SqT.of h2) (by simp only [List.length_append, List.length_take, List.length_drop, List.length_cons, List.length_nil]; omega) fun A2 H3 e3 hA2 => ?_
  have e03 : Ex H H3 := fun o u h => e3 _ _ (e2 _ _ (e1 _ _ h))
  refine x_ixT (ex_t e03 hU) (atI_nat hsv) ⟨_, rfl, x_cutT (ex_t e03 hcs) fun A3 H4 e4 hA3 => ?_⟩
  rw [show ((i : Int) + 1) = ((i + 1 : Nat) : Int) by omega, cut_drop (by omega)] at hA3
  refine x_catT (ex_t e4 hA2) hA3 (by simp only [List.length_append, List.length_take, List.length_drop, List.length_cons, List.length_nil]; omega) fun A4 H5 e5 hA4 => ?_
  have e05 : Ex H H5 := fun o u h => e5 _ _ (e4 _ _ (e03 _ _ h))
  have hset : ((N.getD j []).map kV).take i ++ [x] ++ ((N.getD j []).map kV).drop (i + 1) = ((N.getD j []).map kV).set i x := by
    rw [List.set_eq_take_append_cons_drop, if_pos (by omega)]
    simp
  rw [hset] at hA4
  have hS : StAt K H5 (.ref A4) ((N.getD j []).set i pl) := by
    refine .tup hA4 ?_
    rw [List.map_set]
    exact DpAll.set (keys_dp _) (hx _)
  refine ⟨_, rfl, x_cutT (ex_t e05 hU) fun B1 H6 e6 hB1 => ?_⟩
  rw [cut_take (by omega)] at hB1
  refine x_tup (by simp) fun t7 H7 n7 e7 h77 => x_catT (ex_t e7 hB1) (SqT.of h77) (by simp only [List.length_append, List.length_take, List.length_drop, List.length_cons, List.length_nil]; omega) fun B2 H8 e8 hB2 => ⟨_, rfl, ?_⟩
  have e08 : Ex H H8 := fun o u h => e8 _ _ (e7 _ _ (e6 _ _ (e05 _ _ h)))
  refine x_cutT (ex_t e08 hU) fun B3 H9 e9 hB3 => ?_
  rw [show ((j : Int) + 1) = ((j + 1 : Nat) : Int) by omega, cut_drop (by omega)] at hB3
  refine x_catT (ex_t e9 hB2) hB3 (by simp only [List.length_append, List.length_take, List.length_drop, List.length_cons, List.length_nil]; omega) fun B4 H10 e10 hB4 => ?_
  have e510 : Ex H5 H10 := fun o u h => e10 _ _ (e9 _ _ (e8 _ _ (e7 _ _ (e6 _ _ h))))
  have e010 : Ex H H10 := fun o u h => e510 _ _ (e05 _ _ h)
  have hset2 : us.take j ++ [V.ref A4] ++ us.drop (j + 1) = us.set j (.ref A4) := by
    rw [List.set_eq_take_append_cons_drop, if_pos (by omega)]
    simp
  rw [hset2] at hB4
  have hRN : NetAt K H10 (.ref B4) (replN N j i pl) := by
    refine .tup hB4 ?_
    unfold replN
    rw [List.map_set]
    exact DpAll.set (DpAll.ex e010 hus) (Dp.ex e510 hS)
  refine x_tell (e010 _ _ h9) (by decide +kernel) (by decide +kernel) fun H11 e11 => ⟨_, rfl, ?_⟩
  rw [if_pos (by rfl)]
  refine x_lst (by simp) fun L H12 nL e12 hL => ?_
  have e1012 : Ex H10 H12 := fun o u h => e12 _ _ (e11 _ _ h)
  have e012 : Ex H H12 := fun o u h => e1012 _ _ (e010 _ _ h)
  have hfine : Fine 4 (.list [netD (replN N j i pl)]) := fine_lst (by simp) fun d hd => by
    rw [List.mem_singleton.mp hd]; exact hF
  exact ⟨_, _, .list [netD (replN N j i pl)], rfl, .lst (SqL.of (e012 _ _ hR)) (.cons (Dp.ex e012 h7) .nil), .lst (SqL.of hL) (.cons (Dp.ex e1012 hRN) .nil), hfine.shaped (by decide), Nat.le_trans hfine.dep (by decide), hfine.sm, fun H13 e13 => q H13 fun o u h => e13 _ _ (e012 _ _ h)⟩
/-- a network's error is compared -/
theorem x_tell3 {K : PySem.W.Frag} {H : Hp} {Q : VK} {p : Addr} {a c : Int} (h : H p = some (.tup [.str "network", .int a, .int c])) (k : ∀ H', Ex H H' → Q (.bl true) H') : rTup [.str "network", .int a, .int c] H fun z H2 => rEqU K (.ref p) z H2 Q := by
  have hf : Fine 2 (.tuple [.str "network", .int a, .int c]) := fine_tup (by simp) fun d hd => by
    simp only [List.mem_cons, List.not_mem_nil, or_false] at hd
    rcases hd with rfl | rfl | rfl
    · exact fine_str (by decide +kernel)
    · exact fine_int a
    · exact fine_int c
  have hs := hf.shaped (by decide)
  exact x_tup (by simp) fun t H1 n e h1 => x_eqD (d := .tuple [.str "network", .int a, .int c]) (e := .tuple [.str "network", .int a, .int c]) (.tup (SqT.of (e _ _ h)) (.cons (.str _) (.cons (.int a) (.cons (.int c) .nil)))) (.tup (SqT.of h1) (.cons (.str _) (.cons (.int a) (.cons (.int c) .nil)))) hs hs (by rw [eqv_same hs]; exact k H1 e)
section
variable {P : Program} {w : World} {K : PySem.W.Frag} {mg : Str → Option Value} {base : Heap}
abbrev s_l_replaced_right : Stmt := top 50
theorem sc_l_replaced_right : FnScope ["_law_h", "_law_network_here", "_law_size", "_law_error_here", "_law_seats", "_law_changed", "_law_place_here", "_law_results", "_law_seat", "_law_station"] ["_law_h", "_law_network_here"] (defScope s_l_replaced_right) := ⟨rfl, rfl, rfl, by decide +kernel, rfl, by decide +kernel, by decide +kernel⟩
def spReplL (K : PySem.W.Frag) (T0 : List (Addr × Str)) : Sp := fun vs H Q _ => ∃ (h b : Addr) (v : V) (N : Net), vs = [.ref h, v] ∧ Gen H h b ∧ NetAt K H v N ∧ Drawn N 8 ∧ Tabs T0 H ∧ ∀ H', Gen H' h b → ExN h b H H' → Tabs T0 H' → Q (.bl true) H'
theorem ok_l_replaced_right {T0 : List (Addr × Str)} {c Pt : Addr} {f g1 g2 g5 f1 CF : Addr} {fd gd1 gd2 gd5 fd1 : FuncData} {C : Nat → Addr} (D : Df K mg "_law_replaced_right" s_l_replaced_right ["_law_h", "_law_network_here"] f fd) (hc : fd.code = .ref c) (TB : TabB base mg c Pt) (T : Bt mg) (R : Errs K mg CF C)
    (hmT : (Pt, (("_law_replaced_right" : Str) ++ (".<locals>." : Str)) ++ ("<lambda>" : Str)) ∈ T0) (huT : ∀ p ∈ T0, p.1 = Pt → p.2 = (("_law_replaced_right" : Str) ++ (".<locals>." : Str)) ++ ("<lambda>" : Str))
    (D_l_next : Df K mg "_law_next" s_l_next ["_law_h", "_law_limit"] g1 gd1) (D_l_error : Df K mg "_law_error" s_l_error ["_law_call"] g2 gd2) (D_l_alike : Df K mg "_law_alike" s_l_alike ["_law_found", "_law_due"] g5 gd5)
    (D_replace_seat : Df K mg "replace_seat" s_replace_seat ["network", "station", "seat", "place"] f1 fd1) (G_replace_seat : FnOk P w K mg base (L2.CX P w) 6 f1 fd1 ["network", "station", "seat", "place"] (spRepl K (C 3) (C 4) (C 0))) (G_l_alike : FnOk P w K mg base CX0 8 g5 gd5 ["_law_found", "_law_due"] (spAlike K 8)) :
    FnOk P w K mg base CX0 20 f fd ["_law_h", "_law_network_here"] (spReplL K T0) := by
  have G_l_next : FnOk P w K mg base CX0 1 g1 gd1 _ _ := ok_l_next D_l_next T
  refine okC D.F hc sc_l_replaced_right (fun vs H Q E h => ?_) (fun A outer s H vs Q E hr h => ?_)
  · obtain ⟨h, b, v, N, rfl, _⟩ := h
    rfl
  · obtain ⟨h, b, v, N, rfl, g0, hN, hD, hT0, q⟩ := h
    have hu := hr.units
    refine ⟨_, (pss_cons (ps_asg (pe_tup (pa_cons (pe_callB (call_lenU (K := K)) (by rfl) T.b_len (by decide +kernel) (pa_cons (pv 1) pa_nil)) (pa_cons (pe_lst pa_nil) pa_nil))) (pg_tup rfl (pgs_cons (pg_name (i := 2) sc_l_replaced_right.nd rfl (Or.inl rfl)) (pgs_cons (pg_name (i := 7) sc_l_replaced_right.nd rfl (Or.inr rfl)) pgs_nil))))
      (pss_cons (ps_set (i := 9) sc_l_replaced_right.nd rfl (Or.inr rfl) (pe_ix (ix_U (K := K)) (pe_lst (pa_cons (pe_call (G_l_next) (hr.mono (by decide)) rfl D_l_next.g D_l_next.F.kp D_l_next.b .nil pass0 (pa_cons (pv 0) (pa_cons (pv 2) pa_nil))) (pa_cons (pe_un un_neg pe_int) (pa_cons (pv 2) pa_nil)))) (pe_op op_fdivN (pe_call (G_l_next) (hr.mono (by decide)) rfl D_l_next.g D_l_next.F.kp D_l_next.b .nil pass0 (pa_cons (pv 0) (pa_cons pe_int pa_nil))) pe_int) (fun _ _ => rfl)))
      (pss_cons (ps_set (i := 8) sc_l_replaced_right.nd rfl (Or.inr rfl) (pe_ix (ix_U (K := K)) (pe_lst (pa_cons (pe_call (G_l_next) (hr.mono (by decide)) rfl D_l_next.g D_l_next.F.kp D_l_next.b .nil pass0 (pa_cons (pv 0) (pa_cons pe_int pa_nil))) (pa_cons (pe_un un_neg pe_int) (pa_cons pe_int pa_nil)))) (pe_op op_fdivN (pe_call (G_l_next) (hr.mono (by decide)) rfl D_l_next.g D_l_next.F.kp D_l_next.b .nil pass0 (pa_cons (pv 0) (pa_cons pe_int pa_nil))) pe_int) (fun _ _ => rfl)))
      (pss_cons (ps_set (i := 6) sc_l_replaced_right.nd rfl (Or.inr rfl) (pe_ix (ix_U (K := K)) (pe_lst (pa_cons pe_str (pa_cons pe_str (pa_cons pe_str (pa_cons pe_str (pa_cons (pv 2) (pa_cons (pv 9) (pa_cons (pe_op op_sub (pv 2) pe_int) (pa_cons (pe_op (op_addU (K := K)) (pv 9) pe_int) pa_nil))))))))) (pe_call (G_l_next) (hr.mono (by decide)) rfl D_l_next.g D_l_next.F.kp D_l_next.b .nil pass0 (pa_cons (pv 0) (pa_cons pe_int pa_nil))) (fun _ _ => rfl)))
      (pss_cons (ps_set (i := 3) sc_l_replaced_right.nd rfl (Or.inl rfl) (pe_err (t := fun E => tBM K "list" rAppend (tVar 7) (tCons (tCall (spRepl K (C 3) (C 4) (C 0)) [] E (tCons (tVar 1) (tCons (tVar 9) (tCons (tVar 8) (tCons (tVar 6) tNil))))) tNil)) D_l_error R T rfl TB rfl hmT huT hr (lamS_by (by rfl)) rfl (fun _ _ _ _ _ => rfl) (by intro A outer s H E f c hr2; exact (pe_bm PySem.F.plainAttrs_list PySem.F.slot_list_append PySem.F.type_list_append mt_append (pv 7) (pa_cons (pe_call (G_replace_seat) (hr2.mono (by decide)) rfl D_replace_seat.g D_replace_seat.F.kp D_replace_seat.b .nil (passes_call (takes_of rfl rfl rfl rfl) fun _ _ _ _ h => h) (pa_cons (pv 1) (pa_cons (pv 9) (pa_cons (pv 8) (pa_cons (pv 6) pa_nil))))) pa_nil)))))
      (pss_cons (ps_if (pt_not (pt_chain (op_leU) (op_ltU) pe_int (pv 9) (pv 2))) (pss_one (ps_ret (pe_cmpR (op_eqU (K := K) hu) (pv 3) (pe_tup (pa_cons pe_str pa_nil)) (nomark _)))) pss_nil)
      (pss_cons (ps_if (pt_not (pt_chain (op_leU) (op_ltU) pe_int (pv 8) (pe_callB (call_lenU (K := K)) (by rfl) T.b_len (by decide +kernel) (pa_cons (pe_ix (ix_U (K := K)) (pv 1) (pv 9) (fun _ _ => rfl)) pa_nil)))) (pss_one (ps_ret (pe_cmpR (op_eqU (K := K) hu) (pv 3) (pe_tup (pa_cons pe_str pa_nil)) (nomark _)))) pss_nil)
      (pss_cons (ps_if (PW.pt (pw_or (pt_cmpR ((op_inU (K := K) (P := P) (w := w))) (pv 6) (pe_tup (pa_cons pe_str (pa_cons pe_str pa_nil))) (by rfl)) (pw_or1 (PW.pt (pw_and (pt_not (pt_val (pe_callB (call_isiU (K := K)) (by rfl) T.b_isinstance (by decide +kernel) (pa_cons (pv 6) (pa_cons (pe_bltn (v := .ty "str") (by rfl) T.b_str (by decide +kernel) rfl) pa_nil))))) (pw_and1 (pt_chain (op_ltU) (op_ltU) (pv 9) (pv 6) (pv 2)))))))) (pss_cons (ps_set (i := 4) sc_l_replaced_right.nd rfl (Or.inl rfl) (pe_op (op_addU (K := K)) (pe_op (op_addU (K := K)) (pe_slice (sl_U (K := K)) (pe_ix (ix_U (K := K)) (pv 1) (pv 9) (fun _ _ => rfl)) po_none (po_some (pv 8))) (pe_tup (pa_cons (pv 6) pa_nil))) (pe_slice (sl_U (K := K)) (pe_ix (ix_U (K := K)) (pv 1) (pv 9) (fun _ _ => rfl)) (po_some (pe_op (op_addU (K := K)) (pv 8) pe_int)) po_none)))
      (pss_cons (ps_set (i := 5) sc_l_replaced_right.nd rfl (Or.inl rfl) (pe_op (op_addU (K := K)) (pe_op (op_addU (K := K)) (pe_slice (sl_U (K := K)) (pv 1) po_none (po_some (pv 9))) (pe_tup (pa_cons (pv 4) pa_nil))) (pe_slice (sl_U (K := K)) (pv 1) (po_some (pe_op (op_addU (K := K)) (pv 9) pe_int)) po_none)))
      (pss_one (ps_ret (pe_and (pe_cmpR (op_eqU (K := K) hu) (pv 3) (pe_tup (pa_cons pe_str pa_nil)) (nomark _)) (pe_one (pe_call (G_l_alike) (hr.mono (by decide)) rfl D_l_alike.g D_l_alike.F.kp D_l_alike.b .nil pass0 (pa_cons (pv 7) (pa_cons (pe_lst (pa_cons (pv 5) pa_nil)) pa_nil))))))))) pss_nil)
      (pss_one (ps_ret (pe_cmpR (op_eqU (K := K) hu) (pv 3) (pe_tup (pa_cons pe_str (pa_cons (pv 9) (pa_cons (pv 8) pa_nil)))) (nomark _)))))))))))), ?_⟩
    walk_at "run"
    obtain ⟨vn, us, rfl, hU, hus⟩ := hN.at
    have hul : us.length = N.length := by rw [hus.len, List.length_map]
    have hpos := hD.pos
    have hle := hD.le
    have hV := hD.valid (by decide)
    refine x_lenT hU (x_lst (by simp) fun Rl H1 nR e1 hR => x_tup (by simp) fun t1 H2 n2 e2 h2 => x_two (SqT.of h2) ?_)
    rw [hul]
    have e12 : Ex H H2 := fun x o h => e2 _ _ (e1 _ _ h)
    have hR2 := e2 _ _ hR
    walk_at "run"
    -- the station
    refine x_next (g0.ex e12) (by omega) (by omega) fun r H3 r0 r1 g3 e3 => ?_
    walk_at "run"
    refine x_lst (by simp) fun t4 H4 n4 e4 h4 => x_next (g3.ex e4) (by decide) (by decide) fun k H5 k0 k1 g5 e5 => ?_
    walk_at "run"
    refine ⟨⟨by decide, by decide⟩, ?_⟩
    have h45 : H5 t4 = some (.lst [.int r, .int (-1), .int (N.length : Nat)]) := e5 _ _ h4 ((g3.na n4)) (g3.nb n4)
    have hfd : k.fdiv 2 = k / 2 := Int.fdiv_eq_ediv_of_nonneg k (by decide)
    rw [hfd]
    refine x_menu h45 (by omega) (by simp; omega) fun sv _ hm => ?_
    obtain ⟨st, rfl, hs1, hs2⟩ : ∃ st : Int, V.int st = sv ∧ -1 ≤ st ∧ st ≤ N.length := by
      simp only [List.mem_cons, List.not_mem_nil, or_false] at hm
      rcases hm with rfl | rfl | rfl
      · exact ⟨r, rfl, by omega, by omega⟩
      · exact ⟨-1, rfl, by omega, by omega⟩
      · exact ⟨N.length, rfl, by omega, by omega⟩
    walk_at "run"
    have t5 : Tabs T0 H5 := by
      obtain ⟨m2, c2, ns2, a2, b2, _⟩ := g0.ex e12
      obtain ⟨m4, c4, ns4, a4, b4, _⟩ := g3.ex e4
      exact tabs_ex2 a4 b4 ((tabs_ex2 a2 b2 (hT0.ext e12) e3).ext e4) e5
    have x5 : Ex2 h b H H5 := fun x o hx h1 h2 => e5 _ _ (e4 _ _ (e3 _ _ (e12 _ _ hx) h1 h2)) h1 h2
    have hR5 : H5 Rl = some (.lst []) := e5 _ _ (e4 _ _ (e3 _ _ hR2 (g0.na nR) (g0.nb nR))) (g0.na nR) (g0.nb nR)
    clear h45 hm h4 n4 e4 e3 e5 g3 r0 r1 k0 k1 hfd
    -- the seat
    refine x_next g5 (by decide) (by decide) fun r H3' r0 r1 g3 e3 => ?_
    walk_at "run"
    refine x_lst (by simp) fun t4 H4' n4 e4 h4 => x_next (g3.ex e4) (by decide) (by decide) fun k H6 k0 k1 g6 e6 => ?_
    walk_at "run"
    refine ⟨⟨by decide, by decide⟩, ?_⟩
    have h46 : H6 t4 = some (.lst [.int r, .int (-1), .int 8]) := e6 _ _ h4 ((g3.na n4)) (g3.nb n4)
    have hfd : k.fdiv 2 = k / 2 := Int.fdiv_eq_ediv_of_nonneg k (by decide)
    rw [hfd]
    refine x_menu h46 (by omega) (by simp; omega) fun sv _ hm => ?_
    obtain ⟨se, rfl⟩ : ∃ se : Int, V.int se = sv := by
      simp only [List.mem_cons, List.not_mem_nil, or_false] at hm
      rcases hm with rfl | rfl | rfl
      · exact ⟨r, rfl⟩
      · exact ⟨-1, rfl⟩
      · exact ⟨8, rfl⟩
    walk_at "run"
    have t6 : Tabs T0 H6 := by
      obtain ⟨m2, c2, ns2, a2, b2, _⟩ := g5
      obtain ⟨m4, c4, ns4, a4, b4, _⟩ := g3.ex e4
      exact tabs_ex2 a4 b4 ((tabs_ex2 a2 b2 t5 e3).ext e4) e6
    have x6 : Ex2 h b H H6 := fun x o hx h1 h2 => e6 _ _ (e4 _ _ (e3 _ _ (x5 _ _ hx h1 h2) h1 h2)) h1 h2
    have hR6 : H6 Rl = some (.lst []) := e6 _ _ (e4 _ _ (e3 _ _ hR5 (g0.na nR) (g0.nb nR))) (g0.na nR) (g0.nb nR)
    clear h46 hm h4 n4 e4 e3 e6 g3 r0 r1 k0 k1 hfd hR5 t5 g5
    -- the place
    refine x_lst (by simp) fun t4 H4' n4 e4 h4 => x_next (g6.ex e4) (by decide) (by decide) fun k H7 k0 k1 g7 e7 => ?_
    walk_at "run"
    have h47 := e7 _ _ h4 (g6.na n4) (g6.nb n4)
    refine x_menu h47 k0 (by simp; omega) fun sv _ hm => ?_
    obtain ⟨pl, hpk, hkx⟩ : ∃ pl : Key, (∀ z, pl = .inr z → z = "b" ∨ z = "zz" ∨ z = "A" ∨ z = "") ∧ kV pl = sv := by
      simp only [List.mem_cons, List.not_mem_nil, or_false] at hm
      rcases hm with rfl | rfl | rfl | rfl | rfl | rfl | rfl | rfl
      · exact ⟨.inr "b", fun z e => by cases e; exact .inl rfl, rfl⟩
      · exact ⟨.inr "zz", fun z e => by cases e; exact .inr (.inl rfl), rfl⟩
      · exact ⟨.inr "A", fun z e => by cases e; exact .inr (.inr (.inl rfl)), rfl⟩
      · exact ⟨.inr "", fun z e => by cases e; exact .inr (.inr (.inr rfl)), rfl⟩
      all_goals
        refine ⟨.inl _, ?_, rfl⟩
        intro z e
        cases e
    have hx : ∀ H : Hp, Dp K H sv (keyD pl) := fun H => by rw [← hkx]; exact key_dp pl
    have t7 : Tabs T0 H7 := by
      obtain ⟨m4, c4, ns4, a4, b4, _⟩ := g6.ex e4
      exact tabs_ex2 a4 b4 (t6.ext e4) e7
    have x7 : Ex2 h b H H7 := fun x o hx h1 h2 => e7 _ _ (e4 _ _ (x6 _ _ hx h1 h2)) h1 h2
    have hR7 : H7 Rl = some (.lst []) := e7 _ _ (e4 _ _ hR6) (g0.na nR) (g0.nb nR)
    refine ⟨t7, fun H8 e8 t8 => ?_⟩
    have g8 : Gen H8 h b := by
      obtain ⟨m, c, ns, a, b, l⟩ := g7
      exact ⟨m, c, ns, e8 _ _ a (by simp), e8 _ _ b (by simp), l⟩
    have hR8 : H8 Rl = some (.lst []) := e8 _ _ hR7 (by simp)
    have x8 : ExN h b H H8 := (ExN.of2 x7).trans (ExN.ofN e8)
    have tx8 : TX H H8 := (g0.tx x7).trans (extN_tx e8)
    have hN8 : NetAt K H8 (.ref vn) N := Dp.tx tx8 hN (netD_t N)
    unfold TErr
    walk_at "run"
    refine ⟨x_tyL (SqL.of hR8), _, N, st, se, pl, by rw [hkx], hN8, hV, fun z e => ?_, fun hst H9 e9 => ?_, fun hst hse H9 e9 => ?_, fun hst hse k0 m0 hb d H9 e9 hd hd2 => ?_, fun hst hse hb H9 r9 e9 hr9 => ?_⟩
    · rcases hpk z e with rfl | rfl | rfl | rfl <;> decide +kernel
    · refine ⟨3, .non, .non, by decide, ⟨rfl, by rw [if_neg (by decide)]⟩, fun p9 H10 e10 h9 => ?_⟩
      have h9' : H10 p9 = some (.tup [.str "station"]) := h9
      have fin : ∀ H', Ex H10 H' → Q (.bl true) H' := fun H' e => q H' (((g8.ex e9).ex e10).ex e) (((x8.ex e9).ex e10).ex e) (((t8.ext e9).ext e10).ext e)
      by_cases h0 : 0 ≤ st
      · rw [if_pos h0]
        walk_at "run"
        rw [if_pos (by rw [decide_eq_false (by omega)]; rfl)]
        exact x_tell h9' (by decide +kernel) (by decide +kernel) fun H' e => fin H' e
      · rw [if_neg h0, if_pos (by rfl)]
        exact x_tell h9' (by decide +kernel) (by decide +kernel) fun H' e => fin H' e
    · refine ⟨4, .non, .non, by decide, ⟨rfl, by rw [if_neg (by decide)]⟩, fun p9 H10 e10 h9 => ?_⟩
      have h9' : H10 p9 = some (.tup [.str "seat"]) := h9
      have fin : ∀ H', Ex H10 H' → Q (.bl true) H' := fun H' e => q H' (((g8.ex e9).ex e10).ex e) (((x8.ex e9).ex e10).ex e) (((t8.ext e9).ext e10).ext e)
      have tx10 : TX H H10 := (tx8.trans (TX.of e9)).trans (TX.of e10)
      obtain ⟨j, rfl⟩ : ∃ j : Nat, st = (j : Int) := ⟨st.toNat, by omega⟩
      have hj : j < N.length := by omega
      rw [Int.toNat_natCast] at hse
      obtain ⟨svv, hsv, hsd⟩ := hus.get (show (N.map stD)[j]? = some (stD (N.getD j [])) by simp [List.getD_eq_getElem?_getD, hj])
      obtain ⟨cc, rfl, hcs⟩ := StAt.at hsd
      rw [if_pos (by omega)]
      walk_at "run"
      rw [if_neg (by rw [decide_eq_true (by omega)]; decide)]
      by_cases h0 : 0 ≤ se
      · rw [if_pos h0]
        refine x_ixT (tx10.t hU) (atI_nat hsv) (x_lenT (tx10.t hcs) ?_)
        rw [List.length_map]
        walk_at "run"
        rw [if_pos (by rw [decide_eq_false (fun z => hse ⟨h0, z⟩)]; rfl)]
        exact x_tell h9' (by decide +kernel) (by decide +kernel) fun H' e => fin H' e
      · rw [if_neg h0, if_pos (by rfl)]
        exact x_tell h9' (by decide +kernel) (by decide +kernel) fun H' e => fin H' e
    · obtain ⟨j, rfl⟩ : ∃ j : Nat, st = (j : Int) := ⟨st.toNat, by omega⟩
      obtain ⟨i, rfl⟩ : ∃ i : Nat, se = (i : Int) := ⟨se.toNat, by omega⟩
      have hj : j < N.length := by omega
      rw [Int.toNat_natCast] at hse
      rw [Int.toNat_natCast, Int.toNat_natCast] at hb
      have hi : i < (N.getD j []).length := by omega
      obtain ⟨svv, hsv, hsd⟩ := hus.get (show (N.map stD)[j]? = some (stD (N.getD j [])) by simp [List.getD_eq_getElem?_getD, hj])
      obtain ⟨cc, rfl, hcs⟩ := StAt.at hsd
      rw [replN_bad hV hj hi] at hb
      by_cases hpb : placeB j N.length pl = true
      · rw [if_pos hpb] at hb; cases hb
      rw [if_neg hpb] at hb
      obtain ⟨rfl, rfl⟩ : (j : Int) = k0 ∧ (i : Int) = m0 := by
        have := Option.some.inj hb
        exact ⟨congrArg Prod.fst this, congrArg Prod.snd this⟩
      refine ⟨0, .int j, .int i, by decide, ⟨rfl, by rw [if_pos rfl]; exact ⟨d, rfl, hd2⟩⟩, fun p9 H10 e10 h9 => ?_⟩
      have h9' : H10 p9 = some (.tup [.str "network", .int j, .int i]) := h9
      have fin : ∀ H', Ex H10 H' → Q (.bl true) H' := fun H' e => q H' (((g8.ex e9).ex e10).ex e) (((x8.ex e9).ex e10).ex e) (((t8.ext e9).ext e10).ext e)
      have tx10 : TX H H10 := (tx8.trans (TX.of e9)).trans (TX.of e10)
      rw [if_pos (by omega)]
      walk_at "run"
      rw [if_neg (by rw [decide_eq_true (by omega)]; decide)]
      rw [if_pos (by omega)]
      refine x_ixT (tx10.t hU) (atI_nat hsv) (x_lenT (tx10.t hcs) ?_)
      rw [List.length_map]
      walk_at "run"
      rw [if_neg (by rw [decide_eq_true (by omega)]; decide)]
      refine x_tup (by simp) fun t11 H11 n11 e11 h11 => ?_
      cases pl with
      | inr z =>
        subst hkx
        refine .inl ⟨t11, _, rfl, .inr (SqT.of h11), rfl, rfl, ⟨_, rfl, ?_⟩⟩
        have hz : z = "A" ∨ z = "" := by
          rcases hpk z rfl with rfl | rfl | h
          · exact absurd (show wordB "b" = true by decide +kernel) hpb
          · exact absurd (show wordB "zz" = true by decide +kernel) hpb
          · exact h
        rw [if_neg (by rcases hz with rfl | rfl <;> decide)]
        walk_at "run"
        exact x_tell3 (e11 _ _ h9') fun H' e => fin H' fun o u h => e _ _ (e11 _ _ h)
      | inl y =>
        subst hkx
        refine .inl ⟨t11, _, rfl, .inr (SqT.of h11), rfl, rfl, ⟨_, rfl, ?_⟩⟩
        rw [if_neg (by exact Bool.false_ne_true)]
        walk_at "run"
        have hny : ¬ ((j : Int) < y ∧ y < N.length) := fun h => hpb (by unfold placeB; simp; omega)
        rw [if_pos (by decide)]
        by_cases h1 : (j : Int) < y
        · rw [if_pos h1]
          walk_at "run"
          rw [if_neg (by omega)]
          exact x_tell3 (e11 _ _ h9') fun H' e => fin H' fun o u h => e _ _ (e11 _ _ h)
        · rw [if_neg h1, if_neg (by decide)]
          exact x_tell3 (e11 _ _ h9') fun H' e => fin H' fun o u h => e _ _ (e11 _ _ h)
    · obtain ⟨j, rfl⟩ : ∃ j : Nat, st = (j : Int) := ⟨st.toNat, by omega⟩
      obtain ⟨i, rfl⟩ : ∃ i : Nat, se = (i : Int) := ⟨se.toNat, by omega⟩
      have hj : j < N.length := by omega
      rw [Int.toNat_natCast] at hse
      rw [Int.toNat_natCast, Int.toNat_natCast] at hb hr9
      have hi : i < (N.getD j []).length := by omega
      obtain ⟨svv, hsv, hsd⟩ := hus.get (show (N.map stD)[j]? = some (stD (N.getD j [])) by simp [List.getD_eq_getElem?_getD, hj])
      obtain ⟨cc, rfl, hcs⟩ := StAt.at hsd
      rw [replN_bad hV hj hi] at hb
      have hpb : placeB j N.length pl = true := by
        by_cases h : placeB j N.length pl = true
        · exact h
        · rw [if_neg h] at hb; cases hb
      have h40 := hV.le
      have h8s : ∀ s ∈ N, s.length ≤ 8 := fun s hs => (hV.cnt.st s hs).2
      have hF : Fine 3 (netD (replN N j i pl)) := by
        have old : ∀ s ∈ N, s.length ≤ 1000000 ∧ ∀ p ∈ s, ∀ z, p = Sum.inr z → PyData.strOk z = true := fun s hs => by
          refine ⟨by have := h8s s hs; omega, fun p hp z hz => ?_⟩
          obtain ⟨k, hk⟩ := List.mem_iff_getElem?.mp hs
          have := (hD.st k s hk).2.2 p hp
          rw [hz] at this
          exact ok_W4 z this
        refine fine_net (by unfold replN; rw [List.length_set]; omega) fun s hs => ?_
        rcases List.mem_or_eq_of_mem_set hs with h | rfl
        · exact old s h
        · have hm : N.getD j [] ∈ N := by rw [List.getD_eq_getElem?_getD, List.getElem?_eq_getElem hj]; exact List.getElem_mem hj
          obtain ⟨a, b⟩ := old _ hm
          refine ⟨by rw [List.length_set]; exact a, fun p hp z hz => ?_⟩
          rcases List.mem_or_eq_of_mem_set hp with h | rfl
          · exact b p h z hz
          · rcases hpk z hz with rfl | rfl | rfl | rfl <;> decide +kernel
      refine x_append (e9 _ _ hR8) (by simp) fun H10 e10 h10 => x_tup (by simp) fun p9 H11 n11 e11 h9 => ?_
      have tx10 : TX H9 H10 := TX.but (e9 _ _ hR8) e10
      have tx11 : TX H H11 := ((tx8.trans (TX.of e9)).trans tx10).trans (TX.of e11)
      have g10 : Gen H10 h b := (g8.ex e9).but (g0.na nR) (g0.nb nR) e10
      have t10 : Tabs T0 H10 := fun pp hpp => by
        obtain ⟨ps, a1, a2, a3⟩ := (t8.ext e9) pp hpp
        refine ⟨ps, e10 _ _ (fun z => by rw [z, e9 _ _ hR8] at a1; cases a1) a1, a2, fun pos cv hc => ?_⟩
        obtain ⟨c0, b1, b2⟩ := a3 pos cv hc
        exact ⟨c0, b1, e10 _ _ (fun z => by rw [z, e9 _ _ hR8] at b2; unfold CodeO at b2; cases b2) b2⟩
      have x10 : ExN h b H H10 := fun o u hx h1 h2 n => e10 _ _ (ne_of_none hx nR) (e9 _ _ (x8 o u hx h1 h2 n))
      have fin : ∀ H', Ex H11 H' → Q (.bl true) H' := fun H' e => q H' ((g10.ex e11).ex e) ((x10.ex e11).ex e) ((t10.ext e11).ext e)
      have hr11 : NetAt K H11 r9 (replN N j i pl) := Dp.tx (tx10.trans (TX.of e11)) hr9 (netD_t _)
      have tail : ∀ H', Ex H11 H' → tailG K vn Rl p9 (j : Int) (i : Int) sv H' Q := fun H' e =>
        tailG_ok (tx11.t hU |> ex_t e) (DpAll.ex e (DpAll.tx tx11 hus (netD_t N).all)) h40 h8s hj hi hx (e _ _ h9) (e _ _ (e11 _ _ h10)) (Dp.ex e hr11) hF fun H'' e' => fin H'' fun o u h => e' _ _ (e _ _ h)
      rw [if_pos (by omega)]
      walk_at "run"
      rw [if_neg (by rw [decide_eq_true (by omega)]; decide)]
      rw [if_pos (by omega)]
      refine x_ixT (tx11.t hU) (atI_nat hsv) (x_lenT (tx11.t hcs) ?_)
      rw [List.length_map]
      walk_at "run"
      rw [if_neg (by rw [decide_eq_true (by omega)]; decide)]
      refine x_tup (by simp) fun t12 H12 n12 e12' h12 => ?_
      cases pl with
      | inr z =>
        subst hkx
        have hz : z = "b" ∨ z = "zz" := by
          rcases hpk z rfl with rfl | rfl | rfl | rfl
          · exact .inl rfl
          · exact .inr rfl
          · exact absurd (show wordB "A" = true from hpb) (by decide +kernel)
          · exact absurd (show wordB "" = true from hpb) (by decide +kernel)
        refine .inl ⟨t12, _, rfl, .inr (SqT.of h12), rfl, rfl, ⟨_, rfl, ?_⟩⟩
        rw [if_pos (by rcases hz with rfl | rfl <;> decide)]
        exact tail H12 e12'
      | inl y =>
        subst hkx
        refine .inl ⟨t12, _, rfl, .inr (SqT.of h12), rfl, rfl, ⟨_, rfl, ?_⟩⟩
        rw [if_neg (by exact Bool.false_ne_true)]
        walk_at "run"
        have hny : (j : Int) < y ∧ y < N.length := by
          unfold placeB at hpb
          simpa using hpb
        rw [if_pos (by decide), if_pos hny.1]
        walk_at "run"
        rw [if_pos hny.2]
        exact tail H12 e12'
end
end K
set_option Elab.async false
set_option linter.all false
set_option maxRecDepth 100000
set_option maxHeartbeats 1000000
namespace K
open PySem PySem.Spec PyProof.Rows L2 Evl FB LamX
local macro_rules | `(tactic| walk_at "run") => `(tactic| try simp only [tSeq, tAsg, tVar, tC, gName, L2.start, List.map_cons, List.map_nil, List.cons_append, List.nil_append, List.length_cons, List.length_nil, List.replicate, List.getElem?_cons_zero, List.getElem?_cons_succ, Option.some.injEq, exists_eq_left', List.set_cons_zero, List.set_cons_succ, V.ref.injEq, tRet, x_tLst, x_tTup, tCons, tCB, tNil, tOp, x_addI, x_mulI, x_rI, x_rI0, x_ltI, x_leI, x_ltS, x_leS, x_eqI, x_neI, x_eqS, x_eqB, x_neB, x_isiI, x_isiS, x_int, x_max, x_min, cxOf, tIfS, tNext, tTest, V.bl.injEq, decide_eq_true_eq, gSub, tAnd, tOr, tNot, tB, tDrop, tBM, x_tFor, iRng1, iList, iTup, x_tLc, tYes, tCall, tIf, tAndV, tOrV, tNotV, tChain, List.append_nil, tUn, if_true, wipe, true_and, x_never, iU, x_itS, kV, Nat.reduceAdd, Nat.reduceSub, List.replicate_zero, x_rU, x_tMkO, iEnumT, x_tDc, x_tDGet, x_tDGet2, x_sDPut, x_tDSetd, x_tDNewK, x_iItems, x_iZip, x_tSAddK, x_tLockV, x_tTupRg, x_tRg2, tPar, tPar3, tBM0])
theorem Drawn.more {N : Net} {a b : Int} (D : Drawn N a) (h : a ≤ b) : Drawn N b := ⟨D.pos, by have := D.le; omega, D.st⟩
section
variable {P : Program} {w : World} {K : PySem.W.Frag} {mg : Str → Option Value} {base : Heap}
abbrev s_law : Stmt := top 51
theorem sc_law : FnScope ["_law_script", "_law_h", "_law_turn", "_law_network_here", "_law_state_here"] ["_law_script"] (defScope s_law) := ⟨rfl, rfl, rfl, by decide +kernel, rfl, by decide +kernel, by decide +kernel⟩
def spLawT (K : PySem.W.Frag) (T0 : List (Addr × Str)) : Sp := fun vs H Q _ => ∃ (a : Addr) (ns : List Int), vs = [.ref a] ∧ SqL K H a (ns.map V.int) ∧ ns.length ≤ 63 ∧ Tabs T0 H ∧ ∀ H', Q (.bl true) H'
theorem ok_law {T0 : List (Addr × Str)} {f g1 g2 g3 g4 g5 g6 : Addr} {fd gd1 gd2 gd3 gd4 gd5 gd6 : FuncData} (F : Fun K "law" "law" s_law f fd) (T : Bt mg) (D_l_mix : Df K mg "_law_mix" s_l_mix ["_law_script", "_law_seed"] g1 gd1)
    (D_l_network : Df K mg "_law_network" s_l_network ["_law_h", "_law_most"] g2 gd2) (D_l_state : Df K mg "_law_state" s_l_state ["_law_h", "_law_network_here", "_law_most"] g3 gd3) (D_l_sent_right : Df K mg "_law_sent_right" s_l_sent_right ["_law_h", "_law_network_here", "_law_state_here"] g4 gd4)
    (D_l_left_right : Df K mg "_law_left_right" s_l_left_right ["_law_h", "_law_network_here", "_law_state_here"] g5 gd5) (D_l_replaced_right : Df K mg "_law_replaced_right" s_l_replaced_right ["_law_h", "_law_network_here"] g6 gd6)
    (G_l_network : FnOk P w K mg base CX0 3 g2 gd2 ["_law_h", "_law_most"] (spNetwork K)) (G_l_state : FnOk P w K mg base CX0 18 g3 gd3 ["_law_h", "_law_network_here", "_law_most"] (spStateL K)) (G_l_sent_right : FnOk P w K mg base CX0 21 g4 gd4 ["_law_h", "_law_network_here", "_law_state_here"] (spSent K T0))
    (G_l_left_right : FnOk P w K mg base CX0 20 g5 gd5 ["_law_h", "_law_network_here", "_law_state_here"] (spSent K T0)) (G_l_replaced_right : FnOk P w K mg base CX0 20 g6 gd6 ["_law_h", "_law_network_here"] (spReplL K T0)) :
    FnOk P w K mg base CX0 22 f fd ["_law_script"] (spLawT K T0) := by
  have G_l_mix : FnOk P w K mg base CX0 1 g1 gd1 _ _ := ok_l_mix D_l_mix T
  refine F.ok sc_law (fun vs H Q E h => ?_) (fun cdv A outer s H vs Q E hr h => ?_)
  · obtain ⟨a, ns, rfl, _⟩ := h
    rfl
  · obtain ⟨a, ns, rfl, hS, hl, hT0, q⟩ := h
    refine ⟨_, (pss_cons (ps_set (i := 1) sc_law.nd rfl (Or.inl rfl) (pe_call (G_l_mix) (hr.mono (by decide)) rfl D_l_mix.g D_l_mix.F.kp D_l_mix.b .nil pass0 (pa_cons (pv 0) (pa_cons pe_int pa_nil))))
      (pss_cons (ps_for PassesOwn.never rfl (pi_range1 (by rfl) T.b_range (pa_cons pe_int pa_nil)) (pg_name (i := 2) sc_law.nd rfl (Or.inl rfl)) (pss_cons (ps_set (i := 3) sc_law.nd rfl (Or.inl rfl) (pe_call (G_l_network) (hr.mono (by decide)) rfl D_l_network.g D_l_network.F.kp D_l_network.b .nil pass0 (pa_cons (pv 1) (pa_cons pe_int pa_nil))))
      (pss_cons (ps_set (i := 4) sc_law.nd rfl (Or.inl rfl) (pe_call (G_l_state) (hr.mono (by decide)) rfl D_l_state.g D_l_state.F.kp D_l_state.b .nil pass0 (pa_cons (pv 1) (pa_cons (pv 3) (pa_cons pe_int pa_nil)))))
      (pss_cons (ps_if (PW.pt (pw_or (pt_not (pt_val (pe_call (G_l_sent_right) (hr.mono (by decide)) rfl D_l_sent_right.g D_l_sent_right.F.kp D_l_sent_right.b .nil pass0 (pa_cons (pv 1) (pa_cons (pv 3) (pa_cons (pv 4) pa_nil)))))) (pw_or1 (pt_not (pt_val (pe_call (G_l_left_right) (hr.mono (by decide)) rfl D_l_left_right.g D_l_left_right.F.kp D_l_left_right.b .nil pass0 (pa_cons (pv 1) (pa_cons (pv 3) (pa_cons (pv 4) pa_nil))))))))) (pss_one (ps_ret pe_bl)) pss_nil)
      (pss_one (ps_if (pt_not (pt_val (pe_call (G_l_replaced_right) (hr.mono (by decide)) rfl D_l_replaced_right.g D_l_replaced_right.F.kp D_l_replaced_right.b .nil pass0 (pa_cons (pv 1) (pa_cons (pv 3) pa_nil))))) (pss_one (ps_ret pe_bl)) pss_nil))))))
      (pss_one (ps_ret pe_bl)))), ?_⟩
    walk_at "run"
    refine ⟨a, ns, 18, rfl, hS, hl, fun h b H1 e1 _ _ g1 => ?_⟩
    refine ⟨4, rfl, by decide, by decide, loop_it walk_range (fun i σ H' => ∃ u2 u3 u4, σ = [some (.ref a), some (.ref h), u2, u3, u4] ∧ Gen H' h b ∧ Tabs T0 H') ⟨_, _, _, rfl, g1, hT0.ext e1⟩ (fun _ _ _ _ _ => trivial) ?_ ?_⟩
    · rintro i x σ H2 H2' hi ⟨u2, u3, u4, rfl, g2, t2⟩ ⟨eH, rfl⟩
      subst eH
      walk_at "run"
      refine ⟨h, b, 6, rfl, g2, by decide, by decide, fun v N H3 hD hN g3 e3 => ?_⟩
      have t3 : Tabs T0 H3 := by
        obtain ⟨m, c, ns, a, b, _⟩ := g2
        exact tabs_ex2 a b t2 e3
      have hD8 : Drawn N 8 := hD.more (by decide)
      refine ⟨h, b, v, N, 30, rfl, g3, hN, hD8, by decide, by decide, fun u p qs H4 hO hu4 g4 e4 => ?_⟩
      have t4 : Tabs T0 H4 := by
        obtain ⟨m, c, ns, a, b, _⟩ := g3
        exact tabs_ex2 a b t3 e4
      have hN4 : NetAt K H4 v N := Dp.tx (g3.tx e4) hN (netD_t N)
      refine ⟨h, b, v, u, N, p, qs, rfl, g4, hN4, hD8, hu4, hO, t4, fun H5 g5 e5 t5 => ?_⟩
      have tN : ∀ {Ha Hb : Hp}, Gen Ha h b → ExN h b Ha Hb → TX Ha Hb := fun {Ha Hb} g e x o hx c => by
        obtain ⟨m, cc, ns, a, b, _⟩ := g
        exact e x o hx (fun z => by rw [z, a] at hx; cases hx; exact c) (fun z => by rw [z, b] at hx; cases hx; exact c) (fun ps z => by rw [z] at c; exact c)
      have tx5 := tN g4 e5
      walk_at "run"
      refine ⟨h, b, v, u, N, p, qs, rfl, g5, Dp.tx tx5 hN4 (netD_t N), hD8, Dp.tx tx5 hu4 (stateD_t p qs), hO, t5, fun H6 g6 e6 t6 => ?_⟩
      have tx6 := tx5.trans (tN g5 e6)
      walk_at "run"
      refine ⟨h, b, v, N, rfl, g6, Dp.tx tx6 hN4 (netD_t N), hD8, t6, fun H7 g7 e7 t7 => ?_⟩
      walk_at "run"
      exact ⟨_, _, _, rfl, g7, t7⟩
    · rintro σ H2 ⟨u2, u3, u4, rfl, g2, t2⟩
      walk_at "run"
      exact q H2
end
end K
set_option Elab.async false
set_option linter.all false
set_option maxRecDepth 100000
set_option maxHeartbeats 4000000
namespace K
open PySem PySem.Spec PyProof.Rows L2 Evl FB LamX
def rzB (K : PySem.W.Frag) (C : Addr) : Bool := PySem.W.excIn K C [.type "ValueError", .type "Exception", .type "BaseException", .type "object"] "ValueError.__new__" && (PySem.W.keepIn K (.ref C) && (decide (PySem.W.subIn K (.ref C) (.type "BaseException") = some true) && decide (PySem.W.typeIn K (.ref C) = some (.type "type"))))
theorem rz_ok {K : PySem.W.Frag} {mg : Str → Option Value} {x : Str} {C : Addr} (g : mg x = some (.ref C)) (h : rzB K C = true) : Rz K mg x C := by
  unfold rzB at h
  simp only [Bool.and_eq_true, decide_eq_true_eq] at h
  exact ⟨h.1, g, h.2.1, h.2.2.1, h.2.2.2⟩
def ercB (K : PySem.W.Frag) (D : Addr) : Bool := (PySem.W.clsIn K D).isSome && (decide (PySem.W.findIn K (.ref D) "__getattribute__" = some (some (.builtin "BaseException.__getattribute__"))) && (decide (PySem.W.findIn K (.ref D) "__getattr__" = some none) && (decide (PySem.W.subIn K (.ref D) (.type "BaseException") = some true) && (decide (PySem.W.findIn K (.ref D) "__class__" = some (some (.builtin "object.__class__"))) && (decide (PySem.W.specialIn K (.builtin "object.__class__") "__get__" = some (some (.builtin "getset_descriptor.__get__"))) && (decide (PySem.W.takesIn K (.builtin "object.__class__") = some true) && decide (PySem.W.mroIn K D (.type "object") = some true)))))))
theorem erc_ok {K : PySem.W.Frag} {D : Addr} (h : ercB K D = true) : ErC K D := by
  unfold ercB at h
  simp only [Bool.and_eq_true, decide_eq_true_eq] at h
  obtain ⟨a, b, c, d, e, f, g, i⟩ := h
  exact ⟨a, b, c, d, e, f, g, i⟩
def errB (K : PySem.W.Frag) (CF : Addr) (Cs : List Addr) : Bool :=
  (List.range 13).all (fun i => ercB K (Cs.getD i 0) && (decide (PySem.W.kitOne K (.ref (Cs.getD i 0)) (.type "ValueError") = some true) && decide (PySem.W.exmOne K (.ref (Cs.getD i 0)) (.ref CF) = some true))) &&
  ((List.range 13).all (fun i => (List.range 13).all fun j => decide (PySem.W.kitOne K (.ref (Cs.getD i 0)) (.ref (Cs.getD j 0)) = some (decide (i = j)))) &&
  (xfB K (Cs.getD 0 0) && (decide (PySem.W.findIn K (.ref (Cs.getD 0 0)) "station" = some none) && (decide (PySem.W.findIn K (.ref (Cs.getD 0 0)) "seat" = some none) && (PySem.W.keepIn K (.ref (Cs.getD 0 0)) && (decide (PySem.W.subIn K (.ref (Cs.getD 0 0)) (.type "BaseException") = some true) && decide (PySem.W.typeIn K (.ref (Cs.getD 0 0)) = some (.type "type"))))))))
structure ErrF (K : PySem.W.Frag) (CF : Addr) (C : Nat → Addr) : Prop where
  c : ∀ i, i < 13 → ErC K (C i)
  isv : ∀ i, i < 13 → PySem.W.kitOne K (.ref (C i)) (.type "ValueError") = some true
  exF : ∀ i, i < 13 → PySem.W.exmOne K (.ref (C i)) (.ref CF) = some true
  isi : ∀ i j, i < 13 → j < 13 → PySem.W.kitOne K (.ref (C i)) (.ref (C j)) = some (decide (i = j))
  xf : XfC K (C 0)
  n1 : PySem.W.findIn K (.ref (C 0)) "station" = some none
  n2 : PySem.W.findIn K (.ref (C 0)) "seat" = some none
  k0 : PySem.W.keepIn K (.ref (C 0)) = true
  s0 : PySem.W.subIn K (.ref (C 0)) (.type "BaseException") = some true
  t0 : PySem.W.typeIn K (.ref (C 0)) = some (.type "type")
theorem err_ok {K : PySem.W.Frag} {CF : Addr} {Cs : List Addr} (h : errB K CF Cs = true) : ErrF K CF (fun i => Cs.getD i 0) := by
  unfold errB at h
  simp only [Bool.and_eq_true, decide_eq_true_eq, List.all_eq_true, List.mem_range] at h
  obtain ⟨a, b, c, d, e, f, g, i⟩ := h
  exact ⟨fun j hj => erc_ok (a j hj).1, fun j hj => (a j hj).2.1, fun j hj => (a j hj).2.2, fun j k hj hk => b j hj k hk, xfB_ok c, d, e, f, g, i⟩
theorem all_mk {l : PySem.W.OpenLaw} {w : World} {K : PySem.W.Frag} {h : Heap} {mg : Str → Option Value} {fa : Addr} (X : K.In h) (G : h.Ns mainGlobals mg) (hfa : mg "law" = some (.ref fa))
    {f0 : Addr} {od0 an0 : Option Addr} {sl0 : Array (Option Value)} {oc0 kV0 dc0 pm0 ct0 : Value} {cd0 : Value}
    (a0 : PySem.W.nsIn K mainGlobals "check_station" = some (some (.ref f0)))
    (l0 : K.lookup f0 = some ⟨oc0, od0, .func (PySem.W.fnOf "check_station" "check_station" (defArgs s_check_station) (defBody s_check_station) (defScope s_check_station) .none kV0 dc0 pm0 an0 cd0 ct0), sl0⟩)
    (c0 : PySem.W.codeIn K cd0 "check_station" = true)
    (k0 : PySem.W.keepIn K (.ref f0) = true)
    {f1 : Addr} {od1 an1 : Option Addr} {sl1 : Array (Option Value)} {oc1 kV1 dc1 pm1 ct1 : Value} {cd1 : Value}
    (a1 : PySem.W.nsIn K mainGlobals "is_letters" = some (some (.ref f1)))
    (l1 : K.lookup f1 = some ⟨oc1, od1, .func (PySem.W.fnOf "is_letters" "is_letters" (defArgs s_is_letters) (defBody s_is_letters) (defScope s_is_letters) .none kV1 dc1 pm1 an1 cd1 ct1), sl1⟩)
    (c1 : PySem.W.codeIn K cd1 "is_letters" = true)
    (k1 : PySem.W.keepIn K (.ref f1) = true)
    {f2 : Addr} {od2 an2 : Option Addr} {sl2 : Array (Option Value)} {oc2 kV2 dc2 pm2 ct2 : Value} {cd2 : Value}
    (a2 : PySem.W.nsIn K mainGlobals "is_word" = some (some (.ref f2)))
    (l2 : K.lookup f2 = some ⟨oc2, od2, .func (PySem.W.fnOf "is_word" "is_word" (defArgs s_is_word) (defBody s_is_word) (defScope s_is_word) .none kV2 dc2 pm2 an2 cd2 ct2), sl2⟩)
    (c2 : PySem.W.codeIn K cd2 "is_word" = true)
    (k2 : PySem.W.keepIn K (.ref f2) = true)
    {f3 : Addr} {od3 an3 : Option Addr} {sl3 : Array (Option Value)} {oc3 kV3 dc3 pm3 ct3 : Value} {cd3 : Value}
    (a3 : PySem.W.nsIn K mainGlobals "is_place" = some (some (.ref f3)))
    (l3 : K.lookup f3 = some ⟨oc3, od3, .func (PySem.W.fnOf "is_place" "is_place" (defArgs s_is_place) (defBody s_is_place) (defScope s_is_place) .none kV3 dc3 pm3 an3 cd3 ct3), sl3⟩)
    (c3 : PySem.W.codeIn K cd3 "is_place" = true)
    (k3 : PySem.W.keepIn K (.ref f3) = true)
    {f4 : Addr} {od4 an4 : Option Addr} {sl4 : Array (Option Value)} {oc4 kV4 dc4 pm4 ct4 : Value} {cd4 : Value}
    (a4 : PySem.W.nsIn K mainGlobals "check_network" = some (some (.ref f4)))
    (l4 : K.lookup f4 = some ⟨oc4, od4, .func (PySem.W.fnOf "check_network" "check_network" (defArgs s_check_network) (defBody s_check_network) (defScope s_check_network) .none kV4 dc4 pm4 an4 cd4 ct4), sl4⟩)
    (c4 : PySem.W.codeIn K cd4 "check_network" = true)
    (k4 : PySem.W.keepIn K (.ref f4) = true)
    {f5 : Addr} {od5 an5 : Option Addr} {sl5 : Array (Option Value)} {oc5 kV5 dc5 pm5 ct5 : Value} {cd5 : Value}
    (a5 : PySem.W.nsIn K mainGlobals "check_state" = some (some (.ref f5)))
    (l5 : K.lookup f5 = some ⟨oc5, od5, .func (PySem.W.fnOf "check_state" "check_state" (defArgs s_check_state) (defBody s_check_state) (defScope s_check_state) .none kV5 dc5 pm5 an5 cd5 ct5), sl5⟩)
    (c5 : PySem.W.codeIn K cd5 "check_state" = true)
    (k5 : PySem.W.keepIn K (.ref f5) = true)
    {f6 : Addr} {od6 an6 : Option Addr} {sl6 : Array (Option Value)} {oc6 kV6 dc6 pm6 ct6 : Value} {cd6 : Value}
    (a6 : PySem.W.nsIn K mainGlobals "check_passengers" = some (some (.ref f6)))
    (l6 : K.lookup f6 = some ⟨oc6, od6, .func (PySem.W.fnOf "check_passengers" "check_passengers" (defArgs s_check_passengers) (defBody s_check_passengers) (defScope s_check_passengers) .none kV6 dc6 pm6 an6 cd6 ct6), sl6⟩)
    (c6 : PySem.W.codeIn K cd6 "check_passengers" = true)
    (k6 : PySem.W.keepIn K (.ref f6) = true)
    {f7 : Addr} {od7 an7 : Option Addr} {sl7 : Array (Option Value)} {oc7 kV7 dc7 pm7 ct7 : Value} {cd7 : Value}
    (a7 : PySem.W.nsIn K mainGlobals "list_finished" = some (some (.ref f7)))
    (l7 : K.lookup f7 = some ⟨oc7, od7, .func (PySem.W.fnOf "list_finished" "list_finished" (defArgs s_list_finished) (defBody s_list_finished) (defScope s_list_finished) .none kV7 dc7 pm7 an7 cd7 ct7), sl7⟩)
    (c7 : PySem.W.codeIn K cd7 "list_finished" = true)
    (k7 : PySem.W.keepIn K (.ref f7) = true)
    {f8 : Addr} {od8 an8 : Option Addr} {sl8 : Array (Option Value)} {oc8 kV8 dc8 pm8 ct8 : Value} {cd8 : Value}
    (a8 : PySem.W.nsIn K mainGlobals "join_queue" = some (some (.ref f8)))
    (l8 : K.lookup f8 = some ⟨oc8, od8, .func (PySem.W.fnOf "join_queue" "join_queue" (defArgs s_join_queue) (defBody s_join_queue) (defScope s_join_queue) .none kV8 dc8 pm8 an8 cd8 ct8), sl8⟩)
    (c8 : PySem.W.codeIn K cd8 "join_queue" = true)
    (k8 : PySem.W.keepIn K (.ref f8) = true)
    {f9 : Addr} {od9 an9 : Option Addr} {sl9 : Array (Option Value)} {oc9 kV9 dc9 pm9 ct9 : Value} {cd9 : Value}
    (a9 : PySem.W.nsIn K mainGlobals "depart" = some (some (.ref f9)))
    (l9 : K.lookup f9 = some ⟨oc9, od9, .func (PySem.W.fnOf "depart" "depart" (defArgs s_depart) (defBody s_depart) (defScope s_depart) .none kV9 dc9 pm9 an9 cd9 ct9), sl9⟩)
    (c9 : PySem.W.codeIn K cd9 "depart" = true)
    (k9 : PySem.W.keepIn K (.ref f9) = true)
    {f10 : Addr} {od10 an10 : Option Addr} {sl10 : Array (Option Value)} {oc10 kV10 dc10 pm10 ct10 : Value} {cd10 : Value}
    (a10 : PySem.W.nsIn K mainGlobals "send_early" = some (some (.ref f10)))
    (l10 : K.lookup f10 = some ⟨oc10, od10, .func (PySem.W.fnOf "send_early" "send_early" (defArgs s_send_early) (defBody s_send_early) (defScope s_send_early) .none kV10 dc10 pm10 an10 cd10 ct10), sl10⟩)
    (c10 : PySem.W.codeIn K cd10 "send_early" = true)
    (k10 : PySem.W.keepIn K (.ref f10) = true)
    {f11 : Addr} {od11 an11 : Option Addr} {sl11 : Array (Option Value)} {oc11 kV11 dc11 pm11 ct11 : Value} {cd11 : Value}
    (a11 : PySem.W.nsIn K mainGlobals "leave" = some (some (.ref f11)))
    (l11 : K.lookup f11 = some ⟨oc11, od11, .func (PySem.W.fnOf "leave" "leave" (defArgs s_leave) (defBody s_leave) (defScope s_leave) .none kV11 dc11 pm11 an11 cd11 ct11), sl11⟩)
    (c11 : PySem.W.codeIn K cd11 "leave" = true)
    (k11 : PySem.W.keepIn K (.ref f11) = true)
    {f12 : Addr} {od12 an12 : Option Addr} {sl12 : Array (Option Value)} {oc12 kV12 dc12 pm12 ct12 : Value} {cd12 : Value}
    (a12 : PySem.W.nsIn K mainGlobals "replace_seat" = some (some (.ref f12)))
    (l12 : K.lookup f12 = some ⟨oc12, od12, .func (PySem.W.fnOf "replace_seat" "replace_seat" (defArgs s_replace_seat) (defBody s_replace_seat) (defScope s_replace_seat) .none kV12 dc12 pm12 an12 cd12 ct12), sl12⟩)
    (c12 : PySem.W.codeIn K cd12 "replace_seat" = true)
    (k12 : PySem.W.keepIn K (.ref f12) = true)
    {f13 : Addr} {od13 an13 : Option Addr} {sl13 : Array (Option Value)} {oc13 kV13 dc13 pm13 ct13 : Value} {cd13 : Value}
    (a13 : PySem.W.nsIn K mainGlobals "send_boat" = some (some (.ref f13)))
    (l13 : K.lookup f13 = some ⟨oc13, od13, .func (PySem.W.fnOf "send_boat" "send_boat" (defArgs s_send_boat) (defBody s_send_boat) (defScope s_send_boat) .none kV13 dc13 pm13 an13 cd13 ct13), sl13⟩)
    (c13 : PySem.W.codeIn K cd13 "send_boat" = true)
    (k13 : PySem.W.keepIn K (.ref f13) = true)
    {f14 : Addr} {od14 an14 : Option Addr} {sl14 : Array (Option Value)} {oc14 kV14 dc14 pm14 ct14 : Value} {cd14 : Value}
    (a14 : PySem.W.nsIn K mainGlobals "remove_passenger" = some (some (.ref f14)))
    (l14 : K.lookup f14 = some ⟨oc14, od14, .func (PySem.W.fnOf "remove_passenger" "remove_passenger" (defArgs s_remove_passenger) (defBody s_remove_passenger) (defScope s_remove_passenger) .none kV14 dc14 pm14 an14 cd14 ct14), sl14⟩)
    (c14 : PySem.W.codeIn K cd14 "remove_passenger" = true)
    (k14 : PySem.W.keepIn K (.ref f14) = true)
    {f15 : Addr} {od15 an15 : Option Addr} {sl15 : Array (Option Value)} {oc15 kV15 dc15 pm15 ct15 : Value} {cd15 : Value}
    (a15 : PySem.W.nsIn K mainGlobals "change_seat" = some (some (.ref f15)))
    (l15 : K.lookup f15 = some ⟨oc15, od15, .func (PySem.W.fnOf "change_seat" "change_seat" (defArgs s_change_seat) (defBody s_change_seat) (defScope s_change_seat) .none kV15 dc15 pm15 an15 cd15 ct15), sl15⟩)
    (c15 : PySem.W.codeIn K cd15 "change_seat" = true)
    (k15 : PySem.W.keepIn K (.ref f15) = true)
    {f16 : Addr} {od16 an16 : Option Addr} {sl16 : Array (Option Value)} {oc16 kV16 dc16 pm16 ct16 : Value} {cd16 : Value}
    (a16 : PySem.W.nsIn K mainGlobals "_law_mix" = some (some (.ref f16)))
    (l16 : K.lookup f16 = some ⟨oc16, od16, .func (PySem.W.fnOf "_law_mix" "_law_mix" (defArgs s_l_mix) (defBody s_l_mix) (defScope s_l_mix) .none kV16 dc16 pm16 an16 cd16 ct16), sl16⟩)
    (c16 : PySem.W.codeIn K cd16 "_law_mix" = true)
    (k16 : PySem.W.keepIn K (.ref f16) = true)
    {f17 : Addr} {od17 an17 : Option Addr} {sl17 : Array (Option Value)} {oc17 kV17 dc17 pm17 ct17 : Value} {cd17 : Value}
    (a17 : PySem.W.nsIn K mainGlobals "_law_next" = some (some (.ref f17)))
    (l17 : K.lookup f17 = some ⟨oc17, od17, .func (PySem.W.fnOf "_law_next" "_law_next" (defArgs s_l_next) (defBody s_l_next) (defScope s_l_next) .none kV17 dc17 pm17 an17 cd17 ct17), sl17⟩)
    (c17 : PySem.W.codeIn K cd17 "_law_next" = true)
    (k17 : PySem.W.keepIn K (.ref f17) = true)
    {f18 : Addr} {od18 an18 : Option Addr} {sl18 : Array (Option Value)} {oc18 kV18 dc18 pm18 ct18 : Value} {cd18 : Value}
    (a18 : PySem.W.nsIn K mainGlobals "_law_alike" = some (some (.ref f18)))
    (l18 : K.lookup f18 = some ⟨oc18, od18, .func (PySem.W.fnOf "_law_alike" "_law_alike" (defArgs s_l_alike) (defBody s_l_alike) (defScope s_l_alike) .none kV18 dc18 pm18 an18 cd18 ct18), sl18⟩)
    (c18 : PySem.W.codeIn K cd18 "_law_alike" = true)
    (k18 : PySem.W.keepIn K (.ref f18) = true)
    {f19 : Addr} {od19 an19 : Option Addr} {sl19 : Array (Option Value)} {oc19 kV19 dc19 pm19 ct19 : Value} {cd19 : Value}
    (a19 : PySem.W.nsIn K mainGlobals "_law_error" = some (some (.ref f19)))
    (l19 : K.lookup f19 = some ⟨oc19, od19, .func (PySem.W.fnOf "_law_error" "_law_error" (defArgs s_l_error) (defBody s_l_error) (defScope s_l_error) .none kV19 dc19 pm19 an19 cd19 ct19), sl19⟩)
    (c19 : PySem.W.codeIn K cd19 "_law_error" = true)
    (k19 : PySem.W.keepIn K (.ref f19) = true)
    {f20 : Addr} {od20 an20 : Option Addr} {sl20 : Array (Option Value)} {oc20 kV20 dc20 pm20 ct20 : Value} {cd20 : Value}
    (a20 : PySem.W.nsIn K mainGlobals "_law_place" = some (some (.ref f20)))
    (l20 : K.lookup f20 = some ⟨oc20, od20, .func (PySem.W.fnOf "_law_place" "_law_place" (defArgs s_l_place) (defBody s_l_place) (defScope s_l_place) .none kV20 dc20 pm20 an20 cd20 ct20), sl20⟩)
    (c20 : PySem.W.codeIn K cd20 "_law_place" = true)
    (k20 : PySem.W.keepIn K (.ref f20) = true)
    {f21 : Addr} {od21 an21 : Option Addr} {sl21 : Array (Option Value)} {oc21 kV21 dc21 pm21 ct21 : Value} {cd21 : Value}
    (a21 : PySem.W.nsIn K mainGlobals "_law_network" = some (some (.ref f21)))
    (l21 : K.lookup f21 = some ⟨oc21, od21, .func (PySem.W.fnOf "_law_network" "_law_network" (defArgs s_l_network) (defBody s_l_network) (defScope s_l_network) .none kV21 dc21 pm21 an21 cd21 ct21), sl21⟩)
    (c21 : PySem.W.codeIn K cd21 "_law_network" = true)
    (k21 : PySem.W.keepIn K (.ref f21) = true)
    {f22 : Addr} {od22 an22 : Option Addr} {sl22 : Array (Option Value)} {oc22 kV22 dc22 pm22 ct22 : Value} {cd22 : Value}
    (a22 : PySem.W.nsIn K mainGlobals "_law_join" = some (some (.ref f22)))
    (l22 : K.lookup f22 = some ⟨oc22, od22, .func (PySem.W.fnOf "_law_join" "_law_join" (defArgs s_l_join) (defBody s_l_join) (defScope s_l_join) .none kV22 dc22 pm22 an22 cd22 ct22), sl22⟩)
    (c22 : PySem.W.codeIn K cd22 "_law_join" = true)
    (k22 : PySem.W.keepIn K (.ref f22) = true)
    {f23 : Addr} {od23 an23 : Option Addr} {sl23 : Array (Option Value)} {oc23 kV23 dc23 pm23 ct23 : Value} {cd23 : Value}
    (a23 : PySem.W.nsIn K mainGlobals "_law_depart" = some (some (.ref f23)))
    (l23 : K.lookup f23 = some ⟨oc23, od23, .func (PySem.W.fnOf "_law_depart" "_law_depart" (defArgs s_l_depart) (defBody s_l_depart) (defScope s_l_depart) .none kV23 dc23 pm23 an23 cd23 ct23), sl23⟩)
    (c23 : PySem.W.codeIn K cd23 "_law_depart" = true)
    (k23 : PySem.W.keepIn K (.ref f23) = true)
    {f24 : Addr} {od24 an24 : Option Addr} {sl24 : Array (Option Value)} {oc24 kV24 dc24 pm24 ct24 : Value} {cd24 : Value}
    (a24 : PySem.W.nsIn K mainGlobals "_law_state" = some (some (.ref f24)))
    (l24 : K.lookup f24 = some ⟨oc24, od24, .func (PySem.W.fnOf "_law_state" "_law_state" (defArgs s_l_state) (defBody s_l_state) (defScope s_l_state) .none kV24 dc24 pm24 an24 cd24 ct24), sl24⟩)
    (c24 : PySem.W.codeIn K cd24 "_law_state" = true)
    (k24 : PySem.W.keepIn K (.ref f24) = true)
    {f25 : Addr} {od25 an25 : Option Addr} {sl25 : Array (Option Value)} {oc25 kV25 dc25 pm25 ct25 : Value} {q25 P25 : Addr}
    (a25 : PySem.W.nsIn K mainGlobals "_law_sent_right" = some (some (.ref f25)))
    (l25 : K.lookup f25 = some ⟨oc25, od25, .func (PySem.W.fnOf "_law_sent_right" "_law_sent_right" (defArgs s_l_sent_right) (defBody s_l_sent_right) (defScope s_l_sent_right) .none kV25 dc25 pm25 an25 (.ref q25) ct25), sl25⟩)
    (c25 : PySem.W.codeIn K (.ref q25) "_law_sent_right" = true)
    (k25 : PySem.W.keepIn K (.ref f25) = true)
    (t25 : PySem.W.tabIn K "_law_sent_right" = some (q25, P25))
    (u25 : K.lookup P25 = none)
    {f26 : Addr} {od26 an26 : Option Addr} {sl26 : Array (Option Value)} {oc26 kV26 dc26 pm26 ct26 : Value} {q26 P26 : Addr}
    (a26 : PySem.W.nsIn K mainGlobals "_law_left_right" = some (some (.ref f26)))
    (l26 : K.lookup f26 = some ⟨oc26, od26, .func (PySem.W.fnOf "_law_left_right" "_law_left_right" (defArgs s_l_left_right) (defBody s_l_left_right) (defScope s_l_left_right) .none kV26 dc26 pm26 an26 (.ref q26) ct26), sl26⟩)
    (c26 : PySem.W.codeIn K (.ref q26) "_law_left_right" = true)
    (k26 : PySem.W.keepIn K (.ref f26) = true)
    (t26 : PySem.W.tabIn K "_law_left_right" = some (q26, P26))
    (u26 : K.lookup P26 = none)
    {f27 : Addr} {od27 an27 : Option Addr} {sl27 : Array (Option Value)} {oc27 kV27 dc27 pm27 ct27 : Value} {q27 P27 : Addr}
    (a27 : PySem.W.nsIn K mainGlobals "_law_replaced_right" = some (some (.ref f27)))
    (l27 : K.lookup f27 = some ⟨oc27, od27, .func (PySem.W.fnOf "_law_replaced_right" "_law_replaced_right" (defArgs s_l_replaced_right) (defBody s_l_replaced_right) (defScope s_l_replaced_right) .none kV27 dc27 pm27 an27 (.ref q27) ct27), sl27⟩)
    (c27 : PySem.W.codeIn K (.ref q27) "_law_replaced_right" = true)
    (k27 : PySem.W.keepIn K (.ref f27) = true)
    (t27 : PySem.W.tabIn K "_law_replaced_right" = some (q27, P27))
    (u27 : K.lookup P27 = none)
    {f28 : Addr} {od28 an28 : Option Addr} {sl28 : Array (Option Value)} {oc28 kV28 dc28 pm28 ct28 : Value} {cd28 : Value}
    (a28 : PySem.W.nsIn K mainGlobals "law" = some (some (.ref f28)))
    (l28 : K.lookup f28 = some ⟨oc28, od28, .func (PySem.W.fnOf "law" "law" (defArgs s_law) (defBody s_law) (defScope s_law) .none kV28 dc28 pm28 an28 cd28 ct28), sl28⟩)
    (c28 : PySem.W.codeIn K cd28 "law" = true)
    (k28 : PySem.W.keepIn K (.ref f28) = true)
    {t_0 : Nat}
    (m0 : PySem.W.nsIn K mainGlobals "MAX_STATIONS" = some (some (.int 40 t_0)))
    {t_1 : Nat}
    (m1 : PySem.W.nsIn K mainGlobals "MAX_SEATS" = some (some (.int 8 t_1)))
    {t_2 : Nat}
    (m2 : PySem.W.nsIn K mainGlobals "MAX_LETTERS" = some (some (.int 8 t_2)))
    (z0 : PySem.W.nsIn K mainGlobals "range" = some none)
    (z1 : PySem.W.nsIn K mainGlobals "tuple" = some none)
    (z2 : PySem.W.nsIn K mainGlobals "min" = some none)
    (z3 : PySem.W.nsIn K mainGlobals "isinstance" = some none)
    (z4 : PySem.W.nsIn K mainGlobals "str" = some none)
    (z5 : PySem.W.nsIn K mainGlobals "dict" = some none)
    (z6 : PySem.W.nsIn K mainGlobals "bool" = some none)
    (z7 : PySem.W.nsIn K mainGlobals "sorted" = some none)
    (z8 : PySem.W.nsIn K mainGlobals "set" = some none)
    (z9 : PySem.W.nsIn K mainGlobals "enumerate" = some none)
    (z10 : PySem.W.nsIn K mainGlobals "all" = some none)
    (z11 : PySem.W.nsIn K mainGlobals "len" = some none)
    (z12 : PySem.W.nsIn K mainGlobals "list" = some none)
    (z13 : PySem.W.nsIn K mainGlobals "int" = some none)
    (z14 : PySem.W.nsIn K mainGlobals "max" = some none)
    (z15 : PySem.W.nsIn K mainGlobals "sum" = some none)
    (z16 : PySem.W.nsIn K mainGlobals "zip" = some none)
    (z17 : PySem.W.nsIn K mainGlobals "abs" = some none)
    (z18 : PySem.W.nsIn K mainGlobals "reversed" = some none)
    (z19 : PySem.W.nsIn K mainGlobals "any" = some none)
    {CF fI : Addr} {C0 C1 C2 C3 C4 C5 C6 C7 C8 C9 C10 C11 C12 : Addr}
    (eF : PySem.W.nsIn K mainGlobals "FerryError" = some (some (.ref CF)))
    (e0 : PySem.W.nsIn K mainGlobals "InvalidNetwork" = some (some (.ref C0)))
    (e1 : PySem.W.nsIn K mainGlobals "InvalidState" = some (some (.ref C1)))
    (e2 : PySem.W.nsIn K mainGlobals "InvalidCount" = some (some (.ref C2)))
    (e3 : PySem.W.nsIn K mainGlobals "UnknownStation" = some (some (.ref C3)))
    (e4 : PySem.W.nsIn K mainGlobals "UnknownSeat" = some (some (.ref C4)))
    (e5 : PySem.W.nsIn K mainGlobals "UnknownPort" = some (some (.ref C5)))
    (e6 : PySem.W.nsIn K mainGlobals "UnknownPassenger" = some (some (.ref C6)))
    (e7 : PySem.W.nsIn K mainGlobals "EmptyBoat" = some (some (.ref C7)))
    (e8 : PySem.W.nsIn K mainGlobals "InvalidRates" = some (some (.ref C8)))
    (e9 : PySem.W.nsIn K mainGlobals "InvalidLengths" = some (some (.ref C9)))
    (e10 : PySem.W.nsIn K mainGlobals "InvalidPassengers" = some (some (.ref C10)))
    (e11 : PySem.W.nsIn K mainGlobals "TooManyCandidates" = some (some (.ref C11)))
    (e12 : PySem.W.nsIn K mainGlobals "Contradiction" = some (some (.ref C12)))
    (eV : PySem.W.nsIn K mainGlobals "ValueError" = some none)
    (eB : errB K CF [C0, C1, C2, C3, C4, C5, C6, C7, C8, C9, C10, C11, C12] = true)
    (r7 : rzB K C7 = true)
    (r6 : rzB K C6 = true)
    (r4 : rzB K C4 = true)
    (r3 : rzB K C3 = true)
    {nm qn : Str} {NN : Addr} {bs bm : List Value} {sn : List Str} {sub : List Value} {ab : Bool} {col : Option Bool} {dd : Option Addr} {k0' k1' k2' k3' k5' : Option Value}
    (lC : K.lookup C0 = some (excClassObj nm qn C0 NN bs bm true sn sub ab col dd k0' k1' k2' k3' k5' "ValueError.__new__"))
    (rC : PySem.HandSPX.refsVE bm = true)
    (iC : PySem.W.findIn K (.ref C0) "__init__" = some (some (.ref fI)))
    (tC : PySem.W.typeIn K (.ref fI) = some (.type "function"))
    (sC : PySem.W.findIn K (.ref C0) "__setattr__" = some (some (.builtin "object.__setattr__")))
    {odI anI : Option Addr} {slI : Array (Option Value)} {ocI kVI dcI pmI cdI ctI : Value}
    (lI : K.lookup fI = some ⟨ocI, odI, .func (PySem.W.fnOf "__init__" "InvalidNetwork.__init__" (defArgs s_init) (defBody s_init) (defScope s_init) .none kVI dcI pmI anI cdI ctI), slI⟩)
    (cI : PySem.W.codeIn K cdI "InvalidNetwork.__init__" = true)
    (kI : PySem.W.keepIn K (.ref fI) = true)
    (pd : (decide (P25 ≠ P26) && decide (P25 ≠ P27) && decide (P26 ≠ P27)) = true)
    : ∃ (fd : FuncData) (cs : List (Str × Addr × Addr)) (sp : Sp), (∀ p ∈ cs, p.1 ∈ (["_law_sent_right", "_law_left_right", "_law_replaced_right"] : List Str) ∧ PySem.W.tabIn K p.1 = some p.2 ∧ K.lookup p.2.2 = none) ∧ (∀ (s : Shared) (u : Value), BindsTo s fd ⟨[u], []⟩ [("_law_script", u)]) ∧
        (∀ (H : Hp) (a : Addr) (ns : List Int), ns.length ≤ 63 → (∀ p ∈ cs, H p.2.2 = some (.tbl #[])) → SqL K H a (ns.map V.int) → sp [.ref a] H (fun v _ => v = .bl true) fun _ _ _ => False) ∧
        ∀ base : Heap, K.In base → base.Ns mainGlobals mg → (∀ p ∈ cs, TabB base mg p.2.1 p.2.2) → FnOk l.prog w K mg base L2.CX0 22 fa fd ["_law_script"] sp := by
  have e := hfa.symm.trans (PySem.W.mg_of X G a28)
  cases e
  have F0 := fun_mk (st := s_check_station) l0 c0 k0
  have D_check_station : Df K mg "check_station" s_check_station ["network", "station"] f0 _ := ⟨F0, PySem.W.mg_of X G a0, F0.binds (ps := ["network", "station"]) fun _ _ _ _ _ _ us hl => match us, hl with | [_, _], _ => rfl⟩
  have F1 := fun_mk (st := s_is_letters) l1 c1 k1
  have D_is_letters : Df K mg "is_letters" s_is_letters ["text"] f1 _ := ⟨F1, PySem.W.mg_of X G a1, F1.binds (ps := ["text"]) fun _ _ _ _ _ _ us hl => match us, hl with | [_], _ => rfl⟩
  have F2 := fun_mk (st := s_is_word) l2 c2 k2
  have D_is_word : Df K mg "is_word" s_is_word ["text"] f2 _ := ⟨F2, PySem.W.mg_of X G a2, F2.binds (ps := ["text"]) fun _ _ _ _ _ _ us hl => match us, hl with | [_], _ => rfl⟩
  have F3 := fun_mk (st := s_is_place) l3 c3 k3
  have D_is_place : Df K mg "is_place" s_is_place ["place", "station", "stations"] f3 _ := ⟨F3, PySem.W.mg_of X G a3, F3.binds (ps := ["place", "station", "stations"]) fun _ _ _ _ _ _ us hl => match us, hl with | [_, _, _], _ => rfl⟩
  have F4 := fun_mk (st := s_check_network) l4 c4 k4
  have D_check_network : Df K mg "check_network" s_check_network ["network"] f4 _ := ⟨F4, PySem.W.mg_of X G a4, F4.binds (ps := ["network"]) fun _ _ _ _ _ _ us hl => match us, hl with | [_], _ => rfl⟩
  have F5 := fun_mk (st := s_check_state) l5 c5 k5
  have D_check_state : Df K mg "check_state" s_check_state ["network", "state"] f5 _ := ⟨F5, PySem.W.mg_of X G a5, F5.binds (ps := ["network", "state"]) fun _ _ _ _ _ _ us hl => match us, hl with | [_, _], _ => rfl⟩
  have F6 := fun_mk (st := s_check_passengers) l6 c6 k6
  have D_check_passengers : Df K mg "check_passengers" s_check_passengers ["next_passenger", "queues"] f6 _ := ⟨F6, PySem.W.mg_of X G a6, F6.binds (ps := ["next_passenger", "queues"]) fun _ _ _ _ _ _ us hl => match us, hl with | [_, _], _ => rfl⟩
  have F7 := fun_mk (st := s_list_finished) l7 c7 k7
  have D_list_finished : Df K mg "list_finished" s_list_finished ["events"] f7 _ := ⟨F7, PySem.W.mg_of X G a7, F7.binds (ps := ["events"]) fun _ _ _ _ _ _ us hl => match us, hl with | [_], _ => rfl⟩
  have F8 := fun_mk (st := s_join_queue) l8 c8 k8
  have D_join_queue : Df K mg "join_queue" s_join_queue ["network", "queues", "station", "passenger", "events"] f8 _ := ⟨F8, PySem.W.mg_of X G a8, F8.binds (ps := ["network", "queues", "station", "passenger", "events"]) fun _ _ _ _ _ _ us hl => match us, hl with | [_, _, _, _, _], _ => rfl⟩
  have F9 := fun_mk (st := s_depart) l9 c9 k9
  have D_depart : Df K mg "depart" s_depart ["network", "queues", "station", "events"] f9 _ := ⟨F9, PySem.W.mg_of X G a9, F9.binds (ps := ["network", "queues", "station", "events"]) fun _ _ _ _ _ _ us hl => match us, hl with | [_, _, _, _], _ => rfl⟩
  have F10 := fun_mk (st := s_send_early) l10 c10 k10
  have D_send_early : Df K mg "send_early" s_send_early ["network", "state", "station"] f10 _ := ⟨F10, PySem.W.mg_of X G a10, F10.binds (ps := ["network", "state", "station"]) fun _ _ _ _ _ _ us hl => match us, hl with | [_, _, _], _ => rfl⟩
  have F11 := fun_mk (st := s_leave) l11 c11 k11
  have D_leave : Df K mg "leave" s_leave ["network", "state", "passenger"] f11 _ := ⟨F11, PySem.W.mg_of X G a11, F11.binds (ps := ["network", "state", "passenger"]) fun _ _ _ _ _ _ us hl => match us, hl with | [_, _, _], _ => rfl⟩
  have F12 := fun_mk (st := s_replace_seat) l12 c12 k12
  have D_replace_seat : Df K mg "replace_seat" s_replace_seat ["network", "station", "seat", "place"] f12 _ := ⟨F12, PySem.W.mg_of X G a12, F12.binds (ps := ["network", "station", "seat", "place"]) fun _ _ _ _ _ _ us hl => match us, hl with | [_, _, _, _], _ => rfl⟩
  have F13 := fun_mk (st := s_send_boat) l13 c13 k13
  have D_send_boat : Df K mg "send_boat" s_send_boat ["network", "state", "station"] f13 _ := ⟨F13, PySem.W.mg_of X G a13, F13.binds (ps := ["network", "state", "station"]) fun _ _ _ _ _ _ us hl => match us, hl with | [_, _, _], _ => rfl⟩
  have F14 := fun_mk (st := s_remove_passenger) l14 c14 k14
  have D_remove_passenger : Df K mg "remove_passenger" s_remove_passenger ["state", "passenger"] f14 _ := ⟨F14, PySem.W.mg_of X G a14, F14.binds (ps := ["state", "passenger"]) fun _ _ _ _ _ _ us hl => match us, hl with | [_, _], _ => rfl⟩
  have F15 := fun_mk (st := s_change_seat) l15 c15 k15
  have D_change_seat : Df K mg "change_seat" s_change_seat ["network", "station", "seat", "place"] f15 _ := ⟨F15, PySem.W.mg_of X G a15, F15.binds (ps := ["network", "station", "seat", "place"]) fun _ _ _ _ _ _ us hl => match us, hl with | [_, _, _, _], _ => rfl⟩
  have F16 := fun_mk (st := s_l_mix) l16 c16 k16
  have D_l_mix : Df K mg "_law_mix" s_l_mix ["_law_script", "_law_seed"] f16 _ := ⟨F16, PySem.W.mg_of X G a16, F16.binds (ps := ["_law_script", "_law_seed"]) fun _ _ _ _ _ _ us hl => match us, hl with | [_, _], _ => rfl⟩
  have F17 := fun_mk (st := s_l_next) l17 c17 k17
  have D_l_next : Df K mg "_law_next" s_l_next ["_law_h", "_law_limit"] f17 _ := ⟨F17, PySem.W.mg_of X G a17, F17.binds (ps := ["_law_h", "_law_limit"]) fun _ _ _ _ _ _ us hl => match us, hl with | [_, _], _ => rfl⟩
  have F18 := fun_mk (st := s_l_alike) l18 c18 k18
  have D_l_alike : Df K mg "_law_alike" s_l_alike ["_law_found", "_law_due"] f18 _ := ⟨F18, PySem.W.mg_of X G a18, F18.binds (ps := ["_law_found", "_law_due"]) fun _ _ _ _ _ _ us hl => match us, hl with | [_, _], _ => rfl⟩
  have F19 := fun_mk (st := s_l_error) l19 c19 k19
  have D_l_error : Df K mg "_law_error" s_l_error ["_law_call"] f19 _ := ⟨F19, PySem.W.mg_of X G a19, F19.binds (ps := ["_law_call"]) fun _ _ _ _ _ _ us hl => match us, hl with | [_], _ => rfl⟩
  have F20 := fun_mk (st := s_l_place) l20 c20 k20
  have D_l_place : Df K mg "_law_place" s_l_place ["_law_h", "_law_station", "_law_count"] f20 _ := ⟨F20, PySem.W.mg_of X G a20, F20.binds (ps := ["_law_h", "_law_station", "_law_count"]) fun _ _ _ _ _ _ us hl => match us, hl with | [_, _, _], _ => rfl⟩
  have F21 := fun_mk (st := s_l_network) l21 c21 k21
  have D_l_network : Df K mg "_law_network" s_l_network ["_law_h", "_law_most"] f21 _ := ⟨F21, PySem.W.mg_of X G a21, F21.binds (ps := ["_law_h", "_law_most"]) fun _ _ _ _ _ _ us hl => match us, hl with | [_, _], _ => rfl⟩
  have F22 := fun_mk (st := s_l_join) l22 c22 k22
  have D_l_join : Df K mg "_law_join" s_l_join ["_law_network_here", "_law_queues", "_law_station", "_law_passenger", "_law_finished"] f22 _ := ⟨F22, PySem.W.mg_of X G a22, F22.binds (ps := ["_law_network_here", "_law_queues", "_law_station", "_law_passenger", "_law_finished"]) fun _ _ _ _ _ _ us hl => match us, hl with | [_, _, _, _, _], _ => rfl⟩
  have F23 := fun_mk (st := s_l_depart) l23 c23 k23
  have D_l_depart : Df K mg "_law_depart" s_l_depart ["_law_network_here", "_law_queues", "_law_station", "_law_finished"] f23 _ := ⟨F23, PySem.W.mg_of X G a23, F23.binds (ps := ["_law_network_here", "_law_queues", "_law_station", "_law_finished"]) fun _ _ _ _ _ _ us hl => match us, hl with | [_, _, _, _], _ => rfl⟩
  have F24 := fun_mk (st := s_l_state) l24 c24 k24
  have D_l_state : Df K mg "_law_state" s_l_state ["_law_h", "_law_network_here", "_law_most"] f24 _ := ⟨F24, PySem.W.mg_of X G a24, F24.binds (ps := ["_law_h", "_law_network_here", "_law_most"]) fun _ _ _ _ _ _ us hl => match us, hl with | [_, _, _], _ => rfl⟩
  have F25 := fun_mk (st := s_l_sent_right) l25 c25 k25
  have D_l_sent_right : Df K mg "_law_sent_right" s_l_sent_right ["_law_h", "_law_network_here", "_law_state_here"] f25 _ := ⟨F25, PySem.W.mg_of X G a25, F25.binds (ps := ["_law_h", "_law_network_here", "_law_state_here"]) fun _ _ _ _ _ _ us hl => match us, hl with | [_, _, _], _ => rfl⟩
  have F26 := fun_mk (st := s_l_left_right) l26 c26 k26
  have D_l_left_right : Df K mg "_law_left_right" s_l_left_right ["_law_h", "_law_network_here", "_law_state_here"] f26 _ := ⟨F26, PySem.W.mg_of X G a26, F26.binds (ps := ["_law_h", "_law_network_here", "_law_state_here"]) fun _ _ _ _ _ _ us hl => match us, hl with | [_, _, _], _ => rfl⟩
  have F27 := fun_mk (st := s_l_replaced_right) l27 c27 k27
  have D_l_replaced_right : Df K mg "_law_replaced_right" s_l_replaced_right ["_law_h", "_law_network_here"] f27 _ := ⟨F27, PySem.W.mg_of X G a27, F27.binds (ps := ["_law_h", "_law_network_here"]) fun _ _ _ _ _ _ us hl => match us, hl with | [_, _], _ => rfl⟩
  have F28 := fun_mk (st := s_law) l28 c28 k28
  have g_MAX_STATIONS : ∃ t, mg "MAX_STATIONS" = some (.int 40 t) := ⟨_, PySem.W.mg_of X G m0⟩
  have g_MAX_SEATS : ∃ t, mg "MAX_SEATS" = some (.int 8 t) := ⟨_, PySem.W.mg_of X G m1⟩
  have g_MAX_LETTERS : ∃ t, mg "MAX_LETTERS" = some (.int 8 t) := ⟨_, PySem.W.mg_of X G m2⟩
  have T : Bt mg := ⟨PySem.W.mg_none_of X G z0, PySem.W.mg_none_of X G z1, PySem.W.mg_none_of X G z2, PySem.W.mg_none_of X G z3, PySem.W.mg_none_of X G z4, PySem.W.mg_none_of X G z5, PySem.W.mg_none_of X G z6, PySem.W.mg_none_of X G z7, PySem.W.mg_none_of X G z8, PySem.W.mg_none_of X G z9, PySem.W.mg_none_of X G z10, PySem.W.mg_none_of X G z11, PySem.W.mg_none_of X G z12, PySem.W.mg_none_of X G z13, PySem.W.mg_none_of X G z14, PySem.W.mg_none_of X G z15, PySem.W.mg_none_of X G z16, PySem.W.mg_none_of X G z17, PySem.W.mg_none_of X G z18, PySem.W.mg_none_of X G z19⟩
  have EF := err_ok eB
  generalize hCs : (fun i => ([C0, C1, C2, C3, C4, C5, C6, C7, C8, C9, C10, C11, C12] : List Addr).getD i 0) = C at EF
  have h0 : C 0 = C0 := by rw [← hCs]; rfl
  have h1 : C 1 = C1 := by rw [← hCs]; rfl
  have h2 : C 2 = C2 := by rw [← hCs]; rfl
  have h3 : C 3 = C3 := by rw [← hCs]; rfl
  have h4 : C 4 = C4 := by rw [← hCs]; rfl
  have h5 : C 5 = C5 := by rw [← hCs]; rfl
  have h6 : C 6 = C6 := by rw [← hCs]; rfl
  have h7 : C 7 = C7 := by rw [← hCs]; rfl
  have h8 : C 8 = C8 := by rw [← hCs]; rfl
  have h9 : C 9 = C9 := by rw [← hCs]; rfl
  have h10 : C 10 = C10 := by rw [← hCs]; rfl
  have h11 : C 11 = C11 := by rw [← hCs]; rfl
  have h12 : C 12 = C12 := by rw [← hCs]; rfl
  have R : Errs K mg CF C := ⟨PySem.W.mg_of X G eF, fun i hi => match i, hi with
    | 0, _ => by rw [h0]; exact PySem.W.mg_of X G e0
    | 1, _ => by rw [h1]; exact PySem.W.mg_of X G e1
    | 2, _ => by rw [h2]; exact PySem.W.mg_of X G e2
    | 3, _ => by rw [h3]; exact PySem.W.mg_of X G e3
    | 4, _ => by rw [h4]; exact PySem.W.mg_of X G e4
    | 5, _ => by rw [h5]; exact PySem.W.mg_of X G e5
    | 6, _ => by rw [h6]; exact PySem.W.mg_of X G e6
    | 7, _ => by rw [h7]; exact PySem.W.mg_of X G e7
    | 8, _ => by rw [h8]; exact PySem.W.mg_of X G e8
    | 9, _ => by rw [h9]; exact PySem.W.mg_of X G e9
    | 10, _ => by rw [h10]; exact PySem.W.mg_of X G e10
    | 11, _ => by rw [h11]; exact PySem.W.mg_of X G e11
    | 12, _ => by rw [h12]; exact PySem.W.mg_of X G e12
    , PySem.W.mg_none_of X G eV, EF.c, EF.isi, EF.isv, EF.exF, EF.xf, EF.n1, EF.n2⟩
  have Z_EmptyBoat : Rz K mg "EmptyBoat" (C 7) := by rw [h7]; exact rz_ok (PySem.W.mg_of X G e7) r7
  have Z_UnknownPassenger : Rz K mg "UnknownPassenger" (C 6) := by rw [h6]; exact rz_ok (PySem.W.mg_of X G e6) r6
  have Z_UnknownSeat : Rz K mg "UnknownSeat" (C 4) := by rw [h4]; exact rz_ok (PySem.W.mg_of X G e4) r4
  have Z_UnknownStation : Rz K mg "UnknownStation" (C 3) := by rw [h3]; exact rz_ok (PySem.W.mg_of X G e3) r3
  have F_I := fun_mk (st := s_init) lI cI kI
  have D_init_b := F_I.binds (ps := ["self", "station", "seat"]) fun _ _ _ _ _ _ us hl => match us, hl with | [_, _, _], _ => rfl
  have N_E : Er K mg "InvalidNetwork" (C 0) fI := by
    have s0 := EF.s0
    have t0 := EF.t0
    have k0 := EF.k0
    rw [h0] at s0 t0 k0 ⊢
    exact ⟨⟨⟨_, _, _, _, _, _, _, _, _, _, _, _, _, _, _, lC, rC⟩, sC, s0, t0, k0⟩, PySem.W.mg_of X G e0, iC, tC⟩
  simp only [Bool.and_eq_true, decide_eq_true_eq] at pd
  refine ⟨PySem.W.fnOf "law" "law" (defArgs s_law) (defBody s_law) (defScope s_law) .none kV28 dc28 pm28 an28 cd28 ct28, [("_law_sent_right", q25, P25), ("_law_left_right", q26, P26), ("_law_replaced_right", q27, P27)], spLawT K [(P25, (("_law_sent_right" : Str) ++ (".<locals>." : Str)) ++ ("<lambda>" : Str)), (P26, (("_law_left_right" : Str) ++ (".<locals>." : Str)) ++ ("<lambda>" : Str)), (P27, (("_law_replaced_right" : Str) ++ (".<locals>." : Str)) ++ ("<lambda>" : Str))], ?_, fun s v => .of_eq rfl, ?_, fun base _ _ hTB => ?_⟩
  · intro p hp
    simp only [List.mem_cons, List.not_mem_nil, or_false] at hp
    rcases hp with rfl | rfl | rfl
    · exact ⟨.head _, t25, u25⟩
    · exact ⟨.tail _ (.head _), t26, u26⟩
    · exact ⟨.tail _ (.tail _ (.head _)), t27, u27⟩
  · intro H a ns hl hT hS
    refine ⟨a, ns, rfl, hS, hl, fun p hp => ?_, fun _ => rfl⟩
    simp only [List.mem_cons, List.not_mem_nil, or_false] at hp
    rcases hp with rfl | rfl | rfl
    · exact TabS.nil (hT ("_law_sent_right", q25, P25) (.head _))
    · exact TabS.nil (hT ("_law_left_right", q26, P26) (.tail _ (.head _)))
    · exact TabS.nil (hT ("_law_replaced_right", q27, P27) (.tail _ (.tail _ (.head _))))
  · have F_law := F28
    have TB_l_sent_right : TabB base mg q25 P25 := hTB ("_law_sent_right", q25, P25) (.head _)
    have hmT_l_sent_right : (P25, (("_law_sent_right" : Str) ++ (".<locals>." : Str)) ++ ("<lambda>" : Str)) ∈ ([(P25, (("_law_sent_right" : Str) ++ (".<locals>." : Str)) ++ ("<lambda>" : Str)), (P26, (("_law_left_right" : Str) ++ (".<locals>." : Str)) ++ ("<lambda>" : Str)), (P27, (("_law_replaced_right" : Str) ++ (".<locals>." : Str)) ++ ("<lambda>" : Str))] : List (Addr × Str)) := .head _
    have huT_l_sent_right : ∀ p ∈ ([(P25, (("_law_sent_right" : Str) ++ (".<locals>." : Str)) ++ ("<lambda>" : Str)), (P26, (("_law_left_right" : Str) ++ (".<locals>." : Str)) ++ ("<lambda>" : Str)), (P27, (("_law_replaced_right" : Str) ++ (".<locals>." : Str)) ++ ("<lambda>" : Str))] : List (Addr × Str)), p.1 = P25 → p.2 = (("_law_sent_right" : Str) ++ (".<locals>." : Str)) ++ ("<lambda>" : Str) := by
      intro p hp e
      cases hp with
      | head => exact rfl
      | tail _ hp =>
        cases hp with
        | head => exact absurd (show P26 = P25 from e) (by intro z; rw [z] at pd; simp at pd)
        | tail _ hp =>
          cases hp with
          | head => exact absurd (show P27 = P25 from e) (by intro z; rw [z] at pd; simp at pd)
          | tail _ hp => cases hp
    have TB_l_left_right : TabB base mg q26 P26 := hTB ("_law_left_right", q26, P26) (.tail _ (.head _))
    have hmT_l_left_right : (P26, (("_law_left_right" : Str) ++ (".<locals>." : Str)) ++ ("<lambda>" : Str)) ∈ ([(P25, (("_law_sent_right" : Str) ++ (".<locals>." : Str)) ++ ("<lambda>" : Str)), (P26, (("_law_left_right" : Str) ++ (".<locals>." : Str)) ++ ("<lambda>" : Str)), (P27, (("_law_replaced_right" : Str) ++ (".<locals>." : Str)) ++ ("<lambda>" : Str))] : List (Addr × Str)) := .tail _ (.head _)
    have huT_l_left_right : ∀ p ∈ ([(P25, (("_law_sent_right" : Str) ++ (".<locals>." : Str)) ++ ("<lambda>" : Str)), (P26, (("_law_left_right" : Str) ++ (".<locals>." : Str)) ++ ("<lambda>" : Str)), (P27, (("_law_replaced_right" : Str) ++ (".<locals>." : Str)) ++ ("<lambda>" : Str))] : List (Addr × Str)), p.1 = P26 → p.2 = (("_law_left_right" : Str) ++ (".<locals>." : Str)) ++ ("<lambda>" : Str) := by
      intro p hp e
      cases hp with
      | head => exact absurd (show P25 = P26 from e) (by intro z; rw [z] at pd; simp at pd)
      | tail _ hp =>
        cases hp with
        | head => exact rfl
        | tail _ hp =>
          cases hp with
          | head => exact absurd (show P27 = P26 from e) (by intro z; rw [z] at pd; simp at pd)
          | tail _ hp => cases hp
    have TB_l_replaced_right : TabB base mg q27 P27 := hTB ("_law_replaced_right", q27, P27) (.tail _ (.tail _ (.head _)))
    have hmT_l_replaced_right : (P27, (("_law_replaced_right" : Str) ++ (".<locals>." : Str)) ++ ("<lambda>" : Str)) ∈ ([(P25, (("_law_sent_right" : Str) ++ (".<locals>." : Str)) ++ ("<lambda>" : Str)), (P26, (("_law_left_right" : Str) ++ (".<locals>." : Str)) ++ ("<lambda>" : Str)), (P27, (("_law_replaced_right" : Str) ++ (".<locals>." : Str)) ++ ("<lambda>" : Str))] : List (Addr × Str)) := .tail _ (.tail _ (.head _))
    have huT_l_replaced_right : ∀ p ∈ ([(P25, (("_law_sent_right" : Str) ++ (".<locals>." : Str)) ++ ("<lambda>" : Str)), (P26, (("_law_left_right" : Str) ++ (".<locals>." : Str)) ++ ("<lambda>" : Str)), (P27, (("_law_replaced_right" : Str) ++ (".<locals>." : Str)) ++ ("<lambda>" : Str))] : List (Addr × Str)), p.1 = P27 → p.2 = (("_law_replaced_right" : Str) ++ (".<locals>." : Str)) ++ ("<lambda>" : Str) := by
      intro p hp e
      cases hp with
      | head => exact absurd (show P25 = P27 from e) (by intro z; rw [z] at pd; simp at pd)
      | tail _ hp =>
        cases hp with
        | head => exact absurd (show P26 = P27 from e) (by intro z; rw [z] at pd; simp at pd)
        | tail _ hp =>
          cases hp with
          | head => exact rfl
          | tail _ hp => cases hp
    have Ck : Ct K mg := ⟨g_MAX_LETTERS, g_MAX_SEATS, g_MAX_STATIONS, ⟨_, _, D_is_letters⟩⟩
    have DS : DState K mg := ⟨⟨_, _, D_is_word⟩, ⟨_, _, D_is_place⟩, ⟨_, _, D_check_network⟩, ⟨_, _, D_check_passengers⟩, ⟨_, _, D_check_state⟩⟩
    have G_send : FnOk l.prog w K mg base (L2.CX l.prog w) 18 _ _ ["network", "state", "station"] (spSend K 8 (C 3) (C 7)) := ok_send_early (n := 8) (by decide) D_send_early T Ck DS D_send_boat (ok_send_boat (n := 8) (by decide) D_send_boat T D_check_station D_depart D_join_queue D_list_finished Z_UnknownStation Z_EmptyBoat)
    have G_leave : FnOk l.prog w K mg base (L2.CX l.prog w) 6 _ _ ["network", "state", "passenger"] (spLeave K (C 6)) := ok_leave D_leave T Ck DS D_remove_passenger Z_UnknownPassenger
    have G_repl : FnOk l.prog w K mg base (L2.CX l.prog w) 6 _ _ ["network", "station", "seat", "place"] (spRepl K (C 3) (C 4) (C 0)) := ok_replace_seat D_replace_seat T Ck D_check_network D_is_word D_is_place D_change_seat (ok_change_seat D_change_seat T Ck D_check_network D_is_word D_is_place D_check_station N_E F_I D_init_b EF.n1 EF.n2 Z_UnknownStation Z_UnknownSeat)
    have G_alike : FnOk l.prog w K mg base CX0 8 _ _ ["_law_found", "_law_due"] (spAlike K 8) := ok_l_alike D_l_alike T 8
    have G_sent := ok_l_sent_right (P := l.prog) (w := w) D_l_sent_right rfl TB_l_sent_right T R hmT_l_sent_right huT_l_sent_right D_l_next D_l_error D_l_depart D_l_join D_l_alike D_send_early G_send G_alike
    have G_left := ok_l_left_right (P := l.prog) (w := w) D_l_left_right rfl TB_l_left_right T R hmT_l_left_right huT_l_left_right D_l_next D_l_error D_l_alike D_leave G_leave G_alike
    have G_rep := ok_l_replaced_right (P := l.prog) (w := w) D_l_replaced_right rfl TB_l_replaced_right T R hmT_l_replaced_right huT_l_replaced_right D_l_next D_l_error D_l_alike D_replace_seat G_repl G_alike
    exact ok_law F_law T D_l_mix D_l_network D_l_state D_l_sent_right D_l_left_right D_l_replaced_right (ok_l_network D_l_network T D_l_next D_l_place) (ok_l_state D_l_state T D_l_next D_l_join D_l_depart) G_sent G_left G_rep
end K
open PySem PySem.W PyProof.Rows
set_option maxRecDepth 100000 in
set_option maxHeartbeats 0 in
theorem PySem.Challenge.cw_fullboats_k18_states_and_networks_edited_holds : PySem.Challenge.rw_fullboats_k18_states_and_networks_edited.Holds := by
  w_on; o_law; k_head; (case hw => w_witness2)
  k_fill
  refine FB.walk_ofTab (l := PySem.Challenge.rw_fullboats_k18_states_and_networks_edited) (n := 63) (k := 22) (x := "_law_script") ["_law_sent_right", "_law_left_right", "_law_replaced_right"] rfl (by decide) rfl ⟨rfl, by decide, by decide⟩ (fun w h Y => Y.1) ?RR ?FF
  case RR =>
    intro y hy
    exact Option.isSome_iff_exists.mp (List.all_eq_true.mp (show ((["_law_sent_right", "_law_left_right", "_law_replaced_right"] : List Str).all fun y => ((recsOf _).find? fun e => e.name == y).isSome) = true from by decide +kernel) y hy)
  case FF =>
    intro w mg fa h KX G hmg
    refine' K.all_mk KX G hmg ?a0 ?l0 ?c0 ?k0 ?a1 ?l1 ?c1 ?k1 ?a2 ?l2 ?c2 ?k2 ?a3 ?l3 ?c3 ?k3 ?a4 ?l4 ?c4 ?k4 ?a5 ?l5 ?c5 ?k5 ?a6 ?l6 ?c6 ?k6 ?a7 ?l7 ?c7 ?k7 ?a8 ?l8 ?c8 ?k8 ?a9 ?l9 ?c9 ?k9 ?a10 ?l10 ?c10 ?k10 ?a11 ?l11 ?c11 ?k11 ?a12 ?l12 ?c12 ?k12 ?a13 ?l13 ?c13 ?k13 ?a14 ?l14 ?c14 ?k14 ?a15 ?l15 ?c15 ?k15 ?a16 ?l16 ?c16 ?k16 ?a17 ?l17 ?c17 ?k17 ?a18 ?l18 ?c18 ?k18 ?a19 ?l19 ?c19 ?k19 ?a20 ?l20 ?c20 ?k20 ?a21 ?l21 ?c21 ?k21 ?a22 ?l22 ?c22 ?k22 ?a23 ?l23 ?c23 ?k23 ?a24 ?l24 ?c24 ?k24 ?a25 ?l25 ?c25 ?k25 ?t25 ?u25 ?a26 ?l26 ?c26 ?k26 ?t26 ?u26 ?a27 ?l27 ?c27 ?k27 ?t27 ?u27 ?a28 ?l28 ?c28 ?k28 ?m0 ?m1 ?m2 ?z0 ?z1 ?z2 ?z3 ?z4 ?z5 ?z6 ?z7 ?z8 ?z9 ?z10 ?z11 ?z12 ?z13 ?z14 ?z15 ?z16 ?z17 ?z18 ?z19 ?eF ?e0 ?e1 ?e2 ?e3 ?e4 ?e5 ?e6 ?e7 ?e8 ?e9 ?e10 ?e11 ?e12 ?eV ?eB ?r7 ?r6 ?r4 ?r3 ?lC ?rC ?iC ?tC ?sC ?lI ?cI ?kI ?pd
    (case a0 => k_is)
    (case l0 => k_is)
    (case c0 => k_is)
    (case k0 => k_is)
    (case a1 => k_is)
    (case l1 => k_is)
    (case c1 => k_is)
    (case k1 => k_is)
    (case a2 => k_is)
    (case l2 => k_is)
    (case c2 => k_is)
    (case k2 => k_is)
    (case a3 => k_is)
    (case l3 => k_is)
    (case c3 => k_is)
    (case k3 => k_is)
    (case a4 => k_is)
    (case l4 => k_is)
    (case c4 => k_is)
    (case k4 => k_is)
    (case a5 => k_is)
    (case l5 => k_is)
    (case c5 => k_is)
    (case k5 => k_is)
    (case a6 => k_is)
    (case l6 => k_is)
    (case c6 => k_is)
    (case k6 => k_is)
    (case a7 => k_is)
    (case l7 => k_is)
    (case c7 => k_is)
    (case k7 => k_is)
    (case a8 => k_is)
    (case l8 => k_is)
    (case c8 => k_is)
    (case k8 => k_is)
    (case a9 => k_is)
    (case l9 => k_is)
    (case c9 => k_is)
    (case k9 => k_is)
    (case a10 => k_is)
    (case l10 => k_is)
    (case c10 => k_is)
    (case k10 => k_is)
    (case a11 => k_is)
    (case l11 => k_is)
    (case c11 => k_is)
    (case k11 => k_is)
    (case a12 => k_is)
    (case l12 => k_is)
    (case c12 => k_is)
    (case k12 => k_is)
    (case a13 => k_is)
    (case l13 => k_is)
    (case c13 => k_is)
    (case k13 => k_is)
    (case a14 => k_is)
    (case l14 => k_is)
    (case c14 => k_is)
    (case k14 => k_is)
    (case a15 => k_is)
    (case l15 => k_is)
    (case c15 => k_is)
    (case k15 => k_is)
    (case a16 => k_is)
    (case l16 => k_is)
    (case c16 => k_is)
    (case k16 => k_is)
    (case a17 => k_is)
    (case l17 => k_is)
    (case c17 => k_is)
    (case k17 => k_is)
    (case a18 => k_is)
    (case l18 => k_is)
    (case c18 => k_is)
    (case k18 => k_is)
    (case a19 => k_is)
    (case l19 => k_is)
    (case c19 => k_is)
    (case k19 => k_is)
    (case a20 => k_is)
    (case l20 => k_is)
    (case c20 => k_is)
    (case k20 => k_is)
    (case a21 => k_is)
    (case l21 => k_is)
    (case c21 => k_is)
    (case k21 => k_is)
    (case a22 => k_is)
    (case l22 => k_is)
    (case c22 => k_is)
    (case k22 => k_is)
    (case a23 => k_is)
    (case l23 => k_is)
    (case c23 => k_is)
    (case k23 => k_is)
    (case a24 => k_is)
    (case l24 => k_is)
    (case c24 => k_is)
    (case k24 => k_is)
    (case a25 => k_is)
    (case l25 => k_is)
    (case c25 => k_is)
    (case k25 => k_is)
    (case t25 => first | k_is | rfl | decide +kernel)
    (case u25 => first | k_is | rfl | decide +kernel)
    (case a26 => k_is)
    (case l26 => k_is)
    (case c26 => k_is)
    (case k26 => k_is)
    (case t26 => first | k_is | rfl | decide +kernel)
    (case u26 => first | k_is | rfl | decide +kernel)
    (case a27 => k_is)
    (case l27 => k_is)
    (case c27 => k_is)
    (case k27 => k_is)
    (case t27 => first | k_is | rfl | decide +kernel)
    (case u27 => first | k_is | rfl | decide +kernel)
    (case a28 => k_is)
    (case l28 => k_is)
    (case c28 => k_is)
    (case k28 => k_is)
    (case m0 => k_is)
    (case m1 => k_is)
    (case m2 => k_is)
    (case z0 => k_is)
    (case z1 => k_is)
    (case z2 => k_is)
    (case z3 => k_is)
    (case z4 => k_is)
    (case z5 => k_is)
    (case z6 => k_is)
    (case z7 => k_is)
    (case z8 => k_is)
    (case z9 => k_is)
    (case z10 => k_is)
    (case z11 => k_is)
    (case z12 => k_is)
    (case z13 => k_is)
    (case z14 => k_is)
    (case z15 => k_is)
    (case z16 => k_is)
    (case z17 => k_is)
    (case z18 => k_is)
    (case z19 => k_is)
    (case eF => k_is)
    (case e0 => k_is)
    (case e1 => k_is)
    (case e2 => k_is)
    (case e3 => k_is)
    (case e4 => k_is)
    (case e5 => k_is)
    (case e6 => k_is)
    (case e7 => k_is)
    (case e8 => k_is)
    (case e9 => k_is)
    (case e10 => k_is)
    (case e11 => k_is)
    (case e12 => k_is)
    (case eV => k_is)
    (case eB => first | kernel_rfl | k_is | rfl)
    (case r7 => first | kernel_rfl | k_is | rfl)
    (case r6 => first | kernel_rfl | k_is | rfl)
    (case r4 => first | kernel_rfl | k_is | rfl)
    (case r3 => first | kernel_rfl | k_is | rfl)
    (case lC => k_is)
    (case rC => decide +kernel)
    (case iC => k_is)
    (case tC => k_is)
    (case sC => k_is)
    (case lI => k_is)
    (case cI => k_is)
    (case kI => k_is)
    (case pd => decide +kernel)
