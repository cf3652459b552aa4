import PyProof.Rows.All
import Wide.All
import OpenK.AllK
import Wide.FinOn
import HandS.ForMost
import HandS.ForExc
import HandS.Evl
import HandS.IsInst
import HandS.TupAny
import HandS.TupMul
import HandS.SetKeys
import HandS.Walk
import KE.GoesEnum
import HandS.ExcInit
import HandS.DictComp
import HandS.Zip
import HandS.Conv
import HandS.Style
import HandS.WordsDict
import PySem.Challenge.RW_fullboats_k08_whole_counts_of_large_netw
set_option Elab.async false
set_option linter.all false
set_option maxRecDepth 100000
set_option maxHeartbeats 4000000
/-! One rule an operator sign: which of the readings it is, the values tell. -/
namespace FB
open PySem PySem.Spec PyProof.Rows L2 Evl
section
variable {X : Cx}
theorem orOp {f : Value → Value → Sem Value} {r r' : R2} (h : OpR X f r) (h' : OpR X f r') : OpR X f (fun x y H Q => r x y H Q ∨ r' x y H Q) := fun pins s σ H x y v u Q I rx ry q =>
  q.elim (h pins s σ H x y v u Q I rx ry) (h' pins s σ H x y v u Q I rx ry)
theorem orCall {f : Value} {r r' : List V → Hp → VK → Prop} (h : CallR X f r) (h' : CallR X f r') : CallR X f (fun x H Q => r x H Q ∨ r' x H Q) := fun pins s σ H xs us Q I r q =>
  q.elim (h pins s σ H xs us Q I r) (h' pins s σ H xs us Q I r)
/-- a + b of ints, texts, lists, tuples -/
def rAddS2 : R2 := fun x y H Q => ∃ i j, x = .str i ∧ y = .str j ∧ i.length + j.length ≤ sizeLine ∧ Q (.str (i ++ j)) H
def rAddU (K : PySem.W.Frag) : R2 := fun x y H Q => (rI0 (fun i j => .int (i + j)) x y H Q ∨ rCat x y H Q) ∨ rCatA K x y H Q
theorem op_addU {K : PySem.W.Frag} (hK : X.K = K := by rfl) : OpR X (binaryOp .Add) (rAddU K) := by subst hK; exact orOp (orOp op_add op_cat) op_catA
def rMulU (K : PySem.W.Frag) : R2 := fun x y H Q => (rI CMul (fun i j => .int (i * j)) x y H Q ∨ rRep x y H Q) ∨ rRepT K x y H Q
theorem op_mulU {K : PySem.W.Frag} (hK : X.K = K := by rfl) : OpR X (binaryOp .Mult) (rMulU K) := by subst hK; exact orOp (orOp op_mul op_rep) op_repT
def rLtU : R2 := fun x y H Q => rI0 (fun i j => .bl (decide (i < j))) x y H Q ∨ (∃ i j, x = .str i ∧ y = .str j ∧ Q (.bl (decide (i.cps.toList < j.cps.toList))) H)
theorem op_ltU : OpR X (compareOp .Lt) rLtU := orOp op_lt op_lt_str
def rLeU : R2 := fun x y H Q => rI0 (fun i j => .bl (decide (i ≤ j))) x y H Q ∨ (∃ i j, x = .str i ∧ y = .str j ∧ Q (.bl (!decide (j.cps.toList < i.cps.toList))) H)
theorem op_leU : OpR X (compareOp .LtE) rLeU := orOp op_le op_le_str
abbrev rGtU : R2 := rI0 (fun i j => .bl (decide (j < i)))
theorem op_gtU : OpR X (compareOp .Gt) rGtU := op_gt
abbrev rGeU : R2 := rI0 (fun i j => .bl (decide (j ≤ i)))
theorem op_geU : OpR X (compareOp .GtE) rGeU := op_ge
def rEqU (K : PySem.W.Frag) : R2 := fun x y H Q => rEq x y H Q ∨ rEqD K x y H Q
theorem op_eqU {K : PySem.W.Frag} (hu : X.A.units + 64 < cLine) (hK : X.K = K := by rfl) : OpR X (compareOp .Eq) (rEqU K) := by subst hK; exact orOp op_eq (op_eqD hu)
def rNeU (K : PySem.W.Frag) : R2 := fun x y H Q => rNe x y H Q ∨ rNeD K x y H Q
theorem op_neU {K : PySem.W.Frag} (hu : X.A.units + 64 < cLine) (hK : X.K = K := by rfl) : OpR X (compareOp .NotEq) (rNeU K) := by subst hK; exact orOp op_ne (op_neD hu)
def rInU (K : PySem.W.Frag) (P : Program) (w : World) (neg : Bool) : R2 := fun x y H Q => rIn K neg x y H Q ∨ rSInK P w neg x y H Q
theorem op_inU {K : PySem.W.Frag} {P : Program} {w : World} (hK : X.K = K := by rfl) (hP : X.prog = P := by rfl) (hw : X.w = w := by rfl) : OpR X (compareOp .In) (rInU K P w false) := by subst hK hP hw; exact orOp op_in_seq or_sinK
theorem op_notInU {K : PySem.W.Frag} {P : Program} {w : World} (hK : X.K = K := by rfl) (hP : X.prog = P := by rfl) (hw : X.w = w := by rfl) : OpR X (compareOp .NotIn) (rInU K P w true) := by subst hK hP hw; exact orOp op_notIn_seq or_snotinK
theorem ix_U {K : PySem.W.Frag} (hK : X.K = K := by rfl) : IxR X (rIx K) := by subst hK; exact ix_seq
def rSlU (K : PySem.W.Frag) : V → Option Int → Option Int → Hp → VK → Prop := fun x lo hi H Q => rSlL K x lo hi H Q ∨ rSlA K x lo hi H Q
theorem sl_U {K : PySem.W.Frag} (hK : X.K = K := by rfl) : SlR X (rSlU K) := by subst hK; exact SlR.or sl_list sl_tupA
def rLenU (K : PySem.W.Frag) : List V → Hp → VK → Prop := fun xs H Q => ∃ x n, xs = [x] ∧ LenV K x H n ∧ Q (.int (n : Nat)) H
theorem call_lenU {K : PySem.W.Frag} (hK : X.K = K := by rfl) : CallR X (.builtin "len") (rLenU K) := by subst hK; exact call_len
def rIsiU (K : PySem.W.Frag) : List V → Hp → VK → Prop := fun xs H Q => rIsi K xs H Q ∨ rIsiT K xs H Q
theorem call_isiU {K : PySem.W.Frag} (hK : X.K = K := by rfl) : CallR X (.builtin "isinstance") (rIsiU K) := by subst hK; exact orCall call_isi call_isiT
def rIntU : List V → Hp → VK → Prop := fun xs H Q => (∃ i, xs = [.int i] ∧ Q (.int i) H) ∨ ∃ k, xs = [.bl k] ∧ Q (.int (if k then 1 else 0)) H
theorem call_intU : CallR X (.type "int") rIntU := call_int1
def rMaxU : List V → Hp → VK → Prop := fun xs H Q => ∃ i j, xs = [.int i, .int j] ∧ Q (.int (if j > i then j else i)) H
theorem call_maxU (hc : X.calm = true) : CallR X (.builtin "max") rMaxU := call_max2 hc
def rMinU : List V → Hp → VK → Prop := fun xs H Q => ∃ i j, xs = [.int i, .int j] ∧ Q (.int (if j < i then j else i)) H
theorem call_minU (hc : X.calm = true) : CallR X (.builtin "min") rMinU := call_min2 hc
def rListU (K : PySem.W.Frag) : List V → Hp → VK → Prop := fun xs H Q => ∃ p ys, xs = [.ref p] ∧ (SqL K H p ys ∨ SqT K H p ys) ∧ ∀ l, H l = none → Q (.ref l) (upd H l (.lst ys))
theorem call_listU {K : PySem.W.Frag} (hK : X.K = K := by rfl) : CallR X (.type "list") (rListU K) := by subst hK; exact call_list_of
def rTupU (K : PySem.W.Frag) : List V → Hp → VK → Prop := fun xs H Q => ∃ p ys, xs = [.ref p] ∧ ((SqL K H p ys ∧ ∀ l, H l = none → Q (.ref l) (upd H l (.tup ys))) ∨ (SqT K H p ys ∧ Q (.ref p) H))
theorem call_tupU {K : PySem.W.Frag} (hK : X.K = K := by rfl) : CallR X (.type "tuple") (rTupU K) := by subst hK; exact call_tuple_of
end
/-! ### evaluation -/
section
variable {K : PySem.W.Frag} {H H1 H2 : Hp} {Q : VK} {x y v : V} {a b p q l : Addr} {xs ys : List V} {i j : Int} {z z2 : Str} {P : Program} {w : World}
theorem x_addI : rAddU K (.int i) (.int j) H Q ↔ Q (.int (i + j)) H := by
  constructor
  · rintro ((⟨_, _, h1, h2, h⟩ | ⟨_, _, _, _, h1, _⟩) | ⟨_, _, _, _, h1, _⟩)
    · cases h1; cases h2; exact h
    · cases h1
    · cases h1
  · exact fun h => .inl (.inl ⟨i, j, rfl, rfl, h⟩)
theorem x_mulI : rMulU K (.int i) (.int j) H Q ↔ CMul i j ∧ Q (.int (i * j)) H := by
  constructor
  · rintro ((⟨_, _, h1, h2, h3, h⟩ | ⟨_, _, _, h1, _⟩) | ⟨_, _, _, h1, _⟩)
    · cases h1; cases h2; exact ⟨h3, h⟩
    · cases h1
    · cases h1
  · exact fun h => .inl (.inl ⟨i, j, rfl, rfl, h.1, h.2⟩)
theorem x_rI {C : Int → Int → Prop} {g : Int → Int → V} : rI C g (.int i) (.int j) H Q ↔ C i j ∧ Q (g i j) H := by
  constructor
  · rintro ⟨_, _, h1, h2, h3, h⟩
    cases h1; cases h2; exact ⟨h3, h⟩
  · exact fun h => ⟨i, j, rfl, rfl, h.1, h.2⟩
theorem x_rI0 {g : Int → Int → V} : rI0 g (.int i) (.int j) H Q ↔ Q (g i j) H := by
  constructor
  · rintro ⟨_, _, h1, h2, h⟩
    cases h1; cases h2; exact h
  · exact fun h => ⟨i, j, rfl, rfl, h⟩
theorem x_ltI : rLtU (.int i) (.int j) H Q ↔ Q (.bl (decide (i < j))) H := by
  constructor
  · rintro (⟨_, _, h1, h2, h⟩ | ⟨_, _, h1, _⟩)
    · cases h1; cases h2; exact h
    · cases h1
  · exact fun h => .inl ⟨i, j, rfl, rfl, h⟩
theorem x_leI : rLeU (.int i) (.int j) H Q ↔ Q (.bl (decide (i ≤ j))) H := by
  constructor
  · rintro (⟨_, _, h1, h2, h⟩ | ⟨_, _, h1, _⟩)
    · cases h1; cases h2; exact h
    · cases h1
  · exact fun h => .inl ⟨i, j, rfl, rfl, h⟩
theorem x_ltS : rLtU (.str z) (.str z2) H Q ↔ Q (.bl (decide (z.cps.toList < z2.cps.toList))) H := by
  constructor
  · rintro (⟨_, _, h1, _⟩ | ⟨_, _, h1, h2, h⟩)
    · cases h1
    · cases h1; cases h2; exact h
  · exact fun h => .inr ⟨z, z2, rfl, rfl, h⟩
theorem x_leS : rLeU (.str z) (.str z2) H Q ↔ Q (.bl (!decide (z2.cps.toList < z.cps.toList))) H := by
  constructor
  · rintro (⟨_, _, h1, _⟩ | ⟨_, _, h1, h2, h⟩)
    · cases h1
    · cases h1; cases h2; exact h
  · exact fun h => .inr ⟨z, z2, rfl, rfl, h⟩
theorem dp_int {d : PyData} (h : Dp K H (.int i) d) : d = .int i := by cases h; rfl
theorem dp_str {d : PyData} (h : Dp K H (.str z) d) : d = .str z := by cases h; rfl
theorem dp_bl {c : Bool} {d : PyData} (h : Dp K H (.bl c) d) : d = .bool c := by cases h; rfl
theorem dp_non {d : PyData} (h : Dp K H .non d) : d = .none := by cases h; rfl
theorem eqv_int : PyData.eqv (.int i) (.int j) = decide (V.int i = V.int j) := by
  unfold PyData.eqv
  rw [dec_int]
theorem eqv_str : PyData.eqv (.str z) (.str z2) = decide (V.str z = V.str z2) := by
  unfold PyData.eqv
  rw [dec_str]
theorem eqv_bl {c d : Bool} : PyData.eqv (.bool c) (.bool d) = decide (V.bl c = V.bl d) := by
  unfold PyData.eqv
  rw [dec_bl]
theorem x_eqI : rEqU K (.int i) (.int j) H Q ↔ Q (.bl (decide (i = j))) H := by
  have e0 : decide (V.int i = V.int j) = decide (i = j) := by simp
  constructor
  · rintro (⟨_, h⟩ | ⟨d, e, h1, h2, _, _, h⟩)
    · rw [e0] at h; exact h
    · rw [dp_int h1, dp_int h2, eqv_int, e0] at h; exact h
  · exact fun h => .inl ⟨rfl, by rw [e0]; exact h⟩
theorem x_neI : rNeU K (.int i) (.int j) H Q ↔ Q (.bl (!decide (i = j))) H := by
  have e0 : decide (V.int i = V.int j) = decide (i = j) := by simp
  constructor
  · rintro (⟨_, h⟩ | ⟨d, e, h1, h2, _, _, h⟩)
    · rw [e0] at h; exact h
    · rw [dp_int h1, dp_int h2, eqv_int, e0] at h; exact h
  · exact fun h => .inl ⟨rfl, by rw [e0]; exact h⟩
theorem x_eqS : rEqU K (.str z) (.str z2) H Q ↔ Q (.bl (decide (z = z2))) H := by
  have e0 : decide (V.str z = V.str z2) = decide (z = z2) := by simp
  constructor
  · rintro (⟨_, h⟩ | ⟨d, e, h1, h2, _, _, h⟩)
    · rw [e0] at h; exact h
    · rw [dp_str h1, dp_str h2, eqv_str, e0] at h; exact h
  · exact fun h => .inl ⟨rfl, by rw [e0]; exact h⟩
theorem x_eqB {c d : Bool} : rEqU K (.bl c) (.bl d) H Q ↔ Q (.bl (decide (c = d))) H := by
  have e0 : decide (V.bl c = V.bl d) = decide (c = d) := by simp
  constructor
  · rintro (⟨_, h⟩ | ⟨d, e, h1, h2, _, _, h⟩)
    · rw [e0] at h; exact h
    · rw [dp_bl h1, dp_bl h2, eqv_bl, e0] at h; exact h
  · exact fun h => .inl ⟨rfl, by rw [e0]; exact h⟩
theorem x_neB {c d : Bool} : rNeU K (.bl c) (.bl d) H Q ↔ Q (.bl (!decide (c = d))) H := by
  have e0 : decide (V.bl c = V.bl d) = decide (c = d) := by simp
  constructor
  · rintro (⟨_, h⟩ | ⟨d, e, h1, h2, _, _, h⟩)
    · rw [e0] at h; exact h
    · rw [dp_bl h1, dp_bl h2, eqv_bl, e0] at h; exact h
  · exact fun h => .inl ⟨rfl, by rw [e0]; exact h⟩
def rLst (xs : List V) (H : Hp) (Q : VK) : Prop := xs.length ≤ sizeLine ∧ ∀ p, H p = none → Q (.ref p) (upd H p (.lst xs))
def rTup (xs : List V) (H : Hp) (Q : VK) : Prop := xs.length ≤ sizeLine ∧ ∀ p, H p = none → Q (.ref p) (upd H p (.tup xs))
theorem x_tLst {t : TA} {σ : L2.St} : tLst t σ H Q = t σ H fun xs H1 => rLst xs H1 Q := rfl
theorem x_tTup {t : TA} {σ : L2.St} : tTup t σ H Q = t σ H fun xs H1 => rTup xs H1 Q := rfl
theorem x_new {o : HO} (k : ∀ p H', H p = none → Ex H H' → H' p = some o → Q (.ref p) H') : ∀ p, H p = none → Q (.ref p) (upd H p o) := fun p hp => k p _ hp (Ex.new hp) upd_same
theorem small {n : Nat} (h : n ≤ 1000000) : n ≤ sizeLine := by rw [sizeLine_eq]; omega
theorem x_lst (hl : xs.length ≤ 1000000) (k : ∀ p H', H p = none → Ex H H' → H' p = some (.lst xs) → Q (.ref p) H') : rLst xs H Q := ⟨small hl, x_new k⟩
theorem x_tup (hl : xs.length ≤ 1000000) (k : ∀ p H', H p = none → Ex H H' → H' p = some (.tup xs) → Q (.ref p) H') : rTup xs H Q := ⟨small hl, x_new k⟩
/-! subscripts -/
theorem x_ixL (h : SqL K H p xs) (e : atI xs i = some v) (k : Q v H) : rIx K (.ref p) (.int i) H Q := .inl ⟨p, xs, i, v, rfl, rfl, h, e, k⟩
theorem x_ixT (h : SqT K H p xs) (e : atI xs i = some v) (k : Q v H) : rIx K (.ref p) (.int i) H Q := .inr (.inl ⟨p, xs, i, v, rfl, rfl, h, e, k⟩)
theorem x_cat (h1 : H p = some (.lst xs)) (h2 : H q = some (.lst ys)) (hl : xs.length + ys.length ≤ 1000000) (k : ∀ l H', H l = none → Ex H H' → H' l = some (.lst (xs ++ ys)) → Q (.ref l) H') : rAddU K (.ref p) (.ref q) H Q :=
  .inl (.inr ⟨p, q, xs, ys, rfl, rfl, h1, h2, small hl, x_new k⟩)
theorem x_catT (h1 : SqT K H p xs) (h2 : SqT K H q ys) (hl : xs.length + ys.length ≤ 1000000) (k : ∀ l H', (∀ x o, H x = some o → H' x = some o) → SqT K H' l (xs ++ ys) → Q (.ref l) H') : rAddU K (.ref p) (.ref q) H Q := by
  refine .inr ⟨p, q, xs, ys, rfl, rfl, h1, h2, small hl, fun e => ?_, fun e e2 => ?_, fun e e2 l hl => ?_⟩
  · subst e; exact k q H (fun _ _ h => h) h2
  · subst e2; exact k p H (fun _ _ h => h) (by rw [List.append_nil]; exact h1)
  · exact k l _ (fun x o h => by rw [upd_ne (ne_of_none h hl)]; exact h) (SqT.of upd_same)
theorem x_lenL (h : SqL K H p xs) (k : Q (.int (xs.length : Nat)) H) : rLenU K [V.ref p] H Q := ⟨_, xs.length, rfl, .inl ⟨xs, h, rfl⟩, k⟩
theorem x_lenT (h : SqT K H p xs) (k : Q (.int (xs.length : Nat)) H) : rLenU K [V.ref p] H Q := ⟨_, xs.length, rfl, .inr ⟨xs, h, rfl⟩, k⟩
theorem x_lenS (h : z.length ≤ sizeLine) (k : Q (.int (z.length : Nat)) H) : rLenU K [V.str z] H Q := ⟨_, z.length, rfl, ⟨h, rfl⟩, k⟩
theorem x_int : rIntU [.int i] H Q ↔ Q (.int i) H := by
  constructor
  · rintro (⟨_, h1, h⟩ | ⟨_, h1, _⟩)
    · cases h1; exact h
    · cases h1
  · exact fun h => .inl ⟨_, rfl, h⟩
theorem x_max : rMaxU [.int i, .int j] H Q ↔ Q (.int (if j > i then j else i)) H := by
  constructor
  · rintro ⟨_, _, h1, h⟩
    cases h1; exact h
  · exact fun h => ⟨_, _, rfl, h⟩
theorem x_min : rMinU [.int i, .int j] H Q ↔ Q (.int (if j < i then j else i)) H := by
  constructor
  · rintro ⟨_, _, h1, h⟩
    cases h1; exact h
  · exact fun h => ⟨_, _, rfl, h⟩
theorem x_listL (h : SqL K H p xs) (k : ∀ l H', H l = none → Ex H H' → H' l = some (.lst xs) → Q (.ref l) H') : rListU K [.ref p] H Q := ⟨p, xs, rfl, .inl h, x_new k⟩
theorem x_listT (h : SqT K H p xs) (k : ∀ l H', H l = none → Ex H H' → H' l = some (.lst xs) → Q (.ref l) H') : rListU K [.ref p] H Q := ⟨p, xs, rfl, .inr h, x_new k⟩
theorem x_tupL (h : SqL K H p xs) (k : ∀ l H', H l = none → Ex H H' → H' l = some (.tup xs) → Q (.ref l) H') : rTupU K [.ref p] H Q := ⟨p, xs, rfl, .inl ⟨h, x_new k⟩⟩
theorem x_tupT (h : SqT K H p xs) (k : Q (.ref p) H) : rTupU K [.ref p] H Q := ⟨p, xs, rfl, .inr ⟨h, k⟩⟩
theorem x_setL {n : Nat} {k : Hp → Prop} (h : H p = some (.lst xs)) (hj : ixN xs.length i = some n) (q : ∀ H', (∀ x o, x ≠ p → H x = some o → H' x = some o) → H' p = some (.lst (xs.set n v)) → k H') : rSetL (.ref p) (.int i) v H k :=
  ⟨p, xs, i, n, rfl, rfl, h, hj, q _ (fun x o hx e => by rw [upd_ne hx]; exact e) upd_same⟩
theorem ixN_in {n : Nat} {i : Int} (h0 : 0 ≤ i) (h1 : i < n) : ixN n i = some i.toNat := by unfold ixN; rw [if_pos h0, if_pos h1]
theorem atI_in {xs : List V} {i : Int} {v : V} (h0 : 0 ≤ i) (h : xs[i.toNat]? = some v) : atI xs i = some v := by
  have h1 : i.toNat < xs.length := (List.getElem?_eq_some_iff.mp h).1
  unfold atI
  rw [ixN_in h0 (by omega)]
  exact h
theorem x_isiI : rIsiU K [.int i, .ty "str"] H Q ↔ Q (.bl false) H := by
  constructor
  · rintro (⟨x, c, t, u, b, h1, h2, h3, h4, h⟩ | ⟨x, tp, cs, t, us, b, h1, h2⟩)
    · cases h1
      cases h2
      cases h3 with
      | base h3 =>
        cases h3
        have e : PySem.W.kitOne K (.type "int") (.type "str") = some false := by rfl
        rw [e] at h4; cases h4; exact h
    · cases h1
  · exact fun h => .inl ⟨_, _, .type "int", .type "str", false, rfl, .ty _, .base (.int i), rfl, h⟩
theorem x_isiS : rIsiU K [.str z, .ty "str"] H Q ↔ Q (.bl true) H := by
  constructor
  · rintro (⟨x, c, t, u, b, h1, h2, h3, h4, h⟩ | ⟨x, tp, cs, t, us, b, h1, h2⟩)
    · cases h1
      cases h2
      cases h3 with
      | base h3 =>
        cases h3
        have e : PySem.W.kitOne K (.type "str") (.type "str") = some true := by rfl
        rw [e] at h4; cases h4; exact h
    · cases h1
  · exact fun h => .inl ⟨_, _, .type "str", .type "str", true, rfl, .ty _, .base (.str z), rfl, h⟩
end
end FB
set_option Elab.async false
set_option linter.all false
set_option maxRecDepth 100000
set_option maxHeartbeats 4000000
/-! Data that never changes: ints, texts, tuples of such. -/
namespace L2
open PySem PySem.Spec PyProof.Rows Evl FB
def isConst : HO → Prop
  | .tup _ => True
  | .frz _ _ => True
  | _ => False
/-- what never changes stands -/
def TX (H H' : Hp) : Prop := ∀ x o, H x = some o → isConst o → H' x = some o
/-- all but what stands at a and b -/
def Ex2 (a b : Addr) (H H' : Hp) : Prop := ∀ x o, H x = some o → x ≠ a → x ≠ b → H' x = some o
section
variable {K : PySem.W.Frag} {H H1 H' : Hp} {a b p x : Addr} {xs ys : List V} {v : V}
theorem TX.refl (H : Hp) : TX H H := fun _ _ h _ => h
theorem TX.trans (e : TX H H1) (f : TX H1 H') : TX H H' := fun x o h c => f x o (e x o h c) c
theorem TX.of (e : Ex H H') : TX H H' := fun x o h _ => e x o h
theorem TX.new {o : HO} (h : H p = none) : TX H (upd H p o) := TX.of (Ex.new h)
theorem TX.but (h : H p = some (.lst xs)) (e : ∀ x o, x ≠ p → H x = some o → H' x = some o) : TX H H' := fun x o hx c => e x o (fun z => by subst z; rw [h] at hx; cases hx; exact c) hx
theorem TX.upd {o : HO} (h : H p = some (.lst xs)) : TX H (upd H p o) := TX.but h fun x u hx e => by rw [upd_ne hx]; exact e
theorem TX.two (h : H a = some (.lst xs)) (h2 : H b = some (.lst ys)) (e : Ex2 a b H H') : TX H H' := fun x o hx c =>
  e x o hx (fun z => by subst z; rw [h] at hx; cases hx; exact c) (fun z => by subst z; rw [h2] at hx; cases hx; exact c)
theorem TX.rd {u : HO} (e : TX H H') (c : isConst u) (h : Rd H a u) : Rd H' a u := by
  rcases h with h | ⟨o, h⟩
  · exact .inl (e a _ h c)
  · exact .inr ⟨o, e a _ h trivial⟩
theorem TX.t (e : TX H H') (h : SqT K H a xs) : SqT K H' a xs := by
  rcases h with h | h
  · exact .inl (e.rd trivial h)
  · exact .inr h
theorem Ex2.refl (H : Hp) : Ex2 a b H H := fun _ _ h _ _ => h
theorem Ex2.of (e : Ex H H') : Ex2 a b H H' := fun x o h _ _ => e x o h
theorem Ex2.trans (e : Ex2 a b H H1) (f : Ex2 a b H1 H') : Ex2 a b H H' := fun x o h ha hb => f x o (e x o h ha hb) ha hb
theorem Ex2.ex (e : Ex2 a b H H1) (f : Ex H1 H') : Ex2 a b H H' := fun x o h ha hb => f x o (e x o h ha hb)
/-- ints, texts, tuples of such -/
inductive TupD : PyData → Prop
  | non : TupD .none
  | bl (b : Bool) : TupD (.bool b)
  | int (i : Int) : TupD (.int i)
  | str (x : Str) : TupD (.str x)
  | tup {ds : List PyData} : (∀ d ∈ ds, TupD d) → TupD (.tuple ds)
theorem TupD.all {ds : List PyData} (h : TupD (.tuple ds)) : ∀ d ∈ ds, TupD d := by
  cases h with
  | tup h => exact h
mutual
theorem Dp.tx (e : TX H H') : ∀ {v : V} {d : PyData}, Dp K H v d → TupD d → Dp K H' v d
  | _, _, .non, _ => .non
  | _, _, .bl b, _ => .bl b
  | _, _, .int i, _ => .int i
  | _, _, .str x, _ => .str x
  | _, _, .lst _ _, t => nomatch t
  | _, _, .tup h hs, .tup hd => .tup (e.t h) (DpAll.tx e hs hd)
theorem DpAll.tx (e : TX H H') : ∀ {vs : List V} {ds : List PyData}, DpAll K H vs ds → (∀ d ∈ ds, TupD d) → DpAll K H' vs ds
  | _, _, .nil, _ => .nil
  | _, _, .cons h hs, t => .cons (Dp.tx e h (t _ (List.mem_cons_self ..))) (DpAll.tx e hs fun d hd => t d (List.mem_cons_of_mem _ hd))
end
mutual
theorem Dp.ex (e : Ex H H') : ∀ {v : V} {d : PyData}, Dp K H v d → Dp K H' v d
  | _, _, .non => .non
  | _, _, .bl b => .bl b
  | _, _, .int i => .int i
  | _, _, .str x => .str x
  | _, _, .lst h hs => .lst (ex_l e h) (DpAll.ex e hs)
  | _, _, .tup h hs => .tup (ex_t e h) (DpAll.ex e hs)
theorem DpAll.ex (e : Ex H H') : ∀ {vs : List V} {ds : List PyData}, DpAll K H vs ds → DpAll K H' vs ds
  | _, _, .nil => .nil
  | _, _, .cons h hs => .cons (Dp.ex e h) (DpAll.ex e hs)
end
theorem Dp.tup_inv {ds : List PyData} (h : Dp K H v (.tuple ds)) : ∃ a xs, v = .ref a ∧ SqT K H a xs ∧ DpAll K H xs ds := by
  cases h with
  | tup h hs => exact ⟨_, _, rfl, h, hs⟩
theorem Dp.int_inv {i : Int} (h : Dp K H v (.int i)) : v = .int i := by cases h; rfl
theorem Dp.str_inv {i : Str} (h : Dp K H v (.str i)) : v = .str i := by cases h; rfl
theorem DpAll.len : ∀ {vs : List V} {ds : List PyData}, DpAll K H vs ds → vs.length = ds.length
  | _, _, .nil => rfl
  | _, _, .cons _ hs => congrArg (· + 1) hs.len
theorem DpAll.get : ∀ {vs : List V} {ds : List PyData} {i : Nat} {d : PyData}, DpAll K H vs ds → ds[i]? = some d → ∃ v, vs[i]? = some v ∧ Dp K H v d
  | _, _, _, _, .nil, e => by simp at e
  | _, _, 0, _, .cons h _, e => by simp at e; subst e; exact ⟨_, rfl, h⟩
  | _, _, i + 1, _, .cons _ hs, e => by
    obtain ⟨v, h1, h2⟩ := DpAll.get (i := i) hs (by simpa using e)
    exact ⟨v, by simpa using h1, h2⟩
theorem DpAll.get' : ∀ {vs : List V} {ds : List PyData} {i : Nat} {v : V}, DpAll K H vs ds → vs[i]? = some v → ∃ d, ds[i]? = some d ∧ Dp K H v d
  | _, _, _, _, .nil, e => by simp at e
  | _, _, 0, _, .cons h _, e => by simp at e; subst e; exact ⟨_, rfl, h⟩
  | _, _, i + 1, _, .cons _ hs, e => by
    obtain ⟨v, h1, h2⟩ := DpAll.get' (i := i) hs (by simpa using e)
    exact ⟨v, by simpa using h1, h2⟩
theorem DpAll.append : ∀ {vs ws : List V} {ds es : List PyData}, DpAll K H vs ds → DpAll K H ws es → DpAll K H (vs ++ ws) (ds ++ es)
  | _, _, _, _, .nil, h => h
  | _, _, _, _, .cons h hs, k => .cons h (hs.append k)
theorem DpAll.take : ∀ {vs : List V} {ds : List PyData} (n : Nat), DpAll K H vs ds → DpAll K H (vs.take n) (ds.take n)
  | _, _, 0, _ => .nil
  | _, _, _ + 1, .nil => .nil
  | _, _, n + 1, .cons h hs => .cons h (hs.take n)
theorem DpAll.drop : ∀ {vs : List V} {ds : List PyData} (n : Nat), DpAll K H vs ds → DpAll K H (vs.drop n) (ds.drop n)
  | _, _, 0, h => h
  | _, _, _ + 1, .nil => .nil
  | _, _, n + 1, .cons _ hs => hs.drop n
end
/-! ### a place, a station, a network -/
abbrev Net := List (List Key)
def keyD : Key → PyData
  | .inl i => .int i
  | .inr x => .str x
def stD (s : List Key) : PyData := .tuple (s.map keyD)
def netD (N : Net) : PyData := .tuple (N.map stD)
section
variable {K : PySem.W.Frag} {H H' : Hp} {v : V}
theorem keyD_t : ∀ k : Key, TupD (keyD k)
  | .inl i => .int i
  | .inr x => .str x
theorem stD_t (s : List Key) : TupD (stD s) := .tup fun d hd => by
  obtain ⟨k, _, rfl⟩ := List.mem_map.mp hd
  exact keyD_t k
theorem netD_t (N : Net) : TupD (netD N) := .tup fun d hd => by
  obtain ⟨k, _, rfl⟩ := List.mem_map.mp hd
  exact stD_t k
theorem key_dp : ∀ k : Key, Dp K H (kV k) (keyD k)
  | .inl i => .int i
  | .inr x => .str x
theorem keys_dp : ∀ s : List Key, DpAll K H (s.map kV) (s.map keyD)
  | [] => .nil
  | k :: s => .cons (key_dp k) (keys_dp s)
theorem dp_key {k : Key} (h : Dp K H v (keyD k)) : v = kV k := by
  cases k with
  | inl i => exact h.int_inv
  | inr x => exact h.str_inv
theorem dp_keys : ∀ {s : List Key} {vs : List V}, DpAll K H vs (s.map keyD) → vs = s.map kV
  | [], _, .nil => rfl
  | k :: s, _, .cons h hs => by rw [dp_key h, dp_keys hs]; rfl
/-- a station of the network stands at v -/
abbrev StAt (K : PySem.W.Frag) (H : Hp) (v : V) (s : List Key) : Prop := Dp K H v (stD s)
abbrev NetAt (K : PySem.W.Frag) (H : Hp) (v : V) (N : Net) : Prop := Dp K H v (netD N)
theorem StAt.at {s : List Key} (h : StAt K H v s) : ∃ a, v = .ref a ∧ SqT K H a (s.map kV) := by
  obtain ⟨a, xs, e, h1, h2⟩ := Dp.tup_inv h
  rw [dp_keys h2] at h1
  exact ⟨a, e, h1⟩
theorem StAt.of {a : Addr} {s : List Key} (h : SqT K H a (s.map kV)) : StAt K H (.ref a) s := .tup h (keys_dp s)
theorem NetAt.at {N : Net} (h : NetAt K H v N) : ∃ a ts, v = .ref a ∧ SqT K H a ts ∧ DpAll K H ts (N.map stD) := Dp.tup_inv h
theorem NetAt.tx {N : Net} (e : TX H H') (h : NetAt K H v N) : NetAt K H' v N := Dp.tx e h (netD_t N)
theorem StAt.tx {s : List Key} (e : TX H H') (h : StAt K H v s) : StAt K H' v s := Dp.tx e h (stD_t s)
end
end L2
set_option Elab.async false
set_option linter.all false
set_option maxRecDepth 100000
set_option maxHeartbeats 4000000
/-! Loops and comprehensions, folded. -/
namespace FB
open PySem PySem.Spec PyProof.Rows L2 Evl
/-- a loop's reading -/
def Loop (J : It) (g : TG) (tb : TS) (D : Ends) (σ : L2.St) (H1 : Hp) : Prop := ∃ W : Nat → Nat → L2.St → Hp → Prop, (∃ m, W 0 m σ H1) ∧ ∀ i m σ H, W i m σ H →
  (J.stop i H ∧ D.nx σ H) ∨ (J.go i H ∧ ∃ N : L2.St → Hp → Prop, (∀ σ' H', N σ' H' → ∃ m', m' < m ∧ W (i + 1) m' σ' H') ∧ ∀ x H', J.yld i H x H' → g x σ H' fun σ2 H2 => tb { D with nx := N, ct := N, bk := D.nx } σ2 H2)
theorem x_tFor {wi : TI} {g : TG} {tb : TS} {D : Ends} {σ : L2.St} {H : Hp} : tFor wi g tb D σ H = wi σ H fun J H1 => Loop J g tb D σ H1 := rfl
theorem loop_it {J : It} {n : Nat} {G : Hp → Prop} {Y : Nat → Hp → V → Hp → Prop} {g : TG} {tb : TS} {D : Ends} {σ : L2.St} {H : Hp} (w : Walk J n G Y) (Pv : Nat → L2.St → Hp → Prop) (h0 : Pv 0 σ H) (hG : ∀ i σ H, i ≤ n → Pv i σ H → G H)
    (hs : ∀ i x σ H H', i < n → Pv i σ H → Y i H x H' → g x σ H' fun σ2 H2 => tb { D with nx := Pv (i + 1), ct := Pv (i + 1), bk := D.nx } σ2 H2) (hd : ∀ σ H, Pv n σ H → D.nx σ H) : Loop J g tb D σ H := for_it w Pv h0 hG hs hd
/-- a comprehension's reading -/
def LcL (J : It) (g : TG) (tt : TT) (te : TE) (vs : List Nat) (σ : L2.St) (H1 : Hp) (Q : VK) : Prop := ∀ D, H1 D = none → ∃ W : Nat → Nat → Hp → Prop, (∃ m, W 0 m (upd H1 D (.lst []))) ∧ ∀ i m H, W i m H →
  (J.stop i H ∧ Q (.ref D) H) ∨ (J.go i H ∧ ∃ Nx : Hp → Prop, (∀ H', Nx H' → ∃ m', m' < m ∧ W (i + 1) m' H') ∧ ∀ x H', J.yld i H x H' → g x (wipe σ vs) H' fun σ2 H2 => wipe σ2 vs = wipe σ vs ∧ tt σ2 H2 fun b H3 =>
    if b = true then te σ2 H3 fun y H4 => ∃ acc, H4 D = some (.lst acc) ∧ acc.length < sizeLine ∧ Nx (upd H4 D (.lst (acc ++ [y]))) else Nx H3)
theorem x_tLc {wi : TI} {g : TG} {tt : TT} {te : TE} {vs : List Nat} {σ : L2.St} {H : Hp} {Q : VK} : tLc wi g tt te vs σ H Q = wi σ H fun J H1 => LcL J g tt te vs σ H1 Q := rfl
/-- the item goes to the list at D -/
def Push (D : Addr) (N : Hp → Prop) : VK := fun y H4 => ∃ acc, H4 D = some (.lst acc) ∧ acc.length < sizeLine ∧ N (upd H4 D (.lst (acc ++ [y])))
theorem x_push {D : Addr} {N : Hp → Prop} {y : V} {H : Hp} {acc : List V} (h : H D = some (.lst acc)) (hl : acc.length < 1000000) (k : ∀ H5, (∀ x o, x ≠ D → H x = some o → H5 x = some o) → H5 D = some (.lst (acc ++ [y])) → N H5) : Push D N y H :=
  ⟨acc, h, by rw [sizeLine_eq]; omega, k _ (fun x o hx e => by rw [upd_ne hx]; exact e) upd_same⟩
theorem lcl_it {J : It} {n : Nat} {G : Hp → Prop} {Y : Nat → Hp → V → Hp → Prop} {g : TG} {tt : TT} {te : TE} {vs : List Nat} {σ : L2.St} {H1 : Hp} {Q : VK} (w : Walk J n G Y) (Pv : Addr → Nat → Hp → Prop)
    (h0 : ∀ D H', H1 D = none → Ex H1 H' → H' D = some (.lst []) → Pv D 0 H') (hG : ∀ D i H, i ≤ n → Pv D i H → G H)
    (hs : ∀ D i x H H', H1 D = none → i < n → Pv D i H → Y i H x H' → g x (wipe σ vs) H' fun σ2 H2 => wipe σ2 vs = wipe σ vs ∧ tt σ2 H2 fun b H3 => if b = true then te σ2 H3 (Push D (Pv D (i + 1))) else Pv D (i + 1) H3)
    (hd : ∀ D H, H1 D = none → Pv D n H → Q (.ref D) H) : LcL J g tt te vs σ H1 Q := fun D hD =>
  lc_it w (Pv D) (h0 D _ hD (Ex.new hD) upd_same) (hG D) (fun i x H H' hi p y => hs D i x H H' hD hi p y) (fun H p => hd D H hD p)
section
variable {H : Hp} {p : Addr} {xs : List V} {v : V} {Q : VK}
theorem x_menu {K : PySem.W.Frag} {r : Int} (h : H p = some (.lst xs)) (r0 : 0 ≤ r) (r1 : r < xs.length) (k : ∀ v, xs[r.toNat]? = some v → v ∈ xs → Q v H) : rIx K (.ref p) (.int r) H Q := by
  have hr : r.toNat < xs.length := by omega
  exact x_ixL (SqL.of h) (atI_in r0 (by simp [hr])) (k xs[r.toNat] (by simp [hr]) (List.getElem_mem hr))
theorem x_tyL {K : PySem.W.Frag} (h : SqL K H p xs) : tyV K "list" (.ref p) H := .inl ⟨rfl, xs, h⟩
theorem x_append (h : H p = some (.lst xs)) (hl : xs.length < 1000000) (k : ∀ H', (∀ x o, x ≠ p → H x = some o → H' x = some o) → H' p = some (.lst (xs ++ [v])) → Q .non H') : rAppend (.ref p) [v] H Q :=
  ⟨p, xs, v, rfl, rfl, h, by rw [sizeLine_eq]; omega, k _ (fun x o hx e => by rw [upd_ne hx]; exact e) upd_same⟩
theorem x_never {D : Ends} {σ : L2.St} {H : Hp} : tNever D σ H = False := rfl
/-- a list or a tuple that is read -/
def SqA (K : PySem.W.Frag) (H : Hp) (p : Addr) (xs : List V) : Prop := SqL K H p xs ∨ SqT K H p xs
theorem SqA.ex {K : PySem.W.Frag} {H' : Hp} (h : SqA K H p xs) (e : Ex H H') : SqA K H' p xs := h.elim (fun h => .inl (ex_l e h)) (fun h => .inr (ex_t e h))
theorem x_ixA {K : PySem.W.Frag} {i : Int} (h : SqA K H p xs) (e : atI xs i = some v) (k : Q v H) : rIx K (.ref p) (.int i) H Q := h.elim (fun h => x_ixL h e k) (fun h => x_ixT h e k)
theorem x_lenA {K : PySem.W.Frag} (h : SqA K H p xs) (k : Q (.int (xs.length : Nat)) H) : rLenU K [.ref p] H Q := h.elim (fun h => x_lenL h k) (fun h => x_lenT h k)
theorem x_eqD {K : PySem.W.Frag} {x y : V} {d e : PyData} (h1 : Dp K H x d) (h2 : Dp K H y e) (s1 : SeqAt.shaped d = true) (s2 : SeqAt.shaped e = true) (k : Q (.bl (PyData.eqv d e)) H) : rEqU K x y H Q := .inr ⟨d, e, h1, h2, s1, s2, k⟩
theorem x_neD {K : PySem.W.Frag} {x y : V} {d e : PyData} (h1 : Dp K H x d) (h2 : Dp K H y e) (s1 : SeqAt.shaped d = true) (s2 : SeqAt.shaped e = true) (k : Q (.bl (!PyData.eqv d e)) H) : rNeU K x y H Q := .inr ⟨d, e, h1, h2, s1, s2, k⟩
def tyN : PyData → String
  | .none => "NoneType"
  | .bool _ => "bool"
  | .int _ => "int"
  | .str _ => "str"
  | .list _ => "list"
  | .tuple _ => "tuple"
  | .dict _ => "dict"
theorem dp_ty {K : PySem.W.Frag} {d : PyData} (h : Dp K H v d) : TyX K H v (.type (tyN d)) := by
  cases h with
  | non => exact .base .non
  | bl b => exact .base (.bl b)
  | int i => exact .base (.int i)
  | str x => exact .base (.str x)
  | lst h _ =>
    rcases h with (h | ⟨o, h⟩) | ⟨o, its, n, h1, h2, _⟩
    · exact .base (.lst h)
    · exact .base (.frz h)
    · exact .kList h1 h2
  | tup h _ =>
    rcases h with (h | ⟨o, h⟩) | ⟨o, its, n, h1, h2, _⟩
    · exact .base (.tup h)
    · exact .fTuple h
    · exact .kTuple h1 h2
theorem x_isD {K : PySem.W.Frag} {d : PyData} {T : String} {b : Bool} (h : Dp K H v d) (e : PySem.W.kitOne K (.type (tyN d)) (.type T) = some b) (k : Q (.bl b) H) : rIsiU K [v, .ty T] H Q := .inl ⟨_, _, _, _, b, rfl, .ty _, dp_ty h, e, k⟩
theorem x_isD2 {K : PySem.W.Frag} {d : PyData} {A B : String} {b : Bool} {tp : Addr} (h : Dp K H v d) (ht : H tp = some (.tup [.ty A, .ty B])) (e : PySem.W.kitAny K (.type (tyN d)) [.type A, .type B] = some b) (k : Q (.bl b) H) : rIsiU K [v, .ref tp] H Q :=
  .inr ⟨v, tp, [.ty A, .ty B], _, [.type A, .type B], b, rfl, ht, .cons (.ty _) (.cons (.ty _) .nil), dp_ty h, e, k⟩
theorem x_range1 {n : Int} {R : It → Hp → Prop} (h : -1000000000000000000 ≤ n ∧ n ≤ 1000000000000000000) (k : R (Itr 0 n.toNat) H) : ∃ j : Int, [V.int n] = [.int j] ∧ -(2 ^ 62) ≤ j ∧ j < 2 ^ 62 ∧ R (Itr 0 j.toNat) H := ⟨n, rfl, by omega, by omega, k⟩
end
/-- a list, a tuple, a text that is walked -/
def rIter (K : PySem.W.Frag) (x : V) (H : Hp) (R : It → Hp → Prop) : Prop := (∃ a xs, x = .ref a ∧ SqL K H a xs ∧ R (Itl K a) H) ∨ (∃ a xs, x = .ref a ∧ SqT K H a xs ∧ R (Itt K a) H) ∨ (∃ z, x = .str z ∧ R (Its z) H)
def iU (K : PySem.W.Frag) (te : TE) : TI := fun σ H R => te σ H fun x H1 => rIter K x H1 R
theorem pi_U {X : Cx} {tg e : Expr} {te : TE} {K : PySem.W.Frag} (he : PE X e te) (hK : X.K = K := by rfl) : PI X tg e (iU K te) := by
  subst hK
  refine ⟨fun pins s σ H R I h => ?_⟩
  refine thn (he.run pins s σ H _ I h) fun v s1 ⟨x, H1, I1, r1, q1⟩ => ?_
  rcases q1 with ⟨a, xs, e, hq, q⟩ | ⟨a, xs, e, hq, q⟩ | ⟨z, e, q⟩
  · subst e
    cases r1
    obtain ⟨its, rv, p, hz⟩ := I1.list hq
    refine wpAny_pyIter_list p.isList ?_
    refine ⟨s1.heap.objs.size, [s1.heap.objs.size], _, _, H1, rfl, I1.kept (t' := s1.toks) fun b o e => Heap.get?_push_of_some _ e, turn_list a _, ⟨_, Heap.get?_push_size _ rfl, rfl, rfl⟩, fun b hb => ?_, q⟩
    have e : b = s1.heap.objs.size := by simpa using hb
    subst e
    exact I1.fpOk (Nat.le_refl _) (I1.hok.fresh (Nat.le_refl _))
  · subst e
    cases r1
    obtain ⟨its, rv, p, hz⟩ := I1.tuple hq
    refine wpAny_pyIter_tuple (show s1.heap.IsTuple a its.toArray from p) ?_
    refine ⟨s1.heap.objs.size, [s1.heap.objs.size], _, _, H1, rfl, I1.kept (t' := s1.toks) fun b o e => Heap.get?_push_of_some _ e, turn_tuple a _, ⟨_, Heap.get?_push_size _ rfl, rfl, rfl⟩, fun b hb => ?_, q⟩
    have e : b = s1.heap.objs.size := by simpa using hb
    subst e
    exact I1.fpOk (Nat.le_refl _) (I1.hok.fresh (Nat.le_refl _))
  · subst e
    obtain ⟨t, rfl⟩ := r1
    cases ha : z.cps.all (· < 128)
    · exact wpAny_pyIter_wide ha (pi_one (tk := s1.toks) I1 _ (turn_str _ z t "str_iterator" (.inr rfl)) ⟨_, Heap.get?_push_size _ rfl, rfl, rfl⟩ q)
    · exact wpAny_pyIter_ascii ha (pi_one (tk := s1.toks) I1 _ (turn_str _ z t "str_ascii_iterator" (.inl rfl)) ⟨_, Heap.get?_push_size _ rfl, rfl, rfl⟩ q)
theorem x_itL {K : PySem.W.Frag} {H : Hp} {a : Addr} {xs : List V} {R : It → Hp → Prop} (h : SqL K H a xs) (k : R (Itl K a) H) : rIter K (.ref a) H R := .inl ⟨a, xs, rfl, h, k⟩
theorem x_itT {K : PySem.W.Frag} {H : Hp} {a : Addr} {xs : List V} {R : It → Hp → Prop} (h : SqT K H a xs) (k : R (Itt K a) H) : rIter K (.ref a) H R := .inr (.inl ⟨a, xs, rfl, h, k⟩)
theorem x_itS {K : PySem.W.Frag} {H : Hp} {z : Str} {R : It → Hp → Prop} : rIter K (.str z) H R ↔ R (Its z) H := by
  constructor
  · rintro (⟨_, _, e, _⟩ | ⟨_, _, e, _⟩ | ⟨_, e, h⟩)
    · cases e
    · cases e
    · cases e; exact h
  · exact fun h => .inr (.inr ⟨z, rfl, h⟩)
theorem call_allU {X : Cx} (hc : X.calm = true) {K : PySem.W.Frag} (hK : X.K = K := by rfl) : CallR X (.builtin "all") (rAll K) := by subst hK; exact cr_all hc
theorem call_anyU {X : Cx} (hc : X.calm = true) {K : PySem.W.Frag} (hK : X.K = K := by rfl) : CallR X (.builtin "any") (rAny K) := by subst hK; exact cr_any hc
end FB
set_option Elab.async false
set_option linter.all false
set_option maxRecDepth 100000
set_option maxHeartbeats 4000000
/-! enumerate of a tuple. -/
namespace FB
open PySem PySem.Spec PyProof.Rows L2 Evl
/-- one argument: the count begins at 0 -/
theorem meets_enum1 {v : Value} {o : Obj} {W : Heap → Prop} (B : Begins v o W) :
    Meets (Builtin.«enumerate.__new__» ⟨[.type "enumerate", v], []⟩) (fun _ R s => W s.heap ∧
      R (.ok (.ret (.ref (s.heap.push o).objs.size))) { s with heap := (s.heap.push o).push { cls := .type "enumerate", data := .fields #[.none, .bool false, .ref s.heap.objs.size, rawInt 0, .none, .none] } }) := by
  refine .of_wp ?_
  intro prog w A R s hs
  rcases s with ⟨hp, g, d, tk, os⟩
  rcases hs with ⟨h1, h2⟩
  have sub0 := sub_enumerate
  have go : ∀ {A' : Around} {E Q : Value → Shared → Prop}, Q (.ref hp.objs.size) ⟨hp.push o, g, d, tk, os⟩ → wpAny (model prog w) A' (pyIter v) Q E ⟨hp, g, d, tk, os⟩ := by
    intro A' E Q q
    exact B.iter prog w A' E _ Q h1 q
  wp_walk using go
  apply wpAny_stack_any
  intro st
  apply wpAny_pure
  split
  case h_1 c _ _ _ _ _ =>
    by_cases hc : (c == Value.type "enumerate") = true
    all_goals (simp only [hc]; wp_walk using go)
    all_goals exact ⟨_, rfl, h2⟩
  all_goals (wp_walk using go)
  all_goals exact ⟨_, rfl, h2⟩
section
variable {prog : Program} {w : World} {A : Around} {E : Value → Shared → Prop} {s : Shared}
theorem enum_one {v : Value} {o : Obj} {W : Heap → Prop} {Q : Value → Shared → Prop} (B : Begins v o W) (h1 : W s.heap)
    (h : ∀ h', IsEnum h' (s.heap.objs.size + 1) s.heap.objs.size 0 .none → h'.get? s.heap.objs.size = some o → (∀ b u, s.heap.get? b = some u → h'.get? b = some u) → Q (.ref (s.heap.objs.size + 1)) { s with heap := h' }) :
    wpAny (model prog w) A (call (.type "enumerate") [v]) Q E s := by
  have sz : (s.heap.push o).objs.size = s.heap.objs.size + 1 := Heap.size_push ..
  have at1 := Heap.get?_push_size (s.heap.push o) (o := { cls := .type "enumerate", data := .fields #[.none, .bool false, .ref s.heap.objs.size, rawInt 0, .none, .none] }) rfl
  rw [sz] at at1
  have en : IsEnum _ (s.heap.objs.size + 1) s.heap.objs.size 0 .none := at1
  apply callType_new F.called_enumerate (by decide) (F.typeCall_enumerate_1 _) (F.newCall_enumerate_1 _) (fun x => F.args_object_init_2 x _) F.entry_enumerate_new (meets_enum1 B)
  refine ⟨h1, ?_⟩
  rw [sz]
  exact ⟨⟨_, en, rfl⟩, h _ en (Heap.get?_push_of_some _ (Heap.get?_push_size _ B.free)) (fun b u x => Heap.get?_push_of_some _ (Heap.get?_push_of_some _ x))⟩
end
/-- the tuple at a, each item in a new pair with its place -/
def IteT (K : PySem.W.Frag) (a : Addr) : It where
  go := fun i H => ∃ (xs : List V) (x : V), SqT K H a xs ∧ xs[i]? = some x
  yld := fun i H v H' => ∃ T x, v = .ref T ∧ H T = none ∧ H' = upd H T (.tup [.int (i : Nat), x]) ∧ ∀ xs, SqT K H a xs → xs[i]? = some x
  stop := fun i H => ∃ xs : List V, SqT K H a xs ∧ xs.length = i
theorem walk_enumT {K : PySem.W.Frag} {a : Addr} {xs : List V} : Walk (IteT K a) xs.length (fun H => SqT K H a xs) (YPair (fun i => some (.int (i : Nat))) (fun i => xs[i]?)) where
  goes := fun i H hi q => ⟨xs, xs[i], q, by simp [hi]⟩
  stops := fun H q => ⟨xs, q, rfl⟩
  yields := fun i H v H' _ q ⟨T, x, h1, h2, h3, h4⟩ => ⟨T, .int (i : Nat), x, h1, h2, h3, rfl, h4 xs q⟩
/-- the iterator's two objects -/
def EnT (a e it : Addr) (i : Nat) (h : Heap) : Prop := (∃ old, IsEnum h e it ((i : Nat) : Int) old) ∧ h.IsTupleIter it a i ∧ e ≠ it
theorem turn_enumT {P : Program} {w : World} {K : PySem.W.Frag} {elts : List Expr} {kk : Nat} {tpos : Pos} (a e it : Addr) : Turn P w K (.Tuple elts kk tpos) (IteT K a) [e, it] e (EnT a e it) := by
  constructor
  case mem => exact List.mem_cons_self ..
  case obj =>
    rintro i h ⟨⟨old, he⟩, ⟨o, ho, _, hd⟩, _⟩ b hb
    simp only [List.mem_cons, List.not_mem_nil, or_false] at hb
    rcases hb with rfl | rfl
    · exact ⟨_, he, fun v q => nomatch q⟩
    · exact ⟨o, ho, fun v q => by rw [hd] at q; cases q⟩
  case keep =>
    rintro i h h' ⟨⟨old, he⟩, hi, ne⟩ k
    exact ⟨⟨old, k e (by simp) _ he⟩, hi.at (fun o q => k it (by simp) o q), ne⟩
  case self =>
    rintro A i s Q E ⟨⟨old, he⟩, _⟩ h
    exact wpAny_pyIter_enum he h
  case item =>
    rintro X rfl rfl rfl hc i pins s σ H E I hf ⟨⟨old, he⟩, hit, ne⟩ ⟨xs, x, hq, hx⟩
    obtain ⟨its, rv, p, hz⟩ := I.tuple hq
    have p' : s.heap.IsTuple a its.toArray := p
    obtain ⟨u, hu, ru⟩ := rv.get hx
    have hlt : i < its.length := (List.getElem?_eq_some_iff.mp hu).1
    have nai : a ≠ it := by
      rintro rfl
      obtain ⟨o1, e1, c1, _⟩ := p'
      obtain ⟨o2, e2, c2, _⟩ := hit
      rw [e1] at e2
      cases e2
      rw [c1] at c2
      exact absurd c2 (by decide)
    have nea : e ≠ a := by
      rintro rfl
      obtain ⟨o1, e1, c1, _⟩ := p'
      have e2 : s.heap.get? e = some _ := he
      rw [e1] at e2
      cases e2
      have c : Value.type "enumerate" = Value.type "tuple" := c1
      exact absurd c (by decide)
    have hh : X.A.in1.handled = none := I.ok.hd hc
    have le : e < s.heap.objs.size := Heap.lt_size he
    have li : it < s.heap.objs.size := by
      obtain ⟨_, q, _⟩ := hit
      exact Heap.lt_size q
    have ez : ((i + 1 : Nat) : Int) = (i : Int) + 1 := by omega
    refine wpAny_pyNext_enum_itemC (Draws.tuple hh it a nai its.toArray) he ⟨hit, p'⟩ (by simpa using hlt) ne (by simp [ne, nea]) ?_
    intro y h' tk hy ho hst hT _ hk
    obtain rfl : y = u := by
      have : its[i]? = some y := by simpa using hy
      rw [hu] at this
      exact (Option.some.inj this).symm
    refine ⟨_, rfl, wpAny_letOwnedTupleGo_enum (s := { s with heap := h', toks := tk + 1 }) ho ?_⟩
    intro h2 he2 sb
    have hT2 : h2.get? s.heap.objs.size = some { cls := .type "tuple", data := .seq #[.int i tk, y] } := (sb.2 _ (Nat.ne_of_gt le)).trans hT
    have mk : ObjOk X.prog X.w (upd H s.heap.objs.size (.tup [.int (i : Nat), x])) h2 s.heap.objs.size (.tup [.int (i : Nat), x]) :=
      ⟨small (n := 2) (by omega), [.int i tk, y], .cons ⟨tk, rfl⟩ (.cons ru .nil), ⟨_, hT2, rfl, _, rfl⟩⟩
    have J : Inv X pins σ (upd H s.heap.objs.size (.tup [.int (i : Nat), x])) { s with heap := h2, toks := tk + 1 } := by
      refine I.turnedNew (ch := [e, it]) (fun b ob hb q => ?_) hf (Nat.le_refl _) mk
      simp only [List.mem_cons, List.not_mem_nil, or_false, not_or] at hb
      exact (sb.2 b hb.1).trans (hk b ob hb.1 hb.2 q)
    refine ⟨.ref s.heap.objs.size, _, J, rfl, ⟨_, x, rfl, I.hok.fresh (Nat.le_refl _), rfl, fun ys hy => by rw [I.tuple_inj hy hq]; exact hx⟩, ⟨⟨y, ?_⟩, hst.1.at (fun o q => (sb.2 it ne.symm).trans q), ne⟩, fun b hb => ?_⟩
    · rw [ez]
      exact he2
    · have lb : b < s.heap.objs.size := by
        simp only [List.mem_cons, List.not_mem_nil, or_false] at hb
        rcases hb with rfl | rfl
        · exact le
        · exact li
      rw [upd_ne (Nat.ne_of_lt lb)]
      exact (hf b hb).1
  case done =>
    rintro X rfl rfl rfl hc i pins s σ H E I hf ⟨⟨old, he⟩, hit, ne⟩ ⟨xs, hq, hx⟩
    obtain ⟨its, rv, p, hz⟩ := I.tuple hq
    have p' : s.heap.IsTuple a its.toArray := p
    have hlen := rv.length
    have hh : X.A.in1.handled = none := I.ok.hd hc
    have nai : a ≠ it := by
      rintro rfl
      obtain ⟨o1, e1, c1, _⟩ := p'
      obtain ⟨o2, e2, c2, _⟩ := hit
      rw [e1] at e2
      cases e2
      rw [c1] at c2
      exact absurd c2 (by decide)
    have hi : its.toArray.size = i := by rw [List.size_toArray, ← hlen, hx]
    obtain ⟨f0, f1, f2, f3, f4, f5⟩ := hf it (by simp)
    refine wpAny_pyNext_enum_endD (Draws.tuple hh it a nai its.toArray) he (by rw [hi]; exact ⟨hit, p'⟩) ?_
    intro h' eb
    exact ⟨rfl, I.turned (t' := s.toks) (fun b o hb q => eb b o hb q) f0 f1 f3 f4 f5⟩
def iEnumT (K : PySem.W.Frag) (ta : TA) : TI := fun σ H R => ta σ H fun vs H1 => ∃ a xs, vs = [.ref a] ∧ SqT K H1 a xs ∧ R (IteT K a) H1
theorem pi_enumT {X : Cx} {e : Expr} {ta : TA} {p pos tpos : Pos} {elts : List Expr} {kk : Nat} {K : PySem.W.Frag} (hg : Gl X "enumerate") (hm : X.mg "enumerate" = none) (ha : PA X [e] ta) (hK : X.K = K := by rfl) (hs : starEach [e] X.env = [(false, eval e X.env)] := by rfl) :
    PI X (.Tuple elts kk tpos) (.Call (.Name "enumerate" p) [e] [] pos) (iEnumT K ta) := by
  subst hK
  constructor
  intro pins s σ H R I h
  apply Call_ (ld_blt I hg hm boot_enumerate (PyProof.Rows.callWith_type1 (thn (ha.run pos pins s σ H _ I h) ?_) hs rfl))
  rintro us s1 ⟨vs, H1, I1, r1, a, xs, rfl, hq, q⟩
  cases r1 with
  | cons r rr =>
    cases rr
    cases r
    obtain ⟨its, rv, p', hz⟩ := I1.tuple hq
    refine enum_one (begins_tuple a its.toArray) p' fun h' he hit hk => wpAny_pyIter_enum he ?_
    have I2 : Inv X pins σ H1 { s1 with heap := h' } := I1.kept (t' := s1.toks) hk
    refine ⟨s1.heap.objs.size + 1, [s1.heap.objs.size + 1, s1.heap.objs.size], _, _, H1, rfl, I2, turn_enumT a (s1.heap.objs.size + 1) s1.heap.objs.size, ⟨⟨.none, he⟩, ⟨_, hit, rfl, rfl⟩, Nat.succ_ne_self _⟩, fun b hb => ?_, q⟩
    have le : s1.heap.objs.size ≤ b := by
      simp only [List.mem_cons, List.not_mem_nil, or_false] at hb
      rcases hb with rfl | rfl
      · exact Nat.le_succ _
      · exact Nat.le_refl _
    exact I1.fpOk le (I1.hok.fresh le)
section
variable {K : PySem.W.Frag} {H : Hp} {σ : L2.St}
theorem x_rU {g : Int → V} {i : Int} {Q : VK} : rU g (.int i) H Q ↔ Q (g i) H := by
  constructor
  · rintro ⟨_, h1, h⟩
    cases h1; exact h
  · exact fun h => ⟨i, rfl, h⟩
theorem x_two {n i j : Nat} {T : Addr} {x y : V} {Q : L2.St → Hp → Prop} (h : SqT K H T [x, y]) (k : Q ((σ.set i (some x)).set j (some y)) H) (hn : n = 2 := by rfl) : gTup K n (gCons (gName i) (gCons (gName j) gNil)) (.ref T) σ H Q := by
  subst hn
  exact ⟨T, _, rfl, h, rfl, x, [y], rfl, y, [], rfl, rfl, k⟩
end
/-- C(..), its __init__ keeping sp -/
def rMk (C : Addr) (sp : Sp) (dvs vs : List V) (H1 : Hp) (Q : XK) : Prop := vs.length ≤ 1000 ∧ ∀ a, H1 a = none → sp (.ref a :: (vs ++ dvs)) (upd H1 a (exo a C none))
  (fun v H2 => v = .non ∧ ∃ (d : Addr) (fs : List (Str × V)), H2 a = some (exo a C (some d)) ∧ H2 d = some (exd d fs) ∧ H1 d = none ∧ Q (.ref C) (some d) (upd (del H2 a) d (.xd fs))) (fun _ _ _ => False)
theorem x_tMkO {C : Addr} {sp : Sp} {dvs : List V} {ta : TA} {σ : L2.St} {H : Hp} {Q : XK} : tMkO C sp dvs ta σ H Q = ta σ H fun vs H1 => rMk C sp dvs vs H1 Q := rfl
end FB
set_option Elab.async false
set_option linter.all false
set_option maxRecDepth 100000
set_option maxHeartbeats 4000000
/-! Dicts: made by a comprehension, walked, asked, filled; sets; zip of tuples. -/
namespace FB
open PySem PySem.Spec PyProof.Rows L2 Evl
section
variable {X : Cx}
/-- the value is locked from here on -/
def tLockV (t : TE) : TE := fun σ H Q => t σ H fun x H1 => ∃ d u, x = .ref d ∧ H1 d = some u ∧ Mut (some u) ∧ ∀ od, Q x (upd H1 d (.frz od u))
theorem pe_lockV {e : Expr} {t : TE} (h : PE X e t) : PE X e (tLockV t) := by
  refine ⟨fun pins s σ H Q I hw => ?_⟩
  refine thn (h.run pins s σ _ _ I hw) fun v s1 ⟨x, H1, I1, r, d, u, e, hd, mu, q⟩ => ?_
  obtain ⟨od, I2⟩ := I1.lock hd mu
  exact ⟨x, _, I2, r, q od⟩
/-- name = {..} on one line, the name a local -/
theorem ps_setDc {i : Nat} {y : Str} {py : Pos} {kx vx tg iter : Expr} {ifs : List Expr} {scope : Scope} {own : List (Str × Nat)} {pos spos : Pos} {wi : TI} {g : TG} {tt : TT} {tk tv : TE} (hc : X.calm = true) (hN : X.N.Nodup) (hy : X.N[i]? = some y) (hyl : X.env.scope.names.lookup y = some .local)
    (hsw : swapsWith (.DictComp kx vx [⟨tg, iter, ifs, 0⟩] scope pos) (some (.Name y py)) spos.line X.env = pure true) (hi : PI X tg iter wi) (ok : BlkOk X.N X.env.scope scope own)
    (hg : ∀ (s : Shared) (H : Hp) (C : Addr) (cl : List (Str × Addr)) (fp : List Addr), PG (X.blk s H scope (compEnvC scope cl C X.env) fp) tg g) (ht : ∀ (s : Shared) (H : Hp) (C : Addr) (cl : List (Str × Addr)) (fp : List Addr), PTs (X.blk s H scope (compEnvC scope cl C X.env) fp) ifs tt)
    (hk : ∀ (s : Shared) (H : Hp) (C : Addr) (cl : List (Str × Addr)) (fp : List Addr), PE (X.blk s H scope (compEnvC scope cl C X.env) fp) kx tk)
    (he : ∀ (s : Shared) (H : Hp) (C : Addr) (cl : List (Str × Addr)) (fp : List Addr), PE (X.blk s H scope (compEnvC scope cl C X.env) fp) vx tv) (hs : ∀ x, foldedSetIterable iter X.env x = pure x := by intro _; rfl) :
    PS X (.Assign [.Name y py] (.DictComp kx vx [⟨tg, iter, ifs, 0⟩] scope pos) spos) (tAsg (tDc wi g tt tk tv (own.map (·.2))) (gName i)) := by
  refine ⟨fun pins s σ H D I h => ?_⟩
  rw [exec_Assign_Name_used _ _ _ _ hsw]
  refine wpAny_bind (wpAny_standAt (wpAny_bind ?_))
  show wpAny _ X.A (do let _ ← comprehension (.DictComp kx vx [⟨tg, iter, ifs, 0⟩] scope pos) scope X.env (firstIterPos [⟨tg, iter, ifs, 0⟩] pos) newDict false (eval iter X.env) (some (assign (.Name y py) X.env))) _ _ s
  have h : tDc wi g tt tk tv (own.map (·.2)) σ H (fun x H1 => gName i x σ H1 D.nx) := h
  refine wpAny_bind (thn (dc_core (Qf := fun _ s' => SP X pins D .next s') hc hN I hi ok hg ht hk he hs h fun L C s' m H' I' q hn f => ?_) fun _ s' hq => wpAny_pure (wpAny_pure hq))
  show wpAny _ _ (assign (.Name y py) X.env (.ref L)) _ _ _
  refine wpAny_assign_Name (store_ok2 (v := V.ref L) I' hN hy (.inl hyl) rfl (fun s2 I2 ⟨a, sb, ha⟩ => ?_) (.inr hyl))
  obtain ⟨f0, f1, f2, f3, f4, f5⟩ := f
  have haC : C ≠ a := by
    rcases ha with z | z
    · rw [z]; exact f1
    · exact fun e => f4 y a z e.symm
  refine ⟨m, hn.sameBut sb haC, fun h3 sb3 => ?_⟩
  exact ⟨_, H', I2.turned (t' := s2.toks) (fun b o hb e => (sb3.2 b hb).trans e) f0 f1 f3 f4 f5, q⟩
theorem sw_trueD {kx vx : Expr} {gs : List Comprehension} {scope : Scope} {pos py : Pos} {y : Str} {l : Nat} {env : Env} (hk : env.scope.kind = .function) (hy : env.scope.names.lookup y = some .local) (hl : (py.line == pos.line) = true)
    (ha : (scope.names.any fun (n, k) => n == y && (k == .local || k == .cell)) = false) : swapsWith (.DictComp kx vx gs scope pos) (some (.Name y py)) l env = pure true := by
  have ky : env.kindOf y = some .local := hy
  have hb : env.blockKind = .function := by unfold Env.blockKind; rw [hk]; rfl
  unfold swapsWith
  simp only [hb, ky, ha, Expr.pos, hl]
  rfl
end
/-- a dict comprehension's reading -/
def DcL (J : It) (g : TG) (tt : TT) (tk tv : TE) (vs : List Nat) (σ : L2.St) (H1 : Hp) (Q : VK) : Prop := ∀ D, H1 D = none → ∃ W : Nat → Nat → Hp → Prop, (∃ m, W 0 m (upd H1 D (.dK []))) ∧ ∀ i m H, W i m H →
  (J.stop i H ∧ Q (.ref D) H) ∨ (J.go i H ∧ ∃ Nx : Hp → Prop, (∀ H', Nx H' → ∃ m', m' < m ∧ W (i + 1) m' H') ∧ ∀ x H', J.yld i H x H' → g x (wipe σ vs) H' fun σ2 H2 => wipe σ2 vs = wipe σ vs ∧ tt σ2 H2 fun b H3 =>
    if b = true then tk σ2 H3 fun y H4 => tv σ2 H4 fun z H5 => ∃ kvs k, y = kV k ∧ H5 D = some (.dK kvs) ∧ kvs.length < sizeLine ∧ Nx (upd H5 D (.dK (putK kvs k z))) else Nx H3)
theorem x_tDc {wi : TI} {g : TG} {tt : TT} {tk tv : TE} {vs : List Nat} {σ : L2.St} {H : Hp} {Q : VK} : tDc wi g tt tk tv vs σ H Q = wi σ H fun J H1 => DcL J g tt tk tv vs σ H1 Q := rfl
/-- the item goes to the dict at D -/
def PutD (D : Addr) (N : Hp → Prop) (y : V) : VK := fun z H5 => ∃ kvs k, y = kV k ∧ H5 D = some (.dK kvs) ∧ kvs.length < sizeLine ∧ N (upd H5 D (.dK (putK kvs k z)))
theorem x_putD {D : Addr} {N : Hp → Prop} {k : Key} {z : V} {H : Hp} {kvs : List (Key × V)} (h : H D = some (.dK kvs)) (hl : kvs.length < 1000000) (q : ∀ H5, (∀ x o, x ≠ D → H x = some o → H5 x = some o) → H5 D = some (.dK (putK kvs k z)) → N H5) : PutD D N (kV k) z H :=
  ⟨kvs, k, rfl, h, by rw [sizeLine_eq]; omega, q _ (fun x o hx e => by rw [upd_ne hx]; exact e) upd_same⟩
theorem dcl_it {J : It} {n : Nat} {G : Hp → Prop} {Y : Nat → Hp → V → Hp → Prop} {g : TG} {tt : TT} {tk tv : TE} {vs : List Nat} {σ : L2.St} {H1 : Hp} {Q : VK} (w : Walk J n G Y) (Pv : Addr → Nat → Hp → Prop)
    (h0 : ∀ D H', H1 D = none → Ex H1 H' → H' D = some (.dK []) → Pv D 0 H') (hG : ∀ D i H, i ≤ n → Pv D i H → G H)
    (hs : ∀ D i x H H', H1 D = none → i < n → Pv D i H → Y i H x H' → g x (wipe σ vs) H' fun σ2 H2 => wipe σ2 vs = wipe σ vs ∧ tt σ2 H2 fun b H3 => if b = true then tk σ2 H3 fun y H4 => tv σ2 H4 (PutD D (Pv D (i + 1)) y) else Pv D (i + 1) H3)
    (hd : ∀ D H, H1 D = none → Pv D n H → Q (.ref D) H) : DcL J g tt tk tv vs σ H1 Q := fun D hD => by
  refine ⟨fun i m H => m = n - i ∧ i ≤ n ∧ Pv D i H, ⟨n, by simp, Nat.zero_le _, h0 D _ hD (Ex.new hD) upd_same⟩, ?_⟩
  rintro i m H ⟨rfl, hi, p⟩
  have q := hG D i H hi p
  by_cases hlt : i < n
  · exact .inr ⟨w.goes i H hlt q, Pv D (i + 1), fun H' p' => ⟨n - (i + 1), by omega, rfl, hlt, p'⟩, fun x H' y => hs D i x H H' hD hlt p (w.yields i H x H' hlt q y)⟩
  · have e : i = n := by omega
    subst e
    exact .inl ⟨w.stops H q, hd D H hD p⟩
section
variable {K : PySem.W.Frag} {H H' : Hp} {a b d p : Addr} {kvs : List (Key × V)} {k : Key} {v : V} {Q : VK} {xs ys : List V}
theorem x_lock {t : TE} {σ : L2.St} {u : HO} (h : H d = some u) (mu : Mut (some u)) (q : ∀ od H1, (∀ x o, x ≠ d → H x = some o → H1 x = some o) → (∀ x, x ≠ d → H1 x = none → H x = none) → H1 d = some (.frz od u) → t σ H1 fun v H' => H' d = some (.frz od u) ∧ Q v (upd H' d u)) : tLockE t σ H Q :=
  ⟨d, u, h, mu, fun od => q od _ (fun x o hx e => by rw [upd_ne hx]; exact e) (fun x hx e => by rw [upd_ne hx] at e; exact e) upd_same⟩
def rLockV (x : V) (H : Hp) (Q : VK) : Prop := ∃ d u, x = .ref d ∧ H d = some u ∧ Mut (some u) ∧ ∀ od, Q x (upd H d (.frz od u))
theorem x_tLockV {t : TE} {σ : L2.St} : tLockV t σ H Q = t σ H fun x H1 => rLockV x H1 Q := rfl
theorem x_lockV {u : HO} (h : H d = some u) (mu : Mut (some u)) (q : ∀ od H1, (∀ x o, x ≠ d → H x = some o → H1 x = some o) → (∀ x, x ≠ d → H1 x = none → H x = none) → H1 d = some (.frz od u) → Q (.ref d) H1) : rLockV (.ref d) H Q :=
  ⟨d, u, rfl, h, mu, fun od => q od _ (fun x o hx e => by rw [upd_ne hx]; exact e) (fun x hx e => by rw [upd_ne hx] at e; exact e) upd_same⟩
/-- d[k] -/
def rDGet (x y : V) (H : Hp) (Q : VK) : Prop := ∃ a v, x = .ref a ∧ DGet H a y (some v) ∧ Q v H
theorem x_tDGet {td ty : TE} {σ : L2.St} : tDGet td ty σ H Q = td σ H fun x H1 => ty σ H1 fun y H2 => rDGet x y H2 Q := rfl
theorem x_dget (h : H a = some (.dK kvs)) (e : valV kvs k = some v) (q : Q v H) : rDGet (.ref a) (kV k) H Q := ⟨a, v, rfl, by rw [← e]; exact DGet.k h, q⟩
/-- d.get(k, z) -/
def rDGet2 (a : Addr) (y z : V) (H : Hp) (Q : VK) : Prop := ∃ o, DGet H a y o ∧ Q (o.getD z) H
theorem x_tDGet2 {td ty tx : TE} {σ : L2.St} : tDGet2 td ty tx σ H Q = td σ H fun x H1 => ∃ a, x = .ref a ∧ IsD H1 a ∧ ty σ H1 fun y H2 => tx σ H2 fun z H3 => rDGet2 a y z H3 Q := rfl
theorem isD_k (h : H a = some (.dK kvs)) : IsD H a := .inl ⟨kvs, .inl h⟩
theorem x_dget2 {z : V} (h : H a = some (.dK kvs)) (q : Q ((valV kvs k).getD z) H) : rDGet2 a (kV k) z H Q := ⟨_, DGet.k h, q⟩
/-- d[k] = v -/
def rDPut (x y v : V) (H : Hp) (N : Hp → Prop) : Prop := ∃ a H4, x = .ref a ∧ DPut H a y v H4 ∧ N H4
theorem x_sDPut {td ty tv : TE} {σ : L2.St} {D : Ends} : sDPut td ty tv D σ H = tv σ H fun v H1 => td σ H1 fun x H2 => ty σ H2 fun y H3 => rDPut x y v H3 (D.nx σ) := rfl
theorem x_dput {N : Hp → Prop} (h : H a = some (.dK kvs)) (hl : kvs.length < 1000000) (q : ∀ H1, (∀ x o, x ≠ a → H x = some o → H1 x = some o) → (∀ x, x ≠ a → H1 x = none → H x = none) → H1 a = some (.dK (putK kvs k v)) → N H1) : rDPut (.ref a) (kV k) v H N :=
  ⟨a, _, rfl, DPut.k h (by rw [sizeLine_eq]; omega), q _ (fun x o hx e => by rw [upd_ne hx]; exact e) (fun x hx e => by rw [upd_ne hx] at e; exact e) upd_same⟩
/-- d.setdefault(k, z) -/
def rDSetd (a : Addr) (y z : V) (H : Hp) (Q : VK) : Prop := ∃ (kvs : List (Key × V)) (k : Key), H a = some (.dK kvs) ∧ y = kV k ∧ kvs.length < sizeLine ∧ (∀ v, valV kvs k = some v → Q v H) ∧ (valV kvs k = none → Q z (upd H a (.dK (putK kvs k z))))
theorem x_tDSetd {td ty tx : TE} {σ : L2.St} : tDSetd td ty tx σ H Q = td σ H fun x H1 => ∃ a, x = .ref a ∧ IsD H1 a ∧ ty σ H1 fun y H2 => tx σ H2 fun z H3 => rDSetd a y z H3 Q := rfl
theorem x_dsetd {z : V} (h : H a = some (.dK kvs)) (hl : kvs.length < 1000000) (q : ∀ v, valV kvs k = some v → Q v H)
    (q2 : valV kvs k = none → ∀ H1, (∀ x o, x ≠ a → H x = some o → H1 x = some o) → (∀ x, x ≠ a → H1 x = none → H x = none) → H1 a = some (.dK (putK kvs k z)) → Q z H1) : rDSetd a (kV k) z H Q :=
  ⟨kvs, k, h, rfl, by rw [sizeLine_eq]; omega, q, fun e => q2 e _ (fun x o hx e => by rw [upd_ne hx]; exact e) (fun x hx e => by rw [upd_ne hx] at e; exact e) upd_same⟩
/-- {} -/
def rDNew (H : Hp) (Q : VK) : Prop := ∀ p, H p = none → Q (.ref p) (upd H p (.dK []))
theorem x_tDNewK {σ : L2.St} : tDNewK σ H Q = rDNew H Q := rfl
theorem x_dnew (q : ∀ p H', H p = none → Ex H H' → H' p = some (.dK []) → Q (.ref p) H') : rDNew H Q := x_new q
/-- items of a locked dict -/
def rItems (x : V) (H : Hp) (R : It → Hp → Prop) : Prop := ∃ d o kvs, x = .ref d ∧ H d = some (.frz o (.dK kvs)) ∧ R (Iti d o kvs) H
theorem x_iItems {td : TE} {σ : L2.St} {R : It → Hp → Prop} : iItems td σ H R = td σ H fun x H1 => rItems x H1 R := rfl
theorem x_items {o : Obj} {R : It → Hp → Prop} (h : H d = some (.frz o (.dK kvs))) (q : R (Iti d o kvs) H) : rItems (.ref d) H R := ⟨d, o, kvs, rfl, h, q⟩
/-- tuple(range(i, j)) -/
def rTupRg (i j : Int) (H : Hp) (Q : VK) : Prop := RgOk i j ∧ ∀ q, H q = none → Q (.ref q) (upd H q (.tup (rgV i j)))
theorem x_tTupRg {te : L2.St → Hp → (Int → Int → Hp → Prop) → Prop} {σ : L2.St} : tTupRg te σ H Q = te σ H fun i j H1 => rTupRg i j H1 Q := rfl
theorem x_tRg2 {ta tb : TE} {σ : L2.St} {R : Int → Int → Hp → Prop} : tRg2 ta tb σ H R = ta σ H fun x H1 => tb σ H1 fun y H2 => ∃ i j, x = .int i ∧ y = .int j ∧ R i j H2 := rfl
theorem x_tupRg {i j : Int} (h : RgOk i j) (q : ∀ t H', H t = none → Ex H H' → H' t = some (.tup (rgV i j)) → Q (.ref t) H') : rTupRg i j H Q := ⟨h, x_new q⟩
theorem x_sum {ns : List Int} (h : SqL K H a (ns.map V.int)) (q : Q (.int ns.sum) H) : rSum K [.ref a] H Q := ⟨a, ns, rfl, h, q⟩
theorem walk_zipT (hn : xs.length = ys.length) : Walk (RZ.ItzT K a b) xs.length (fun H => SqT K H a xs ∧ SqT K H b ys) (YPair (fun i => xs[i]?) (fun i => ys[i]?)) := by
  refine ⟨fun i _ hi q => ?_, fun _ q => ⟨xs, ys, q.1, q.2, by omega⟩, fun i H v H' _ q y => ?_⟩
  · have h2 : i < ys.length := by omega
    exact ⟨xs, ys, xs[i], ys[i], q.1, q.2, by simp [hi], by simp [h2]⟩
  · obtain ⟨T, x, z, h1, h2, h3, h4, h5⟩ := y
    exact ⟨T, x, z, h1, h2, h3, h4 xs q.1, h5 ys q.2⟩
def rZip (K : PySem.W.Frag) (vs : List V) (H : Hp) (R : It → Hp → Prop) : Prop := ∃ a b xs ys, vs = [.ref a, .ref b] ∧ ((SqL K H a xs ∧ SqL K H b ys ∧ R (Itz K a b) H) ∨ (SqT K H a xs ∧ SqT K H b ys ∧ R (RZ.ItzT K a b) H))
theorem x_iZip {ta : TA} {σ : L2.St} {R : It → Hp → Prop} : RZ.iZipA K ta σ H R = ta σ H fun vs H1 => rZip K vs H1 R := rfl
theorem x_zipT {R : It → Hp → Prop} (h1 : SqT K H a xs) (h2 : SqT K H b ys) (q : R (RZ.ItzT K a b) H) : rZip K [.ref a, .ref b] H R := ⟨a, b, xs, ys, rfl, .inr ⟨h1, h2, q⟩⟩
end
end FB
set_option Elab.async false
set_option linter.all false
set_option maxRecDepth 100000
set_option maxHeartbeats 4000000
/-! The seats of a network's first stations, and who feeds a place. -/
namespace FB
open PySem PySem.Spec PyProof.Rows L2 Evl
/-- a seat: its station, and where it leads -/
abbrev Seats := List (Nat × Key)
def stSeats (k : Nat) (s : List Key) : Seats := s.map fun p => (k, p)
/-- the seats of the first k stations -/
def seatsOf (N : Net) : Nat → Seats
  | 0 => []
  | k + 1 => seatsOf N k ++ stSeats k (N.getD k [])
/-- what f gives for the seats that lead to q -/
def toQ (f : Nat → Int) (q : Key) : Seats → Int
  | [] => 0
  | (i, p) :: r => (if p = q then f i else 0) + toQ f q r
theorem toQ_append {f : Nat → Int} {q : Key} : ∀ {a b : Seats}, toQ f q (a ++ b) = toQ f q a + toQ f q b
  | [], b => by simp [toQ]
  | (i, p) :: r, b => by
    show (if p = q then f i else 0) + toQ f q (r ++ b) = (if p = q then f i else 0) + toQ f q r + toQ f q b
    rw [toQ_append]; omega
theorem toQ_nil {f : Nat → Int} {q : Key} : ∀ {a : Seats}, (∀ s ∈ a, s.2 ≠ q) → toQ f q a = 0
  | [], _ => rfl
  | (i, p) :: r, h => by
    show (if p = q then f i else 0) + toQ f q r = 0
    rw [if_neg (h (i, p) (List.mem_cons_self ..)), toQ_nil fun s hs => h s (List.mem_cons_of_mem _ hs)]
    rfl
theorem toQ_congr {f g : Nat → Int} {q : Key} : ∀ {a : Seats}, (∀ s ∈ a, s.2 = q → f s.1 = g s.1) → toQ f q a = toQ g q a
  | [], _ => rfl
  | (i, p) :: r, h => by
    show (if p = q then f i else 0) + toQ f q r = (if p = q then g i else 0) + toQ g q r
    rw [toQ_congr fun s hs => h s (List.mem_cons_of_mem _ hs)]
    by_cases e : p = q
    · rw [if_pos e, if_pos e, h (i, p) (List.mem_cons_self ..) e]
    · rw [if_neg e, if_neg e]
theorem toQ_nn {f : Nat → Int} {q : Key} : ∀ {a : Seats}, (∀ s ∈ a, 0 ≤ f s.1) → 0 ≤ toQ f q a
  | [], _ => by simp [toQ]
  | (i, p) :: r, h => by
    show 0 ≤ (if p = q then f i else 0) + toQ f q r
    have h1 : 0 ≤ f i := h (i, p) (List.mem_cons_self ..)
    have h2 := toQ_nn (q := q) fun s hs => h s (List.mem_cons_of_mem _ hs)
    split <;> omega
theorem mem_seatsOf {N : Net} {i : Nat} {q : Key} : ∀ {k : Nat}, (i, q) ∈ seatsOf N k ↔ i < k ∧ q ∈ N.getD i []
  | 0 => by simp [seatsOf]
  | k + 1 => by
    show (i, q) ∈ seatsOf N k ++ stSeats k (N.getD k []) ↔ _
    rw [List.mem_append, mem_seatsOf]
    have e : (i, q) ∈ stSeats k (N.getD k []) ↔ i = k ∧ q ∈ N.getD k [] := by
      unfold stSeats
      rw [List.mem_map]
      constructor
      · rintro ⟨p, hp, e⟩
        cases e
        exact ⟨rfl, hp⟩
      · rintro ⟨rfl, h⟩
        exact ⟨q, h, rfl⟩
    rw [e]
    constructor
    · rintro (⟨h1, h2⟩ | ⟨rfl, h2⟩)
      · exact ⟨by omega, h2⟩
      · exact ⟨by omega, h2⟩
    · rintro ⟨h1, h2⟩
      by_cases z : i = k
      · subst z; exact .inr ⟨rfl, h2⟩
      · exact .inl ⟨by omega, h2⟩
theorem seatsOf_len {N : Net} (h : ∀ s ∈ N, s.length ≤ 8) : ∀ k, (seatsOf N k).length ≤ 8 * k
  | 0 => by simp [seatsOf]
  | k + 1 => by
    show (seatsOf N k ++ stSeats k (N.getD k [])).length ≤ _
    rw [List.length_append]
    have h1 := seatsOf_len h k
    have h2 : (stSeats k (N.getD k [])).length ≤ 8 := by
      unfold stSeats
      rw [List.length_map, List.getD_eq_getElem?_getD]
      cases e : N[k]? with
      | none => simp
      | some s => exact h s (List.mem_of_getElem? e)
    omega
/-! ### a place's feeders -/
abbrev Cnt := List (Nat × Int)
def cntV (G : Cnt) : List (Key × V) := G.map fun g => (.inl (g.1 : Int), .int g.2)
def cntQ (f : Nat → Int) : Cnt → Int
  | [] => 0
  | (i, c) :: r => c * f i + cntQ f r
def getC (i : Nat) : Cnt → Int
  | [] => 0
  | (j, c) :: r => if j = i then c else getC i r
def bump (i : Nat) : Cnt → Cnt
  | [] => [(i, 1)]
  | (j, c) :: r => if j = i then (j, c + 1) :: r else (j, c) :: bump i r
theorem cntQ_bump {f : Nat → Int} {i : Nat} : ∀ {G : Cnt}, cntQ f (bump i G) = cntQ f G + f i
  | [] => by simp [bump, cntQ]
  | (j, c) :: r => by
    unfold bump
    by_cases e : j = i
    · rw [if_pos e]
      show (c + 1) * f j + cntQ f r = c * f j + cntQ f r + f i
      rw [e, Int.add_mul]; omega
    · rw [if_neg e]
      show c * f j + cntQ f (bump i r) = c * f j + cntQ f r + f i
      rw [cntQ_bump]; omega
theorem val_cntV {i : Nat} : ∀ {G : Cnt}, (valV (cntV G) (.inl (i : Int))).getD (.int 0) = .int (getC i G)
  | [] => rfl
  | (j, c) :: r => by
    show (valV ((.inl (j : Int), .int c) :: cntV r) (.inl (i : Int))).getD (.int 0) = .int (if j = i then c else getC i r)
    by_cases e : j = i
    · subst e
      rw [if_pos rfl, valV_pos rfl]; rfl
    · rw [if_neg e, valV_neg (by show ¬ (Sum.inl (j : Int) : Key) = Sum.inl (i : Int); intro z; exact e (by have := Sum.inl.inj z; omega)), val_cntV]
theorem any_cntV {i : Nat} : ∀ {G : Cnt}, ((cntV G).any fun kv => decide (kv.1 = (.inl (i : Int) : Key))) = true ↔ i ∈ G.map (·.1)
  | [] => by simp [cntV]
  | (j, c) :: r => by
    show (decide ((Sum.inl (j : Int) : Key) = Sum.inl (i : Int)) || (cntV r).any fun kv => decide (kv.1 = (.inl (i : Int) : Key))) = true ↔ i ∈ j :: r.map (·.1)
    rw [Bool.or_eq_true, any_cntV, List.mem_cons, decide_eq_true_eq]
    constructor
    · rintro (h | h)
      · exact .inl (by have := Sum.inl.inj h; omega)
      · exact .inr h
    · rintro (h | h)
      · exact .inl (by rw [h])
      · exact .inr h
theorem getC_not {i : Nat} : ∀ {G : Cnt}, ¬ i ∈ G.map (·.1) → getC i G = 0
  | [], _ => rfl
  | (j, c) :: r, h => by
    rw [List.map_cons, List.mem_cons, not_or] at h
    show (if j = i then c else getC i r) = 0
    rw [if_neg (fun z => h.1 z.symm), getC_not h.2]
theorem bump_not {i : Nat} : ∀ {G : Cnt}, ¬ i ∈ G.map (·.1) → bump i G = G ++ [(i, 1)]
  | [], _ => rfl
  | (j, c) :: r, h => by
    rw [List.map_cons, List.mem_cons, not_or] at h
    show (if j = i then _ else _) = _
    rw [if_neg (fun z => h.1 z.symm), bump_not h.2]; rfl
theorem map_not {i : Nat} {y : V} : ∀ {G : Cnt}, ¬ i ∈ G.map (·.1) → (cntV G).map (fun kv => if kv.1 = (.inl (i : Int) : Key) then (kv.1, y) else kv) = cntV G
  | [], _ => rfl
  | (j, c) :: r, h => by
    rw [List.map_cons, List.mem_cons, not_or] at h
    show (if (Sum.inl (j : Int) : Key) = Sum.inl (i : Int) then _ else _) :: (cntV r).map _ = _ :: cntV r
    rw [if_neg (fun z => h.1 (by have := Sum.inl.inj z; omega)), map_not h.2]
theorem put_cntV {i : Nat} : ∀ {G : Cnt}, (G.map (·.1)).Nodup → putK (cntV G) (.inl (i : Int)) (.int (getC i G + 1)) = cntV (bump i G)
  | G, nd => by
    unfold putK
    by_cases h : i ∈ G.map (·.1)
    · rw [if_pos (any_cntV.mpr h)]
      induction G with
      | nil => simp at h
      | cons g r ih =>
        obtain ⟨j, c⟩ := g
        rw [List.map_cons, List.nodup_cons] at nd
        by_cases e : j = i
        · subst e
          show (if (Sum.inl (j : Int) : Key) = Sum.inl (j : Int) then ((Sum.inl (j : Int) : Key), V.int (getC j ((j, c) :: r) + 1)) else _) :: (cntV r).map _ = cntV (if j = j then _ else _)
          rw [if_pos rfl, if_pos rfl, map_not nd.1]
          show (_, V.int ((if j = j then c else getC j r) + 1)) :: _ = _
          rw [if_pos rfl]; rfl
        · rw [List.map_cons, List.mem_cons] at h
          have hr : i ∈ r.map (·.1) := h.resolve_left fun z => e z.symm
          show (if (Sum.inl (j : Int) : Key) = Sum.inl (i : Int) then _ else ((Sum.inl (j : Int) : Key), V.int c)) :: (cntV r).map (fun kv => if kv.1 = (.inl (i : Int) : Key) then (kv.1, V.int ((if j = i then c else getC i r) + 1)) else kv) = cntV (if j = i then _ else _)
          rw [if_neg (fun z => e (by have := Sum.inl.inj z; omega)), if_neg e, if_neg e, ih nd.2 hr]; rfl
    · rw [if_neg (fun z => h (any_cntV.mp z)), bump_not h, getC_not h]
      simp [cntV]
theorem bump_keys {i j : Nat} : ∀ {G : Cnt}, j ∈ (bump i G).map (·.1) ↔ j = i ∨ j ∈ G.map (·.1)
  | [] => by simp [bump]
  | (l, c) :: r => by
    unfold bump
    by_cases e : l = i
    · subst e
      rw [if_pos rfl]
      simp
    · rw [if_neg e, List.map_cons, List.mem_cons, bump_keys, List.map_cons, List.mem_cons]
      constructor
      · rintro (h | h | h)
        · exact .inr (.inl h)
        · exact .inl h
        · exact .inr (.inr h)
      · rintro (h | h | h)
        · exact .inr (.inl h)
        · exact .inl h
        · exact .inr (.inr h)
theorem bump_nd {i : Nat} : ∀ {G : Cnt}, (G.map (·.1)).Nodup → ((bump i G).map (·.1)).Nodup
  | [], _ => by simp [bump]
  | (l, c) :: r, nd => by
    rw [List.map_cons, List.nodup_cons] at nd
    unfold bump
    by_cases e : l = i
    · rw [if_pos e, List.map_cons, List.nodup_cons]
      exact nd
    · rw [if_neg e, List.map_cons, List.nodup_cons]
      refine ⟨fun z => ?_, bump_nd nd.2⟩
      rcases bump_keys.mp z with h | h
      · exact e h
      · exact nd.1 h
theorem bump_le {i : Nat} {b : Int} : ∀ {G : Cnt}, (∀ g ∈ G, 0 < g.2 ∧ g.2 ≤ b) → 0 ≤ b → ∀ g ∈ bump i G, 0 < g.2 ∧ g.2 ≤ b + 1
  | [], _, h0, g, hg => by
    have e : g = (i, 1) := by simpa [bump] using hg
    rw [e]; exact ⟨by show (0 : Int) < 1; decide, by show (1 : Int) ≤ b + 1; omega⟩
  | (l, c) :: r, h, h0, g, hg => by
    have hr : ∀ g ∈ r, 0 < g.2 ∧ g.2 ≤ b := fun g hg => h g (List.mem_cons_of_mem _ hg)
    have hc := h (l, c) (List.mem_cons_self ..)
    unfold bump at hg
    by_cases e : l = i
    · rw [if_pos e] at hg
      rcases List.mem_cons.mp hg with rfl | hg
      · exact ⟨by show 0 < c + 1; have := hc.1; omega, by show c + 1 ≤ b + 1; have := hc.2; omega⟩
      · have := hr g hg; exact ⟨this.1, by omega⟩
    · rw [if_neg e] at hg
      rcases List.mem_cons.mp hg with rfl | hg
      · exact ⟨hc.1, by have := hc.2; omega⟩
      · exact bump_le hr h0 g hg
theorem bump_len {i : Nat} : ∀ {G : Cnt}, (bump i G).length ≤ G.length + 1
  | [] => by simp [bump]
  | (l, c) :: r => by
    unfold bump
    by_cases e : l = i
    · rw [if_pos e]; simp
    · rw [if_neg e]
      have := @bump_len i r
      simp; omega
/-! ### dicts as functions -/
theorem putK_keys {kvs : List (Key × V)} {k : Key} {v : V} (nd : (kvs.map (·.1)).Nodup) : ((putK kvs k v).map (·.1)).Nodup := by
  unfold putK
  by_cases h : (kvs.any fun kv => decide (kv.1 = k)) = true
  · rw [if_pos h, List.map_map]
    have e : kvs.map ((·.1) ∘ fun kv => if kv.1 = k then (kv.1, v) else kv) = kvs.map (·.1) := List.map_congr_left fun a _ => by
      show (if a.1 = k then (a.1, v) else a).1 = a.1
      split <;> rfl
    rw [e]; exact nd
  · rw [if_neg h, List.map_append]
    refine nd_snoc nd fun z => h ?_
    obtain ⟨p, hp, e⟩ := List.mem_map.mp z
    exact List.any_eq_true.mpr ⟨p, hp, decide_eq_true e⟩
theorem val_of_mem : ∀ {kvs : List (Key × V)} {k : Key} {v : V}, (kvs.map (·.1)).Nodup → (k, v) ∈ kvs → valV kvs k = some v
  | p :: r, k, v, nd, h => by
    rw [List.map_cons, List.nodup_cons] at nd
    rcases List.mem_cons.mp h with e | h
    · rw [← e, valV_pos rfl]
    · rw [valV_neg (fun z => nd.1 (by rw [z]; exact List.mem_map.mpr ⟨_, h, rfl⟩)), val_of_mem nd.2 h]
theorem sq_but {K : PySem.W.Frag} {H H1 : Hp} {b d : Addr} {xs : List V} {kvs : List (Key × V)} (h : SqL K H b xs) (hd : H d = some (.dK kvs)) (e : ∀ x o, x ≠ d → H x = some o → H1 x = some o) : SqL K H1 b xs := by
  rcases h with (h | ⟨o, h⟩) | h
  · exact .inl (.inl (e _ _ (ne_of h hd (fun z => by cases z)) h))
  · exact .inl (.inr ⟨o, e _ _ (ne_of h hd (fun z => by cases z)) h⟩)
  · exact .inr h
theorem mem_of_val : ∀ {kvs : List (Key × V)} {k : Key} {v : V}, valV kvs k = some v → (k, v) ∈ kvs
  | [], k, v, h => by cases h
  | p :: r, k, v, h => by
    by_cases e : p.1 = k
    · rw [valV_pos e] at h
      rw [← Option.some.inj h, ← e]; exact List.mem_cons_self ..
    · rw [valV_neg e] at h
      exact List.mem_cons_of_mem _ (mem_of_val h)
/-- the dict at D with the feeders of all places, n stations given and the seats of L counted; H0: ahead of it all -/
structure Feed (H0 H : Hp) (D : Addr) (n : Nat) (L : Seats) (A : Key → Option Addr) (G : Key → Cnt) (kvs : List (Key × V)) : Prop where
  nd : (kvs.map (·.1)).Nodup
  val : ∀ q, valV kvs q = (A q).map V.ref
  inj : ∀ q q' a, A q = some a → A q' = some a → q = q'
  ne : ∀ q a, A q = some a → a ≠ D
  inn : ∀ q a, A q = some a → H a = some (.dK (cntV (G q)))
  new : ∀ q a, A q = some a → H0 a = none
  newD : H0 D = none
  keys : ∀ q, (A q).isSome = true ↔ (∃ i : Nat, i < n ∧ q = .inl (i : Int)) ∨ ∃ i, (i, q) ∈ L
  sum : ∀ q f, cntQ f (G q) = toQ f q L
  mem : ∀ q g, g ∈ G q → (g.1, q) ∈ L
  le : ∀ q, ∀ g ∈ G q, 0 < g.2 ∧ g.2 ≤ (L.length : Int)
  ndG : ∀ q, ((G q).map (·.1)).Nodup
  len : kvs.length ≤ n + L.length
  lenG : ∀ q, (G q).length ≤ L.length
  ex : Ex H0 H
section
variable {H0 H H2 : Hp} {D z : Addr} {n i : Nat} {L : Seats} {A : Key → Option Addr} {G : Key → Cnt} {kvs : List (Key × V)} {p : Key}
theorem Feed.empty (F : Feed H0 H D n L A G kvs) (h : A p = none) : G p = [] := by
  cases e : G p with
  | nil => rfl
  | cons g r =>
    have := (F.keys p).mpr (.inr ⟨g.1, F.mem p g (by rw [e]; exact List.mem_cons_self ..)⟩)
    rw [h] at this; cases this
/-- the heap may grow and change elsewhere -/
theorem Feed.but (F : Feed H0 H D n L A G kvs) (e : ∀ x o, H0 x = some o → H2 x = some o) (k : ∀ q a, A q = some a → H2 a = H a) : Feed H0 H2 D n L A G kvs :=
  { F with inn := fun q a h => by rw [k q a h]; exact F.inn q a h, ex := e }
theorem Feed.ex2 (F : Feed H0 H D n L A G kvs) (e : Ex H H2) : Feed H0 H2 D n L A G kvs :=
  { F with inn := fun q a h => e _ _ (F.inn q a h), ex := F.ex.trans e }
/-- one station more in the dict, nobody leads there yet -/
theorem Feed.key (F : Feed H0 H D i [] A G kvs) (hz : H0 z = none) (hzD : z ≠ D) (hzA : ∀ q a, A q = some a → a ≠ z) (h2 : ∀ x o, x ≠ D → H x = some o → H2 x = some o) (h3 : H2 z = some (.dK [])) :
    Feed H0 H2 D (i + 1) [] (fun q => if q = .inl (i : Int) then some z else A q) G (putK kvs (.inl (i : Int)) (.ref z)) where
  nd := putK_keys F.nd
  val := fun q => by
    rw [valV_put, F.val]
    by_cases e : q = .inl (i : Int)
    · rw [if_pos e, if_pos e]; rfl
    · rw [if_neg e, if_neg e]
  inj := fun q q' a h h' => by
    by_cases e : q = .inl (i : Int)
    · rw [if_pos e] at h
      by_cases e' : q' = .inl (i : Int)
      · rw [e, e']
      · rw [if_neg e'] at h'
        exact absurd (Option.some.inj h).symm (hzA _ _ h')
    · rw [if_neg e] at h
      by_cases e' : q' = .inl (i : Int)
      · rw [if_pos e'] at h'
        exact absurd (Option.some.inj h').symm (hzA _ _ h)
      · rw [if_neg e'] at h'
        exact F.inj q q' a h h'
  ne := fun q a h => by
    by_cases e : q = .inl (i : Int)
    · rw [if_pos e] at h; rw [← Option.some.inj h]; exact hzD
    · rw [if_neg e] at h; exact F.ne q a h
  inn := fun q a h => by
    by_cases e : q = .inl (i : Int)
    · rw [if_pos e] at h; rw [← Option.some.inj h, h3]
      have : G q = [] := by
        cases e2 : G q with
        | nil => rfl
        | cons g r =>
          have := F.mem q g (by rw [e2]; exact List.mem_cons_self ..)
          simp at this
      rw [this]; rfl
    · rw [if_neg e] at h; exact h2 _ _ (F.ne q a h) (F.inn q a h)
  new := fun q a h => by
    by_cases e : q = .inl (i : Int)
    · rw [if_pos e] at h; rw [← Option.some.inj h]; exact hz
    · rw [if_neg e] at h; exact F.new q a h
  newD := F.newD
  keys := fun q => by
    by_cases e : q = .inl (i : Int)
    · rw [if_pos e]
      exact ⟨fun _ => .inl ⟨i, by omega, e⟩, fun _ => rfl⟩
    · rw [if_neg e, F.keys q]
      constructor
      · rintro (⟨j, hj, h⟩ | h)
        · exact .inl ⟨j, by omega, h⟩
        · exact .inr h
      · rintro (⟨j, hj, h⟩ | h)
        · by_cases z : j = i
          · rw [z] at h; exact absurd h e
          · exact .inl ⟨j, by omega, h⟩
        · exact .inr h
  sum := F.sum
  mem := F.mem
  le := F.le
  ndG := F.ndG
  len := by
    have := length_putK kvs (.inl (i : Int)) (.ref z)
    have := F.len
    simp at *
    omega
  lenG := F.lenG
  ex := fun x o h => h2 x o (ne_of_none h F.newD) (F.ex x o h)
theorem Feed.start (h : H0 D = none) (e : Ex H0 H) : Feed H0 H D 0 [] (fun _ => none) (fun _ => []) [] where
  nd := List.nodup_nil
  val := fun q => rfl
  inj := fun _ _ _ h => nomatch h
  ne := fun _ _ h => nomatch h
  inn := fun _ _ h => nomatch h
  new := fun _ _ h => nomatch h
  newD := h
  keys := fun q => by simp
  sum := fun q f => rfl
  mem := fun _ _ h => by simp at h
  le := fun _ _ h => by simp at h
  ndG := fun _ => List.nodup_nil
  len := by simp
  lenG := fun _ => by simp
  ex := e
/-- a seat more: z is its place's dict, old or new -/
theorem Feed.seat (F : Feed H0 H D n L A G kvs) (hz : A p = some z ∨ (A p = none ∧ H0 z = none ∧ z ≠ D ∧ ∀ q a, A q = some a → a ≠ z)) (h2 : ∀ x o, x ≠ D → x ≠ z → H x = some o → H2 x = some o) (h3 : H2 z = some (.dK (cntV (bump i (G p))))) :
    Feed H0 H2 D n (L ++ [(i, p)]) (fun q => if q = p then some z else A q) (fun q => if q = p then bump i (G p) else G q) (if A p = none then putK kvs p (.ref z) else kvs) := by
  have hzD : z ≠ D := by
    rcases hz with h | h
    · exact F.ne _ _ h
    · exact h.2.2.1
  have hz0 : H0 z = none := by
    rcases hz with h | h
    · exact F.new _ _ h
    · exact h.2.1
  have hzA : ∀ q a, q ≠ p → A q = some a → a ≠ z := fun q a hq h => by
    rcases hz with h' | h'
    · intro e; subst e; exact hq (F.inj _ _ _ h h')
    · exact h'.2.2.2 q a h
  have pos : 0 ≤ (L.length : Int) := by omega
  refine { nd := ?_, val := fun q => ?_, inj := fun q q' a h h' => ?_, ne := fun q a h => ?_, inn := fun q a h => ?_, new := fun q a h => ?_, newD := F.newD, keys := fun q => ?_, sum := fun q f => ?_, mem := fun q g hg => ?_, le := fun q g hg => ?_, ndG := fun q => ?_, len := ?_, lenG := fun q => ?_, ex := fun x o h => h2 x o (ne_of_none h F.newD) (ne_of_none h hz0) (F.ex x o h) }
  · split
    · exact putK_keys F.nd
    · exact F.nd
  · by_cases e : q = p
    · subst e
      rw [if_pos rfl]
      rcases hz with h | h
      · rw [if_neg (by rw [h]; simp), F.val, h]
      · rw [if_pos h.1, valV_put, if_pos rfl]; rfl
    · rw [if_neg e]
      split
      · rw [valV_put, if_neg e]; exact F.val q
      · exact F.val q
  · by_cases e : q = p
    · by_cases e' : q' = p
      · rw [e, e']
      · rw [if_pos e] at h
        rw [if_neg e'] at h'
        exact absurd (Option.some.inj h).symm (hzA _ _ e' h')
    · rw [if_neg e] at h
      by_cases e' : q' = p
      · rw [if_pos e'] at h'
        exact absurd (Option.some.inj h').symm (hzA _ _ e h)
      · rw [if_neg e'] at h'
        exact F.inj q q' a h h'
  · by_cases e : q = p
    · rw [if_pos e] at h; rw [← Option.some.inj h]; exact hzD
    · rw [if_neg e] at h; exact F.ne q a h
  · by_cases e : q = p
    · rw [if_pos e] at h; rw [← Option.some.inj h, if_pos e]; exact h3
    · rw [if_neg e] at h
      rw [if_neg e]
      exact h2 _ _ (F.ne q a h) (hzA q a e h) (F.inn q a h)
  · by_cases e : q = p
    · rw [if_pos e] at h; rw [← Option.some.inj h]; exact hz0
    · rw [if_neg e] at h; exact F.new q a h
  · by_cases e : q = p
    · rw [if_pos e]
      refine ⟨fun _ => .inr ⟨i, ?_⟩, fun _ => rfl⟩
      rw [e]; simp
    · rw [if_neg e, F.keys q]
      constructor
      · rintro (h | ⟨j, h⟩)
        · exact .inl h
        · exact .inr ⟨j, List.mem_append_left _ h⟩
      · rintro (h | ⟨j, h⟩)
        · exact .inl h
        · rcases List.mem_append.mp h with h | h
          · exact .inr ⟨j, h⟩
          · have : (j, q) = (i, p) := by simpa using h
            exact absurd (Prod.mk.inj this).2 e
  · rw [toQ_append]
    show cntQ f (if q = p then bump i (G p) else G q) = toQ f q L + ((if p = q then f i else 0) + 0)
    by_cases e : q = p
    · subst e
      rw [if_pos rfl, if_pos rfl, cntQ_bump, F.sum]; omega
    · rw [if_neg e, if_neg (fun z => e z.symm), F.sum]; omega
  · by_cases e : q = p
    · rw [if_pos e] at hg
      have hk : g.1 ∈ (bump i (G p)).map (·.1) := List.mem_map.mpr ⟨g, hg, rfl⟩
      rcases bump_keys.mp hk with h | h
      · rw [h, e]; simp
      · obtain ⟨g', hg', e'⟩ := List.mem_map.mp h
        have := F.mem p g' hg'
        rw [e', ← e] at this
        exact List.mem_append_left _ this
    · rw [if_neg e] at hg
      exact List.mem_append_left _ (F.mem q g hg)
  · have hl : ((L ++ [(i, p)]).length : Int) = L.length + 1 := by simp
    rw [hl]
    by_cases e : q = p
    · rw [if_pos e] at hg
      exact bump_le (F.le p) pos g hg
    · rw [if_neg e] at hg
      have := F.le q g hg
      exact ⟨this.1, by omega⟩
  · by_cases e : q = p
    · rw [if_pos e]; exact bump_nd (F.ndG p)
    · rw [if_neg e]; exact F.ndG q
  · rw [List.length_append]
    have := F.len
    split
    · have := length_putK kvs p (.ref z)
      simp; omega
    · simp; omega
  · rw [List.length_append]
    have h1 := F.lenG q
    have h2 := F.lenG p
    have h3 := @bump_len i (G p)
    by_cases e : q = p
    · rw [if_pos e]; simp; omega
    · rw [if_neg e]; simp; omega
end
/-! ### states -/
def qD (q : List Int) : PyData := .tuple (q.map PyData.int)
def qsD (qs : List (List Int)) : PyData := .tuple (qs.map qD)
def stateD (p : Int) (qs : List (List Int)) : PyData := .tuple [.int p, qsD qs]
theorem qD_t (q : List Int) : TupD (qD q) := .tup fun d hd => by
  obtain ⟨k, _, rfl⟩ := List.mem_map.mp hd
  exact .int k
theorem qsD_t (qs : List (List Int)) : TupD (qsD qs) := .tup fun d hd => by
  obtain ⟨k, _, rfl⟩ := List.mem_map.mp hd
  exact qD_t k
theorem stateD_t (p : Int) (qs : List (List Int)) : TupD (stateD p qs) := .tup fun d hd => by
  simp only [List.mem_cons, List.not_mem_nil, or_false] at hd
  rcases hd with rfl | rfl
  · exact .int p
  · exact qsD_t qs
theorem ints_dp {K : PySem.W.Frag} {H : Hp} : ∀ q : List Int, DpAll K H (q.map V.int) (q.map PyData.int)
  | [] => .nil
  | i :: q => .cons (.int i) (ints_dp q)
theorem dp_ints {K : PySem.W.Frag} {H : Hp} : ∀ {q : List Int} {vs : List V}, DpAll K H vs (q.map PyData.int) → vs = q.map V.int
  | [], _, .nil => rfl
  | i :: q, _, .cons h hs => by rw [h.int_inv, dp_ints hs]; rfl
theorem q_at {K : PySem.W.Frag} {H : Hp} {v : V} {q : List Int} (h : Dp K H v (qD q)) : ∃ a, v = .ref a ∧ SqT K H a (q.map V.int) := by
  obtain ⟨a, xs, e, h1, h2⟩ := Dp.tup_inv h
  rw [dp_ints h2] at h1
  exact ⟨a, e, h1⟩
theorem qs_at {K : PySem.W.Frag} {H : Hp} {v : V} {qs : List (List Int)} (h : Dp K H v (qsD qs)) : ∃ a ts, v = .ref a ∧ SqT K H a ts ∧ DpAll K H ts (qs.map qD) := Dp.tup_inv h
theorem state_at {K : PySem.W.Frag} {H : Hp} {v : V} {p : Int} {qs : List (List Int)} (h : Dp K H v (stateD p qs)) : ∃ a u, v = .ref a ∧ SqT K H a [.int p, u] ∧ Dp K H u (qsD qs) := by
  obtain ⟨a, xs, e, h1, h2⟩ := Dp.tup_inv h
  cases h2 with
  | cons h hs =>
    cases hs with
    | cons h' hs =>
      cases hs
      rw [h.int_inv] at h1
      exact ⟨a, _, e, h1, h'⟩
/-- the queues of a network's stations -/
structure StOk (N : Net) (p : Int) (qs : List (List Int)) : Prop where
  pos : 1 ≤ p
  len : qs.length = N.length
  lt : ∀ (k : Nat) q s, qs[k]? = some q → N[k]? = some s → q.length < s.length
  nd : qs.flatten.Nodup
  rng : ∀ x ∈ qs.flatten, 1 ≤ x ∧ x < p
/-! ### sets -/
section
variable {K : PySem.W.Frag} {P : Program} {w : World} {H : Hp} {Q : VK} {p : Addr} {S : Key → Bool} {n : Nat} {k : Key}
theorem x_tSAddK {to : TE} {t : TA} {σ : L2.St} : tSAddK P w to t σ H Q = to σ H fun x H1 => (∃ a S n, x = V.ref a ∧ H1 a = some (SetK P w a S n)) ∧ t σ H1 fun xs H2 => rSAddK P w x xs H2 Q := rfl
theorem x_set0 (q : ∀ p H', H p = none → Ex H H' → H' p = some (SetK P w p (fun _ => false) 0) → Q (.ref p) H') : rSet0K P w [] H Q := ⟨rfl, fun p hp => q p _ hp (Ex.new hp) upd_same⟩
theorem x_inS (h : H p = some (SetK P w p S n)) (q : Q (.bl (S k)) H) : rInU K P w false (kV k) (.ref p) H Q := .inr ⟨k, p, S, n, rfl, rfl, h, q⟩
theorem x_sadd (h : H p = some (SetK P w p S n)) (hn : n ≤ 1000) (q : ∀ H' m, (∀ x o, x ≠ p → H x = some o → H' x = some o) → m ≤ n + 1 → H' p = some (SetK P w p (fun j => S j || decide (j = k)) m) → Q .non H') : rSAddK P w (.ref p) [kV k] H Q :=
  ⟨p, k, S, n, rfl, rfl, h, by have : (1002 : Nat) ≤ scanBound := by decide +kernel
                               omega, q _ _ (fun x o hx e => by rw [upd_ne hx]; exact e) (by split <;> omega) upd_same⟩
end
end FB
set_option Elab.async false
set_option linter.all false
set_option maxRecDepth 100000
set_option maxHeartbeats 4000000
/-! Sorted texts; flat data. -/
namespace FB
open PySem PySem.Spec PyProof.Rows L2 Evl
theorem str_ext {a b : Str} (h : a.cps.toList = b.cps.toList) : a = b := by
  cases a with
  | mk x =>
    cases b with
    | mk y =>
      have : x = y := by
        have h : x.toList = y.toList := h
        rw [← Array.toArray_toList (xs := x), ← Array.toArray_toList (xs := y), h]
      rw [this]
theorem rising_pw : ∀ {r : List Str} {p : Str}, risingS p r = true → (p :: r).Pairwise fun a b => a.cps.toList ≤ b.cps.toList
  | [], p, _ => by simp
  | x :: r, p, h => by
    have h : (!ltCps x.cps.toList p.cps.toList && risingS x r) = true := h
    rw [Bool.and_eq_true] at h
    have ih := rising_pw h.2
    have hx : p.cps.toList ≤ x.cps.toList := by
      have := h.1
      rw [PyProof.Rows.ltCps_eq] at this
      simpa using this
    rw [List.pairwise_cons]
    refine ⟨fun y hy => ?_, ih⟩
    rcases List.mem_cons.mp hy with rfl | hy
    · exact hx
    · exact List.le_trans hx ((List.pairwise_cons.mp ih).1 y hy)
theorem sorted_same {a b : List Str} (hp : a.Perm b) (ha : sortedS a = true) (hb : sortedS b = true) : a = b := by
  have pw : ∀ {l : List Str}, sortedS l = true → l.Pairwise fun a b => a.cps.toList ≤ b.cps.toList := fun {l} h => by
    cases l with
    | nil => exact List.Pairwise.nil
    | cons x r => exact rising_pw h
  exact List.Perm.eq_of_pairwise (fun x y _ _ h1 h2 => str_ext (List.le_antisymm h1 h2)) (pw ha) (pw hb) hp
theorem depthAll_le {m : Nat} : ∀ {ds : List PyData}, (∀ d ∈ ds, d.depth ≤ m) → PyData.depthAll ds ≤ m
  | [], _ => by simp [PyData.depthAll]
  | d :: r, h => by
    have h1 := h d (List.mem_cons_self ..)
    have h2 := depthAll_le fun d hd => h d (List.mem_cons_of_mem _ hd)
    simp [PyData.depthAll]
    omega
theorem layAll : ∀ {ds : List PyData}, (∀ d ∈ ds, d.canLay0 = true) → PyData.canLayAll0 ds = true
  | [], _ => by simp [PyData.canLayAll0]
  | d :: r, h => by
    simp [PyData.canLayAll0, h d (List.mem_cons_self ..), layAll fun d hd => h d (List.mem_cons_of_mem _ hd)]
theorem strs_dp {K : PySem.W.Frag} {H : Hp} : ∀ q : List Str, DpAll K H (q.map V.str) (q.map PyData.str)
  | [] => .nil
  | i :: q => .cons (.str i) (strs_dp q)
/-- sorted(d), the keys texts -/
def rSortD (vs : List V) (H : Hp) (Q : VK) : Prop := ∃ (a : Addr) (kvs : List (Key × V)) (ks : List Str), vs = [.ref a] ∧ Rd H a (.dK kvs) ∧ kvs.map (·.1) = ks.map Sum.inr ∧ ks.length < 64 ∧ ∀ ys p, ys.Perm ks → sortedS ys = true → H p = none → Q (.ref p) (upd H p (.lst (ys.map V.str)))
theorem call_sortD {X : Cx} (hc : X.calm = true) : CallR X (.builtin "sorted") rSortD := call_sortedD hc
section
variable {K : PySem.W.Frag} {H : Hp} {a b : Addr} {ka kb : List (Key × V)} {Q : VK}
theorem x_sortD {ks : List Str} (h : H a = some (.dK ka)) (hk : ka.map (·.1) = ks.map Sum.inr) (hl : ks.length < 64) (q : ∀ ys p H', ys.Perm ks → sortedS ys = true → H p = none → Ex H H' → H' p = some (.lst (ys.map V.str)) → Q (.ref p) H') : rSortD [.ref a] H Q :=
  ⟨a, ka, ks, rfl, .inl h, hk, hl, fun ys p h1 h2 h3 => q ys p _ h1 h2 h3 (Ex.new h3) upd_same⟩
theorem x_isDict (h : H a = some (.dK ka)) (q : Q (.bl true) H) : rIsiU K [.ref a, .ty "dict"] H Q := .inl ⟨_, _, .type "dict", .type "dict", true, rfl, .ty _, .base (.dK h), rfl, q⟩
theorem x_eqDA (h1 : H a = some (.dK ka)) (h2 : H b = some (.dK kb)) (hl : ka.length = kb.length) (hp : ∀ p ∈ ka, valV kb p.1 = some p.2 ∧ flatB p.2 = true) (q : Q (.bl true) H) : rEqDA (.ref a) (.ref b) H Q := ⟨a, b, ka, kb, rfl, rfl, h1, h2, hl, hp, q⟩
end
end FB
set_option Elab.async false
set_option linter.all false
set_option maxRecDepth 100000
set_option maxHeartbeats 4000000
namespace K
open PySem PySem.Spec PyProof.Rows L2 Evl FB
def top (i : Nat) : Stmt := PySem.Challenge.pw_fullboats_k08_whole_counts_of_large_netw.main.body.getD i (.Pass ⟨0, 0, 0, 0⟩)
/-- a def of the text as it stands behind the top -/
structure Df (K : PySem.W.Frag) (mg : Str → Option Value) (x : Str) (st : Stmt) (ps : List Str) (f : Addr) (fd : FuncData) : Prop where
  F : Fun K x x st f fd
  g : mg x = some (.ref f)
  b : Binds K fd ps []
structure Bt (mg : Str → Option Value) : Prop where
  b_range : mg "range" = none
  b_tuple : mg "tuple" = none
  b_min : mg "min" = none
  b_isinstance : mg "isinstance" = none
  b_str : mg "str" = none
  b_dict : mg "dict" = none
  b_bool : mg "bool" = none
  b_sorted : mg "sorted" = none
  b_set : mg "set" = none
  b_enumerate : mg "enumerate" = none
  b_all : mg "all" = none
  b_len : mg "len" = none
  b_list : mg "list" = none
  b_int : mg "int" = none
  b_max : mg "max" = none
  b_sum : mg "sum" = none
  b_zip : mg "zip" = none
  b_abs : mg "abs" = none
  b_reversed : mg "reversed" = none
  b_any : mg "any" = none
local macro_rules | `(tactic| walk_at "run") => `(tactic| try simp only [tSeq, tAsg, tVar, tC, gName, L2.start, List.map_cons, List.map_nil, List.cons_append, List.nil_append, List.length_cons, List.length_nil, List.replicate, List.getElem?_cons_zero, List.getElem?_cons_succ, Option.some.injEq, exists_eq_left', List.set_cons_zero, List.set_cons_succ, V.ref.injEq, tRet, x_tLst, x_tTup, tCons, tCB, tNil, tOp, x_addI, x_mulI, x_rI, x_rI0, x_ltI, x_leI, x_ltS, x_leS, x_eqI, x_neI, x_eqS, x_eqB, x_neB, x_isiI, x_isiS, x_int, x_max, x_min, cxOf, tIfS, tNext, tTest, V.bl.injEq, decide_eq_true_eq, gSub, tAnd, tOr, tNot, tB, tDrop, tBM, x_tFor, iRng1, iList, iTup, x_tLc, tYes, tCall, tIf, tAndV, tOrV, tNotV, tChain, List.append_nil, tUn, if_true, wipe, true_and, x_never, iU, x_itS])
abbrev s_l_mix : Stmt := top 28
theorem sc_l_mix : FnScope ["_law_script", "_law_seed", "_law_mixed", "_law_cell"] ["_law_script", "_law_seed"] (defScope s_l_mix) := ⟨rfl, rfl, rfl, by decide +kernel, rfl, by decide +kernel, by decide +kernel⟩
/-- the law's source of draws: its list at a, its cells at b -/
def Gen (H : Hp) (a b : Addr) : Prop := ∃ (m c : Int) (ns : List Int), H a = some (.lst [.int m, .ref b, .int c]) ∧ H b = some (.lst (ns.map V.int)) ∧ ns.length ≤ 63
section
variable {P : Program} {w : World} {K : PySem.W.Frag} {mg : Str → Option Value} {base : Heap}
def spMix (K : PySem.W.Frag) : Sp := fun vs H Q _ => ∃ (a : Addr) (ns : List Int) (z : Int), vs = [.ref a, .int z] ∧ SqL K H a (ns.map V.int) ∧ ns.length ≤ 63 ∧ ∀ (p b : Addr) (H' : Hp), Ex H H' → H p = none → H b = none → Gen H' p b → Q (.ref p) H'
theorem ok_l_mix {f : Addr} {fd : FuncData} (D : Df K mg "_law_mix" s_l_mix ["_law_script", "_law_seed"] f fd) (T : Bt mg) : FnOk P w K mg base CX0 1 f fd ["_law_script", "_law_seed"] (spMix K) := by
  refine D.F.ok sc_l_mix (fun vs H Q E h => ?_) (fun cdv A outer s H vs Q E hr h => ?_)
  · obtain ⟨a, ns, z, rfl, _⟩ := h
    rfl
  · obtain ⟨a, ns, z, rfl, hS, hl, k⟩ := h
    refine ⟨_, (pss_cons (ps_set (i := 2) sc_l_mix.nd rfl (Or.inl rfl) (pv 1))
      (pss_cons (ps_for PassesOwn.never rfl (pi_U (K := K) (pv 0)) (pg_name (i := 3) sc_l_mix.nd rfl (Or.inl rfl)) (pss_one (ps_set (i := 2) sc_l_mix.nd rfl (Or.inl rfl) (pe_op op_modN (pe_op (op_addU (K := K)) (pe_op (op_addU (K := K)) (pe_op (op_mulU (K := K)) (pv 2) pe_int) (pe_op op_modN (pv 3) pe_int)) pe_int) pe_int))))
      (pss_one (ps_ret (pe_lst (pa_cons (pv 2) (pa_cons (pe_callTy (call_listU (K := K)) (by rfl) T.b_list (by decide +kernel) (pa_cons (pv 0) pa_nil)) (pa_cons pe_int pa_nil)))))))), ?_⟩
    walk_at "run"
    refine x_itL hS (loop_it (walk_list (xs := ns.map V.int)) (fun i σ H' => ∃ (m : Int) (u : Option V), σ = [some (.ref a), some (.int z), some (.int m), u] ∧ H' = H) ⟨z, _, rfl, rfl⟩ (fun i σ H' _ ⟨_, _, _, e⟩ => e ▸ hS) ?_ ?_)
    · rintro i y σ H' _ _ ⟨m, u, rfl, rfl⟩ ⟨rfl, hi⟩
      obtain ⟨n, _, rfl⟩ : ∃ n, ns[i]? = some n ∧ V.int n = y := by simpa using hi
      walk_at "run"
      refine ⟨.inr (by decide), by decide, by decide, _, _, rfl, trivial⟩
    · rintro σ H' ⟨m, u, rfl, rfl⟩
      walk_at "run"
      refine x_listL hS fun l H1 nl e1 h1 => ?_
      walk_at "run"
      refine x_lst (by simp) fun p H2 np e2 h2 => ?_
      exact k p l _ (e1.trans e2) (fresh_back e1 np) nl ⟨m, 0, ns, h2, e2 _ _ h1, hl⟩

theorem ints_ne {ns : List Int} {m c : Int} {b : Addr} : ns.map V.int ≠ [.int m, .ref b, .int c] := by
  intro h
  match ns, h with
  | [], h => cases h
  | [_], h => cases h
  | _ :: _ :: _, h =>
    simp at h
theorem Gen.ne {H : Hp} {a b : Addr} (g : Gen H a b) : a ≠ b := by
  obtain ⟨m, c, ns, h1, h2, _⟩ := g
  exact ne_of h1 h2 (fun z => ints_ne (HO.lst.inj z).symm)
abbrev s_l_next : Stmt := top 29
theorem sc_l_next : FnScope ["_law_h", "_law_limit", "_law_cell"] ["_law_h", "_law_limit"] (defScope s_l_next) := ⟨rfl, rfl, rfl, by decide +kernel, rfl, by decide +kernel, by decide +kernel⟩
def spNext : Sp := fun vs H Q _ => ∃ (a b : Addr) (n : Int), vs = [.ref a, .int n] ∧ Gen H a b ∧ 0 < n ∧ n < 1073741824 ∧ ∀ (r : Int) (H' : Hp), 0 ≤ r → r < n → Gen H' a b → Ex2 a b H H' → Q (.int r) H'
theorem ok_l_next {f : Addr} {fd : FuncData} (D : Df K mg "_law_next" s_l_next ["_law_h", "_law_limit"] f fd) (T : Bt mg) : FnOk P w K mg base CX0 1 f fd ["_law_h", "_law_limit"] spNext := by
  refine D.F.ok sc_l_next (fun vs H Q E h => ?_) (fun cdv A outer s H vs Q E hr h => ?_)
  · obtain ⟨a, b, n, rfl, _⟩ := h
    rfl
  · obtain ⟨a, b, n, rfl, ⟨m, c, ns, hA, hB, hl⟩, h0, h1, k⟩ := h
    refine ⟨_, (pss_cons (ps_set (i := 2) sc_l_next.nd rfl (Or.inl rfl) (pe_ix (ix_U (K := K)) (pe_op (op_addU (K := K)) (pe_ix (ix_U (K := K)) (pv 0) pe_int (fun _ _ => rfl)) (pe_lst (pa_cons pe_int pa_nil))) (pe_op op_modN (pe_callTy call_intU (by rfl) T.b_int (by decide +kernel) (pa_cons (pe_ix (ix_U (K := K)) (pv 0) pe_int (fun _ _ => rfl)) pa_nil)) (pe_callB (call_maxU rfl) (by rfl) T.b_max (by decide +kernel) (pa_cons pe_int (pa_cons (pe_callB (call_lenU (K := K)) (by rfl) T.b_len (by decide +kernel) (pa_cons (pe_ix (ix_U (K := K)) (pv 0) pe_int (fun _ _ => rfl)) pa_nil)) pa_nil)))) (fun _ _ => rfl)))
      (pss_cons (ps_if (pt_cmpR (op_geU) (pv 2) (pe_op op_pow pe_int pe_int) (nomark _)) (pss_cons (ps_asg (pe_op op_fdivN (pv 2) (pv 1)) (pg_sub (pe_ix (ix_U (K := K)) (pv 0) pe_int (fun _ _ => rfl)) (pe_op op_modN (pe_callTy call_intU (by rfl) T.b_int (by decide +kernel) (pa_cons (pe_ix (ix_U (K := K)) (pv 0) pe_int (fun _ _ => rfl)) pa_nil)) (pe_callB (call_lenU (K := K)) (by rfl) T.b_len (by decide +kernel) (pa_cons (pe_ix (ix_U (K := K)) (pv 0) pe_int (fun _ _ => rfl)) pa_nil))) set_list))
      (pss_one (ps_ret (pe_op op_modN (pe_callTy call_intU (by rfl) T.b_int (by decide +kernel) (pa_cons (pv 2) pa_nil)) (pv 1))))) pss_nil)
      (pss_cons (ps_asg (pe_op op_modN (pe_op (op_addU (K := K)) (pe_op (op_addU (K := K)) (pe_op (op_mulU (K := K)) (pe_ix (ix_U (K := K)) (pv 0) pe_int (fun _ _ => rfl)) pe_int) (pe_op (op_mulU (K := K)) (pv 2) pe_int)) pe_int) pe_int) (pg_sub (pv 0) pe_int set_list))
      (pss_cons (ps_asg (pe_op (op_addU (K := K)) (pe_ix (ix_U (K := K)) (pv 0) pe_int (fun _ _ => rfl)) pe_int) (pg_sub (pv 0) pe_int set_list))
      (pss_one (ps_ret (pe_op op_modN (pe_op op_fdivN (pe_ix (ix_U (K := K)) (pv 0) pe_int (fun _ _ => rfl)) pe_int) (pv 1)))))))), ?_⟩
    walk_at "run"
    refine x_ixL (SqL.of hA) rfl ?_
    refine x_lst (by simp) fun p H1 np e1 hp => ?_
    refine x_cat (e1 _ _ hB) hp (by simp; omega) fun l H2 nl e2 hL => ?_
    have hA2 := e2 _ _ (e1 _ _ hA)
    have hB2 := e2 _ _ (e1 _ _ hB)
    refine x_ixL (SqL.of hA2) rfl ?_
    walk_at "run"
    refine x_ixL (SqL.of hA2) rfl ?_
    refine x_lenL (SqL.of hB2) ?_
    walk_at "run"
    have hn : (List.map V.int ns).length = ns.length := List.length_map ..
    rw [hn]
    refine ⟨by split <;> omega, ?_⟩
    generalize hd : (if (ns.length : Int) > 1 then (ns.length : Int) else 1) = d
    have d0 : 0 < d := by rw [← hd]; split <;> omega
    have d1 : d ≤ ns.length ∨ (ns = [] ∧ d = 1) := by
      rw [← hd]
      split
      · exact .inl (Int.le_refl _)
      · by_cases z : ns = []
        · exact .inr ⟨z, rfl⟩
        · have := List.length_pos_iff.mpr z
          exact .inl (by omega)
    have k0 : 0 ≤ c.fmod d := Int.fmod_nonneg_of_pos _ d0
    have k1 : c.fmod d < d := Int.fmod_lt_of_pos _ d0
    obtain ⟨cell, hc, hc0⟩ : ∃ cell : Int, (List.map V.int ns ++ [V.int 0])[(c.fmod d).toNat]? = some (V.int cell) ∧ (cell ≠ 0 → ns ≠ []) := by
      rcases d1 with h | ⟨h, h'⟩
      · have hk : (c.fmod d).toNat < ns.length := by omega
        refine ⟨ns[(c.fmod d).toNat], ?_, fun _ z => by subst z; simp at hk⟩
        rw [List.getElem?_append_left (by simpa using hk)]
        simp [hk]
      · subst h
        subst h'
        have z : c.fmod 1 = 0 := by omega
        rw [z]
        exact ⟨0, rfl, fun z => (z rfl).elim⟩
    refine x_ixL (SqL.of hL) (atI_in k0 hc) ?_
    walk_at "run"
    refine ⟨⟨by decide, by decide, by decide⟩, ?_⟩
    split
    · rename_i hge
      have hge : (10 : Int) ^ Int.toNat 18 ≤ cell := hge
      have hne : ns ≠ [] := hc0 (by intro z; rw [z] at hge; exact absurd hge (by decide))
      have hp' := List.length_pos_iff.mpr hne
      refine ⟨⟨by omega, by omega⟩, ?_⟩
      refine x_ixL (SqL.of hA2) rfl ?_
      refine x_ixL (SqL.of hA2) rfl ?_
      walk_at "run"
      refine x_ixL (SqL.of hA2) rfl ?_
      refine x_lenL (SqL.of hB2) ?_
      walk_at "run"
      rw [hn]
      have q0 : 0 ≤ c.fmod ns.length := Int.fmod_nonneg_of_pos _ (by omega)
      have q1 : c.fmod ns.length < ns.length := Int.fmod_lt_of_pos _ (by omega)
      refine ⟨by omega, ?_⟩
      refine x_setL hB2 (ixN_in q0 (by simpa using q1)) fun H3 e3 hB3 => ?_
      walk_at "run"
      refine ⟨by omega, ?_⟩
      have nab : a ≠ b := Gen.ne ⟨m, c, ns, hA2, hB2, hl⟩
      refine k _ H3 (Int.fmod_nonneg_of_pos _ h0) (Int.fmod_lt_of_pos _ h0) ⟨m, c, ns.set (c.fmod ns.length).toNat (cell.fdiv n), e3 _ _ nab hA2, by rw [hB3, List.map_set], by simpa using hl⟩ fun x o h _ hb => e3 _ _ hb (e2 _ _ (e1 _ _ h))
    · refine x_ixL (SqL.of hA2) rfl ?_
      walk_at "run"
      refine ⟨.inr (by decide), .inr (by decide), by decide, ?_⟩
      refine x_setL hA2 rfl fun H3 e3 hA3 => ?_
      refine x_ixL (SqL.of hA3) rfl ?_
      walk_at "run"
      refine x_setL hA3 rfl fun H4 e4 hA4 => ?_
      refine x_ixL (SqL.of hA4) rfl ?_
      walk_at "run"
      refine ⟨⟨by decide, by decide⟩, by omega, ?_⟩
      have nab : b ≠ a := (Gen.ne ⟨m, c, ns, hA2, hB2, hl⟩).symm
      refine k _ H4 (Int.fmod_nonneg_of_pos _ h0) (Int.fmod_lt_of_pos _ h0) ⟨_, _, ns, hA4, e4 _ _ nab (e3 _ _ nab hB2), hl⟩ fun x o h ha _ => e4 _ _ ha (e3 _ _ ha (e2 _ _ (e1 _ _ h)))
end
end K
set_option Elab.async false
set_option linter.all false
set_option maxRecDepth 100000
set_option maxHeartbeats 4000000
namespace K
open PySem PySem.Spec PyProof.Rows L2 Evl FB
local macro_rules | `(tactic| walk_at "run") => `(tactic| try simp only [tSeq, tAsg, tVar, tC, gName, L2.start, List.map_cons, List.map_nil, List.cons_append, List.nil_append, List.length_cons, List.length_nil, List.replicate, List.getElem?_cons_zero, List.getElem?_cons_succ, Option.some.injEq, exists_eq_left', List.set_cons_zero, List.set_cons_succ, V.ref.injEq, tRet, x_tLst, x_tTup, tCons, tCB, tNil, tOp, x_addI, x_mulI, x_rI, x_rI0, x_ltI, x_leI, x_ltS, x_leS, x_eqI, x_neI, x_eqS, x_eqB, x_neB, x_isiI, x_isiS, x_int, x_max, x_min, cxOf, tIfS, tNext, tTest, V.bl.injEq, decide_eq_true_eq, gSub, tAnd, tOr, tNot, tB, tDrop, tBM, x_tFor, iRng1, iList, iTup, x_tLc, tYes, tCall, tIf, tAndV, tOrV, tNotV, tChain, List.append_nil, tUn, if_true, wipe, true_and, x_never, iU, x_itS])
theorem Gen.ex {H H' : Hp} {a b : Addr} (g : Gen H a b) (e : Ex H H') : Gen H' a b := by
  obtain ⟨m, c, ns, h1, h2, h3⟩ := g
  exact ⟨m, c, ns, e _ _ h1, e _ _ h2, h3⟩
theorem Gen.na {H : Hp} {a b p : Addr} (g : Gen H a b) (h : H p = none) : p ≠ a := by
  obtain ⟨m, c, ns, h1, h2, h3⟩ := g
  exact (ne_of_none h1 h).symm
theorem Gen.nb {H : Hp} {a b p : Addr} (g : Gen H a b) (h : H p = none) : p ≠ b := by
  obtain ⟨m, c, ns, h1, h2, h3⟩ := g
  exact (ne_of_none h2 h).symm
theorem Gen.tx {H H' : Hp} {a b : Addr} (g : Gen H a b) (e : Ex2 a b H H') : TX H H' := by
  obtain ⟨m, c, ns, h1, h2, h3⟩ := g
  exact TX.two h1 h2 e
theorem Gen.but {H H' : Hp} {a b p : Addr} (g : Gen H a b) (ha : p ≠ a) (hb : p ≠ b) (e : ∀ x o, x ≠ p → H x = some o → H' x = some o) : Gen H' a b := by
  obtain ⟨m, c, ns, h1, h2, h3⟩ := g
  exact ⟨m, c, ns, e _ _ ha.symm h1, e _ _ hb.symm h2, h3⟩
theorem x_next {H : Hp} {a b : Addr} {n : Int} {Q : VK} {E : XK} (g : Gen H a b) (h0 : 0 < n) (h1 : n < 1073741824) (k : ∀ r H', 0 ≤ r → r < n → Gen H' a b → Ex2 a b H H' → Q (.int r) H') : spNext [.ref a, .int n] H Q E :=
  ⟨a, b, n, rfl, g, h0, h1, k⟩
def W4 : List Str := ["a", "b", "west", "abcdefgh"]
/-- a place that is drawn for a seat of the station st of n -/
def PlOk (st n : Int) : Key → Prop
  | .inl j => st < j ∧ j < n
  | .inr z => z ∈ W4
abbrev s_l_place : Stmt := top 31
theorem sc_l_place : FnScope ["_law_h", "_law_station", "_law_count", "_law_far"] ["_law_h", "_law_station", "_law_count"] (defScope s_l_place) := ⟨rfl, rfl, rfl, by decide +kernel, rfl, by decide +kernel, by decide +kernel⟩
/-- a network that is drawn -/
structure Drawn (N : Net) (most : Int) : Prop where
  pos : 1 ≤ N.length
  le : (N.length : Int) ≤ most
  st : ∀ (k : Nat) s, N[k]? = some s → 1 ≤ s.length ∧ s.length ≤ 8 ∧ ∀ p ∈ s, PlOk k N.length p
section
variable {P : Program} {w : World} {K : PySem.W.Frag} {mg : Str → Option Value} {base : Heap}
def spPlace : Sp := fun vs H Q _ => ∃ (a b : Addr) (st n : Int), vs = [.ref a, .int st, .int n] ∧ Gen H a b ∧ 0 ≤ st ∧ st < n ∧ n ≤ 1000000 ∧ ∀ (k : Key) (H' : Hp), PlOk st n k → Gen H' a b → Ex2 a b H H' → Q (kV k) H'
theorem ok_l_place {f f1 : Addr} {fd fd1 : FuncData} (D : Df K mg "_law_place" s_l_place ["_law_h", "_law_station", "_law_count"] f fd) (T : Bt mg) (D_l_next : Df K mg "_law_next" s_l_next ["_law_h", "_law_limit"] f1 fd1) :
    FnOk P w K mg base CX0 2 f fd ["_law_h", "_law_station", "_law_count"] spPlace := by
  have G_l_next : FnOk P w K mg base CX0 1 f1 fd1 _ _ := ok_l_next D_l_next T
  refine D.F.ok sc_l_place (fun vs H Q E h => ?_) (fun cdv A outer s H vs Q E hr h => ?_)
  · obtain ⟨a, b, st, n, rfl, _⟩ := h
    rfl
  · obtain ⟨a, b, st, n, rfl, g, h0, h1, h2, k⟩ := h
    refine ⟨_, (pss_cons (ps_if (PW.pt (pw_and (pt_cmpR (op_ltU) (pe_op (op_addU (K := K)) (pv 1) pe_int) (pv 2) (nomark _)) (pw_and1 (pt_cmpR (op_gtU) (pe_call (G_l_next) (hr.mono (by decide)) rfl D_l_next.g D_l_next.F.kp D_l_next.b .nil pass0 (pa_cons (pv 0) (pa_cons pe_int pa_nil))) pe_int (nomark _))))) (pss_cons (ps_set (i := 3) sc_l_place.nd rfl (Or.inl rfl) (pe_ix (ix_U (K := K)) (pe_lst (pa_cons pe_int (pa_cons pe_int (pa_cons (pv 2) pa_nil)))) (pe_call (G_l_next) (hr.mono (by decide)) rfl D_l_next.g D_l_next.F.kp D_l_next.b .nil pass0 (pa_cons (pv 0) (pa_cons pe_int pa_nil))) (fun _ _ => rfl)))
      (pss_one (ps_ret (pe_op (op_addU (K := K)) (pe_op (op_addU (K := K)) (pv 1) pe_int) (pe_call (G_l_next) (hr.mono (by decide)) rfl D_l_next.g D_l_next.F.kp D_l_next.b .nil pass0 (pa_cons (pv 0) (pa_cons (pe_callB (call_maxU rfl) (by rfl) T.b_max (by decide +kernel) (pa_cons pe_int (pa_cons (pe_callB (call_minU rfl) (by rfl) T.b_min (by decide +kernel) (pa_cons (pv 3) (pa_cons (pe_op op_sub (pe_op op_sub (pv 2) (pv 1)) pe_int) pa_nil))) pa_nil))) pa_nil))))))) pss_nil)
      (pss_one (ps_ret (pe_ix (ix_U (K := K)) (pe_lst (pa_cons pe_str (pa_cons pe_str (pa_cons pe_str (pa_cons pe_str pa_nil))))) (pe_call (G_l_next) (hr.mono (by decide)) rfl D_l_next.g D_l_next.F.kp D_l_next.b .nil pass0 (pa_cons (pv 0) (pa_cons pe_int pa_nil))) (fun _ _ => rfl))))), ?_⟩
    walk_at "run"
    have tail : ∀ H1, Gen H1 a b → Ex2 a b H H1 → rLst [V.str "a", V.str "b", V.str "west", V.str "abcdefgh"] H1 fun x H1 => spNext [V.ref a, V.int 4] H1 (fun y H2 => rIx K x y H2 Q) E0 := by
      intro H1 g1 e1
      refine x_lst (by simp) fun p H2 np e2 hp => ?_
      refine x_next (g1.ex e2) (by decide) (by decide) fun r H3 r0 r1 g3 e3 => ?_
      have hp3 := e3 _ _ hp (g1.na np) (g1.nb np)
      have e := (e1.ex e2).trans e3
      obtain rfl | rfl | rfl | rfl : r = 0 ∨ r = 1 ∨ r = 2 ∨ r = 3 := by omega
      · exact x_ixL (SqL.of hp3) rfl (k (.inr "a") _ (.head _) g3 e)
      · exact x_ixL (SqL.of hp3) rfl (k (.inr "b") _ (.tail _ (.head _)) g3 e)
      · exact x_ixL (SqL.of hp3) rfl (k (.inr "west") _ (.tail _ (.tail _ (.head _))) g3 e)
      · exact x_ixL (SqL.of hp3) rfl (k (.inr "abcdefgh") _ (.tail _ (.tail _ (.tail _ (.head _)))) g3 e)
    split
    · refine x_next g (by decide) (by decide) fun r H1 r0 r1 g1 e1 => ?_
      walk_at "run"
      split
      · refine x_lst (by simp) fun p H2 np e2 hp => ?_
        refine x_next (g1.ex e2) (by decide) (by decide) fun r H3 r0 r1 g3 e3 => ?_
        have hp3 := e3 _ _ hp (g1.na np) (g1.nb np)
        have e := (e1.ex e2).trans e3
        have fin : ∀ far : Int, 1 ≤ far → far ≤ 1000000 → rMinU [V.int far, V.int (n - st - 1)] H3 fun x H1 => rMaxU [V.int 1, x] H1 fun x H1 => spNext [V.ref a, x] H1 (fun y H2 => rAddU K (V.int (st + 1)) y H2 Q) E0 := by
          intro far f0 f1
          walk_at "run"
          refine x_next g3 (by split <;> (split at * <;> omega)) (by split <;> (split at * <;> omega)) fun r H4 r0 r1 g4 e4 => ?_
          walk_at "run"
          exact k (.inl (st + 1 + r)) _ ⟨by omega, by revert r1; split <;> (split at * <;> omega)⟩ g4 (e.trans e4)
        obtain rfl | rfl | rfl : r = 0 ∨ r = 1 ∨ r = 2 := by omega
        · exact x_ixL (SqL.of hp3) rfl (fin _ (by omega) (by omega))
        · exact x_ixL (SqL.of hp3) rfl (fin _ (by omega) (by omega))
        · exact x_ixL (SqL.of hp3) rfl (fin _ (by omega) (by omega))
      · exact tail _ g1 e1
    · rw [if_neg Bool.false_ne_true]
      exact tail _ g (Ex2.refl _)
abbrev s_l_network : Stmt := top 32
theorem sc_l_network : FnScope ["_law_h", "_law_most", "_law_count", "_law_network_here", "_law_station", "_law_seats", "_law_seat"] ["_law_h", "_law_most"] (defScope s_l_network) := ⟨rfl, rfl, rfl, by decide +kernel, rfl, by decide +kernel, by decide +kernel⟩
def spNetwork (K : PySem.W.Frag) : Sp := fun vs H Q _ => ∃ (a b : Addr) (most : Int), vs = [.ref a, .int most] ∧ Gen H a b ∧ 1 ≤ most ∧ most ≤ 1000 ∧ ∀ (v : V) (N : Net) (H' : Hp), Drawn N most → NetAt K H' v N → Gen H' a b → Ex2 a b H H' → Q v H'
theorem ok_l_network {f f1 f2 : Addr} {fd fd1 fd2 : FuncData} (D : Df K mg "_law_network" s_l_network ["_law_h", "_law_most"] f fd) (T : Bt mg) (D_l_next : Df K mg "_law_next" s_l_next ["_law_h", "_law_limit"] f1 fd1)
    (D_l_place : Df K mg "_law_place" s_l_place ["_law_h", "_law_station", "_law_count"] f2 fd2) :
    FnOk P w K mg base CX0 3 f fd ["_law_h", "_law_most"] (spNetwork K) := by
  have G_l_next : FnOk P w K mg base CX0 1 f1 fd1 _ _ := ok_l_next D_l_next T
  have G_l_place : FnOk P w K mg base CX0 2 f2 fd2 _ _ := ok_l_place D_l_place T D_l_next
  refine D.F.ok sc_l_network (fun vs H Q E h => ?_) (fun cdv A outer s H vs Q E hr h => ?_)
  · obtain ⟨a, b, n, rfl, _⟩ := h
    rfl
  · obtain ⟨a, b, most, rfl, g, h0, h1, k⟩ := h
    refine ⟨_, (pss_cons (ps_set (i := 2) sc_l_network.nd rfl (Or.inr rfl) (pe_op (op_addU (K := K)) pe_int (pe_call (G_l_next) (hr.mono (by decide)) rfl D_l_next.g D_l_next.F.kp D_l_next.b .nil pass0 (pa_cons (pv 0) (pa_cons (pv 1) pa_nil)))))
      (pss_cons (ps_set (i := 3) sc_l_network.nd rfl (Or.inl rfl) (pe_lst pa_nil))
      (pss_cons (ps_for PassesOwn.never rfl (pi_range1 (by rfl) T.b_range (pa_cons (pv 2) pa_nil)) (pg_name (i := 4) sc_l_network.nd rfl (Or.inr rfl)) (pss_cons (ps_set (i := 5) sc_l_network.nd rfl (Or.inl rfl) (pe_op (op_addU (K := K)) pe_int (pe_call (G_l_next) (hr.mono (by decide)) rfl D_l_next.g D_l_next.F.kp D_l_next.b .nil pass0 (pa_cons (pv 0) (pa_cons (pe_ix (ix_U (K := K)) (pe_lst (pa_cons pe_int (pa_cons pe_int (pa_cons pe_int pa_nil)))) (pe_call (G_l_next) (hr.mono (by decide)) rfl D_l_next.g D_l_next.F.kp D_l_next.b .nil pass0 (pa_cons (pv 0) (pa_cons pe_int pa_nil))) (fun _ _ => rfl)) pa_nil)))))
      (pss_one (ps_expr (pe_bm PySem.F.plainAttrs_list PySem.F.slot_list_append PySem.F.type_list_append mt_append (pv 3) (pa_cons (pe_callTy (call_tupU (K := K)) (by rfl) T.b_tuple (by decide +kernel) (pa_cons (pe_lc (own := [("_law_seat", 6)]) (g := gName 6) (tt := tYes) rfl sc_l_network.nd (pi_range1 (by rfl) T.b_range (pa_cons (pv 5) pa_nil)) (blkOk_by (own := [("_law_seat", 6)]) (N := ["_law_h", "_law_most", "_law_count", "_law_network_here", "_law_station", "_law_seats", "_law_seat"]) (sc := defScope s_l_network) (by decide +kernel)) (fun _ _ _ _ _ => (pg_name (i := 6) sc_l_network.nd rfl (Or.inl rfl))) (fun _ _ _ _ _ => pts_nil) (fun _ _ _ _ _ => (pe_call (G_l_place) (hr.mono (by decide)) rfl D_l_place.g D_l_place.F.kp D_l_place.b .nil pass0 (pa_cons (pv 0) (pa_cons (pv 4) (pa_cons (pv 2) pa_nil)))))) pa_nil)) pa_nil))))))
      (pss_one (ps_ret (pe_callTy (call_tupU (K := K)) (by rfl) T.b_tuple (by decide +kernel) (pa_cons (pv 3) pa_nil))))))), ?_⟩
    walk_at "run"
    refine x_next g (by omega) (by omega) fun r H1 r0 r1 g1 e1 => ?_
    walk_at "run"
    refine x_lst (by simp) fun L H2 nL e2 hL => ?_
    obtain ⟨n, hn⟩ : ∃ n : Nat, 1 + r = (n : Int) := ⟨(1 + r).toNat, by omega⟩
    rw [hn]
    refine ⟨n, rfl, by omega, by omega, ?_⟩
    have hn1 : 1 ≤ n := by omega
    have nLa := (g1.na nL)
    have nLb := (g1.nb nL)
    have e02 : Ex2 a b H H2 := e1.ex e2
    refine loop_it walk_range (fun i σ H' => ∃ (u5 u6 u4 : Option V) (ts : List V) (M : Net), σ = [some (.ref a), some (.int most), some (.int n), some (.ref L), u4, u5, u6] ∧ H' L = some (.lst ts) ∧ DpAll K H' ts (M.map stD) ∧ M.length = i ∧ Gen H' a b ∧ (∀ x o, H x = some o → x ≠ a → x ≠ b → H' x = some o) ∧
      ∀ (k : Nat) s, M[k]? = some s → 1 ≤ s.length ∧ s.length ≤ 8 ∧ ∀ p ∈ s, PlOk k n p) ⟨_, _, _, [], [], rfl, hL, .nil, rfl, g1.ex e2, e02, fun k s h => by simp at h⟩ (fun _ _ _ _ _ => trivial) ?_ ?_
    · rintro i x σ H3 H3' hi ⟨u5, u6, u4, ts, M, rfl, hL3, hts, hM, g3, e3, hok⟩ ⟨eH, rfl⟩
      subst eH
      have hi : i < n := by simpa using hi
      walk_at "run"
      refine x_lst (by simp) fun p H4 np e4 hp => ?_
      refine x_next (g3.ex e4) (by decide) (by decide) fun r H5 r0 r1 g5 e5 => ?_
      have hp5 := e5 _ _ hp (g3.na np) (g3.nb np)
      have hL5 := e5 _ _ (e4 _ _ hL3) nLa nLb
      have e35 := (Ex2.of e4).trans e5
      have t35 := (TX.of e4).trans ((g3.ex e4).tx e5)
      refine x_menu hp5 r0 (by simpa using r1) fun v _ hv => ?_
      obtain ⟨q, rfl, q0, q1⟩ : ∃ q : Int, v = .int q ∧ 2 ≤ q ∧ q ≤ 8 := by
        simp at hv
        rcases hv with rfl | rfl | rfl <;> exact ⟨_, rfl, by omega, by omega⟩
      refine x_next g5 (by omega) (by omega) fun r H6 r0 r1 g6 e6 => ?_
      obtain ⟨m, hm⟩ : ∃ m : Nat, 1 + r = (m : Int) := ⟨(1 + r).toNat, by omega⟩
      have hL6 := e6 _ _ hL5 nLa nLb
      walk_at "run"
      rw [hm]
      refine ⟨x_tyL (SqL.of hL6), m, rfl, by omega, by omega, ?_⟩
      refine lcl_it walk_range (fun D j H' => ∃ acc : List Key, H' D = some (.lst (acc.map kV)) ∧ acc.length = j ∧ (∀ p ∈ acc, PlOk i n p) ∧ Gen H' a b ∧ ∀ x o, H6 x = some o → x ≠ a → x ≠ b → H' x = some o)
        (fun D H' hD e h => ⟨[], h, rfl, (by simp), g6.ex e, fun x o hx _ _ => e _ _ hx⟩) (fun _ _ _ _ _ => trivial) ?_ ?_
      · rintro D j x H7 H7' hD hj ⟨acc, hacc, hl, hok, g7, e7⟩ ⟨eH, rfl⟩
        subst eH
        have hj : j < m := by simpa using hj
        walk_at "run"
        refine ⟨a, b, _, _, rfl, g7, by omega, by omega, by omega, fun k H8 hk g8 e8 => ?_⟩
        refine x_push (e8 _ _ hacc (g6.na hD) (g6.nb hD)) (by simp; omega) fun H9 e9 h9 => ⟨acc ++ [k], by rw [h9]; simp, by simp [hl], ?_, g8.but (g6.na hD) (g6.nb hD) e9, fun x o hx ha hb => e9 _ _ (ne_of_none hx hD) (e8 _ _ (e7 _ _ hx ha hb) ha hb)⟩
        intro p hp
        rcases List.mem_append.mp hp with h | h
        · exact hok p h
        · obtain rfl : p = k := by simpa using h
          have e : (0 : Int) + i = i := by omega
          rw [e] at hk
          exact hk
      · rintro D H7 hD ⟨acc, hacc, hl, hok', g7, e7⟩
        have hl : acc.length = m := by simpa using hl
        refine x_tupL (SqL.of hacc) fun t H8 nt e8 ht => ?_
        have hL8 := e8 _ _ (e7 _ _ hL6 nLa nLb)
        refine x_append hL8 (by rw [hts.len]; simp; omega) fun H9 e9 h9 => ?_
        have t9 : TX H3' H9 := (((t35.trans (g5.tx e6)).trans (g6.tx e7)).trans (TX.of e8)).trans (TX.but hL8 e9)
        have hL7 := e7 _ _ hL6 nLa nLb
        have nLt : L ≠ t := ne_of_none hL7 nt
        refine ⟨some (.int m), u6, some (.int (0 + (i : Int))), ts ++ [.ref t], M ++ [acc], rfl, h9, ?_, by simp [hM], (g7.ex e8).but nLa nLb e9, fun x o hx ha hb => ?_, ?_⟩
        · rw [List.map_append]
          exact DpAll.append (DpAll.tx t9 hts fun d hd => (netD_t M).all d hd) (.cons (StAt.of (SqT.of (e9 _ _ nLt.symm ht))) .nil)
        · exact e9 _ _ (fun z => by subst z; exact absurd (e1 _ _ hx ha hb) (by rw [nL]; simp)) (e8 _ _ (e7 _ _ (e6 _ _ (e5 _ _ (e4 _ _ (e3 _ _ hx ha hb)) ha hb) ha hb) ha hb))
        · intro k s hs
          by_cases hk : k < M.length
          · rw [List.getElem?_append_left hk] at hs
            exact hok k s hs
          · rw [List.getElem?_append_right (by omega)] at hs
            have hz : k - M.length = 0 := by
              have := (List.getElem?_eq_some_iff.mp hs).1
              simp at this
              omega
            rw [hz] at hs
            obtain rfl : acc = s := by simpa using hs
            exact ⟨by omega, by omega, fun p hp => by
              have e : k = i := by omega
              rw [e]; exact hok' p hp⟩
    · rintro σ H3 ⟨u5, u6, u4, ts, M, rfl, hL3, hts, hM, g3, e3, hok⟩
      walk_at "run"
      refine x_tupL (SqL.of hL3) fun p H4 np e4 hp => ?_
      have hM : M.length = n := by simpa using hM
      refine k _ M _ ⟨by omega, by omega, fun k s h => by rw [hM]; exact hok k s h⟩ (.tup (SqT.of hp) (DpAll.ex e4 hts)) (g3.ex e4) (Ex2.ex e3 e4)
end
end K
set_option Elab.async false
set_option linter.all false
set_option maxRecDepth 100000
set_option maxHeartbeats 4000000
namespace K
open PySem PySem.Spec PyProof.Rows L2 Evl FB
local macro_rules | `(tactic| walk_at "run") => `(tactic| try simp only [tSeq, tAsg, tVar, tC, gName, L2.start, List.map_cons, List.map_nil, List.cons_append, List.nil_append, List.length_cons, List.length_nil, List.replicate, List.getElem?_cons_zero, List.getElem?_cons_succ, Option.some.injEq, exists_eq_left', List.set_cons_zero, List.set_cons_succ, V.ref.injEq, tRet, x_tLst, x_tTup, tCons, tCB, tNil, tOp, x_addI, x_mulI, x_rI, x_rI0, x_ltI, x_leI, x_ltS, x_leS, x_eqI, x_neI, x_eqS, x_eqB, x_neB, x_isiI, x_isiS, x_int, x_max, x_min, cxOf, tIfS, tNext, tTest, V.bl.injEq, decide_eq_true_eq, gSub, tAnd, tOr, tNot, tB, tDrop, tBM, x_tFor, iRng1, iList, iTup, x_tLc, tYes, tCall, tIf, tAndV, tOrV, tNotV, tChain, List.append_nil, tUn, if_true, wipe, true_and, x_never, iU, x_itS])
section
variable {P : Program} {w : World} {K : PySem.W.Frag} {mg : Str → Option Value} {base : Heap}
theorem FnOk.never {CX : CXT} {k : Nat} {f : Addr} {fd : FuncData} {ps : List Str} : FnOk P w K mg base CX k f fd ps (fun _ _ _ _ => False) := ⟨fun _ _ _ _ h => h.elim, fun _ _ _ _ _ _ _ _ _ _ _ _ _ h => h.elim⟩
abbrev s_l_alike : Stmt := top 30
theorem sc_l_alike : FnScope ["_law_found", "_law_due", "_law_k"] ["_law_found", "_law_due"] (defScope s_l_alike) := ⟨rfl, rfl, rfl, by decide +kernel, rfl, by decide +kernel, by decide +kernel⟩
theorem mem_depth : ∀ {ds : List PyData} {e : PyData}, e ∈ ds → e.depth ≤ PyData.depthAll ds
  | x :: r, e, h => by
    rw [PyData.depthAll]
    rcases List.mem_cons.mp h with rfl | h
    · omega
    · have := mem_depth h
      omega
theorem mem_lay : ∀ {ds : List PyData} {e : PyData}, PyData.canLayAll0 ds = true → e ∈ ds → e.canLay0 = true
  | x :: r, e, hc, h => by
    rw [PyData.canLayAll0, Bool.and_eq_true] at hc
    rcases List.mem_cons.mp h with rfl | h
    · exact hc.1
    · exact mem_lay hc.2 h
theorem shaped_mk {d : PyData} (h : d.canLay0 = true) (h2 : d.depth ≤ 64) : SeqAt.shaped d = true := by
  unfold SeqAt.shaped
  rw [h]
  simpa using h2
theorem shaped_get {d : PyData} (h : SeqAt.shaped d = true) : d.canLay0 = true ∧ d.depth ≤ 64 := by
  unfold SeqAt.shaped at h
  simpa using h
theorem shaped_l {ds : List PyData} {e : PyData} (h : SeqAt.shaped (.list ds) = true) (he : e ∈ ds) : SeqAt.shaped e = true ∧ e.depth + 1 ≤ (PyData.list ds).depth := by
  obtain ⟨h1, h2⟩ := shaped_get h
  rw [PyData.canLay0] at h1
  rw [PyData.depth] at h2 ⊢
  have := mem_depth he
  exact ⟨shaped_mk (mem_lay h1 he) (by omega), by omega⟩
theorem shaped_t {ds : List PyData} {e : PyData} (h : SeqAt.shaped (.tuple ds) = true) (he : e ∈ ds) : SeqAt.shaped e = true ∧ e.depth + 1 ≤ (PyData.tuple ds).depth := by
  obtain ⟨h1, h2⟩ := shaped_get h
  rw [PyData.canLay0] at h1
  rw [PyData.depth] at h2 ⊢
  have := mem_depth he
  exact ⟨shaped_mk (mem_lay h1 he) (by omega), by omega⟩
theorem eqv_same {d : PyData} (h : SeqAt.shaped d = true) : PyData.eqv d d = true := SeqAt.eqv_refl d (shaped_get h).1
/-- no list or tuple in it is very long -/
inductive SmD : PyData → Prop
  | non : SmD .none
  | bl (b : Bool) : SmD (.bool b)
  | int (i : Int) : SmD (.int i)
  | str (x : Str) : SmD (.str x)
  | lst {ds : List PyData} : ds.length ≤ 1000000 → (∀ d ∈ ds, SmD d) → SmD (.list ds)
  | tup {ds : List PyData} : ds.length ≤ 1000000 → (∀ d ∈ ds, SmD d) → SmD (.tuple ds)
/-- the same data on both sides, not deeper than n -/
def spAlike (K : PySem.W.Frag) : Nat → Sp
  | 0 => fun _ _ _ _ => False
  | n + 1 => fun vs H Q _ => ∃ (x y : V) (d : PyData), vs = [x, y] ∧ Dp K H x d ∧ Dp K H y d ∧ SeqAt.shaped d = true ∧ d.depth ≤ n ∧ SmD d ∧ ∀ H', Ex H H' → Q (.bl true) H'
theorem ok_l_alike {f : Addr} {fd : FuncData} (D : Df K mg "_law_alike" s_l_alike ["_law_found", "_law_due"] f fd) (T : Bt mg) : ∀ n, FnOk P w K mg base CX0 n f fd ["_law_found", "_law_due"] (spAlike K n)
  | 0 => FnOk.never
  | n + 1 => by
    have D_l_alike := D
    have G_l_alike : FnOk P w K mg base CX0 n f fd _ _ := ok_l_alike D T n
    refine D.F.ok sc_l_alike (fun vs H Q E h => ?_) (fun cdv A outer s H vs Q E hr h => ?_)
    · obtain ⟨a, b, n, rfl, _⟩ := h
      rfl
    · obtain ⟨x, y, d, rfl, hx, hy, sh, hd, sm, k⟩ := h
      have hu := hr.units
      refine ⟨_, (pss_cons (ps_if (pt_val (pe_callB (call_isiU (K := K)) (by rfl) T.b_isinstance (by decide +kernel) (pa_cons (pv 1) (pa_cons (pe_bltn (v := .ty "dict") (by rfl) T.b_dict (by decide +kernel) rfl) pa_nil)))) pss_never pss_nil)
      (pss_cons (ps_if (pt_val (pe_callB (call_isiU (K := K)) (by rfl) T.b_isinstance (by decide +kernel) (pa_cons (pv 1) (pa_cons (pe_tup (pa_cons (pe_bltn (v := .ty "tuple") (by rfl) T.b_tuple (by decide +kernel) rfl) (pa_cons (pe_bltn (v := .ty "list") (by rfl) T.b_list (by decide +kernel) rfl) pa_nil))) pa_nil)))) (pss_cons (ps_if (PW.pt (pw_or (pt_not (pt_val (pe_callB (call_isiU (K := K)) (by rfl) T.b_isinstance (by decide +kernel) (pa_cons (pv 0) (pa_cons (pe_tup (pa_cons (pe_bltn (v := .ty "tuple") (by rfl) T.b_tuple (by decide +kernel) rfl) (pa_cons (pe_bltn (v := .ty "list") (by rfl) T.b_list (by decide +kernel) rfl) pa_nil))) pa_nil))))) (pw_or1 (pt_cmpR (op_neU (K := K) hu) (pe_callB (call_isiU (K := K)) (by rfl) T.b_isinstance (by decide +kernel) (pa_cons (pv 0) (pa_cons (pe_bltn (v := .ty "list") (by rfl) T.b_list (by decide +kernel) rfl) pa_nil))) (pe_callB (call_isiU (K := K)) (by rfl) T.b_isinstance (by decide +kernel) (pa_cons (pv 1) (pa_cons (pe_bltn (v := .ty "list") (by rfl) T.b_list (by decide +kernel) rfl) pa_nil))) (nomark _))))) (pss_one (ps_ret pe_bl)) pss_nil)
      (pss_cons (ps_if (pt_cmpR (op_neU (K := K) hu) (pe_callB (call_lenU (K := K)) (by rfl) T.b_len (by decide +kernel) (pa_cons (pv 0) pa_nil)) (pe_callB (call_lenU (K := K)) (by rfl) T.b_len (by decide +kernel) (pa_cons (pv 1) pa_nil)) (nomark _)) (pss_one (ps_ret pe_bl)) pss_nil)
      (pss_one (ps_ret (pe_cmpR (op_eqU (K := K) hu) (pe_lc (own := [("_law_k", 2)]) (g := gName 2) (tt := _) rfl sc_l_alike.nd (pi_range1 (by rfl) T.b_range (pa_cons (pe_callB (call_lenU (K := K)) (by rfl) T.b_len (by decide +kernel) (pa_cons (pv 1) pa_nil)) pa_nil)) (blkOk_by (own := [("_law_k", 2)]) (N := ["_law_found", "_law_due", "_law_k"]) (sc := defScope s_l_alike) (by decide +kernel)) (fun _ _ _ _ _ => (pg_name (i := 2) sc_l_alike.nd rfl (Or.inl rfl))) (fun _ _ _ _ _ => (pts_one (pt_not (pt_val (pe_call (G_l_alike) hr rfl D_l_alike.g D_l_alike.F.kp D_l_alike.b .nil pass0 (pa_cons (pe_ix (ix_U (K := K)) (pv 0) (pv 2) (fun _ _ => rfl)) (pa_cons (pe_ix (ix_U (K := K)) (pv 1) (pv 2) (fun _ _ => rfl)) pa_nil))))))) (fun _ _ _ _ _ => (pv 2))) (pe_lst pa_nil) (nomark _)))))) pss_nil)
      (pss_cons (ps_if (PW.pt (pw_or (pt_cmpR op_isN (pv 1) pe_non (nomark _)) (pw_or1 (pt_val (pe_callB (call_isiU (K := K)) (by rfl) T.b_isinstance (by decide +kernel) (pa_cons (pv 1) (pa_cons (pe_bltn (v := .ty "str") (by rfl) T.b_str (by decide +kernel) rfl) pa_nil))))))) (pss_one (ps_ret (pe_and (pe_cmpR (op_eqU (K := K) hu) (pv 0) (pv 1) (nomark _)) (pe_one (pe_cmpR (op_eqU (K := K) hu) (pe_callB (call_isiU (K := K)) (by rfl) T.b_isinstance (by decide +kernel) (pa_cons (pv 0) (pa_cons (pe_bltn (v := .ty "str") (by rfl) T.b_str (by decide +kernel) rfl) pa_nil))) (pe_callB (call_isiU (K := K)) (by rfl) T.b_isinstance (by decide +kernel) (pa_cons (pv 1) (pa_cons (pe_bltn (v := .ty "str") (by rfl) T.b_str (by decide +kernel) rfl) pa_nil))) (nomark _)))))) pss_nil)
      (pss_one (ps_ret (pe_and (pe_callB (call_isiU (K := K)) (by rfl) T.b_isinstance (by decide +kernel) (pa_cons (pv 0) (pa_cons (pe_bltn (v := .ty "int") (by rfl) T.b_int (by decide +kernel) rfl) pa_nil))) (pe_and (pe_cmpR (op_eqU (K := K) hu) (pe_callB (call_isiU (K := K)) (by rfl) T.b_isinstance (by decide +kernel) (pa_cons (pv 0) (pa_cons (pe_bltn (v := .ty "bool") (by rfl) T.b_bool (by decide +kernel) rfl) pa_nil))) (pe_callB (call_isiU (K := K)) (by rfl) T.b_isinstance (by decide +kernel) (pa_cons (pv 1) (pa_cons (pe_bltn (v := .ty "bool") (by rfl) T.b_bool (by decide +kernel) rfl) pa_nil))) (nomark _)) (pe_one (pe_cmpR (op_eqU (K := K) hu) (pv 0) (pv 1) (nomark _)))))))))), ?_⟩
      walk_at "run"
      -- a tuple or a list: the items
      have seq : ∀ (ds : List PyData) (a b : Addr) (xs ys : List V) (H1 : Hp), Ex H H1 → x = .ref a → y = .ref b → SqA K H1 a xs → SqA K H1 b ys → DpAll K H1 xs ds → DpAll K H1 ys ds → ds.length ≤ 1000000 → (∀ e ∈ ds, SeqAt.shaped e = true ∧ e.depth + 1 ≤ n ∧ SmD e) →
          rLenU K [x] H1 fun x_8 H1 => rLenU K [y] H1 fun y_2 H2 => rNeU K x_8 y_2 H2 fun x_9 H' => ∃ k, x_9 = V.bl k ∧ if k = true then Q (V.bl false) H' else rLenU K [y] H' fun x_10 H1 => ∃ j, [x_10] = [V.int j] ∧ -2 ^ 62 ≤ j ∧ j < 2 ^ 62 ∧
            LcL (Itr 0 j.toNat) (gName 2) (tNot (tB (tCall (spAlike K n) [] E0 (tCons (tOp (rIx K) (tVar 0) (tVar 2)) (tCons (tOp (rIx K) (tVar 1) (tVar 2)) tNil))))) (tVar 2) [2] [some x, some y, none] H1 fun x H1 => rLst [] H1 fun y H2 => rEqU K x y H2 Q := by
        intro ds a b xs ys H1 e1 hxa hyb ha hb dx dy hlen hds
        subst hxa hyb
        have lx := dx.len
        have ly := dy.len
        refine x_lenA ha (x_lenA hb ?_)
        rw [lx, ly]
        walk_at "run"
        rw [if_neg (by simp)]
        refine x_lenA hb ⟨_, rfl, by omega, by omega, ?_⟩
        refine lcl_it walk_range (fun D i H' => H' D = some (.lst []) ∧ Ex H1 H') (fun D H' _ e h => ⟨h, e⟩) (fun _ _ _ _ _ => trivial) ?_ ?_
        · rintro D i v H2 H2' hD hi ⟨hD2, e2⟩ ⟨eH, rfl⟩
          subst eH
          have hi : i < ys.length := by simpa using hi
          obtain ⟨v1, hv1⟩ : ∃ v, xs[i]? = some v := ⟨xs[i], by simp⟩
          obtain ⟨v2, hv2⟩ : ∃ v, ys[i]? = some v := ⟨ys[i], by simp⟩
          obtain ⟨e, he, hd1⟩ := dx.get' hv1
          obtain ⟨e', he', hd2⟩ := dy.get' hv2
          obtain rfl : e = e' := by rw [he] at he'; exact Option.some.inj he'
          have hm := hds e (List.mem_of_getElem? he)
          have hz : (0 : Int) + i = (i : Int) := by omega
          walk_at "run"
          rw [hz]
          refine x_ixA (ha.ex e2) (atI_nat hv1) (x_ixA (hb.ex e2) (atI_nat hv2) ?_)
          obtain ⟨m, rfl⟩ : ∃ m, n = m + 1 := ⟨n - 1, by omega⟩
          refine ⟨_, _, e, rfl, Dp.ex e2 hd1, Dp.ex e2 hd2, hm.1, by omega, hm.2.2, fun H4 e4 => ⟨true, rfl, ?_⟩⟩
          rw [if_neg (by simp)]
          exact ⟨e4 _ _ hD2, e2.trans e4⟩
        · rintro D H2 hD ⟨hD2, e2⟩
          refine x_lst (by simp) fun p H3 np e3 hp => ?_
          refine x_eqD (.lst (SqL.of (e3 _ _ hD2)) .nil) (.lst (SqL.of hp) .nil) rfl rfl ?_
          exact k H3 (e1.trans (e2.trans e3))
      -- a scalar
      have e0 := eqv_same sh
      have eqd : ∀ (H1 : Hp) (Q1 : VK), Ex H H1 → Q1 (.bl true) H1 → rEqU K x y H1 Q1 := fun H1 Q1 e q => x_eqD (Dp.ex e hx) (Dp.ex e hy) sh sh (by rw [e0]; exact q)
      cases d with
      | dict _ => cases hx
      | list ds =>
        obtain ⟨a, xs, rfl, hxs, dx⟩ : ∃ a xs, x = .ref a ∧ SqL K H a xs ∧ DpAll K H xs ds := by
          cases hx with
          | lst h1 h2 => exact ⟨_, _, rfl, h1, h2⟩
        obtain ⟨b, ys, rfl, hys, dy⟩ : ∃ b ys, y = .ref b ∧ SqL K H b ys ∧ DpAll K H ys ds := by
          cases hy with
          | lst h1 h2 => exact ⟨_, _, rfl, h1, h2⟩
        obtain ⟨hlen, hsm⟩ : ds.length ≤ 1000000 ∧ ∀ d ∈ ds, SmD d := by
          cases sm with
          | lst h1 h2 => exact ⟨h1, h2⟩
        refine x_isD hy rfl ?_
        refine ⟨false, rfl, ?_⟩
        rw [if_neg Bool.false_ne_true]
        refine x_tup (by simp) fun p H1 np e1 hp => ?_
        refine x_isD2 (Dp.ex e1 hy) hp rfl ?_
        refine ⟨true, rfl, ?_⟩
        rw [if_pos rfl]
        refine x_tup (by simp) fun p2 H2 np2 e2 hp2 => ?_
        have e02 := e1.trans e2
        refine x_isD2 (Dp.ex e02 hx) hp2 rfl ?_
        refine ⟨true, rfl, ?_⟩
        rw [if_neg (by simp)]
        refine x_isD (Dp.ex e02 hx) rfl (x_isD (Dp.ex e02 hy) rfl ?_)
        walk_at "run"
        rw [if_neg (by simp)]
        refine seq ds a b xs ys H2 e02 rfl rfl (.inl (ex_l e02 hxs)) (.inl (ex_l e02 hys)) (DpAll.ex e02 dx) (DpAll.ex e02 dy) hlen fun e he => ?_
        have := shaped_l sh he
        exact ⟨this.1, by omega, hsm e he⟩
      | tuple ds =>
        obtain ⟨a, xs, rfl, hxs, dx⟩ := Dp.tup_inv hx
        obtain ⟨b, ys, rfl, hys, dy⟩ := Dp.tup_inv hy
        obtain ⟨hlen, hsm⟩ : ds.length ≤ 1000000 ∧ ∀ d ∈ ds, SmD d := by
          cases sm with
          | tup h1 h2 => exact ⟨h1, h2⟩
        refine x_isD hy rfl ?_
        refine ⟨false, rfl, ?_⟩
        rw [if_neg Bool.false_ne_true]
        refine x_tup (by simp) fun p H1 np e1 hp => ?_
        refine x_isD2 (Dp.ex e1 hy) hp rfl ?_
        refine ⟨true, rfl, ?_⟩
        rw [if_pos rfl]
        refine x_tup (by simp) fun p2 H2 np2 e2 hp2 => ?_
        have e02 := e1.trans e2
        refine x_isD2 (Dp.ex e02 hx) hp2 rfl ?_
        refine ⟨true, rfl, ?_⟩
        rw [if_neg (by simp)]
        refine x_isD (Dp.ex e02 hx) rfl (x_isD (Dp.ex e02 hy) rfl ?_)
        walk_at "run"
        rw [if_neg (by simp)]
        refine seq ds a b xs ys H2 e02 rfl rfl (.inr (ex_t e02 hxs)) (.inr (ex_t e02 hys)) (DpAll.ex e02 dx) (DpAll.ex e02 dy) hlen fun e he => ?_
        have := shaped_t sh he
        exact ⟨this.1, by omega, hsm e he⟩
      | none =>
        obtain rfl : y = .non := by cases hy; rfl
        refine x_isD hy rfl ⟨false, rfl, ?_⟩
        rw [if_neg Bool.false_ne_true]
        refine x_tup (by simp) fun p H1 np e1 hp => ?_
        refine x_isD2 (Dp.ex e1 hy) hp rfl ⟨false, rfl, ?_⟩
        rw [if_neg Bool.false_ne_true, if_pos rfl]
        refine eqd H1 _ e1 ⟨true, rfl, ?_⟩
        rw [if_pos rfl]
        refine x_isD (Dp.ex e1 hx) rfl (x_isD (Dp.ex e1 hy) rfl ?_)
        walk_at "run"
        exact k H1 e1
      | str z =>
        obtain rfl : y = .str z := by cases hy; rfl
        refine x_isD hy rfl ⟨false, rfl, ?_⟩
        rw [if_neg Bool.false_ne_true]
        refine x_tup (by simp) fun p H1 np e1 hp => ?_
        refine x_isD2 (Dp.ex e1 hy) hp rfl ⟨false, rfl, ?_⟩
        rw [if_neg Bool.false_ne_true, if_neg (by simp)]
        refine x_isD (Dp.ex e1 hy) rfl ⟨true, rfl, ?_⟩
        rw [if_pos rfl]
        refine eqd H1 _ e1 ⟨true, rfl, ?_⟩
        rw [if_pos rfl]
        refine x_isD (Dp.ex e1 hx) rfl (x_isD (Dp.ex e1 hy) rfl ?_)
        walk_at "run"
        exact k H1 e1
      | int z =>
        obtain rfl : y = .int z := by cases hy; rfl
        refine x_isD hy rfl ⟨false, rfl, ?_⟩
        rw [if_neg Bool.false_ne_true]
        refine x_tup (by simp) fun p H1 np e1 hp => ?_
        refine x_isD2 (Dp.ex e1 hy) hp rfl ⟨false, rfl, ?_⟩
        rw [if_neg Bool.false_ne_true, if_neg (by simp)]
        refine x_isD (Dp.ex e1 hy) rfl ⟨false, rfl, ?_⟩
        rw [if_neg Bool.false_ne_true]
        refine x_isD (Dp.ex e1 hx) rfl ⟨true, rfl, ?_⟩
        rw [if_pos rfl]
        refine x_isD (Dp.ex e1 hx) rfl (x_isD (Dp.ex e1 hy) rfl ?_)
        walk_at "run"
        exact eqd H1 _ e1 (k H1 e1)
      | bool z =>
        obtain rfl : y = .bl z := by cases hy; rfl
        refine x_isD hy rfl ⟨false, rfl, ?_⟩
        rw [if_neg Bool.false_ne_true]
        refine x_tup (by simp) fun p H1 np e1 hp => ?_
        refine x_isD2 (Dp.ex e1 hy) hp rfl ⟨false, rfl, ?_⟩
        rw [if_neg Bool.false_ne_true, if_neg (by simp)]
        refine x_isD (Dp.ex e1 hy) rfl ⟨false, rfl, ?_⟩
        rw [if_neg Bool.false_ne_true]
        refine x_isD (Dp.ex e1 hx) rfl ⟨true, rfl, ?_⟩
        rw [if_pos rfl]
        refine x_isD (Dp.ex e1 hx) rfl (x_isD (Dp.ex e1 hy) rfl ?_)
        walk_at "run"
        exact eqd H1 _ e1 (k H1 e1)
end
end K
set_option Elab.async false
set_option linter.all false
set_option maxRecDepth 100000
set_option maxHeartbeats 4000000
namespace K
open PySem PySem.Spec PyProof.Rows L2 Evl FB
local macro_rules | `(tactic| walk_at "run") => `(tactic| try simp only [tSeq, tAsg, tVar, tC, gName, L2.start, List.map_cons, List.map_nil, List.cons_append, List.nil_append, List.length_cons, List.length_nil, List.replicate, List.getElem?_cons_zero, List.getElem?_cons_succ, Option.some.injEq, exists_eq_left', List.set_cons_zero, List.set_cons_succ, V.ref.injEq, tRet, x_tLst, x_tTup, tCons, tCB, tNil, tOp, x_addI, x_mulI, x_rI, x_rI0, x_ltI, x_leI, x_ltS, x_leS, x_eqI, x_neI, x_eqS, x_eqB, x_neB, x_isiI, x_isiS, x_int, x_max, x_min, cxOf, tIfS, tNext, tTest, V.bl.injEq, decide_eq_true_eq, gSub, tAnd, tOr, tNot, tB, tDrop, tBM, x_tFor, iRng1, iList, iTup, x_tLc, tYes, tCall, tIf, tAndV, tOrV, tNotV, tChain, List.append_nil, tUn, if_true, wipe, true_and, x_never, iU, x_itS, kV])
/-- the program's constants -/
abbrev s_is_letters : Stmt := top 16
structure Ct (K : PySem.W.Frag) (mg : Str → Option Value) : Prop where
  g_MAX_LETTERS : ∃ t, mg "MAX_LETTERS" = some (.int 8 t)
  g_MAX_SEATS : ∃ t, mg "MAX_SEATS" = some (.int 8 t)
  g_MAX_STATIONS : ∃ t, mg "MAX_STATIONS" = some (.int 40 t)
  is_letters : ∃ f fd, Df K mg "is_letters" s_is_letters ["text"] f fd
def okc (c : Nat) : Bool := decide (97 ≤ c) && decide (c ≤ 122)
theorem one_lt (c d : Nat) : decide (([c] : List Nat) < [d]) = decide (c < d) := by
  have e : (([c] : List Nat) < [d]) ↔ c < d := by
    simp [List.cons_lt_cons_iff]
  simp [e]
/-- one to eight letters -/
def wordB (z : Str) : Bool := decide (1 ≤ z.length) && decide (z.length ≤ 8) && z.cps.toList.all okc
/-- a seat of the station st of n may lead to it -/
def placeB (st n : Int) : Key → Bool
  | .inl j => decide (st < j) && decide (j < n)
  | .inr z => wordB z
section
variable {P : Program} {w : World} {K : PySem.W.Frag} {mg : Str → Option Value} {base : Heap}
theorem sc_is_letters : FnScope ["text", "letter"] ["text"] (defScope s_is_letters) := ⟨rfl, rfl, rfl, by decide +kernel, rfl, by decide +kernel, by decide +kernel⟩
/-- letters a to z, at least one -/
def lettersB (z : Str) : Bool := decide (1 ≤ z.length) && z.cps.toList.all okc
def spLetters : Sp := fun vs H Q _ => ∃ z : Str, vs = [.str z] ∧ z.length ≤ 100000 ∧ ∀ H', Ex H H' → Q (.bl (lettersB z)) H'
theorem ok_is_letters {f : Addr} {fd : FuncData} (D : Df K mg "is_letters" s_is_letters ["text"] f fd) (T : Bt mg) : FnOk P w K mg base CX0 1 f fd ["text"] spLetters := by
  refine D.F.ok sc_is_letters (fun vs H Q E h => ?_) (fun cdv A outer s H vs Q E hr h => ?_)
  · obtain ⟨z, rfl, _⟩ := h
    rfl
  · obtain ⟨z, rfl, hl, k⟩ := h
    refine ⟨_, (pss_one (ps_ret (pe_and (pe_cmpR (op_gtU) (pe_callB (call_lenU (K := K)) (by rfl) T.b_len (by decide +kernel) (pa_cons (pv 0) pa_nil)) pe_int (nomark _)) (pe_one (pe_callB (call_allU (K := K) rfl) (by rfl) T.b_all (by decide +kernel) (pa_cons (pe_lc (own := [("letter", 1)]) (g := gName 1) (tt := tYes) rfl sc_is_letters.nd (pi_U (K := K) (pv 0)) (blkOk_by (own := [("letter", 1)]) (N := ["text", "letter"]) (sc := defScope s_is_letters) (by decide +kernel)) (fun _ _ _ _ _ => (pg_name (i := 1) sc_is_letters.nd rfl (Or.inl rfl))) (fun _ _ _ _ _ => pts_nil) (fun _ _ _ _ _ => (pe_chain (op_leU) (op_leU) pe_str (pv 1) pe_str))) pa_nil)))))), ?_⟩
    walk_at "run"
    refine x_lenS (by rw [sizeLine_eq]; omega) ?_
    walk_at "run"
    by_cases h1 : (0 : Int) < (z.length : Nat)
    · rw [if_pos h1]
      walk_at "run"
      have hz : z.cps.size = z.cps.toList.length := by simp
      have hzl : z.cps.size = z.length := rfl
      refine lcl_it walk_str (fun D i H' => H' D = some (.lst (((z.cps.toList.take i).map okc).map V.bl)) ∧ Ex H H') (fun D H' _ e h => ⟨h, e⟩) (fun _ _ _ _ _ => trivial) ?_ ?_
      · rintro D i v H2 H2' hD hi ⟨hD2, e2⟩ ⟨eH, c, hc, rfl⟩
        subst eH
        have hc' : z.cps.toList[i]? = some c := by simpa using hc
        walk_at "run"
        have ea : (Str.ofString "a").cps.toList = [97] := by decide +kernel
        have ez : (Str.ofString "z").cps.toList = [122] := by decide +kernel
        rw [ea]
        show if (!decide (([c] : List Nat) < [97])) = true then _ else _
        rw [one_lt]
        have push : ∀ b, b = okc c → Push D (fun H' => H' D = some (.lst (((z.cps.toList.take (i + 1)).map okc).map V.bl)) ∧ Ex H H') (.bl b) H2' := fun b hb => by
          refine x_push hD2 (by simp; omega) fun H5 e5 h5 => ⟨?_, fun x o hx => e5 _ _ (ne_of_none hx hD) (e2 _ _ hx)⟩
          rw [h5, List.take_add_one, hc', hb]
          simp
        by_cases g1 : c < 97
        · rw [if_neg (by simp [g1])]
          refine push _ ?_
          unfold okc
          simp; omega
        · rw [if_pos (by simp [g1])]
          rw [ez]
          show Push D _ (V.bl (!decide (([122] : List Nat) < [c]))) H2'
          rw [one_lt]
          refine push _ ?_
          unfold okc
          by_cases g2 : 122 < c
          · have : ¬ c ≤ 122 := by omega
            simp [g2, this]
          · have h1 : 97 ≤ c := by omega
            have h2 : c ≤ 122 := by omega
            simp [g2, h1, h2]
      · rintro D H2 hD ⟨hD2, e2⟩
        refine ⟨D, _, rfl, SqL.of hD2, ?_⟩
        have e : (((z.cps.toList.take z.cps.size).map okc).all id) = lettersB z := by
          rw [hz, List.take_length]
          unfold lettersB
          have a1 : decide (1 ≤ z.length) = true := by simp; omega
          rw [a1, List.all_map]
          rfl
        rw [e]
        exact k H2 e2
    · rw [if_neg h1]
      have q := k H (Ex.refl H)
      have e : lettersB z = false := by unfold lettersB; have : ¬ 1 ≤ z.length := by omega
                                        simp [this]
      rw [e] at q
      exact q
abbrev s_is_word : Stmt := top 17
theorem sc_is_word : FnScope ["text"] ["text"] (defScope s_is_word) := ⟨rfl, rfl, rfl, by decide +kernel, rfl, by decide +kernel, by decide +kernel⟩
def spWord : Sp := fun vs H Q _ => ∃ z : Str, vs = [.str z] ∧ z.length ≤ 1000 ∧ ∀ H', Ex H H' → Q (.bl (wordB z)) H'
theorem ok_is_word {f : Addr} {fd : FuncData} (D : Df K mg "is_word" s_is_word ["text"] f fd) (T : Bt mg) (C : Ct K mg) : FnOk P w K mg base CX0 2 f fd ["text"] spWord := by
  obtain ⟨f1, fd1, D_is_letters⟩ := C.is_letters
  have G_is_letters : FnOk P w K mg base CX0 1 f1 fd1 _ _ := ok_is_letters D_is_letters T
  refine D.F.ok sc_is_word (fun vs H Q E h => ?_) (fun cdv A outer s H vs Q E hr h => ?_)
  · obtain ⟨z, rfl, _⟩ := h
    rfl
  · obtain ⟨z, rfl, hl, k⟩ := h
    obtain ⟨tl, g_MAX_LETTERS⟩ := C.g_MAX_LETTERS
    refine ⟨_, (pss_one (ps_ret (pe_and (pe_cmpR (op_leU) (pe_callB (call_lenU (K := K)) (by rfl) T.b_len (by decide +kernel) (pa_cons (pv 0) pa_nil)) (pe_glob (v := .int 8) rfl g_MAX_LETTERS ⟨_, rfl⟩) (nomark _)) (pe_one (pe_call (G_is_letters) (hr.mono (by decide)) rfl D_is_letters.g D_is_letters.F.kp D_is_letters.b .nil pass0 (pa_cons (pv 0) pa_nil)))))), ?_⟩
    walk_at "run"
    refine x_lenS (by rw [sizeLine_eq]; omega) ?_
    walk_at "run"
    by_cases h8 : ((z.length : Nat) : Int) ≤ 8
    · rw [if_pos h8]
      refine ⟨z, rfl, by omega, fun H1 e1 => ?_⟩
      have e : lettersB z = wordB z := by
        unfold lettersB wordB
        have a2 : decide (z.length ≤ 8) = true := by simp; omega
        rw [a2, Bool.and_true]
      rw [e]
      exact k H1 e1
    · rw [if_neg h8]
      have q := k H (Ex.refl H)
      have e : wordB z = false := by unfold wordB; have : ¬ z.length ≤ 8 := by omega
                                     simp [this]
      rw [e] at q
      exact q
abbrev s_is_place : Stmt := top 18
theorem sc_is_place : FnScope ["place", "station", "stations"] ["place", "station", "stations"] (defScope s_is_place) := ⟨rfl, rfl, rfl, by decide +kernel, rfl, by decide +kernel, by decide +kernel⟩
def spPlaceQ : Sp := fun vs H Q _ => ∃ (k : Key) (st n : Int), vs = [kV k, .int st, .int n] ∧ (∀ z, k = .inr z → z.length ≤ 1000) ∧ ∀ H', Ex H H' → Q (.bl (placeB st n k)) H'
theorem ok_is_place {f f1 : Addr} {fd fd1 : FuncData} (D : Df K mg "is_place" s_is_place ["place", "station", "stations"] f fd) (T : Bt mg) (C : Ct K mg) (D_is_word : Df K mg "is_word" s_is_word ["text"] f1 fd1) :
    FnOk P w K mg base CX0 3 f fd ["place", "station", "stations"] spPlaceQ := by
  have G_is_word : FnOk P w K mg base CX0 2 f1 fd1 _ _ := ok_is_word D_is_word T C
  refine D.F.ok sc_is_place (fun vs H Q E h => ?_) (fun cdv A outer s H vs Q E hr h => ?_)
  · obtain ⟨k, st, n, rfl, _⟩ := h
    rfl
  · obtain ⟨key, st, n, rfl, hl, k⟩ := h
    refine ⟨_, (pss_cons (ps_if (pt_val (pe_callB (call_isiU (K := K)) (by rfl) T.b_isinstance (by decide +kernel) (pa_cons (pv 0) (pa_cons (pe_bltn (v := .ty "str") (by rfl) T.b_str (by decide +kernel) rfl) pa_nil)))) (pss_one (ps_ret (pe_call (G_is_word) (hr.mono (by decide)) rfl D_is_word.g D_is_word.F.kp D_is_word.b .nil pass0 (pa_cons (pv 0) pa_nil)))) pss_nil)
      (pss_one (ps_ret (pe_chain (op_ltU) (op_ltU) (pv 1) (pv 0) (pv 2))))), ?_⟩
    cases key with
    | inl j =>
      walk_at "run"
      rw [if_neg Bool.false_ne_true]
      by_cases h : st < j
      · rw [if_pos h]
        have e : placeB st n (.inl j) = decide (j < n) := by unfold placeB; simp [h]
        rw [← e]
        exact k H (Ex.refl H)
      · rw [if_neg h]
        have e : placeB st n (.inl j) = false := by unfold placeB; simp [h]
        rw [← e]
        exact k H (Ex.refl H)
    | inr z =>
      walk_at "run"
      exact ⟨z, rfl, hl z rfl, k⟩
end
end K
set_option Elab.async false
set_option linter.all false
set_option maxRecDepth 100000
set_option maxHeartbeats 4000000
namespace K
open PySem PySem.Spec PyProof.Rows L2 Evl FB
local macro_rules | `(tactic| walk_at "run") => `(tactic| try simp only [tSeq, tAsg, tVar, tC, gName, L2.start, List.map_cons, List.map_nil, List.cons_append, List.nil_append, List.length_cons, List.length_nil, List.replicate, List.getElem?_cons_zero, List.getElem?_cons_succ, Option.some.injEq, exists_eq_left', List.set_cons_zero, List.set_cons_succ, V.ref.injEq, tRet, x_tLst, x_tTup, tCons, tCB, tNil, tOp, x_addI, x_mulI, x_rI, x_rI0, x_ltI, x_leI, x_ltS, x_leS, x_eqI, x_neI, x_eqS, x_eqB, x_neB, x_isiI, x_isiS, x_int, x_max, x_min, cxOf, tIfS, tNext, tTest, V.bl.injEq, decide_eq_true_eq, gSub, tAnd, tOr, tNot, tB, tDrop, tBM, x_tFor, iRng1, iList, iTup, x_tLc, tYes, tCall, tIf, tAndV, tOrV, tNotV, tChain, List.append_nil, tUn, if_true, wipe, true_and, x_never, iU, x_itS, kV, Nat.reduceAdd, Nat.reduceSub, List.replicate_zero, x_rU, x_tMkO, iEnumT])
/-- a network without fault -/
structure ValidN (N : Net) : Prop where
  pos : 1 ≤ N.length
  le : N.length ≤ 40
  st : ∀ (k : Nat) s, N[k]? = some s → 1 ≤ s.length ∧ s.length ≤ 8 ∧ ∀ p ∈ s, placeB k N.length p = true ∧ ∀ z, p = .inr z → z.length ≤ 1000
theorem wordB_W4 {z : Str} (h : z ∈ W4) : wordB z = true ∧ z.length ≤ 8 := by
  unfold W4 at h
  simp only [List.mem_cons, List.not_mem_nil, or_false] at h
  rcases h with rfl | rfl | rfl | rfl <;> exact ⟨by decide +kernel, by decide +kernel⟩
theorem Drawn.valid {N : Net} {most : Int} (D : Drawn N most) (h : most ≤ 40) : ValidN N where
  pos := D.pos
  le := by have := D.le; omega
  st := fun k s hk => by
    obtain ⟨h1, h2, h3⟩ := D.st k s hk
    refine ⟨h1, h2, fun p hp => ?_⟩
    have := h3 p hp
    cases p with
    | inl j =>
      obtain ⟨a, b⟩ := this
      exact ⟨by unfold placeB; simp; omega, fun z e => by cases e⟩
    | inr z =>
      have := wordB_W4 this
      exact ⟨this.1, fun y e => by cases e; omega⟩
theorem ValidN.seat {N : Net} (h : ValidN N) {i : Nat} {s : List Key} (hs : N[i]? = some s) {j : Int} (hp : (.inl j : Key) ∈ s) : (i : Int) < j ∧ j < N.length := by
  have := ((h.st i s hs).2.2 _ hp).1
  unfold placeB at this
  simpa using this
section
variable {P : Program} {w : World} {K : PySem.W.Frag} {mg : Str → Option Value} {base : Heap}
def spCheckOk (K : PySem.W.Frag) : Sp := fun vs H Q _ => ∃ (v : V) (N : Net), vs = [v] ∧ NetAt K H v N ∧ ValidN N ∧ ∀ H', Ex H H' → Q .non H'
abbrev s_check_network : Stmt := top 19
theorem sc_check_network : FnScope ["network", "station", "seats", "seat", "place"] ["network"] (defScope s_check_network) := ⟨rfl, rfl, rfl, by decide +kernel, rfl, by decide +kernel, by decide +kernel⟩
theorem ok_check_network0 {f f1 f2 : Addr} {fd fd1 fd2 : FuncData} (D : Df K mg "check_network" s_check_network ["network"] f fd) (T : Bt mg) (Ck : Ct K mg) (D_is_word : Df K mg "is_word" s_is_word ["text"] f1 fd1)
    (D_is_place : Df K mg "is_place" s_is_place ["place", "station", "stations"] f2 fd2) :
    FnOk P w K mg base CX0 4 f fd ["network"] (spCheckOk K) := by
  have G_is_place : FnOk P w K mg base CX0 3 f2 fd2 _ _ := ok_is_place D_is_place T Ck D_is_word
  refine D.F.ok sc_check_network (fun vs H Q E h => ?_) (fun cdv A outer s H vs Q E hr h => ?_)
  · obtain ⟨v, N, rfl, _⟩ := h
    rfl
  · obtain ⟨v, N, rfl, hN, hV, k1⟩ := h
    have hu := hr.units
    obtain ⟨tML, g_MAX_STATIONS⟩ := Ck.g_MAX_STATIONS
    obtain ⟨tMS, g_MAX_SEATS⟩ := Ck.g_MAX_SEATS
    refine ⟨_, (pss_cons (ps_if (pt_cmpR (op_eqU (K := K) hu) (pe_callB (call_lenU (K := K)) (by rfl) T.b_len (by decide +kernel) (pa_cons (pv 0) pa_nil)) pe_int (nomark _)) pss_never pss_nil)
      (pss_one (ps_for PassesOwn.never rfl (pi_enumT (by rfl) T.b_enumerate (pa_cons (pv 0) pa_nil)) (pg_tup rfl (pgs_cons (pg_name (i := 1) sc_check_network.nd rfl (Or.inl rfl)) (pgs_cons (pg_name (i := 2) sc_check_network.nd rfl (Or.inl rfl)) pgs_nil))) (pss_cons (ps_if (PW.pt (pw_or (pt_cmpR (op_eqU (K := K) hu) (pv 1) (pe_glob (v := .int 40) rfl g_MAX_STATIONS ⟨_, rfl⟩) (nomark _)) (pw_or1 (pt_not (pt_chain (op_leU) (op_leU) pe_int (pe_callB (call_lenU (K := K)) (by rfl) T.b_len (by decide +kernel) (pa_cons (pv 2) pa_nil)) (pe_glob (v := .int 8) rfl g_MAX_SEATS ⟨_, rfl⟩)))))) pss_never pss_nil)
      (pss_one (ps_for PassesOwn.never rfl (pi_enumT (by rfl) T.b_enumerate (pa_cons (pv 2) pa_nil)) (pg_tup rfl (pgs_cons (pg_name (i := 3) sc_check_network.nd rfl (Or.inl rfl)) (pgs_cons (pg_name (i := 4) sc_check_network.nd rfl (Or.inl rfl)) pgs_nil))) (pss_one (ps_if (pt_not (pt_val (pe_call (G_is_place) (hr.mono (by decide)) rfl D_is_place.g D_is_place.F.kp D_is_place.b .nil pass0 (pa_cons (pv 4) (pa_cons (pv 1) (pa_cons (pe_callB (call_lenU (K := K)) (by rfl) T.b_len (by decide +kernel) (pa_cons (pv 0) pa_nil)) pa_nil)))))) pss_never pss_nil)))))))), ?_⟩
    walk_at "run"
    obtain ⟨a, ts, rfl, hT, hts⟩ := hN.at
    have hl : ts.length = N.length := by rw [hts.len, List.length_map]
    have hp := hV.pos
    have h40 := hV.le
    refine x_lenT hT ?_
    rw [hl]
    walk_at "run"
    rw [if_neg (by omega)]
    refine ⟨_, _, rfl, hT, loop_it walk_enumT (fun i σ H' => ∃ u1 u2 u3 u4, σ = [some (.ref a), u1, u2, u3, u4] ∧ Ex H H') ⟨_, _, _, _, rfl, Ex.refl H⟩
      (fun i σ H' _ ⟨_, _, _, _, _, e⟩ => ex_t e hT) ?_ ?_⟩
    · rintro i v σ H1 H2 hi ⟨u1, u2, u3, u4, rfl, e1⟩ ⟨T0, x, y, rfl, hT0, rfl, hx, hy⟩
      obtain rfl : V.int (i : Nat) = x := Option.some.inj hx
      have e2 : Ex H (upd H1 T0 (.tup [.int (i : Nat), y])) := e1.trans (Ex.new hT0)
      refine x_two (SqT.of upd_same) ?_
      generalize upd H1 T0 (.tup [.int (i : Nat), y]) = H2 at e2
      obtain ⟨sD, hs, hy2⟩ := hts.get' hy
      obtain ⟨s, hsN, rfl⟩ : ∃ s, N[i]? = some s ∧ stD s = sD := by simpa using hs
      obtain ⟨b, rfl, hB⟩ := StAt.at hy2
      obtain ⟨s1, s2, s3⟩ := hV.st i s hsN
      walk_at "run"
      rw [if_neg (by omega)]
      refine x_lenT (ex_t e2 hB) ?_
      rw [List.length_map]
      walk_at "run"
      rw [if_pos (by omega), if_neg (by simp; omega)]
      refine ⟨_, _, rfl, ex_t e2 hB, loop_it walk_enumT (fun j σ H' => ∃ u3 u4, σ = [some (.ref a), some (.int i), some (.ref b), u3, u4] ∧ Ex H H') ⟨_, _, rfl, e2⟩
        (fun j σ H' _ ⟨_, _, _, e⟩ => ex_t e hB) ?_ ?_⟩
      · rintro j v σ H3 H4 hj ⟨u3, u4, rfl, e3⟩ ⟨T1, x, y, rfl, hT1, rfl, hx, hy⟩
        obtain rfl : V.int (j : Nat) = x := Option.some.inj hx
        have e4 : Ex H (upd H3 T1 (.tup [.int (j : Nat), y])) := e3.trans (Ex.new hT1)
        refine x_two (SqT.of upd_same) ?_
        generalize upd H3 T1 (.tup [.int (j : Nat), y]) = H4 at e4
        obtain ⟨p, hp, rfl⟩ : ∃ p, s[j]? = some p ∧ kV p = y := by simpa using hy
        have hpm := s3 p (List.mem_of_getElem? hp)
        walk_at "run"
        refine x_lenT (ex_t e4 hT) ?_
        rw [hl]
        refine ⟨p, i, N.length, rfl, hpm.2, fun H5 e5 => ⟨_, rfl, ?_⟩⟩
        rw [if_neg (by rw [hpm.1]; decide)]
        exact ⟨_, _, rfl, e4.trans e5⟩
      · rintro σ H3 ⟨u3, u4, rfl, e3⟩
        exact ⟨_, _, _, _, rfl, e3⟩
    · rintro σ H1 ⟨u1, u2, u3, u4, rfl, e1⟩
      exact k1 H1 e1
end
/-- what is enough of a network for the counting -/
structure CntN (N : Net) : Prop where
  le : N.length ≤ 40
  st : ∀ s ∈ N, 1 ≤ s.length ∧ s.length ≤ 8
  fw : ∀ (i : Nat) s, N[i]? = some s → ∀ j : Int, (.inl j : Key) ∈ s → (i : Int) < j ∧ j < N.length
theorem ValidN.cnt {N : Net} (h : ValidN N) : CntN N :=
  ⟨h.le, fun s hs => by
    obtain ⟨k, hk⟩ := List.mem_iff_getElem?.mp hs
    obtain ⟨a, b, _⟩ := h.st k s hk
    exact ⟨a, b⟩, fun i s hs j hj => h.seat hs hj⟩
theorem seats_len {N : Net} (h : CntN N) {k : Nat} (hk : k ≤ N.length) : (seatsOf N k).length ≤ 320 := by
  have := seatsOf_len (N := N) (fun s hs => (h.st s hs).2) k
  have := h.le
  omega
end K
set_option Elab.async false
set_option linter.all false
set_option maxRecDepth 100000
set_option maxHeartbeats 4000000
namespace K
open PySem PySem.Spec PyProof.Rows L2 Evl FB
local macro_rules | `(tactic| walk_at "run") => `(tactic| try simp only [tSeq, tAsg, tVar, tC, gName, L2.start, List.map_cons, List.map_nil, List.cons_append, List.nil_append, List.length_cons, List.length_nil, List.replicate, List.getElem?_cons_zero, List.getElem?_cons_succ, Option.some.injEq, exists_eq_left', List.set_cons_zero, List.set_cons_succ, V.ref.injEq, tRet, x_tLst, x_tTup, tCons, tCB, tNil, tOp, x_addI, x_mulI, x_rI, x_rI0, x_ltI, x_leI, x_ltS, x_leS, x_eqI, x_neI, x_eqS, x_eqB, x_neB, x_isiI, x_isiS, x_int, x_max, x_min, cxOf, tIfS, tNext, tTest, V.bl.injEq, decide_eq_true_eq, gSub, tAnd, tOr, tNot, tB, tDrop, tBM, x_tFor, iRng1, iList, iTup, x_tLc, tYes, tCall, tIf, tAndV, tOrV, tNotV, tChain, List.append_nil, tUn, if_true, wipe, true_and, x_never, iU, x_itS, kV, Nat.reduceAdd, Nat.reduceSub, List.replicate_zero, x_rU, x_tMkO, iEnumT, x_tDc, x_tDGet, x_tDGet2, x_sDPut, x_tDSetd, x_tDNewK, x_iItems, x_iZip])
section
variable {P : Program} {w : World} {K : PySem.W.Frag} {mg : Str → Option Value} {base : Heap}
abbrev s_find_feeders : Stmt := top 9
theorem sc_find_feeders : FnScope ["network", "station", "feeders", "seats", "place", "sources"] ["network"] (defScope s_find_feeders) := ⟨rfl, rfl, rfl, by decide +kernel, rfl, by decide +kernel, by decide +kernel⟩
def spFeed (K : PySem.W.Frag) : Sp := fun vs H Q _ => ∃ (v : V) (N : Net), vs = [v] ∧ NetAt K H v N ∧ CntN N ∧ ∀ H' D A G kvs, Feed H H' D N.length (seatsOf N N.length) A G kvs → H' D = some (.dK kvs) → Q (.ref D) H'
theorem ok_find_feeders {f : Addr} {fd : FuncData} (D : Df K mg "find_feeders" s_find_feeders ["network"] f fd) (T : Bt mg) : FnOk P w K mg base CX0 1 f fd ["network"] (spFeed K) := by
  refine D.F.ok sc_find_feeders (fun vs H Q E h => ?_) (fun cdv A outer s H vs Q E hr h => ?_)
  · obtain ⟨v, N, rfl, _⟩ := h
    rfl
  · obtain ⟨v, N, rfl, hN, hC, q⟩ := h
    have hu1 := hu_of hr
    refine ⟨_, (pss_cons (ps_setDc (i := 2) (own := [("station", 1)]) (g := gName 1) (tt := tYes) rfl sc_find_feeders.nd rfl rfl (sw_trueD rfl rfl rfl (by decide +kernel)) (pi_range1 (by rfl) T.b_range (pa_cons (pe_callB (call_lenU (K := K)) (by rfl) T.b_len (by decide +kernel) (pa_cons (pv 0) pa_nil)) pa_nil)) (blkOk_by (own := [("station", 1)]) (N := ["network", "station", "feeders", "seats", "place", "sources"]) (sc := defScope s_find_feeders) (by decide +kernel)) (fun _ _ _ _ _ => (pg_name (i := 1) sc_find_feeders.nd rfl (Or.inl rfl))) (fun _ _ _ _ _ => pts_nil) (fun _ _ _ _ _ => (pv 1)) (fun _ _ _ _ _ => pe_dnewK))
      (pss_cons (ps_for PassesOwn.never rfl (pi_enumT (by rfl) T.b_enumerate (pa_cons (pv 0) pa_nil)) (pg_tup rfl (pgs_cons (pg_name (i := 1) sc_find_feeders.nd rfl (Or.inl rfl)) (pgs_cons (pg_name (i := 3) sc_find_feeders.nd rfl (Or.inl rfl)) pgs_nil))) (pss_one (ps_for PassesOwn.never rfl (pi_U (K := K) (pv 3)) (pg_name (i := 4) sc_find_feeders.nd rfl (Or.inl rfl)) (pss_cons (ps_set (i := 5) sc_find_feeders.nd rfl (Or.inl rfl) (pe_dsetd (pv 2) (pv 4) pe_dnewK ⟨rfl, rfl, rfl, rfl⟩))
      (pss_one (ps_dput hu1 (pv 5) (pv 1) (pe_op (op_addU (K := K)) (pe_dget2 hu1 (pv 5) (pv 1) pe_int ⟨rfl, rfl, rfl, rfl⟩) pe_int) rfl))))))
      (pss_one (ps_ret (pv 2))))), ?_⟩
    walk_at "run"
    obtain ⟨a, ts, rfl, hT, hts⟩ := hN.at
    have hl : ts.length = N.length := by rw [hts.len, List.length_map]
    have h40 := hC.le
    refine x_lenT hT ?_
    rw [hl]
    refine ⟨_, rfl, by omega, by omega, ?_⟩
    refine dcl_it walk_range (fun D i H' => ∃ A G kvs, Feed H H' D i [] A G kvs ∧ H' D = some (.dK kvs)) (fun D H' hD e h => ⟨_, _, _, Feed.start hD e, h⟩) (fun _ _ _ _ _ => trivial) ?_ ?_
    · rintro D i x H1 H1' hD hi ⟨A, G, kvs, F, hd⟩ ⟨eH, rfl⟩
      subst eH
      walk_at "run"
      have hi : i < N.length := by simpa using hi
      have hz : (0 : Int) + i = (i : Int) := by omega
      rw [hz]
      refine x_dnew fun z H2 nz e2 h2 => ?_
      have hl2 := F.len
      refine x_putD (k := .inl (i : Int)) (e2 _ _ hd) (by simp at hl2; omega) fun H3 e3 h3 => ⟨_, _, _, F.key (fresh_back F.ex nz) (ne_of_none hd nz).symm (fun q a h => ne_of_none (F.inn q a h) nz) (fun x o hx h => e3 _ _ hx (e2 _ _ h)) (e3 _ _ (ne_of_none hd nz).symm h2), h3⟩
    · rintro D H1 hD ⟨A, G, kvs, F, hd⟩
      walk_at "run"
      have hn : (((N.length : Nat) : Int)).toNat = N.length := by omega
      rw [hn] at F
      refine ⟨_, _, rfl, ex_t F.ex hT, loop_it walk_enumT (fun i σ H' => ∃ u1 u3 u4 u5 A G kvs, σ = [some (.ref a), u1, some (.ref D), u3, u4, u5] ∧ Feed H H' D N.length (seatsOf N i) A G kvs ∧ H' D = some (.dK kvs)) ⟨_, _, _, _, _, _, _, rfl, F, hd⟩
        (fun i σ H' _ ⟨_, _, _, _, _, _, _, _, F, _⟩ => ex_t F.ex hT) ?_ ?_⟩
      · rintro i v σ H2 H3 hi ⟨u1, u3, u4, u5, A, G, kvs, rfl, F, hd⟩ ⟨T0, x, y, rfl, hT0, rfl, hx, hy⟩
        obtain rfl : V.int (i : Nat) = x := Option.some.inj hx
        have e2 : Ex H2 (upd H2 T0 (.tup [.int (i : Nat), y])) := Ex.new hT0
        refine x_two (SqT.of upd_same) ?_
        generalize upd H2 T0 (.tup [.int (i : Nat), y]) = H3 at e2
        have F := F.ex2 e2
        have hd := e2 _ _ hd
        obtain ⟨sD, hs, hy2⟩ := hts.get' hy
        obtain ⟨s, hsN, rfl⟩ : ∃ s, N[i]? = some s ∧ stD s = sD := by simpa using hs
        obtain ⟨b, rfl, hB⟩ := StAt.at hy2
        have hiN : i < N.length := (List.getElem?_eq_some_iff.mp hsN).1
        have hs8 := (hC.st s (List.mem_of_getElem? hsN)).2
        have hLi := seats_len hC (k := i) (by omega)
        walk_at "run"
        refine x_itT (ex_t F.ex hB) (loop_it walk_tup (fun j σ H' => ∃ u4 u5 A G kvs, σ = [some (.ref a), some (.int i), some (.ref D), some (.ref b), u4, u5] ∧ Feed H H' D N.length (seatsOf N i ++ stSeats i (s.take j)) A G kvs ∧ H' D = some (.dK kvs)) ⟨_, _, _, _, _, rfl, by simpa [stSeats] using F, hd⟩
          (fun j σ H' _ ⟨_, _, _, _, _, _, F, _⟩ => ex_t F.ex hB) ?_ ?_)
        · rintro j x σ H4 H4' hj ⟨u4, u5, A, G, kvs, rfl, F, hd⟩ ⟨eH, hx⟩
          subst eH
          obtain ⟨p, hp, rfl⟩ : ∃ p, s[j]? = some p ∧ kV p = x := by simpa using hx
          have hL : (seatsOf N i ++ stSeats i (s.take j)).length ≤ 328 := by
            rw [List.length_append]
            have : (stSeats i (s.take j)).length ≤ 8 := by unfold stSeats; simp; omega
            omega
          have hkl := F.len
          have hLe : seatsOf N i ++ stSeats i (s.take (j + 1)) = (seatsOf N i ++ stSeats i (s.take j)) ++ [(i, p)] := by
            unfold stSeats
            rw [List.take_add_one, hp, List.map_append, List.append_assoc]
            rfl
          rw [hLe]
          generalize seatsOf N i ++ stSeats i (s.take j) = L at F hL hkl
          walk_at "run"
          refine ⟨isD_k hd, x_dnew fun z H5 nz e5 h5 => ?_⟩
          have nz0 := fresh_back F.ex nz
          have nzA : ∀ q a, A q = some a → a ≠ z := fun q a h => ne_of_none (F.inn q a h) nz
          have F := F.ex2 e5
          have hd5 := e5 _ _ hd
          -- the place's dict is at z2; it is asked, and put
          have fin : ∀ (z2 : Addr) (H6 : Hp) (kvs2 : List (Key × V)), (A p = some z2 ∨ (A p = none ∧ H z2 = none ∧ z2 ≠ D ∧ ∀ q a, A q = some a → a ≠ z2)) → (∀ x o, x ≠ D → H5 x = some o → H6 x = some o) → H6 D = some (.dK kvs2) → kvs2 = (if A p = none then putK kvs p (.ref z2) else kvs) → H6 z2 = some (.dK (cntV (G p))) →
              IsD H6 z2 ∧ rDGet2 z2 (V.int (i : Nat)) (V.int 0) H6 fun x H1 => rAddU K x (V.int 1) H1 fun v H1 => rDPut (V.ref z2) (V.int (i : Nat)) v H1
                ((fun σ H' => ∃ u4 u5 A G kvs, σ = [some (V.ref a), some (V.int (i : Nat)), some (V.ref D), some (V.ref b), u4, u5] ∧ Feed H H' D N.length (L ++ [(i, p)]) A G kvs ∧ H' D = some (.dK kvs)) [some (V.ref a), some (V.int (i : Nat)), some (V.ref D), some (V.ref b), some (kV p), some (V.ref z2)]) := by
            intro z2 H6 kvs2 hz e6 hd6 hk6 h6
            refine ⟨isD_k h6, x_dget2 (k := .inl (i : Int)) h6 ?_⟩
            rw [val_cntV]
            walk_at "run"
            have hg := F.lenG p
            refine x_dput (k := .inl (i : Int)) h6 (by unfold cntV; simp; omega) fun H7 e7 _ h7 => ?_
            rw [put_cntV (F.ndG p)] at h7
            have hzD : z2 ≠ D := by
              rcases hz with h | h
              · exact F.ne _ _ h
              · exact h.2.2.1
            refine ⟨_, _, _, _, _, rfl, F.seat hz (fun x o h1 h2 h => e7 _ _ h2 (e6 _ _ h1 h)) h7, ?_⟩
            rw [← hk6]
            exact e7 _ _ hzD.symm hd6
          refine x_dsetd hd5 (by omega) (fun v hv => ?_) (fun hv H6 e6 _ h6 => ?_)
          · rw [F.val] at hv
            obtain ⟨z2, hz2, rfl⟩ : ∃ z2, A p = some z2 ∧ V.ref z2 = v := by simpa using hv
            walk_at "run"
            exact fin z2 H5 kvs (.inl hz2) (fun _ _ _ h => h) hd5 (by rw [if_neg (by rw [hz2]; simp)]) (F.inn _ _ hz2)
          · rw [F.val] at hv
            have hA : A p = none := by simpa using hv
            have zD : z ≠ D := (ne_of_none hd nz).symm
            walk_at "run"
            exact fin z H6 _ (.inr ⟨hA, nz0, zD, nzA⟩) e6 h6 (by rw [if_pos hA]) (by rw [F.empty hA]; exact e6 _ _ zD h5)
        · rintro σ H4 ⟨u4, u5, A, G, kvs, rfl, F, hd⟩
          refine ⟨_, _, _, _, A, G, kvs, rfl, ?_, hd⟩
          have e : seatsOf N (i + 1) = seatsOf N i ++ stSeats i s := by
            show seatsOf N i ++ stSeats i (N.getD i []) = _
            rw [List.getD_eq_getElem?_getD, hsN]; rfl
          rw [e]
          have e2 : s.take ((s.map kV).length) = s := by rw [List.length_map, List.take_length]
          rw [e2] at F
          exact F
      · rintro σ H4 ⟨u1, u3, u4, u5, A, G, kvs, rfl, F, hd⟩
        walk_at "run"
        rw [hl] at F
        exact q _ _ _ _ _ F hd
end
end K
set_option Elab.async false
set_option linter.all false
set_option maxRecDepth 100000
set_option maxHeartbeats 4000000
namespace K
open PySem PySem.Spec PyProof.Rows L2 Evl FB
local macro_rules | `(tactic| walk_at "run") => `(tactic| try simp only [tSeq, tAsg, tVar, tC, gName, L2.start, List.map_cons, List.map_nil, List.cons_append, List.nil_append, List.length_cons, List.length_nil, List.replicate, List.getElem?_cons_zero, List.getElem?_cons_succ, Option.some.injEq, exists_eq_left', List.set_cons_zero, List.set_cons_succ, V.ref.injEq, tRet, x_tLst, x_tTup, tCons, tCB, tNil, tOp, x_addI, x_mulI, x_rI, x_rI0, x_ltI, x_leI, x_ltS, x_leS, x_eqI, x_neI, x_eqS, x_eqB, x_neB, x_isiI, x_isiS, x_int, x_max, x_min, cxOf, tIfS, tNext, tTest, V.bl.injEq, decide_eq_true_eq, gSub, tAnd, tOr, tNot, tB, tDrop, tBM, x_tFor, iRng1, iList, iTup, x_tLc, tYes, tCall, tIf, tAndV, tOrV, tNotV, tChain, List.append_nil, tUn, if_true, wipe, true_and, x_never, iU, x_itS, kV, Nat.reduceAdd, Nat.reduceSub, List.replicate_zero, x_rU, x_tMkO, iEnumT, x_tDc, x_tDGet, x_tDGet2, x_sDPut, x_tDSetd, x_tDNewK, x_iItems, x_iZip])
/-- what boats bs carry to a place with the feeders G -/
def brought (bs : List Int) (G : Cnt) : Int := cntQ (fun i => bs.getD i 0) G
theorem sum_brought {bs : List Int} : ∀ {G : Cnt}, (G.map fun g => g.2 * bs.getD g.1 0).sum = brought bs G
  | [] => rfl
  | (i, c) :: r => by
    rw [List.map_cons, List.sum_cons, sum_brought]; rfl
theorem ex_unlock {H H1 H2 : Hp} {d : Addr} {u : HO} (h : H d = some u) (e : ∀ x o, x ≠ d → H x = some o → H1 x = some o) (f : Ex H1 H2) : Ex H (upd H2 d u) := fun x o hx => by
  by_cases z : x = d
  · subst z
    rw [upd_same, ← h, hx]
  · rw [upd_ne z]; exact f _ _ (e _ _ z hx)
/-- how many join the station k, by the boats bs so far -/
def joins (N : Net) (c : Int) (bs : List Int) (k : Nat) : Int := if k = 0 then c else toQ (fun i => bs.getD i 0) (.inl (k : Int)) (seatsOf N N.length)
/-- the boats of the first k stations -/
def bts (N : Net) (ls : List Int) (c : Int) : Nat → List Int
  | 0 => []
  | k + 1 => bts N ls c k ++ [(ls.getD k 0 + joins N c (bts N ls c k) k).fdiv ((N.getD k []).length : Nat)]
theorem bts_len {N : Net} {ls : List Int} {c : Int} : ∀ {k}, (bts N ls c k).length = k
  | 0 => rfl
  | k + 1 => by
    show (bts N ls c k ++ [_]).length = k + 1
    rw [List.length_append, bts_len]; rfl
section
variable {P : Program} {w : World} {K : PySem.W.Frag} {mg : Str → Option Value} {base : Heap}
abbrev s_count_brought : Stmt := top 10
theorem sc_count_brought : FnScope ["sources", "boats", "station", "seats"] ["sources", "boats"] (defScope s_count_brought) := ⟨rfl, rfl, rfl, by decide +kernel, rfl, by decide +kernel, by decide +kernel⟩
def spBrought (K : PySem.W.Frag) : Sp := fun vs H Q _ => ∃ (d b : Addr) (G : Cnt) (bs : List Int), vs = [.ref d, .ref b] ∧ H d = some (.dK (cntV G)) ∧ SqL K H b (bs.map V.int) ∧ G.length ≤ 1000 ∧ (∀ g ∈ G, g.1 < bs.length ∧ 0 < g.2 ∧ g.2 ≤ 1000) ∧ ∀ H', Ex H H' → Q (.int (brought bs G)) H'
theorem ok_count_brought {f : Addr} {fd : FuncData} (D : Df K mg "count_brought" s_count_brought ["sources", "boats"] f fd) (T : Bt mg) : FnOk P w K mg base CX0 1 f fd ["sources", "boats"] (spBrought K) := by
  refine D.F.ok sc_count_brought (fun vs H Q E h => ?_) (fun cdv A outer s H vs Q E hr h => ?_)
  · obtain ⟨v, b, G, N, rfl, _⟩ := h
    rfl
  · obtain ⟨d, b, G, bs, rfl, hd, hb, hl, hG, q⟩ := h
    have hu1 := hu_of hr
    refine ⟨_, (pss_one (ps_ret (pe_callB (cr_sum rfl) (by rfl) T.b_sum (by decide +kernel) (pa_cons (pe_lock (pe_lc (own := [("station", 2), ("seats", 3)]) (g := gTup K 2 (gCons (gName 2) (gCons (gName 3) gNil))) (tt := tYes) rfl sc_count_brought.nd (pi_items (pv 0)) (blkOk_by (own := [("station", 2), ("seats", 3)]) (N := ["sources", "boats", "station", "seats"]) (sc := defScope s_count_brought) (by decide +kernel)) (fun _ _ _ _ _ => (pg_tup rfl (pgs_cons (pg_name (i := 2) sc_count_brought.nd rfl (Or.inl rfl)) (pgs_cons (pg_name (i := 3) sc_count_brought.nd rfl (Or.inl rfl)) pgs_nil)))) (fun _ _ _ _ _ => pts_nil) (fun _ _ _ _ _ => (pe_op (op_mulU (K := K)) (pv 3) (pe_ix (ix_U (K := K)) (pv 1) (pv 2) (fun _ _ => rfl)))))) pa_nil)))), ?_⟩
    walk_at "run"
    refine x_lock hd trivial fun od H1 e1 n1 h1 => ?_
    walk_at "run"
    refine x_items h1 (lcl_it walk_items (fun D i H' => Ex H1 H' ∧ H' D = some (.lst (((G.take i).map fun g => g.2 * bs.getD g.1 0).map V.int))) (fun D H' hD e h => ⟨e, h⟩) (fun D i H' _ h => h.1 _ _ h1) ?_ ?_)
    · rintro D i x H2 H3 hD hi ⟨e2, h2⟩ ⟨T0, x, y, rfl, hT0, rfl, hx, hy⟩
      have e3 : Ex H2 (upd H2 T0 (.tup [x, y])) := Ex.new hT0
      refine x_two (SqT.of upd_same) ?_
      generalize upd H2 T0 (.tup [x, y]) = H3 at e3
      obtain ⟨g, hg, rfl, rfl⟩ : ∃ g, G[i]? = some g ∧ V.int (g.1 : Nat) = x ∧ V.int g.2 = y := by
        cases e : G[i]? with
        | none => simp [cntV, e] at hx
        | some g =>
          simp [cntV, e] at hx hy
          exact ⟨g, rfl, hx, hy⟩
      obtain ⟨g1, g2, g3⟩ := hG g (List.mem_of_getElem? hg)
      walk_at "run"
      refine x_ixL (ex_l (e2.trans e3) (sq_but hb hd e1)) (atI_nat (v := .int (bs.getD g.1 0)) (by simp [List.getD_eq_getElem?_getD, g1])) ?_
      walk_at "run"
      refine ⟨.inl ⟨by omega, by omega⟩, ?_⟩
      refine x_push (e3 _ _ h2) (by simp; omega) fun H5 e5 h5 => ⟨fun x o hx => e5 _ _ (ne_of_none hx hD) (e3 _ _ (e2 _ _ hx)), ?_⟩
      rw [h5, List.take_add_one, hg]
      simp
    · rintro D H2 hD ⟨e2, h2⟩
      have hle : (cntV G).length = G.length := by unfold cntV; simp
      rw [hle, List.take_length] at h2
      have hDd : D ≠ d := fun z => by subst z; rw [h1] at hD; cases hD
      refine ⟨e2 _ _ h1, x_sum (ns := G.map fun g => g.2 * bs.getD g.1 0) (SqL.of (by rw [upd_ne hDd]; exact h2)) ?_⟩
      rw [sum_brought]
      exact q _ (ex_unlock hd e1 e2)
abbrev s_count_departures : Stmt := top 11
theorem sc_count_departures : FnScope ["network", "feeders", "lengths", "arrivals", "boats", "station", "seats", "joined"] ["network", "feeders", "lengths", "arrivals"] (defScope s_count_departures) := ⟨rfl, rfl, rfl, by decide +kernel, rfl, by decide +kernel, by decide +kernel⟩
def spDep (K : PySem.W.Frag) : Sp := fun vs H Q _ => ∃ (v : V) (N : Net) (D l : Addr) (H0 : Hp) (A : Key → Option Addr) (G : Key → Cnt) (kvs : List (Key × V)) (ls : List Int) (c : Int), vs = [v, .ref D, .ref l, .int c] ∧ NetAt K H v N ∧ CntN N ∧ Feed H0 H D N.length (seatsOf N N.length) A G kvs ∧ H D = some (.dK kvs) ∧
  SqL K H l (ls.map V.int) ∧ ls.length = N.length ∧ ∀ H' p, Ex H H' → H p = none → H' p = some (.lst ((bts N ls c N.length).map V.int)) → Q (.ref p) H'
theorem ok_count_departures {f f1 : Addr} {fd fd1 : FuncData} (D : Df K mg "count_departures" s_count_departures ["network", "feeders", "lengths", "arrivals"] f fd) (T : Bt mg) (D_count_brought : Df K mg "count_brought" s_count_brought ["sources", "boats"] f1 fd1) : FnOk P w K mg base CX0 2 f fd ["network", "feeders", "lengths", "arrivals"] (spDep K) := by
  have G_count_brought : FnOk P w K mg base CX0 1 f1 fd1 _ _ := ok_count_brought D_count_brought T
  refine D.F.ok sc_count_departures (fun vs H Q E h => ?_) (fun cdv A outer s H vs Q E hr h => ?_)
  · obtain ⟨v, N, D, l, H0, A, G, kvs, ls, c, rfl, _⟩ := h
    rfl
  · obtain ⟨v, N, D, l, H0, A, G, kvs, ls, c, rfl, hN, hC, F, hD, hls, hll, q⟩ := h
    have hu := hr.units
    have hu1 := hu_of hr
    refine ⟨_, (pss_cons (ps_set (i := 4) sc_count_departures.nd rfl (Or.inl rfl) (pe_lst pa_nil))
      (pss_cons (ps_for PassesOwn.never rfl (pi_enumT (by rfl) T.b_enumerate (pa_cons (pv 0) pa_nil)) (pg_tup rfl (pgs_cons (pg_name (i := 5) sc_count_departures.nd rfl (Or.inl rfl)) (pgs_cons (pg_name (i := 6) sc_count_departures.nd rfl (Or.inl rfl)) pgs_nil))) (pss_cons (ps_set (i := 7) sc_count_departures.nd rfl (Or.inl rfl) (pe_ifExp (pt_cmpR (op_eqU (K := K) hu) (pv 5) pe_int (nomark _)) (pv 3) (pe_call (G_count_brought) (hr.mono (by decide)) rfl D_count_brought.g D_count_brought.F.kp D_count_brought.b .nil pass0 (pa_cons (pe_dget hu1 (pv 1) (pv 5) (fun _ _ => rfl)) (pa_cons (pv 4) pa_nil)))))
      (pss_one (ps_expr (pe_bm PySem.F.plainAttrs_list PySem.F.slot_list_append PySem.F.type_list_append mt_append (pv 4) (pa_cons (pe_op op_fdivN (pe_op (op_addU (K := K)) (pe_ix (ix_U (K := K)) (pv 2) (pv 5) (fun _ _ => rfl)) (pv 7)) (pe_callB (call_lenU (K := K)) (by rfl) T.b_len (by decide +kernel) (pa_cons (pv 6) pa_nil))) pa_nil))))))
      (pss_one (ps_ret (pv 4))))), ?_⟩
    walk_at "run"
    obtain ⟨a, ts, rfl, hT, hts⟩ := hN.at
    have hl : ts.length = N.length := by rw [hts.len, List.length_map]
    have h40 := hC.le
    refine x_lst (by simp) fun B H1 nB e1 hB => ?_
    refine ⟨_, _, rfl, ex_t e1 hT, loop_it walk_enumT (fun i σ H' => ∃ u5 u6 u7, σ = [some (.ref a), some (.ref D), some (.ref l), some (.int c), some (.ref B), u5, u6, u7] ∧ Ex H H' ∧ H' B = some (.lst ((bts N ls c i).map V.int))) ⟨_, _, _, rfl, e1, hB⟩
      (fun i σ H' _ ⟨_, _, _, _, e, _⟩ => ex_t e hT) ?_ ?_⟩
    · rintro i v σ H2 H3 hi ⟨u5, u6, u7, rfl, e2, hB2⟩ ⟨T0, x, y, rfl, hT0, rfl, hx, hy⟩
      obtain rfl : V.int (i : Nat) = x := Option.some.inj hx
      have e3 : Ex H2 (upd H2 T0 (.tup [.int (i : Nat), y])) := Ex.new hT0
      refine x_two (SqT.of upd_same) ?_
      generalize upd H2 T0 (.tup [.int (i : Nat), y]) = H3 at e3
      have hB3 := e3 _ _ hB2
      have e03 := e2.trans e3
      obtain ⟨sD, hs, hy2⟩ := hts.get' hy
      obtain ⟨s, hsN, rfl⟩ : ∃ s, N[i]? = some s ∧ stD s = sD := by simpa using hs
      obtain ⟨b, rfl, hb⟩ := StAt.at hy2
      have hiN : i < N.length := (List.getElem?_eq_some_iff.mp hsN).1
      obtain ⟨hs1, hs8⟩ := hC.st s (List.mem_of_getElem? hsN)
      -- behind the name joined
      have fin : ∀ (j : Int) (H4 : Hp), j = joins N c (bts N ls c i) i → Ex H3 H4 → rIx K (V.ref l) (V.int (i : Nat)) H4 fun x H1 => rAddU K x (V.int j) H1 fun x H1 => rLenU K [V.ref b] H1 fun y H2 => rI CDivN (fun i j => V.int (i.fdiv j)) x y H2 fun v H1 =>
          rAppend (V.ref B) [v] H1 fun x H' => (fun σ H' => ∃ u5 u6 u7, σ = [some (V.ref a), some (V.ref D), some (V.ref l), some (V.int c), some (V.ref B), u5, u6, u7] ∧ Ex H H' ∧ H' B = some (.lst ((bts N ls c (i + 1)).map V.int))) [some (V.ref a), some (V.ref D), some (V.ref l), some (V.int c), some (V.ref B), some (V.int (i : Nat)), some (V.ref b), some (V.int j)] H' := by
        rintro j H4 rfl e4
        refine x_ixL (ex_l (e03.trans e4) hls) (atI_nat (v := .int (ls.getD i 0)) (by simp [List.getD_eq_getElem?_getD, hll, hiN])) ?_
        walk_at "run"
        refine x_lenT (ex_t (e03.trans e4) hb) ?_
        rw [List.length_map]
        walk_at "run"
        refine ⟨⟨by omega, by omega⟩, x_append (e4 _ _ hB3) (by rw [List.length_map, bts_len]; omega) fun H5 e5 h5 => ?_⟩
        refine ⟨_, _, _, rfl, fun x o hx => e5 _ _ (ne_of_none hx nB) (e4 _ _ (e03 _ _ hx)), ?_⟩
        rw [h5]
        show _ = some (HO.lst (List.map V.int (bts N ls c i ++ [_])))
        have hg : N.getD i [] = s := by rw [List.getD_eq_getElem?_getD, hsN]; rfl
        rw [List.map_append, hg]
        rfl
      walk_at "run"
      by_cases h0 : i = 0
      · rw [if_pos (by omega)]
        exact ⟨x_tyL (SqL.of hB3), fin c H3 (by unfold joins; rw [if_pos h0]) (Ex.refl _)⟩
      · rw [if_neg (by omega)]
        obtain ⟨dq, hdq⟩ : ∃ dq, A (.inl (i : Int)) = some dq := by
          have := (F.keys (.inl (i : Int))).mpr (.inl ⟨i, hiN, rfl⟩)
          exact Option.isSome_iff_exists.mp this
        refine x_dget (k := .inl (i : Int)) (e03 _ _ hD) (by rw [F.val, hdq]; rfl) ?_
        have hlen := seats_len hC (k := N.length) (Nat.le_refl _)
        have hlg := F.lenG (.inl (i : Int))
        refine ⟨dq, B, _, _, rfl, e03 _ _ (F.inn _ _ hdq), SqL.of hB3, by omega, fun g hg => ⟨?_, (F.le _ g hg).1, by have := (F.le _ g hg).2; omega⟩, fun H4 e4 => ⟨x_tyL (SqL.of (e4 _ _ hB3)), fin _ H4 ?_ e4⟩⟩
        · rw [bts_len]
          have hm := F.mem _ g hg
          obtain ⟨h1, h2⟩ := mem_seatsOf.mp hm
          have hgN : N[g.1]? = some (N.getD g.1 []) := by simp [List.getD_eq_getElem?_getD, h1]
          have := hC.fw g.1 _ hgN _ h2
          omega
        · unfold joins brought
          rw [if_neg h0, F.sum]
    · rintro σ H2 ⟨u5, u6, u7, rfl, e2, hB2⟩
      walk_at "run"
      rw [hl] at hB2
      exact q H2 B e2 nB hB2
end
end K
set_option Elab.async false
set_option linter.all false
set_option maxRecDepth 100000
set_option maxHeartbeats 4000000
namespace K
open PySem PySem.Spec PyProof.Rows L2 Evl FB
local macro_rules | `(tactic| walk_at "run") => `(tactic| try simp only [tSeq, tAsg, tVar, tC, gName, L2.start, List.map_cons, List.map_nil, List.cons_append, List.nil_append, List.length_cons, List.length_nil, List.replicate, List.getElem?_cons_zero, List.getElem?_cons_succ, Option.some.injEq, exists_eq_left', List.set_cons_zero, List.set_cons_succ, V.ref.injEq, tRet, x_tLst, x_tTup, tCons, tCB, tNil, tOp, x_addI, x_mulI, x_rI, x_rI0, x_ltI, x_leI, x_ltS, x_leS, x_eqI, x_neI, x_eqS, x_eqB, x_neB, x_isiI, x_isiS, x_int, x_max, x_min, cxOf, tIfS, tNext, tTest, V.bl.injEq, decide_eq_true_eq, gSub, tAnd, tOr, tNot, tB, tDrop, tBM, x_tFor, iRng1, iList, iTup, x_tLc, tYes, tCall, tIf, tAndV, tOrV, tNotV, tChain, List.append_nil, tUn, if_true, wipe, true_and, x_never, iU, x_itS, kV, Nat.reduceAdd, Nat.reduceSub, List.replicate_zero, x_rU, x_tMkO, iEnumT, x_tDc, x_tDGet, x_tDGet2, x_sDPut, x_tDSetd, x_tDNewK, x_iItems, x_iZip, x_tSAddK])
section
variable {P : Program} {w : World} {K : PySem.W.Frag} {mg : Str → Option Value} {base : Heap}
abbrev s_check_passengers : Stmt := top 22
theorem sc_check_passengers : FnScope ["next_passenger", "queues", "waiting", "queue", "passenger"] ["next_passenger", "queues"] (defScope s_check_passengers) := ⟨rfl, rfl, rfl, by decide +kernel, rfl, by decide +kernel, by decide +kernel⟩
def spPass (K : PySem.W.Frag) : Sp := fun vs H Q _ => ∃ (v : V) (p : Int) (qs : List (List Int)), vs = [.int p, v] ∧ Dp K H v (qsD qs) ∧ qs.flatten.Nodup ∧ (∀ x ∈ qs.flatten, 1 ≤ x ∧ x < p) ∧ qs.flatten.length ≤ 1000 ∧ ∀ H', Ex H H' → Q .non H'
theorem ok_check_passengers {f : Addr} {fd : FuncData} (D : Df K mg "check_passengers" s_check_passengers ["next_passenger", "queues"] f fd) (T : Bt mg) : FnOk P w K mg base CX0 1 f fd ["next_passenger", "queues"] (spPass K) := by
  refine D.F.ok sc_check_passengers (fun vs H Q E h => ?_) (fun cdv A outer s H vs Q E hr h => ?_)
  · obtain ⟨v, p, qs, rfl, _⟩ := h
    rfl
  · obtain ⟨v, p, qs, rfl, hv, nd, rg, hl, q⟩ := h
    have hu := hr.units
    refine ⟨_, (pss_cons (ps_set (i := 2) sc_check_passengers.nd rfl (Or.inl rfl) (pe_callTy0 cr_set0K (by rfl) T.b_set (by decide +kernel)))
      (pss_one (ps_for PassesOwn.never rfl (pi_U (K := K) (pv 1)) (pg_name (i := 3) sc_check_passengers.nd rfl (Or.inl rfl)) (pss_one (ps_for PassesOwn.never rfl (pi_U (K := K) (pv 3)) (pg_name (i := 4) sc_check_passengers.nd rfl (Or.inl rfl)) (pss_cons (ps_if (pt_not (pt_chain (op_leU) (op_ltU) pe_int (pv 4) (pv 0))) pss_never pss_nil)
      (pss_cons (ps_if (pt_cmpR ((op_inU (K := K) (P := P) (w := w))) (pv 4) (pv 2) (by rfl)) pss_never pss_nil)
      (pss_one (ps_expr (pe_saddK (pv 2) (pa_cons (pv 4) pa_nil))))))))))), ?_⟩
    walk_at "run"
    obtain ⟨a, ts, rfl, hT, hts⟩ := qs_at hv
    have hlt : ts.length = qs.length := by rw [hts.len, List.length_map]
    refine x_set0 fun S H1 nS e1 hS => ?_
    refine x_itT (ex_t e1 hT) (loop_it walk_tup (fun i σ H' => ∃ u3 u4 W n, σ = [some (.int p), some (.ref a), some (.ref S), u3, u4] ∧ Ex H H' ∧ H' S = some (SetK P w S W n) ∧ n ≤ (qs.take i).flatten.length ∧ ∀ x : Int, W (.inl x) = true ↔ x ∈ (qs.take i).flatten) ⟨_, _, _, _, rfl, e1, hS, by simp, by simp⟩
      (fun i σ H' _ ⟨_, _, _, _, _, e, _⟩ => ex_t e hT) ?_ ?_)
    · rintro i x σ H2 H2' hi ⟨u3, u4, W, n, rfl, e2, hS2, hn, hW⟩ ⟨eH, hx⟩
      subst eH
      obtain ⟨d, hd, hd2⟩ := hts.get' hx
      obtain ⟨qi, hq, rfl⟩ : ∃ q, qs[i]? = some q ∧ qD q = d := by simpa using hd
      obtain ⟨b, rfl, hb⟩ := q_at hd2
      have htk : (qs.take (i + 1)).flatten = (qs.take i).flatten ++ qi := by
        rw [List.take_add_one, hq, List.flatten_append]; simp
      have hpre : ((qs.take i).flatten ++ qi) <+: qs.flatten := by
        rw [← htk]
        have : qs.flatten = (qs.take (i + 1)).flatten ++ (qs.drop (i + 1)).flatten := by rw [← List.flatten_append, List.take_append_drop]
        rw [this]; exact List.prefix_append _ _
      have hlen := hpre.length_le
      rw [List.length_append] at hlen
      have nd2 : ((qs.take i).flatten ++ qi).Nodup := nd.sublist hpre.sublist
      walk_at "run"
      refine x_itT (ex_t e2 hb) (loop_it walk_tup (fun j σ H' => ∃ u4 W n, σ = [some (.int p), some (.ref a), some (.ref S), some (.ref b), u4] ∧ Ex H H' ∧ H' S = some (SetK P w S W n) ∧ n ≤ ((qs.take i).flatten ++ qi.take j).length ∧ ∀ x : Int, W (.inl x) = true ↔ x ∈ (qs.take i).flatten ++ qi.take j) ⟨_, _, _, rfl, e2, hS2, by simpa using hn, by simpa using hW⟩
        (fun i σ H' _ ⟨_, _, _, _, e, _⟩ => ex_t e hb) ?_ ?_)
      · rintro j y σ H3 H3' hj ⟨u4, W, n, rfl, e3, hS3, hn, hW⟩ ⟨eH, hy⟩
        subst eH
        obtain ⟨z, hz, rfl⟩ : ∃ z, qi[j]? = some z ∧ V.int z = y := by simpa using hy
        have hj2 : j < qi.length := (List.getElem?_eq_some_iff.mp hz).1
        have hzm : z ∈ qs.flatten := hpre.subset (List.mem_append_right _ (List.mem_of_getElem? hz))
        obtain ⟨z1, z2⟩ := rg z hzm
        have htj : qi.take (j + 1) = qi.take j ++ [z] := by rw [List.take_add_one, hz]; rfl
        have hnot : ¬ z ∈ (qs.take i).flatten ++ qi.take j := by
          have hp2 : ((qs.take i).flatten ++ qi.take j ++ [z]) <+: ((qs.take i).flatten ++ qi) := by
            rw [List.append_assoc, ← htj]
            exact List.prefix_append_right_inj _ |>.mpr (List.take_prefix _ _)
          have nd3 := nd2.sublist hp2.sublist
          rw [List.nodup_append] at nd3
          intro hm
          exact nd3.2.2 z hm z (by simp) rfl
        have hWz : W (.inl z) = false := by
          cases e : W (.inl z) with
          | false => rfl
          | true => exact absurd ((hW z).mp e) hnot
        walk_at "run"
        rw [if_pos (by omega)]
        rw [if_neg (by simp; omega)]
        refine x_inS (k := .inl z) hS3 ?_
        rw [hWz]
        refine ⟨_, rfl, ?_⟩
        rw [if_neg Bool.false_ne_true]
        have hln : ((qs.take i).flatten ++ qi.take j).length ≤ 1000 := by
          rw [List.length_append, List.length_take]; omega
        refine ⟨⟨_, _, _, rfl, hS3⟩, x_sadd (k := .inl z) hS3 (by omega) fun H4 m e4 hm h4 => ?_⟩
        refine ⟨_, _, _, rfl, fun x o hx => e4 _ _ (ne_of_none hx nS) (e3 _ _ hx), h4, ?_, fun x => ?_⟩
        · rw [htj, ← List.append_assoc, List.length_append]
          simp only [List.length_cons, List.length_nil]
          omega
        · rw [htj, ← List.append_assoc, List.mem_append, ← hW x]
          simp
      · rintro σ H3 ⟨u4, W, n, rfl, e3, hS3, hn, hW⟩
        have hlq : qi.take ((qi.map V.int).length) = qi := by rw [List.length_map, List.take_length]
        rw [hlq, ← htk] at hn hW
        exact ⟨_, _, _, _, rfl, e3, hS3, hn, hW⟩
    · rintro σ H2 ⟨u3, u4, W, n, rfl, e2, _⟩
      exact q H2 e2
end
end K
set_option Elab.async false
set_option linter.all false
set_option maxRecDepth 100000
set_option maxHeartbeats 4000000
namespace K
open PySem PySem.Spec PyProof.Rows L2 Evl FB
local macro_rules | `(tactic| walk_at "run") => `(tactic| try simp only [tSeq, tAsg, tVar, tC, gName, L2.start, List.map_cons, List.map_nil, List.cons_append, List.nil_append, List.length_cons, List.length_nil, List.replicate, List.getElem?_cons_zero, List.getElem?_cons_succ, Option.some.injEq, exists_eq_left', List.set_cons_zero, List.set_cons_succ, V.ref.injEq, tRet, x_tLst, x_tTup, tCons, tCB, tNil, tOp, x_addI, x_mulI, x_rI, x_rI0, x_ltI, x_leI, x_ltS, x_leS, x_eqI, x_neI, x_eqS, x_eqB, x_neB, x_isiI, x_isiS, x_int, x_max, x_min, cxOf, tIfS, tNext, tTest, V.bl.injEq, decide_eq_true_eq, gSub, tAnd, tOr, tNot, tB, tDrop, tBM, x_tFor, iRng1, iList, iTup, x_tLc, tYes, tCall, tIf, tAndV, tOrV, tNotV, tChain, List.append_nil, tUn, if_true, wipe, true_and, x_never, iU, x_itS, kV, Nat.reduceAdd, Nat.reduceSub, List.replicate_zero, x_rU, x_tMkO, iEnumT, x_tDc, x_tDGet, x_tDGet2, x_sDPut, x_tDSetd, x_tDNewK, x_iItems, x_iZip, x_tSAddK])
theorem flat_len : ∀ {qs : List (List Int)} {N : Net}, qs.length = N.length → (∀ (k : Nat) q s, qs[k]? = some q → N[k]? = some s → q.length < s.length) → (∀ s ∈ N, s.length ≤ 8) → qs.flatten.length ≤ 8 * N.length
  | [], _, _, _, _ => by simp
  | q :: qs, [], h, _, _ => by simp at h
  | q :: qs, s :: N, h, hlt, h8 => by
    have h1 := hlt 0 q s rfl rfl
    have h2 := h8 s (List.mem_cons_self ..)
    have h3 := flat_len (qs := qs) (N := N) (by simpa using h) (fun k q' s' a b => hlt (k + 1) q' s' (by simpa using a) (by simpa using b)) (fun s hs => h8 s (List.mem_cons_of_mem _ hs))
    rw [List.flatten_cons, List.length_append, List.length_cons]
    omega
section
variable {P : Program} {w : World} {K : PySem.W.Frag} {mg : Str → Option Value} {base : Heap}
abbrev s_check_state : Stmt := top 21
theorem sc_check_state : FnScope ["network", "state", "next_passenger", "queues", "seats", "queue"] ["network", "state"] (defScope s_check_state) := ⟨rfl, rfl, rfl, by decide +kernel, rfl, by decide +kernel, by decide +kernel⟩
def spState (K : PySem.W.Frag) : Sp := fun vs H Q _ => ∃ (v u : V) (N : Net) (p : Int) (qs : List (List Int)), vs = [v, u] ∧ NetAt K H v N ∧ ValidN N ∧ Dp K H u (stateD p qs) ∧ StOk N p qs ∧ ∀ H', Ex H H' → Q .non H'
theorem ok_check_state {f f1 f2 f3 f4 : Addr} {fd fd1 fd2 fd3 fd4 : FuncData} (D : Df K mg "check_state" s_check_state ["network", "state"] f fd) (T : Bt mg) (Ck : Ct K mg)
    (D_check_network : Df K mg "check_network" s_check_network ["network"] f1 fd1) (D_check_passengers : Df K mg "check_passengers" s_check_passengers ["next_passenger", "queues"] f2 fd2) (D_is_word : Df K mg "is_word" s_is_word ["text"] f3 fd3)
    (D_is_place : Df K mg "is_place" s_is_place ["place", "station", "stations"] f4 fd4) : FnOk P w K mg base CX0 5 f fd ["network", "state"] (spState K) := by
  have G_check_network : FnOk P w K mg base CX0 4 f1 fd1 _ _ := ok_check_network0 D_check_network T Ck D_is_word D_is_place
  have G_check_passengers : FnOk P w K mg base CX0 1 f2 fd2 _ _ := ok_check_passengers D_check_passengers T
  refine D.F.ok sc_check_state (fun vs H Q E h => ?_) (fun cdv A outer s H vs Q E hr h => ?_)
  · obtain ⟨v, u, N, p, qs, rfl, _⟩ := h
    rfl
  · obtain ⟨v, u, N, p, qs, rfl, hN, hV, hu2, hO, q⟩ := h
    have hu := hr.units
    refine ⟨_, (pss_cons (ps_expr (pe_call (G_check_network) (hr.mono (by decide)) rfl D_check_network.g D_check_network.F.kp D_check_network.b .nil pass0 (pa_cons (pv 0) pa_nil)))
      (pss_cons (ps_asg (pv 1) (pg_tup rfl (pgs_cons (pg_name (i := 2) sc_check_state.nd rfl (Or.inl rfl)) (pgs_cons (pg_name (i := 3) sc_check_state.nd rfl (Or.inl rfl)) pgs_nil))))
      (pss_cons (ps_if (pt_cmpR (op_ltU) (pv 2) pe_int (nomark _)) pss_never pss_nil)
      (pss_cons (ps_if (pt_cmpR (op_neU (K := K) hu) (pe_callB (call_lenU (K := K)) (by rfl) T.b_len (by decide +kernel) (pa_cons (pv 3) pa_nil)) (pe_callB (call_lenU (K := K)) (by rfl) T.b_len (by decide +kernel) (pa_cons (pv 0) pa_nil)) (nomark _)) pss_never pss_nil)
      (pss_cons (ps_for PassesOwn.never rfl (RZ.pi_zipA (by rfl) T.b_zip (pa_cons (pv 0) (pa_cons (pv 3) pa_nil))) (pg_tup rfl (pgs_cons (pg_name (i := 4) sc_check_state.nd rfl (Or.inl rfl)) (pgs_cons (pg_name (i := 5) sc_check_state.nd rfl (Or.inl rfl)) pgs_nil))) (pss_one (ps_if (pt_cmpR (op_geU) (pe_callB (call_lenU (K := K)) (by rfl) T.b_len (by decide +kernel) (pa_cons (pv 5) pa_nil)) (pe_callB (call_lenU (K := K)) (by rfl) T.b_len (by decide +kernel) (pa_cons (pv 4) pa_nil)) (nomark _)) pss_never pss_nil)))
      (pss_one (ps_expr (pe_call (G_check_passengers) (hr.mono (by decide)) rfl D_check_passengers.g D_check_passengers.F.kp D_check_passengers.b .nil pass0 (pa_cons (pv 2) (pa_cons (pv 3) pa_nil)))))))))), ?_⟩
    walk_at "run"
    refine ⟨v, N, rfl, hN, hV, fun H1 e1 => ?_⟩
    obtain ⟨a, y, rfl, hS, hy⟩ := state_at hu2
    refine x_two (ex_t e1 hS) ?_
    obtain ⟨b, ts, rfl, hT, hts⟩ := qs_at hy
    obtain ⟨c, us, rfl, hU, hus⟩ := hN.at
    have hlt : ts.length = qs.length := by rw [hts.len, List.length_map]
    have hlu : us.length = N.length := by rw [hus.len, List.length_map]
    have hp := hO.pos
    have hql := hO.len
    walk_at "run"
    rw [if_neg (by omega)]
    refine x_lenT (ex_t e1 hT) (x_lenT (ex_t e1 hU) ?_)
    rw [hlt, hlu]
    walk_at "run"
    rw [if_neg (by simp; omega)]
    refine x_zipT (ex_t e1 hU) (ex_t e1 hT) ?_
    refine loop_it (walk_zipT (by omega)) (fun i σ H' => ∃ u4 u5, σ = [some (.ref c), some (.ref a), some (.int p), some (.ref b), u4, u5] ∧ Ex H H') ⟨_, _, rfl, e1⟩ (fun i σ H' _ ⟨_, _, _, e⟩ => ⟨ex_t e hU, ex_t e hT⟩) ?_ ?_
    · rintro i v σ H2 H3 hi ⟨u4, u5, rfl, e2⟩ ⟨T0, x, y, rfl, hT0, rfl, hx, hy⟩
      have e3 : Ex H (upd H2 T0 (.tup [x, y])) := e2.trans (Ex.new hT0)
      refine x_two (SqT.of upd_same) ?_
      generalize upd H2 T0 (.tup [x, y]) = H3 at e3
      obtain ⟨sD, hs, hx2⟩ := hus.get' hx
      obtain ⟨s, hsN, rfl⟩ : ∃ s, N[i]? = some s ∧ stD s = sD := by simpa using hs
      obtain ⟨b1, rfl, hb1⟩ := StAt.at hx2
      obtain ⟨qD', hq, hy2⟩ := hts.get' hy
      obtain ⟨qi, hqi, rfl⟩ : ∃ s, qs[i]? = some s ∧ qD s = qD' := by simpa using hq
      obtain ⟨b2, rfl, hb2⟩ := q_at hy2
      have := hO.lt i qi s hqi hsN
      walk_at "run"
      refine x_lenT (ex_t e3 hb2) (x_lenT (ex_t e3 hb1) ?_)
      rw [List.length_map, List.length_map]
      walk_at "run"
      rw [if_neg (by omega)]
      exact ⟨_, _, rfl, e3⟩
    · rintro σ H2 ⟨u4, u5, rfl, e2⟩
      walk_at "run"
      have hfl := flat_len hql hO.lt (fun s hs => (hV.cnt.st s hs).2)
      have h40 := hV.le
      exact ⟨_, p, qs, rfl, Dp.ex e2 hy, hO.nd, hO.rng, by omega, fun H3 e3 => q H3 (e2.trans e3)⟩
end
end K
set_option Elab.async false
set_option linter.all false
set_option maxRecDepth 100000
set_option maxHeartbeats 4000000
namespace K
open PySem PySem.Spec PyProof.Rows L2 Evl FB
local macro_rules | `(tactic| walk_at "run") => `(tactic| try simp only [tSeq, tAsg, tVar, tC, gName, L2.start, List.map_cons, List.map_nil, List.cons_append, List.nil_append, List.length_cons, List.length_nil, List.replicate, List.getElem?_cons_zero, List.getElem?_cons_succ, Option.some.injEq, exists_eq_left', List.set_cons_zero, List.set_cons_succ, V.ref.injEq, tRet, x_tLst, x_tTup, tCons, tCB, tNil, tOp, x_addI, x_mulI, x_rI, x_rI0, x_ltI, x_leI, x_ltS, x_leS, x_eqI, x_neI, x_eqS, x_eqB, x_neB, x_isiI, x_isiS, x_int, x_max, x_min, cxOf, tIfS, tNext, tTest, V.bl.injEq, decide_eq_true_eq, gSub, tAnd, tOr, tNot, tB, tDrop, tBM, x_tFor, iRng1, iList, iTup, x_tLc, tYes, tCall, tIf, tAndV, tOrV, tNotV, tChain, List.append_nil, tUn, if_true, wipe, true_and, x_never, iU, x_itS, kV, Nat.reduceAdd, Nat.reduceSub, List.replicate_zero, x_rU, x_tMkO, iEnumT, x_tDc, x_tDGet, x_tDGet2, x_sDPut, x_tDSetd, x_tDNewK, x_iItems, x_iZip, x_tSAddK])
section
variable {P : Program} {w : World} {K : PySem.W.Frag} {mg : Str → Option Value} {base : Heap}
abbrev s_check_count : Stmt := top 7
theorem sc_check_count : FnScope ["count", "least", "most"] ["count", "least", "most"] (defScope s_check_count) := ⟨rfl, rfl, rfl, by decide +kernel, rfl, by decide +kernel, by decide +kernel⟩
def spCount : Sp := fun vs H Q _ => ∃ c l m : Int, vs = [.int c, .int l, .int m] ∧ l ≤ c ∧ c ≤ m ∧ Q .non H
theorem ok_check_count {f : Addr} {fd : FuncData} (D : Df K mg "check_count" s_check_count ["count", "least", "most"] f fd) : FnOk P w K mg base CX0 1 f fd ["count", "least", "most"] spCount := by
  refine D.F.ok sc_check_count (fun vs H Q E h => ?_) (fun cdv A outer s H vs Q E hr h => ?_)
  · obtain ⟨v, u, N, rfl, _⟩ := h
    rfl
  · obtain ⟨c, l, m, rfl, h1, h2, q⟩ := h
    refine ⟨_, (pss_one (ps_if (pt_not (pt_chain (op_leU) (op_leU) (pv 1) (pv 0) (pv 2))) pss_never pss_nil)), ?_⟩
    walk_at "run"
    rw [if_pos h1, if_neg (by simp; omega)]
    exact q
abbrev s_queue_lengths : Stmt := top 23
theorem sc_queue_lengths : FnScope ["state", "queue"] ["state"] (defScope s_queue_lengths) := ⟨rfl, rfl, rfl, by decide +kernel, rfl, by decide +kernel, by decide +kernel⟩
def lens (qs : List (List Int)) : List Int := qs.map fun q => ((q.length : Nat) : Int)
def spLens (K : PySem.W.Frag) : Sp := fun vs H Q _ => ∃ (v : V) (p : Int) (qs : List (List Int)), vs = [v] ∧ Dp K H v (stateD p qs) ∧ qs.length ≤ 1000 ∧ (∀ q ∈ qs, q.length ≤ 1000) ∧ ∀ H' l, Ex H H' → H l = none → H' l = some (.lst ((lens qs).map V.int)) → Q (.ref l) H'
theorem ok_queue_lengths {f : Addr} {fd : FuncData} (D : Df K mg "queue_lengths" s_queue_lengths ["state"] f fd) (T : Bt mg) : FnOk P w K mg base CX0 1 f fd ["state"] (spLens K) := by
  refine D.F.ok sc_queue_lengths (fun vs H Q E h => ?_) (fun cdv A outer s H vs Q E hr h => ?_)
  · obtain ⟨v, p, qs, rfl, _⟩ := h
    rfl
  · obtain ⟨v, p, qs, rfl, hv, hl, hl2, q⟩ := h
    refine ⟨_, (pss_one (ps_ret (pe_lc (own := [("queue", 1)]) (g := gName 1) (tt := tYes) rfl sc_queue_lengths.nd (pi_U (K := K) (pe_ix (ix_U (K := K)) (pv 0) pe_int (fun _ _ => rfl))) (blkOk_by (own := [("queue", 1)]) (N := ["state", "queue"]) (sc := defScope s_queue_lengths) (by decide +kernel)) (fun _ _ _ _ _ => (pg_name (i := 1) sc_queue_lengths.nd rfl (Or.inl rfl))) (fun _ _ _ _ _ => pts_nil) (fun _ _ _ _ _ => (pe_callB (call_lenU (K := K)) (by rfl) T.b_len (by decide +kernel) (pa_cons (pv 1) pa_nil)))))), ?_⟩
    walk_at "run"
    obtain ⟨a, y, rfl, hS, hy⟩ := state_at hv
    refine x_ixT hS rfl ?_
    obtain ⟨b, ts, rfl, hT, hts⟩ := qs_at hy
    have hlt : ts.length = qs.length := by rw [hts.len, List.length_map]
    refine x_itT hT (lcl_it walk_tup (fun D i H' => Ex H H' ∧ H' D = some (.lst ((lens (qs.take i)).map V.int))) (fun D H' hD e h => ⟨e, by simpa [lens] using h⟩) (fun D i H' _ h => ex_t h.1 hT) ?_ ?_)
    · rintro D i x H2 H2' hD hi ⟨e2, h2⟩ ⟨eH, hx⟩
      subst eH
      obtain ⟨d, hd, hd2⟩ := hts.get' hx
      obtain ⟨qi, hq, rfl⟩ : ∃ q, qs[i]? = some q ∧ qD q = d := by simpa using hd
      obtain ⟨b2, rfl, hb⟩ := q_at hd2
      walk_at "run"
      refine x_lenT (ex_t e2 hb) ?_
      rw [List.length_map]
      refine x_push h2 (by unfold lens; simp; omega) fun H5 e5 h5 => ⟨fun x o hx => e5 _ _ (ne_of_none hx hD) (e2 _ _ hx), ?_⟩
      rw [h5, List.take_add_one, hq]
      simp [lens]
    · rintro D H2 hD ⟨e2, h2⟩
      rw [hlt, List.take_length] at h2
      exact q H2 D e2 hD h2
end
end K
set_option Elab.async false
set_option linter.all false
set_option maxRecDepth 100000
set_option maxHeartbeats 4000000
namespace K
open PySem PySem.Spec PyProof.Rows L2 Evl FB
local macro_rules | `(tactic| walk_at "run") => `(tactic| try simp only [tSeq, tAsg, tVar, tC, gName, L2.start, List.map_cons, List.map_nil, List.cons_append, List.nil_append, List.length_cons, List.length_nil, List.replicate, List.getElem?_cons_zero, List.getElem?_cons_succ, Option.some.injEq, exists_eq_left', List.set_cons_zero, List.set_cons_succ, V.ref.injEq, tRet, x_tLst, x_tTup, tCons, tCB, tNil, tOp, x_addI, x_mulI, x_rI, x_rI0, x_ltI, x_leI, x_ltS, x_leS, x_eqI, x_neI, x_eqS, x_eqB, x_neB, x_isiI, x_isiS, x_int, x_max, x_min, cxOf, tIfS, tNext, tTest, V.bl.injEq, decide_eq_true_eq, gSub, tAnd, tOr, tNot, tB, tDrop, tBM, x_tFor, iRng1, iList, iTup, x_tLc, tYes, tCall, tIf, tAndV, tOrV, tNotV, tChain, List.append_nil, tUn, if_true, wipe, true_and, x_never, iU, x_itS, kV, Nat.reduceAdd, Nat.reduceSub, List.replicate_zero, x_rU, x_tMkO, iEnumT, x_tDc, x_tDGet, x_tDGet2, x_sDPut, x_tDSetd, x_tDNewK, x_iItems, x_iZip, x_tSAddK, x_tLockV])
/-- the program's constants of the counting -/
structure Cm (mg : Str → Option Value) : Prop where
  g_MAX_COUNT : ∃ t, mg "MAX_COUNT" = some (.int 1000000000000000000 t)
/-- what reaches a place by the boats bs -/
def reach (N : Net) (bs : List Int) (q : Key) : Int := toQ (fun i => bs.getD i 0) q (seatsOf N N.length)
/-- the dict kvs holds for each port that somebody reaches how many do -/
structure Fin (T : Str → Int) (kvs : List (Key × V)) : Prop where
  nd : (kvs.map (·.1)).Nodup
  str : ∀ p ∈ kvs, ∃ z, p.1 = .inr z
  val : ∀ z, valV kvs (.inr z) = if 0 < T z then some (.int (T z)) else none
/-- .. for the ports among ks -/
structure FinK (T : Str → Int) (ks : List Key) (kvs : List (Key × V)) : Prop where
  nd : (kvs.map (·.1)).Nodup
  str : ∀ p ∈ kvs, ∃ z, p.1 = .inr z
  yes : ∀ z : Str, (Sum.inr z : Key) ∈ ks → 0 < T z → valV kvs (.inr z) = some (V.int (T z))
  no : ∀ z : Str, ¬ ((Sum.inr z : Key) ∈ ks ∧ 0 < T z) → valV kvs (.inr z) = none
theorem FinK.nil {T : Str → Int} : FinK T [] [] := ⟨List.nodup_nil, fun _ h => (by simp at h), fun _ h => (by simp at h), fun _ _ => rfl⟩
theorem FinK.other {T : Str → Int} {ks : List Key} {kvs : List (Key × V)} {k : Key} (F : FinK T ks kvs) (h : ∀ z, k = .inr z → ¬ 0 < T z) : FinK T (ks ++ [k]) kvs where
  nd := F.nd
  str := F.str
  yes := fun z h1 h2 => by
    rcases List.mem_append.mp h1 with h1 | h1
    · exact F.yes z h1 h2
    · exact absurd h2 (h z (List.mem_singleton.mp h1).symm)
  no := fun z h1 => F.no z fun h2 => h1 ⟨List.mem_append_left _ h2.1, h2.2⟩
theorem FinK.put {T : Str → Int} {ks : List Key} {kvs : List (Key × V)} {y : Str} (F : FinK T ks kvs) (h : 0 < T y) : FinK T (ks ++ [.inr y]) (putK kvs (.inr y) (.int (T y))) where
  nd := putK_keys F.nd
  str := fun p hp => by
    unfold putK at hp
    split at hp
    · obtain ⟨p', hp', rfl⟩ := List.mem_map.mp hp
      split
      · exact F.str p' hp'
      · exact F.str p' hp'
    · rcases List.mem_append.mp hp with hp | hp
      · exact F.str p hp
      · rw [List.mem_singleton.mp hp]; exact ⟨y, rfl⟩
  yes := fun z h1 h2 => by
    rw [valV_put]
    by_cases e : (Sum.inr z : Key) = .inr y
    · rw [if_pos e]
      cases e
      rfl
    · rw [if_neg e]
      rcases List.mem_append.mp h1 with h1 | h1
      · exact F.yes z h1 h2
      · exact absurd (List.mem_singleton.mp h1) e
  no := fun z h1 => by
    rw [valV_put]
    by_cases e : (Sum.inr z : Key) = .inr y
    · cases e
      exact absurd ⟨List.mem_append_right _ (List.mem_singleton.mpr rfl), h⟩ h1
    · rw [if_neg e]
      exact F.no z fun h2 => h1 ⟨List.mem_append_left _ h2.1, h2.2⟩
section
variable {P : Program} {w : World} {K : PySem.W.Frag} {mg : Str → Option Value} {base : Heap}
abbrev s_count_boats : Stmt := top 25
theorem sc_count_boats : FnScope ["network", "state", "count"] ["network", "state", "count"] (defScope s_count_boats) := ⟨rfl, rfl, rfl, by decide +kernel, rfl, by decide +kernel, by decide +kernel⟩
def spBoats (K : PySem.W.Frag) : Sp := fun vs H Q _ => ∃ (v u : V) (N : Net) (p : Int) (qs : List (List Int)) (c : Int), vs = [v, u, .int c] ∧ NetAt K H v N ∧ ValidN N ∧ Dp K H u (stateD p qs) ∧ StOk N p qs ∧ 0 ≤ c ∧ c ≤ 1000000000000000000 ∧ ∀ H' l, Ex H H' → H l = none → H' l = some (.lst ((bts N (lens qs) c N.length).map V.int)) → Q (.ref l) H'
/-- the defs that count_boats calls -/
structure Dn (K : PySem.W.Frag) (mg : Str → Option Value) : Prop where
  is_word : ∃ f fd, Df K mg "is_word" s_is_word ["text"] f fd
  is_place : ∃ f fd, Df K mg "is_place" s_is_place ["place", "station", "stations"] f fd
  check_network : ∃ f fd, Df K mg "check_network" s_check_network ["network"] f fd
  check_passengers : ∃ f fd, Df K mg "check_passengers" s_check_passengers ["next_passenger", "queues"] f fd
  check_state : ∃ f fd, Df K mg "check_state" s_check_state ["network", "state"] f fd
  check_count : ∃ f fd, Df K mg "check_count" s_check_count ["count", "least", "most"] f fd
  find_feeders : ∃ f fd, Df K mg "find_feeders" s_find_feeders ["network"] f fd
  count_brought : ∃ f fd, Df K mg "count_brought" s_count_brought ["sources", "boats"] f fd
  count_departures : ∃ f fd, Df K mg "count_departures" s_count_departures ["network", "feeders", "lengths", "arrivals"] f fd
  queue_lengths : ∃ f fd, Df K mg "queue_lengths" s_queue_lengths ["state"] f fd
theorem ok_count_boats {f : Addr} {fd : FuncData} (D : Df K mg "count_boats" s_count_boats ["network", "state", "count"] f fd) (T : Bt mg) (Ck : Ct K mg) (Cm0 : Cm mg) (DD : Dn K mg) : FnOk P w K mg base CX0 6 f fd ["network", "state", "count"] (spBoats K) := by
  obtain ⟨f1, fd1, D_is_word⟩ := DD.is_word
  obtain ⟨f2, fd2, D_is_place⟩ := DD.is_place
  obtain ⟨f3, fd3, D_check_network⟩ := DD.check_network
  obtain ⟨f4, fd4, D_check_passengers⟩ := DD.check_passengers
  obtain ⟨f5, fd5, D_check_state⟩ := DD.check_state
  obtain ⟨f6, fd6, D_check_count⟩ := DD.check_count
  obtain ⟨f7, fd7, D_find_feeders⟩ := DD.find_feeders
  obtain ⟨f8, fd8, D_count_brought⟩ := DD.count_brought
  obtain ⟨f9, fd9, D_count_departures⟩ := DD.count_departures
  obtain ⟨f10, fd10, D_queue_lengths⟩ := DD.queue_lengths
  have G_check_state : FnOk P w K mg base CX0 5 f5 fd5 _ _ := ok_check_state D_check_state T Ck D_check_network D_check_passengers D_is_word D_is_place
  have G_check_count : FnOk P w K mg base CX0 1 f6 fd6 _ _ := ok_check_count D_check_count
  have G_find_feeders : FnOk P w K mg base CX0 1 f7 fd7 _ _ := ok_find_feeders D_find_feeders T
  have G_count_departures : FnOk P w K mg base CX0 2 f9 fd9 _ _ := ok_count_departures D_count_departures T D_count_brought
  have G_queue_lengths : FnOk P w K mg base CX0 1 f10 fd10 _ _ := ok_queue_lengths D_queue_lengths T
  refine D.F.ok sc_count_boats (fun vs H Q E h => ?_) (fun cdv A outer s H vs Q E hr h => ?_)
  · obtain ⟨v, u, N, p, qs, c, rfl, _⟩ := h
    rfl
  · obtain ⟨v, u, N, p, qs, c, rfl, hN, hV, hS, hO, c0, c1, q⟩ := h
    obtain ⟨tC, g_MAX_COUNT⟩ := Cm0.g_MAX_COUNT
    refine ⟨_, (pss_cons (ps_expr (pe_call (G_check_state) (hr.mono (by decide)) rfl D_check_state.g D_check_state.F.kp D_check_state.b .nil pass0 (pa_cons (pv 0) (pa_cons (pv 1) pa_nil))))
      (pss_cons (ps_expr (pe_call (G_check_count) (hr.mono (by decide)) rfl D_check_count.g D_check_count.F.kp D_check_count.b .nil pass0 (pa_cons (pv 2) (pa_cons pe_int (pa_cons (pe_glob (v := .int 1000000000000000000) rfl g_MAX_COUNT ⟨_, rfl⟩) pa_nil)))))
      (pss_one (ps_ret (pe_call (G_count_departures) (hr.mono (by decide)) rfl D_count_departures.g D_count_departures.F.kp D_count_departures.b .nil pass0 (pa_cons (pv 0) (pa_cons (pe_call (G_find_feeders) (hr.mono (by decide)) rfl D_find_feeders.g D_find_feeders.F.kp D_find_feeders.b .nil pass0 (pa_cons (pv 0) pa_nil)) (pa_cons (pe_call (G_queue_lengths) (hr.mono (by decide)) rfl D_queue_lengths.g D_queue_lengths.F.kp D_queue_lengths.b .nil pass0 (pa_cons (pv 1) pa_nil)) (pa_cons (pv 2) pa_nil))))))))), ?_⟩
    walk_at "run"
    have h40 := hV.le
    have hql := hO.len
    refine ⟨v, u, N, p, qs, rfl, hN, hV, hS, hO, fun H1 e1 => ?_⟩
    refine ⟨c, 0, 1000000000000000000, rfl, c0, c1, ?_⟩
    refine ⟨v, N, rfl, Dp.ex e1 hN, hV.cnt, fun H2 DA A G kvs F hD => ?_⟩
    refine ⟨u, p, qs, rfl, Dp.ex (e1.trans F.ex) hS, by omega, fun qi hq => ?_, fun H3 l e3 nl hl => ?_⟩
    · obtain ⟨k, hk⟩ := List.mem_iff_getElem?.mp hq
      have hkl := (List.getElem?_eq_some_iff.mp hk).1
      obtain ⟨s, hs⟩ : ∃ s, N[k]? = some s := ⟨N[k]'(by omega), List.getElem?_eq_getElem (by omega)⟩
      have h1 := hO.lt k qi s hk hs
      have h2 := (hV.cnt.st s (List.mem_of_getElem? hs)).2
      omega
    · have e03 := (e1.trans F.ex).trans e3
      exact ⟨v, N, DA, l, H1, A, G, kvs, lens qs, c, rfl, Dp.ex e03 hN, hV.cnt, F.ex2 e3, e3 _ _ hD, SqL.of hl, by unfold lens; rw [List.length_map]; exact hql, fun H4 p4 e4 n4 h4 => q H4 p4 (e03.trans e4) (fresh_back e03 n4) h4⟩
abbrev s_count_finished : Stmt := top 26
theorem sc_count_finished : FnScope ["network", "state", "count", "boats", "finished", "place", "sources", "passengers"] ["network", "state", "count"] (defScope s_count_finished) := ⟨rfl, rfl, rfl, by decide +kernel, rfl, by decide +kernel, by decide +kernel⟩
def spFinished (K : PySem.W.Frag) : Sp := fun vs H Q _ => ∃ (v u : V) (N : Net) (p : Int) (qs : List (List Int)) (c : Int), vs = [v, u, .int c] ∧ NetAt K H v N ∧ ValidN N ∧ Dp K H u (stateD p qs) ∧ StOk N p qs ∧ 0 ≤ c ∧ c ≤ 1000000000000000000 ∧
  ∀ H' l kvs, Ex H H' → H l = none → H' l = some (.dK kvs) → Fin (fun z => reach N (bts N (lens qs) c N.length) (.inr z)) kvs → Q (.ref l) H'
theorem ok_count_finished {f f1 : Addr} {fd fd1 : FuncData} (D : Df K mg "count_finished" s_count_finished ["network", "state", "count"] f fd) (T : Bt mg) (Ck : Ct K mg) (Cm0 : Cm mg) (DD : Dn K mg) (D_count_boats : Df K mg "count_boats" s_count_boats ["network", "state", "count"] f1 fd1) : FnOk P w K mg base CX0 7 f fd ["network", "state", "count"] (spFinished K) := by
  have G_count_boats : FnOk P w K mg base CX0 6 f1 fd1 _ _ := ok_count_boats D_count_boats T Ck Cm0 DD
  obtain ⟨f7, fd7, D_find_feeders⟩ := DD.find_feeders
  obtain ⟨f8, fd8, D_count_brought⟩ := DD.count_brought
  have G_find_feeders : FnOk P w K mg base CX0 1 f7 fd7 _ _ := ok_find_feeders D_find_feeders T
  have G_count_brought : FnOk P w K mg base CX0 1 f8 fd8 _ _ := ok_count_brought D_count_brought T
  refine D.F.ok sc_count_finished (fun vs H Q E h => ?_) (fun cdv A outer s H vs Q E hr h => ?_)
  · obtain ⟨v, u, N, p, qs, c, rfl, _⟩ := h
    rfl
  · obtain ⟨v, u, N, p, qs, c, rfl, hN, hV, hS, hO, c0, c1, q⟩ := h
    have hu1 := hu_of hr
    refine ⟨_, (pss_cons (ps_set (i := 3) sc_count_finished.nd rfl (Or.inl rfl) (pe_call (G_count_boats) (hr.mono (by decide)) rfl D_count_boats.g D_count_boats.F.kp D_count_boats.b .nil pass0 (pa_cons (pv 0) (pa_cons (pv 1) (pa_cons (pv 2) pa_nil)))))
      (pss_cons (ps_set (i := 4) sc_count_finished.nd rfl (Or.inl rfl) pe_dnewK)
      (pss_cons (ps_for PassesOwn.never rfl (pi_items (pe_lockV (pe_call (G_find_feeders) (hr.mono (by decide)) rfl D_find_feeders.g D_find_feeders.F.kp D_find_feeders.b .nil pass0 (pa_cons (pv 0) pa_nil)))) (pg_tup rfl (pgs_cons (pg_name (i := 5) sc_count_finished.nd rfl (Or.inl rfl)) (pgs_cons (pg_name (i := 6) sc_count_finished.nd rfl (Or.inl rfl)) pgs_nil))) (pss_cons (ps_set (i := 7) sc_count_finished.nd rfl (Or.inl rfl) (pe_call (G_count_brought) (hr.mono (by decide)) rfl D_count_brought.g D_count_brought.F.kp D_count_brought.b .nil pass0 (pa_cons (pv 6) (pa_cons (pv 3) pa_nil))))
      (pss_one (ps_if (PW.pt (pw_and (pt_val (pe_callB (call_isiU (K := K)) (by rfl) T.b_isinstance (by decide +kernel) (pa_cons (pv 5) (pa_cons (pe_bltn (v := .ty "str") (by rfl) T.b_str (by decide +kernel) rfl) pa_nil)))) (pw_and1 (pt_cmpR (op_gtU) (pv 7) pe_int (nomark _))))) (pss_one (ps_dput hu1 (pv 4) (pv 5) (pv 7) rfl)) pss_nil))))
      (pss_one (ps_ret (pv 4)))))), ?_⟩
    walk_at "run"
    refine ⟨v, u, N, p, qs, c, rfl, hN, hV, hS, hO, c0, c1, fun H1 B e1 nB hB => ?_⟩
    have hblen : (bts N (lens qs) c N.length).length = N.length := bts_len
    have hrd : ∀ z, reach N (bts N (lens qs) c N.length) z = reach N (bts N (lens qs) c N.length) z := fun _ => rfl
    generalize bts N (lens qs) c N.length = bs at hB q hblen
    refine x_dnew fun R H2 nR e2 hR => ?_
    walk_at "run"
    refine ⟨v, N, rfl, Dp.ex (e1.trans e2) hN, hV.cnt, fun H3 DA A G kvs F hD => ?_⟩
    refine x_lockV hD trivial fun od H4 e4 n4 h4 => ?_
    have nRD : R ≠ DA := ne_of_none hR F.newD
    have nBD : B ≠ DA := ne_of_none (e2 _ _ hB) F.newD
    have e24 : Ex H2 H4 := fun x o hx => e4 _ _ (ne_of_none hx F.newD) (F.ex _ _ hx)
    have F4 : Feed H2 H4 DA N.length (seatsOf N N.length) A G kvs := { F with inn := fun q a h => e4 _ _ (F.ne q a h) (F.inn q a h), ex := e24 }
    have hlen := seats_len hV.cnt (k := N.length) (Nat.le_refl _)
    have h40 := hV.le
    have hkl := F.len
    refine x_items h4 (loop_it walk_items (fun i σ H' => ∃ u5 u6 u7 fk, σ = [some v, some u, some (.int c), some (.ref B), some (.ref R), u5, u6, u7] ∧ (∀ x o, x ≠ R → H4 x = some o → H' x = some o) ∧ H' R = some (.dK fk) ∧ fk.length ≤ i ∧ FinK (fun z => reach N bs (.inr z)) ((kvs.take i).map (·.1)) fk)
      ⟨_, _, _, [], rfl, fun _ _ _ h => h, e24 _ _ hR, by simp, by simpa using FinK.nil⟩ (fun i σ H' _ ⟨_, _, _, _, _, e, _⟩ => e _ _ nRD.symm h4) ?_ ?_)
    · rintro i x0 σ H5 H6 hi ⟨u5, u6, u7, fk, rfl, e5, hR5, hfl, FK⟩ ⟨T0, x, y, rfl, hT0, rfl, hx, hy⟩
      have e6 : Ex H5 (upd H5 T0 (.tup [x, y])) := Ex.new hT0
      refine x_two (SqT.of upd_same) ?_
      generalize upd H5 T0 (.tup [x, y]) = H6 at e6
      obtain ⟨k, y, hk, rfl, rfl⟩ : ∃ k v, kvs[i]? = some (k, v) ∧ kV k = x ∧ v = y := by
        cases e : kvs[i]? with
        | none => simp [e] at hx
        | some g =>
          simp [e] at hx hy
          exact ⟨g.1, g.2, rfl, hx, hy⟩
      have hval := val_of_mem F.nd (List.mem_of_getElem? hk)
      rw [F.val] at hval
      obtain ⟨dk, hdk, rfl⟩ : ∃ a, A k = some a ∧ V.ref a = y := by simpa using hval
      have e46 : ∀ x o, x ≠ R → H4 x = some o → H6 x = some o := fun x o hx h => e6 _ _ (e5 _ _ hx h)
      have hdR : dk ≠ R := fun z => by
        have := F.new k dk hdk
        rw [z, hR] at this; cases this
      have hBR : B ≠ R := ne_of_none hB nR
      have hlg := F.lenG k
      walk_at "run"
      refine ⟨dk, B, G k, bs, rfl, e46 _ _ hdR (F4.inn k dk hdk), SqL.of (e46 _ _ hBR (e24 _ _ (e2 _ _ hB))), by omega, fun g hg => ⟨?_, (F.le k g hg).1, by have := (F.le k g hg).2; omega⟩, fun H7 e7 => ?_⟩
      · have := (mem_seatsOf.mp (F.mem k g hg)).1
        omega
      have hbr : brought bs (G k) = reach N bs k := by unfold brought reach; rw [F.sum]
      rw [hbr]
      have htk : (kvs.take (i + 1)).map (·.1) = (kvs.take i).map (·.1) ++ [k] := by
        rw [List.take_add_one, hk, List.map_append]; rfl
      have same : (∀ z, k = .inr z → ¬ 0 < reach N bs (.inr z)) → ∃ u5 u6 u7 fk, [some v, some u, some (V.int c), some (V.ref B), some (V.ref R), some (kV k), some (V.ref dk), some (V.int (reach N bs k))] = [some v, some u, some (.int c), some (.ref B), some (.ref R), u5, u6, u7] ∧ (∀ x o, x ≠ R → H4 x = some o → H7 x = some o) ∧ H7 R = some (.dK fk) ∧ fk.length ≤ i + 1 ∧ FinK (fun z => reach N bs (.inr z)) ((kvs.take (i + 1)).map (·.1)) fk := fun h =>
        ⟨_, _, _, fk, rfl, fun x o hx h => e7 _ _ (e46 _ _ hx h), e7 _ _ (e6 _ _ hR5), by omega, by rw [htk]; exact FK.other h⟩
      cases k with
      | inl j =>
        walk_at "run"
        rw [if_neg Bool.false_ne_true, if_neg Bool.false_ne_true]
        exact same fun z e => nomatch e
      | inr z =>
        walk_at "run"
        by_cases hp : 0 < reach N bs (.inr z)
        · rw [if_pos hp]
          refine x_dput (k := .inr z) (e7 _ _ (e6 _ _ hR5)) (by omega) fun H8 e8 _ h8 => ?_
          have := length_putK fk (.inr z) (.int (reach N bs (.inr z)))
          exact ⟨_, _, _, _, rfl, fun x o hx h => e8 _ _ hx (e7 _ _ (e46 _ _ hx h)), h8, by omega, by rw [htk]; exact FK.put (T := fun z => reach N bs (.inr z)) hp⟩
        · rw [if_neg hp]
          exact same fun z' e => by cases e; exact hp
    · rintro σ H5 ⟨u5, u6, u7, fk, rfl, e5, hR5, hfl, FK⟩
      walk_at "run"
      rw [List.take_length] at FK
      refine q H5 R fk (fun x o hx => e5 _ _ (ne_of_none (e1 _ _ hx) nR) (e24 _ _ (e2 _ _ (e1 _ _ hx)))) (fresh_back e1 nR) hR5 ⟨FK.nd, FK.str, fun z => ?_⟩
      by_cases hp : 0 < reach N bs (.inr z)
      · rw [if_pos hp]
        refine FK.yes z ?_ hp
        have : ∃ s ∈ seatsOf N N.length, s.2 = .inr z := Classical.byContradiction fun h => by
          have h0 : reach N bs (.inr z) = 0 := toQ_nil fun s hs e => h ⟨s, hs, e⟩
          omega
        obtain ⟨⟨j, _⟩, hs, rfl⟩ := this
        have hA := (F.keys (.inr z)).mpr (.inr ⟨j, hs⟩)
        obtain ⟨a, ha⟩ := Option.isSome_iff_exists.mp hA
        have hv := F.val (.inr z)
        rw [ha] at hv
        exact List.mem_map.mpr ⟨_, mem_of_val hv, rfl⟩
      · rw [if_neg hp]
        exact FK.no z fun h => hp h.2
end
end K
set_option Elab.async false
set_option linter.all false
set_option maxRecDepth 100000
set_option maxHeartbeats 4000000
namespace K
open PySem PySem.Spec PyProof.Rows L2 Evl FB
local macro_rules | `(tactic| walk_at "run") => `(tactic| try simp only [tSeq, tAsg, tVar, tC, gName, L2.start, List.map_cons, List.map_nil, List.cons_append, List.nil_append, List.length_cons, List.length_nil, List.replicate, List.getElem?_cons_zero, List.getElem?_cons_succ, Option.some.injEq, exists_eq_left', List.set_cons_zero, List.set_cons_succ, V.ref.injEq, tRet, x_tLst, x_tTup, tCons, tCB, tNil, tOp, x_addI, x_mulI, x_rI, x_rI0, x_ltI, x_leI, x_ltS, x_leS, x_eqI, x_neI, x_eqS, x_eqB, x_neB, x_isiI, x_isiS, x_int, x_max, x_min, cxOf, tIfS, tNext, tTest, V.bl.injEq, decide_eq_true_eq, gSub, tAnd, tOr, tNot, tB, tDrop, tBM, x_tFor, iRng1, iList, iTup, x_tLc, tYes, tCall, tIf, tAndV, tOrV, tNotV, tChain, List.append_nil, tUn, if_true, wipe, true_and, x_never, iU, x_itS, kV, Nat.reduceAdd, Nat.reduceSub, List.replicate_zero, x_rU, x_tMkO, iEnumT, x_tDc, x_tDGet, x_tDGet2, x_sDPut, x_tDSetd, x_tDNewK, x_iItems, x_iZip, x_tSAddK, x_tLockV])
theorem shaped_ints (ns : List Int) : SeqAt.shaped (.list (ns.map PyData.int)) = true ∧ (PyData.list (ns.map PyData.int)).depth ≤ 3 := by
  have h1 : PyData.canLayAll0 (ns.map PyData.int) = true := layAll fun d hd => by
    obtain ⟨i, _, rfl⟩ := List.mem_map.mp hd; rfl
  have h2 : PyData.depthAll (ns.map PyData.int) ≤ 1 := depthAll_le fun d hd => by
    obtain ⟨i, _, rfl⟩ := List.mem_map.mp hd; simp [PyData.depth]
  have h3 : (PyData.list (ns.map PyData.int)).depth ≤ 3 := by rw [PyData.depth]; omega
  exact ⟨shaped_mk (by rw [PyData.canLay0]; exact h1) (by omega), h3⟩
theorem shaped_strs (ns : List Str) (h : ∀ z ∈ ns, (PyData.str z).canLay0 = true) : SeqAt.shaped (.list (ns.map PyData.str)) = true ∧ (PyData.list (ns.map PyData.str)).depth ≤ 3 := by
  have h1 : PyData.canLayAll0 (ns.map PyData.str) = true := layAll fun d hd => by
    obtain ⟨i, hi, rfl⟩ := List.mem_map.mp hd; exact h i hi
  have h2 : PyData.depthAll (ns.map PyData.str) ≤ 1 := depthAll_le fun d hd => by
    obtain ⟨i, _, rfl⟩ := List.mem_map.mp hd; simp [PyData.depth]
  have h3 : (PyData.list (ns.map PyData.str)).depth ≤ 3 := by rw [PyData.depth]; omega
  exact ⟨shaped_mk (by rw [PyData.canLay0]; exact h1) (by omega), h3⟩
theorem sm_ints {ns : List Int} (h : ns.length ≤ 1000000) : SmD (.list (ns.map PyData.int)) := .lst (by simpa using h) fun d hd => by
  obtain ⟨i, _, rfl⟩ := List.mem_map.mp hd; exact .int i
theorem sm_strs {ns : List Str} (h : ns.length ≤ 1000000) : SmD (.list (ns.map PyData.str)) := .lst (by simpa using h) fun d hd => by
  obtain ⟨i, _, rfl⟩ := List.mem_map.mp hd; exact .str i
/-- the keys as texts -/
theorem Fin.keys {T : Str → Int} {kvs : List (Key × V)} (F : Fin T kvs) : ∃ ks : List Str, kvs.map (·.1) = ks.map Sum.inr ∧ ks.Nodup ∧ ∀ z, z ∈ ks ↔ 0 < T z := by
  have : ∀ {l : List (Key × V)}, (∀ p ∈ l, ∃ z, p.1 = .inr z) → ∃ ks : List Str, l.map (·.1) = ks.map Sum.inr := fun {l} => by
    induction l with
    | nil => exact fun _ => ⟨[], rfl⟩
    | cons p r ih =>
      intro h
      obtain ⟨ks, hk⟩ := ih fun q hq => h q (List.mem_cons_of_mem _ hq)
      obtain ⟨z, hz⟩ := h p (List.mem_cons_self ..)
      exact ⟨z :: ks, by rw [List.map_cons, List.map_cons, hk, hz]⟩
  obtain ⟨ks, hk⟩ := this F.str
  have nd := F.nd
  rw [hk] at nd
  refine ⟨ks, hk, (List.pairwise_map.mp nd).imp fun h e => h (by rw [e]), fun z => ?_⟩
  have hm : z ∈ ks ↔ (Sum.inr z : Key) ∈ kvs.map (·.1) := by
    rw [hk]
    simp
  rw [hm]
  have hv := F.val z
  constructor
  · intro h
    obtain ⟨⟨k, v⟩, hp, rfl⟩ := List.mem_map.mp h
    have := val_of_mem F.nd hp
    rw [this] at hv
    by_cases e : 0 < T z
    · exact e
    · rw [if_neg e] at hv; cases hv
  · intro h
    rw [if_pos h] at hv
    exact valV_in hv
theorem Fin.same {T : Str → Int} {ka kb : List (Key × V)} (A : Fin T ka) (B : Fin T kb) : ka.length = kb.length ∧ ∀ p ∈ ka, valV kb p.1 = some p.2 ∧ flatB p.2 = true := by
  obtain ⟨ks, h1, n1, m1⟩ := A.keys
  obtain ⟨ls, h2, n2, m2⟩ := B.keys
  have hp : ks.Perm ls := (List.perm_ext_iff_of_nodup n1 n2).mpr fun z => by rw [m1, m2]
  refine ⟨?_, fun p hp => ?_⟩
  · have e1 := congrArg List.length h1
    have e2 := congrArg List.length h2
    rw [List.length_map, List.length_map] at e1 e2
    rw [e1, e2]; exact hp.length_eq
  · obtain ⟨z, hz⟩ := A.str p hp
    have hv := val_of_mem (k := p.1) (v := p.2) A.nd hp
    rw [hz] at hv ⊢
    rw [A.val] at hv
    rw [B.val, hv]
    by_cases e : 0 < T z
    · rw [if_pos e] at hv
      rw [← Option.some.inj hv]
      exact ⟨rfl, rfl⟩
    · rw [if_neg e] at hv; cases hv
section
variable {P : Program} {w : World} {K : PySem.W.Frag} {mg : Str → Option Value} {base : Heap}
/-- the same numbers by ports on both sides -/
def spAlikeD : Sp := fun vs H Q _ => ∃ (a b : Addr) (T : Str → Int) (ka kb : List (Key × V)), vs = [.ref a, .ref b] ∧ H a = some (.dK ka) ∧ H b = some (.dK kb) ∧ Fin T ka ∧ Fin T kb ∧ kb.length < 64 ∧ (∀ z, 0 < T z → (PyData.str z).canLay0 = true) ∧ ∀ H', Ex H H' → Q (.bl true) H'
theorem ok_l_alikeD {f : Addr} {fd : FuncData} (D : Df K mg "_law_alike" s_l_alike ["_law_found", "_law_due"] f fd) (T : Bt mg) : FnOk P w K mg base CX0 5 f fd ["_law_found", "_law_due"] spAlikeD := by
  have D_l_alike := D
  have G_l_alike : FnOk P w K mg base CX0 4 f fd _ _ := ok_l_alike D T 4
  refine D.F.ok sc_l_alike (fun vs H Q E h => ?_) (fun cdv A outer s H vs Q E hr h => ?_)
  · obtain ⟨a, b, n, ka, kb, rfl, _⟩ := h
    rfl
  · obtain ⟨a, b, TT, ka, kb, rfl, ha, hb, FA, FB, hl, hok, q⟩ := h
    have hu := hr.units
    have hu2 := Nat.lt_of_le_of_lt (Nat.le_add_right _ 64) hu
    refine ⟨_, (pss_cons (ps_if (pt_val (pe_callB (call_isiU (K := K)) (by rfl) T.b_isinstance (by decide +kernel) (pa_cons (pv 1) (pa_cons (pe_bltn (v := .ty "dict") (by rfl) T.b_dict (by decide +kernel) rfl) pa_nil)))) (pss_one (ps_ret (pe_and (pe_callB (call_isiU (K := K)) (by rfl) T.b_isinstance (by decide +kernel) (pa_cons (pv 0) (pa_cons (pe_bltn (v := .ty "dict") (by rfl) T.b_dict (by decide +kernel) rfl) pa_nil))) (pe_and (pe_call (G_l_alike) (hr.mono (by decide)) rfl D_l_alike.g D_l_alike.F.kp D_l_alike.b .nil pass0 (pa_cons (pe_callB (call_sortD rfl) (by rfl) T.b_sorted (by decide +kernel) (pa_cons (pv 0) pa_nil)) (pa_cons (pe_callB (call_sortD rfl) (by rfl) T.b_sorted (by decide +kernel) (pa_cons (pv 1) pa_nil)) pa_nil))) (pe_one (pe_cmpR (op_eq_dictA hu2) (pv 0) (pv 1) (nomark _))))))) pss_nil)
      pss_never), ?_⟩
    walk_at "run"
    refine x_isDict hb ⟨_, rfl, ?_⟩
    rw [if_pos rfl]
    refine x_isDict ha ⟨_, rfl, ?_⟩
    rw [if_pos rfl]
    obtain ⟨ks, h1, n1, m1⟩ := FA.keys
    obtain ⟨ls, h2, n2, m2⟩ := FB.keys
    obtain ⟨s1, s2⟩ := FA.same FB
    have hpm : ks.Perm ls := (List.perm_ext_iff_of_nodup n1 n2).mpr fun z => by rw [m1, m2]
    have e1 := congrArg List.length h1
    have e2 := congrArg List.length h2
    rw [List.length_map, List.length_map] at e1 e2
    refine x_sortD ha h1 (by omega) fun ys p H1 p1 so1 np x1 hp => ?_
    refine x_sortD (x1 _ _ hb) h2 (by omega) fun zs p2 H2 p2' so2 np2 x2 hp2 => ?_
    obtain rfl : ys = zs := sorted_same ((p1.trans hpm).trans p2'.symm) so1 so2
    have hoy : ∀ z ∈ ys, (PyData.str z).canLay0 = true := fun z hz => hok z ((m1 z).mp (p1.mem_iff.mp hz))
    have hyl : ys.length ≤ 1000000 := by have := p1.length_eq; omega
    refine ⟨_, _, .list (ys.map PyData.str), rfl, .lst (SqL.of (x2 _ _ hp)) (strs_dp ys), .lst (SqL.of hp2) (strs_dp ys), (shaped_strs ys hoy).1, (shaped_strs ys hoy).2, sm_strs hyl, fun H3 x3 => ⟨_, rfl, ?_⟩⟩
    rw [if_pos rfl]
    have x03 := (x1.trans x2).trans x3
    exact x_eqDA (x03 _ _ ha) (x03 _ _ hb) s1 s2 (q H3 x03)
end
end K
set_option Elab.async false
set_option linter.all false
set_option maxRecDepth 100000
set_option maxHeartbeats 4000000
namespace K
open PySem PySem.Spec PyProof.Rows L2 Evl FB
local macro_rules | `(tactic| walk_at "run") => `(tactic| try simp only [tSeq, tAsg, tVar, tC, gName, L2.start, List.map_cons, List.map_nil, List.cons_append, List.nil_append, List.length_cons, List.length_nil, List.replicate, List.getElem?_cons_zero, List.getElem?_cons_succ, Option.some.injEq, exists_eq_left', List.set_cons_zero, List.set_cons_succ, V.ref.injEq, tRet, x_tLst, x_tTup, tCons, tCB, tNil, tOp, x_addI, x_mulI, x_rI, x_rI0, x_ltI, x_leI, x_ltS, x_leS, x_eqI, x_neI, x_eqS, x_eqB, x_neB, x_isiI, x_isiS, x_int, x_max, x_min, cxOf, tIfS, tNext, tTest, V.bl.injEq, decide_eq_true_eq, gSub, tAnd, tOr, tNot, tB, tDrop, tBM, x_tFor, iRng1, iList, iTup, x_tLc, tYes, tCall, tIf, tAndV, tOrV, tNotV, tChain, List.append_nil, tUn, if_true, wipe, true_and, x_never, iU, x_itS, kV, Nat.reduceAdd, Nat.reduceSub, List.replicate_zero, x_rU, x_tMkO, iEnumT, x_tDc, x_tDGet, x_tDGet2, x_sDPut, x_tDSetd, x_tDNewK, x_iItems, x_iZip, x_tSAddK, x_tLockV, x_tTupRg, x_tRg2, tPar, tPar3])
/-! ### the mathematics of the law's own reckoning -/
theorem bts_take {N : Net} {ls : List Int} {c : Int} {k : Nat} : ∀ {n : Nat}, k ≤ n → (bts N ls c n).take k = bts N ls c k
  | 0, h => by
    obtain rfl : k = 0 := by omega
    rfl
  | n + 1, h => by
    by_cases e : k = n + 1
    · subst e
      rw [List.take_of_length_le (by rw [bts_len]; omega)]
    · show (bts N ls c n ++ [_]).take k = _
      rw [List.take_append_of_le_length (by rw [bts_len]; omega), bts_take (by omega)]
theorem bts_at {N : Net} {ls : List Int} {c : Int} {i k n : Nat} (h : i < k) (hn : k ≤ n) : (bts N ls c k).getD i 0 = (bts N ls c n).getD i 0 := by
  rw [← bts_take (c := c) (N := N) (ls := ls) hn, List.getD_eq_getElem?_getD, List.getD_eq_getElem?_getD, List.getElem?_take_of_lt h]
/-- seats to the station k stand in earlier stations -/
theorem toQ_upto {N : Net} (hC : CntN N) {f : Nat → Int} {k : Nat} : ∀ {m : Nat}, k ≤ m → m ≤ N.length → toQ f (.inl (k : Int)) (seatsOf N m) = toQ f (.inl (k : Int)) (seatsOf N k)
  | 0, h, _ => by
    obtain rfl : k = 0 := by omega
    rfl
  | m + 1, h, hm => by
    by_cases e : k = m + 1
    · subst e; rfl
    · show toQ f _ (seatsOf N m ++ stSeats m (N.getD m [])) = _
      rw [toQ_append, toQ_upto hC (by omega) (by omega), Int.add_comm, toQ_nil, Int.zero_add]
      intro s hs
      unfold stSeats at hs
      obtain ⟨p, hp, rfl⟩ := List.mem_map.mp hs
      intro e2
      obtain rfl : p = .inl (k : Int) := e2
      have hmN : N[m]? = some (N.getD m []) := by
        rw [List.getD_eq_getElem?_getD, List.getElem?_eq_getElem (by omega)]; rfl
      have := (hC.fw m _ hmN _ hp).1
      omega
/-- who joins the station k, by the boats of the earlier ones -/
theorem joins_eq {N : Net} (hC : CntN N) {ls : List Int} {c : Int} {k : Nat} (hk : k < N.length) :
    joins N c (bts N ls c k) k = (if k = 0 then c else 0) + toQ (fun i => (bts N ls c N.length).getD i 0) (.inl (k : Int)) (seatsOf N k) := by
  have e : toQ (fun i => (bts N ls c k).getD i 0) (.inl (k : Int)) (seatsOf N k) = toQ (fun i => (bts N ls c N.length).getD i 0) (.inl (k : Int)) (seatsOf N k) := toQ_congr fun s hs _ => by
    have := (mem_seatsOf.mp (show (s.1, s.2) ∈ seatsOf N k from hs)).1
    exact bts_at this (by omega)
  unfold joins
  by_cases h : k = 0
  · subst h
    rw [if_pos rfl, if_pos rfl]
    simp [seatsOf, toQ]
  · rw [if_neg h, if_neg h, toQ_upto hC (by omega) (Nat.le_refl _), e]; omega
theorem bts_nn {N : Net} {ls : List Int} {c : Int} (hl : ∀ x ∈ ls, 0 ≤ x) (hc : 0 ≤ c) : ∀ {k : Nat}, ∀ x ∈ bts N ls c k, 0 ≤ x
  | 0, x, h => by simp [bts] at h
  | k + 1, x, h => by
    have ih := bts_nn (N := N) hl hc (k := k)
    rcases List.mem_append.mp (show x ∈ bts N ls c k ++ [_] from h) with h | h
    · exact ih x h
    · rw [List.mem_singleton.mp h]
      have get : ∀ {l : List Int} {i : Nat}, (∀ x ∈ l, 0 ≤ x) → 0 ≤ l.getD i 0 := fun {l i} h => by
        rw [List.getD_eq_getElem?_getD]
        cases e : l[i]? with
        | none => exact Int.le_refl _
        | some y => exact h y (List.mem_of_getElem? e)
      have hj : 0 ≤ joins N c (bts N ls c k) k := by
        unfold joins
        split
        · exact hc
        · exact toQ_nn fun s _ => get ih
      have := get (i := k) hl
      exact Int.fdiv_nonneg (by omega) (by omega)
/-- one port gets b more -/
theorem Fin.add {T T2 : Str → Int} {kvs : List (Key × V)} {z : Str} {b : Int} (F : Fin T kvs) (hb : 0 < b) (h0 : 0 ≤ T z) (h1 : T2 z = T z + b) (h2 : ∀ y, y ≠ z → T2 y = T y) : Fin T2 (putK kvs (.inr z) (.int (T z + b))) where
  nd := putK_keys F.nd
  str := fun p hp => by
    unfold putK at hp
    split at hp
    · obtain ⟨p', hp', rfl⟩ := List.mem_map.mp hp
      split
      · exact F.str p' hp'
      · exact F.str p' hp'
    · rcases List.mem_append.mp hp with hp | hp
      · exact F.str p hp
      · rw [List.mem_singleton.mp hp]; exact ⟨z, rfl⟩
  val := fun y => by
    rw [valV_put]
    by_cases e : (Sum.inr y : Key) = .inr z
    · cases e
      rw [if_pos rfl, if_pos (by omega), h1]
    · rw [if_neg e, F.val, h2 y (fun z => e (by rw [z]))]
theorem Fin.get {T : Str → Int} {kvs : List (Key × V)} {z : Str} (F : Fin T kvs) (h0 : 0 ≤ T z) : (valV kvs (.inr z)).getD (.int 0) = .int (T z) := by
  rw [F.val]
  split
  · rfl
  · have : T z = 0 := by omega
    rw [this]; rfl
theorem Fin.congr {T T2 : Str → Int} {kvs : List (Key × V)} (F : Fin T kvs) (h : ∀ z, T2 z = T z) : Fin T2 kvs := by
  obtain rfl : T2 = T := funext h
  exact F
theorem Fin.nil : Fin (fun _ => 0) [] := ⟨List.nodup_nil, fun _ h => (by simp at h), fun _ => rfl⟩
theorem W4_ok {z : Str} (h : z ∈ W4) : (PyData.str z).canLay0 = true := by
  unfold W4 at h
  simp only [List.mem_cons, List.not_mem_nil, or_false] at h
  rcases h with rfl | rfl | rfl | rfl <;> (rw [PyData.canLay0]; decide +kernel)
/-- what the law holds while it reckons: the boats bs so far, the seats Lq counted -/
structure Wk (K : PySem.W.Frag) (H : Hp) (h b L JL BL TL : Addr) (vN vS : V) (N : Net) (p : Int) (qs : List (List Int)) (ts : List V) (c : Int) (f : Nat → Int) (Lq : Seats) (bs js : List Int) (kvs : List (Key × V)) : Prop where
  gen : Gen H h b
  net : NetAt K H vN N
  st : Dp K H vS (stateD p qs)
  hL : H L = some (.lst ts)
  hts : DpAll K H ts (qs.map qD)
  hJ : H JL = some (.lst (js.map V.int))
  jl : js.length = N.length
  jv : ∀ j, j < N.length → js.getD j 0 = (if j = 0 then c else 0) + toQ f (.inl (j : Int)) Lq
  hB : H BL = some (.lst (bs.map V.int))
  hT : H TL = some (.dK kvs)
  fin : Fin (fun z => toQ f (.inr z) Lq) kvs
structure Ap (h b L JL BL : Addr) : Prop where
  bj : BL ≠ JL
  bl : BL ≠ L
  jl : JL ≠ L
  bh : BL ≠ h
  bb : BL ≠ b
  jh : JL ≠ h
  jb : JL ≠ b
theorem Fin.short {T : Str → Int} {kvs : List (Key × V)} (F : Fin T kvs) (h : ∀ z, 0 < T z → z ∈ W4) : kvs.length ≤ 4 := by
  obtain ⟨ks, h1, n1, m1⟩ := F.keys
  have e := congrArg List.length h1
  rw [List.length_map, List.length_map] at e
  have := n1.length_le_of_subset (l₂ := W4) fun z hz => h z ((m1 z).mp hz)
  rw [e]
  exact this
theorem toQ_pos {f : Nat → Int} {q : Key} {L : Seats} (h : 0 < toQ f q L) : ∃ s ∈ L, s.2 = q := Classical.byContradiction fun n => by
  have h0 : toQ f q L = 0 := toQ_nil fun s hs e => n ⟨s, hs, e⟩
  omega
section
variable {K : PySem.W.Frag} {H H2 : Hp} {h b L JL BL TL : Addr} {vN vS : V} {N : Net} {p : Int} {qs : List (List Int)} {ts : List V} {c : Int} {f : Nat → Int} {Lq : Seats} {bs js : List Int} {kvs : List (Key × V)}
theorem Wk.ex (W : Wk K H h b L JL BL TL vN vS N p qs ts c f Lq bs js kvs) (e : Ex H H2) : Wk K H2 h b L JL BL TL vN vS N p qs ts c f Lq bs js kvs :=
  ⟨W.gen.ex e, Dp.ex e W.net, Dp.ex e W.st, e _ _ W.hL, DpAll.ex e W.hts, e _ _ W.hJ, W.jl, W.jv, e _ _ W.hB, e _ _ W.hT, W.fin⟩
theorem Wk.boat (W : Wk K H h b L JL BL TL vN vS N p qs ts c f Lq bs js kvs) (A : Ap h b L JL BL) {x : Int} (e : ∀ x o, x ≠ BL → H x = some o → H2 x = some o) (h2 : H2 BL = some (.lst ((bs ++ [x]).map V.int))) : Wk K H2 h b L JL BL TL vN vS N p qs ts c f Lq (bs ++ [x]) js kvs :=
  have t := TX.but W.hB e
  ⟨W.gen.but A.bh A.bb e, W.net.tx t, Dp.tx t W.st (stateD_t _ _), e _ _ A.bl.symm W.hL, DpAll.tx t W.hts (qsD_t qs).all, e _ _ A.bj.symm W.hJ, W.jl, W.jv, h2, e _ _ (ne_of W.hT W.hB (fun z => nomatch z)) W.hT, W.fin⟩
theorem getD_set {l : List Int} {i j : Nat} {x : Int} (h : i < l.length) : (l.set i x).getD j 0 = if j = i then x else l.getD j 0 := by
  rw [List.getD_eq_getElem?_getD, List.getElem?_set]
  by_cases e : i = j
  · subst e
    rw [if_pos rfl, if_pos rfl, if_pos h]; rfl
  · rw [if_neg e, if_neg (fun z => e z.symm), ← List.getD_eq_getElem?_getD]
theorem toQ_one {f : Nat → Int} {q p : Key} {L : Seats} {k : Nat} : toQ f q (L ++ [(k, p)]) = toQ f q L + if p = q then f k else 0 := by
  rw [toQ_append]
  show _ + ((if p = q then f k else 0) + 0) = _
  rw [Int.add_zero]
theorem toQ_here {f : Nat → Int} {p : Key} {L : Seats} {k : Nat} : toQ f p (L ++ [(k, p)]) = toQ f p L + f k := by rw [toQ_one, if_pos rfl]
theorem toQ_other {f : Nat → Int} {q p : Key} {L : Seats} {k : Nat} (h : p ≠ q) : toQ f q (L ++ [(k, p)]) = toQ f q L := by rw [toQ_one, if_neg h, Int.add_zero]
theorem toQ_pi {f : Nat → Int} {i : Int} {z : Str} {L : Seats} {k : Nat} : toQ f (.inl i) (L ++ [(k, .inr z)]) = toQ f (.inl i) L := toQ_other (by intro h; cases h)
theorem toQ_ip {f : Nat → Int} {i : Int} {z : Str} {L : Seats} {k : Nat} : toQ f (.inr z) (L ++ [(k, .inl i)]) = toQ f (.inr z) L := toQ_other (by intro h; cases h)
theorem Wk.joined (W : Wk K H h b L JL BL TL vN vS N p qs ts c f Lq bs js kvs) (A : Ap h b L JL BL) {k j : Nat} (hj : j < N.length) (e : ∀ x o, x ≠ JL → H x = some o → H2 x = some o) (h2 : H2 JL = some (.lst ((js.set j (js.getD j 0 + f k)).map V.int))) :
    Wk K H2 h b L JL BL TL vN vS N p qs ts c f (Lq ++ [(k, .inl (j : Int))]) bs (js.set j (js.getD j 0 + f k)) kvs := by
  have t := TX.but W.hJ e
  refine ⟨W.gen.but A.jh A.jb e, W.net.tx t, Dp.tx t W.st (stateD_t _ _), e _ _ A.jl.symm W.hL, DpAll.tx t W.hts (qsD_t qs).all, h2, by rw [List.length_set]; exact W.jl, fun i hi => ?_, e _ _ A.bj W.hB, e _ _ (ne_of W.hT W.hJ (fun z => nomatch z)) W.hT, W.fin.congr fun z => ?_⟩
  · rw [getD_set (by rw [W.jl]; exact hj)]
    by_cases e1 : i = j
    · subst e1
      rw [if_pos rfl, toQ_here, W.jv i hi]; omega
    · rw [if_neg e1, toQ_other (fun z => e1 (by have := Sum.inl.inj z; omega)), W.jv i hi]
  · exact toQ_ip
theorem Wk.told (W : Wk K H h b L JL BL TL vN vS N p qs ts c f Lq bs js kvs) {k : Nat} {z : Str} (hp : 0 < f k) (h0 : ∀ s ∈ Lq, 0 ≤ f s.1) (e : ∀ x o, x ≠ TL → H x = some o → H2 x = some o) (h2 : H2 TL = some (.dK (putK kvs (.inr z) (.int (toQ f (.inr z) Lq + f k))))) :
    Wk K H2 h b L JL BL TL vN vS N p qs ts c f (Lq ++ [(k, .inr z)]) bs js (putK kvs (.inr z) (.int (toQ f (.inr z) Lq + f k))) := by
  have t : TX H H2 := fun x o hx cc => e x o (fun y => by subst y; rw [W.hT] at hx; cases hx; exact cc) hx
  obtain ⟨m, cc, ns, g1, g2, g3⟩ := W.gen
  refine ⟨⟨m, cc, ns, e _ _ (ne_of g1 W.hT (fun z => nomatch z)) g1, e _ _ (ne_of g2 W.hT (fun z => nomatch z)) g2, g3⟩, W.net.tx t, Dp.tx t W.st (stateD_t _ _), e _ _ (ne_of W.hL W.hT (fun z => nomatch z)) W.hL, DpAll.tx t W.hts (qsD_t qs).all, e _ _ (ne_of W.hJ W.hT (fun z => nomatch z)) W.hJ, W.jl, fun i hi => ?_, e _ _ (ne_of W.hB W.hT (fun z => nomatch z)) W.hB, h2, ?_⟩
  · rw [toQ_pi]; exact W.jv i hi
  · refine Fin.add (T := fun y => toQ f (.inr y) Lq) W.fin hp (toQ_nn h0) ?_ fun y hy => ?_
    · show toQ f (.inr z) (Lq ++ [(k, .inr z)]) = _
      exact toQ_here
    · show toQ f (.inr y) (Lq ++ [(k, .inr z)]) = _
      exact toQ_other (fun e => hy (Sum.inr.inj e).symm)
theorem Wk.skip (W : Wk K H h b L JL BL TL vN vS N p qs ts c f Lq bs js kvs) {k : Nat} {z : Str} (hp : f k = 0) : Wk K H h b L JL BL TL vN vS N p qs ts c f (Lq ++ [(k, .inr z)]) bs js kvs :=
  { W with
    jv := fun i hi => by rw [toQ_pi]; exact W.jv i hi
    fin := W.fin.congr fun y => by
      rw [toQ_one]
      split
      · rw [hp, Int.add_zero]
      · rw [Int.add_zero] }
end
section
variable {P : Program} {w : World} {K : PySem.W.Frag} {mg : Str → Option Value} {base : Heap}
theorem x_rep {H : Hp} {p : Addr} {xs : List V} {k : Int} {Q : VK} (h : H p = some (.lst xs)) (hk : 0 ≤ k ∧ k ≤ 1000) (hl : xs.length ≤ 1000) (q : ∀ l H', H l = none → Ex H H' → H' l = some (.lst (List.replicate k.toNat xs).flatten) → Q (.ref l) H') : rMulU K (.ref p) (.int k) H Q :=
  .inl (.inr ⟨p, k, xs, rfl, rfl, h, by omega, by omega, small (by
    have h2 : xs.length * k.toNat ≤ 1000 * 1000 := Nat.mul_le_mul hl (by omega)
    omega), x_new q⟩)
abbrev s_law : Stmt := top 33
theorem sc_law : FnScope ["_law_script", "_law_h", "_law_turn", "_law_network_here", "_law_queues", "_law_number", "_law_seats", "_law_length", "_law_state", "_law_count", "_law_joined", "_law_boats", "_law_told", "_law_k", "_law_place_here"] ["_law_script"] (defScope s_law) := ⟨rfl, rfl, rfl, by decide +kernel, rfl, by decide +kernel, by decide +kernel⟩
def spLaw (K : PySem.W.Frag) : Sp := fun vs H Q _ => ∃ (a : Addr) (ns : List Int), vs = [.ref a] ∧ SqL K H a (ns.map V.int) ∧ ns.length ≤ 63 ∧ ∀ H', Q (.bl true) H'
/-- the law's own defs -/
structure Dl (K : PySem.W.Frag) (mg : Str → Option Value) : Prop where
  mix : ∃ f fd, Df K mg "_law_mix" s_l_mix ["_law_script", "_law_seed"] f fd
  next : ∃ f fd, Df K mg "_law_next" s_l_next ["_law_h", "_law_limit"] f fd
  place : ∃ f fd, Df K mg "_law_place" s_l_place ["_law_h", "_law_station", "_law_count"] f fd
  network : ∃ f fd, Df K mg "_law_network" s_l_network ["_law_h", "_law_most"] f fd
  alike : ∃ f fd, Df K mg "_law_alike" s_l_alike ["_law_found", "_law_due"] f fd
theorem ok_law {f f1 f2 : Addr} {fd fd1 fd2 : FuncData} (F : Fun K "law" "law" s_law f fd) (T : Bt mg) (Ck : Ct K mg) (Cm0 : Cm mg) (DL : Dl K mg) (DD : Dn K mg)
    (D_count_boats : Df K mg "count_boats" s_count_boats ["network", "state", "count"] f1 fd1) (D_count_finished : Df K mg "count_finished" s_count_finished ["network", "state", "count"] f2 fd2) :
    FnOk P w K mg base CX0 8 f fd ["_law_script"] (spLaw K) := by
  obtain ⟨g1, gd1, D_l_mix⟩ := DL.mix
  obtain ⟨g2, gd2, D_l_next⟩ := DL.next
  obtain ⟨g3, gd3, D_l_place⟩ := DL.place
  obtain ⟨g4, gd4, D_l_network⟩ := DL.network
  obtain ⟨g5, gd5, D_l_alike⟩ := DL.alike
  have G_l_mix : FnOk P w K mg base CX0 1 g1 gd1 _ _ := ok_l_mix D_l_mix T
  have G_l_next : FnOk P w K mg base CX0 1 g2 gd2 _ _ := ok_l_next D_l_next T
  have G_l_network : FnOk P w K mg base CX0 3 g4 gd4 _ _ := ok_l_network D_l_network T D_l_next D_l_place
  have G_l_alike : FnOk P w K mg base CX0 5 g5 gd5 _ _ := ok_l_alike D_l_alike T 5
  have G_l_alikeD : FnOk P w K mg base CX0 5 g5 gd5 _ _ := ok_l_alikeD D_l_alike T
  have G_count_boats : FnOk P w K mg base CX0 6 f1 fd1 _ _ := ok_count_boats D_count_boats T Ck Cm0 DD
  have G_count_finished : FnOk P w K mg base CX0 7 f2 fd2 _ _ := ok_count_finished D_count_finished T Ck Cm0 DD D_count_boats
  refine F.ok sc_law (fun vs H Q E h => ?_) (fun cdv A outer s H vs Q E hr h => ?_)
  · obtain ⟨a, ns, rfl, _⟩ := h
    rfl
  · obtain ⟨a, ns, rfl, hS, hl, q⟩ := h
    have hu1 := hu_of hr
    refine ⟨_, (pss_cons (ps_set (i := 1) sc_law.nd rfl (Or.inl rfl) (pe_call (G_l_mix) (hr.mono (by decide)) rfl D_l_mix.g D_l_mix.F.kp D_l_mix.b .nil pass0 (pa_cons (pv 0) (pa_cons pe_int pa_nil))))
      (pss_cons (ps_for PassesOwn.never rfl (pi_range1 (by rfl) T.b_range (pa_cons pe_int pa_nil)) (pg_name (i := 2) sc_law.nd rfl (Or.inl rfl)) (pss_cons (ps_par3 (i := 3) (j := 4) (l := 5) rfl sc_law.nd rfl rfl rfl (by decide) (by decide) (by decide) rfl rfl rfl (pa_cons (pe_call (G_l_network) (hr.mono (by decide)) rfl D_l_network.g D_l_network.F.kp D_l_network.b .nil pass0 (pa_cons (pv 1) (pa_cons pe_int pa_nil))) (pa_cons (pe_lst pa_nil) (pa_cons pe_int pa_nil))) (by rfl))
      (pss_cons (ps_for PassesOwn.never rfl (pi_U (K := K) (pv 3)) (pg_name (i := 6) sc_law.nd rfl (Or.inl rfl)) (pss_cons (ps_set (i := 7) sc_law.nd rfl (Or.inl rfl) (pe_call (G_l_next) (hr.mono (by decide)) rfl D_l_next.g D_l_next.F.kp D_l_next.b .nil pass0 (pa_cons (pv 1) (pa_cons (pe_callB (call_lenU (K := K)) (by rfl) T.b_len (by decide +kernel) (pa_cons (pv 6) pa_nil)) pa_nil))))
      (pss_cons (ps_expr (pe_bm PySem.F.plainAttrs_list PySem.F.slot_list_append PySem.F.type_list_append mt_append (pv 4) (pa_cons (pe_tupRg rfl (by rfl) T.b_tuple (prg_2 (by rfl) T.b_range (pv 5) (pe_op (op_addU (K := K)) (pv 5) (pv 7)))) pa_nil)))
      (pss_one (ps_set (i := 5) sc_law.nd rfl (Or.inl rfl) (pe_op (op_addU (K := K)) (pv 5) (pv 7)))))))
      (pss_cons (ps_par (i := 8) (j := 9) (by rfl) sc_law.nd rfl rfl (by decide) rfl rfl (pa_cons (pe_tup (pa_cons (pv 5) (pa_cons (pe_callTy (call_tupU (K := K)) (by rfl) T.b_tuple (by decide +kernel) (pa_cons (pv 4) pa_nil)) pa_nil))) (pa_cons (pe_ix (ix_U (K := K)) (pe_lst (pa_cons (pe_call (G_l_next) (hr.mono (by decide)) rfl D_l_next.g D_l_next.F.kp D_l_next.b .nil pass0 (pa_cons (pv 1) (pa_cons pe_int pa_nil))) (pa_cons (pe_op op_sub (pe_op op_pow pe_int pe_int) (pe_call (G_l_next) (hr.mono (by decide)) rfl D_l_next.g D_l_next.F.kp D_l_next.b .nil pass0 (pa_cons (pv 1) (pa_cons pe_int pa_nil)))) pa_nil))) (pe_call (G_l_next) (hr.mono (by decide)) rfl D_l_next.g D_l_next.F.kp D_l_next.b .nil pass0 (pa_cons (pv 1) (pa_cons pe_int pa_nil))) (fun _ _ => rfl)) pa_nil)) (by rfl))
      (pss_cons (ps_par3 (i := 10) (j := 11) (l := 12) rfl sc_law.nd rfl rfl rfl (by decide) (by decide) (by decide) rfl rfl rfl (pa_cons (pe_op (op_addU (K := K)) (pe_lst (pa_cons (pv 9) pa_nil)) (pe_op (op_mulU (K := K)) (pe_lst (pa_cons pe_int pa_nil)) (pe_op op_sub (pe_callB (call_lenU (K := K)) (by rfl) T.b_len (by decide +kernel) (pa_cons (pv 3) pa_nil)) pe_int))) (pa_cons (pe_lst pa_nil) (pa_cons pe_dnewK pa_nil))) (by rfl))
      (pss_cons (ps_for PassesOwn.never rfl (pi_range1 (by rfl) T.b_range (pa_cons (pe_callB (call_lenU (K := K)) (by rfl) T.b_len (by decide +kernel) (pa_cons (pv 3) pa_nil)) pa_nil)) (pg_name (i := 13) sc_law.nd rfl (Or.inl rfl)) (pss_cons (ps_expr (pe_bm PySem.F.plainAttrs_list PySem.F.slot_list_append PySem.F.type_list_append mt_append (pv 11) (pa_cons (pe_op op_fdivN (pe_op (op_addU (K := K)) (pe_callB (call_lenU (K := K)) (by rfl) T.b_len (by decide +kernel) (pa_cons (pe_ix (ix_U (K := K)) (pv 4) (pv 13) (fun _ _ => rfl)) pa_nil)) (pe_ix (ix_U (K := K)) (pv 10) (pv 13) (fun _ _ => rfl))) (pe_callB (call_lenU (K := K)) (by rfl) T.b_len (by decide +kernel) (pa_cons (pe_ix (ix_U (K := K)) (pv 3) (pv 13) (fun _ _ => rfl)) pa_nil))) pa_nil)))
      (pss_one (ps_for PassesOwn.never rfl (pi_U (K := K) (pe_ix (ix_U (K := K)) (pv 3) (pv 13) (fun _ _ => rfl))) (pg_name (i := 14) sc_law.nd rfl (Or.inl rfl)) (pss_one (ps_if (pt_not (pt_val (pe_callB (call_isiU (K := K)) (by rfl) T.b_isinstance (by decide +kernel) (pa_cons (pv 14) (pa_cons (pe_bltn (v := .ty "str") (by rfl) T.b_str (by decide +kernel) rfl) pa_nil))))) (pss_one (ps_asg (pe_op (op_addU (K := K)) (pe_ix (ix_U (K := K)) (pv 10) (pv 14) (fun _ _ => rfl)) (pe_ix (ix_U (K := K)) (pv 11) (pv 13) (fun _ _ => rfl))) (pg_sub (pv 10) (pv 14) set_list))) (pss_one (ps_if (pt_cmpR (op_gtU) (pe_ix (ix_U (K := K)) (pv 11) (pv 13) (fun _ _ => rfl)) pe_int (nomark _)) (pss_one (ps_dput hu1 (pv 12) (pv 14) (pe_op (op_addU (K := K)) (pe_dget2 hu1 (pv 12) (pv 14) pe_int ⟨rfl, rfl, rfl, rfl⟩) (pe_ix (ix_U (K := K)) (pv 11) (pv 13) (fun _ _ => rfl))) rfl)) pss_nil))))))))
      (pss_cons (ps_if (pt_not (pt_val (pe_call (G_l_alike) (hr.mono (by decide)) rfl D_l_alike.g D_l_alike.F.kp D_l_alike.b .nil pass0 (pa_cons (pe_call (G_count_boats) (hr.mono (by decide)) rfl D_count_boats.g D_count_boats.F.kp D_count_boats.b .nil pass0 (pa_cons (pv 3) (pa_cons (pv 8) (pa_cons (pv 9) pa_nil)))) (pa_cons (pv 11) pa_nil))))) (pss_one (ps_ret pe_bl)) pss_nil)
      (pss_one (ps_if (pt_not (pt_val (pe_call (G_l_alikeD) (hr.mono (by decide)) rfl D_l_alike.g D_l_alike.F.kp D_l_alike.b .nil pass0 (pa_cons (pe_call (G_count_finished) (hr.mono (by decide)) rfl D_count_finished.g D_count_finished.F.kp D_count_finished.b .nil pass0 (pa_cons (pv 3) (pa_cons (pv 8) (pa_cons (pv 9) pa_nil)))) (pa_cons (pv 12) pa_nil))))) (pss_one (ps_ret pe_bl)) pss_nil)))))))))
      (pss_one (ps_ret pe_bl)))), ?_⟩
    walk_at "run"
    refine ⟨a, ns, 8, rfl, hS, hl, fun h b H1 e1 nh nb g1 => ?_⟩
    refine ⟨3, rfl, by decide, by decide, loop_it walk_range (fun i σ H' => ∃ u2 u3 u4 u5 u6 u7 u8 u9 u10 u11 u12 u13 u14, σ = [some (.ref a), some (.ref h), u2, u3, u4, u5, u6, u7, u8, u9, u10, u11, u12, u13, u14] ∧ Gen H' h b) ⟨_, _, _, _, _, _, _, _, _, _, _, _, _, rfl, g1⟩ (fun _ _ _ _ _ => trivial) ?_ ?_⟩
    · rintro i x σ H2 H2' hi ⟨u2, u3, u4, u5, u6, u7, u8, u9, u10, u11, u12, u13, u14, rfl, g2⟩ ⟨eH, rfl⟩
      subst eH
      walk_at "run"
      refine ⟨h, b, 40, rfl, g2, by decide, by decide, fun vN N H3 hD hN g3 _ => ?_⟩
      have hV : ValidN N := hD.valid (by decide)
      have hC := hV.cnt
      have h40 := hV.le
      have h1N := hV.pos
      refine x_lst (by simp) fun L H4 nL e4 hL => ?_
      refine ⟨_, _, _, rfl, ?_⟩
      obtain ⟨vn, us, rfl, hU, hus⟩ := NetAt.at hN
      have hlu : us.length = N.length := by rw [hus.len, List.length_map]
      have hLh : L ≠ h := g3.na nL
      have hLb : L ≠ b := g3.nb nL
      refine x_itT (ex_t e4 hU) (loop_it walk_tup (fun i' σ H' => ∃ (u6 u7 : Option V) (m : Nat) (qs : List (List Int)) (ts : List V), σ = [some (.ref a), some (.ref h), some (.int (0 + (i : Nat))), some (.ref vn), some (.ref L), some (.int ((m : Int) + 1)), u6, u7, u8, u9, u10, u11, u12, u13, u14] ∧
          H' L = some (.lst ts) ∧ DpAll K H' ts (qs.map qD) ∧ qs.length = i' ∧ (∀ (k : Nat) q s, qs[k]? = some q → N[k]? = some s → q.length < s.length) ∧ qs.flatten = (List.range m).map (fun (j : Nat) => 1 + (j : Int)) ∧ m ≤ 8 * i' ∧ Gen H' h b ∧ SqT K H' vn us ∧ DpAll K H' us (N.map stD))
        ⟨_, _, 0, [], [], rfl, hL, .nil, rfl, fun k q s h => by simp at h, rfl, by omega, g3.ex e4, ex_t e4 hU, DpAll.ex e4 hus⟩ (fun i' σ H' _ ⟨_, _, _, _, _, _, _, _, _, _, _, _, _, hn, _⟩ => hn) ?_ ?_)
      · rintro i' x σ H5 H5' hi' ⟨u6, u7, m, qs, ts, rfl, hL5, hts, hq, hlt, hfl, hm, g5, hU5, hus5⟩ ⟨eH, hx⟩
        subst eH
        obtain ⟨sD, hs, hx2⟩ := hus5.get' hx
        obtain ⟨s, hsN, rfl⟩ : ∃ s, N[i']? = some s ∧ stD s = sD := by simpa using hs
        obtain ⟨bs, rfl, hbs⟩ := StAt.at hx2
        obtain ⟨hs1, hs8⟩ := hC.st s (List.mem_of_getElem? hsN)
        walk_at "run"
        refine x_lenT hbs ?_
        rw [List.length_map]
        refine x_next g5 (by omega) (by omega) fun r H6 r0 r1 g6 e6 => ?_
        have t6 := g5.tx e6
        have hL6 := e6 _ _ hL5 hLh hLb
        walk_at "run"
        refine ⟨x_tyL (SqL.of hL6), _, _, rfl, rfl, x_tupRg (RgOk.of_le (by omega) (by omega) (by omega) (by omega)) fun t H7 nt e7 ht => ?_⟩
        have hL7 := e7 _ _ hL6
        have hLt : L ≠ t := ne_of_none hL6 nt
        have hil : i' < N.length := (List.getElem?_eq_some_iff.mp hsN).1
        refine x_append hL7 (by rw [hts.len, List.length_map, hq]; omega) fun H8 e8 h8 => ?_
        have t8 := (t6.trans (TX.of e7)).trans (TX.but hL7 e8)
        obtain ⟨k, hk⟩ : ∃ k : Nat, r = (k : Int) := ⟨r.toNat, by omega⟩
        subst hk
        have e5 : (m : Int) + 1 + (k : Int) = ((m + k : Nat) : Int) + 1 := by omega
        refine ⟨some (.ref bs), some (.int k), m + k, qs ++ [(List.range k).map fun (j : Nat) => 1 + ((m + j : Nat) : Int)], ts ++ [.ref t], by rw [e5], h8, ?_, by simp [hq], fun k' q' s' h1 h2 => ?_, ?_, by omega, (g6.ex e7).but hLh hLb e8, t8.t hU5, DpAll.tx t8 hus5 (netD_t N).all⟩
        · rw [List.map_append]
          refine DpAll.append (DpAll.tx t8 hts (qsD_t qs).all) (.cons (.tup (SqT.of (e8 _ _ hLt.symm ?_)) (ints_dp _)) .nil)
          rw [ht]
          unfold rgV
          have e0 : ((m : Int) + 1 + k - ((m : Int) + 1)).toNat = k := by omega
          rw [e0, List.map_map]
          refine congrArg (fun z => some (HO.tup z)) (List.map_congr_left fun j _ => ?_)
          show V.int ((m : Int) + 1 + (j : Nat)) = V.int (1 + ((m + j : Nat) : Int))
          congr 1
          omega
        · by_cases hk' : k' < qs.length
          · rw [List.getElem?_append_left hk'] at h1
            exact hlt k' q' s' h1 h2
          · have hk2 := (List.getElem?_eq_some_iff.mp h1).1
            simp at hk2
            obtain rfl : k' = qs.length := by omega
            rw [List.getElem?_append_right (Nat.le_refl _)] at h1
            have hq' : (List.range k).map (fun (j : Nat) => 1 + ((m + j : Nat) : Int)) = q' := by simpa using h1
            rw [hq, hsN] at h2
            cases h2
            rw [← hq', List.length_map, List.length_range]
            omega
        · rw [List.flatten_append, hfl, List.range_add, List.map_append, List.map_map]
          simp
      · rintro σ H5 ⟨u6, u7, m, qs, ts, rfl, hL5, hts, hq, hlt, hfl, hm, g5, hU5, hus5⟩
        rw [hlu] at hq hm
        have hO : StOk N ((m : Int) + 1) qs := by
          refine ⟨by omega, hq, hlt, ?_, fun x hx => ?_⟩
          · rw [hfl]
            exact (List.pairwise_map.mpr (List.nodup_range.imp fun h => by omega))
          · rw [hfl] at hx
            obtain ⟨j, hj, rfl⟩ := List.mem_map.mp hx
            have := List.mem_range.mp hj
            omega
        walk_at "run"
        refine x_tupL (SqL.of hL5) fun t2 H6 n2 e6 h6 => ?_
        refine x_tup (by simp) fun t3 H7 n3 e7 h7 => ?_
        have hst : Dp K H7 (.ref t3) (stateD ((m : Int) + 1) qs) := .tup (SqT.of h7) (.cons (.int _) (.cons (.tup (SqT.of (e7 _ _ h6)) (DpAll.ex (e6.trans e7) hts)) .nil))
        refine x_next ((g5.ex e6).ex e7) (by decide) (by decide) fun r1 H8 r10 r11 g8 e8 => ?_
        walk_at "run"
        have t57 : TX H5 H7 := TX.of (e6.trans e7)
        refine ⟨⟨by decide, by decide, by decide⟩, x_next g8 (by decide) (by decide) fun r2 H9 r20 r21 g9 e9 => ?_⟩
        walk_at "run"
        refine x_lst (by simp) fun M H10 nM e10 hM => ?_
        refine x_next (g9.ex e10) (by decide) (by decide) fun r3 H11 r30 r31 g11 e11 => ?_
        have hM11 := e11 _ _ hM (g9.na nM) (g9.nb nM)
        refine x_menu hM11 r30 (by simpa using r31) fun cv _ hcv => ?_
        obtain ⟨c, rfl, hc0, hc1⟩ : ∃ c : Int, cv = .int c ∧ 0 ≤ c ∧ c ≤ 1000000000000000000 := by
          have h18 : (10 : Int) ^ Int.toNat 18 = 1000000000000000000 := by decide
          simp only [List.mem_cons, List.not_mem_nil, or_false] at hcv
          rcases hcv with rfl | rfl
          · exact ⟨_, rfl, by omega, by omega⟩
          · exact ⟨_, rfl, by omega, by omega⟩
        refine ⟨_, _, rfl, ?_⟩
        have t711 : TX H7 H11 := (((((g5.ex e6).ex e7).tx e8).trans (g8.tx e9)).trans (TX.of e10)).trans ((g9.ex e10).tx e11)
        have hL11 : H11 L = some (.lst ts) := e11 _ _ (e10 _ _ (e9 _ _ (e8 _ _ (e7 _ _ (e6 _ _ hL5)) hLh hLb) hLh hLb)) hLh hLb
        have hst11 : Dp K H11 (.ref t3) (stateD ((m : Int) + 1) qs) := Dp.tx t711 hst (stateD_t _ _)
        have hU11 : SqT K H11 vn us := t711.t (t57.t hU5)
        have hus11 : DpAll K H11 us (N.map stD) := DpAll.tx t711 (DpAll.tx t57 hus5 (netD_t N).all) (netD_t N).all
        have hts11 : DpAll K H11 ts (qs.map qD) := DpAll.tx t711 (DpAll.tx t57 hts (qsD_t qs).all) (qsD_t qs).all
        walk_at "run"
        refine x_lst (by simp) fun J1 H12 n12 e12 h12 => ?_
        refine x_lst (by simp) fun J2 H13 n13 e13 h13 => ?_
        refine x_lenT (ex_t (e12.trans e13) hU11) ?_
        rw [hlu]
        walk_at "run"
        refine x_rep h13 ⟨by omega, by omega⟩ (by simp) fun J3 H14 n14 e14 h14 => ?_
        refine x_cat (e14 _ _ (e13 _ _ h12)) h14 (by simp; omega) fun JL H15 n15 e15 h15 => ?_
        refine x_lst (by simp) fun BL H16 n16 e16 h16 => ?_
        refine x_dnew fun TL H17 n17 e17 h17 => ?_
        refine ⟨_, _, _, rfl, ?_⟩
        have e1117 : Ex H11 H17 := ((((e12.trans e13).trans e14).trans e15).trans e16).trans e17
        have hfl2 : [V.int c] ++ (List.replicate ((N.length : Int) - 1).toNat [V.int 0]).flatten = (c :: List.replicate (N.length - 1) 0).map V.int := by
          have e0 : ((N.length : Int) - 1).toNat = N.length - 1 := by omega
          rw [e0]
          generalize N.length - 1 = n
          have : ∀ n : Nat, (List.replicate n [V.int 0]).flatten = (List.replicate n (0 : Int)).map V.int := fun n => by
            induction n with
            | zero => rfl
            | succ n ih => rw [List.replicate_succ, List.replicate_succ, List.flatten_cons, ih]; rfl
          rw [this]; rfl
        rw [hfl2] at h15
        have hls : ∀ x ∈ lens qs, 0 ≤ x := fun x hx => by
          obtain ⟨y, _, rfl⟩ := List.mem_map.mp hx
          exact Int.natCast_nonneg _
        have hbn : ∀ i, 0 ≤ (bts N (lens qs) c N.length).getD i 0 := fun i => by
          rw [List.getD_eq_getElem?_getD]
          cases e : (bts N (lens qs) c N.length)[i]? with
          | none => exact Int.le_refl _
          | some y => exact bts_nn hls hc0 y (List.mem_of_getElem? e)
        have Apt : Ap h b L JL BL := by
          have g15 := ((((g11.ex e12).ex e13).ex e14).ex e15)
          have g14 := (((g11.ex e12).ex e13).ex e14)
          exact ⟨(ne_of_none h15 n16).symm, (ne_of_none (e15 _ _ (e14 _ _ (e13 _ _ (e12 _ _ hL11)))) n16).symm, (ne_of_none (e14 _ _ (e13 _ _ (e12 _ _ hL11))) n15).symm, g15.na n16, g15.nb n16, g14.na n15, g14.nb n15⟩
        have W0 : Wk K H17 h b L JL BL TL (.ref vn) (.ref t3) N ((m : Int) + 1) qs ts c (fun i => (bts N (lens qs) c N.length).getD i 0) (seatsOf N 0) [] (c :: List.replicate (N.length - 1) 0) [] := by
          refine ⟨g11.ex e1117, .tup (ex_t e1117 hU11) (DpAll.ex e1117 hus11), Dp.ex e1117 hst11, e1117 _ _ hL11, DpAll.ex e1117 hts11, e17 _ _ (e16 _ _ h15), by simp; omega, fun j hj => ?_, e17 _ _ h16, h17, Fin.nil⟩
          show _ = _ + 0
          rw [Int.add_zero]
          cases j with
          | zero => rfl
          | succ j =>
            rw [if_neg (by omega), List.getD_eq_getElem?_getD, List.getElem?_cons_succ]
            cases e : (List.replicate (N.length - 1) (0 : Int))[j]? with
            | none => rfl
            | some y => exact List.eq_of_mem_replicate (List.mem_of_getElem? e)
        refine x_lenT (ex_t e1117 hU11) ?_
        rw [hlu]
        refine ⟨_, rfl, by omega, by omega, ?_⟩
        generalize hBS : bts N (lens qs) c N.length = BS at W0 hbn
        refine loop_it walk_range (fun k σ H' => ∃ (u13 u14 : Option V) (js : List Int) (kvs : List (Key × V)), σ = [some (.ref a), some (.ref h), some (.int (0 + (i : Nat))), some (.ref vn), some (.ref L), some (.int ((m : Int) + 1)), u6, u7, some (.ref t3), some (.int c), some (.ref JL), some (.ref BL), some (.ref TL), u13, u14] ∧
            Wk K H' h b L JL BL TL (.ref vn) (.ref t3) N ((m : Int) + 1) qs ts c (fun i => BS.getD i 0) (seatsOf N k) (bts N (lens qs) c k) js kvs) ⟨_, _, _, _, rfl, W0⟩ (fun _ _ _ _ _ => trivial) ?_ ?_
        · rintro k x σ Ha Ha' hk ⟨u13, u14, js, kvs, rfl, W⟩ ⟨eH, rfl⟩
          subst eH
          have hz : (0 : Int) + k = (k : Int) := by omega
          have hk : k < N.length := by simpa using hk
          obtain ⟨s, hsN⟩ : ∃ s, N[k]? = some s := ⟨N[k], by simp [hk]⟩
          have hgN : N.getD k [] = s := by rw [List.getD_eq_getElem?_getD, hsN]; rfl
          obtain ⟨hs1, hs8⟩ := hC.st s (List.mem_of_getElem? hsN)
          obtain ⟨vn', us', ev, hUa, husa⟩ := W.net.at
          cases ev
          have hka : (N.map stD)[k]? = some (stD s) := by simp [hsN]
          obtain ⟨bsv, hbv, hbd⟩ := husa.get hka
          obtain ⟨bs, rfl, hbs⟩ := StAt.at hbd
          obtain ⟨qk, hqk⟩ : ∃ q, qs[k]? = some q := ⟨qs[k]'(by omega), List.getElem?_eq_getElem (by omega)⟩
          have hqa : (qs.map qD)[k]? = some (qD qk) := by simp [hqk]
          obtain ⟨bqv, hqv, hqd⟩ := W.hts.get hqa
          obtain ⟨bq, rfl, hbq⟩ := q_at hqd
          have hjk : k < js.length := by rw [W.jl]; exact hk
          walk_at "run"
          rw [hz]
          refine ⟨x_tyL (SqL.of W.hB), x_ixL (SqL.of W.hL) (atI_nat hqv) (x_lenT hbq ?_)⟩
          rw [List.length_map]
          refine x_ixL (SqL.of W.hJ) (atI_nat (v := .int (js.getD k 0)) (by simp [List.getD_eq_getElem?_getD, hjk])) ?_
          walk_at "run"
          refine x_ixT hUa (atI_nat hbv) (x_lenT hbs ?_)
          rw [List.length_map]
          walk_at "run"
          refine ⟨⟨by omega, by omega⟩, x_append W.hB (by rw [List.length_map, bts_len]; omega) fun Hb eb hb => ?_⟩
          have hx : bts N (lens qs) c (k + 1) = bts N (lens qs) c k ++ [((qk.length : Int) + js.getD k 0).fdiv (s.length : Nat)] := by
            show bts N (lens qs) c k ++ [_] = _
            rw [joins_eq hC hk, hBS, hgN, W.jv k hk]
            have : (lens qs).getD k 0 = (qk.length : Int) := by
              unfold lens
              rw [List.getD_eq_getElem?_getD, List.getElem?_map, hqk]; rfl
            rw [this]
          have W1 := W.boat Apt eb (by rw [hb, List.map_append]; rfl)
          rw [← hx] at W1
          have tb : TX Ha' Hb := TX.but W.hB eb
          have hbk : (bts N (lens qs) c (k + 1))[k]? = some (BS.getD k 0) := by
            have e1 := bts_at (N := N) (ls := lens qs) (c := c) (i := k) (k := k + 1) (n := N.length) (by omega) (by omega)
            rw [hBS, List.getD_eq_getElem?_getD] at e1
            have e2 : k < (bts N (lens qs) c (k + 1)).length := by rw [bts_len]; omega
            rw [List.getElem?_eq_getElem e2] at e1 ⊢
            exact congrArg some e1
          have hseat : ∀ (i : Nat) (q : Key), q ∈ N.getD i [] → ∀ z, q = .inr z → z ∈ W4 := fun i q hq z e => by
            cases e2 : N[i]? with
            | none => rw [List.getD_eq_getElem?_getD, e2] at hq; simp at hq
            | some s2 =>
              rw [List.getD_eq_getElem?_getD, e2] at hq
              have := (hD.st i s2 e2).2.2 q hq
              rw [e] at this
              exact this
          refine x_ixT (tb.t hUa) (atI_nat hbv) (x_itT (tb.t hbs) (loop_it walk_tup (fun j σ H' => ∃ (u14 : Option V) (js : List Int) (kvs : List (Key × V)), σ = [some (.ref a), some (.ref h), some (.int (0 + (i : Nat))), some (.ref vn), some (.ref L), some (.int ((m : Int) + 1)), u6, u7, some (.ref t3), some (.int c), some (.ref JL), some (.ref BL), some (.ref TL), some (.int (k : Nat)), u14] ∧
            TX Hb H' ∧ Wk K H' h b L JL BL TL (.ref vn) (.ref t3) N ((m : Int) + 1) qs ts c (fun i => BS.getD i 0) (seatsOf N k ++ stSeats k (s.take j)) (bts N (lens qs) c (k + 1)) js kvs) ⟨_, js, kvs, rfl, TX.refl _, by simpa [stSeats] using W1⟩ (fun j σ H' _ ⟨_, _, _, _, t, _⟩ => (tb.trans t).t hbs) ?_ ?_))
          · rintro j y σ Hc Hc' hj ⟨u14, js, kvs, rfl, tc, W2⟩ ⟨eH, hy⟩
            subst eH
            obtain ⟨p, hp, rfl⟩ : ∃ p, s[j]? = some p ∧ kV p = y := by simpa using hy
            have hpm : p ∈ s := List.mem_of_getElem? hp
            have hLe : seatsOf N k ++ stSeats k (s.take (j + 1)) = (seatsOf N k ++ stSeats k (s.take j)) ++ [(k, p)] := by
              unfold stSeats
              rw [List.take_add_one, hp, List.map_append, List.append_assoc]
              rfl
            have hL4 : ∀ z, 0 < toQ (fun i => BS.getD i 0) (.inr z) (seatsOf N k ++ stSeats k (s.take j)) → z ∈ W4 := fun z hz => by
              obtain ⟨⟨i2, q2⟩, hs2, e2⟩ := toQ_pos hz
              rcases List.mem_append.mp hs2 with h2 | h2
              · exact hseat i2 q2 (mem_seatsOf.mp h2).2 z e2
              · unfold stSeats at h2
                obtain ⟨q3, hq3, e3⟩ := List.mem_map.mp h2
                cases e3
                exact hseat k q2 (by rw [hgN]; exact List.mem_of_mem_take hq3) z e2
            have hkl := Fin.short W2.fin hL4
            have hnn : ∀ s2 ∈ seatsOf N k ++ stSeats k (s.take j), 0 ≤ (fun i => BS.getD i 0) s2.1 := fun s2 _ => hbn s2.1
            rw [hLe]
            generalize seatsOf N k ++ stSeats k (s.take j) = Lq at W2 hnn
            cases p with
            | inl j2 =>
              have hj2 := hC.fw k s hsN j2 hpm
              obtain ⟨j3, rfl⟩ : ∃ j3 : Nat, j2 = (j3 : Int) := ⟨j2.toNat, by omega⟩
              have hj3 : j3 < N.length := by omega
              have hj4 : j3 < js.length := by rw [W2.jl]; exact hj3
              walk_at "run"
              refine x_ixL (SqL.of W2.hJ) (atI_nat (v := .int (js.getD j3 0)) (by simp [List.getD_eq_getElem?_getD, hj4])) ?_
              refine x_ixL (SqL.of W2.hB) (atI_nat (v := .int (BS.getD k 0)) (by simp [hbk])) ?_
              walk_at "run"
              refine x_setL (n := j3) W2.hJ (by rw [List.length_map]; exact ixN_in (by omega) (by omega)) fun Hd ed hd => ?_
              exact ⟨_, _, kvs, rfl, tc.trans (TX.but W2.hJ ed), W2.joined Apt hj3 ed (by rw [hd, List.map_set])⟩
            | inr z =>
              walk_at "run"
              refine x_ixL (SqL.of W2.hB) (atI_nat (v := .int (BS.getD k 0)) (by simp [hbk])) ?_
              walk_at "run"
              by_cases hpos : 0 < BS.getD k 0
              · rw [if_pos hpos]
                refine ⟨isD_k W2.hT, x_dget2 (k := .inr z) W2.hT ?_⟩
                rw [Fin.get W2.fin (toQ_nn hnn)]
                refine x_ixL (SqL.of W2.hB) (atI_nat (v := .int (BS.getD k 0)) (by simp [hbk])) ?_
                walk_at "run"
                refine x_dput (k := .inr z) W2.hT (by omega) fun Hd ed _ hd => ?_
                have td : TX Hc' Hd := fun x o hx cc => ed x o (fun y => by subst y; rw [W2.hT] at hx; cases hx; exact cc) hx
                exact ⟨_, js, _, rfl, tc.trans td, W2.told (k := k) hpos hnn ed hd⟩
              · rw [if_neg hpos]
                exact ⟨_, js, kvs, rfl, tc, W2.skip (by have := hbn k; show BS.getD k 0 = 0; omega)⟩
          · rintro σ Hc ⟨u14, js, kvs, rfl, tc, W2⟩
            refine ⟨_, _, js, kvs, rfl, ?_⟩
            have e : seatsOf N (k + 1) = seatsOf N k ++ stSeats k s := by
              show seatsOf N k ++ stSeats k (N.getD k []) = _
              rw [hgN]
            have e2 : s.take ((s.map kV).length) = s := by rw [List.length_map, List.take_length]
            rw [e, ← e2]
            exact W2
        · rintro σ Ha ⟨u13, u14, js, kvs, rfl, W⟩
          have e0 : ((N.length : Nat) : Int).toNat = N.length := by omega
          rw [e0] at W
          rw [hBS] at W
          walk_at "run"
          have hbl : BS.length = N.length := by rw [← hBS]; exact bts_len
          have hW4 : ∀ z, 0 < reach N BS (.inr z) → z ∈ W4 := fun z hz => by
            obtain ⟨⟨i2, q2⟩, hs2, e2⟩ := toQ_pos hz
            obtain ⟨h1, h2⟩ := mem_seatsOf.mp hs2
            have e3 : N[i2]? = some (N.getD i2 []) := by simp [List.getD_eq_getElem?_getD, h1]
            have := (hD.st i2 _ e3).2.2 q2 h2
            rw [show q2 = .inr z from e2] at this
            exact this
          refine ⟨_, _, N, _, qs, c, rfl, W.net, hV, W.st, hO, hc0, hc1, fun Hb l eb nl hl => ?_⟩
          rw [hBS] at hl
          refine ⟨_, _, .list (BS.map PyData.int), rfl, .lst (SqL.of hl) (ints_dp BS), .lst (SqL.of (eb _ _ W.hB)) (ints_dp BS), (shaped_ints BS).1, Nat.le_trans (shaped_ints BS).2 (by decide), sm_ints (by omega), fun Hc ec => ⟨_, rfl, ?_⟩⟩
          rw [if_neg (by simp)]
          have W2 := (W.ex eb).ex ec
          refine ⟨_, _, N, _, qs, c, rfl, W2.net, hV, W2.st, hO, hc0, hc1, fun Hd l2 kf ed nl2 hl2 Ff => ?_⟩
          rw [hBS] at Ff
          have W3 := W2.ex ed
          refine ⟨l2, TL, fun z => reach N BS (.inr z), kf, kvs, rfl, hl2, W3.hT, Ff, W3.fin, by have := Fin.short W3.fin hW4; omega, fun z hz => W4_ok (hW4 z hz), fun He ee => ⟨_, rfl, ?_⟩⟩
          rw [if_neg (by simp)]
          exact ⟨_, _, _, _, _, _, _, _, _, _, _, _, _, rfl, (W3.ex ee).gen⟩
    · rintro σ H2 ⟨u2, u3, u4, u5, u6, u7, u8, u9, u10, u11, u12, u13, u14, rfl, g2⟩
      walk_at "run"
      exact q H2
end
end K
set_option Elab.async false
set_option linter.all false
set_option maxRecDepth 100000
set_option maxHeartbeats 4000000
namespace K
open PySem PySem.Spec PyProof.Rows L2 Evl FB
theorem all_mk {l : PySem.W.OpenLaw} {w : World} {K : PySem.W.Frag} {h : Heap} {mg : Str → Option Value} {fa : Addr} (X : K.In h) (G : h.Ns mainGlobals mg) (hfa : mg "law" = some (.ref fa))
    {f0 : Addr} {od0 an0 : Option Addr} {sl0 : Array (Option Value)} {oc0 kV0 dc0 pm0 cd0 ct0 : Value}
    (a0 : PySem.W.nsIn K mainGlobals "check_count" = some (some (.ref f0))) (l0 : K.lookup f0 = some ⟨oc0, od0, .func (PySem.W.fnOf "check_count" "check_count" (defArgs s_check_count) (defBody s_check_count) (defScope s_check_count) .none kV0 dc0 pm0 an0 cd0 ct0), sl0⟩) (c0 : PySem.W.codeIn K cd0 "check_count" = true) (k0 : PySem.W.keepIn K (.ref f0) = true)
    {f1 : Addr} {od1 an1 : Option Addr} {sl1 : Array (Option Value)} {oc1 kV1 dc1 pm1 cd1 ct1 : Value}
    (a1 : PySem.W.nsIn K mainGlobals "find_feeders" = some (some (.ref f1))) (l1 : K.lookup f1 = some ⟨oc1, od1, .func (PySem.W.fnOf "find_feeders" "find_feeders" (defArgs s_find_feeders) (defBody s_find_feeders) (defScope s_find_feeders) .none kV1 dc1 pm1 an1 cd1 ct1), sl1⟩) (c1 : PySem.W.codeIn K cd1 "find_feeders" = true) (k1 : PySem.W.keepIn K (.ref f1) = true)
    {f2 : Addr} {od2 an2 : Option Addr} {sl2 : Array (Option Value)} {oc2 kV2 dc2 pm2 cd2 ct2 : Value}
    (a2 : PySem.W.nsIn K mainGlobals "count_brought" = some (some (.ref f2))) (l2 : K.lookup f2 = some ⟨oc2, od2, .func (PySem.W.fnOf "count_brought" "count_brought" (defArgs s_count_brought) (defBody s_count_brought) (defScope s_count_brought) .none kV2 dc2 pm2 an2 cd2 ct2), sl2⟩) (c2 : PySem.W.codeIn K cd2 "count_brought" = true) (k2 : PySem.W.keepIn K (.ref f2) = true)
    {f3 : Addr} {od3 an3 : Option Addr} {sl3 : Array (Option Value)} {oc3 kV3 dc3 pm3 cd3 ct3 : Value}
    (a3 : PySem.W.nsIn K mainGlobals "count_departures" = some (some (.ref f3))) (l3 : K.lookup f3 = some ⟨oc3, od3, .func (PySem.W.fnOf "count_departures" "count_departures" (defArgs s_count_departures) (defBody s_count_departures) (defScope s_count_departures) .none kV3 dc3 pm3 an3 cd3 ct3), sl3⟩) (c3 : PySem.W.codeIn K cd3 "count_departures" = true) (k3 : PySem.W.keepIn K (.ref f3) = true)
    {f4 : Addr} {od4 an4 : Option Addr} {sl4 : Array (Option Value)} {oc4 kV4 dc4 pm4 cd4 ct4 : Value}
    (a4 : PySem.W.nsIn K mainGlobals "is_letters" = some (some (.ref f4))) (l4 : K.lookup f4 = some ⟨oc4, od4, .func (PySem.W.fnOf "is_letters" "is_letters" (defArgs s_is_letters) (defBody s_is_letters) (defScope s_is_letters) .none kV4 dc4 pm4 an4 cd4 ct4), sl4⟩) (c4 : PySem.W.codeIn K cd4 "is_letters" = true) (k4 : PySem.W.keepIn K (.ref f4) = true)
    {f5 : Addr} {od5 an5 : Option Addr} {sl5 : Array (Option Value)} {oc5 kV5 dc5 pm5 cd5 ct5 : Value}
    (a5 : PySem.W.nsIn K mainGlobals "is_word" = some (some (.ref f5))) (l5 : K.lookup f5 = some ⟨oc5, od5, .func (PySem.W.fnOf "is_word" "is_word" (defArgs s_is_word) (defBody s_is_word) (defScope s_is_word) .none kV5 dc5 pm5 an5 cd5 ct5), sl5⟩) (c5 : PySem.W.codeIn K cd5 "is_word" = true) (k5 : PySem.W.keepIn K (.ref f5) = true)
    {f6 : Addr} {od6 an6 : Option Addr} {sl6 : Array (Option Value)} {oc6 kV6 dc6 pm6 cd6 ct6 : Value}
    (a6 : PySem.W.nsIn K mainGlobals "is_place" = some (some (.ref f6))) (l6 : K.lookup f6 = some ⟨oc6, od6, .func (PySem.W.fnOf "is_place" "is_place" (defArgs s_is_place) (defBody s_is_place) (defScope s_is_place) .none kV6 dc6 pm6 an6 cd6 ct6), sl6⟩) (c6 : PySem.W.codeIn K cd6 "is_place" = true) (k6 : PySem.W.keepIn K (.ref f6) = true)
    {f7 : Addr} {od7 an7 : Option Addr} {sl7 : Array (Option Value)} {oc7 kV7 dc7 pm7 cd7 ct7 : Value}
    (a7 : PySem.W.nsIn K mainGlobals "check_network" = some (some (.ref f7))) (l7 : K.lookup f7 = some ⟨oc7, od7, .func (PySem.W.fnOf "check_network" "check_network" (defArgs s_check_network) (defBody s_check_network) (defScope s_check_network) .none kV7 dc7 pm7 an7 cd7 ct7), sl7⟩) (c7 : PySem.W.codeIn K cd7 "check_network" = true) (k7 : PySem.W.keepIn K (.ref f7) = true)
    {f8 : Addr} {od8 an8 : Option Addr} {sl8 : Array (Option Value)} {oc8 kV8 dc8 pm8 cd8 ct8 : Value}
    (a8 : PySem.W.nsIn K mainGlobals "check_state" = some (some (.ref f8))) (l8 : K.lookup f8 = some ⟨oc8, od8, .func (PySem.W.fnOf "check_state" "check_state" (defArgs s_check_state) (defBody s_check_state) (defScope s_check_state) .none kV8 dc8 pm8 an8 cd8 ct8), sl8⟩) (c8 : PySem.W.codeIn K cd8 "check_state" = true) (k8 : PySem.W.keepIn K (.ref f8) = true)
    {f9 : Addr} {od9 an9 : Option Addr} {sl9 : Array (Option Value)} {oc9 kV9 dc9 pm9 cd9 ct9 : Value}
    (a9 : PySem.W.nsIn K mainGlobals "check_passengers" = some (some (.ref f9))) (l9 : K.lookup f9 = some ⟨oc9, od9, .func (PySem.W.fnOf "check_passengers" "check_passengers" (defArgs s_check_passengers) (defBody s_check_passengers) (defScope s_check_passengers) .none kV9 dc9 pm9 an9 cd9 ct9), sl9⟩) (c9 : PySem.W.codeIn K cd9 "check_passengers" = true) (k9 : PySem.W.keepIn K (.ref f9) = true)
    {f10 : Addr} {od10 an10 : Option Addr} {sl10 : Array (Option Value)} {oc10 kV10 dc10 pm10 cd10 ct10 : Value}
    (a10 : PySem.W.nsIn K mainGlobals "queue_lengths" = some (some (.ref f10))) (l10 : K.lookup f10 = some ⟨oc10, od10, .func (PySem.W.fnOf "queue_lengths" "queue_lengths" (defArgs s_queue_lengths) (defBody s_queue_lengths) (defScope s_queue_lengths) .none kV10 dc10 pm10 an10 cd10 ct10), sl10⟩) (c10 : PySem.W.codeIn K cd10 "queue_lengths" = true) (k10 : PySem.W.keepIn K (.ref f10) = true)
    {f11 : Addr} {od11 an11 : Option Addr} {sl11 : Array (Option Value)} {oc11 kV11 dc11 pm11 cd11 ct11 : Value}
    (a11 : PySem.W.nsIn K mainGlobals "count_boats" = some (some (.ref f11))) (l11 : K.lookup f11 = some ⟨oc11, od11, .func (PySem.W.fnOf "count_boats" "count_boats" (defArgs s_count_boats) (defBody s_count_boats) (defScope s_count_boats) .none kV11 dc11 pm11 an11 cd11 ct11), sl11⟩) (c11 : PySem.W.codeIn K cd11 "count_boats" = true) (k11 : PySem.W.keepIn K (.ref f11) = true)
    {f12 : Addr} {od12 an12 : Option Addr} {sl12 : Array (Option Value)} {oc12 kV12 dc12 pm12 cd12 ct12 : Value}
    (a12 : PySem.W.nsIn K mainGlobals "count_finished" = some (some (.ref f12))) (l12 : K.lookup f12 = some ⟨oc12, od12, .func (PySem.W.fnOf "count_finished" "count_finished" (defArgs s_count_finished) (defBody s_count_finished) (defScope s_count_finished) .none kV12 dc12 pm12 an12 cd12 ct12), sl12⟩) (c12 : PySem.W.codeIn K cd12 "count_finished" = true) (k12 : PySem.W.keepIn K (.ref f12) = true)
    {f13 : Addr} {od13 an13 : Option Addr} {sl13 : Array (Option Value)} {oc13 kV13 dc13 pm13 cd13 ct13 : Value}
    (a13 : PySem.W.nsIn K mainGlobals "_law_mix" = some (some (.ref f13))) (l13 : K.lookup f13 = some ⟨oc13, od13, .func (PySem.W.fnOf "_law_mix" "_law_mix" (defArgs s_l_mix) (defBody s_l_mix) (defScope s_l_mix) .none kV13 dc13 pm13 an13 cd13 ct13), sl13⟩) (c13 : PySem.W.codeIn K cd13 "_law_mix" = true) (k13 : PySem.W.keepIn K (.ref f13) = true)
    {f14 : Addr} {od14 an14 : Option Addr} {sl14 : Array (Option Value)} {oc14 kV14 dc14 pm14 cd14 ct14 : Value}
    (a14 : PySem.W.nsIn K mainGlobals "_law_next" = some (some (.ref f14))) (l14 : K.lookup f14 = some ⟨oc14, od14, .func (PySem.W.fnOf "_law_next" "_law_next" (defArgs s_l_next) (defBody s_l_next) (defScope s_l_next) .none kV14 dc14 pm14 an14 cd14 ct14), sl14⟩) (c14 : PySem.W.codeIn K cd14 "_law_next" = true) (k14 : PySem.W.keepIn K (.ref f14) = true)
    {f15 : Addr} {od15 an15 : Option Addr} {sl15 : Array (Option Value)} {oc15 kV15 dc15 pm15 cd15 ct15 : Value}
    (a15 : PySem.W.nsIn K mainGlobals "_law_alike" = some (some (.ref f15))) (l15 : K.lookup f15 = some ⟨oc15, od15, .func (PySem.W.fnOf "_law_alike" "_law_alike" (defArgs s_l_alike) (defBody s_l_alike) (defScope s_l_alike) .none kV15 dc15 pm15 an15 cd15 ct15), sl15⟩) (c15 : PySem.W.codeIn K cd15 "_law_alike" = true) (k15 : PySem.W.keepIn K (.ref f15) = true)
    {f16 : Addr} {od16 an16 : Option Addr} {sl16 : Array (Option Value)} {oc16 kV16 dc16 pm16 cd16 ct16 : Value}
    (a16 : PySem.W.nsIn K mainGlobals "_law_place" = some (some (.ref f16))) (l16 : K.lookup f16 = some ⟨oc16, od16, .func (PySem.W.fnOf "_law_place" "_law_place" (defArgs s_l_place) (defBody s_l_place) (defScope s_l_place) .none kV16 dc16 pm16 an16 cd16 ct16), sl16⟩) (c16 : PySem.W.codeIn K cd16 "_law_place" = true) (k16 : PySem.W.keepIn K (.ref f16) = true)
    {f17 : Addr} {od17 an17 : Option Addr} {sl17 : Array (Option Value)} {oc17 kV17 dc17 pm17 cd17 ct17 : Value}
    (a17 : PySem.W.nsIn K mainGlobals "_law_network" = some (some (.ref f17))) (l17 : K.lookup f17 = some ⟨oc17, od17, .func (PySem.W.fnOf "_law_network" "_law_network" (defArgs s_l_network) (defBody s_l_network) (defScope s_l_network) .none kV17 dc17 pm17 an17 cd17 ct17), sl17⟩) (c17 : PySem.W.codeIn K cd17 "_law_network" = true) (k17 : PySem.W.keepIn K (.ref f17) = true)
    {f18 : Addr} {od18 an18 : Option Addr} {sl18 : Array (Option Value)} {oc18 kV18 dc18 pm18 cd18 ct18 : Value}
    (a18 : PySem.W.nsIn K mainGlobals "law" = some (some (.ref f18))) (l18 : K.lookup f18 = some ⟨oc18, od18, .func (PySem.W.fnOf "law" "law" (defArgs s_law) (defBody s_law) (defScope s_law) .none kV18 dc18 pm18 an18 cd18 ct18), sl18⟩) (c18 : PySem.W.codeIn K cd18 "law" = true) (k18 : PySem.W.keepIn K (.ref f18) = true)
    {t0 : Nat} (m0 : PySem.W.nsIn K mainGlobals "MAX_COUNT" = some (some (.int 1000000000000000000 t0)))
    {t1 : Nat} (m1 : PySem.W.nsIn K mainGlobals "MAX_STATIONS" = some (some (.int 40 t1)))
    {t2 : Nat} (m2 : PySem.W.nsIn K mainGlobals "MAX_SEATS" = some (some (.int 8 t2)))
    {t3 : Nat} (m3 : PySem.W.nsIn K mainGlobals "MAX_LETTERS" = some (some (.int 8 t3)))
    (z0 : PySem.W.nsIn K mainGlobals "range" = some none)
    (z1 : PySem.W.nsIn K mainGlobals "tuple" = some none)
    (z2 : PySem.W.nsIn K mainGlobals "min" = some none)
    (z3 : PySem.W.nsIn K mainGlobals "isinstance" = some none)
    (z4 : PySem.W.nsIn K mainGlobals "str" = some none)
    (z5 : PySem.W.nsIn K mainGlobals "dict" = some none)
    (z6 : PySem.W.nsIn K mainGlobals "bool" = some none)
    (z7 : PySem.W.nsIn K mainGlobals "sorted" = some none)
    (z8 : PySem.W.nsIn K mainGlobals "set" = some none)
    (z9 : PySem.W.nsIn K mainGlobals "enumerate" = some none)
    (z10 : PySem.W.nsIn K mainGlobals "all" = some none)
    (z11 : PySem.W.nsIn K mainGlobals "len" = some none)
    (z12 : PySem.W.nsIn K mainGlobals "list" = some none)
    (z13 : PySem.W.nsIn K mainGlobals "int" = some none)
    (z14 : PySem.W.nsIn K mainGlobals "max" = some none)
    (z15 : PySem.W.nsIn K mainGlobals "sum" = some none)
    (z16 : PySem.W.nsIn K mainGlobals "zip" = some none)
    (z17 : PySem.W.nsIn K mainGlobals "abs" = some none)
    (z18 : PySem.W.nsIn K mainGlobals "reversed" = some none)
    (z19 : PySem.W.nsIn K mainGlobals "any" = some none)
    : ∃ fd : FuncData, (∀ (s : Shared) (v : Value), BindsTo s fd ⟨[v], []⟩ [("_law_script", v)]) ∧ ∀ base : Heap, K.In base → base.Ns mainGlobals mg → FnOk l.prog w K mg base CX0 8 fa fd ["_law_script"] (spLaw K) := by
  have e := hfa.symm.trans (PySem.W.mg_of X G a18)
  cases e
  have F0 := fun_mk (st := s_check_count) l0 c0 k0
  have D_check_count : Df K mg "check_count" s_check_count ["count", "least", "most"] f0 _ := ⟨F0, PySem.W.mg_of X G a0, F0.binds (ps := ["count", "least", "most"]) fun _ _ _ _ _ _ us hl => match us, hl with | [_, _, _], _ => rfl⟩
  have F1 := fun_mk (st := s_find_feeders) l1 c1 k1
  have D_find_feeders : Df K mg "find_feeders" s_find_feeders ["network"] f1 _ := ⟨F1, PySem.W.mg_of X G a1, F1.binds (ps := ["network"]) fun _ _ _ _ _ _ us hl => match us, hl with | [_], _ => rfl⟩
  have F2 := fun_mk (st := s_count_brought) l2 c2 k2
  have D_count_brought : Df K mg "count_brought" s_count_brought ["sources", "boats"] f2 _ := ⟨F2, PySem.W.mg_of X G a2, F2.binds (ps := ["sources", "boats"]) fun _ _ _ _ _ _ us hl => match us, hl with | [_, _], _ => rfl⟩
  have F3 := fun_mk (st := s_count_departures) l3 c3 k3
  have D_count_departures : Df K mg "count_departures" s_count_departures ["network", "feeders", "lengths", "arrivals"] f3 _ := ⟨F3, PySem.W.mg_of X G a3, F3.binds (ps := ["network", "feeders", "lengths", "arrivals"]) fun _ _ _ _ _ _ us hl => match us, hl with | [_, _, _, _], _ => rfl⟩
  have F4 := fun_mk (st := s_is_letters) l4 c4 k4
  have D_is_letters : Df K mg "is_letters" s_is_letters ["text"] f4 _ := ⟨F4, PySem.W.mg_of X G a4, F4.binds (ps := ["text"]) fun _ _ _ _ _ _ us hl => match us, hl with | [_], _ => rfl⟩
  have F5 := fun_mk (st := s_is_word) l5 c5 k5
  have D_is_word : Df K mg "is_word" s_is_word ["text"] f5 _ := ⟨F5, PySem.W.mg_of X G a5, F5.binds (ps := ["text"]) fun _ _ _ _ _ _ us hl => match us, hl with | [_], _ => rfl⟩
  have F6 := fun_mk (st := s_is_place) l6 c6 k6
  have D_is_place : Df K mg "is_place" s_is_place ["place", "station", "stations"] f6 _ := ⟨F6, PySem.W.mg_of X G a6, F6.binds (ps := ["place", "station", "stations"]) fun _ _ _ _ _ _ us hl => match us, hl with | [_, _, _], _ => rfl⟩
  have F7 := fun_mk (st := s_check_network) l7 c7 k7
  have D_check_network : Df K mg "check_network" s_check_network ["network"] f7 _ := ⟨F7, PySem.W.mg_of X G a7, F7.binds (ps := ["network"]) fun _ _ _ _ _ _ us hl => match us, hl with | [_], _ => rfl⟩
  have F8 := fun_mk (st := s_check_state) l8 c8 k8
  have D_check_state : Df K mg "check_state" s_check_state ["network", "state"] f8 _ := ⟨F8, PySem.W.mg_of X G a8, F8.binds (ps := ["network", "state"]) fun _ _ _ _ _ _ us hl => match us, hl with | [_, _], _ => rfl⟩
  have F9 := fun_mk (st := s_check_passengers) l9 c9 k9
  have D_check_passengers : Df K mg "check_passengers" s_check_passengers ["next_passenger", "queues"] f9 _ := ⟨F9, PySem.W.mg_of X G a9, F9.binds (ps := ["next_passenger", "queues"]) fun _ _ _ _ _ _ us hl => match us, hl with | [_, _], _ => rfl⟩
  have F10 := fun_mk (st := s_queue_lengths) l10 c10 k10
  have D_queue_lengths : Df K mg "queue_lengths" s_queue_lengths ["state"] f10 _ := ⟨F10, PySem.W.mg_of X G a10, F10.binds (ps := ["state"]) fun _ _ _ _ _ _ us hl => match us, hl with | [_], _ => rfl⟩
  have F11 := fun_mk (st := s_count_boats) l11 c11 k11
  have D_count_boats : Df K mg "count_boats" s_count_boats ["network", "state", "count"] f11 _ := ⟨F11, PySem.W.mg_of X G a11, F11.binds (ps := ["network", "state", "count"]) fun _ _ _ _ _ _ us hl => match us, hl with | [_, _, _], _ => rfl⟩
  have F12 := fun_mk (st := s_count_finished) l12 c12 k12
  have D_count_finished : Df K mg "count_finished" s_count_finished ["network", "state", "count"] f12 _ := ⟨F12, PySem.W.mg_of X G a12, F12.binds (ps := ["network", "state", "count"]) fun _ _ _ _ _ _ us hl => match us, hl with | [_, _, _], _ => rfl⟩
  have F13 := fun_mk (st := s_l_mix) l13 c13 k13
  have D_l_mix : Df K mg "_law_mix" s_l_mix ["_law_script", "_law_seed"] f13 _ := ⟨F13, PySem.W.mg_of X G a13, F13.binds (ps := ["_law_script", "_law_seed"]) fun _ _ _ _ _ _ us hl => match us, hl with | [_, _], _ => rfl⟩
  have F14 := fun_mk (st := s_l_next) l14 c14 k14
  have D_l_next : Df K mg "_law_next" s_l_next ["_law_h", "_law_limit"] f14 _ := ⟨F14, PySem.W.mg_of X G a14, F14.binds (ps := ["_law_h", "_law_limit"]) fun _ _ _ _ _ _ us hl => match us, hl with | [_, _], _ => rfl⟩
  have F15 := fun_mk (st := s_l_alike) l15 c15 k15
  have D_l_alike : Df K mg "_law_alike" s_l_alike ["_law_found", "_law_due"] f15 _ := ⟨F15, PySem.W.mg_of X G a15, F15.binds (ps := ["_law_found", "_law_due"]) fun _ _ _ _ _ _ us hl => match us, hl with | [_, _], _ => rfl⟩
  have F16 := fun_mk (st := s_l_place) l16 c16 k16
  have D_l_place : Df K mg "_law_place" s_l_place ["_law_h", "_law_station", "_law_count"] f16 _ := ⟨F16, PySem.W.mg_of X G a16, F16.binds (ps := ["_law_h", "_law_station", "_law_count"]) fun _ _ _ _ _ _ us hl => match us, hl with | [_, _, _], _ => rfl⟩
  have F17 := fun_mk (st := s_l_network) l17 c17 k17
  have D_l_network : Df K mg "_law_network" s_l_network ["_law_h", "_law_most"] f17 _ := ⟨F17, PySem.W.mg_of X G a17, F17.binds (ps := ["_law_h", "_law_most"]) fun _ _ _ _ _ _ us hl => match us, hl with | [_, _], _ => rfl⟩
  have F18 := fun_mk (st := s_law) l18 c18 k18
  have g_MAX_COUNT : ∃ t, mg "MAX_COUNT" = some (.int 1000000000000000000 t) := ⟨_, PySem.W.mg_of X G m0⟩
  have g_MAX_STATIONS : ∃ t, mg "MAX_STATIONS" = some (.int 40 t) := ⟨_, PySem.W.mg_of X G m1⟩
  have g_MAX_SEATS : ∃ t, mg "MAX_SEATS" = some (.int 8 t) := ⟨_, PySem.W.mg_of X G m2⟩
  have g_MAX_LETTERS : ∃ t, mg "MAX_LETTERS" = some (.int 8 t) := ⟨_, PySem.W.mg_of X G m3⟩
  have T : Bt mg := ⟨PySem.W.mg_none_of X G z0, PySem.W.mg_none_of X G z1, PySem.W.mg_none_of X G z2, PySem.W.mg_none_of X G z3, PySem.W.mg_none_of X G z4, PySem.W.mg_none_of X G z5, PySem.W.mg_none_of X G z6, PySem.W.mg_none_of X G z7, PySem.W.mg_none_of X G z8, PySem.W.mg_none_of X G z9, PySem.W.mg_none_of X G z10, PySem.W.mg_none_of X G z11, PySem.W.mg_none_of X G z12, PySem.W.mg_none_of X G z13, PySem.W.mg_none_of X G z14, PySem.W.mg_none_of X G z15, PySem.W.mg_none_of X G z16, PySem.W.mg_none_of X G z17, PySem.W.mg_none_of X G z18, PySem.W.mg_none_of X G z19⟩
  refine ⟨PySem.W.fnOf "law" "law" (defArgs s_law) (defBody s_law) (defScope s_law) .none kV18 dc18 pm18 an18 cd18 ct18, fun s v => .of_eq rfl, fun base _ _ => ?_⟩
  have F_law := F18
  have Ck : Ct K mg := ⟨g_MAX_LETTERS, g_MAX_SEATS, g_MAX_STATIONS, ⟨_, _, D_is_letters⟩⟩
  have DD : Dn K mg := ⟨⟨_, _, D_is_word⟩, ⟨_, _, D_is_place⟩, ⟨_, _, D_check_network⟩, ⟨_, _, D_check_passengers⟩, ⟨_, _, D_check_state⟩, ⟨_, _, D_check_count⟩, ⟨_, _, D_find_feeders⟩, ⟨_, _, D_count_brought⟩, ⟨_, _, D_count_departures⟩, ⟨_, _, D_queue_lengths⟩⟩
  have DL : Dl K mg := ⟨⟨_, _, D_l_mix⟩, ⟨_, _, D_l_next⟩, ⟨_, _, D_l_place⟩, ⟨_, _, D_l_network⟩, ⟨_, _, D_l_alike⟩⟩
  exact ok_law F_law T Ck ⟨g_MAX_COUNT⟩ DL DD D_count_boats D_count_finished
end K
open PySem PySem.W PyProof.Rows
set_option maxRecDepth 100000 in
set_option maxHeartbeats 0 in
theorem PySem.Challenge.cw_fullboats_k08_whole_counts_of_large_netw_holds : PySem.Challenge.rw_fullboats_k08_whole_counts_of_large_netw.Holds := by
  w_on; o_law; k_head; (case hw => w_witness2)
  k_fill
  refine L2.walk_of (l := PySem.Challenge.rw_fullboats_k08_whole_counts_of_large_netw) (n := 63) (k := 8) (x := "_law_script") (CX := fun _ => L2.CX0) (sp := fun w => K.spLaw _) rfl (by decide) rfl ⟨rfl, by decide, by decide⟩ (fun w h Y => PySem.W.kIn_of Y) ?F (fun _ _ a ns hl _ hS => ⟨a, ns, rfl, hS, hl, fun _ => rfl⟩) (fun _ _ _ _ _ h => h)
  case F =>
    intro w mg fa h KX G hmg
    refine' K.all_mk KX G hmg ?a0 ?l0 ?c0 ?k0 ?a1 ?l1 ?c1 ?k1 ?a2 ?l2 ?c2 ?k2 ?a3 ?l3 ?c3 ?k3 ?a4 ?l4 ?c4 ?k4 ?a5 ?l5 ?c5 ?k5 ?a6 ?l6 ?c6 ?k6 ?a7 ?l7 ?c7 ?k7 ?a8 ?l8 ?c8 ?k8 ?a9 ?l9 ?c9 ?k9 ?a10 ?l10 ?c10 ?k10 ?a11 ?l11 ?c11 ?k11 ?a12 ?l12 ?c12 ?k12 ?a13 ?l13 ?c13 ?k13 ?a14 ?l14 ?c14 ?k14 ?a15 ?l15 ?c15 ?k15 ?a16 ?l16 ?c16 ?k16 ?a17 ?l17 ?c17 ?k17 ?a18 ?l18 ?c18 ?k18 ?m0 ?m1 ?m2 ?m3 ?z0 ?z1 ?z2 ?z3 ?z4 ?z5 ?z6 ?z7 ?z8 ?z9 ?z10 ?z11 ?z12 ?z13 ?z14 ?z15 ?z16 ?z17 ?z18 ?z19
    (case a0 => k_is)
    (case l0 => k_is)
    (case c0 => k_is)
    (case k0 => k_is)
    (case a1 => k_is)
    (case l1 => k_is)
    (case c1 => k_is)
    (case k1 => k_is)
    (case a2 => k_is)
    (case l2 => k_is)
    (case c2 => k_is)
    (case k2 => k_is)
    (case a3 => k_is)
    (case l3 => k_is)
    (case c3 => k_is)
    (case k3 => k_is)
    (case a4 => k_is)
    (case l4 => k_is)
    (case c4 => k_is)
    (case k4 => k_is)
    (case a5 => k_is)
    (case l5 => k_is)
    (case c5 => k_is)
    (case k5 => k_is)
    (case a6 => k_is)
    (case l6 => k_is)
    (case c6 => k_is)
    (case k6 => k_is)
    (case a7 => k_is)
    (case l7 => k_is)
    (case c7 => k_is)
    (case k7 => k_is)
    (case a8 => k_is)
    (case l8 => k_is)
    (case c8 => k_is)
    (case k8 => k_is)
    (case a9 => k_is)
    (case l9 => k_is)
    (case c9 => k_is)
    (case k9 => k_is)
    (case a10 => k_is)
    (case l10 => k_is)
    (case c10 => k_is)
    (case k10 => k_is)
    (case a11 => k_is)
    (case l11 => k_is)
    (case c11 => k_is)
    (case k11 => k_is)
    (case a12 => k_is)
    (case l12 => k_is)
    (case c12 => k_is)
    (case k12 => k_is)
    (case a13 => k_is)
    (case l13 => k_is)
    (case c13 => k_is)
    (case k13 => k_is)
    (case a14 => k_is)
    (case l14 => k_is)
    (case c14 => k_is)
    (case k14 => k_is)
    (case a15 => k_is)
    (case l15 => k_is)
    (case c15 => k_is)
    (case k15 => k_is)
    (case a16 => k_is)
    (case l16 => k_is)
    (case c16 => k_is)
    (case k16 => k_is)
    (case a17 => k_is)
    (case l17 => k_is)
    (case c17 => k_is)
    (case k17 => k_is)
    (case a18 => k_is)
    (case l18 => k_is)
    (case c18 => k_is)
    (case k18 => k_is)
    (case m0 => k_is)
    (case m1 => k_is)
    (case m2 => k_is)
    (case m3 => k_is)
    (case z0 => k_is)
    (case z1 => k_is)
    (case z2 => k_is)
    (case z3 => k_is)
    (case z4 => k_is)
    (case z5 => k_is)
    (case z6 => k_is)
    (case z7 => k_is)
    (case z8 => k_is)
    (case z9 => k_is)
    (case z10 => k_is)
    (case z11 => k_is)
    (case z12 => k_is)
    (case z13 => k_is)
    (case z14 => k_is)
    (case z15 => k_is)
    (case z16 => k_is)
    (case z17 => k_is)
    (case z18 => k_is)
    (case z19 => k_is)
