import PyProof.Rows.All
import Wide.All
import OpenK.AllK
import Wide.FinOn
import HandS.ForMost
import HandS.ForExc
import HandS.Evl
import HandS.IsInst
import HandS.TupAny
import HandS.TupMul
import HandS.SetKeys
import HandS.Walk
import KE.GoesEnum
import HandS.ExcInit
import HandS.DictComp
import HandS.Zip
import HandS.Conv
import HandS.Style
import HandS.WordsDict
import KE.KExcIs
import HandS.Lambda
import HandS.Exc
import HandS.ExcField
import HandS.ExcOwn
import HandS.SetFor
import HandS.Set
import HandS.Strs
import HandS.Gcd
import HandS.Wide
import HandS.DeepEq
import KE.KSetDisp
import KE.KMathGC
import PyProof.Rows.SortShellAny
import KE.KDictList
import PySem.Challenge.RW_fullboats_k12_whole_shares_over_a_period
set_option Elab.async false
set_option linter.all false
set_option maxRecDepth 100000
set_option maxHeartbeats 4000000
/-! One rule an operator sign: which of the readings it is, the values tell. -/
namespace FB
open PySem PySem.Spec PyProof.Rows L2 Evl
section
variable {X : Cx}
theorem orOp {f : Value → Value → Sem Value} {r r' : R2} (h : OpR X f r) (h' : OpR X f r') : OpR X f (fun x y H Q => r x y H Q ∨ r' x y H Q) := fun pins s σ H x y v u Q I rx ry q =>
  q.elim (h pins s σ H x y v u Q I rx ry) (h' pins s σ H x y v u Q I rx ry)
theorem orCall {f : Value} {r r' : List V → Hp → VK → Prop} (h : CallR X f r) (h' : CallR X f r') : CallR X f (fun x H Q => r x H Q ∨ r' x H Q) := fun pins s σ H xs us Q I r q =>
  q.elim (h pins s σ H xs us Q I r) (h' pins s σ H xs us Q I r)
/-- a + b of ints, texts, lists, tuples -/
def rAddS2 : R2 := fun x y H Q => ∃ i j, x = .str i ∧ y = .str j ∧ i.length + j.length ≤ sizeLine ∧ Q (.str (i ++ j)) H
def rAddU (K : PySem.W.Frag) : R2 := fun x y H Q => (rI0 (fun i j => .int (i + j)) x y H Q ∨ rCat x y H Q) ∨ rCatA K x y H Q
theorem op_addU {K : PySem.W.Frag} (hK : X.K = K := by rfl) : OpR X (binaryOp .Add) (rAddU K) := by subst hK; exact orOp (orOp op_add op_cat) op_catA
def rMulU (K : PySem.W.Frag) : R2 := fun x y H Q => (rI CMul (fun i j => .int (i * j)) x y H Q ∨ rRep x y H Q) ∨ rRepT K x y H Q
theorem op_mulU {K : PySem.W.Frag} (hK : X.K = K := by rfl) : OpR X (binaryOp .Mult) (rMulU K) := by subst hK; exact orOp (orOp op_mul op_rep) op_repT
def rLtU : R2 := fun x y H Q => rI0 (fun i j => .bl (decide (i < j))) x y H Q ∨ (∃ i j, x = .str i ∧ y = .str j ∧ Q (.bl (decide (i.cps.toList < j.cps.toList))) H)
theorem op_ltU : OpR X (compareOp .Lt) rLtU := orOp op_lt op_lt_str
def rLeU : R2 := fun x y H Q => rI0 (fun i j => .bl (decide (i ≤ j))) x y H Q ∨ (∃ i j, x = .str i ∧ y = .str j ∧ Q (.bl (!decide (j.cps.toList < i.cps.toList))) H)
theorem op_leU : OpR X (compareOp .LtE) rLeU := orOp op_le op_le_str
abbrev rGtU : R2 := rI0 (fun i j => .bl (decide (j < i)))
theorem op_gtU : OpR X (compareOp .Gt) rGtU := op_gt
abbrev rGeU : R2 := rI0 (fun i j => .bl (decide (j ≤ i)))
theorem op_geU : OpR X (compareOp .GtE) rGeU := op_ge
def rEqU (K : PySem.W.Frag) : R2 := fun x y H Q => rEq x y H Q ∨ rEqD K x y H Q
theorem op_eqU {K : PySem.W.Frag} (hu : X.A.units + 64 < cLine) (hK : X.K = K := by rfl) : OpR X (compareOp .Eq) (rEqU K) := by subst hK; exact orOp op_eq (op_eqD hu)
def rNeU (K : PySem.W.Frag) : R2 := fun x y H Q => rNe x y H Q ∨ rNeD K x y H Q
theorem op_neU {K : PySem.W.Frag} (hu : X.A.units + 64 < cLine) (hK : X.K = K := by rfl) : OpR X (compareOp .NotEq) (rNeU K) := by subst hK; exact orOp op_ne (op_neD hu)
def rInU (K : PySem.W.Frag) (P : Program) (w : World) (neg : Bool) : R2 := fun x y H Q => rIn K neg x y H Q ∨ rSInK P w neg x y H Q
theorem op_inU {K : PySem.W.Frag} {P : Program} {w : World} (hK : X.K = K := by rfl) (hP : X.prog = P := by rfl) (hw : X.w = w := by rfl) : OpR X (compareOp .In) (rInU K P w false) := by subst hK hP hw; exact orOp op_in_seq or_sinK
theorem op_notInU {K : PySem.W.Frag} {P : Program} {w : World} (hK : X.K = K := by rfl) (hP : X.prog = P := by rfl) (hw : X.w = w := by rfl) : OpR X (compareOp .NotIn) (rInU K P w true) := by subst hK hP hw; exact orOp op_notIn_seq or_snotinK
theorem ix_U {K : PySem.W.Frag} (hK : X.K = K := by rfl) : IxR X (rIx K) := by subst hK; exact ix_seq
def rSlU (K : PySem.W.Frag) : V → Option Int → Option Int → Hp → VK → Prop := fun x lo hi H Q => rSlL K x lo hi H Q ∨ rSlA K x lo hi H Q
theorem sl_U {K : PySem.W.Frag} (hK : X.K = K := by rfl) : SlR X (rSlU K) := by subst hK; exact SlR.or sl_list sl_tupA
def rLenU (K : PySem.W.Frag) : List V → Hp → VK → Prop := fun xs H Q => ∃ x n, xs = [x] ∧ LenV K x H n ∧ Q (.int (n : Nat)) H
theorem call_lenU {K : PySem.W.Frag} (hK : X.K = K := by rfl) : CallR X (.builtin "len") (rLenU K) := by subst hK; exact call_len
def rIsiU (K : PySem.W.Frag) : List V → Hp → VK → Prop := fun xs H Q => rIsi K xs H Q ∨ rIsiT K xs H Q
theorem call_isiU {K : PySem.W.Frag} (hK : X.K = K := by rfl) : CallR X (.builtin "isinstance") (rIsiU K) := by subst hK; exact orCall call_isi call_isiT
def rIntU : List V → Hp → VK → Prop := fun xs H Q => (∃ i, xs = [.int i] ∧ Q (.int i) H) ∨ ∃ k, xs = [.bl k] ∧ Q (.int (if k then 1 else 0)) H
theorem call_intU : CallR X (.type "int") rIntU := call_int1
def rMaxU : List V → Hp → VK → Prop := fun xs H Q => ∃ i j, xs = [.int i, .int j] ∧ Q (.int (if j > i then j else i)) H
theorem call_maxU (hc : X.calm = true) : CallR X (.builtin "max") rMaxU := call_max2 hc
def rMinU : List V → Hp → VK → Prop := fun xs H Q => ∃ i j, xs = [.int i, .int j] ∧ Q (.int (if j < i then j else i)) H
theorem call_minU (hc : X.calm = true) : CallR X (.builtin "min") rMinU := call_min2 hc
def rListU (K : PySem.W.Frag) : List V → Hp → VK → Prop := fun xs H Q => ∃ p ys, xs = [.ref p] ∧ (SqL K H p ys ∨ SqT K H p ys) ∧ ∀ l, H l = none → Q (.ref l) (upd H l (.lst ys))
theorem call_listU {K : PySem.W.Frag} (hK : X.K = K := by rfl) : CallR X (.type "list") (rListU K) := by subst hK; exact call_list_of
def rTupU (K : PySem.W.Frag) : List V → Hp → VK → Prop := fun xs H Q => ∃ p ys, xs = [.ref p] ∧ ((SqL K H p ys ∧ ∀ l, H l = none → Q (.ref l) (upd H l (.tup ys))) ∨ (SqT K H p ys ∧ Q (.ref p) H))
theorem call_tupU {K : PySem.W.Frag} (hK : X.K = K := by rfl) : CallR X (.type "tuple") (rTupU K) := by subst hK; exact call_tuple_of
end
/-! ### evaluation -/
section
variable {K : PySem.W.Frag} {H H1 H2 : Hp} {Q : VK} {x y v : V} {a b p q l : Addr} {xs ys : List V} {i j : Int} {z z2 : Str} {P : Program} {w : World}
theorem x_addI : rAddU K (.int i) (.int j) H Q ↔ Q (.int (i + j)) H := by
  constructor
  · rintro ((⟨_, _, h1, h2, h⟩ | ⟨_, _, _, _, h1, _⟩) | ⟨_, _, _, _, h1, _⟩)
    · cases h1; cases h2; exact h
    · cases h1
    · cases h1
  · exact fun h => .inl (.inl ⟨i, j, rfl, rfl, h⟩)
theorem x_mulI : rMulU K (.int i) (.int j) H Q ↔ CMul i j ∧ Q (.int (i * j)) H := by
  constructor
  · rintro ((⟨_, _, h1, h2, h3, h⟩ | ⟨_, _, _, h1, _⟩) | ⟨_, _, _, h1, _⟩)
    · cases h1; cases h2; exact ⟨h3, h⟩
    · cases h1
    · cases h1
  · exact fun h => .inl (.inl ⟨i, j, rfl, rfl, h.1, h.2⟩)
theorem x_rI {C : Int → Int → Prop} {g : Int → Int → V} : rI C g (.int i) (.int j) H Q ↔ C i j ∧ Q (g i j) H := by
  constructor
  · rintro ⟨_, _, h1, h2, h3, h⟩
    cases h1; cases h2; exact ⟨h3, h⟩
  · exact fun h => ⟨i, j, rfl, rfl, h.1, h.2⟩
theorem x_rI0 {g : Int → Int → V} : rI0 g (.int i) (.int j) H Q ↔ Q (g i j) H := by
  constructor
  · rintro ⟨_, _, h1, h2, h⟩
    cases h1; cases h2; exact h
  · exact fun h => ⟨i, j, rfl, rfl, h⟩
theorem x_ltI : rLtU (.int i) (.int j) H Q ↔ Q (.bl (decide (i < j))) H := by
  constructor
  · rintro (⟨_, _, h1, h2, h⟩ | ⟨_, _, h1, _⟩)
    · cases h1; cases h2; exact h
    · cases h1
  · exact fun h => .inl ⟨i, j, rfl, rfl, h⟩
theorem x_leI : rLeU (.int i) (.int j) H Q ↔ Q (.bl (decide (i ≤ j))) H := by
  constructor
  · rintro (⟨_, _, h1, h2, h⟩ | ⟨_, _, h1, _⟩)
    · cases h1; cases h2; exact h
    · cases h1
  · exact fun h => .inl ⟨i, j, rfl, rfl, h⟩
theorem x_ltS : rLtU (.str z) (.str z2) H Q ↔ Q (.bl (decide (z.cps.toList < z2.cps.toList))) H := by
  constructor
  · rintro (⟨_, _, h1, _⟩ | ⟨_, _, h1, h2, h⟩)
    · cases h1
    · cases h1; cases h2; exact h
  · exact fun h => .inr ⟨z, z2, rfl, rfl, h⟩
theorem x_leS : rLeU (.str z) (.str z2) H Q ↔ Q (.bl (!decide (z2.cps.toList < z.cps.toList))) H := by
  constructor
  · rintro (⟨_, _, h1, _⟩ | ⟨_, _, h1, h2, h⟩)
    · cases h1
    · cases h1; cases h2; exact h
  · exact fun h => .inr ⟨z, z2, rfl, rfl, h⟩
theorem dp_int {d : PyData} (h : Dp K H (.int i) d) : d = .int i := by cases h; rfl
theorem dp_str {d : PyData} (h : Dp K H (.str z) d) : d = .str z := by cases h; rfl
theorem dp_bl {c : Bool} {d : PyData} (h : Dp K H (.bl c) d) : d = .bool c := by cases h; rfl
theorem dp_non {d : PyData} (h : Dp K H .non d) : d = .none := by cases h; rfl
theorem eqv_int : PyData.eqv (.int i) (.int j) = decide (V.int i = V.int j) := by
  unfold PyData.eqv
  rw [dec_int]
theorem eqv_str : PyData.eqv (.str z) (.str z2) = decide (V.str z = V.str z2) := by
  unfold PyData.eqv
  rw [dec_str]
theorem eqv_bl {c d : Bool} : PyData.eqv (.bool c) (.bool d) = decide (V.bl c = V.bl d) := by
  unfold PyData.eqv
  rw [dec_bl]
theorem x_eqI : rEqU K (.int i) (.int j) H Q ↔ Q (.bl (decide (i = j))) H := by
  have e0 : decide (V.int i = V.int j) = decide (i = j) := by simp
  constructor
  · rintro (⟨_, h⟩ | ⟨d, e, h1, h2, _, _, h⟩)
    · rw [e0] at h; exact h
    · rw [dp_int h1, dp_int h2, eqv_int, e0] at h; exact h
  · exact fun h => .inl ⟨rfl, by rw [e0]; exact h⟩
theorem x_neI : rNeU K (.int i) (.int j) H Q ↔ Q (.bl (!decide (i = j))) H := by
  have e0 : decide (V.int i = V.int j) = decide (i = j) := by simp
  constructor
  · rintro (⟨_, h⟩ | ⟨d, e, h1, h2, _, _, h⟩)
    · rw [e0] at h; exact h
    · rw [dp_int h1, dp_int h2, eqv_int, e0] at h; exact h
  · exact fun h => .inl ⟨rfl, by rw [e0]; exact h⟩
theorem x_eqS : rEqU K (.str z) (.str z2) H Q ↔ Q (.bl (decide (z = z2))) H := by
  have e0 : decide (V.str z = V.str z2) = decide (z = z2) := by simp
  constructor
  · rintro (⟨_, h⟩ | ⟨d, e, h1, h2, _, _, h⟩)
    · rw [e0] at h; exact h
    · rw [dp_str h1, dp_str h2, eqv_str, e0] at h; exact h
  · exact fun h => .inl ⟨rfl, by rw [e0]; exact h⟩
theorem x_eqB {c d : Bool} : rEqU K (.bl c) (.bl d) H Q ↔ Q (.bl (decide (c = d))) H := by
  have e0 : decide (V.bl c = V.bl d) = decide (c = d) := by simp
  constructor
  · rintro (⟨_, h⟩ | ⟨d, e, h1, h2, _, _, h⟩)
    · rw [e0] at h; exact h
    · rw [dp_bl h1, dp_bl h2, eqv_bl, e0] at h; exact h
  · exact fun h => .inl ⟨rfl, by rw [e0]; exact h⟩
theorem x_neB {c d : Bool} : rNeU K (.bl c) (.bl d) H Q ↔ Q (.bl (!decide (c = d))) H := by
  have e0 : decide (V.bl c = V.bl d) = decide (c = d) := by simp
  constructor
  · rintro (⟨_, h⟩ | ⟨d, e, h1, h2, _, _, h⟩)
    · rw [e0] at h; exact h
    · rw [dp_bl h1, dp_bl h2, eqv_bl, e0] at h; exact h
  · exact fun h => .inl ⟨rfl, by rw [e0]; exact h⟩
def rLst (xs : List V) (H : Hp) (Q : VK) : Prop := xs.length ≤ sizeLine ∧ ∀ p, H p = none → Q (.ref p) (upd H p (.lst xs))
def rTup (xs : List V) (H : Hp) (Q : VK) : Prop := xs.length ≤ sizeLine ∧ ∀ p, H p = none → Q (.ref p) (upd H p (.tup xs))
theorem x_tLst {t : TA} {σ : L2.St} : tLst t σ H Q = t σ H fun xs H1 => rLst xs H1 Q := rfl
theorem x_tTup {t : TA} {σ : L2.St} : tTup t σ H Q = t σ H fun xs H1 => rTup xs H1 Q := rfl
theorem x_new {o : HO} (k : ∀ p H', H p = none → Ex H H' → H' p = some o → Q (.ref p) H') : ∀ p, H p = none → Q (.ref p) (upd H p o) := fun p hp => k p _ hp (Ex.new hp) upd_same
theorem small {n : Nat} (h : n ≤ 1000000) : n ≤ sizeLine := by rw [sizeLine_eq]; omega
theorem x_lst (hl : xs.length ≤ 1000000) (k : ∀ p H', H p = none → Ex H H' → H' p = some (.lst xs) → Q (.ref p) H') : rLst xs H Q := ⟨small hl, x_new k⟩
theorem x_tup (hl : xs.length ≤ 1000000) (k : ∀ p H', H p = none → Ex H H' → H' p = some (.tup xs) → Q (.ref p) H') : rTup xs H Q := ⟨small hl, x_new k⟩
/-! subscripts -/
theorem x_ixL (h : SqL K H p xs) (e : atI xs i = some v) (k : Q v H) : rIx K (.ref p) (.int i) H Q := .inl ⟨p, xs, i, v, rfl, rfl, h, e, k⟩
theorem x_ixT (h : SqT K H p xs) (e : atI xs i = some v) (k : Q v H) : rIx K (.ref p) (.int i) H Q := .inr (.inl ⟨p, xs, i, v, rfl, rfl, h, e, k⟩)
theorem x_cat (h1 : H p = some (.lst xs)) (h2 : H q = some (.lst ys)) (hl : xs.length + ys.length ≤ 1000000) (k : ∀ l H', H l = none → Ex H H' → H' l = some (.lst (xs ++ ys)) → Q (.ref l) H') : rAddU K (.ref p) (.ref q) H Q :=
  .inl (.inr ⟨p, q, xs, ys, rfl, rfl, h1, h2, small hl, x_new k⟩)
theorem x_catT (h1 : SqT K H p xs) (h2 : SqT K H q ys) (hl : xs.length + ys.length ≤ 1000000) (k : ∀ l H', (∀ x o, H x = some o → H' x = some o) → SqT K H' l (xs ++ ys) → Q (.ref l) H') : rAddU K (.ref p) (.ref q) H Q := by
  refine .inr ⟨p, q, xs, ys, rfl, rfl, h1, h2, small hl, fun e => ?_, fun e e2 => ?_, fun e e2 l hl => ?_⟩
  · subst e; exact k q H (fun _ _ h => h) h2
  · subst e2; exact k p H (fun _ _ h => h) (by rw [List.append_nil]; exact h1)
  · exact k l _ (fun x o h => by rw [upd_ne (ne_of_none h hl)]; exact h) (SqT.of upd_same)
theorem x_lenL (h : SqL K H p xs) (k : Q (.int (xs.length : Nat)) H) : rLenU K [V.ref p] H Q := ⟨_, xs.length, rfl, .inl ⟨xs, h, rfl⟩, k⟩
theorem x_lenT (h : SqT K H p xs) (k : Q (.int (xs.length : Nat)) H) : rLenU K [V.ref p] H Q := ⟨_, xs.length, rfl, .inr ⟨xs, h, rfl⟩, k⟩
theorem x_lenS (h : z.length ≤ sizeLine) (k : Q (.int (z.length : Nat)) H) : rLenU K [V.str z] H Q := ⟨_, z.length, rfl, ⟨h, rfl⟩, k⟩
theorem x_int : rIntU [.int i] H Q ↔ Q (.int i) H := by
  constructor
  · rintro (⟨_, h1, h⟩ | ⟨_, h1, _⟩)
    · cases h1; exact h
    · cases h1
  · exact fun h => .inl ⟨_, rfl, h⟩
theorem x_max : rMaxU [.int i, .int j] H Q ↔ Q (.int (if j > i then j else i)) H := by
  constructor
  · rintro ⟨_, _, h1, h⟩
    cases h1; exact h
  · exact fun h => ⟨_, _, rfl, h⟩
theorem x_min : rMinU [.int i, .int j] H Q ↔ Q (.int (if j < i then j else i)) H := by
  constructor
  · rintro ⟨_, _, h1, h⟩
    cases h1; exact h
  · exact fun h => ⟨_, _, rfl, h⟩
theorem x_listL (h : SqL K H p xs) (k : ∀ l H', H l = none → Ex H H' → H' l = some (.lst xs) → Q (.ref l) H') : rListU K [.ref p] H Q := ⟨p, xs, rfl, .inl h, x_new k⟩
theorem x_listT (h : SqT K H p xs) (k : ∀ l H', H l = none → Ex H H' → H' l = some (.lst xs) → Q (.ref l) H') : rListU K [.ref p] H Q := ⟨p, xs, rfl, .inr h, x_new k⟩
theorem x_tupL (h : SqL K H p xs) (k : ∀ l H', H l = none → Ex H H' → H' l = some (.tup xs) → Q (.ref l) H') : rTupU K [.ref p] H Q := ⟨p, xs, rfl, .inl ⟨h, x_new k⟩⟩
theorem x_tupT (h : SqT K H p xs) (k : Q (.ref p) H) : rTupU K [.ref p] H Q := ⟨p, xs, rfl, .inr ⟨h, k⟩⟩
theorem x_setL {n : Nat} {k : Hp → Prop} (h : H p = some (.lst xs)) (hj : ixN xs.length i = some n) (q : ∀ H', (∀ x o, x ≠ p → H x = some o → H' x = some o) → H' p = some (.lst (xs.set n v)) → k H') : rSetL (.ref p) (.int i) v H k :=
  ⟨p, xs, i, n, rfl, rfl, h, hj, q _ (fun x o hx e => by rw [upd_ne hx]; exact e) upd_same⟩
theorem ixN_in {n : Nat} {i : Int} (h0 : 0 ≤ i) (h1 : i < n) : ixN n i = some i.toNat := by unfold ixN; rw [if_pos h0, if_pos h1]
theorem atI_in {xs : List V} {i : Int} {v : V} (h0 : 0 ≤ i) (h : xs[i.toNat]? = some v) : atI xs i = some v := by
  have h1 : i.toNat < xs.length := (List.getElem?_eq_some_iff.mp h).1
  unfold atI
  rw [ixN_in h0 (by omega)]
  exact h
theorem x_isiI : rIsiU K [.int i, .ty "str"] H Q ↔ Q (.bl false) H := by
  constructor
  · rintro (⟨x, c, t, u, b, h1, h2, h3, h4, h⟩ | ⟨x, tp, cs, t, us, b, h1, h2⟩)
    · cases h1
      cases h2
      cases h3 with
      | base h3 =>
        cases h3
        have e : PySem.W.kitOne K (.type "int") (.type "str") = some false := by rfl
        rw [e] at h4; cases h4; exact h
    · cases h1
  · exact fun h => .inl ⟨_, _, .type "int", .type "str", false, rfl, .ty _, .base (.int i), rfl, h⟩
theorem x_isiS : rIsiU K [.str z, .ty "str"] H Q ↔ Q (.bl true) H := by
  constructor
  · rintro (⟨x, c, t, u, b, h1, h2, h3, h4, h⟩ | ⟨x, tp, cs, t, us, b, h1, h2⟩)
    · cases h1
      cases h2
      cases h3 with
      | base h3 =>
        cases h3
        have e : PySem.W.kitOne K (.type "str") (.type "str") = some true := by rfl
        rw [e] at h4; cases h4; exact h
    · cases h1
  · exact fun h => .inl ⟨_, _, .type "str", .type "str", true, rfl, .ty _, .base (.str z), rfl, h⟩
end
end FB
set_option Elab.async false
set_option linter.all false
set_option maxRecDepth 100000
set_option maxHeartbeats 4000000
/-! Data that never changes: ints, texts, tuples of such. -/
namespace L2
open PySem PySem.Spec PyProof.Rows Evl FB
def isConst : HO → Prop
  | .tup _ => True
  | .frz _ _ => True
  | _ => False
/-- what never changes stands -/
def TX (H H' : Hp) : Prop := ∀ x o, H x = some o → isConst o → H' x = some o
/-- all but what stands at a and b -/
def Ex2 (a b : Addr) (H H' : Hp) : Prop := ∀ x o, H x = some o → x ≠ a → x ≠ b → H' x = some o
section
variable {K : PySem.W.Frag} {H H1 H' : Hp} {a b p x : Addr} {xs ys : List V} {v : V}
theorem TX.refl (H : Hp) : TX H H := fun _ _ h _ => h
theorem TX.trans (e : TX H H1) (f : TX H1 H') : TX H H' := fun x o h c => f x o (e x o h c) c
theorem TX.of (e : Ex H H') : TX H H' := fun x o h _ => e x o h
theorem TX.new {o : HO} (h : H p = none) : TX H (upd H p o) := TX.of (Ex.new h)
theorem TX.but (h : H p = some (.lst xs)) (e : ∀ x o, x ≠ p → H x = some o → H' x = some o) : TX H H' := fun x o hx c => e x o (fun z => by subst z; rw [h] at hx; cases hx; exact c) hx
theorem TX.upd {o : HO} (h : H p = some (.lst xs)) : TX H (upd H p o) := TX.but h fun x u hx e => by rw [upd_ne hx]; exact e
theorem TX.two (h : H a = some (.lst xs)) (h2 : H b = some (.lst ys)) (e : Ex2 a b H H') : TX H H' := fun x o hx c =>
  e x o hx (fun z => by subst z; rw [h] at hx; cases hx; exact c) (fun z => by subst z; rw [h2] at hx; cases hx; exact c)
theorem TX.rd {u : HO} (e : TX H H') (c : isConst u) (h : Rd H a u) : Rd H' a u := by
  rcases h with h | ⟨o, h⟩
  · exact .inl (e a _ h c)
  · exact .inr ⟨o, e a _ h trivial⟩
theorem TX.t (e : TX H H') (h : SqT K H a xs) : SqT K H' a xs := by
  rcases h with h | h
  · exact .inl (e.rd trivial h)
  · exact .inr h
theorem Ex2.refl (H : Hp) : Ex2 a b H H := fun _ _ h _ _ => h
theorem Ex2.of (e : Ex H H') : Ex2 a b H H' := fun x o h _ _ => e x o h
theorem Ex2.trans (e : Ex2 a b H H1) (f : Ex2 a b H1 H') : Ex2 a b H H' := fun x o h ha hb => f x o (e x o h ha hb) ha hb
theorem Ex2.ex (e : Ex2 a b H H1) (f : Ex H1 H') : Ex2 a b H H' := fun x o h ha hb => f x o (e x o h ha hb)
/-- ints, texts, tuples of such -/
inductive TupD : PyData → Prop
  | non : TupD .none
  | bl (b : Bool) : TupD (.bool b)
  | int (i : Int) : TupD (.int i)
  | str (x : Str) : TupD (.str x)
  | tup {ds : List PyData} : (∀ d ∈ ds, TupD d) → TupD (.tuple ds)
theorem TupD.all {ds : List PyData} (h : TupD (.tuple ds)) : ∀ d ∈ ds, TupD d := by
  cases h with
  | tup h => exact h
mutual
theorem Dp.tx (e : TX H H') : ∀ {v : V} {d : PyData}, Dp K H v d → TupD d → Dp K H' v d
  | _, _, .non, _ => .non
  | _, _, .bl b, _ => .bl b
  | _, _, .int i, _ => .int i
  | _, _, .str x, _ => .str x
  | _, _, .lst _ _, t => nomatch t
  | _, _, .tup h hs, .tup hd => .tup (e.t h) (DpAll.tx e hs hd)
theorem DpAll.tx (e : TX H H') : ∀ {vs : List V} {ds : List PyData}, DpAll K H vs ds → (∀ d ∈ ds, TupD d) → DpAll K H' vs ds
  | _, _, .nil, _ => .nil
  | _, _, .cons h hs, t => .cons (Dp.tx e h (t _ (List.mem_cons_self ..))) (DpAll.tx e hs fun d hd => t d (List.mem_cons_of_mem _ hd))
end
mutual
theorem Dp.ex (e : Ex H H') : ∀ {v : V} {d : PyData}, Dp K H v d → Dp K H' v d
  | _, _, .non => .non
  | _, _, .bl b => .bl b
  | _, _, .int i => .int i
  | _, _, .str x => .str x
  | _, _, .lst h hs => .lst (ex_l e h) (DpAll.ex e hs)
  | _, _, .tup h hs => .tup (ex_t e h) (DpAll.ex e hs)
theorem DpAll.ex (e : Ex H H') : ∀ {vs : List V} {ds : List PyData}, DpAll K H vs ds → DpAll K H' vs ds
  | _, _, .nil => .nil
  | _, _, .cons h hs => .cons (Dp.ex e h) (DpAll.ex e hs)
end
theorem Dp.tup_inv {ds : List PyData} (h : Dp K H v (.tuple ds)) : ∃ a xs, v = .ref a ∧ SqT K H a xs ∧ DpAll K H xs ds := by
  cases h with
  | tup h hs => exact ⟨_, _, rfl, h, hs⟩
theorem Dp.int_inv {i : Int} (h : Dp K H v (.int i)) : v = .int i := by cases h; rfl
theorem Dp.str_inv {i : Str} (h : Dp K H v (.str i)) : v = .str i := by cases h; rfl
theorem DpAll.len : ∀ {vs : List V} {ds : List PyData}, DpAll K H vs ds → vs.length = ds.length
  | _, _, .nil => rfl
  | _, _, .cons _ hs => congrArg (· + 1) hs.len
theorem DpAll.get : ∀ {vs : List V} {ds : List PyData} {i : Nat} {d : PyData}, DpAll K H vs ds → ds[i]? = some d → ∃ v, vs[i]? = some v ∧ Dp K H v d
  | _, _, _, _, .nil, e => by simp at e
  | _, _, 0, _, .cons h _, e => by simp at e; subst e; exact ⟨_, rfl, h⟩
  | _, _, i + 1, _, .cons _ hs, e => by
    obtain ⟨v, h1, h2⟩ := DpAll.get (i := i) hs (by simpa using e)
    exact ⟨v, by simpa using h1, h2⟩
theorem DpAll.get' : ∀ {vs : List V} {ds : List PyData} {i : Nat} {v : V}, DpAll K H vs ds → vs[i]? = some v → ∃ d, ds[i]? = some d ∧ Dp K H v d
  | _, _, _, _, .nil, e => by simp at e
  | _, _, 0, _, .cons h _, e => by simp at e; subst e; exact ⟨_, rfl, h⟩
  | _, _, i + 1, _, .cons _ hs, e => by
    obtain ⟨v, h1, h2⟩ := DpAll.get' (i := i) hs (by simpa using e)
    exact ⟨v, by simpa using h1, h2⟩
theorem DpAll.append : ∀ {vs ws : List V} {ds es : List PyData}, DpAll K H vs ds → DpAll K H ws es → DpAll K H (vs ++ ws) (ds ++ es)
  | _, _, _, _, .nil, h => h
  | _, _, _, _, .cons h hs, k => .cons h (hs.append k)
theorem DpAll.take : ∀ {vs : List V} {ds : List PyData} (n : Nat), DpAll K H vs ds → DpAll K H (vs.take n) (ds.take n)
  | _, _, 0, _ => .nil
  | _, _, _ + 1, .nil => .nil
  | _, _, n + 1, .cons h hs => .cons h (hs.take n)
theorem DpAll.drop : ∀ {vs : List V} {ds : List PyData} (n : Nat), DpAll K H vs ds → DpAll K H (vs.drop n) (ds.drop n)
  | _, _, 0, h => h
  | _, _, _ + 1, .nil => .nil
  | _, _, n + 1, .cons _ hs => hs.drop n
end
/-! ### a place, a station, a network -/
abbrev Net := List (List Key)
def keyD : Key → PyData
  | .inl i => .int i
  | .inr x => .str x
def stD (s : List Key) : PyData := .tuple (s.map keyD)
def netD (N : Net) : PyData := .tuple (N.map stD)
section
variable {K : PySem.W.Frag} {H H' : Hp} {v : V}
theorem keyD_t : ∀ k : Key, TupD (keyD k)
  | .inl i => .int i
  | .inr x => .str x
theorem stD_t (s : List Key) : TupD (stD s) := .tup fun d hd => by
  obtain ⟨k, _, rfl⟩ := List.mem_map.mp hd
  exact keyD_t k
theorem netD_t (N : Net) : TupD (netD N) := .tup fun d hd => by
  obtain ⟨k, _, rfl⟩ := List.mem_map.mp hd
  exact stD_t k
theorem key_dp : ∀ k : Key, Dp K H (kV k) (keyD k)
  | .inl i => .int i
  | .inr x => .str x
theorem keys_dp : ∀ s : List Key, DpAll K H (s.map kV) (s.map keyD)
  | [] => .nil
  | k :: s => .cons (key_dp k) (keys_dp s)
theorem dp_key {k : Key} (h : Dp K H v (keyD k)) : v = kV k := by
  cases k with
  | inl i => exact h.int_inv
  | inr x => exact h.str_inv
theorem dp_keys : ∀ {s : List Key} {vs : List V}, DpAll K H vs (s.map keyD) → vs = s.map kV
  | [], _, .nil => rfl
  | k :: s, _, .cons h hs => by rw [dp_key h, dp_keys hs]; rfl
/-- a station of the network stands at v -/
abbrev StAt (K : PySem.W.Frag) (H : Hp) (v : V) (s : List Key) : Prop := Dp K H v (stD s)
abbrev NetAt (K : PySem.W.Frag) (H : Hp) (v : V) (N : Net) : Prop := Dp K H v (netD N)
theorem StAt.at {s : List Key} (h : StAt K H v s) : ∃ a, v = .ref a ∧ SqT K H a (s.map kV) := by
  obtain ⟨a, xs, e, h1, h2⟩ := Dp.tup_inv h
  rw [dp_keys h2] at h1
  exact ⟨a, e, h1⟩
theorem StAt.of {a : Addr} {s : List Key} (h : SqT K H a (s.map kV)) : StAt K H (.ref a) s := .tup h (keys_dp s)
theorem NetAt.at {N : Net} (h : NetAt K H v N) : ∃ a ts, v = .ref a ∧ SqT K H a ts ∧ DpAll K H ts (N.map stD) := Dp.tup_inv h
theorem NetAt.tx {N : Net} (e : TX H H') (h : NetAt K H v N) : NetAt K H' v N := Dp.tx e h (netD_t N)
theorem StAt.tx {s : List Key} (e : TX H H') (h : StAt K H v s) : StAt K H' v s := Dp.tx e h (stD_t s)
end
end L2
set_option Elab.async false
set_option linter.all false
set_option maxRecDepth 100000
set_option maxHeartbeats 4000000
/-! Loops and comprehensions, folded. -/
namespace FB
open PySem PySem.Spec PyProof.Rows L2 Evl
/-- a loop's reading -/
def Loop (J : It) (g : TG) (tb : TS) (D : Ends) (σ : L2.St) (H1 : Hp) : Prop := ∃ W : Nat → Nat → L2.St → Hp → Prop, (∃ m, W 0 m σ H1) ∧ ∀ i m σ H, W i m σ H →
  (J.stop i H ∧ D.nx σ H) ∨ (J.go i H ∧ ∃ N : L2.St → Hp → Prop, (∀ σ' H', N σ' H' → ∃ m', m' < m ∧ W (i + 1) m' σ' H') ∧ ∀ x H', J.yld i H x H' → g x σ H' fun σ2 H2 => tb { D with nx := N, ct := N, bk := D.nx } σ2 H2)
theorem x_tFor {wi : TI} {g : TG} {tb : TS} {D : Ends} {σ : L2.St} {H : Hp} : tFor wi g tb D σ H = wi σ H fun J H1 => Loop J g tb D σ H1 := rfl
theorem loop_it {J : It} {n : Nat} {G : Hp → Prop} {Y : Nat → Hp → V → Hp → Prop} {g : TG} {tb : TS} {D : Ends} {σ : L2.St} {H : Hp} (w : Walk J n G Y) (Pv : Nat → L2.St → Hp → Prop) (h0 : Pv 0 σ H) (hG : ∀ i σ H, i ≤ n → Pv i σ H → G H)
    (hs : ∀ i x σ H H', i < n → Pv i σ H → Y i H x H' → g x σ H' fun σ2 H2 => tb { D with nx := Pv (i + 1), ct := Pv (i + 1), bk := D.nx } σ2 H2) (hd : ∀ σ H, Pv n σ H → D.nx σ H) : Loop J g tb D σ H := for_it w Pv h0 hG hs hd
/-- a comprehension's reading -/
def LcL (J : It) (g : TG) (tt : TT) (te : TE) (vs : List Nat) (σ : L2.St) (H1 : Hp) (Q : VK) : Prop := ∀ D, H1 D = none → ∃ W : Nat → Nat → Hp → Prop, (∃ m, W 0 m (upd H1 D (.lst []))) ∧ ∀ i m H, W i m H →
  (J.stop i H ∧ Q (.ref D) H) ∨ (J.go i H ∧ ∃ Nx : Hp → Prop, (∀ H', Nx H' → ∃ m', m' < m ∧ W (i + 1) m' H') ∧ ∀ x H', J.yld i H x H' → g x (wipe σ vs) H' fun σ2 H2 => wipe σ2 vs = wipe σ vs ∧ tt σ2 H2 fun b H3 =>
    if b = true then te σ2 H3 fun y H4 => ∃ acc, H4 D = some (.lst acc) ∧ acc.length < sizeLine ∧ Nx (upd H4 D (.lst (acc ++ [y]))) else Nx H3)
theorem x_tLc {wi : TI} {g : TG} {tt : TT} {te : TE} {vs : List Nat} {σ : L2.St} {H : Hp} {Q : VK} : tLc wi g tt te vs σ H Q = wi σ H fun J H1 => LcL J g tt te vs σ H1 Q := rfl
/-- the item goes to the list at D -/
def Push (D : Addr) (N : Hp → Prop) : VK := fun y H4 => ∃ acc, H4 D = some (.lst acc) ∧ acc.length < sizeLine ∧ N (upd H4 D (.lst (acc ++ [y])))
theorem x_push {D : Addr} {N : Hp → Prop} {y : V} {H : Hp} {acc : List V} (h : H D = some (.lst acc)) (hl : acc.length < 1000000) (k : ∀ H5, (∀ x o, x ≠ D → H x = some o → H5 x = some o) → H5 D = some (.lst (acc ++ [y])) → N H5) : Push D N y H :=
  ⟨acc, h, by rw [sizeLine_eq]; omega, k _ (fun x o hx e => by rw [upd_ne hx]; exact e) upd_same⟩
theorem lcl_it {J : It} {n : Nat} {G : Hp → Prop} {Y : Nat → Hp → V → Hp → Prop} {g : TG} {tt : TT} {te : TE} {vs : List Nat} {σ : L2.St} {H1 : Hp} {Q : VK} (w : Walk J n G Y) (Pv : Addr → Nat → Hp → Prop)
    (h0 : ∀ D H', H1 D = none → Ex H1 H' → H' D = some (.lst []) → Pv D 0 H') (hG : ∀ D i H, i ≤ n → Pv D i H → G H)
    (hs : ∀ D i x H H', H1 D = none → i < n → Pv D i H → Y i H x H' → g x (wipe σ vs) H' fun σ2 H2 => wipe σ2 vs = wipe σ vs ∧ tt σ2 H2 fun b H3 => if b = true then te σ2 H3 (Push D (Pv D (i + 1))) else Pv D (i + 1) H3)
    (hd : ∀ D H, H1 D = none → Pv D n H → Q (.ref D) H) : LcL J g tt te vs σ H1 Q := fun D hD =>
  lc_it w (Pv D) (h0 D _ hD (Ex.new hD) upd_same) (hG D) (fun i x H H' hi p y => hs D i x H H' hD hi p y) (fun H p => hd D H hD p)
section
variable {H : Hp} {p : Addr} {xs : List V} {v : V} {Q : VK}
theorem x_menu {K : PySem.W.Frag} {r : Int} (h : H p = some (.lst xs)) (r0 : 0 ≤ r) (r1 : r < xs.length) (k : ∀ v, xs[r.toNat]? = some v → v ∈ xs → Q v H) : rIx K (.ref p) (.int r) H Q := by
  have hr : r.toNat < xs.length := by omega
  exact x_ixL (SqL.of h) (atI_in r0 (by simp [hr])) (k xs[r.toNat] (by simp [hr]) (List.getElem_mem hr))
theorem x_tyL {K : PySem.W.Frag} (h : SqL K H p xs) : tyV K "list" (.ref p) H := .inl ⟨rfl, xs, h⟩
theorem x_append (h : H p = some (.lst xs)) (hl : xs.length < 1000000) (k : ∀ H', (∀ x o, x ≠ p → H x = some o → H' x = some o) → H' p = some (.lst (xs ++ [v])) → Q .non H') : rAppend (.ref p) [v] H Q :=
  ⟨p, xs, v, rfl, rfl, h, by rw [sizeLine_eq]; omega, k _ (fun x o hx e => by rw [upd_ne hx]; exact e) upd_same⟩
theorem x_never {D : Ends} {σ : L2.St} {H : Hp} : tNever D σ H = False := rfl
/-- a list or a tuple that is read -/
def SqA (K : PySem.W.Frag) (H : Hp) (p : Addr) (xs : List V) : Prop := SqL K H p xs ∨ SqT K H p xs
theorem SqA.ex {K : PySem.W.Frag} {H' : Hp} (h : SqA K H p xs) (e : Ex H H') : SqA K H' p xs := h.elim (fun h => .inl (ex_l e h)) (fun h => .inr (ex_t e h))
theorem x_ixA {K : PySem.W.Frag} {i : Int} (h : SqA K H p xs) (e : atI xs i = some v) (k : Q v H) : rIx K (.ref p) (.int i) H Q := h.elim (fun h => x_ixL h e k) (fun h => x_ixT h e k)
theorem x_lenA {K : PySem.W.Frag} (h : SqA K H p xs) (k : Q (.int (xs.length : Nat)) H) : rLenU K [.ref p] H Q := h.elim (fun h => x_lenL h k) (fun h => x_lenT h k)
theorem x_eqD {K : PySem.W.Frag} {x y : V} {d e : PyData} (h1 : Dp K H x d) (h2 : Dp K H y e) (s1 : SeqAt.shaped d = true) (s2 : SeqAt.shaped e = true) (k : Q (.bl (PyData.eqv d e)) H) : rEqU K x y H Q := .inr ⟨d, e, h1, h2, s1, s2, k⟩
theorem x_neD {K : PySem.W.Frag} {x y : V} {d e : PyData} (h1 : Dp K H x d) (h2 : Dp K H y e) (s1 : SeqAt.shaped d = true) (s2 : SeqAt.shaped e = true) (k : Q (.bl (!PyData.eqv d e)) H) : rNeU K x y H Q := .inr ⟨d, e, h1, h2, s1, s2, k⟩
def tyN : PyData → String
  | .none => "NoneType"
  | .bool _ => "bool"
  | .int _ => "int"
  | .str _ => "str"
  | .list _ => "list"
  | .tuple _ => "tuple"
  | .dict _ => "dict"
theorem dp_ty {K : PySem.W.Frag} {d : PyData} (h : Dp K H v d) : TyX K H v (.type (tyN d)) := by
  cases h with
  | non => exact .base .non
  | bl b => exact .base (.bl b)
  | int i => exact .base (.int i)
  | str x => exact .base (.str x)
  | lst h _ =>
    rcases h with (h | ⟨o, h⟩) | ⟨o, its, n, h1, h2, _⟩
    · exact .base (.lst h)
    · exact .base (.frz h)
    · exact .kList h1 h2
  | tup h _ =>
    rcases h with (h | ⟨o, h⟩) | ⟨o, its, n, h1, h2, _⟩
    · exact .base (.tup h)
    · exact .fTuple h
    · exact .kTuple h1 h2
theorem x_isD {K : PySem.W.Frag} {d : PyData} {T : String} {b : Bool} (h : Dp K H v d) (e : PySem.W.kitOne K (.type (tyN d)) (.type T) = some b) (k : Q (.bl b) H) : rIsiU K [v, .ty T] H Q := .inl ⟨_, _, _, _, b, rfl, .ty _, dp_ty h, e, k⟩
theorem x_isD2 {K : PySem.W.Frag} {d : PyData} {A B : String} {b : Bool} {tp : Addr} (h : Dp K H v d) (ht : H tp = some (.tup [.ty A, .ty B])) (e : PySem.W.kitAny K (.type (tyN d)) [.type A, .type B] = some b) (k : Q (.bl b) H) : rIsiU K [v, .ref tp] H Q :=
  .inr ⟨v, tp, [.ty A, .ty B], _, [.type A, .type B], b, rfl, ht, .cons (.ty _) (.cons (.ty _) .nil), dp_ty h, e, k⟩
theorem x_range1 {n : Int} {R : It → Hp → Prop} (h : -1000000000000000000 ≤ n ∧ n ≤ 1000000000000000000) (k : R (Itr 0 n.toNat) H) : ∃ j : Int, [V.int n] = [.int j] ∧ -(2 ^ 62) ≤ j ∧ j < 2 ^ 62 ∧ R (Itr 0 j.toNat) H := ⟨n, rfl, by omega, by omega, k⟩
end
/-- a list, a tuple, a text that is walked -/
def rIter (K : PySem.W.Frag) (x : V) (H : Hp) (R : It → Hp → Prop) : Prop := (∃ a xs, x = .ref a ∧ SqL K H a xs ∧ R (Itl K a) H) ∨ (∃ a xs, x = .ref a ∧ SqT K H a xs ∧ R (Itt K a) H) ∨ (∃ z, x = .str z ∧ R (Its z) H)
def iU (K : PySem.W.Frag) (te : TE) : TI := fun σ H R => te σ H fun x H1 => rIter K x H1 R
theorem pi_U {X : Cx} {tg e : Expr} {te : TE} {K : PySem.W.Frag} (he : PE X e te) (hK : X.K = K := by rfl) : PI X tg e (iU K te) := by
  subst hK
  refine ⟨fun pins s σ H R I h => ?_⟩
  refine thn (he.run pins s σ H _ I h) fun v s1 ⟨x, H1, I1, r1, q1⟩ => ?_
  rcases q1 with ⟨a, xs, e, hq, q⟩ | ⟨a, xs, e, hq, q⟩ | ⟨z, e, q⟩
  · subst e
    cases r1
    obtain ⟨its, rv, p, hz⟩ := I1.list hq
    refine wpAny_pyIter_list p.isList ?_
    refine ⟨s1.heap.objs.size, [s1.heap.objs.size], _, _, H1, rfl, I1.kept (t' := s1.toks) fun b o e => Heap.get?_push_of_some _ e, turn_list a _, ⟨_, Heap.get?_push_size _ rfl, rfl, rfl⟩, fun b hb => ?_, q⟩
    have e : b = s1.heap.objs.size := by simpa using hb
    subst e
    exact I1.fpOk (Nat.le_refl _) (I1.hok.fresh (Nat.le_refl _))
  · subst e
    cases r1
    obtain ⟨its, rv, p, hz⟩ := I1.tuple hq
    refine wpAny_pyIter_tuple (show s1.heap.IsTuple a its.toArray from p) ?_
    refine ⟨s1.heap.objs.size, [s1.heap.objs.size], _, _, H1, rfl, I1.kept (t' := s1.toks) fun b o e => Heap.get?_push_of_some _ e, turn_tuple a _, ⟨_, Heap.get?_push_size _ rfl, rfl, rfl⟩, fun b hb => ?_, q⟩
    have e : b = s1.heap.objs.size := by simpa using hb
    subst e
    exact I1.fpOk (Nat.le_refl _) (I1.hok.fresh (Nat.le_refl _))
  · subst e
    obtain ⟨t, rfl⟩ := r1
    cases ha : z.cps.all (· < 128)
    · exact wpAny_pyIter_wide ha (pi_one (tk := s1.toks) I1 _ (turn_str _ z t "str_iterator" (.inr rfl)) ⟨_, Heap.get?_push_size _ rfl, rfl, rfl⟩ q)
    · exact wpAny_pyIter_ascii ha (pi_one (tk := s1.toks) I1 _ (turn_str _ z t "str_ascii_iterator" (.inl rfl)) ⟨_, Heap.get?_push_size _ rfl, rfl, rfl⟩ q)
theorem x_itL {K : PySem.W.Frag} {H : Hp} {a : Addr} {xs : List V} {R : It → Hp → Prop} (h : SqL K H a xs) (k : R (Itl K a) H) : rIter K (.ref a) H R := .inl ⟨a, xs, rfl, h, k⟩
theorem x_itT {K : PySem.W.Frag} {H : Hp} {a : Addr} {xs : List V} {R : It → Hp → Prop} (h : SqT K H a xs) (k : R (Itt K a) H) : rIter K (.ref a) H R := .inr (.inl ⟨a, xs, rfl, h, k⟩)
theorem x_itS {K : PySem.W.Frag} {H : Hp} {z : Str} {R : It → Hp → Prop} : rIter K (.str z) H R ↔ R (Its z) H := by
  constructor
  · rintro (⟨_, _, e, _⟩ | ⟨_, _, e, _⟩ | ⟨_, e, h⟩)
    · cases e
    · cases e
    · cases e; exact h
  · exact fun h => .inr (.inr ⟨z, rfl, h⟩)
theorem call_allU {X : Cx} (hc : X.calm = true) {K : PySem.W.Frag} (hK : X.K = K := by rfl) : CallR X (.builtin "all") (rAll K) := by subst hK; exact cr_all hc
theorem call_anyU {X : Cx} (hc : X.calm = true) {K : PySem.W.Frag} (hK : X.K = K := by rfl) : CallR X (.builtin "any") (rAny K) := by subst hK; exact cr_any hc
end FB
set_option Elab.async false
set_option linter.all false
set_option maxRecDepth 100000
set_option maxHeartbeats 4000000
/-! enumerate of a tuple. -/
namespace FB
open PySem PySem.Spec PyProof.Rows L2 Evl
/-- one argument: the count begins at 0 -/
theorem meets_enum1 {v : Value} {o : Obj} {W : Heap → Prop} (B : Begins v o W) :
    Meets (Builtin.«enumerate.__new__» ⟨[.type "enumerate", v], []⟩) (fun _ R s => W s.heap ∧
      R (.ok (.ret (.ref (s.heap.push o).objs.size))) { s with heap := (s.heap.push o).push { cls := .type "enumerate", data := .fields #[.none, .bool false, .ref s.heap.objs.size, rawInt 0, .none, .none] } }) := by
  refine .of_wp ?_
  intro prog w A R s hs
  rcases s with ⟨hp, g, d, tk, os⟩
  rcases hs with ⟨h1, h2⟩
  have sub0 := sub_enumerate
  have go : ∀ {A' : Around} {E Q : Value → Shared → Prop}, Q (.ref hp.objs.size) ⟨hp.push o, g, d, tk, os⟩ → wpAny (model prog w) A' (pyIter v) Q E ⟨hp, g, d, tk, os⟩ := by
    intro A' E Q q
    exact B.iter prog w A' E _ Q h1 q
  wp_walk using go
  apply wpAny_stack_any
  intro st
  apply wpAny_pure
  split
  case h_1 c _ _ _ _ _ =>
    by_cases hc : (c == Value.type "enumerate") = true
    all_goals (simp only [hc]; wp_walk using go)
    all_goals exact ⟨_, rfl, h2⟩
  all_goals (wp_walk using go)
  all_goals exact ⟨_, rfl, h2⟩
section
variable {prog : Program} {w : World} {A : Around} {E : Value → Shared → Prop} {s : Shared}
theorem enum_one {v : Value} {o : Obj} {W : Heap → Prop} {Q : Value → Shared → Prop} (B : Begins v o W) (h1 : W s.heap)
    (h : ∀ h', IsEnum h' (s.heap.objs.size + 1) s.heap.objs.size 0 .none → h'.get? s.heap.objs.size = some o → (∀ b u, s.heap.get? b = some u → h'.get? b = some u) → Q (.ref (s.heap.objs.size + 1)) { s with heap := h' }) :
    wpAny (model prog w) A (call (.type "enumerate") [v]) Q E s := by
  have sz : (s.heap.push o).objs.size = s.heap.objs.size + 1 := Heap.size_push ..
  have at1 := Heap.get?_push_size (s.heap.push o) (o := { cls := .type "enumerate", data := .fields #[.none, .bool false, .ref s.heap.objs.size, rawInt 0, .none, .none] }) rfl
  rw [sz] at at1
  have en : IsEnum _ (s.heap.objs.size + 1) s.heap.objs.size 0 .none := at1
  apply callType_new F.called_enumerate (by decide) (F.typeCall_enumerate_1 _) (F.newCall_enumerate_1 _) (fun x => F.args_object_init_2 x _) F.entry_enumerate_new (meets_enum1 B)
  refine ⟨h1, ?_⟩
  rw [sz]
  exact ⟨⟨_, en, rfl⟩, h _ en (Heap.get?_push_of_some _ (Heap.get?_push_size _ B.free)) (fun b u x => Heap.get?_push_of_some _ (Heap.get?_push_of_some _ x))⟩
end
/-- the tuple at a, each item in a new pair with its place -/
def IteT (K : PySem.W.Frag) (a : Addr) : It where
  go := fun i H => ∃ (xs : List V) (x : V), SqT K H a xs ∧ xs[i]? = some x
  yld := fun i H v H' => ∃ T x, v = .ref T ∧ H T = none ∧ H' = upd H T (.tup [.int (i : Nat), x]) ∧ ∀ xs, SqT K H a xs → xs[i]? = some x
  stop := fun i H => ∃ xs : List V, SqT K H a xs ∧ xs.length = i
theorem walk_enumT {K : PySem.W.Frag} {a : Addr} {xs : List V} : Walk (IteT K a) xs.length (fun H => SqT K H a xs) (YPair (fun i => some (.int (i : Nat))) (fun i => xs[i]?)) where
  goes := fun i H hi q => ⟨xs, xs[i], q, by simp [hi]⟩
  stops := fun H q => ⟨xs, q, rfl⟩
  yields := fun i H v H' _ q ⟨T, x, h1, h2, h3, h4⟩ => ⟨T, .int (i : Nat), x, h1, h2, h3, rfl, h4 xs q⟩
/-- the iterator's two objects -/
def EnT (a e it : Addr) (i : Nat) (h : Heap) : Prop := (∃ old, IsEnum h e it ((i : Nat) : Int) old) ∧ h.IsTupleIter it a i ∧ e ≠ it
theorem turn_enumT {P : Program} {w : World} {K : PySem.W.Frag} {elts : List Expr} {kk : Nat} {tpos : Pos} (a e it : Addr) : Turn P w K (.Tuple elts kk tpos) (IteT K a) [e, it] e (EnT a e it) := by
  constructor
  case mem => exact List.mem_cons_self ..
  case obj =>
    rintro i h ⟨⟨old, he⟩, ⟨o, ho, _, hd⟩, _⟩ b hb
    simp only [List.mem_cons, List.not_mem_nil, or_false] at hb
    rcases hb with rfl | rfl
    · exact ⟨_, he, fun v q => nomatch q⟩
    · exact ⟨o, ho, fun v q => by rw [hd] at q; cases q⟩
  case keep =>
    rintro i h h' ⟨⟨old, he⟩, hi, ne⟩ k
    exact ⟨⟨old, k e (by simp) _ he⟩, hi.at (fun o q => k it (by simp) o q), ne⟩
  case self =>
    rintro A i s Q E ⟨⟨old, he⟩, _⟩ h
    exact wpAny_pyIter_enum he h
  case item =>
    rintro X rfl rfl rfl hc i pins s σ H E I hf ⟨⟨old, he⟩, hit, ne⟩ ⟨xs, x, hq, hx⟩
    obtain ⟨its, rv, p, hz⟩ := I.tuple hq
    have p' : s.heap.IsTuple a its.toArray := p
    obtain ⟨u, hu, ru⟩ := rv.get hx
    have hlt : i < its.length := (List.getElem?_eq_some_iff.mp hu).1
    have nai : a ≠ it := by
      rintro rfl
      obtain ⟨o1, e1, c1, _⟩ := p'
      obtain ⟨o2, e2, c2, _⟩ := hit
      rw [e1] at e2
      cases e2
      rw [c1] at c2
      exact absurd c2 (by decide)
    have nea : e ≠ a := by
      rintro rfl
      obtain ⟨o1, e1, c1, _⟩ := p'
      have e2 : s.heap.get? e = some _ := he
      rw [e1] at e2
      cases e2
      have c : Value.type "enumerate" = Value.type "tuple" := c1
      exact absurd c (by decide)
    have hh : X.A.in1.handled = none := I.ok.hd hc
    have le : e < s.heap.objs.size := Heap.lt_size he
    have li : it < s.heap.objs.size := by
      obtain ⟨_, q, _⟩ := hit
      exact Heap.lt_size q
    have ez : ((i + 1 : Nat) : Int) = (i : Int) + 1 := by omega
    refine wpAny_pyNext_enum_itemC (Draws.tuple hh it a nai its.toArray) he ⟨hit, p'⟩ (by simpa using hlt) ne (by simp [ne, nea]) ?_
    intro y h' tk hy ho hst hT _ hk
    obtain rfl : y = u := by
      have : its[i]? = some y := by simpa using hy
      rw [hu] at this
      exact (Option.some.inj this).symm
    refine ⟨_, rfl, wpAny_letOwnedTupleGo_enum (s := { s with heap := h', toks := tk + 1 }) ho ?_⟩
    intro h2 he2 sb
    have hT2 : h2.get? s.heap.objs.size = some { cls := .type "tuple", data := .seq #[.int i tk, y] } := (sb.2 _ (Nat.ne_of_gt le)).trans hT
    have mk : ObjOk X.prog X.w (upd H s.heap.objs.size (.tup [.int (i : Nat), x])) h2 s.heap.objs.size (.tup [.int (i : Nat), x]) :=
      ⟨small (n := 2) (by omega), [.int i tk, y], .cons ⟨tk, rfl⟩ (.cons ru .nil), ⟨_, hT2, rfl, _, rfl⟩⟩
    have J : Inv X pins σ (upd H s.heap.objs.size (.tup [.int (i : Nat), x])) { s with heap := h2, toks := tk + 1 } := by
      refine I.turnedNew (ch := [e, it]) (fun b ob hb q => ?_) hf (Nat.le_refl _) mk
      simp only [List.mem_cons, List.not_mem_nil, or_false, not_or] at hb
      exact (sb.2 b hb.1).trans (hk b ob hb.1 hb.2 q)
    refine ⟨.ref s.heap.objs.size, _, J, rfl, ⟨_, x, rfl, I.hok.fresh (Nat.le_refl _), rfl, fun ys hy => by rw [I.tuple_inj hy hq]; exact hx⟩, ⟨⟨y, ?_⟩, hst.1.at (fun o q => (sb.2 it ne.symm).trans q), ne⟩, fun b hb => ?_⟩
    · rw [ez]
      exact he2
    · have lb : b < s.heap.objs.size := by
        simp only [List.mem_cons, List.not_mem_nil, or_false] at hb
        rcases hb with rfl | rfl
        · exact le
        · exact li
      rw [upd_ne (Nat.ne_of_lt lb)]
      exact (hf b hb).1
  case done =>
    rintro X rfl rfl rfl hc i pins s σ H E I hf ⟨⟨old, he⟩, hit, ne⟩ ⟨xs, hq, hx⟩
    obtain ⟨its, rv, p, hz⟩ := I.tuple hq
    have p' : s.heap.IsTuple a its.toArray := p
    have hlen := rv.length
    have hh : X.A.in1.handled = none := I.ok.hd hc
    have nai : a ≠ it := by
      rintro rfl
      obtain ⟨o1, e1, c1, _⟩ := p'
      obtain ⟨o2, e2, c2, _⟩ := hit
      rw [e1] at e2
      cases e2
      rw [c1] at c2
      exact absurd c2 (by decide)
    have hi : its.toArray.size = i := by rw [List.size_toArray, ← hlen, hx]
    obtain ⟨f0, f1, f2, f3, f4, f5⟩ := hf it (by simp)
    refine wpAny_pyNext_enum_endD (Draws.tuple hh it a nai its.toArray) he (by rw [hi]; exact ⟨hit, p'⟩) ?_
    intro h' eb
    exact ⟨rfl, I.turned (t' := s.toks) (fun b o hb q => eb b o hb q) f0 f1 f3 f4 f5⟩
def iEnumT (K : PySem.W.Frag) (ta : TA) : TI := fun σ H R => ta σ H fun vs H1 => ∃ a xs, vs = [.ref a] ∧ SqT K H1 a xs ∧ R (IteT K a) H1
theorem pi_enumT {X : Cx} {e : Expr} {ta : TA} {p pos tpos : Pos} {elts : List Expr} {kk : Nat} {K : PySem.W.Frag} (hg : Gl X "enumerate") (hm : X.mg "enumerate" = none) (ha : PA X [e] ta) (hK : X.K = K := by rfl) (hs : starEach [e] X.env = [(false, eval e X.env)] := by rfl) :
    PI X (.Tuple elts kk tpos) (.Call (.Name "enumerate" p) [e] [] pos) (iEnumT K ta) := by
  subst hK
  constructor
  intro pins s σ H R I h
  apply Call_ (ld_blt I hg hm boot_enumerate (PyProof.Rows.callWith_type1 (thn (ha.run pos pins s σ H _ I h) ?_) hs rfl))
  rintro us s1 ⟨vs, H1, I1, r1, a, xs, rfl, hq, q⟩
  cases r1 with
  | cons r rr =>
    cases rr
    cases r
    obtain ⟨its, rv, p', hz⟩ := I1.tuple hq
    refine enum_one (begins_tuple a its.toArray) p' fun h' he hit hk => wpAny_pyIter_enum he ?_
    have I2 : Inv X pins σ H1 { s1 with heap := h' } := I1.kept (t' := s1.toks) hk
    refine ⟨s1.heap.objs.size + 1, [s1.heap.objs.size + 1, s1.heap.objs.size], _, _, H1, rfl, I2, turn_enumT a (s1.heap.objs.size + 1) s1.heap.objs.size, ⟨⟨.none, he⟩, ⟨_, hit, rfl, rfl⟩, Nat.succ_ne_self _⟩, fun b hb => ?_, q⟩
    have le : s1.heap.objs.size ≤ b := by
      simp only [List.mem_cons, List.not_mem_nil, or_false] at hb
      rcases hb with rfl | rfl
      · exact Nat.le_succ _
      · exact Nat.le_refl _
    exact I1.fpOk le (I1.hok.fresh le)
section
variable {K : PySem.W.Frag} {H : Hp} {σ : L2.St}
theorem x_rU {g : Int → V} {i : Int} {Q : VK} : rU g (.int i) H Q ↔ Q (g i) H := by
  constructor
  · rintro ⟨_, h1, h⟩
    cases h1; exact h
  · exact fun h => ⟨i, rfl, h⟩
theorem x_two {n i j : Nat} {T : Addr} {x y : V} {Q : L2.St → Hp → Prop} (h : SqT K H T [x, y]) (k : Q ((σ.set i (some x)).set j (some y)) H) (hn : n = 2 := by rfl) : gTup K n (gCons (gName i) (gCons (gName j) gNil)) (.ref T) σ H Q := by
  subst hn
  exact ⟨T, _, rfl, h, rfl, x, [y], rfl, y, [], rfl, rfl, k⟩
end
/-- C(..), its __init__ keeping sp -/
def rMk (C : Addr) (sp : Sp) (dvs vs : List V) (H1 : Hp) (Q : XK) : Prop := vs.length ≤ 1000 ∧ ∀ a, H1 a = none → sp (.ref a :: (vs ++ dvs)) (upd H1 a (exo a C none))
  (fun v H2 => v = .non ∧ ∃ (d : Addr) (fs : List (Str × V)), H2 a = some (exo a C (some d)) ∧ H2 d = some (exd d fs) ∧ H1 d = none ∧ Q (.ref C) (some d) (upd (del H2 a) d (.xd fs))) (fun _ _ _ => False)
theorem x_tMkO {C : Addr} {sp : Sp} {dvs : List V} {ta : TA} {σ : L2.St} {H : Hp} {Q : XK} : tMkO C sp dvs ta σ H Q = ta σ H fun vs H1 => rMk C sp dvs vs H1 Q := rfl
end FB
set_option Elab.async false
set_option linter.all false
set_option maxRecDepth 100000
set_option maxHeartbeats 4000000
/-! Dicts: made by a comprehension, walked, asked, filled; sets; zip of tuples. -/
namespace FB
open PySem PySem.Spec PyProof.Rows L2 Evl
section
variable {X : Cx}
/-- the value is locked from here on -/
def tLockV (t : TE) : TE := fun σ H Q => t σ H fun x H1 => ∃ d u, x = .ref d ∧ H1 d = some u ∧ Mut (some u) ∧ ∀ od, Q x (upd H1 d (.frz od u))
theorem pe_lockV {e : Expr} {t : TE} (h : PE X e t) : PE X e (tLockV t) := by
  refine ⟨fun pins s σ H Q I hw => ?_⟩
  refine thn (h.run pins s σ _ _ I hw) fun v s1 ⟨x, H1, I1, r, d, u, e, hd, mu, q⟩ => ?_
  obtain ⟨od, I2⟩ := I1.lock hd mu
  exact ⟨x, _, I2, r, q od⟩
/-- name = {..} on one line, the name a local -/
theorem ps_setDc {i : Nat} {y : Str} {py : Pos} {kx vx tg iter : Expr} {ifs : List Expr} {scope : Scope} {own : List (Str × Nat)} {pos spos : Pos} {wi : TI} {g : TG} {tt : TT} {tk tv : TE} (hc : X.calm = true) (hN : X.N.Nodup) (hy : X.N[i]? = some y) (hyl : X.env.scope.names.lookup y = some .local)
    (hsw : swapsWith (.DictComp kx vx [⟨tg, iter, ifs, 0⟩] scope pos) (some (.Name y py)) spos.line X.env = pure true) (hi : PI X tg iter wi) (ok : BlkOk X.N X.env.scope scope own)
    (hg : ∀ (s : Shared) (H : Hp) (C : Addr) (cl : List (Str × Addr)) (fp : List Addr), PG (X.blk s H scope (compEnvC scope cl C X.env) fp) tg g) (ht : ∀ (s : Shared) (H : Hp) (C : Addr) (cl : List (Str × Addr)) (fp : List Addr), PTs (X.blk s H scope (compEnvC scope cl C X.env) fp) ifs tt)
    (hk : ∀ (s : Shared) (H : Hp) (C : Addr) (cl : List (Str × Addr)) (fp : List Addr), PE (X.blk s H scope (compEnvC scope cl C X.env) fp) kx tk)
    (he : ∀ (s : Shared) (H : Hp) (C : Addr) (cl : List (Str × Addr)) (fp : List Addr), PE (X.blk s H scope (compEnvC scope cl C X.env) fp) vx tv) (hs : ∀ x, foldedSetIterable iter X.env x = pure x := by intro _; rfl) :
    PS X (.Assign [.Name y py] (.DictComp kx vx [⟨tg, iter, ifs, 0⟩] scope pos) spos) (tAsg (tDc wi g tt tk tv (own.map (·.2))) (gName i)) := by
  refine ⟨fun pins s σ H D I h => ?_⟩
  rw [exec_Assign_Name_used _ _ _ _ hsw]
  refine wpAny_bind (wpAny_standAt (wpAny_bind ?_))
  show wpAny _ X.A (do let _ ← comprehension (.DictComp kx vx [⟨tg, iter, ifs, 0⟩] scope pos) scope X.env (firstIterPos [⟨tg, iter, ifs, 0⟩] pos) newDict false (eval iter X.env) (some (assign (.Name y py) X.env))) _ _ s
  have h : tDc wi g tt tk tv (own.map (·.2)) σ H (fun x H1 => gName i x σ H1 D.nx) := h
  refine wpAny_bind (thn (dc_core (Qf := fun _ s' => SP X pins D .next s') hc hN I hi ok hg ht hk he hs h fun L C s' m H' I' q hn f => ?_) fun _ s' hq => wpAny_pure (wpAny_pure hq))
  show wpAny _ _ (assign (.Name y py) X.env (.ref L)) _ _ _
  refine wpAny_assign_Name (store_ok2 (v := V.ref L) I' hN hy (.inl hyl) rfl (fun s2 I2 ⟨a, sb, ha⟩ => ?_) (.inr hyl))
  obtain ⟨f0, f1, f2, f3, f4, f5⟩ := f
  have haC : C ≠ a := by
    rcases ha with z | z
    · rw [z]; exact f1
    · exact fun e => f4 y a z e.symm
  refine ⟨m, hn.sameBut sb haC, fun h3 sb3 => ?_⟩
  exact ⟨_, H', I2.turned (t' := s2.toks) (fun b o hb e => (sb3.2 b hb).trans e) f0 f1 f3 f4 f5, q⟩
theorem sw_trueD {kx vx : Expr} {gs : List Comprehension} {scope : Scope} {pos py : Pos} {y : Str} {l : Nat} {env : Env} (hk : env.scope.kind = .function) (hy : env.scope.names.lookup y = some .local) (hl : (py.line == pos.line) = true)
    (ha : (scope.names.any fun (n, k) => n == y && (k == .local || k == .cell)) = false) : swapsWith (.DictComp kx vx gs scope pos) (some (.Name y py)) l env = pure true := by
  have ky : env.kindOf y = some .local := hy
  have hb : env.blockKind = .function := by unfold Env.blockKind; rw [hk]; rfl
  unfold swapsWith
  simp only [hb, ky, ha, Expr.pos, hl]
  rfl
end
/-- a dict comprehension's reading -/
def DcL (J : It) (g : TG) (tt : TT) (tk tv : TE) (vs : List Nat) (σ : L2.St) (H1 : Hp) (Q : VK) : Prop := ∀ D, H1 D = none → ∃ W : Nat → Nat → Hp → Prop, (∃ m, W 0 m (upd H1 D (.dK []))) ∧ ∀ i m H, W i m H →
  (J.stop i H ∧ Q (.ref D) H) ∨ (J.go i H ∧ ∃ Nx : Hp → Prop, (∀ H', Nx H' → ∃ m', m' < m ∧ W (i + 1) m' H') ∧ ∀ x H', J.yld i H x H' → g x (wipe σ vs) H' fun σ2 H2 => wipe σ2 vs = wipe σ vs ∧ tt σ2 H2 fun b H3 =>
    if b = true then tk σ2 H3 fun y H4 => tv σ2 H4 fun z H5 => ∃ kvs k, y = kV k ∧ H5 D = some (.dK kvs) ∧ kvs.length < sizeLine ∧ Nx (upd H5 D (.dK (putK kvs k z))) else Nx H3)
theorem x_tDc {wi : TI} {g : TG} {tt : TT} {tk tv : TE} {vs : List Nat} {σ : L2.St} {H : Hp} {Q : VK} : tDc wi g tt tk tv vs σ H Q = wi σ H fun J H1 => DcL J g tt tk tv vs σ H1 Q := rfl
/-- the item goes to the dict at D -/
def PutD (D : Addr) (N : Hp → Prop) (y : V) : VK := fun z H5 => ∃ kvs k, y = kV k ∧ H5 D = some (.dK kvs) ∧ kvs.length < sizeLine ∧ N (upd H5 D (.dK (putK kvs k z)))
theorem x_putD {D : Addr} {N : Hp → Prop} {k : Key} {z : V} {H : Hp} {kvs : List (Key × V)} (h : H D = some (.dK kvs)) (hl : kvs.length < 1000000) (q : ∀ H5, (∀ x o, x ≠ D → H x = some o → H5 x = some o) → H5 D = some (.dK (putK kvs k z)) → N H5) : PutD D N (kV k) z H :=
  ⟨kvs, k, rfl, h, by rw [sizeLine_eq]; omega, q _ (fun x o hx e => by rw [upd_ne hx]; exact e) upd_same⟩
theorem dcl_it {J : It} {n : Nat} {G : Hp → Prop} {Y : Nat → Hp → V → Hp → Prop} {g : TG} {tt : TT} {tk tv : TE} {vs : List Nat} {σ : L2.St} {H1 : Hp} {Q : VK} (w : Walk J n G Y) (Pv : Addr → Nat → Hp → Prop)
    (h0 : ∀ D H', H1 D = none → Ex H1 H' → H' D = some (.dK []) → Pv D 0 H') (hG : ∀ D i H, i ≤ n → Pv D i H → G H)
    (hs : ∀ D i x H H', H1 D = none → i < n → Pv D i H → Y i H x H' → g x (wipe σ vs) H' fun σ2 H2 => wipe σ2 vs = wipe σ vs ∧ tt σ2 H2 fun b H3 => if b = true then tk σ2 H3 fun y H4 => tv σ2 H4 (PutD D (Pv D (i + 1)) y) else Pv D (i + 1) H3)
    (hd : ∀ D H, H1 D = none → Pv D n H → Q (.ref D) H) : DcL J g tt tk tv vs σ H1 Q := fun D hD => by
  refine ⟨fun i m H => m = n - i ∧ i ≤ n ∧ Pv D i H, ⟨n, by simp, Nat.zero_le _, h0 D _ hD (Ex.new hD) upd_same⟩, ?_⟩
  rintro i m H ⟨rfl, hi, p⟩
  have q := hG D i H hi p
  by_cases hlt : i < n
  · exact .inr ⟨w.goes i H hlt q, Pv D (i + 1), fun H' p' => ⟨n - (i + 1), by omega, rfl, hlt, p'⟩, fun x H' y => hs D i x H H' hD hlt p (w.yields i H x H' hlt q y)⟩
  · have e : i = n := by omega
    subst e
    exact .inl ⟨w.stops H q, hd D H hD p⟩
section
variable {K : PySem.W.Frag} {H H' : Hp} {a b d p : Addr} {kvs : List (Key × V)} {k : Key} {v : V} {Q : VK} {xs ys : List V}
theorem x_lock {t : TE} {σ : L2.St} {u : HO} (h : H d = some u) (mu : Mut (some u)) (q : ∀ od H1, (∀ x o, x ≠ d → H x = some o → H1 x = some o) → (∀ x, x ≠ d → H1 x = none → H x = none) → H1 d = some (.frz od u) → t σ H1 fun v H' => H' d = some (.frz od u) ∧ Q v (upd H' d u)) : tLockE t σ H Q :=
  ⟨d, u, h, mu, fun od => q od _ (fun x o hx e => by rw [upd_ne hx]; exact e) (fun x hx e => by rw [upd_ne hx] at e; exact e) upd_same⟩
def rLockV (x : V) (H : Hp) (Q : VK) : Prop := ∃ d u, x = .ref d ∧ H d = some u ∧ Mut (some u) ∧ ∀ od, Q x (upd H d (.frz od u))
theorem x_tLockV {t : TE} {σ : L2.St} : tLockV t σ H Q = t σ H fun x H1 => rLockV x H1 Q := rfl
theorem x_lockV {u : HO} (h : H d = some u) (mu : Mut (some u)) (q : ∀ od H1, (∀ x o, x ≠ d → H x = some o → H1 x = some o) → (∀ x, x ≠ d → H1 x = none → H x = none) → H1 d = some (.frz od u) → Q (.ref d) H1) : rLockV (.ref d) H Q :=
  ⟨d, u, rfl, h, mu, fun od => q od _ (fun x o hx e => by rw [upd_ne hx]; exact e) (fun x hx e => by rw [upd_ne hx] at e; exact e) upd_same⟩
/-- d[k] -/
def rDGet (x y : V) (H : Hp) (Q : VK) : Prop := ∃ a v, x = .ref a ∧ DGet H a y (some v) ∧ Q v H
theorem x_tDGet {td ty : TE} {σ : L2.St} : tDGet td ty σ H Q = td σ H fun x H1 => ty σ H1 fun y H2 => rDGet x y H2 Q := rfl
theorem x_dget (h : H a = some (.dK kvs)) (e : valV kvs k = some v) (q : Q v H) : rDGet (.ref a) (kV k) H Q := ⟨a, v, rfl, by rw [← e]; exact DGet.k h, q⟩
/-- d.get(k, z) -/
def rDGet2 (a : Addr) (y z : V) (H : Hp) (Q : VK) : Prop := ∃ o, DGet H a y o ∧ Q (o.getD z) H
theorem x_tDGet2 {td ty tx : TE} {σ : L2.St} : tDGet2 td ty tx σ H Q = td σ H fun x H1 => ∃ a, x = .ref a ∧ IsD H1 a ∧ ty σ H1 fun y H2 => tx σ H2 fun z H3 => rDGet2 a y z H3 Q := rfl
theorem isD_k (h : H a = some (.dK kvs)) : IsD H a := .inl ⟨kvs, .inl h⟩
theorem x_dget2 {z : V} (h : H a = some (.dK kvs)) (q : Q ((valV kvs k).getD z) H) : rDGet2 a (kV k) z H Q := ⟨_, DGet.k h, q⟩
/-- d[k] = v -/
def rDPut (x y v : V) (H : Hp) (N : Hp → Prop) : Prop := ∃ a H4, x = .ref a ∧ DPut H a y v H4 ∧ N H4
theorem x_sDPut {td ty tv : TE} {σ : L2.St} {D : Ends} : sDPut td ty tv D σ H = tv σ H fun v H1 => td σ H1 fun x H2 => ty σ H2 fun y H3 => rDPut x y v H3 (D.nx σ) := rfl
theorem x_dput {N : Hp → Prop} (h : H a = some (.dK kvs)) (hl : kvs.length < 1000000) (q : ∀ H1, (∀ x o, x ≠ a → H x = some o → H1 x = some o) → (∀ x, x ≠ a → H1 x = none → H x = none) → H1 a = some (.dK (putK kvs k v)) → N H1) : rDPut (.ref a) (kV k) v H N :=
  ⟨a, _, rfl, DPut.k h (by rw [sizeLine_eq]; omega), q _ (fun x o hx e => by rw [upd_ne hx]; exact e) (fun x hx e => by rw [upd_ne hx] at e; exact e) upd_same⟩
/-- d.setdefault(k, z) -/
def rDSetd (a : Addr) (y z : V) (H : Hp) (Q : VK) : Prop := ∃ (kvs : List (Key × V)) (k : Key), H a = some (.dK kvs) ∧ y = kV k ∧ kvs.length < sizeLine ∧ (∀ v, valV kvs k = some v → Q v H) ∧ (valV kvs k = none → Q z (upd H a (.dK (putK kvs k z))))
theorem x_tDSetd {td ty tx : TE} {σ : L2.St} : tDSetd td ty tx σ H Q = td σ H fun x H1 => ∃ a, x = .ref a ∧ IsD H1 a ∧ ty σ H1 fun y H2 => tx σ H2 fun z H3 => rDSetd a y z H3 Q := rfl
theorem x_dsetd {z : V} (h : H a = some (.dK kvs)) (hl : kvs.length < 1000000) (q : ∀ v, valV kvs k = some v → Q v H)
    (q2 : valV kvs k = none → ∀ H1, (∀ x o, x ≠ a → H x = some o → H1 x = some o) → (∀ x, x ≠ a → H1 x = none → H x = none) → H1 a = some (.dK (putK kvs k z)) → Q z H1) : rDSetd a (kV k) z H Q :=
  ⟨kvs, k, h, rfl, by rw [sizeLine_eq]; omega, q, fun e => q2 e _ (fun x o hx e => by rw [upd_ne hx]; exact e) (fun x hx e => by rw [upd_ne hx] at e; exact e) upd_same⟩
/-- {} -/
def rDNew (H : Hp) (Q : VK) : Prop := ∀ p, H p = none → Q (.ref p) (upd H p (.dK []))
theorem x_tDNewK {σ : L2.St} : tDNewK σ H Q = rDNew H Q := rfl
theorem x_dnew (q : ∀ p H', H p = none → Ex H H' → H' p = some (.dK []) → Q (.ref p) H') : rDNew H Q := x_new q
/-- items of a locked dict -/
def rItems (x : V) (H : Hp) (R : It → Hp → Prop) : Prop := ∃ d o kvs, x = .ref d ∧ H d = some (.frz o (.dK kvs)) ∧ R (Iti d o kvs) H
theorem x_iItems {td : TE} {σ : L2.St} {R : It → Hp → Prop} : iItems td σ H R = td σ H fun x H1 => rItems x H1 R := rfl
theorem x_items {o : Obj} {R : It → Hp → Prop} (h : H d = some (.frz o (.dK kvs))) (q : R (Iti d o kvs) H) : rItems (.ref d) H R := ⟨d, o, kvs, rfl, h, q⟩
/-- tuple(range(i, j)) -/
def rTupRg (i j : Int) (H : Hp) (Q : VK) : Prop := RgOk i j ∧ ∀ q, H q = none → Q (.ref q) (upd H q (.tup (rgV i j)))
theorem x_tTupRg {te : L2.St → Hp → (Int → Int → Hp → Prop) → Prop} {σ : L2.St} : tTupRg te σ H Q = te σ H fun i j H1 => rTupRg i j H1 Q := rfl
theorem x_tRg2 {ta tb : TE} {σ : L2.St} {R : Int → Int → Hp → Prop} : tRg2 ta tb σ H R = ta σ H fun x H1 => tb σ H1 fun y H2 => ∃ i j, x = .int i ∧ y = .int j ∧ R i j H2 := rfl
theorem x_tupRg {i j : Int} (h : RgOk i j) (q : ∀ t H', H t = none → Ex H H' → H' t = some (.tup (rgV i j)) → Q (.ref t) H') : rTupRg i j H Q := ⟨h, x_new q⟩
theorem x_sum {ns : List Int} (h : SqL K H a (ns.map V.int)) (q : Q (.int ns.sum) H) : rSum K [.ref a] H Q := ⟨a, ns, rfl, h, q⟩
theorem walk_zipT (hn : xs.length = ys.length) : Walk (RZ.ItzT K a b) xs.length (fun H => SqT K H a xs ∧ SqT K H b ys) (YPair (fun i => xs[i]?) (fun i => ys[i]?)) := by
  refine ⟨fun i _ hi q => ?_, fun _ q => ⟨xs, ys, q.1, q.2, by omega⟩, fun i H v H' _ q y => ?_⟩
  · have h2 : i < ys.length := by omega
    exact ⟨xs, ys, xs[i], ys[i], q.1, q.2, by simp [hi], by simp [h2]⟩
  · obtain ⟨T, x, z, h1, h2, h3, h4, h5⟩ := y
    exact ⟨T, x, z, h1, h2, h3, h4 xs q.1, h5 ys q.2⟩
def rZip (K : PySem.W.Frag) (vs : List V) (H : Hp) (R : It → Hp → Prop) : Prop := ∃ a b xs ys, vs = [.ref a, .ref b] ∧ ((SqL K H a xs ∧ SqL K H b ys ∧ R (Itz K a b) H) ∨ (SqT K H a xs ∧ SqT K H b ys ∧ R (RZ.ItzT K a b) H))
theorem x_iZip {ta : TA} {σ : L2.St} {R : It → Hp → Prop} : RZ.iZipA K ta σ H R = ta σ H fun vs H1 => rZip K vs H1 R := rfl
theorem x_zipT {R : It → Hp → Prop} (h1 : SqT K H a xs) (h2 : SqT K H b ys) (q : R (RZ.ItzT K a b) H) : rZip K [.ref a, .ref b] H R := ⟨a, b, xs, ys, rfl, .inr ⟨h1, h2, q⟩⟩
end
end FB
set_option Elab.async false
set_option linter.all false
set_option maxRecDepth 100000
set_option maxHeartbeats 4000000
/-! The seats of a network's first stations, and who feeds a place. -/
namespace FB
open PySem PySem.Spec PyProof.Rows L2 Evl
/-- a seat: its station, and where it leads -/
abbrev Seats := List (Nat × Key)
def stSeats (k : Nat) (s : List Key) : Seats := s.map fun p => (k, p)
/-- the seats of the first k stations -/
def seatsOf (N : Net) : Nat → Seats
  | 0 => []
  | k + 1 => seatsOf N k ++ stSeats k (N.getD k [])
/-- what f gives for the seats that lead to q -/
def toQ (f : Nat → Int) (q : Key) : Seats → Int
  | [] => 0
  | (i, p) :: r => (if p = q then f i else 0) + toQ f q r
theorem toQ_append {f : Nat → Int} {q : Key} : ∀ {a b : Seats}, toQ f q (a ++ b) = toQ f q a + toQ f q b
  | [], b => by simp [toQ]
  | (i, p) :: r, b => by
    show (if p = q then f i else 0) + toQ f q (r ++ b) = (if p = q then f i else 0) + toQ f q r + toQ f q b
    rw [toQ_append]; omega
theorem toQ_nil {f : Nat → Int} {q : Key} : ∀ {a : Seats}, (∀ s ∈ a, s.2 ≠ q) → toQ f q a = 0
  | [], _ => rfl
  | (i, p) :: r, h => by
    show (if p = q then f i else 0) + toQ f q r = 0
    rw [if_neg (h (i, p) (List.mem_cons_self ..)), toQ_nil fun s hs => h s (List.mem_cons_of_mem _ hs)]
    rfl
theorem toQ_congr {f g : Nat → Int} {q : Key} : ∀ {a : Seats}, (∀ s ∈ a, s.2 = q → f s.1 = g s.1) → toQ f q a = toQ g q a
  | [], _ => rfl
  | (i, p) :: r, h => by
    show (if p = q then f i else 0) + toQ f q r = (if p = q then g i else 0) + toQ g q r
    rw [toQ_congr fun s hs => h s (List.mem_cons_of_mem _ hs)]
    by_cases e : p = q
    · rw [if_pos e, if_pos e, h (i, p) (List.mem_cons_self ..) e]
    · rw [if_neg e, if_neg e]
theorem toQ_nn {f : Nat → Int} {q : Key} : ∀ {a : Seats}, (∀ s ∈ a, 0 ≤ f s.1) → 0 ≤ toQ f q a
  | [], _ => by simp [toQ]
  | (i, p) :: r, h => by
    show 0 ≤ (if p = q then f i else 0) + toQ f q r
    have h1 : 0 ≤ f i := h (i, p) (List.mem_cons_self ..)
    have h2 := toQ_nn (q := q) fun s hs => h s (List.mem_cons_of_mem _ hs)
    split <;> omega
theorem mem_seatsOf {N : Net} {i : Nat} {q : Key} : ∀ {k : Nat}, (i, q) ∈ seatsOf N k ↔ i < k ∧ q ∈ N.getD i []
  | 0 => by simp [seatsOf]
  | k + 1 => by
    show (i, q) ∈ seatsOf N k ++ stSeats k (N.getD k []) ↔ _
    rw [List.mem_append, mem_seatsOf]
    have e : (i, q) ∈ stSeats k (N.getD k []) ↔ i = k ∧ q ∈ N.getD k [] := by
      unfold stSeats
      rw [List.mem_map]
      constructor
      · rintro ⟨p, hp, e⟩
        cases e
        exact ⟨rfl, hp⟩
      · rintro ⟨rfl, h⟩
        exact ⟨q, h, rfl⟩
    rw [e]
    constructor
    · rintro (⟨h1, h2⟩ | ⟨rfl, h2⟩)
      · exact ⟨by omega, h2⟩
      · exact ⟨by omega, h2⟩
    · rintro ⟨h1, h2⟩
      by_cases z : i = k
      · subst z; exact .inr ⟨rfl, h2⟩
      · exact .inl ⟨by omega, h2⟩
theorem seatsOf_len {N : Net} (h : ∀ s ∈ N, s.length ≤ 8) : ∀ k, (seatsOf N k).length ≤ 8 * k
  | 0 => by simp [seatsOf]
  | k + 1 => by
    show (seatsOf N k ++ stSeats k (N.getD k [])).length ≤ _
    rw [List.length_append]
    have h1 := seatsOf_len h k
    have h2 : (stSeats k (N.getD k [])).length ≤ 8 := by
      unfold stSeats
      rw [List.length_map, List.getD_eq_getElem?_getD]
      cases e : N[k]? with
      | none => simp
      | some s => exact h s (List.mem_of_getElem? e)
    omega
/-! ### a place's feeders -/
abbrev Cnt := List (Nat × Int)
def cntV (G : Cnt) : List (Key × V) := G.map fun g => (.inl (g.1 : Int), .int g.2)
def cntQ (f : Nat → Int) : Cnt → Int
  | [] => 0
  | (i, c) :: r => c * f i + cntQ f r
def getC (i : Nat) : Cnt → Int
  | [] => 0
  | (j, c) :: r => if j = i then c else getC i r
def bump (i : Nat) : Cnt → Cnt
  | [] => [(i, 1)]
  | (j, c) :: r => if j = i then (j, c + 1) :: r else (j, c) :: bump i r
theorem cntQ_bump {f : Nat → Int} {i : Nat} : ∀ {G : Cnt}, cntQ f (bump i G) = cntQ f G + f i
  | [] => by simp [bump, cntQ]
  | (j, c) :: r => by
    unfold bump
    by_cases e : j = i
    · rw [if_pos e]
      show (c + 1) * f j + cntQ f r = c * f j + cntQ f r + f i
      rw [e, Int.add_mul]; omega
    · rw [if_neg e]
      show c * f j + cntQ f (bump i r) = c * f j + cntQ f r + f i
      rw [cntQ_bump]; omega
theorem val_cntV {i : Nat} : ∀ {G : Cnt}, (valV (cntV G) (.inl (i : Int))).getD (.int 0) = .int (getC i G)
  | [] => rfl
  | (j, c) :: r => by
    show (valV ((.inl (j : Int), .int c) :: cntV r) (.inl (i : Int))).getD (.int 0) = .int (if j = i then c else getC i r)
    by_cases e : j = i
    · subst e
      rw [if_pos rfl, valV_pos rfl]; rfl
    · rw [if_neg e, valV_neg (by show ¬ (Sum.inl (j : Int) : Key) = Sum.inl (i : Int); intro z; exact e (by have := Sum.inl.inj z; omega)), val_cntV]
theorem any_cntV {i : Nat} : ∀ {G : Cnt}, ((cntV G).any fun kv => decide (kv.1 = (.inl (i : Int) : Key))) = true ↔ i ∈ G.map (·.1)
  | [] => by simp [cntV]
  | (j, c) :: r => by
    show (decide ((Sum.inl (j : Int) : Key) = Sum.inl (i : Int)) || (cntV r).any fun kv => decide (kv.1 = (.inl (i : Int) : Key))) = true ↔ i ∈ j :: r.map (·.1)
    rw [Bool.or_eq_true, any_cntV, List.mem_cons, decide_eq_true_eq]
    constructor
    · rintro (h | h)
      · exact .inl (by have := Sum.inl.inj h; omega)
      · exact .inr h
    · rintro (h | h)
      · exact .inl (by rw [h])
      · exact .inr h
theorem getC_not {i : Nat} : ∀ {G : Cnt}, ¬ i ∈ G.map (·.1) → getC i G = 0
  | [], _ => rfl
  | (j, c) :: r, h => by
    rw [List.map_cons, List.mem_cons, not_or] at h
    show (if j = i then c else getC i r) = 0
    rw [if_neg (fun z => h.1 z.symm), getC_not h.2]
theorem bump_not {i : Nat} : ∀ {G : Cnt}, ¬ i ∈ G.map (·.1) → bump i G = G ++ [(i, 1)]
  | [], _ => rfl
  | (j, c) :: r, h => by
    rw [List.map_cons, List.mem_cons, not_or] at h
    show (if j = i then _ else _) = _
    rw [if_neg (fun z => h.1 z.symm), bump_not h.2]; rfl
theorem map_not {i : Nat} {y : V} : ∀ {G : Cnt}, ¬ i ∈ G.map (·.1) → (cntV G).map (fun kv => if kv.1 = (.inl (i : Int) : Key) then (kv.1, y) else kv) = cntV G
  | [], _ => rfl
  | (j, c) :: r, h => by
    rw [List.map_cons, List.mem_cons, not_or] at h
    show (if (Sum.inl (j : Int) : Key) = Sum.inl (i : Int) then _ else _) :: (cntV r).map _ = _ :: cntV r
    rw [if_neg (fun z => h.1 (by have := Sum.inl.inj z; omega)), map_not h.2]
theorem put_cntV {i : Nat} : ∀ {G : Cnt}, (G.map (·.1)).Nodup → putK (cntV G) (.inl (i : Int)) (.int (getC i G + 1)) = cntV (bump i G)
  | G, nd => by
    unfold putK
    by_cases h : i ∈ G.map (·.1)
    · rw [if_pos (any_cntV.mpr h)]
      induction G with
      | nil => simp at h
      | cons g r ih =>
        obtain ⟨j, c⟩ := g
        rw [List.map_cons, List.nodup_cons] at nd
        by_cases e : j = i
        · subst e
          show (if (Sum.inl (j : Int) : Key) = Sum.inl (j : Int) then ((Sum.inl (j : Int) : Key), V.int (getC j ((j, c) :: r) + 1)) else _) :: (cntV r).map _ = cntV (if j = j then _ else _)
          rw [if_pos rfl, if_pos rfl, map_not nd.1]
          show (_, V.int ((if j = j then c else getC j r) + 1)) :: _ = _
          rw [if_pos rfl]; rfl
        · rw [List.map_cons, List.mem_cons] at h
          have hr : i ∈ r.map (·.1) := h.resolve_left fun z => e z.symm
          show (if (Sum.inl (j : Int) : Key) = Sum.inl (i : Int) then _ else ((Sum.inl (j : Int) : Key), V.int c)) :: (cntV r).map (fun kv => if kv.1 = (.inl (i : Int) : Key) then (kv.1, V.int ((if j = i then c else getC i r) + 1)) else kv) = cntV (if j = i then _ else _)
          rw [if_neg (fun z => e (by have := Sum.inl.inj z; omega)), if_neg e, if_neg e, ih nd.2 hr]; rfl
    · rw [if_neg (fun z => h (any_cntV.mp z)), bump_not h, getC_not h]
      simp [cntV]
theorem bump_keys {i j : Nat} : ∀ {G : Cnt}, j ∈ (bump i G).map (·.1) ↔ j = i ∨ j ∈ G.map (·.1)
  | [] => by simp [bump]
  | (l, c) :: r => by
    unfold bump
    by_cases e : l = i
    · subst e
      rw [if_pos rfl]
      simp
    · rw [if_neg e, List.map_cons, List.mem_cons, bump_keys, List.map_cons, List.mem_cons]
      constructor
      · rintro (h | h | h)
        · exact .inr (.inl h)
        · exact .inl h
        · exact .inr (.inr h)
      · rintro (h | h | h)
        · exact .inr (.inl h)
        · exact .inl h
        · exact .inr (.inr h)
theorem bump_nd {i : Nat} : ∀ {G : Cnt}, (G.map (·.1)).Nodup → ((bump i G).map (·.1)).Nodup
  | [], _ => by simp [bump]
  | (l, c) :: r, nd => by
    rw [List.map_cons, List.nodup_cons] at nd
    unfold bump
    by_cases e : l = i
    · rw [if_pos e, List.map_cons, List.nodup_cons]
      exact nd
    · rw [if_neg e, List.map_cons, List.nodup_cons]
      refine ⟨fun z => ?_, bump_nd nd.2⟩
      rcases bump_keys.mp z with h | h
      · exact e h
      · exact nd.1 h
theorem bump_le {i : Nat} {b : Int} : ∀ {G : Cnt}, (∀ g ∈ G, 0 < g.2 ∧ g.2 ≤ b) → 0 ≤ b → ∀ g ∈ bump i G, 0 < g.2 ∧ g.2 ≤ b + 1
  | [], _, h0, g, hg => by
    have e : g = (i, 1) := by simpa [bump] using hg
    rw [e]; exact ⟨by show (0 : Int) < 1; decide, by show (1 : Int) ≤ b + 1; omega⟩
  | (l, c) :: r, h, h0, g, hg => by
    have hr : ∀ g ∈ r, 0 < g.2 ∧ g.2 ≤ b := fun g hg => h g (List.mem_cons_of_mem _ hg)
    have hc := h (l, c) (List.mem_cons_self ..)
    unfold bump at hg
    by_cases e : l = i
    · rw [if_pos e] at hg
      rcases List.mem_cons.mp hg with rfl | hg
      · exact ⟨by show 0 < c + 1; have := hc.1; omega, by show c + 1 ≤ b + 1; have := hc.2; omega⟩
      · have := hr g hg; exact ⟨this.1, by omega⟩
    · rw [if_neg e] at hg
      rcases List.mem_cons.mp hg with rfl | hg
      · exact ⟨hc.1, by have := hc.2; omega⟩
      · exact bump_le hr h0 g hg
theorem bump_len {i : Nat} : ∀ {G : Cnt}, (bump i G).length ≤ G.length + 1
  | [] => by simp [bump]
  | (l, c) :: r => by
    unfold bump
    by_cases e : l = i
    · rw [if_pos e]; simp
    · rw [if_neg e]
      have := @bump_len i r
      simp; omega
/-! ### dicts as functions -/
theorem putK_keys {kvs : List (Key × V)} {k : Key} {v : V} (nd : (kvs.map (·.1)).Nodup) : ((putK kvs k v).map (·.1)).Nodup := by
  unfold putK
  by_cases h : (kvs.any fun kv => decide (kv.1 = k)) = true
  · rw [if_pos h, List.map_map]
    have e : kvs.map ((·.1) ∘ fun kv => if kv.1 = k then (kv.1, v) else kv) = kvs.map (·.1) := List.map_congr_left fun a _ => by
      show (if a.1 = k then (a.1, v) else a).1 = a.1
      split <;> rfl
    rw [e]; exact nd
  · rw [if_neg h, List.map_append]
    refine nd_snoc nd fun z => h ?_
    obtain ⟨p, hp, e⟩ := List.mem_map.mp z
    exact List.any_eq_true.mpr ⟨p, hp, decide_eq_true e⟩
theorem val_of_mem : ∀ {kvs : List (Key × V)} {k : Key} {v : V}, (kvs.map (·.1)).Nodup → (k, v) ∈ kvs → valV kvs k = some v
  | p :: r, k, v, nd, h => by
    rw [List.map_cons, List.nodup_cons] at nd
    rcases List.mem_cons.mp h with e | h
    · rw [← e, valV_pos rfl]
    · rw [valV_neg (fun z => nd.1 (by rw [z]; exact List.mem_map.mpr ⟨_, h, rfl⟩)), val_of_mem nd.2 h]
theorem sq_but {K : PySem.W.Frag} {H H1 : Hp} {b d : Addr} {xs : List V} {kvs : List (Key × V)} (h : SqL K H b xs) (hd : H d = some (.dK kvs)) (e : ∀ x o, x ≠ d → H x = some o → H1 x = some o) : SqL K H1 b xs := by
  rcases h with (h | ⟨o, h⟩) | h
  · exact .inl (.inl (e _ _ (ne_of h hd (fun z => by cases z)) h))
  · exact .inl (.inr ⟨o, e _ _ (ne_of h hd (fun z => by cases z)) h⟩)
  · exact .inr h
theorem mem_of_val : ∀ {kvs : List (Key × V)} {k : Key} {v : V}, valV kvs k = some v → (k, v) ∈ kvs
  | [], k, v, h => by cases h
  | p :: r, k, v, h => by
    by_cases e : p.1 = k
    · rw [valV_pos e] at h
      rw [← Option.some.inj h, ← e]; exact List.mem_cons_self ..
    · rw [valV_neg e] at h
      exact List.mem_cons_of_mem _ (mem_of_val h)
/-- the dict at D with the feeders of all places, n stations given and the seats of L counted; H0: ahead of it all -/
structure Feed (H0 H : Hp) (D : Addr) (n : Nat) (L : Seats) (A : Key → Option Addr) (G : Key → Cnt) (kvs : List (Key × V)) : Prop where
  nd : (kvs.map (·.1)).Nodup
  val : ∀ q, valV kvs q = (A q).map V.ref
  inj : ∀ q q' a, A q = some a → A q' = some a → q = q'
  ne : ∀ q a, A q = some a → a ≠ D
  inn : ∀ q a, A q = some a → H a = some (.dK (cntV (G q)))
  new : ∀ q a, A q = some a → H0 a = none
  newD : H0 D = none
  keys : ∀ q, (A q).isSome = true ↔ (∃ i : Nat, i < n ∧ q = .inl (i : Int)) ∨ ∃ i, (i, q) ∈ L
  sum : ∀ q f, cntQ f (G q) = toQ f q L
  mem : ∀ q g, g ∈ G q → (g.1, q) ∈ L
  le : ∀ q, ∀ g ∈ G q, 0 < g.2 ∧ g.2 ≤ (L.length : Int)
  ndG : ∀ q, ((G q).map (·.1)).Nodup
  len : kvs.length ≤ n + L.length
  lenG : ∀ q, (G q).length ≤ L.length
  ex : Ex H0 H
section
variable {H0 H H2 : Hp} {D z : Addr} {n i : Nat} {L : Seats} {A : Key → Option Addr} {G : Key → Cnt} {kvs : List (Key × V)} {p : Key}
theorem Feed.empty (F : Feed H0 H D n L A G kvs) (h : A p = none) : G p = [] := by
  cases e : G p with
  | nil => rfl
  | cons g r =>
    have := (F.keys p).mpr (.inr ⟨g.1, F.mem p g (by rw [e]; exact List.mem_cons_self ..)⟩)
    rw [h] at this; cases this
/-- the heap may grow and change elsewhere -/
theorem Feed.but (F : Feed H0 H D n L A G kvs) (e : ∀ x o, H0 x = some o → H2 x = some o) (k : ∀ q a, A q = some a → H2 a = H a) : Feed H0 H2 D n L A G kvs :=
  { F with inn := fun q a h => by rw [k q a h]; exact F.inn q a h, ex := e }
theorem Feed.ex2 (F : Feed H0 H D n L A G kvs) (e : Ex H H2) : Feed H0 H2 D n L A G kvs :=
  { F with inn := fun q a h => e _ _ (F.inn q a h), ex := F.ex.trans e }
/-- one station more in the dict, nobody leads there yet -/
theorem Feed.key (F : Feed H0 H D i [] A G kvs) (hz : H0 z = none) (hzD : z ≠ D) (hzA : ∀ q a, A q = some a → a ≠ z) (h2 : ∀ x o, x ≠ D → H x = some o → H2 x = some o) (h3 : H2 z = some (.dK [])) :
    Feed H0 H2 D (i + 1) [] (fun q => if q = .inl (i : Int) then some z else A q) G (putK kvs (.inl (i : Int)) (.ref z)) where
  nd := putK_keys F.nd
  val := fun q => by
    rw [valV_put, F.val]
    by_cases e : q = .inl (i : Int)
    · rw [if_pos e, if_pos e]; rfl
    · rw [if_neg e, if_neg e]
  inj := fun q q' a h h' => by
    by_cases e : q = .inl (i : Int)
    · rw [if_pos e] at h
      by_cases e' : q' = .inl (i : Int)
      · rw [e, e']
      · rw [if_neg e'] at h'
        exact absurd (Option.some.inj h).symm (hzA _ _ h')
    · rw [if_neg e] at h
      by_cases e' : q' = .inl (i : Int)
      · rw [if_pos e'] at h'
        exact absurd (Option.some.inj h').symm (hzA _ _ h)
      · rw [if_neg e'] at h'
        exact F.inj q q' a h h'
  ne := fun q a h => by
    by_cases e : q = .inl (i : Int)
    · rw [if_pos e] at h; rw [← Option.some.inj h]; exact hzD
    · rw [if_neg e] at h; exact F.ne q a h
  inn := fun q a h => by
    by_cases e : q = .inl (i : Int)
    · rw [if_pos e] at h; rw [← Option.some.inj h, h3]
      have : G q = [] := by
        cases e2 : G q with
        | nil => rfl
        | cons g r =>
          have := F.mem q g (by rw [e2]; exact List.mem_cons_self ..)
          simp at this
      rw [this]; rfl
    · rw [if_neg e] at h; exact h2 _ _ (F.ne q a h) (F.inn q a h)
  new := fun q a h => by
    by_cases e : q = .inl (i : Int)
    · rw [if_pos e] at h; rw [← Option.some.inj h]; exact hz
    · rw [if_neg e] at h; exact F.new q a h
  newD := F.newD
  keys := fun q => by
    by_cases e : q = .inl (i : Int)
    · rw [if_pos e]
      exact ⟨fun _ => .inl ⟨i, by omega, e⟩, fun _ => rfl⟩
    · rw [if_neg e, F.keys q]
      constructor
      · rintro (⟨j, hj, h⟩ | h)
        · exact .inl ⟨j, by omega, h⟩
        · exact .inr h
      · rintro (⟨j, hj, h⟩ | h)
        · by_cases z : j = i
          · rw [z] at h; exact absurd h e
          · exact .inl ⟨j, by omega, h⟩
        · exact .inr h
  sum := F.sum
  mem := F.mem
  le := F.le
  ndG := F.ndG
  len := by
    have := length_putK kvs (.inl (i : Int)) (.ref z)
    have := F.len
    simp at *
    omega
  lenG := F.lenG
  ex := fun x o h => h2 x o (ne_of_none h F.newD) (F.ex x o h)
theorem Feed.start (h : H0 D = none) (e : Ex H0 H) : Feed H0 H D 0 [] (fun _ => none) (fun _ => []) [] where
  nd := List.nodup_nil
  val := fun q => rfl
  inj := fun _ _ _ h => nomatch h
  ne := fun _ _ h => nomatch h
  inn := fun _ _ h => nomatch h
  new := fun _ _ h => nomatch h
  newD := h
  keys := fun q => by simp
  sum := fun q f => rfl
  mem := fun _ _ h => by simp at h
  le := fun _ _ h => by simp at h
  ndG := fun _ => List.nodup_nil
  len := by simp
  lenG := fun _ => by simp
  ex := e
/-- a seat more: z is its place's dict, old or new -/
theorem Feed.seat (F : Feed H0 H D n L A G kvs) (hz : A p = some z ∨ (A p = none ∧ H0 z = none ∧ z ≠ D ∧ ∀ q a, A q = some a → a ≠ z)) (h2 : ∀ x o, x ≠ D → x ≠ z → H x = some o → H2 x = some o) (h3 : H2 z = some (.dK (cntV (bump i (G p))))) :
    Feed H0 H2 D n (L ++ [(i, p)]) (fun q => if q = p then some z else A q) (fun q => if q = p then bump i (G p) else G q) (if A p = none then putK kvs p (.ref z) else kvs) := by
  have hzD : z ≠ D := by
    rcases hz with h | h
    · exact F.ne _ _ h
    · exact h.2.2.1
  have hz0 : H0 z = none := by
    rcases hz with h | h
    · exact F.new _ _ h
    · exact h.2.1
  have hzA : ∀ q a, q ≠ p → A q = some a → a ≠ z := fun q a hq h => by
    rcases hz with h' | h'
    · intro e; subst e; exact hq (F.inj _ _ _ h h')
    · exact h'.2.2.2 q a h
  have pos : 0 ≤ (L.length : Int) := by omega
  refine { nd := ?_, val := fun q => ?_, inj := fun q q' a h h' => ?_, ne := fun q a h => ?_, inn := fun q a h => ?_, new := fun q a h => ?_, newD := F.newD, keys := fun q => ?_, sum := fun q f => ?_, mem := fun q g hg => ?_, le := fun q g hg => ?_, ndG := fun q => ?_, len := ?_, lenG := fun q => ?_, ex := fun x o h => h2 x o (ne_of_none h F.newD) (ne_of_none h hz0) (F.ex x o h) }
  · split
    · exact putK_keys F.nd
    · exact F.nd
  · by_cases e : q = p
    · subst e
      rw [if_pos rfl]
      rcases hz with h | h
      · rw [if_neg (by rw [h]; simp), F.val, h]
      · rw [if_pos h.1, valV_put, if_pos rfl]; rfl
    · rw [if_neg e]
      split
      · rw [valV_put, if_neg e]; exact F.val q
      · exact F.val q
  · by_cases e : q = p
    · by_cases e' : q' = p
      · rw [e, e']
      · rw [if_pos e] at h
        rw [if_neg e'] at h'
        exact absurd (Option.some.inj h).symm (hzA _ _ e' h')
    · rw [if_neg e] at h
      by_cases e' : q' = p
      · rw [if_pos e'] at h'
        exact absurd (Option.some.inj h').symm (hzA _ _ e h)
      · rw [if_neg e'] at h'
        exact F.inj q q' a h h'
  · by_cases e : q = p
    · rw [if_pos e] at h; rw [← Option.some.inj h]; exact hzD
    · rw [if_neg e] at h; exact F.ne q a h
  · by_cases e : q = p
    · rw [if_pos e] at h; rw [← Option.some.inj h, if_pos e]; exact h3
    · rw [if_neg e] at h
      rw [if_neg e]
      exact h2 _ _ (F.ne q a h) (hzA q a e h) (F.inn q a h)
  · by_cases e : q = p
    · rw [if_pos e] at h; rw [← Option.some.inj h]; exact hz0
    · rw [if_neg e] at h; exact F.new q a h
  · by_cases e : q = p
    · rw [if_pos e]
      refine ⟨fun _ => .inr ⟨i, ?_⟩, fun _ => rfl⟩
      rw [e]; simp
    · rw [if_neg e, F.keys q]
      constructor
      · rintro (h | ⟨j, h⟩)
        · exact .inl h
        · exact .inr ⟨j, List.mem_append_left _ h⟩
      · rintro (h | ⟨j, h⟩)
        · exact .inl h
        · rcases List.mem_append.mp h with h | h
          · exact .inr ⟨j, h⟩
          · have : (j, q) = (i, p) := by simpa using h
            exact absurd (Prod.mk.inj this).2 e
  · rw [toQ_append]
    show cntQ f (if q = p then bump i (G p) else G q) = toQ f q L + ((if p = q then f i else 0) + 0)
    by_cases e : q = p
    · subst e
      rw [if_pos rfl, if_pos rfl, cntQ_bump, F.sum]; omega
    · rw [if_neg e, if_neg (fun z => e z.symm), F.sum]; omega
  · by_cases e : q = p
    · rw [if_pos e] at hg
      have hk : g.1 ∈ (bump i (G p)).map (·.1) := List.mem_map.mpr ⟨g, hg, rfl⟩
      rcases bump_keys.mp hk with h | h
      · rw [h, e]; simp
      · obtain ⟨g', hg', e'⟩ := List.mem_map.mp h
        have := F.mem p g' hg'
        rw [e', ← e] at this
        exact List.mem_append_left _ this
    · rw [if_neg e] at hg
      exact List.mem_append_left _ (F.mem q g hg)
  · have hl : ((L ++ [(i, p)]).length : Int) = L.length + 1 := by simp
    rw [hl]
    by_cases e : q = p
    · rw [if_pos e] at hg
      exact bump_le (F.le p) pos g hg
    · rw [if_neg e] at hg
      have := F.le q g hg
      exact ⟨this.1, by omega⟩
  · by_cases e : q = p
    · rw [if_pos e]; exact bump_nd (F.ndG p)
    · rw [if_neg e]; exact F.ndG q
  · rw [List.length_append]
    have := F.len
    split
    · have := length_putK kvs p (.ref z)
      simp; omega
    · simp; omega
  · rw [List.length_append]
    have h1 := F.lenG q
    have h2 := F.lenG p
    have h3 := @bump_len i (G p)
    by_cases e : q = p
    · rw [if_pos e]; simp; omega
    · rw [if_neg e]; simp; omega
end
/-! ### states -/
def qD (q : List Int) : PyData := .tuple (q.map PyData.int)
def qsD (qs : List (List Int)) : PyData := .tuple (qs.map qD)
def stateD (p : Int) (qs : List (List Int)) : PyData := .tuple [.int p, qsD qs]
theorem qD_t (q : List Int) : TupD (qD q) := .tup fun d hd => by
  obtain ⟨k, _, rfl⟩ := List.mem_map.mp hd
  exact .int k
theorem qsD_t (qs : List (List Int)) : TupD (qsD qs) := .tup fun d hd => by
  obtain ⟨k, _, rfl⟩ := List.mem_map.mp hd
  exact qD_t k
theorem stateD_t (p : Int) (qs : List (List Int)) : TupD (stateD p qs) := .tup fun d hd => by
  simp only [List.mem_cons, List.not_mem_nil, or_false] at hd
  rcases hd with rfl | rfl
  · exact .int p
  · exact qsD_t qs
theorem ints_dp {K : PySem.W.Frag} {H : Hp} : ∀ q : List Int, DpAll K H (q.map V.int) (q.map PyData.int)
  | [] => .nil
  | i :: q => .cons (.int i) (ints_dp q)
theorem dp_ints {K : PySem.W.Frag} {H : Hp} : ∀ {q : List Int} {vs : List V}, DpAll K H vs (q.map PyData.int) → vs = q.map V.int
  | [], _, .nil => rfl
  | i :: q, _, .cons h hs => by rw [h.int_inv, dp_ints hs]; rfl
theorem q_at {K : PySem.W.Frag} {H : Hp} {v : V} {q : List Int} (h : Dp K H v (qD q)) : ∃ a, v = .ref a ∧ SqT K H a (q.map V.int) := by
  obtain ⟨a, xs, e, h1, h2⟩ := Dp.tup_inv h
  rw [dp_ints h2] at h1
  exact ⟨a, e, h1⟩
theorem qs_at {K : PySem.W.Frag} {H : Hp} {v : V} {qs : List (List Int)} (h : Dp K H v (qsD qs)) : ∃ a ts, v = .ref a ∧ SqT K H a ts ∧ DpAll K H ts (qs.map qD) := Dp.tup_inv h
theorem state_at {K : PySem.W.Frag} {H : Hp} {v : V} {p : Int} {qs : List (List Int)} (h : Dp K H v (stateD p qs)) : ∃ a u, v = .ref a ∧ SqT K H a [.int p, u] ∧ Dp K H u (qsD qs) := by
  obtain ⟨a, xs, e, h1, h2⟩ := Dp.tup_inv h
  cases h2 with
  | cons h hs =>
    cases hs with
    | cons h' hs =>
      cases hs
      rw [h.int_inv] at h1
      exact ⟨a, _, e, h1, h'⟩
/-- the queues of a network's stations -/
structure StOk (N : Net) (p : Int) (qs : List (List Int)) : Prop where
  pos : 1 ≤ p
  len : qs.length = N.length
  lt : ∀ (k : Nat) q s, qs[k]? = some q → N[k]? = some s → q.length < s.length
  nd : qs.flatten.Nodup
  rng : ∀ x ∈ qs.flatten, 1 ≤ x ∧ x < p
/-! ### sets -/
section
variable {K : PySem.W.Frag} {P : Program} {w : World} {H : Hp} {Q : VK} {p : Addr} {S : Key → Bool} {n : Nat} {k : Key}
theorem x_tSAddK {to : TE} {t : TA} {σ : L2.St} : tSAddK P w to t σ H Q = to σ H fun x H1 => (∃ a S n, x = V.ref a ∧ H1 a = some (SetK P w a S n)) ∧ t σ H1 fun xs H2 => rSAddK P w x xs H2 Q := rfl
theorem x_set0 (q : ∀ p H', H p = none → Ex H H' → H' p = some (SetK P w p (fun _ => false) 0) → Q (.ref p) H') : rSet0K P w [] H Q := ⟨rfl, fun p hp => q p _ hp (Ex.new hp) upd_same⟩
theorem x_inS (h : H p = some (SetK P w p S n)) (q : Q (.bl (S k)) H) : rInU K P w false (kV k) (.ref p) H Q := .inr ⟨k, p, S, n, rfl, rfl, h, q⟩
theorem x_sadd (h : H p = some (SetK P w p S n)) (hn : n ≤ 1000) (q : ∀ H' m, (∀ x o, x ≠ p → H x = some o → H' x = some o) → m ≤ n + 1 → H' p = some (SetK P w p (fun j => S j || decide (j = k)) m) → Q .non H') : rSAddK P w (.ref p) [kV k] H Q :=
  ⟨p, k, S, n, rfl, rfl, h, by have : (1002 : Nat) ≤ scanBound := by decide +kernel
                               omega, q _ _ (fun x o hx e => by rw [upd_ne hx]; exact e) (by split <;> omega) upd_same⟩
end
end FB
set_option Elab.async false
set_option linter.all false
set_option maxRecDepth 100000
set_option maxHeartbeats 4000000
/-! Sorted texts; flat data. -/
namespace FB
open PySem PySem.Spec PyProof.Rows L2 Evl
theorem str_ext {a b : Str} (h : a.cps.toList = b.cps.toList) : a = b := by
  cases a with
  | mk x =>
    cases b with
    | mk y =>
      have : x = y := by
        have h : x.toList = y.toList := h
        rw [← Array.toArray_toList (xs := x), ← Array.toArray_toList (xs := y), h]
      rw [this]
theorem rising_pw : ∀ {r : List Str} {p : Str}, risingS p r = true → (p :: r).Pairwise fun a b => a.cps.toList ≤ b.cps.toList
  | [], p, _ => by simp
  | x :: r, p, h => by
    have h : (!ltCps x.cps.toList p.cps.toList && risingS x r) = true := h
    rw [Bool.and_eq_true] at h
    have ih := rising_pw h.2
    have hx : p.cps.toList ≤ x.cps.toList := by
      have := h.1
      rw [PyProof.Rows.ltCps_eq] at this
      simpa using this
    rw [List.pairwise_cons]
    refine ⟨fun y hy => ?_, ih⟩
    rcases List.mem_cons.mp hy with rfl | hy
    · exact hx
    · exact List.le_trans hx ((List.pairwise_cons.mp ih).1 y hy)
theorem sorted_same {a b : List Str} (hp : a.Perm b) (ha : sortedS a = true) (hb : sortedS b = true) : a = b := by
  have pw : ∀ {l : List Str}, sortedS l = true → l.Pairwise fun a b => a.cps.toList ≤ b.cps.toList := fun {l} h => by
    cases l with
    | nil => exact List.Pairwise.nil
    | cons x r => exact rising_pw h
  exact List.Perm.eq_of_pairwise (fun x y _ _ h1 h2 => str_ext (List.le_antisymm h1 h2)) (pw ha) (pw hb) hp
theorem depthAll_le {m : Nat} : ∀ {ds : List PyData}, (∀ d ∈ ds, d.depth ≤ m) → PyData.depthAll ds ≤ m
  | [], _ => by simp [PyData.depthAll]
  | d :: r, h => by
    have h1 := h d (List.mem_cons_self ..)
    have h2 := depthAll_le fun d hd => h d (List.mem_cons_of_mem _ hd)
    simp [PyData.depthAll]
    omega
theorem layAll : ∀ {ds : List PyData}, (∀ d ∈ ds, d.canLay0 = true) → PyData.canLayAll0 ds = true
  | [], _ => by simp [PyData.canLayAll0]
  | d :: r, h => by
    simp [PyData.canLayAll0, h d (List.mem_cons_self ..), layAll fun d hd => h d (List.mem_cons_of_mem _ hd)]
theorem strs_dp {K : PySem.W.Frag} {H : Hp} : ∀ q : List Str, DpAll K H (q.map V.str) (q.map PyData.str)
  | [] => .nil
  | i :: q => .cons (.str i) (strs_dp q)
/-- sorted(d), the keys texts -/
def rSortD (vs : List V) (H : Hp) (Q : VK) : Prop := ∃ (a : Addr) (kvs : List (Key × V)) (ks : List Str), vs = [.ref a] ∧ Rd H a (.dK kvs) ∧ kvs.map (·.1) = ks.map Sum.inr ∧ ks.length < 64 ∧ ∀ ys p, ys.Perm ks → sortedS ys = true → H p = none → Q (.ref p) (upd H p (.lst (ys.map V.str)))
theorem call_sortD {X : Cx} (hc : X.calm = true) : CallR X (.builtin "sorted") rSortD := call_sortedD hc
section
variable {K : PySem.W.Frag} {H : Hp} {a b : Addr} {ka kb : List (Key × V)} {Q : VK}
theorem x_sortD {ks : List Str} (h : H a = some (.dK ka)) (hk : ka.map (·.1) = ks.map Sum.inr) (hl : ks.length < 64) (q : ∀ ys p H', ys.Perm ks → sortedS ys = true → H p = none → Ex H H' → H' p = some (.lst (ys.map V.str)) → Q (.ref p) H') : rSortD [.ref a] H Q :=
  ⟨a, ka, ks, rfl, .inl h, hk, hl, fun ys p h1 h2 h3 => q ys p _ h1 h2 h3 (Ex.new h3) upd_same⟩
theorem x_isDict (h : H a = some (.dK ka)) (q : Q (.bl true) H) : rIsiU K [.ref a, .ty "dict"] H Q := .inl ⟨_, _, .type "dict", .type "dict", true, rfl, .ty _, .base (.dK h), rfl, q⟩
theorem x_eqDA (h1 : H a = some (.dK ka)) (h2 : H b = some (.dK kb)) (hl : ka.length = kb.length) (hp : ∀ p ∈ ka, valV kb p.1 = some p.2 ∧ flatB p.2 = true) (q : Q (.bl true) H) : rEqDA (.ref a) (.ref b) H Q := ⟨a, b, ka, kb, rfl, rfl, h1, h2, hl, hp, q⟩
end
end FB
set_option Elab.async false
set_option linter.all false
set_option maxRecDepth 100000
set_option maxHeartbeats 4000000
/-! Arrivals: who joins a queue, whose boat departs. -/
namespace FB
open PySem PySem.Spec PyProof.Rows L2 Evl
/-- queues of what waits -/
abbrev QsA (α : Type) := List (List α)
abbrev Qs := QsA Int
/-- what happens: a boat with its passengers (.inl), one who finishes (.inr) -/
abbrev EvsA (α : Type) := List (Key × List α)
abbrev Evs := EvsA Int
abbrev Dep (α : Type) := QsA α → Nat → QsA α × EvsA α
section
variable {α : Type} [Inhabited α]
def joinW (N : Net) (dep : Dep α) (qs : QsA α) (j : Nat) (p : α) : QsA α × EvsA α :=
  if (qs.getD j [] ++ [p]).length = (N.getD j []).length then dep (qs.set j (qs.getD j [] ++ [p])) j else (qs.set j (qs.getD j [] ++ [p]), [])
def moveW (N : Net) (dep : Dep α) : List (Key × α) → QsA α → QsA α × EvsA α
  | [], qs => (qs, [])
  | (.inr z, p) :: r, qs => ((moveW N dep r qs).1, (.inr z, [p]) :: (moveW N dep r qs).2)
  | (.inl j, p) :: r, qs => ((moveW N dep r (joinW N dep qs j.toNat p).1).1, (joinW N dep qs j.toNat p).2 ++ (moveW N dep r (joinW N dep qs j.toNat p).1).2)
/-- f: how many stations are left at most -/
def departW (N : Net) : Nat → Dep α
  | 0 => fun qs _ => (qs, [])
  | f + 1 => fun qs st => ((moveW N (departW N f) ((N.getD st []).zip (qs.getD st [])) (qs.set st [])).1, (.inl (st : Int), qs.getD st []) :: (moveW N (departW N f) ((N.getD st []).zip (qs.getD st [])) (qs.set st [])).2)
/-- who finishes -/
def finOf : EvsA α → List (Str × α)
  | [] => []
  | (.inl _, _) :: r => finOf r
  | (.inr z, ps) :: r => (z, ps.headD default) :: finOf r
theorem finOf_append : ∀ {a b : EvsA α}, finOf (a ++ b) = finOf a ++ finOf b
  | [], _ => rfl
  | (.inl _, _) :: r, b => finOf_append (a := r)
  | (.inr z, ps) :: r, b => congrArg ((z, ps.headD default) :: ·) (finOf_append (a := r))
theorem moveW_append {N : Net} {dep : Dep α} : ∀ {a b : List (Key × α)} {qs : QsA α}, moveW N dep (a ++ b) qs = ((moveW N dep b (moveW N dep a qs).1).1, (moveW N dep a qs).2 ++ (moveW N dep b (moveW N dep a qs).1).2)
  | [], b, qs => rfl
  | (.inr z, p) :: r, b, qs => by
    show ((moveW N dep (r ++ b) qs).1, (.inr z, [p]) :: (moveW N dep (r ++ b) qs).2) = _
    rw [moveW_append]; rfl
  | (.inl j, p) :: r, b, qs => by
    show ((moveW N dep (r ++ b) (joinW N dep qs j.toNat p).1).1, (joinW N dep qs j.toNat p).2 ++ (moveW N dep (r ++ b) (joinW N dep qs j.toNat p).1).2) = _
    rw [moveW_append]
    show (_, (joinW N dep qs j.toNat p).2 ++ (_ ++ _)) = (_, ((joinW N dep qs j.toNat p).2 ++ _) ++ _)
    rw [List.append_assoc]; rfl
/-- one move more -/
theorem moveW_snoc {N : Net} {dep : Dep α} {a : List (Key × α)} {k : Key} {p : α} {qs : QsA α} : moveW N dep (a ++ [(k, p)]) qs = ((moveW N dep [(k, p)] (moveW N dep a qs).1).1, (moveW N dep a qs).2 ++ (moveW N dep [(k, p)] (moveW N dep a qs).1).2) := moveW_append
theorem move_one_r {N : Net} {dep : Dep α} {z : Str} {p : α} {qs : QsA α} : moveW N dep [(.inr z, p)] qs = (qs, [(.inr z, [p])]) := rfl
theorem move_one_l {N : Net} {dep : Dep α} {j : Int} {p : α} {qs : QsA α} : moveW N dep [(.inl j, p)] qs = joinW N dep qs j.toNat p := by
  show (_, (joinW N dep qs j.toNat p).2 ++ []) = _
  rw [List.append_nil]; rfl
/-- each queue is shorter than its boat -/
structure Short (N : Net) (qs : QsA α) : Prop where
  len : qs.length = N.length
  lt : ∀ k, k < N.length → (qs.getD k []).length < (N.getD k []).length
/-- seats lead to later stations that there are -/
def Fw (N : Net) : Prop := ∀ i, i < N.length → ∀ j : Int, (.inl j : Key) ∈ N.getD i [] → (i : Int) < j ∧ j < N.length
theorem getD_set' {l : QsA α} {i j : Nat} {x : List α} (h : i < l.length) : (l.set i x).getD j [] = if j = i then x else l.getD j [] := by
  rw [List.getD_eq_getElem?_getD, List.getElem?_set]
  by_cases e : i = j
  · subst e
    rw [if_pos rfl, if_pos rfl, if_pos h]; rfl
  · rw [if_neg e, if_neg (fun z => e z.symm), ← List.getD_eq_getElem?_getD]
/-- a departure from st on is sound: what it asks, what it leaves -/
def DepOk (N : Net) (f : Nat) (dep : Dep α) : Prop := ∀ qs st, N.length ≤ st + f → st < N.length → qs.length = N.length → (∀ k, k < N.length → k ≠ st → (qs.getD k []).length < (N.getD k []).length) → (qs.getD st []).length ≤ (N.getD st []).length → 1 ≤ (N.getD st []).length →
  Short N (dep qs st).1 ∧ ∀ k, k < st → (dep qs st).1.getD k [] = qs.getD k []
theorem joinW_ok {N : Net} {f : Nat} {dep : Dep α} (h1 : ∀ k, k < N.length → 1 ≤ (N.getD k []).length) (hd : DepOk N f dep) {qs : QsA α} {j : Nat} {p : α} (S : Short N qs) (hj : j < N.length) (hf : N.length ≤ j + f) : Short N (joinW N dep qs j p).1 ∧ ∀ k, k < j → (joinW N dep qs j p).1.getD k [] = qs.getD k [] := by
  have hjl : j < qs.length := by rw [S.len]; exact hj
  have lt := S.lt j hj
  unfold joinW
  split
  · rename_i e
    have q := hd (qs.set j (qs.getD j [] ++ [p])) j hf hj (by rw [List.length_set]; exact S.len) (fun k hk hne => by rw [getD_set' hjl, if_neg hne]; exact S.lt k hk) (by rw [getD_set' hjl, if_pos rfl]; omega) (h1 j hj)
    exact ⟨q.1, fun k hk => by rw [q.2 k hk, getD_set' hjl, if_neg (by omega)]⟩
  · rename_i e
    refine ⟨⟨by rw [List.length_set]; exact S.len, fun k hk => ?_⟩, fun k hk => by rw [getD_set' hjl, if_neg (by omega)]⟩
    rw [getD_set' hjl]
    split
    · rename_i e2
      subst e2
      have e3 : (qs.getD k [] ++ [p]).length = (qs.getD k []).length + 1 := by simp
      omega
    · exact S.lt k hk
theorem moveW_ok {N : Net} {f : Nat} {dep : Dep α} (h1 : ∀ k, k < N.length → 1 ≤ (N.getD k []).length) (hd : DepOk N f dep) {st : Nat} (hf : N.length ≤ st + 1 + f) : ∀ {ms : List (Key × α)} {qs : QsA α}, (∀ m ∈ ms, ∀ j : Int, m.1 = .inl j → (st : Int) < j ∧ j < N.length) → Short N qs →
    Short N (moveW N dep ms qs).1 ∧ ∀ k, k ≤ st → (moveW N dep ms qs).1.getD k [] = qs.getD k []
  | [], qs, _, S => ⟨S, fun _ _ => rfl⟩
  | (.inr z, p) :: r, qs, hm, S => moveW_ok h1 hd hf (ms := r) (fun m h => hm m (List.mem_cons_of_mem _ h)) S
  | (.inl j, p) :: r, qs, hm, S => by
    obtain ⟨a, b⟩ := hm _ (List.mem_cons_self ..) j rfl
    obtain ⟨S1, K1⟩ := joinW_ok h1 hd (p := p) S (j := j.toNat) (by omega) (by omega)
    obtain ⟨S2, K2⟩ := moveW_ok h1 hd hf (ms := r) (fun m h => hm m (List.mem_cons_of_mem _ h)) S1
    exact ⟨S2, fun k hk => by
      show (moveW N dep r (joinW N dep qs j.toNat p).1).1.getD k [] = _
      rw [K2 k hk, K1 k (by omega)]⟩
theorem departW_ok {N : Net} (h1 : ∀ k, k < N.length → 1 ≤ (N.getD k []).length) (fw : Fw N) : ∀ f, DepOk N f (departW (α := α) N f)
  | 0 => fun qs st h1 h2 => by omega
  | f + 1 => fun qs st hf hst hl hs hs2 h1s => by
    have hql : st < qs.length := by rw [hl]; exact hst
    have S0 : Short N (qs.set st []) := ⟨by rw [List.length_set]; exact hl, fun k hk => by
      rw [getD_set' hql]
      split
      · rename_i e; subst e; exact h1s
      · rename_i e; exact hs k hk e⟩
    obtain ⟨S1, K1⟩ := moveW_ok h1 (departW_ok h1 fw f) (st := st) (by omega) (ms := (N.getD st []).zip (qs.getD st [])) (fun m hm j e => fw st hst j (by rw [← e]; exact (List.of_mem_zip hm).1)) S0
    exact ⟨S1, fun k hk => by
      show (moveW N (departW N f) _ _).1.getD k [] = _
      rw [K1 k (by omega), getD_set' hql, if_neg (by omega)]⟩
/-! ### nobody is lost -/
theorem flat_set {x y : List α} : ∀ {qs : QsA α} {j : Nat}, qs[j]? = some x → ∃ a b, qs.flatten = a ++ x ++ b ∧ (qs.set j y).flatten = a ++ y ++ b
  | [], j, h => by simp at h
  | q :: qs, 0, h => by
    have e : q = x := by simpa using h
    subst e
    exact ⟨[], qs.flatten, by simp, by simp⟩
  | q :: qs, j + 1, h => by
    obtain ⟨a, b, h1, h2⟩ := flat_set (qs := qs) (j := j) (x := x) (y := y) (by simpa using h)
    exact ⟨q ++ a, b, by simp [h1], by simp [h2]⟩
theorem getD_some {qs : QsA α} {j : Nat} (h : j < qs.length) : qs[j]? = some (qs.getD j []) := by simp [List.getD_eq_getElem?_getD, h]
/-- who waits or has finished afterwards has waited before -/
def DepPm (N : Net) (dep : Dep α) : Prop := ∀ qs st, st < qs.length → qs.length = N.length → (qs.getD st []).length ≤ (N.getD st []).length → (dep qs st).1.length = qs.length ∧ ((dep qs st).1.flatten ++ (finOf (dep qs st).2).map (·.2)).Perm qs.flatten
theorem set_perm {qs : QsA α} {j : Nat} {p : α} (h : j < qs.length) : ((qs.set j (qs.getD j [] ++ [p])).flatten).Perm (qs.flatten ++ [p]) := by
  obtain ⟨a, b, h1, h2⟩ := flat_set (y := qs.getD j [] ++ [p]) (getD_some h)
  rw [h1, h2]
  simp only [List.append_assoc]
  refine List.Perm.append_left _ (List.Perm.append_left _ ?_)
  exact List.perm_append_comm
theorem joinW_pm {N : Net} {dep : Dep α} (hd : DepPm N dep) {qs : QsA α} {j : Nat} {p : α} (h : j < qs.length) (hl : qs.length = N.length) : (joinW N dep qs j p).1.length = qs.length ∧ ((joinW N dep qs j p).1.flatten ++ (finOf (joinW N dep qs j p).2).map (·.2)).Perm (qs.flatten ++ [p]) := by
  unfold joinW
  split
  · rename_i e
    obtain ⟨a, b⟩ := hd (qs.set j (qs.getD j [] ++ [p])) j (by rw [List.length_set]; exact h) (by rw [List.length_set]; exact hl) (by rw [getD_set' h, if_pos rfl]; omega)
    exact ⟨by rw [a, List.length_set], b.trans (set_perm h)⟩
  · exact ⟨by rw [List.length_set], by simpa [finOf] using set_perm (p := p) h⟩
theorem moveW_pm {N : Net} {dep : Dep α} (hd : DepPm N dep) : ∀ {ms : List (Key × α)} {qs : QsA α}, (∀ m ∈ ms, ∀ j : Int, m.1 = .inl j → j.toNat < qs.length) → qs.length = N.length → (moveW N dep ms qs).1.length = qs.length ∧ ((moveW N dep ms qs).1.flatten ++ (finOf (moveW N dep ms qs).2).map (·.2)).Perm (qs.flatten ++ ms.map (·.2))
  | [], qs, _, _ => ⟨rfl, by simp [moveW, finOf]⟩
  | (.inr z, p) :: r, qs, hm, hl => by
    obtain ⟨a, b⟩ := moveW_pm hd (ms := r) (qs := qs) (fun m h => hm m (List.mem_cons_of_mem _ h)) hl
    refine ⟨a, ?_⟩
    show ((moveW N dep r qs).1.flatten ++ p :: (finOf (moveW N dep r qs).2).map (·.2)).Perm (qs.flatten ++ p :: r.map (·.2))
    exact (List.perm_middle.trans (b.cons p)).trans List.perm_middle.symm
  | (.inl j, p) :: r, qs, hm, hl => by
    obtain ⟨a1, b1⟩ := joinW_pm (N := N) hd (p := p) (hm _ (List.mem_cons_self ..) j rfl) hl
    obtain ⟨a2, b2⟩ := moveW_pm hd (ms := r) (qs := (joinW N dep qs j.toNat p).1) (fun m h j' e => by rw [a1]; exact hm m (List.mem_cons_of_mem _ h) j' e) (a1.trans hl)
    refine ⟨a2.trans a1, ?_⟩
    show ((moveW N dep r (joinW N dep qs j.toNat p).1).1.flatten ++ (finOf ((joinW N dep qs j.toNat p).2 ++ (moveW N dep r (joinW N dep qs j.toNat p).1).2)).map (·.2)).Perm (qs.flatten ++ p :: r.map (·.2))
    rw [finOf_append, List.map_append]
    generalize (moveW N dep r (joinW N dep qs j.toNat p).1).1.flatten = X at b2
    generalize (finOf (moveW N dep r (joinW N dep qs j.toNat p).1).2).map (·.2) = Y at b2
    generalize (joinW N dep qs j.toNat p).1.flatten = Z at b1 b2
    generalize (finOf (joinW N dep qs j.toNat p).2).map (·.2) = U at b1
    have e1 : (X ++ (U ++ Y)).Perm (U ++ (X ++ Y)) := by
      rw [← List.append_assoc, ← List.append_assoc]
      exact List.Perm.append_right _ List.perm_append_comm
    have e2 : (U ++ (X ++ Y)).Perm (U ++ (Z ++ r.map (·.2))) := List.Perm.append_left _ b2
    have e3 : (U ++ (Z ++ r.map (·.2))).Perm ((Z ++ U) ++ r.map (·.2)) := by
      rw [← List.append_assoc]
      exact List.Perm.append_right _ List.perm_append_comm
    have e4 : ((Z ++ U) ++ r.map (·.2)).Perm ((qs.flatten ++ [p]) ++ r.map (·.2)) := List.Perm.append_right _ b1
    have e5 : (qs.flatten ++ [p]) ++ r.map (·.2) = qs.flatten ++ p :: r.map (·.2) := by simp
    rw [← e5]
    exact ((e1.trans e2).trans e3).trans e4
theorem zip_snd : ∀ {a : List Key} {b : List α}, b.length ≤ a.length → (a.zip b).map (·.2) = b
  | _, [], _ => by simp
  | [], _ :: _, h => by simp at h
  | x :: a, y :: b, h => by
    rw [List.zip_cons_cons, List.map_cons, zip_snd (by simpa using h)]
theorem departW_pm {N : Net} (fw : Fw N) : ∀ f, DepPm N (departW (α := α) N f)
  | 0 => fun qs st _ _ _ => ⟨rfl, by simp [departW, finOf]⟩
  | f + 1 => fun qs st hst hl hs => by
    obtain ⟨a, b⟩ := moveW_pm (departW_pm fw f) (ms := (N.getD st []).zip (qs.getD st [])) (qs := qs.set st []) (fun m hm j e => by
      have := fw st (by omega) j (by rw [← e]; exact (List.of_mem_zip hm).1)
      rw [List.length_set]; omega) (by rw [List.length_set]; exact hl)
    refine ⟨by show (moveW N (departW N f) _ _).1.length = _; rw [a, List.length_set], ?_⟩
    show ((moveW (α := α) N (departW N f) ((N.getD st []).zip (qs.getD st [])) (qs.set st [])).1.flatten ++ (finOf (α := α) (moveW N (departW N f) ((N.getD st []).zip (qs.getD st [])) (qs.set st [])).2).map (fun x : Str × α => x.2)).Perm _
    refine b.trans ?_
    rw [zip_snd hs]
    obtain ⟨u, v, h1, h2⟩ := flat_set (y := []) (getD_some hst)
    rw [h1, h2]
    simp only [List.append_nil, List.append_assoc]
    exact List.Perm.append_left _ List.perm_append_comm
end
/-! ### the queues as lists in a list -/
structure QsAt (K : PySem.W.Frag) (H : Hp) (Qa : Addr) (as : List Addr) (qs : Qs) : Prop where
  at_ : H Qa = some (.lst (as.map V.ref))
  len : as.length = qs.length
  nd : as.Nodup
  ne : Qa ∉ as
  q : ∀ (i : Nat) a, as[i]? = some a → H a = some (.lst ((qs.getD i []).map V.int))
def fpD (p : Str × Int) : PyData := .tuple [.str p.1, .int p.2]
theorem fpD_t (p : Str × Int) : TupD (fpD p) := .tup fun d hd => by
  simp only [List.mem_cons, List.not_mem_nil, or_false] at hd
  rcases hd with rfl | rfl
  · exact .str _
  · exact .int _
structure FinAt (K : PySem.W.Frag) (H : Hp) (Fa : Addr) (fs : List (Str × Int)) : Prop where
  ex : ∃ ts, H Fa = some (.lst ts) ∧ DpAll K H ts (fs.map fpD)
section
variable {K : PySem.W.Frag} {H H2 : Hp} {Qa Fa a : Addr} {as : List Addr} {qs : Qs} {fs : List (Str × Int)} {j : Nat} {y : List Int}
theorem QsAt.ex (W : QsAt K H Qa as qs) (e : Ex H H2) : QsAt K H2 Qa as qs := ⟨e _ _ W.at_, W.len, W.nd, W.ne, fun i a h => e _ _ (W.q i a h)⟩
theorem QsAt.but (W : QsAt K H Qa as qs) (e : ∀ x o, x ≠ a → H x = some o → H2 x = some o) (h1 : Qa ≠ a) (h2 : a ∉ as) : QsAt K H2 Qa as qs :=
  ⟨e _ _ h1 W.at_, W.len, W.nd, W.ne, fun i b h => e _ _ (fun z => h2 (by rw [← z]; exact List.mem_of_getElem? h)) (W.q i b h)⟩
theorem QsAt.set (W : QsAt K H Qa as qs) (ha : as[j]? = some a) (e : ∀ x o, x ≠ a → H x = some o → H2 x = some o) (h2 : H2 a = some (.lst (y.map V.int))) : QsAt K H2 Qa as (qs.set j y) := by
  have hj : j < qs.length := by rw [← W.len]; exact (List.getElem?_eq_some_iff.mp ha).1
  refine ⟨e _ _ (fun z => W.ne (by rw [z]; exact List.mem_of_getElem? ha)) W.at_, by rw [List.length_set]; exact W.len, W.nd, W.ne, fun i b h => ?_⟩
  rw [getD_set' hj]
  by_cases z : i = j
  · subst z
    rw [ha] at h
    cases h
    rw [if_pos rfl, h2]
  · rw [if_neg z]
    refine e _ _ (fun z2 => z ?_) (W.q i b h)
    subst z2
    have hi := (List.getElem?_eq_some_iff.mp h).1
    exact (List.getElem?_inj hi W.nd).mp (by rw [h, ha])
theorem FinAt.tx (W : FinAt K H Fa fs) (t : TX H H2) (h : ∀ o, H Fa = some o → H2 Fa = some o) : FinAt K H2 Fa fs := by
  obtain ⟨ts, h1, h2⟩ := W.ex
  exact ⟨⟨ts, h _ h1, DpAll.tx t h2 fun d hd => by
    obtain ⟨p, _, rfl⟩ := List.mem_map.mp hd
    exact fpD_t p⟩⟩
theorem FinAt.e (W : FinAt K H Fa fs) (e : Ex H H2) : FinAt K H2 Fa fs := W.tx (TX.of e) fun o h => e _ _ h
theorem QsAt.get (W : QsAt K H Qa as qs) (hj : j < qs.length) : ∃ a, as[j]? = some a ∧ H a = some (.lst ((qs.getD j []).map V.int)) ∧ a ∈ as := by
  have hj2 : j < as.length := by rw [W.len]; exact hj
  exact ⟨as[j], List.getElem?_eq_getElem hj2, W.q j _ (List.getElem?_eq_getElem hj2), List.getElem_mem hj2⟩
/-- all but the queues and the list of who finished stand -/
def Ex3 (as : List Addr) (Fa : Addr) (H H' : Hp) : Prop := ∀ x o, H x = some o → x ≠ Fa → x ∉ as → H' x = some o
theorem Ex3.tx (e : Ex3 as Fa H H2) (W : QsAt K H Qa as qs) (F : FinAt K H Fa fs) : TX H H2 := fun x o h c => by
  obtain ⟨ts, h1, _⟩ := F.ex
  refine e x o h (fun z => by subst z; rw [h1] at h; cases h; exact c) fun z => ?_
  obtain ⟨i, hi⟩ := List.mem_iff_getElem?.mp z
  rw [W.q i x hi] at h
  cases h
  exact c
end
theorem pm_len {a b c : Qs × Evs} {q : Qs} {x : List Int} (h : (a.1.flatten ++ (finOf a.2).map (·.2)).Perm x) : a.1.flatten.length + (finOf a.2).length = x.length := by
  have := h.length_eq
  rw [List.length_append, List.length_map] at this
  exact this
theorem shInts (ns : List Int) : SeqAt.shaped (.list (ns.map PyData.int)) = true := by
  have h1 : PyData.canLayAll0 (ns.map PyData.int) = true := layAll fun d hd => by
    obtain ⟨i, _, rfl⟩ := List.mem_map.mp hd; rfl
  have h2 : PyData.depthAll (ns.map PyData.int) ≤ 1 := depthAll_le fun d hd => by
    obtain ⟨i, _, rfl⟩ := List.mem_map.mp hd; simp [PyData.depth]
  have h3 : (PyData.list (ns.map PyData.int)).depth ≤ 64 := by rw [PyData.depth]; omega
  unfold SeqAt.shaped
  rw [show (PyData.list (ns.map PyData.int)).canLay0 = true by rw [PyData.canLay0]; exact h1]
  simpa using h3
theorem eqv_empty (ns : List Int) : PyData.eqv (.list (ns.map PyData.int)) (.list []) = decide (ns = []) := by
  cases ns with
  | nil => simp [PyData.eqv, PyData.eqvAll]
  | cons a r => simp [PyData.eqv, PyData.eqvAll]
section
variable {K : PySem.W.Frag} {H H2 : Hp} {Qa Fa a h b : Addr} {as : List Addr} {qs : Qs} {fs : List (Str × Int)} {Q : VK} {q : List Int}
theorem QsAt.ex2 (W : QsAt K H Qa as qs) (e : Ex2 h b H H2) (h1 : Qa ≠ h ∧ Qa ≠ b) (h2 : ∀ a ∈ as, a ≠ h ∧ a ≠ b) : QsAt K H2 Qa as qs :=
  ⟨e _ _ W.at_ h1.1 h1.2, W.len, W.nd, W.ne, fun i a ha => have z := h2 a (List.mem_of_getElem? ha); e _ _ (W.q i a ha) z.1 z.2⟩
/-- x != [], a list of ints -/
theorem x_neEmpty (h1 : H a = some (.lst (q.map V.int))) (k : ∀ H', Ex H H' → Q (.bl (!decide (q = []))) H') : rLst [] H (fun y H1 => rNeU K (.ref a) y H1 Q) :=
  x_lst (by simp) fun p H1 np e hp => x_neD (.lst (SqL.of (e _ _ h1)) (ints_dp q)) (.lst (SqL.of hp) .nil) (shInts q) rfl (by rw [eqv_empty]; exact k H1 e)
end
end FB
set_option Elab.async false
set_option linter.all false
set_option maxRecDepth 100000
set_option maxHeartbeats 4000000
/-! Queues as tuples in a list, and the list of what happens. -/
namespace FB
open PySem PySem.Spec PyProof.Rows L2 Evl
section
variable {K : PySem.W.Frag} {H H' H2 : Hp} {a b Qa Ea x : Addr} {xs ys : List V}
theorem walk_zipM : Walk (RZ.ItzT K a b) (min xs.length ys.length) (fun H => SqT K H a xs ∧ SqT K H b ys) (YPair (fun i => xs[i]?) (fun i => ys[i]?)) := by
  refine ⟨fun i _ hi q => ?_, fun _ q => ⟨xs, ys, q.1, q.2, by omega⟩, fun i H v H' _ q y => ?_⟩
  · have h1 : i < xs.length := by omega
    have h2 : i < ys.length := by omega
    exact ⟨xs, ys, xs[i], ys[i], q.1, q.2, by simp [h1], by simp [h2]⟩
  · obtain ⟨T, x, z, h1, h2, h3, h4, h5⟩ := y
    exact ⟨T, x, z, h1, h2, h3, h4 xs q.1, h5 ys q.2⟩
theorem DpAll.set : ∀ {vs : List V} {ds : List PyData} {i : Nat} {v : V} {d : PyData}, DpAll K H vs ds → Dp K H v d → DpAll K H (vs.set i v) (ds.set i d)
  | _, _, _, _, _, .nil, _ => .nil
  | _, _, 0, _, _, .cons _ hs, h => .cons h hs
  | _, _, _ + 1, _, _, .cons h0 hs, h => .cons h0 (DpAll.set hs h)
section
variable {α : Type} [Inhabited α]
/-- what each passenger is, as data -/
structure PD (pd : α → PyData) : Prop where
  t : ∀ a, TupD (pd a)
def qA (pd : α → PyData) (q : List α) : PyData := .tuple (q.map pd)
def evA (pd : α → PyData) (e : Key × List α) : PyData := .tuple [keyD e.1, qA pd e.2]
variable {pd : α → PyData} {qs : QsA α} {es : EvsA α}
theorem qA_t (h : PD pd) (q : List α) : TupD (qA pd q) := .tup fun d hd => by
  obtain ⟨k, _, rfl⟩ := List.mem_map.mp hd
  exact h.t k
theorem evA_t (h : PD pd) (e : Key × List α) : TupD (evA pd e) := .tup fun d hd => by
  simp only [List.mem_cons, List.not_mem_nil, or_false] at hd
  rcases hd with rfl | rfl
  · exact keyD_t _
  · exact qA_t h _
/-- data in a list -/
structure LsAt (K : PySem.W.Frag) (H : Hp) (a : Addr) (ds : List PyData) : Prop where
  ex : ∃ ts, H a = some (.lst ts) ∧ DpAll K H ts ds
theorem LsAt.tx {ds : List PyData} (W : LsAt K H a ds) (td : ∀ d ∈ ds, TupD d) (t : TX H H2) (h : ∀ o, H a = some o → H2 a = some o) : LsAt K H2 a ds := by
  obtain ⟨ts, h1, h2⟩ := W.ex
  exact ⟨⟨ts, h _ h1, DpAll.tx t h2 td⟩⟩
theorem LsAt.ex2 {ds : List PyData} (W : LsAt K H a ds) (e : Ex H H2) : LsAt K H2 a ds := by
  obtain ⟨ts, h1, h2⟩ := W.ex
  exact ⟨⟨ts, e _ _ h1, DpAll.ex e h2⟩⟩
abbrev QtAt (K : PySem.W.Frag) (H : Hp) (Qa : Addr) (pd : α → PyData) (qs : QsA α) : Prop := LsAt K H Qa (qs.map (qA pd))
abbrev EvAt (K : PySem.W.Frag) (H : Hp) (Ea : Addr) (pd : α → PyData) (es : EvsA α) : Prop := LsAt K H Ea (es.map (evA pd))
theorem qs_t (h : PD pd) : ∀ d ∈ qs.map (qA pd), TupD d := fun d hd => by
  obtain ⟨q, _, rfl⟩ := List.mem_map.mp hd
  exact qA_t h q
theorem es_t (h : PD pd) : ∀ d ∈ es.map (evA pd), TupD d := fun d hd => by
  obtain ⟨q, _, rfl⟩ := List.mem_map.mp hd
  exact evA_t h q
theorem QtAt.get (W : QtAt K H Qa pd qs) {j : Nat} (hj : j < qs.length) : ∃ ts b vs, H Qa = some (.lst ts) ∧ DpAll K H ts (qs.map (qA pd)) ∧ ts[j]? = some (.ref b) ∧ SqT K H b vs ∧ DpAll K H vs ((qs.getD j []).map pd) := by
  obtain ⟨ts, h1, h2⟩ := W.ex
  obtain ⟨v, hv, hd⟩ := h2.get (show (qs.map (qA pd))[j]? = some (qA pd (qs.getD j [])) by simp [List.getD_eq_getElem?_getD, hj])
  obtain ⟨b, vs, rfl, h3, h4⟩ := Dp.tup_inv hd
  exact ⟨ts, b, vs, h1, h2, hv, h3, h4⟩
/-! ### how much happens -/
/-- everybody's way still to go, twice -/
def wayW (n : Nat) : Nat → QsA α → Nat
  | _, [] => 0
  | k, q :: r => q.length * (2 * (n - k)) + wayW n (k + 1) r
theorem wayW_set {n : Nat} : ∀ {qs : QsA α} {k j : Nat} {q : List α}, j < qs.length → wayW n k (qs.set j q) + (qs.getD j []).length * (2 * (n - (k + j))) = wayW n k qs + q.length * (2 * (n - (k + j)))
  | [], _, _, _, h => by simp at h
  | q0 :: r, k, 0, q, _ => by
    show q.length * (2 * (n - k)) + wayW n (k + 1) r + q0.length * (2 * (n - (k + 0))) = q0.length * (2 * (n - k)) + wayW n (k + 1) r + q.length * (2 * (n - (k + 0)))
    simp only [Nat.add_zero]; omega
  | q0 :: r, k, j + 1, q, h => by
    have ih := wayW_set (n := n) (qs := r) (k := k + 1) (j := j) (q := q) (by simpa using h)
    show q0.length * (2 * (n - k)) + wayW n (k + 1) (r.set j q) + (r.getD j []).length * (2 * (n - (k + (j + 1)))) = q0.length * (2 * (n - k)) + wayW n (k + 1) r + q.length * (2 * (n - (k + (j + 1))))
    have e : k + (j + 1) = k + 1 + j := by omega
    rw [e]; omega
theorem wayW_le {n : Nat} : ∀ {qs : QsA α} {k : Nat}, wayW n k qs ≤ qs.flatten.length * (2 * n)
  | [], _ => by simp [wayW]
  | q :: r, k => by
    show q.length * (2 * (n - k)) + wayW n (k + 1) r ≤ _
    have h1 := wayW_le (n := n) (qs := r) (k := k + 1)
    have h2 : q.length * (2 * (n - k)) ≤ q.length * (2 * n) := Nat.mul_le_mul_left _ (by omega)
    rw [List.flatten_cons, List.length_append, Nat.add_mul]
    omega
/-- what a departure costs at most -/
def DepW (N : Net) (f : Nat) (dep : Dep α) : Prop := ∀ qs st, qs.length = N.length → st < N.length → N.length ≤ st + f → 1 ≤ (qs.getD st []).length → wayW N.length 0 (dep qs st).1 + (dep qs st).2.length ≤ wayW N.length 0 qs ∧ (dep qs st).1.length = qs.length
theorem joinW_way {N : Net} {f : Nat} {dep : Dep α} (hd : DepW N f dep) {qs : QsA α} {j : Nat} {p : α} (hl : qs.length = N.length) (hj : j < N.length) (hf : N.length ≤ j + f) : wayW N.length 0 (joinW N dep qs j p).1 + (joinW N dep qs j p).2.length ≤ wayW N.length 0 qs + 2 * (N.length - j) ∧ (joinW N dep qs j p).1.length = qs.length := by
  have h0 := wayW_set (n := N.length) (qs := qs) (k := 0) (j := j) (q := qs.getD j [] ++ [p]) (by omega)
  rw [List.length_append, show [p].length = 1 from rfl, Nat.add_mul, Nat.zero_add, Nat.one_mul] at h0
  unfold joinW
  split
  · obtain ⟨a, b⟩ := hd (qs.set j (qs.getD j [] ++ [p])) j (by rw [List.length_set]; exact hl) hj hf (by rw [getD_set' (by omega), if_pos rfl]; simp)
    refine ⟨?_, by rw [b, List.length_set]⟩
    omega
  · refine ⟨?_, by rw [List.length_set]⟩
    show wayW N.length 0 (qs.set j (qs.getD j [] ++ [p])) + 0 ≤ _
    omega
theorem moveW_way {N : Net} {f : Nat} {dep : Dep α} (hd : DepW N f dep) {st : Nat} (hf : N.length ≤ st + 1 + f) (hst : st < N.length) : ∀ {ms : List (Key × α)} {qs : QsA α}, (∀ m ∈ ms, ∀ j : Int, m.1 = .inl j → (st : Int) < j ∧ j < N.length) → qs.length = N.length →
    wayW N.length 0 (moveW N dep ms qs).1 + (moveW N dep ms qs).2.length + ms.length ≤ wayW N.length 0 qs + ms.length * (2 * (N.length - st)) ∧ (moveW N dep ms qs).1.length = qs.length
  | [], qs, _, _ => by simp [moveW]
  | (.inr z, p) :: r, qs, hm, hl => by
    obtain ⟨a, b⟩ := moveW_way hd hf hst (ms := r) (qs := qs) (fun m h => hm m (List.mem_cons_of_mem _ h)) hl
    refine ⟨?_, b⟩
    show wayW N.length 0 (moveW N dep r qs).1 + ((moveW N dep r qs).2.length + 1) + (r.length + 1) ≤ wayW N.length 0 qs + (r.length + 1) * (2 * (N.length - st))
    rw [Nat.add_mul, Nat.one_mul]
    omega
  | (.inl j, p) :: r, qs, hm, hl => by
    obtain ⟨j1, j2⟩ := hm _ (List.mem_cons_self ..) j rfl
    obtain ⟨a1, b1⟩ := joinW_way (N := N) hd (p := p) (j := j.toNat) hl (by omega) (by omega)
    obtain ⟨a2, b2⟩ := moveW_way hd hf hst (ms := r) (qs := (joinW N dep qs j.toNat p).1) (fun m h => hm m (List.mem_cons_of_mem _ h)) (b1.trans hl)
    refine ⟨?_, b2.trans b1⟩
    show wayW N.length 0 (moveW N dep r (joinW N dep qs j.toNat p).1).1 + ((joinW N dep qs j.toNat p).2 ++ (moveW N dep r (joinW N dep qs j.toNat p).1).2).length + (r.length + 1) ≤ wayW N.length 0 qs + (r.length + 1) * (2 * (N.length - st))
    rw [List.length_append, Nat.add_mul, Nat.one_mul]
    omega
theorem departW_way {N : Net} (fw : Fw N) : ∀ f, DepW N f (departW (α := α) N f)
  | 0 => fun qs st hl hst hf _ => absurd hf (by omega)
  | f + 1 => fun qs st hl hst hf h1 => by
    obtain ⟨a, b⟩ := moveW_way (departW_way fw f) (st := st) (by omega) hst (ms := (N.getD st []).zip (qs.getD st [])) (qs := qs.set st []) (fun m hm j e => by
      exact fw st hst j (by rw [← e]; exact (List.of_mem_zip hm).1)) (by rw [List.length_set]; exact hl)
    refine ⟨?_, b.trans (List.length_set ..)⟩
    have h0 := wayW_set (n := N.length) (qs := qs) (k := 0) (j := st) (q := []) (by omega)
    rw [Nat.zero_add, List.length_nil, Nat.zero_mul] at h0
    have hz : ((N.getD st []).zip (qs.getD st [])).length ≤ (qs.getD st []).length := by rw [List.length_zip]; omega
    generalize hm : ((N.getD st []).zip (qs.getD st [])).length = m at a hz
    show wayW N.length 0 (moveW (α := α) N (departW N f) ((N.getD st []).zip (qs.getD st [])) (qs.set st [])).1 + ((moveW (α := α) N (departW N f) ((N.getD st []).zip (qs.getD st [])) (qs.set st [])).2.length + 1) ≤ _
    have hp : m * (2 * (N.length - st)) - m + 1 ≤ (qs.getD st []).length * (2 * (N.length - st)) := by
      generalize hX : 2 * (N.length - st) = X
      have hX2 : 2 ≤ X := by omega
      generalize (qs.getD st []).length = L at hz h1
      have hle : m * X ≤ L * X := Nat.mul_le_mul_right _ hz
      by_cases e : m = 0
      · subst e
        have : 1 * X ≤ L * X := Nat.mul_le_mul_right _ h1
        omega
      · have : m ≤ m * X := Nat.le_mul_of_pos_right _ (by omega)
        omega
    have hm2 : m ≤ m * (2 * (N.length - st)) := Nat.le_mul_of_pos_right _ (by omega)
    omega
/-- whoever finishes is told -/
def EvOk (es : EvsA α) : Prop := ∀ e ∈ es, ∀ z, e.1 = .inr z → e.2 ≠ []
def DepE (dep : Dep α) : Prop := ∀ qs st, EvOk (dep qs st).2
theorem EvOk.nil : EvOk ([] : EvsA α) := fun _ h => by cases h
theorem EvOk.cons {e : Key × List α} {es : EvsA α} (h1 : ∀ z, e.1 = .inr z → e.2 ≠ []) (h2 : EvOk es) : EvOk (e :: es) := fun x h => by
  rcases List.mem_cons.mp h with rfl | h
  · exact h1
  · exact h2 x h
theorem EvOk.append {a b : EvsA α} (h1 : EvOk a) (h2 : EvOk b) : EvOk (a ++ b) := fun x h => (List.mem_append.mp h).elim (h1 x) (h2 x)
theorem joinW_e {N : Net} {dep : Dep α} (h : DepE dep) (qs : QsA α) (j : Nat) (p : α) : EvOk (joinW N dep qs j p).2 := by
  unfold joinW
  split
  · exact h _ _
  · exact EvOk.nil
theorem moveW_e {N : Net} {dep : Dep α} (h : DepE dep) : ∀ (ms : List (Key × α)) (qs : QsA α), EvOk (moveW N dep ms qs).2
  | [], _ => EvOk.nil
  | (.inr z, p) :: r, qs => EvOk.cons (fun _ _ => by simp) (moveW_e h r qs)
  | (.inl j, p) :: r, qs => EvOk.append (joinW_e h qs j.toNat p) (moveW_e h r _)
theorem departW_e {N : Net} : ∀ f, DepE (departW (α := α) N f)
  | 0 => fun _ _ => EvOk.nil
  | f + 1 => fun qs st => EvOk.cons (fun z e => nomatch e) (moveW_e (departW_e f) ((N.getD st []).zip (qs.getD st [])) (qs.set st []))
/-- who finishes does so at a port of the network -/
def FinS (N : Net) (es : EvsA α) : Prop := ∀ x ∈ finOf es, ∃ k, (.inr x.1 : Key) ∈ N.getD k []
theorem FinS.append {N : Net} {a b : EvsA α} (h1 : FinS N a) (h2 : FinS N b) : FinS N (a ++ b) := fun x h => by
  rw [finOf_append] at h
  exact (List.mem_append.mp h).elim (h1 x) (h2 x)
theorem FinS.nil {N : Net} : FinS N ([] : EvsA α) := fun _ h => by cases h
def DepS (N : Net) (dep : Dep α) : Prop := ∀ qs st, FinS N (dep qs st).2
theorem joinW_s {N : Net} {dep : Dep α} (h : DepS N dep) (qs : QsA α) (j : Nat) (p : α) : FinS N (joinW N dep qs j p).2 := by
  unfold joinW
  split
  · exact h _ _
  · exact FinS.nil
theorem moveW_s {N : Net} {dep : Dep α} (h : DepS N dep) : ∀ (ms : List (Key × α)) (qs : QsA α), (∀ m ∈ ms, ∃ k, m.1 ∈ N.getD k []) → FinS N (moveW N dep ms qs).2
  | [], _, _ => FinS.nil
  | (.inr z, p) :: r, qs, hm => fun x hx => by
    rcases List.mem_cons.mp hx with rfl | hx
    · exact hm _ (List.mem_cons_self ..)
    · exact moveW_s h r qs (fun m h => hm m (List.mem_cons_of_mem _ h)) x hx
  | (.inl j, p) :: r, qs, hm => FinS.append (joinW_s h qs j.toNat p) (moveW_s h r _ fun m h => hm m (List.mem_cons_of_mem _ h))
theorem departW_s {N : Net} : ∀ f, DepS N (departW (α := α) N f)
  | 0 => fun _ _ => FinS.nil
  | f + 1 => fun qs st => fun x hx => moveW_s (departW_s f) ((N.getD st []).zip (qs.getD st [])) (qs.set st []) (fun m hm => ⟨st, (List.of_mem_zip hm).1⟩) x hx
end
end
end FB
set_option Elab.async false
set_option linter.all false
set_option maxRecDepth 100000
set_option maxHeartbeats 4000000
/-! What a caught error says of itself. -/
namespace FB
open PySem PySem.Spec PyProof.Rows L2 Evl
/-! ### list.count of flat items -/
def rCntF (K : PySem.W.Frag) : V → List V → Hp → VK → Prop := fun x xs H Q => ∃ (a : Addr) (ys : List V) (y : V), x = .ref a ∧ xs = [y] ∧ SqL K H a ys ∧ flatV y = true ∧ ys.all flatV = true ∧ Q (.int (ys.countP (fun z => eqV z y) : Nat)) H
theorem count_flat {y : V} : ∀ {ys : List V} {us : List Value}, Vals ys us → ys.all flatV = true → us.countP (eqU y) = ys.countP (fun z => eqV z y)
  | _, _, .nil, _ => rfl
  | z :: ys, u :: us, .cons r rr, f => by
    rw [List.all_cons, Bool.and_eq_true] at f
    rw [List.countP_cons, List.countP_cons, count_flat rr f.2, eqU_of r f.1]
theorem mt_countF {X : Cx} : MtR X "list.count" (rCntF X.K) := by
  intro pins s σ H x xs v us Q I rx rxs h
  obtain ⟨a, ys, y, rfl, rfl, hs, fy, fys, q⟩ := h
  cases rx
  obtain ⟨uy, rfl, ry⟩ := rxs.one
  obtain ⟨its, rv, ⟨⟨cls, dd, data, sl⟩, n, ho, hc, hdn, hd⟩, hlen⟩ := I.list hs
  cases hc
  cases hd
  refine call_meets PySem.F.slot_list_count ⟨_, ho, rfl⟩ PySem.F.entry_list_count (PySem.F.args_list_count_2 _ _)
    (SeqAt.list_countAt a its.toArray n dd sl uy (eqU y)) ⟨ho, fun u hu => mem_eqAt ry fy rv fys u (List.mem_toArray.mp hu), ?_⟩
  rw [show its.toArray.toList.countP (eqU y) = ys.countP (fun z => eqV z y) from count_flat rv fys]
  exact ⟨.int (ys.countP (fun z => eqV z y) : Nat), H, I.tok _, ⟨_, rfl⟩, q⟩
/-! ### isinstance of the caught error -/
/-- what an own error class says of itself -/
structure ErC (K : PySem.W.Frag) (D : Addr) : Prop where
  cl : (PySem.W.clsIn K D).isSome = true
  ga : PySem.W.findIn K (.ref D) "__getattribute__" = some (some (.builtin "BaseException.__getattribute__"))
  gt : PySem.W.findIn K (.ref D) "__getattr__" = some none
  sb : PySem.W.subIn K (.ref D) (.type "BaseException") = some true
  ca : PySem.W.findIn K (.ref D) "__class__" = some (some (.builtin "object.__class__"))
  sp : PySem.W.specialIn K (.builtin "object.__class__") "__get__" = some (some (.builtin "getset_descriptor.__get__"))
  tk : PySem.W.takesIn K (.builtin "object.__class__") = some true
  mr : PySem.W.mroIn K D (.type "object") = some true
/-- the error's own dict, if it has one, stands -/
def HasD (H : Hp) (d : Option Addr) : Prop := d = none ∨ ∃ dd fs, d = some dd ∧ H dd = some (.xd fs)
def rIsX (K : PySem.W.Frag) (cls : Value) (d : Option Addr) (a : Addr) : List V → Hp → VK → Prop := fun xs H Q => ∃ (c : V) (cv : Value) (b : Bool) (D : Addr), xs = [.ref a, c] ∧ (∀ u, RelV c u → u = cv) ∧ cls = .ref D ∧ ErC K D ∧ HasD H d ∧ PySem.W.kitOne K (.ref D) cv = some b ∧ Q (.bl b) H
theorem call_isX {X : Cx} {a : Addr} {oe : Obj} {cls : Value} {d : Option Addr} {pn : List (Addr × Obj)} (hz : Zc cls d oe) (hf : ∃ vs, oe.data = .fields vs) {K : PySem.W.Frag} (hK : X.K = K := by rfl) : CallR (X.suite a ((a, oe) :: pn)) (.builtin "isinstance") (rIsX K cls d a) := by
  subst hK
  intro pins s σ H xs us Q I r h
  obtain ⟨c, cv, b, D, rfl, hcv, rfl, C, hD, e, q⟩ := h
  cases r with
  | cons rx rr =>
    cases rr with
    | cons rt rr =>
      cases rr
      cases rx
      obtain rfl := hcv _ rt
      obtain ⟨ha, _⟩ := I.pin (a, oe) (List.mem_append_left _ List.mem_cons_self)
      obtain ⟨vs, hv⟩ := hf
      have nc : PySem.W.notCls oe := by unfold PySem.W.notCls; rw [hv] <;> rfl
      have J : ∃ od, PySem.W.InstAt s.heap a oe D od := by
        rcases hD with rfl | ⟨dd, fs, rfl, hx⟩
        · exact ⟨none, ha, hz.1, nc, by rw [hz.2]; trivial⟩
        · obtain ⟨mA, hns, _⟩ : ObjOk X.prog X.w H s.heap dd (.xd fs) := I.hok dd _ hx
          obtain ⟨od, ho, _⟩ := lookIn_ns hns
          exact ⟨some od, ha, hz.1, nc, by rw [hz.2]; exact ho⟩
      obtain ⟨od, J⟩ := J
      exact PySem.W.kia_one (PySem.W.kitx_exc C.cl C.ga C.gt C.sb C.ca C.sp C.tk C.mr) I.kIn J e (fun z => nomatch z) fun tk => ⟨.bl b, H, I.tok _, rfl, q⟩
/-- a stronger wish does as well; the slots are as many as the names -/
theorem pss_impI {X : Cx} {b : List Stmt} {t t' : TS} (h : PSs X b t) (k : ∀ D σ H, σ.length = X.N.length → t' D σ H → t D σ H) : PSs X b t' :=
  ⟨fun pins s σ H D I q => h.run pins s σ H D I (k D σ H I.len q)⟩
/-! ### == and != of ints and texts alone -/
section
variable {H : Hp} {Q : VK} {i j : Int} {z z2 : Str}
theorem x_rEqS : rEq (.str z) (.str z2) H Q ↔ Q (.bl (decide (z = z2))) H := by
  have e0 : decide (V.str z = V.str z2) = decide (z = z2) := by simp
  constructor
  · rintro ⟨_, h⟩; rw [e0] at h; exact h
  · exact fun h => ⟨rfl, by rw [e0]; exact h⟩
theorem x_rNeI : rNe (.int i) (.int j) H Q ↔ Q (.bl (!decide (i = j))) H := by
  have e0 : decide (V.int i = V.int j) = decide (i = j) := by simp
  constructor
  · rintro ⟨_, h⟩; rw [e0] at h; exact h
  · exact fun h => ⟨rfl, by rw [e0]; exact h⟩
end
theorem x_extend {H : Hp} {Q : VK} {l b : Addr} {xs zs : List V} (h1 : H l = some (.lst xs)) (h2 : H b = some (.lst zs)) (hl : xs.length + zs.length ≤ 1000000) (k : ∀ H', (∀ x o, x ≠ l → H x = some o → H' x = some o) → H' l = some (.lst (xs ++ zs)) → Q .non H') : rExtend (.ref l) [.ref b] H Q :=
  ⟨l, b, xs, zs, rfl, rfl, h1, h2, small hl, k _ (fun x o hx h => by rw [upd_ne hx]; exact h) upd_same⟩
/-! ### a tuple's slices -/
theorem x_cutT {K : PySem.W.Frag} {H : Hp} {Q : VK} {a : Addr} {xs : List V} {lo hi : Option Int} (h : SqT K H a xs) (k : ∀ t H', Ex H H' → SqT K H' t (cutV xs lo hi) → Q (.ref t) H') : rSlU K (.ref a) lo hi H Q :=
  .inr ⟨a, xs, rfl, h, fun ⟨e1, e2⟩ => k a H (fun _ _ h => h) (by
    have : cutV xs lo hi = xs := by
      unfold cutV
      rw [e1, e2]
      simp
    rw [this]; exact h), fun _ p hp => k p _ (Ex.new hp) (SqT.of upd_same)⟩
theorem cut_take {xs : List V} {j : Nat} (h : j ≤ xs.length) : cutV xs none (some (j : Int)) = xs.take j := by
  unfold cutV
  rw [HT.sIx_none, HT.sIx_nat, Nat.min_eq_left h]; rfl
theorem cut_drop {xs : List V} {j : Nat} (h : j ≤ xs.length) : cutV xs (some (j : Int)) none = xs.drop j := by
  unfold cutV
  rw [HT.sIx_none, HT.sIx_nat, Nat.min_eq_left h]
  exact List.take_of_length_le (by rw [List.length_drop]; omega)
/-! ### the errors -/
def kinds (i : Nat) : List V := (List.range 13).map fun j => .bl (decide (i = j))
theorem kinds_count : ∀ i, i < 13 → (kinds i).countP (fun z => eqV z (.bl true)) = 1 := by decide
theorem kinds_at : ∀ i, i < 13 → (kinds i)[i]? = some (.bl true) := by decide
theorem kinds_not : ∀ i, i < 13 → ∀ m, m < 13 → m < i → (kinds i)[m]? = some (.bl false) := by decide
/-- the words for the errors, in the order of their classes -/
def errWords : List Str := ["network", "state", "count", "station", "seat", "port", "passenger", "empty", "rates", "lengths", "passengers", "many", "contradiction"]
def errNames : List Str := ["InvalidNetwork", "InvalidState", "InvalidCount", "UnknownStation", "UnknownSeat", "UnknownPort", "UnknownPassenger", "EmptyBoat", "InvalidRates", "InvalidLengths", "InvalidPassengers", "TooManyCandidates", "Contradiction"]
theorem words_at : ∀ i, i < 13 → (errWords.map V.str)[i]? = some (.str (errWords.getD i "")) := by decide
theorem words_first : ∀ i, i < 13 → i ≠ 0 → errWords.getD i "" ≠ "network" := by decide
/-- the error classes: C i is the i-th, CF is above all -/
structure Errs (K : PySem.W.Frag) (mg : Str → Option Value) (CF : Addr) (C : Nat → Addr) : Prop where
  gF : mg "FerryError" = some (.ref CF)
  g : ∀ i, i < 13 → mg (errNames.getD i "") = some (.ref (C i))
  b_ValueError : mg "ValueError" = none
  c : ∀ i, i < 13 → ErC K (C i)
  isi : ∀ i j, i < 13 → j < 13 → PySem.W.kitOne K (.ref (C i)) (.ref (C j)) = some (decide (i = j))
  isv : ∀ i, i < 13 → PySem.W.kitOne K (.ref (C i)) (.type "ValueError") = some true
  exF : ∀ i, i < 13 → PySem.W.exmOne K (.ref (C i)) (.ref CF) = some true
  xf : XfC K (C 0)
  no_station : PySem.W.findIn K (.ref (C 0)) "station" = some none
  no_seat : PySem.W.findIn K (.ref (C 0)) "seat" = some none
/-- the i-th error, with fields if it is the first -/
def ErrIs (C : Nat → Addr) (i : Nat) (st se : V) (cls : Value) (d : Option Addr) (H : Hp) : Prop := cls = .ref (C i) ∧ (if i = 0 then ∃ dd, d = some dd ∧ H dd = some (.xd [("seat", se), ("station", st)]) else d = none)
theorem ErrIs.has {C : Nat → Addr} {i : Nat} {st se : V} {cls : Value} {d : Option Addr} {H : Hp} (h : ErrIs C i st se cls d H) : HasD H d := by
  obtain ⟨_, h⟩ := h
  split at h
  · obtain ⟨dd, rfl, hx⟩ := h; exact .inr ⟨dd, _, rfl, hx⟩
  · exact .inl h
/-- what is told of it -/
def errTell (i : Nat) (st se : V) : List V := if i = 0 then [.str "network", st, se] else [.str (errWords.getD i "")]
theorem x_isX {K : PySem.W.Frag} {mg : Str → Option Value} {CF : Addr} {C : Nat → Addr} {cls : Value} {d : Option Addr} {a : Addr} {i : Nat} {st se : V} {H0 H : Hp} {Q : VK} (R : Errs K mg CF C) (hi : i < 13) (e : ErrIs C i st se cls d H0) (f : Ex H0 H) (j : Nat) (hj : j < 13) (q : Q (.bl (decide (i = j))) H) : rIsX K cls d a [.ref a, .ref (C j)] H Q := by
  refine ⟨_, _, _, C i, rfl, fun u r => r, e.1, R.c i hi, ?_, R.isi i j hi hj, q⟩
  rcases e.has with h | ⟨dd, fs, h, hx⟩
  · exact .inl h
  · exact .inr ⟨dd, fs, h, f _ _ hx⟩
theorem x_isV {K : PySem.W.Frag} {mg : Str → Option Value} {CF : Addr} {C : Nat → Addr} {cls : Value} {d : Option Addr} {a : Addr} {i : Nat} {st se : V} {H0 H : Hp} {Q : VK} (R : Errs K mg CF C) (hi : i < 13) (e : ErrIs C i st se cls d H0) (f : Ex H0 H) (q : Q (.bl true) H) : rIsX K cls d a [.ref a, .ty "ValueError"] H Q := by
  refine ⟨_, _, _, C i, rfl, fun u r => r, e.1, R.c i hi, ?_, R.isv i hi, q⟩
  rcases e.has with h | ⟨dd, fs, h, hx⟩
  · exact .inl h
  · exact .inr ⟨dd, fs, h, f _ _ hx⟩
end FB
set_option Elab.async false
set_option linter.all false
set_option maxRecDepth 100000
set_option maxHeartbeats 1000000
/-! Tables of code objects through a law; a def whose code object is known. -/
namespace FB
open PySem PySem.Spec PyProof.Rows L2 Evl LamX
/-- all but the source of draws and the tables stands -/
def ExN (a b : Addr) (H H' : Hp) : Prop := ∀ x o, H x = some o → x ≠ a → x ≠ b → (∀ ps, o ≠ .tbl ps) → H' x = some o
section
variable {H H1 H2 : Hp} {a b : Addr} {T : List (Addr × Str)}
theorem ExN.of2 (e : Ex2 a b H H1) : ExN a b H H1 := fun x o h h1 h2 _ => e x o h h1 h2
theorem ExN.trans (e : ExN a b H H1) (f : ExN a b H1 H2) : ExN a b H H2 := fun x o h h1 h2 n => f x o (e x o h h1 h2 n) h1 h2 n
theorem ExN.ofN (e : ExtN H H1) : ExN a b H H1 := fun x o h _ _ n => e x o h n
theorem ExN.ex (e : ExN a b H H1) (f : Ex H1 H2) : ExN a b H H2 := fun x o h h1 h2 n => f x o (e x o h h1 h2 n)
theorem eqv_tell {a b : Str} : PyData.eqv (.tuple [.str a]) (.tuple [.str b]) = decide (a = b) := by
  simp only [PyData.eqv, PyData.eqvAll, Bool.and_true]
  by_cases h : a = b
  · simp [h]
  · simp [h]
theorem sh_tell {y : Str} (h : PyData.strOk y = true) : SeqAt.shaped (.tuple [.str y]) = true := by
  unfold SeqAt.shaped
  simp [PyData.canLay0, PyData.canLayAll0, PyData.depth, PyData.depthAll, h]
theorem shIntsT (ns : List Int) : SeqAt.shaped (.tuple (ns.map PyData.int)) = true := by
  have h1 : PyData.canLayAll0 (ns.map PyData.int) = true := layAll fun d hd => by
    obtain ⟨i, _, rfl⟩ := List.mem_map.mp hd; rfl
  have h2 : PyData.depthAll (ns.map PyData.int) ≤ 1 := depthAll_le fun d hd => by
    obtain ⟨i, _, rfl⟩ := List.mem_map.mp hd; simp [PyData.depth]
  have h3 : (PyData.tuple (ns.map PyData.int)).depth ≤ 64 := by rw [PyData.depth]; omega
  unfold SeqAt.shaped
  rw [show (PyData.tuple (ns.map PyData.int)).canLay0 = true by rw [PyData.canLay0]; exact h1]
  simpa using h3
theorem eqv_emptyT (ns : List Int) : PyData.eqv (.tuple (ns.map PyData.int)) (.tuple []) = decide (ns = []) := by
  cases ns with
  | nil => simp [PyData.eqv, PyData.eqvAll]
  | cons a r => simp [PyData.eqv, PyData.eqvAll]
/-- x == (), a tuple of ints -/
theorem x_eqEmptyT {K : PySem.W.Frag} {Q : VK} {x : V} {ns : List Int} (h : Dp K H x (.tuple (ns.map PyData.int))) (k : ∀ H', Ex H H' → Q (.bl (decide (ns = []))) H') : rTup [] H fun z H2 => rEqU K x z H2 Q :=
  x_tup (by simp) fun t H1 n e h1 => x_eqD (Dp.ex e h) (.tup (SqT.of h1) .nil) (shIntsT ns) rfl (by rw [eqv_emptyT]; exact k H1 e)
/-- what was told is compared -/
theorem x_tell {K : PySem.W.Frag} {Q : VK} {p : Addr} {x y : Str} (h : H p = some (.tup [.str x])) (hx : PyData.strOk x = true) (hy : PyData.strOk y = true) (k : ∀ H', Ex H H' → Q (.bl (decide (x = y))) H') : rTup [.str y] H fun z H2 => rEqU K (.ref p) z H2 Q :=
  x_tup (by simp) fun t H1 n e h1 => x_eqD (d := .tuple [.str x]) (e := .tuple [.str y]) (.tup (SqT.of (e _ _ h)) (.cons (.str x) .nil)) (.tup (SqT.of h1) (.cons (.str y) .nil)) (sh_tell hx) (sh_tell hy) (by rw [eqv_tell]; exact k H1 e)
/-- tables are neither lists -/
theorem tabs_ex2 {xs ys : List V} (ha : H a = some (.lst xs)) (hb : H b = some (.lst ys)) (t : Tabs T H) (e : Ex2 a b H H1) : Tabs T H1 := fun p hp => by
  obtain ⟨ps, h1, h2, h3⟩ := t p hp
  have ne : ∀ (x : Addr) (o : HO) (zs : List V) (y : Addr), H y = some (.lst zs) → H x = some o → o ≠ .lst zs → x ≠ y := fun x o zs y hy hx hn z => hn (by rw [z, hy] at hx; exact (Option.some.inj hx).symm)
  have cne : ∀ (c : Addr) (q : Str) (zs : List V), CodeO c q ≠ .lst zs := fun c q zs z => by unfold CodeO at z; cases z
  refine ⟨ps, e _ _ h1 (ne _ _ _ _ ha h1 (by simp)) (ne _ _ _ _ hb h1 (by simp)), h2, fun pos cv hc => ?_⟩
  obtain ⟨c, e1, e2⟩ := h3 pos cv hc
  exact ⟨c, e1, e _ _ e2 (ne _ _ _ _ ha e2 (cne _ _ _)) (ne _ _ _ _ hb e2 (cne _ _ _))⟩
theorem extN_t {K : PySem.W.Frag} {xs : List V} (e : ExtN H H1) (h : SqT K H a xs) : SqT K H1 a xs := by
  rcases h with (h | ⟨o, h⟩) | h
  · exact .inl (.inl (e _ _ h (by simp)))
  · exact .inl (.inr ⟨o, e _ _ h (by simp)⟩)
  · exact .inr h
theorem extN_tx (e : ExtN H H1) : TX H H1 := fun x o h c => e x o h (fun ps z => by rw [z] at c; exact c)
end
section
variable {P : Program} {w : World} {K : PySem.W.Frag} {mg : Str → Option Value} {base : Heap}
/-- a def of the code object c -/
theorem okC {c : Addr} {x qual : Str} {st : Stmt} {f : Addr} {fd : FuncData} {N ps : List Str} {k : Nat} {sp : Sp} (F : Fun K x qual st f fd) (hc : fd.code = .ref c) (S : FnScope N ps (defScope st)) (len : ∀ vs H Q E, sp vs H Q E → vs.length = ps.length)
    (hbody : ∀ (A : Around) (outer : List Env) (s : Shared) (H : Hp) (vs : List V) (Q : VK) (E : XK), Room k (A.deeper (envOfC qual (defScope st) s.heap.objs.size f (.ref c))) → sp vs H Q E →
      ∃ t, PSs (cxOf CX0 P w K mg base N qual (defScope st) f (.ref c) A outer s H E).nox (defBody st) t ∧ t { nx := fun _ H' => Q .non H', rt := Q } (L2.start N vs) H) : FnOk P w K mg base CX0 (k + 1) f fd ps sp := by
  obtain ⟨oc, od, kV, doc, pm, an, cdv, ct, osl, rfl, lk, hcd⟩ := F.ex
  obtain rfl : cdv = .ref c := hc
  exact fn_of lk hcd S len fun A outer s H vs Q E hr hsp => by
    obtain ⟨t, h, q⟩ := hbody A outer s H vs Q E hr hsp
    exact ⟨t, h.nox, q⟩
end
end FB
set_option Elab.async false
set_option linter.all false
set_option maxRecDepth 100000
set_option maxHeartbeats 4000000
/-! Sets of ints and texts that can be sorted. -/
namespace FB
open PySem PySem.Spec PyProof.Rows L2 Evl
/-- an element's key -/
def elKey (e : Int × Value) : Key := match e.2 with
  | .int k _ => .inl k
  | .str z _ => .inr z
  | _ => .inl 0
/-- the set at a by its keys; its table can be walked -/
structure Tbl (P : Program) (w : World) (es : Array (Int × Value)) (t : SetTable) (S : Key → Bool) : Prop where
  el : ElemsOf (mixKind P w) es.toList
  mem : ∀ k, S k = true ↔ ∃ e ∈ es.toList, (mixKind P w).is k e.2 = true
  nd : (es.toList.map elKey).Nodup
  few : es.size < scanBound
  fits : t.fits es.size = true
  ris : Ris t.place.toList
  led : w.params.followText "set-order" = true ∨ t.led = true
def SetM0 (P : Program) (w : World) (h : Heap) (a : Addr) (S : Key → Bool) (n : Nat) : Prop := ∃ o es ep t, h.get? a = some o ∧ o.ExactSet ∧ o.data = .set es ep t ∧ es.size = n ∧ Tbl P w es t S
def SetM (P : Program) (w : World) (a : Addr) (S : Key → Bool) (n : Nat) : HO := .ext fun h => SetM0 P w h a S n
section
variable {P : Program} {w : World} {h h' : Heap} {a : Addr} {S : Key → Bool} {n : Nat}
theorem is_elKey {e : Int × Value} {k : Key} (q : (mixKind P w).is k e.2 = true) : elKey e = k := by
  rcases keyIs_shape (show keyIs k e.2 = true from q) with ⟨i, t, ek, ev⟩ | ⟨z, t, ek, ev⟩
  · unfold elKey; rw [ev, ek]
  · unfold elKey; rw [ev, ek]
theorem SetM0.setOf (R : SetM0 P w h a S n) : h.SetOf (mixKind P w) a S n := by
  obtain ⟨o, es, ep, t, r1, r2, r3, r4, T⟩ := R
  exact ⟨o, es, ep, t, r1, r2, r3, T.el, T.mem, T.few, T.fits, r4⟩
theorem Tbl.key {es : Array (Int × Value)} {t : SetTable} (T : Tbl P w es t S) (k : Key) : S k = true ↔ k ∈ es.toList.map elKey := by
  rw [T.mem k, List.mem_map]
  constructor
  · rintro ⟨e, he, q⟩
    exact ⟨e, he, is_elKey q⟩
  · rintro ⟨e, he, q⟩
    obtain ⟨⟨k', hk', _⟩, _⟩ := T.el e he
    have := is_elKey hk'
    rw [q] at this
    exact ⟨e, he, by rw [this]; exact hk'⟩
theorem setM_obj {H : Hp} (R : SetM0 P w h a S n) : ObjOk P w H h a (SetM P w a S n) := by
  have ⟨o, _, _, _, ho, _⟩ := R
  exact ⟨R, ⟨o, ho⟩, fun _ _ ⟨o, es, ep, t, r1, r⟩ st => ⟨o, es, ep, t, st o r1, r⟩⟩
/-- a perm of the elements in another table is the same set -/
theorem Tbl.perm {es es2 : Array (Int × Value)} {t t2 : SetTable} (T : Tbl P w es t S) (pm : es2.toList.Perm es.toList) (hf : t2.fits es2.size = true) (hr : Ris t2.place.toList) (hl : w.params.followText "set-order" = true ∨ t2.led = true) : Tbl P w es2 t2 S :=
  have sz : es2.size = es.size := by rw [← Array.length_toList, pm.length_eq, Array.length_toList]
  ⟨T.el.perm pm, fun k => (T.mem k).trans ⟨fun ⟨e, he, q⟩ => ⟨e, pm.mem_iff.mpr he, q⟩, fun ⟨e, he, q⟩ => ⟨e, pm.mem_iff.mp he, q⟩⟩, (pm.map elKey).nodup_iff.mpr T.nd, by rw [sz]; exact T.few, hf, hr, hl⟩
end
section
variable {P : Program} {w : World} {A : Around} {E : Value → Shared → Prop} {s : Shared} {a : Addr} {S : Key → Bool} {n : Nat}
/-- the new table is stored, and laid anew where it is too full -/
theorem tbl_store {g : Bool → Sem Unit} (hg : ∀ (b : Bool) (s1 : Shared) (Q' : Unit → Shared → Prop), Q' () s1 → wpAny (model P w) A (g b) Q' E s1) {o : Obj} {es es1 : Array (Int × Value)} {ep : Nat} {t t1 : SetTable} {S1 : Key → Bool}
    (ho : s.heap.get? a = some o) (hx : o.ExactSet) (hd : o.data = .set es ep t) (T1 : Tbl P w es1 t1 S1) {dummy : Bool} {R : Option Bool → Shared → Prop} (hR : ∀ h', Heap.SameBut a s.heap h' → SetM0 P w h' a S1 es1.size → R (some true) { s with heap := h' }) :
    wpAny (model P w) A (do
        storeSet a es1 t1
        if (!dummy && t1.tooFull) = true then do
            g (relayAll t1 es1 (SetTable.grown es1.size)).2.2
            storeSet a (relayAll t1 es1 (SetTable.grown es1.size)).1 (relayAll t1 es1 (SetTable.grown es1.size)).2.1
            pure (some true)
          else pure (some true)) R E s := by
  have at1 := store_at (es' := es1) (t' := t1) ho hd
  have sb := Heap.SameBut.update s.heap a (Obj.putSet es1 t1)
  refine wpAny_bind (wpAny_storeSet_of ho hd ?_ (fits_of_scanBound T1.few))
  split
  · have p2 := relayAll_perm t1 es1 (SetTable.grown es1.size)
    have T2 := T1.perm p2 (relayAll_fits t1 es1 (SetTable.grown es1.size)) (relayAll_ris t1 es1 (SetTable.grown es1.size)) (T1.led.imp id fun z => by rw [relayAll_led]; exact z)
    have sz2 : (relayAll t1 es1 (SetTable.grown es1.size)).1.size = es1.size := by rw [← Array.length_toList, p2.length_eq, Array.length_toList]
    refine wpAny_bind (hg _ _ _ (wpAny_bind (wpAny_storeSet_of at1 rfl ?_ (fits_of_scanBound T2.few))))
    exact wpAny_pure (hR _ (sb.trans (Heap.SameBut.update _ a _)) ⟨_, _, _, _, store_at at1 rfl, hx, rfl, sz2, T2⟩)
  · exact wpAny_pure (hR _ sb ⟨_, es1, _, t1, at1, hx, rfl, rfl, T1⟩)
theorem setM_hashed {k : Key} {x : Value} {Q : Bool → Shared → Prop} (hk : (mixKind P w).is k x = true) (hsc : x.scannable = true) (R : SetM0 P w s.heap a S n) (room : n + 1 < scanBound)
    (hQ : ∀ h', Heap.SameBut a s.heap h' → SetM0 P w h' a (fun j => S j || decide (j = k)) (if S k = true then n else n + 1) → Q (!S k) { s with heap := h' }) :
    wpAny (model P w) A (setAddHashed a x ((mixKind P w).hash k)) Q E s := by
  obtain ⟨o, es, ep, t, ho, hx, hd, hn, T⟩ := R
  unfold setAddHashed setAddHashedIn
  refine wpAny_holding (wpAny_bind (wpAny_setState_of ho hd T.fits ?_))
  dsimp only
  rw [byScan_of hsc T.few T.el]
  simp only [↓reduceIte]
  unfold setAddByScan
  refine wpAny_bind (wpAny_bind (wpAny_rule (wpAny_bind (wpAny_setScan_of hk ho hd T.fits T.el ?_))))
  cases found : List.findIdx? (fun e => (mixKind P w).is k e.2) es.toList with
  | some j =>
    dsimp only
    obtain ⟨hj, pj, _⟩ := List.findIdx?_eq_some_iff_getElem.mp found
    have old : S k = true := (T.mem k).mpr ⟨es.toList[j], List.getElem_mem hj, pj⟩
    have same : (fun i => S i || decide (i = k)) = S := funext fun i => by
      by_cases z : i = k
      · rw [z, old]; rfl
      · rw [decide_eq_false z, Bool.or_false]
    have q := hQ s.heap (Heap.SameBut.refl a s.heap) (by rw [same, if_pos old]; exact ⟨o, es, ep, t, ho, hx, hd, hn, T⟩)
    rw [old] at q
    exact wpAny_pure (wpAny_pure q)
  | none =>
    dsimp only
    have new : ¬ k ∈ es.toList.map elKey := fun z => by
      obtain ⟨e, he, q⟩ := (T.mem k).mp ((T.key k).mpr z)
      have c := List.findIdx?_eq_none_iff.mp found e he
      rw [q] at c
      cases c
    have no : S k = false := by
      cases q : S k with
      | false => rfl
      | true => exact absurd ((T.key k).mp q) new
    have told : ∀ (b : Bool) {s1 : Shared} {Q' : Unit → Shared → Prop}, Q' () s1 → wpAny (model P w) A (match b with | true => rule "set.scan.the-table-gave-way" | false => pure ()) Q' E s1 :=
      fun b s1 Q' q => by cases b <;> first | exact wpAny_pure q | exact wpAny_rule q
    have pm := layNew_perm t es ((mixKind P w).hash k) x
    rw [Array.toList_push] at pm
    have pc := pm.trans (List.perm_append_singleton _ _)
    have hf := layNew_fits t es ((mixKind P w).hash k) x
    have hr := layNew_ris t es ((mixKind P w).hash k) x T.ris
    have hl := layNew_led t es ((mixKind P w).hash k) x
    generalize layNew t es ((mixKind P w).hash k) x = Z at pm pc hf hr hl ⊢
    obtain ⟨es1, t1, dummy, gave⟩ := Z
    dsimp only at pm pc hf hr hl ⊢
    have sz : es1.size = n + 1 := by rw [← Array.length_toList, pc.length_eq, List.length_cons, Array.length_toList, hn]
    have pk : (es1.toList.map elKey).Perm (k :: es.toList.map elKey) := by
      have := pc.map elKey
      rw [List.map_cons, is_elKey (e := ((mixKind P w).hash k, x)) hk] at this
      exact this
    have T1 : Tbl P w es1 t1 (fun j => S j || decide (j = k)) := ⟨(T.el.push hk hsc).perm pm, mem_push_iff hk T.mem pm, pk.nodup_iff.mpr (List.nodup_cons.mpr ⟨new, T.nd⟩), by rw [sz]; exact room, hf, hr, T.led.imp id fun z => by rw [hl]; exact z⟩
    have fin : ∀ h', Heap.SameBut a s.heap h' → SetM0 P w h' a (fun j => S j || decide (j = k)) es1.size → Q true { s with heap := h' } := fun h' sb r => by
      have q := hQ h' sb
      rw [no] at q
      rw [sz] at r
      exact q r
    have off : Tbl P w es1 { t1 with plain := false } (fun j => S j || decide (j = k)) := { T1 with fits := SetTable.fits_plain_off hf }
    refine wpAny_bind (told _ ?_)
    split
    · refine wpAny_bind ?_
      rw [hashByValue_scannable 8 hsc]
      refine wpAny_pure ?_
      refine tbl_store (fun b s1 Q' q => by cases b <;> first | exact wpAny_pure q | exact wpAny_rule q) ho hx hd (t1 := _) (S1 := fun j => S j || decide (j = k)) ?_ fun h' sb r => ?_
      · split
        · exact T1
        · exact off
      · dsimp only
        exact wpAny_pure (fin h' sb r)
    · refine wpAny_bind (wpAny_pure ?_)
      simp only [↓reduceIte]
      refine tbl_store (fun b s1 Q' q => by cases b <;> first | exact wpAny_pure q | exact wpAny_rule q) ho hx hd T1 fun h' sb r => ?_
      dsimp only
      exact wpAny_pure (fin h' sb r)
end
end FB
set_option Elab.async false
set_option linter.all false
set_option maxRecDepth 100000
set_option maxHeartbeats 4000000
/-! Fractions in lowest terms. -/
namespace FB
open PySem PySem.Spec PyProof.Rows L2 Evl
section
variable {n : Int} {m : Nat}
theorem low_num (hm : m ≠ 0) : n / ((Nat.gcd n.natAbs m : Nat) : Int) = (mkRat n m).num := by
  rw [← Rat.normalize_eq_mkRat hm, Rat.normalize_eq]
theorem low_den (hm : m ≠ 0) : (m : Int) / ((Nat.gcd n.natAbs m : Nat) : Int) = ((mkRat n m).den : Int) := by
  rw [← Rat.normalize_eq_mkRat hm, Rat.normalize_eq]
  exact (Int.natCast_ediv _ _).symm
theorem low_pos (hm : m ≠ 0) : 0 < ((Nat.gcd n.natAbs m : Nat) : Int) := by
  have := Nat.gcd_pos_of_pos_right n.natAbs (Nat.pos_of_ne_zero hm)
  omega
theorem low_le (hm : m ≠ 0) : Nat.gcd n.natAbs m ≤ m := Nat.gcd_le_right _ (Nat.pos_of_ne_zero hm)
end
theorem rat_add (a b : Rat) : mkRat (a.num * b.den + b.num * a.den) (a.den * b.den) = a + b := by
  rw [Rat.add_def, Rat.normalize_eq_mkRat]
theorem rat_of (a : Rat) : a = (a.num : Rat) / ((a.den : Nat) : Rat) := by
  rw [← Rat.mkRat_eq_div]
  exact (Rat.mkRat_self a).symm
theorem den_ne (a : Rat) : ((a.den : Nat) : Rat) ≠ 0 := by
  have := a.den_nz
  simpa using this
theorem rat_divN (a : Rat) {k : Nat} (hk : k ≠ 0) : mkRat a.num (a.den * k) = a / (k : Rat) := by
  rw [Rat.mkRat_eq_div]
  have h1 := rat_of a
  have h2 := den_ne a
  have h3 : ((k : Nat) : Rat) ≠ 0 := by simpa using hk
  have e : ((a.den * k : Nat) : Rat) = ((a.den : Nat) : Rat) * ((k : Nat) : Rat) := by simp
  rw [e]
  generalize ((a.den : Nat) : Rat) = d at *
  generalize (a.num : Rat) = x at *
  rw [h1]
  grind
/-- a whole number -/
def IsZ (q : Rat) : Prop := ∃ z : Int, q = (z : Rat)
theorem IsZ.int (z : Int) : IsZ (z : Rat) := ⟨z, rfl⟩
theorem IsZ.nat (z : Nat) : IsZ (z : Rat) := ⟨z, (Rat.intCast_natCast z).symm⟩
theorem IsZ.add {a b : Rat} (h : IsZ a) (k : IsZ b) : IsZ (a + b) := by
  obtain ⟨x, rfl⟩ := h
  obtain ⟨y, rfl⟩ := k
  exact ⟨x + y, by simp⟩
theorem IsZ.mul {a b : Rat} (h : IsZ a) (k : IsZ b) : IsZ (a * b) := by
  obtain ⟨x, rfl⟩ := h
  obtain ⟨y, rfl⟩ := k
  exact ⟨x * y, by simp⟩
theorem IsZ.zero : IsZ 0 := ⟨0, by simp⟩
theorem den_dvd {q : Rat} {d : Nat} (h : IsZ (q * (d : Rat))) : q.den ∣ d := by
  obtain ⟨z, hz⟩ := h
  have h2 := den_ne q
  have e : (q.num * (d : Int) : Int) = z * (q.den : Int) := by
    have h3 : ((q.num : Int) : Rat) * ((d : Nat) : Rat) = ((z : Int) : Rat) * ((q.den : Nat) : Rat) := by
      have h1 := rat_of q
      generalize ((q.den : Nat) : Rat) = e at *
      generalize ((q.num : Int) : Rat) = x at *
      rw [h1] at hz
      grind
    have h4 : (((q.num * (d : Int)) : Int) : Rat) = (((z * (q.den : Int)) : Int) : Rat) := by
      rw [Rat.intCast_mul, Rat.intCast_mul, Rat.intCast_natCast, Rat.intCast_natCast]
      exact h3
    exact Rat.intCast_inj.mp h4
  have h5 : (q.den : Int) ∣ q.num * (d : Int) := ⟨z, by rw [e, Int.mul_comm]⟩
  have h6 : q.den ∣ q.num.natAbs * d := by
    have := Int.natAbs_dvd_natAbs.mpr h5
    rwa [Int.natAbs_natCast, Int.natAbs_mul, Int.natAbs_natCast] at this
  exact (Nat.Coprime.symm q.reduced).dvd_of_dvd_mul_left h6
theorem isZ_den {q : Rat} {d : Nat} (h : q.den ∣ d) : IsZ (q * (d : Rat)) := by
  obtain ⟨k, rfl⟩ := h
  refine ⟨q.num * (k : Int), ?_⟩
  have h1 := rat_of q
  have h2 := den_ne q
  have e : ((q.den * k : Nat) : Rat) = ((q.den : Nat) : Rat) * ((k : Nat) : Rat) := by simp
  have e2 : ((q.num * (k : Int) : Int) : Rat) = (q.num : Rat) * ((k : Nat) : Rat) := by rw [Rat.intCast_mul, Rat.intCast_natCast]
  rw [e, e2]
  generalize ((q.den : Nat) : Rat) = e at *
  generalize ((q.num : Int) : Rat) = x at *
  rw [h1]
  grind
theorem num_nn {q : Rat} (h : 0 ≤ q) : 0 ≤ q.num := Rat.num_nonneg.mpr h
/-- a bound of the numerator from bounds of the value and the denominator -/
theorem num_le {q : Rat} {a d : Nat} (h0 : 0 ≤ q) (h1 : q ≤ (a : Rat)) (hd : q.den ≤ d) : q.num.natAbs ≤ a * d := by
  have h2 := den_ne q
  have h3 : (q.num : Rat) ≤ ((a : Nat) : Rat) * ((q.den : Nat) : Rat) := by
    have e := rat_of q
    have hp : (0 : Rat) < ((q.den : Nat) : Rat) := by
      have := Nat.pos_of_ne_zero q.den_nz
      exact Rat.natCast_pos.mpr this
    have : (q.num : Rat) = q * ((q.den : Nat) : Rat) := by
      generalize ((q.den : Nat) : Rat) = y at *
      generalize hx : ((q.num : Int) : Rat) = x at *
      rw [e]
      grind
    rw [this]
    exact Rat.mul_le_mul_of_nonneg_right h1 (Rat.le_of_lt hp)
  have h4 : q.num ≤ ((a * q.den : Nat) : Int) := by
    have : ((q.num : Int) : Rat) ≤ (((a * q.den : Nat) : Int) : Rat) := by rw [Rat.intCast_natCast, Rat.natCast_mul]; exact h3
    exact Rat.intCast_le_intCast.mp this
  have h5 := num_nn h0
  have h6 : a * q.den ≤ a * d := Nat.mul_le_mul_left _ hd
  omega
end FB
set_option Elab.async false
set_option linter.all false
set_option maxRecDepth 100000
set_option maxHeartbeats 4000000
/-! How many of all passengers visit a station, board a boat, reach a port: fractions. -/
namespace FB
open PySem PySem.Spec PyProof.Rows L2 Evl
/-- what f gives for the seats that lead to q -/
def toR (f : Nat → Rat) (q : Key) : Seats → Rat
  | [] => 0
  | (i, p) :: r => (if p = q then f i else 0) + toR f q r
section
variable {f g : Nat → Rat} {q : Key}
theorem toR_append : ∀ {a b : Seats}, toR f q (a ++ b) = toR f q a + toR f q b
  | [], b => by show toR f q b = 0 + _; grind
  | (i, p) :: r, b => by
    show (if p = q then f i else 0) + toR f q (r ++ b) = (if p = q then f i else 0) + toR f q r + toR f q b
    rw [toR_append]; grind
theorem toR_snoc {a : Seats} {i : Nat} {p : Key} : toR f q (a ++ [(i, p)]) = toR f q a + (if p = q then f i else 0) := by
  rw [toR_append]
  show _ + ((if p = q then f i else 0) + 0) = _
  grind
theorem toR_congr : ∀ {a : Seats}, (∀ s ∈ a, s.2 = q → f s.1 = g s.1) → toR f q a = toR g q a
  | [], _ => rfl
  | (i, p) :: r, h => by
    show (if p = q then f i else 0) + toR f q r = (if p = q then g i else 0) + toR g q r
    rw [toR_congr fun s hs => h s (List.mem_cons_of_mem _ hs)]
    by_cases e : p = q
    · rw [if_pos e, if_pos e, h (i, p) (List.mem_cons_self ..) e]
    · rw [if_neg e, if_neg e]
theorem toR_nil : ∀ {a : Seats}, (∀ s ∈ a, s.2 ≠ q) → toR f q a = 0
  | [], _ => rfl
  | (i, p) :: r, h => by
    show (if p = q then f i else 0) + toR f q r = 0
    rw [if_neg (h (i, p) (List.mem_cons_self ..)), toR_nil fun s hs => h s (List.mem_cons_of_mem _ hs)]
    grind
theorem toR_nn (h : ∀ i, 0 ≤ f i) : ∀ {a : Seats}, 0 ≤ toR f q a
  | [] => by show (0 : Rat) ≤ 0; grind
  | (i, p) :: r => by
    show 0 ≤ (if p = q then f i else 0) + toR f q r
    have h1 := h i
    have h2 := toR_nn h (a := r)
    split <;> grind
theorem toR_pos (h : ∀ i, 0 ≤ f i) : ∀ {a : Seats}, 0 < toR f q a ↔ ∃ i, (i, q) ∈ a ∧ 0 < f i
  | [] => by
    constructor
    · intro z
      have z : (0 : Rat) < 0 := z
      grind
    · rintro ⟨i, hi, _⟩
      simp at hi
  | (i, p) :: r => by
    have ih := toR_pos h (a := r)
    have hn := toR_nn (q := q) h (a := r)
    have h1 := h i
    show 0 < (if p = q then f i else 0) + toR f q r ↔ _
    by_cases e : p = q
    · rw [if_pos e]
      constructor
      · intro z
        by_cases hz : 0 < f i
        · exact ⟨i, by rw [e]; exact List.mem_cons_self .., hz⟩
        · obtain ⟨j, hj, hp⟩ := ih.mp (by grind)
          exact ⟨j, List.mem_cons_of_mem _ hj, hp⟩
      · rintro ⟨j, hj, hp⟩
        rcases List.mem_cons.mp hj with z | z
        · cases z; grind
        · have := ih.mpr ⟨j, z, hp⟩
          grind
    · rw [if_neg e]
      constructor
      · intro z
        obtain ⟨j, hj, hp⟩ := ih.mp (by grind)
        exact ⟨j, List.mem_cons_of_mem _ hj, hp⟩
      · rintro ⟨j, hj, hp⟩
        rcases List.mem_cons.mp hj with z | z
        · cases z; exact absurd rfl e
        · have := ih.mpr ⟨j, z, hp⟩
          grind
theorem toR_isZ {c : Rat} : ∀ {a : Seats}, (∀ s ∈ a, IsZ (f s.1 * c)) → IsZ (toR f q a * c)
  | [], _ => by
    have : toR f q [] * c = 0 := by show (0 : Rat) * c = 0; grind
    rw [this]; exact .zero
  | (i, p) :: r, h => by
    have e : toR f q ((i, p) :: r) * c = (if p = q then f i * c else 0) + toR f q r * c := by
      show ((if p = q then f i else 0) + toR f q r) * c = _
      split <;> grind
    rw [e]
    refine .add ?_ (toR_isZ fun s hs => h s (List.mem_cons_of_mem _ hs))
    split
    · exact h (i, p) (List.mem_cons_self ..)
    · exact .zero
/-- whole numbers m that are c times the fractions -/
theorem toR_int {m : Nat → Int} {c : Rat} : ∀ {a : Seats}, (∀ s ∈ a, s.2 = q → ((m s.1 : Int) : Rat) = c * f s.1) → ((toQ m q a : Int) : Rat) = c * toR f q a
  | [], _ => by show ((0 : Int) : Rat) = c * 0; rw [Rat.intCast_zero]; grind
  | (i, p) :: r, h => by
    have ih := toR_int fun s hs => h s (List.mem_cons_of_mem _ hs)
    show (((if p = q then m i else 0) + toQ m q r : Int) : Rat) = c * ((if p = q then f i else 0) + toR f q r)
    rw [Rat.intCast_add, ih]
    by_cases e : p = q
    · rw [if_pos e, if_pos e, h (i, p) (List.mem_cons_self ..) e]
      grind
    · rw [if_neg e, if_neg e, Rat.intCast_zero]
      grind
end
/-- the visitors of the station j, f for each seat in L -/
def visF (f : Nat → Rat) (L : Seats) (j : Nat) : Rat := (if j = 0 then 1 else 0) + toR f (.inl (j : Int)) L
/-- the boats of the first k stations -/
def avs (N : Net) : Nat → List Rat
  | 0 => []
  | k + 1 => avs N k ++ [visF (fun i => (avs N k).getD i 0) (seatsOf N k) k / ((N.getD k []).length : Rat)]
theorem avs_len {N : Net} : ∀ {k}, (avs N k).length = k
  | 0 => rfl
  | k + 1 => by
    show (avs N k ++ [_]).length = k + 1
    rw [List.length_append, avs_len]; rfl
/-- the boats of a station, an arrival -/
def av (N : Net) (i : Nat) : Rat := (avs N (i + 1)).getD i 0
theorem avs_get {N : Net} {i : Nat} : ∀ {k}, i < k → (avs N k).getD i 0 = av N i
  | 0, h => by omega
  | k + 1, h => by
    by_cases e : i = k
    · rw [e]; rfl
    · have hk : i < k := by omega
      rw [← avs_get hk]
      show (avs N k ++ [_]).getD i 0 = _
      rw [List.getD_eq_getElem?_getD, List.getElem?_append_left (by rw [avs_len]; exact hk), List.getD_eq_getElem?_getD]
/-- the visitors of a station, an arrival -/
def vi (N : Net) (k : Nat) : Rat := visF (av N) (seatsOf N k) k
theorem av_eq (N : Net) (k : Nat) : av N k = vi N k / ((N.getD k []).length : Rat) := by
  show (avs N k ++ [_]).getD k 0 = _
  rw [List.getD_eq_getElem?_getD, List.getElem?_append_right (by rw [avs_len]; exact Nat.le_refl _), avs_len, Nat.sub_self]
  show visF _ _ _ / _ = _
  unfold vi visF
  rw [toR_congr (g := av N) fun s hs _ => avs_get (mem_seatsOf.mp (show (s.1, s.2) ∈ seatsOf N k from hs)).1]
/-- seats lead on, to a station of the network -/
structure FwR (N : Net) : Prop where
  pos : ∀ i, i < N.length → 1 ≤ (N.getD i []).length
  fw : ∀ i, i < N.length → ∀ j : Int, (.inl j : Key) ∈ N.getD i [] → (i : Int) < j ∧ j < N.length
section
variable {N : Net}
theorem rdiv_nn {a : Rat} (h : 0 ≤ a) (n : Nat) : 0 ≤ a / (n : Rat) := by
  rw [Rat.div_def]
  refine Rat.mul_nonneg h ?_
  rw [Rat.inv_def]
  exact Rat.divInt_nonneg (Int.natCast_nonneg _) (by rw [Rat.num_natCast]; exact Int.natCast_nonneg _)
theorem vi_nn_of {k : Nat} (h : ∀ i, i < k → 0 ≤ av N i) : 0 ≤ vi N k := by
  unfold vi visF
  have e : toR (av N) (.inl (k : Int)) (seatsOf N k) = toR (fun i => if i < k then av N i else 0) (.inl (k : Int)) (seatsOf N k) := toR_congr fun s hs _ => by
    have := (mem_seatsOf.mp (show (s.1, s.2) ∈ seatsOf N k from hs)).1
    show _ = if s.1 < k then _ else _
    rw [if_pos this]
  rw [e]
  have h2 : 0 ≤ toR (fun i => if i < k then av N i else 0) (.inl (k : Int)) (seatsOf N k) := toR_nn fun i => by
    show 0 ≤ if i < k then av N i else 0
    split
    · exact h i (by assumption)
    · grind
  split <;> grind
theorem av_nn : ∀ k, 0 ≤ av N k := fun k => by
  induction k using Nat.strongRecOn with
  | ind k ih =>
    rw [av_eq]
    exact rdiv_nn (vi_nn_of ih) _
theorem vi_nn (k : Nat) : 0 ≤ vi N k := vi_nn_of fun i _ => av_nn i
/-- the visitors are told by the seats of the stations ahead, as by all -/
theorem vi_from (F : FwR N) {k m : Nat} (hk : k ≤ m) (hm : m ≤ N.length) : visF (av N) (seatsOf N m) k = vi N k := by
  induction m with
  | zero => rw [show k = 0 by omega]; rfl
  | succ m ih =>
    by_cases e : k = m + 1
    · rw [e]; rfl
    · rw [← ih (by omega) (by omega)]
      unfold visF
      show _ + toR _ _ (seatsOf N m ++ stSeats m (N.getD m [])) = _
      rw [toR_append, toR_nil (a := stSeats m (N.getD m []))]
      · grind
      · intro s hs z
        unfold stSeats at hs
        obtain ⟨p, hp, rfl⟩ := List.mem_map.mp hs
        have z : p = .inl (k : Int) := z
        rw [z] at hp
        have := (F.fw m (by omega) _ hp).1
        omega
theorem av_mul (F : FwR N) {k : Nat} (hk : k < N.length) : av N k * ((N.getD k []).length : Rat) = vi N k := by
  rw [av_eq]
  have h := F.pos k hk
  have h0 : (((N.getD k []).length : Nat) : Rat) ≠ 0 := by
    intro z
    have := Rat.natCast_eq_zero_iff.mp z
    omega
  generalize (((N.getD k []).length : Nat) : Rat) = y at *
  grind
theorem av_pos (F : FwR N) {k : Nat} (hk : k < N.length) : 0 < av N k ↔ 0 < vi N k := by
  have h := av_mul F hk
  have h1 := F.pos k hk
  have h2 := av_nn (N := N) k
  have h3 := vi_nn (N := N) k
  have h4 : (0 : Rat) < ((N.getD k []).length : Nat) := Rat.natCast_pos.mpr (by omega)
  constructor
  · intro z
    rw [← h]
    exact Rat.mul_pos z h4
  · intro z
    rcases Rat.le_iff_lt_or_eq.mp h2 with h5 | h5
    · exact h5
    · rw [← h5] at h
      grind
/-! ### denominators -/
def prodN (N : Net) : Nat → Nat
  | 0 => 1
  | k + 1 => prodN N k * (N.getD k []).length
theorem prodN_dvd {i k : Nat} (h : i ≤ k) : prodN N i ∣ prodN N k := by
  induction k with
  | zero => rw [show i = 0 by omega]; exact Nat.dvd_refl _
  | succ k ih =>
    by_cases e : i = k + 1
    · rw [e]; exact Nat.dvd_refl _
    · exact Nat.dvd_trans (ih (by omega)) (Nat.dvd_mul_right _ _)
theorem prodN_pos (F : FwR N) : ∀ {k : Nat}, k ≤ N.length → 1 ≤ prodN N k
  | 0, _ => Nat.le_refl _
  | k + 1, h => by
    have h1 := prodN_pos F (k := k) (by omega)
    have h2 := F.pos k (by omega)
    exact Nat.mul_pos h1 h2
theorem prodN_le (h8 : ∀ i, (N.getD i []).length ≤ 8) : ∀ k, prodN N k ≤ 8 ^ k
  | 0 => Nat.le_refl _
  | k + 1 => by
    show prodN N k * _ ≤ 8 ^ k * 8
    exact Nat.mul_le_mul (prodN_le h8 k) (h8 k)
theorem isZ_dvd {q : Rat} {a b : Nat} (h : IsZ (q * (a : Rat))) (d : a ∣ b) : IsZ (q * (b : Rat)) := by
  obtain ⟨k, rfl⟩ := d
  have e : q * ((a * k : Nat) : Rat) = q * (a : Rat) * (k : Rat) := by
    rw [Rat.natCast_mul]; grind
  rw [e]
  exact h.mul (.nat k)
theorem av_isZ (F : FwR N) : ∀ k, k < N.length → IsZ (av N k * ((prodN N (k + 1) : Nat) : Rat)) := fun k => by
  induction k using Nat.strongRecOn with
  | ind k ih =>
    intro hk
    have e : av N k * ((prodN N (k + 1) : Nat) : Rat) = vi N k * ((prodN N k : Nat) : Rat) := by
      rw [← av_mul F hk]
      show _ * ((prodN N k * (N.getD k []).length : Nat) : Rat) = _
      rw [Rat.natCast_mul]; grind
    rw [e]
    unfold vi visF
    have e2 : ((if k = 0 then (1 : Rat) else 0) + toR (av N) (.inl (k : Int)) (seatsOf N k)) * ((prodN N k : Nat) : Rat) = (if k = 0 then 1 else 0) * ((prodN N k : Nat) : Rat) + toR (av N) (.inl (k : Int)) (seatsOf N k) * ((prodN N k : Nat) : Rat) := by grind
    rw [e2]
    refine .add (.mul ?_ (.nat _)) (toR_isZ fun s hs => ?_)
    · split
      · exact ⟨1, by simp⟩
      · exact .zero
    · have h1 := (mem_seatsOf.mp (show (s.1, s.2) ∈ seatsOf N k from hs)).1
      exact isZ_dvd (ih s.1 h1 (by omega)) (prodN_dvd (by omega))
theorem av_den (F : FwR N) {k m : Nat} (hk : k < m) (hm : m ≤ N.length) : (av N k).den ∣ prodN N m :=
  Nat.dvd_trans (den_dvd (av_isZ F k (by omega))) (prodN_dvd (by omega))
/-- what is reckoned from the boats of the first stations -/
theorem toR_den (F : FwR N) {q : Key} {L : Seats} {m : Nat} (hm : m ≤ N.length) (hL : ∀ s ∈ L, s.1 < m) : (toR (av N) q L).den ∣ prodN N m :=
  den_dvd (toR_isZ fun s hs => isZ_den (av_den F (hL s hs) hm))
theorem visF_den (F : FwR N) {j : Nat} {L : Seats} {m : Nat} (hm : m ≤ N.length) (hL : ∀ s ∈ L, s.1 < m) : (visF (av N) L j).den ∣ prodN N m := by
  refine den_dvd ?_
  unfold visF
  have e2 : ((if j = 0 then (1 : Rat) else 0) + toR (av N) (.inl (j : Int)) L) * ((prodN N m : Nat) : Rat) = (if j = 0 then 1 else 0) * ((prodN N m : Nat) : Rat) + toR (av N) (.inl (j : Int)) L * ((prodN N m : Nat) : Rat) := by grind
  rw [e2]
  refine .add (.mul ?_ (.nat _)) (isZ_den (toR_den F hm hL))
  split
  · exact ⟨1, by simp⟩
  · exact .zero
/-! ### the period -/
def perN (N : Net) : Nat → Nat
  | 0 => 1
  | k + 1 => Nat.lcm (perN N k) (av N k).den
theorem perN_dvd (F : FwR N) : ∀ {k}, k ≤ N.length → perN N k ∣ prodN N k
  | 0, _ => Nat.dvd_refl _
  | k + 1, h => Nat.lcm_dvd (Nat.dvd_trans (perN_dvd F (by omega)) (prodN_dvd (by omega))) (av_den F (by omega) h)
theorem perN_den {i : Nat} : ∀ {k}, i < k → (av N i).den ∣ perN N k
  | 0, h => by omega
  | k + 1, h => by
    by_cases e : i = k
    · rw [e]; exact Nat.dvd_lcm_right _ _
    · exact Nat.dvd_trans (perN_den (k := k) (by omega)) (Nat.dvd_lcm_left _ _)
theorem perN_pos : ∀ k, 1 ≤ perN N k
  | 0 => Nat.le_refl _
  | k + 1 => Nat.lcm_pos (perN_pos k) (Nat.pos_of_ne_zero (av N k).den_nz)
end
/-! ### sums over stations -/
def sumR (f : Nat → Rat) : Nat → Rat
  | 0 => 0
  | k + 1 => sumR f k + f k
section
variable {N : Net} {f g : Nat → Rat}
theorem sumR_congr : ∀ {k}, (∀ i, i < k → f i = g i) → sumR f k = sumR g k
  | 0, _ => rfl
  | k + 1, h => by
    show sumR f k + f k = sumR g k + g k
    rw [sumR_congr fun i hi => h i (by omega), h k (by omega)]
theorem sumR_nn (h : ∀ i, 0 ≤ f i) : ∀ k, 0 ≤ sumR f k
  | 0 => by show (0 : Rat) ≤ 0; grind
  | k + 1 => by
    show 0 ≤ sumR f k + f k
    have h1 := sumR_nn h k
    have h2 := h k
    grind
theorem sumR_mono (h : ∀ i, 0 ≤ f i) {j k : Nat} (hk : j ≤ k) : sumR f j ≤ sumR f k := by
  induction k with
  | zero => rw [show j = 0 by omega]; exact Rat.le_refl
  | succ k ih =>
    by_cases e : j = k + 1
    · rw [e]; exact Rat.le_refl
    · have h1 := ih (by omega)
      have h2 := h k
      show _ ≤ sumR f k + f k
      grind
theorem sumR_one (h : ∀ i, 0 ≤ f i) {i k : Nat} (hk : i < k) : f i ≤ sumR f k := by
  have h1 := sumR_mono h (show i + 1 ≤ k by omega)
  have h2 := sumR_nn h i
  have h3 : sumR f (i + 1) = sumR f i + f i := rfl
  grind
/-- the seats' sum, those that lead to ports apart -/
def allR (f : Nat → Rat) : Seats → Rat
  | [] => 0
  | (i, _) :: r => f i + allR f r
/-- x of a seat that leads to a port -/
def pq (p : Key) (x : Rat) : Rat := match p with | .inl _ => 0 | .inr _ => x
def portR (f : Nat → Rat) : Seats → Rat
  | [] => 0
  | (i, p) :: r => pq p (f i) + portR f r
theorem allR_append : ∀ {a b : Seats}, allR f (a ++ b) = allR f a + allR f b
  | [], b => by show allR f b = 0 + _; grind
  | (i, p) :: r, b => by
    show f i + allR f (r ++ b) = f i + allR f r + allR f b
    rw [allR_append]; grind
theorem portR_append : ∀ {a b : Seats}, portR f (a ++ b) = portR f a + portR f b
  | [], b => by show portR f b = 0 + _; grind
  | (i, p) :: r, b => by
    show pq p (f i) + portR f (r ++ b) = pq p (f i) + portR f r + portR f b
    rw [portR_append]; grind
theorem allR_st {k : Nat} : ∀ {s : List Key}, allR f (stSeats k s) = f k * ((s.length : Nat) : Rat)
  | [] => by
    show (0 : Rat) = f k * ((0 : Nat) : Rat)
    have : ((0 : Nat) : Rat) = 0 := rfl
    rw [this]; grind
  | p :: s => by
    show f k + allR f (stSeats k s) = f k * ((s.length + 1 : Nat) : Rat)
    rw [allR_st, Rat.natCast_add]
    have : ((1 : Nat) : Rat) = 1 := rfl
    rw [this]; grind
theorem allR_seats : ∀ k, allR f (seatsOf N k) = sumR (fun i => f i * (((N.getD i []).length : Nat) : Rat)) k
  | 0 => rfl
  | k + 1 => by
    show allR f (seatsOf N k ++ stSeats k (N.getD k [])) = sumR _ k + _
    rw [allR_append, allR_st, allR_seats]
/-- each seat leads to one station below n, or to a port -/
theorem split_seat {n : Nat} {i : Nat} {p : Key} (hp : ∀ j : Int, p = .inl j → 0 ≤ j ∧ j < n) : sumR (fun j => if p = .inl (j : Int) then f i else 0) n + pq p (f i) = f i := by
  cases p with
  | inr z =>
    have : sumR (fun j => if (Sum.inr z : Key) = .inl (j : Int) then f i else 0) n = 0 := by
      clear hp
      induction n with
      | zero => rfl
      | succ n ih =>
        show sumR _ n + (if (Sum.inr z : Key) = .inl (n : Int) then f i else 0) = 0
        rw [ih, if_neg (by intro z; cases z)]; grind
    rw [this]; show (0 : Rat) + f i = f i; grind
  | inl j =>
    obtain ⟨h0, h1⟩ := hp j rfl
    have : ∀ m : Nat, sumR (fun k : Nat => if (Sum.inl j : Key) = .inl (k : Int) then f i else 0) m = if j < m then f i else 0 := fun m => by
      induction m with
      | zero => rw [if_neg (by omega)]; rfl
      | succ m ih =>
        show sumR _ m + (if (Sum.inl j : Key) = .inl (m : Int) then f i else 0) = _
        rw [ih]
        by_cases e : j = m
        · rw [if_neg (by omega), if_pos (by rw [e]), if_pos (by omega)]; grind
        · by_cases e2 : j < m
          · rw [if_pos e2, if_neg (by intro z; exact e (Sum.inl.inj z)), if_pos (by omega)]; grind
          · rw [if_neg e2, if_neg (by intro z; exact e (Sum.inl.inj z)), if_neg (by omega)]; grind
    rw [this, if_pos h1]; show f i + (0 : Rat) = f i; grind
theorem sumR_add : ∀ k, sumR (fun i => f i + g i) k = sumR f k + sumR g k
  | 0 => by show (0 : Rat) = 0 + 0; grind
  | k + 1 => by
    show sumR _ k + (f k + g k) = sumR f k + f k + (sumR g k + g k)
    rw [sumR_add]; grind
theorem sumR_zero : ∀ k, sumR (fun _ => 0) k = 0
  | 0 => rfl
  | k + 1 => by show sumR _ k + 0 = 0; rw [sumR_zero]; grind
theorem split_all {n : Nat} : ∀ {L : Seats}, (∀ s ∈ L, ∀ j : Int, s.2 = .inl j → 0 ≤ j ∧ j < n) → sumR (fun j => toR f (.inl (j : Int)) L) n + portR f L = allR f L
  | [], _ => by
    show sumR (fun _ => 0) n + 0 = (0 : Rat)
    rw [sumR_zero]; grind
  | (i, p) :: r, h => by
    have ih := split_all fun s hs => h s (List.mem_cons_of_mem _ hs)
    have hs := split_seat (f := f) (i := i) (p := p) (h (i, p) (List.mem_cons_self ..))
    have e : sumR (fun j => toR f (.inl (j : Int)) ((i, p) :: r)) n = sumR (fun j => if p = .inl (j : Int) then f i else 0) n + sumR (fun j => toR f (.inl (j : Int)) r) n := by
      rw [← sumR_add]; rfl
    have e2 : portR f ((i, p) :: r) = pq p (f i) + portR f r := rfl
    have e3 : allR f ((i, p) :: r) = f i + allR f r := rfl
    rw [e, e2, e3, ← ih]
    generalize pq p (f i) = y at *
    grind
/-- everybody reaches a port -/
theorem port_one (F : FwR N) (hn : 1 ≤ N.length) : portR (av N) (seatsOf N N.length) = 1 := by
  have h1 := split_all (f := av N) (n := N.length) (L := seatsOf N N.length) fun s hs j e => by
    obtain ⟨a, b⟩ := mem_seatsOf.mp (show (s.1, s.2) ∈ seatsOf N N.length from hs)
    rw [e] at b
    have := F.fw s.1 a j b
    omega
  rw [allR_seats] at h1
  have h2 : sumR (fun i => av N i * (((N.getD i []).length : Nat) : Rat)) N.length = sumR (fun i => (if i = 0 then 1 else 0) + toR (av N) (.inl (i : Int)) (seatsOf N N.length)) N.length :=
    sumR_congr fun i hi => by
      rw [av_mul F hi, ← vi_from F (Nat.le_of_lt hi) (Nat.le_refl _)]; rfl
  rw [h2, sumR_add] at h1
  have h3 : ∀ k, 1 ≤ k → sumR (fun i => if i = 0 then (1 : Rat) else 0) k = 1 := fun k hk => by
    induction k with
    | zero => omega
    | succ k ih =>
      show sumR _ k + (if k = 0 then 1 else 0) = 1
      by_cases e : k = 0
      · subst e; show (0 : Rat) + 1 = 1; grind
      · rw [ih (by omega), if_neg e]; grind
  rw [h3 _ hn] at h1
  grind
theorem portR_nn (h : ∀ i, 0 ≤ f i) : ∀ L : Seats, 0 ≤ portR f L
  | [] => by show (0 : Rat) ≤ 0; grind
  | (i, .inl _) :: r => by
    have := portR_nn h r
    show 0 ≤ 0 + portR f r
    grind
  | (i, .inr _) :: r => by
    have := portR_nn h r
    have := h i
    show 0 ≤ f i + portR f r
    grind
/-- nobody visits a station twice -/
theorem vi_le_one (F : FwR N) {k : Nat} (hk : k < N.length) : vi N k ≤ 1 := by
  by_cases e0 : k = 0
  · subst e0
    have h5 : vi N 0 = 1 := by
      show (if (0 : Nat) = 0 then (1 : Rat) else 0) + toR (av N) (.inl ((0 : Nat) : Int)) [] = 1
      show (1 : Rat) + 0 = 1
      grind
    rw [h5]; exact Rat.le_refl
  have h1 := split_all (f := av N) (n := N.length) (L := seatsOf N k) fun s hs j e => by
    obtain ⟨a, b⟩ := mem_seatsOf.mp (show (s.1, s.2) ∈ seatsOf N k from hs)
    rw [e] at b
    have := F.fw s.1 (by omega) j b
    omega
  rw [allR_seats] at h1
  have h2 : sumR (fun i => av N i * (((N.getD i []).length : Nat) : Rat)) k = sumR (fun i => (if i = 0 then 1 else 0) + toR (av N) (.inl (i : Int)) (seatsOf N k)) k :=
    sumR_congr fun i hi => by
      rw [av_mul F (by omega), ← vi_from F (Nat.le_of_lt hi) (Nat.le_of_lt hk)]; rfl
  rw [h2, sumR_add] at h1
  have h3 : ∀ k, 1 ≤ k → sumR (fun i => if i = 0 then (1 : Rat) else 0) k = 1 := fun k hk => by
    induction k with
    | zero => omega
    | succ k ih =>
      show sumR _ k + (if k = 0 then 1 else 0) = 1
      by_cases e : k = 0
      · subst e; show (0 : Rat) + 1 = 1; grind
      · rw [ih (by omega), if_neg e]; grind
  rw [h3 _ (by omega)] at h1
  have h4 := sumR_mono (f := fun j => toR (av N) (.inl (j : Int)) (seatsOf N k)) (fun i => toR_nn av_nn) (show k + 1 ≤ N.length from hk)
  have h5 : sumR (fun j => toR (av N) (.inl (j : Int)) (seatsOf N k)) (k + 1) = sumR (fun j => toR (av N) (.inl (j : Int)) (seatsOf N k)) k + toR (av N) (.inl (k : Int)) (seatsOf N k) := rfl
  have h6 := portR_nn (f := av N) av_nn (seatsOf N k)
  unfold vi visF
  rw [if_neg e0]
  grind
theorem av_le_one (F : FwR N) {k : Nat} (hk : k < N.length) : av N k ≤ 1 := by
  have h := av_mul F hk
  have h1 := vi_le_one F hk
  have h2 := av_nn (N := N) k
  have h3 : (1 : Rat) ≤ ((N.getD k []).length : Nat) := by
    have := F.pos k hk
    have e : ((1 : Nat) : Rat) = 1 := rfl
    rw [← e]
    exact Rat.natCast_le_natCast.mpr this
  have h4 := Rat.mul_le_mul_of_nonneg_left h3 h2
  grind
theorem sumR_le {c : Rat} {k : Nat} (h : ∀ i, i < k → f i ≤ c) : sumR f k ≤ ((k : Nat) : Rat) * c := by
  induction k with
  | zero => show (0 : Rat) ≤ ((0 : Nat) : Rat) * c; have : ((0 : Nat) : Rat) = 0 := rfl; rw [this]; grind
  | succ k ih =>
    have h1 := ih fun i hi => h i (by omega)
    have h2 := h k (by omega)
    show sumR f k + f k ≤ ((k + 1 : Nat) : Rat) * c
    have e : ((1 : Nat) : Rat) = 1 := rfl
    rw [Rat.natCast_add, e]; grind
theorem toR_le_port (h : ∀ i, 0 ≤ f i) {z : Str} : ∀ L : Seats, toR f (.inr z) L ≤ portR f L
  | [] => Rat.le_refl
  | (i, .inl _) :: r => by
    have := toR_le_port h (z := z) r
    show (if _ = _ then f i else 0) + toR f _ r ≤ 0 + portR f r
    rw [if_neg (by intro z; cases z)]; grind
  | (i, .inr y) :: r => by
    have := toR_le_port h (z := z) r
    have := h i
    show (if _ = _ then f i else 0) + toR f _ r ≤ f i + portR f r
    split <;> grind
theorem portR_mono (h : ∀ i, 0 ≤ f i) {a b : Seats} : portR f a ≤ portR f (a ++ b) := by
  have := portR_nn h b
  rw [portR_append]; grind
theorem seats_split {k m : Nat} (h : k ≤ m) : ∃ L, seatsOf N m = seatsOf N k ++ L := by
  induction m with
  | zero => rw [show k = 0 by omega]; exact ⟨[], rfl⟩
  | succ m ih =>
    by_cases e : k = m + 1
    · rw [e]; exact ⟨[], by rw [List.append_nil]⟩
    · obtain ⟨L, hL⟩ := ih (by omega)
      exact ⟨L ++ stSeats m (N.getD m []), by show seatsOf N m ++ _ = _; rw [hL, List.append_assoc]⟩
end
end FB
set_option Elab.async false
set_option linter.all false
set_option maxRecDepth 100000
set_option maxHeartbeats 4000000
/-! zip of a tuple and a list: each side by a flag (a tuple: true). -/
namespace FB
open PySem PySem.Spec PyProof.Rows L2 Evl
def ItAt (tp : Bool) (h : Heap) (i l : Addr) (k : Nat) : Prop := match tp with | true => h.IsTupleIter i l k | false => h.IsListIter i l k
def CoAt (tp : Bool) (h : Heap) (l : Addr) (us : Array Value) : Prop := match tp with | true => h.IsTuple l us | false => h.IsList l us
section
variable {tp : Bool} {h h' : Heap} {i l c : Addr} {k : Nat} {us : Array Value}
theorem ItAt.but (t : ItAt tp h i l k) (e : Heap.ExtBut c h h') (n : i ≠ c) : ItAt tp h' i l k := by
  cases tp
  · exact Heap.IsListIter.extBut t e n
  · exact Heap.IsTupleIter.extBut t e n
theorem CoAt.but (t : CoAt tp h l us) (e : Heap.ExtBut c h h') (n : l ≠ c) : CoAt tp h' l us := by
  cases tp
  · exact Heap.IsList.extBut t e n
  · exact Heap.IsTuple.extBut t e n
theorem ItAt.kept (t : ItAt tp h i l k) (e : ∀ o, h.get? i = some o → h'.get? i = some o) : ItAt tp h' i l k := by
  cases tp
  · exact Heap.IsListIter.at t e
  · exact Heap.IsTupleIter.at t e
theorem ItAt.ob (t : ItAt tp h i l k) : ∃ o, h.get? i = some o ∧ ∀ v, o.data ≠ .cell v := by
  cases tp
  · obtain ⟨o, e, _, d⟩ := t
    exact ⟨o, e, fun v z => by rw [d] at z; cases z⟩
  · obtain ⟨o, e, _, d⟩ := t
    exact ⟨o, e, fun v z => by rw [d] at z; cases z⟩
theorem CoAt.ob (t : CoAt tp h l us) : ∃ o, h.get? l = some o := by
  cases tp
  · obtain ⟨o, e, _⟩ := t
    exact ⟨o, e⟩
  · obtain ⟨o, e, _⟩ := t
    exact ⟨o, e⟩
end
section
variable {P : Program} {w : World} {A : Around} {E : Value → Shared → Prop} {s : Shared} {tp tq : Bool} {i l : Addr} {k : Nat} {us : Array Value} {u : Value}
theorem nx_item {Q : Value → Shared → Prop} (t : ItAt tp s.heap i l k) (co : CoAt tp s.heap l us) (hu : us[k]? = some u) (q : ∀ h', ItAt tp h' i l (k + 1) → Heap.SameBut i s.heap h' → Q u { s with heap := h' }) :
    wpAny (model P w) A (Builtin.SmallTypes.nextOf (.ref i)) Q E s := by
  cases tp
  · exact wpAny_nextOf_list_item t co hu q
  · exact RZ.nextOf_tuple_item t co hu q
theorem nx_end {Q : Value → Shared → Prop} (hd : A.handled = none) (t : ItAt tp s.heap i l k) (co : CoAt tp s.heap l us) (hu : us[k]? = none)
    (q : ∀ h' e, Heap.ExtBut i s.heap h' → (∃ o, h'.get? e = some o ∧ o.cls = .type "StopIteration") → E (.ref e) { s with heap := h' }) : wpAny (model P w) A (Builtin.SmallTypes.nextOf (.ref i)) Q E s := by
  cases tp
  · exact wpAny_nextOf_list_end hd t co hu q
  · exact RZ.nextOf_tuple_end hd t co hu q
variable {z a1 a2 j l2 : Addr} {k2 : Nat} {ws : Array Value} {v x y : Value}
/-- what stands around a zip object: its two iterators and the tuple that it hands out -/
structure Zp (tp tq : Bool) (h : Heap) (z a1 a2 i j l l2 : Addr) (k k2 : Nat) (us ws : Array Value) (x y f : Value) : Prop where
  ap : ZipApart z a1 a2 i j l l2
  zip : IsZip h z a1 a2 f
  its : IsPair h a1 (.ref i) (.ref j)
  out : IsPair h a2 x y
  one : ItAt tp h i l k
  two : ItAt tq h j l2 k2
  co : CoAt tp h l us
  co2 : CoAt tq h l2 ws

section
variable {f : Value} {h : Heap}
theorem Zp.lz (Z : Zp tp tq h z a1 a2 i j l l2 k k2 us ws x y f) : z < h.objs.size := Heap.lt_size Z.zip
end
theorem zx_free (kz : IsZip s.heap z a1 a2 .none) {Q : Bool → Shared → Prop} (q : Q true s) : wpAny (model P w) A (Builtin.SmallTypes.ownedTupleIsFree (.ref z)) Q E s := by
  unfold Builtin.SmallTypes.ownedTupleIsFree; exact wpAny_bind (wpAny_field (x := .none) kz rfl rfl (wpAny_pure q))
theorem zx_hand {g : Heap} {n : Nat} (kz : IsZip g z a1 a2 .ellipsis) (hs : s.heap = g.push { cls := .type "tuple", data := .seq #[u, v] }) (hn : g.objs.size = n) {Q : Unit → Shared → Prop}
    (q : ∀ g8, IsZip g8 z a1 a2 (rawInt n) → (∀ c o, c ≠ z → g.get? c = some o → g8.get? c = some o) → IsPair g8 n u v → g8.objs.size = n + 1 → Q () { s with heap := g8 }) :
    wpAny (model P w) A (Builtin.SmallTypes.ownedTupleHandOut (.ref z) (.ref n)) Q E s := by
  subst hn
  unfold Builtin.SmallTypes.ownedTupleHandOut; refine wpAny_bind (wpAny_setField_rec (by rw [hs]; exact Heap.get?_push_of_some _ kz) (by simp) fun g7 kz7 e7 => ?_)
  refine wpAny_setField_rec (show IsZip g7 z a1 a2 (rawInt g.objs.size) from kz7) (by simp) fun g8 kz8 e8 => ?_
  have lift : ∀ c o, c ≠ z → g.get? c = some o → g8.get? c = some o := fun c o n e => e8.extBut _ _ n (e7.extBut _ _ n (by rw [hs]; exact Heap.get?_push_of_some _ e))
  have nz : g.objs.size ≠ z := Nat.ne_of_gt (Heap.lt_size kz)
  exact q g8 kz8 lift (e8.extBut _ _ nz (e7.extBut _ _ nz (by rw [hs]; exact Heap.get?_push_size _ rfl))) (by rw [e8.1, e7.1, hs, Heap.size_push])
/-- both sides have an item -/
theorem zx_item (Z : Zp tp tq s.heap z a1 a2 i j l l2 k k2 us ws x y .none) (hu : us[k]? = some u) (hv : ws[k2]? = some v) {Q : Value → Shared → Prop}
    (q : ∀ h', Zp tp tq h' z a1 a2 i j l l2 (k + 1) (k2 + 1) us ws u v (rawInt s.heap.objs.size) → IsPair h' s.heap.objs.size u v → h'.objs.size = s.heap.objs.size + 1 →
      (∀ c o, c ≠ z → c ≠ a2 → c ≠ i → c ≠ j → s.heap.get? c = some o → h'.get? c = some o) → Q (.ref s.heap.objs.size) { s with heap := h' }) :
    wpAny (model P w) A (Builtin.«zip.__next__» ⟨[.ref z], []⟩) (fun fin s' => ∃ r, fin = .done (.ret r) ∧ Q r s') E s := by
  have ap := Z.ap
  show wpAny (model P w) A (field (.ref z) 2 >>= _) _ E s
  refine wpAny_bind (wpAny_field (x := .bool false) Z.zip rfl rfl ?_)
  show wpAny (model P w) A (field (.ref z) 3 >>= _) _ E s
  refine wpAny_bind (wpAny_field (x := .ref a1) Z.zip rfl rfl (wpAny_bind (wpAny_seqItems Z.its rfl ?_)))
  show wpAny (model P w) A (Builtin.SmallTypes.ownedTupleIsFree (.ref z) >>= _) _ E s
  refine wpAny_bind (zx_free Z.zip ?_)
  simp only [if_true]
  refine wpAny_bind (wpAny_rule (wpAny_bind (wpAny_field (x := .ref a2) Z.zip rfl rfl (wpAny_bind (wpAny_setField_rec Z.zip (by simp) fun g1 kz1 e1 => ?_)))))
  have kz1 : IsZip g1 z a1 a2 .ellipsis := kz1
  refine wpAny_bind ?_
  simp only [List.zipIdx_cons, List.zipIdx_nil, List.forIn_cons, List.forIn_nil]
  -- the first side
  refine wpAny_bind (wpAny_bind (wpAny_onRaise (show wpAny (model P w) A (Builtin.SmallTypes.nextOf (.ref i) >>= _) _ _ _ from wpAny_bind (nx_item (Z.one.but e1.extBut ap.i1z) (Z.co.but e1.extBut ap.l1z) hu fun g2 t2 e2 => wpAny_pure ?_))))
  have ko2 : IsPair g2 a2 x y := e2.extBut _ _ ap.TOi1 (e1.extBut _ _ ap.TOz Z.out)
  refine wpAny_bind (wpAny_seqItems ko2 rfl (wpAny_bind (wpAny_updateSeq_pair ko2 fun g3 ko3 e3 => ?_)))
  have ko3 : IsPair g3 a2 u y := ko3
  refine wpAny_bind (wpAny_letGo (wpAny_pure ?_))
  -- the second side
  have two3 : ItAt tq g3 j l2 k2 := ((Z.two.but e1.extBut ap.i2z).but e2.extBut ap.i12.symm).but e3.extBut ap.TOi2.symm
  have cw3 : CoAt tq g3 l2 ws := ((Z.co2.but e1.extBut ap.l2z).but e2.extBut ap.l2i1).but e3.extBut ap.l2TO
  refine wpAny_bind (wpAny_bind (wpAny_onRaise (show wpAny (model P w) A (Builtin.SmallTypes.nextOf (.ref j) >>= _) _ _ _ from wpAny_bind (nx_item two3 cw3 hv fun g4 t4 e4 => wpAny_pure ?_))))
  have ko4 : IsPair g4 a2 u y := e4.extBut _ _ ap.TOi2 ko3
  refine wpAny_bind (wpAny_seqItems ko4 rfl (wpAny_bind (wpAny_updateSeq_pair ko4 fun g5 ko5 e5 => ?_)))
  have ko5 : IsPair g5 a2 u v := ko5
  refine wpAny_bind (wpAny_letGo (wpAny_pure (wpAny_pure (wpAny_bind (wpAny_seqItems ko5 rfl (wpAny_bind (wpAny_newTuple ?_)))))))
  have size5 : g5.objs.size = s.heap.objs.size := by rw [e5.1, e4.1, e3.1, e2.1, e1.1]
  have kz5 : IsZip g5 z a1 a2 .ellipsis := e5.extBut _ _ ap.TOz.symm (e4.extBut _ _ ap.i2z.symm (e3.extBut _ _ ap.TOz.symm (e2.extBut _ _ ap.i1z.symm kz1)))
  have far : ∀ c o, c ≠ z → c ≠ a2 → c ≠ i → c ≠ j → s.heap.get? c = some o → g5.get? c = some o := fun c o n1 n2 n3 n4 e =>
    e5.extBut _ _ n2 (e4.extBut _ _ n4 (e3.extBut _ _ n2 (e2.extBut _ _ n3 (e1.extBut _ _ n1 e))))
  have one5 : ItAt tp g5 i l (k + 1) := ((t2.but e3.extBut ap.TOi1.symm).but e4.extBut ap.i12).but e5.extBut ap.TOi1.symm
  have two5 : ItAt tq g5 j l2 (k2 + 1) := t4.but e5.extBut ap.TOi2.symm
  have co5 : CoAt tp g5 l us := ((((Z.co.but e1.extBut ap.l1z).but e2.extBut ap.l1i1).but e3.extBut ap.l1TO).but e4.extBut ap.l1i2).but e5.extBut ap.l1TO
  have cw5 : CoAt tq g5 l2 ws := (cw3.but e4.extBut ap.l2i2).but e5.extBut ap.l2TO
  show wpAny (model P w) A (Builtin.SmallTypes.ownedTupleHandOut (.ref z) (.ref g5.objs.size) >>= _) _ _ _
  refine wpAny_bind (zx_hand kz5 rfl rfl fun g8 kz8 lift new8 size8 => ?_)
  have kept : ∀ {c o}, c ≠ z → g5.get? c = some o → g8.get? c = some o := fun n e => lift _ _ n e
  have coK : ∀ {b : Bool} {l : Addr} {us : Array Value}, l ≠ z → CoAt b g5 l us → CoAt b g8 l us := fun {b l us} n t => by
    cases b
    · exact Heap.IsList.at t fun o e => lift _ _ n e
    · exact Heap.IsTuple.at t fun o e => lift _ _ n e
  have Z8 : Zp tp tq g8 z a1 a2 i j l l2 (k + 1) (k2 + 1) us ws u v (rawInt s.heap.objs.size) :=
    ⟨ap, by rw [← size5]; exact kz8, kept ap.TIz (far _ _ ap.TIz ap.TITO ap.TIi1 ap.TIi2 Z.its), kept ap.TOz ko5, one5.kept fun o e => lift _ _ ap.i1z e, two5.kept fun o e => lift _ _ ap.i2z e, coK ap.l1z co5, coK ap.l2z cw5⟩
  have fin := q g8 Z8 (by rw [← size5]; exact new8) (by rw [size8, size5]) fun c o n1 n2 n3 n4 e => lift c o n1 (far c o n1 n2 n3 n4 e)
  rw [← size5] at fin
  exact wpAny_pure ⟨_, rfl, fin⟩
/-- one side has ended -/
theorem zx_end (hd : A.handled = none) (Z : Zp tp tq s.heap z a1 a2 i j l l2 k k2 us ws x y .none) (hn : us[k]? = none ∨ ws[k2]? = none) {Q : Fin → Shared → Prop}
    (q : ∀ h' e, (∀ c o, c ≠ z → c ≠ a2 → c ≠ i → c ≠ j → s.heap.get? c = some o → h'.get? c = some o) → (∃ o, h'.get? e = some o ∧ o.cls = .type "StopIteration") → E (.ref e) { s with heap := h' }) :
    wpAny (model P w) A (Builtin.«zip.__next__» ⟨[.ref z], []⟩) Q E s := by
  have ap := Z.ap
  show wpAny (model P w) A (field (.ref z) 2 >>= _) _ E s
  refine wpAny_bind (wpAny_field (x := .bool false) Z.zip rfl rfl ?_)
  show wpAny (model P w) A (field (.ref z) 3 >>= _) _ E s
  refine wpAny_bind (wpAny_field (x := .ref a1) Z.zip rfl rfl (wpAny_bind (wpAny_seqItems Z.its rfl ?_)))
  show wpAny (model P w) A (Builtin.SmallTypes.ownedTupleIsFree (.ref z) >>= _) _ E s
  refine wpAny_bind (zx_free Z.zip ?_)
  simp only [if_true]
  refine wpAny_bind (wpAny_rule (wpAny_bind (wpAny_field (x := .ref a2) Z.zip rfl rfl (wpAny_bind (wpAny_setField_rec Z.zip (by simp) fun g1 kz1 e1 => ?_)))))
  have kz1 : IsZip g1 z a1 a2 .ellipsis := kz1
  refine wpAny_bind ?_
  simp only [List.zipIdx_cons, List.zipIdx_nil, List.forIn_cons, List.forIn_nil]
  cases hk : us[k]? with
  | none =>
    refine wpAny_bind (wpAny_bind (wpAny_onRaise (show wpAny (model P w) A (Builtin.SmallTypes.nextOf (.ref i) >>= _) _ _ _ from wpAny_bind (nx_end hd (Z.one.but e1.extBut ap.i1z) (Z.co.but e1.extBut ap.l1z) hk fun g2 e e2 ⟨oe, hoe, hce⟩ => ?_))))
    have kz2 : IsZip g2 z a1 a2 .ellipsis := e2 _ _ ap.i1z.symm kz1
    have ne : e ≠ z := fun c => by subst c; rw [kz2] at hoe; cases hoe; simp at hce
    exact wpAny_setField_rec kz2 (by simp) fun g3 _ e3 => q g3 e (fun c o n1 _ n3 _ t => e3.extBut _ _ n1 (e2 _ _ n3 (e1.extBut _ _ n1 t))) ⟨oe, e3.extBut _ _ ne hoe, hce⟩
  | some u =>
    have hk2 : ws[k2]? = none := hn.resolve_left fun c => by rw [hk] at c; cases c
    refine wpAny_bind (wpAny_bind (wpAny_onRaise (show wpAny (model P w) A (Builtin.SmallTypes.nextOf (.ref i) >>= _) _ _ _ from wpAny_bind (nx_item (Z.one.but e1.extBut ap.i1z) (Z.co.but e1.extBut ap.l1z) hk fun g2 t2 e2 => wpAny_pure ?_))))
    have ko2 : IsPair g2 a2 x y := e2.extBut _ _ ap.TOi1 (e1.extBut _ _ ap.TOz Z.out)
    refine wpAny_bind (wpAny_seqItems ko2 rfl (wpAny_bind (wpAny_updateSeq_pair ko2 fun g3 ko3 e3 => wpAny_bind (wpAny_letGo (wpAny_pure ?_)))))
    have two3 : ItAt tq g3 j l2 k2 := ((Z.two.but e1.extBut ap.i2z).but e2.extBut ap.i12.symm).but e3.extBut ap.TOi2.symm
    have cw3 : CoAt tq g3 l2 ws := ((Z.co2.but e1.extBut ap.l2z).but e2.extBut ap.l2i1).but e3.extBut ap.l2TO
    refine wpAny_bind (wpAny_bind (wpAny_onRaise (show wpAny (model P w) A (Builtin.SmallTypes.nextOf (.ref j) >>= _) _ _ _ from wpAny_bind (nx_end hd two3 cw3 hk2 fun g4 e e4 ⟨oe, hoe, hce⟩ => ?_))))
    have kz4 : IsZip g4 z a1 a2 .ellipsis := e4 _ _ ap.i2z.symm (e3.extBut _ _ ap.TOz.symm (e2.extBut _ _ ap.i1z.symm kz1))
    have ne : e ≠ z := fun c => by subst c; rw [kz4] at hoe; cases hoe; simp at hce
    exact wpAny_setField_rec kz4 (by simp) fun g5 _ e5 => q g5 e (fun c o n1 n2 n3 n4 t => e5.extBut _ _ n1 (e4 _ _ n4 (e3.extBut _ _ n2 (e2.extBut _ _ n3 (e1.extBut _ _ n1 t))))) ⟨oe, e5.extBut _ _ ne hoe, hce⟩
theorem zn_item (Z : Zp tp tq s.heap z a1 a2 i j l l2 k k2 us ws x y .none) (hu : us[k]? = some u) (hv : ws[k2]? = some v) {Q : Option Value → Shared → Prop}
    (q : ∀ h', Zp tp tq h' z a1 a2 i j l l2 (k + 1) (k2 + 1) us ws u v (rawInt s.heap.objs.size) → IsPair h' s.heap.objs.size u v → h'.objs.size = s.heap.objs.size + 1 →
      (∀ c o, c ≠ z → c ≠ a2 → c ≠ i → c ≠ j → s.heap.get? c = some o → h'.get? c = some o) → Q (some (.ref s.heap.objs.size)) { s with heap := h' }) : wpAny (model P w) A (pyNext (.ref z)) Q E s := by
  have ty : s.TypeIs (.ref z) "zip" := ⟨_, Z.zip, rfl⟩
  unfold pyNext
  exact wpAny_bind (wpAny_attempt (wpAny_callSpecial?_slot (name := Str.ofString "__next__") ty PySem.F.slot_zip_next (wpAny_call_entry PySem.F.slot_zip_next ty PySem.F.entry_zip_next (zx_item Z hu hv fun h' b1 b2 b3 b4 => wpAny_pure (q h' b1 b2 b3 b4)) (PySem.F.args_zip_next_1 _))))
theorem zn_end (hd : A.handled = none) (Z : Zp tp tq s.heap z a1 a2 i j l l2 k k2 us ws x y .none) (hn : us[k]? = none ∨ ws[k2]? = none) {Q : Option Value → Shared → Prop}
    (q : ∀ h', (∀ c o, c ≠ z → c ≠ a2 → c ≠ i → c ≠ j → s.heap.get? c = some o → h'.get? c = some o) → Q none { s with heap := h' }) : wpAny (model P w) A (pyNext (.ref z)) Q E s := by
  have ty : s.TypeIs (.ref z) "zip" := ⟨_, Z.zip, rfl⟩
  unfold pyNext
  refine wpAny_bind (wpAny_attempt (wpAny_callSpecial?_slot (name := Str.ofString "__next__") ty PySem.F.slot_zip_next (wpAny_call_entry PySem.F.slot_zip_next ty PySem.F.entry_zip_next (zx_end (show A.in1.handled = none from hd) Z hn fun h' e far st => ?_) (PySem.F.args_zip_next_1 _))))
  obtain ⟨oe, ge, ce⟩ := st
  exact wpAny_bind (wpAny_isInstance (T := "StopIteration") (b := true) ⟨oe, ge, ce⟩ isSubtype_stop (wpAny_pure (q _ far)))
end
/-- a tuple at a and a list at b, turn by turn: a new pair -/
def ItzX (K : PySem.W.Frag) (a b : Addr) : It :=
  ⟨fun i H => ∃ (xs ys : List V) (x y : V), SqT K H a xs ∧ SqL K H b ys ∧ xs[i]? = some x ∧ ys[i]? = some y,
    fun i H v H' => ∃ T x y, v = .ref T ∧ H T = none ∧ H' = upd H T (.tup [x, y]) ∧ (∀ xs, SqT K H a xs → xs[i]? = some x) ∧ ∀ ys, SqL K H b ys → ys[i]? = some y,
    fun i H => ∃ xs ys : List V, SqT K H a xs ∧ SqL K H b ys ∧ (xs.length ≤ i ∨ ys.length ≤ i)⟩

section
variable {P : Program} {w : World} {A : Around} {E : Value → Shared → Prop} {s : Shared} {a b : Addr} {us ws : Array Value}
abbrev zm1 (h : Heap) (a : Addr) : Heap := h.push { cls := .type "tuple_iterator", data := .fields #[.ref a, .int 0 0] }
abbrev zm2 (h : Heap) (a b : Addr) : Heap := (zm1 h a).push { cls := .type "list_iterator", data := .fields #[.ref b, .int 0 0] }
abbrev zm3 (h : Heap) (a b : Addr) : Heap := (zm2 h a b).push { cls := .type "tuple", data := .seq #[.ref h.objs.size, .ref (zm1 h a).objs.size] }
abbrev zm4 (h : Heap) (a b : Addr) : Heap := (zm3 h a b).push { cls := .type "tuple", data := .seq #[.none, .none] }
abbrev zm5 (h : Heap) (a b : Addr) : Heap := (zm4 h a b).push { cls := .type "zip", data := .fields #[.none, .bool false, .bool false, .ref (zm2 h a b).objs.size, .ref (zm3 h a b).objs.size] }
theorem zm_new (a b : Addr) (us ws : Array Value) :
    Meets (Builtin.«zip.__new__» ⟨[.type "zip", .ref a, .ref b], []⟩) (fun _ R s => s.heap.IsTuple a us ∧ s.heap.IsList b ws ∧ R (.ok (.ret (.ref (zm4 s.heap a b).objs.size))) { s with heap := zm5 s.heap a b }) :=
  .of_wp fun P w A R s h => by
    obtain ⟨hp, g, d, tk, os⟩ := s; obtain ⟨ta, tb, q⟩ := h
    have sz := sub_zip
    have t1 : Heap.IsTuple (Shared.heap ⟨hp, g, d, tk, os⟩) a us := ta
    have t2 : Heap.IsList (Shared.heap ⟨hp.push { cls := .type "tuple_iterator", data := .fields #[.ref a, .int 0 0] }, g, d, tk, os⟩) b ws := Heap.IsList.push tb _
    wp_walk using wpAny_pyIter_tuple t1, wpAny_pyIter_list t2
    exact ⟨_, rfl, q⟩
theorem zm_call (ta : s.heap.IsTuple a us) (tb : s.heap.IsList b ws) {Q : Value → Shared → Prop}
    (q : ∀ h', Zp true false h' (s.heap.objs.size + 4) (s.heap.objs.size + 2) (s.heap.objs.size + 3) s.heap.objs.size (s.heap.objs.size + 1) a b 0 0 us ws .none .none .none →
      (∀ c o, s.heap.get? c = some o → h'.get? c = some o) → Q (.ref (s.heap.objs.size + 4)) { s with heap := h' }) : wpAny (model P w) A (call (.type "zip") [.ref a, .ref b]) Q E s := by
  refine callType_new PySem.F.called_zip (by decide) (PySem.F.typeCall_zip_2 _ _) (PySem.F.newCall_zip_2 _ _) (fun ob => PySem.F.args_object_init_3 ob _ _) PySem.F.entry_zip_new (zm_new a b us ws) ⟨ta, tb, ?_⟩
  have s1 : (zm1 s.heap a).objs.size = s.heap.objs.size + 1 := Heap.size_push ..
  have s2 : (zm2 s.heap a b).objs.size = s.heap.objs.size + 2 := by rw [Heap.size_push, s1]
  have s3 : (zm3 s.heap a b).objs.size = s.heap.objs.size + 3 := by rw [Heap.size_push, s2]
  have s4 : (zm4 s.heap a b).objs.size = s.heap.objs.size + 4 := by rw [Heap.size_push, s3]
  have up1 : ∀ c o, s.heap.get? c = some o → (zm1 s.heap a).get? c = some o := fun c o e => Heap.get?_push_of_some _ e
  have up2 : ∀ c o, (zm1 s.heap a).get? c = some o → (zm2 s.heap a b).get? c = some o := fun c o e => Heap.get?_push_of_some _ e
  have up3 : ∀ c o, (zm2 s.heap a b).get? c = some o → (zm3 s.heap a b).get? c = some o := fun c o e => Heap.get?_push_of_some _ e
  have up4 : ∀ c o, (zm3 s.heap a b).get? c = some o → (zm4 s.heap a b).get? c = some o := fun c o e => Heap.get?_push_of_some _ e
  have up5 : ∀ c o, (zm4 s.heap a b).get? c = some o → (zm5 s.heap a b).get? c = some o := fun c o e => Heap.get?_push_of_some _ e
  have up : ∀ c o, s.heap.get? c = some o → (zm5 s.heap a b).get? c = some o := fun c o e => up5 _ _ (up4 _ _ (up3 _ _ (up2 _ _ (up1 _ _ e))))
  have o5 : (zm5 s.heap a b).get? (zm4 s.heap a b).objs.size = some _ := Heap.get?_push_size _ rfl
  have o4 : (zm5 s.heap a b).get? (zm3 s.heap a b).objs.size = some _ := up5 _ _ (Heap.get?_push_size _ rfl)
  have o3 : (zm5 s.heap a b).get? (zm2 s.heap a b).objs.size = some _ := up5 _ _ (up4 _ _ (Heap.get?_push_size _ rfl))
  have o2 : (zm5 s.heap a b).get? (zm1 s.heap a).objs.size = some _ := up5 _ _ (up4 _ _ (up3 _ _ (Heap.get?_push_size _ rfl)))
  have o1 : (zm5 s.heap a b).get? s.heap.objs.size = some _ := up5 _ _ (up4 _ _ (up3 _ _ (up2 _ _ (Heap.get?_push_size _ rfl))))
  show _ ∧ _
  rw [s2, s3, s4] at o5
  rw [s1, s2] at o3
  rw [s3] at o4
  rw [s1] at o2
  rw [s4]
  have la : a < s.heap.objs.size := let ⟨o, e, _⟩ := ta; Heap.lt_size e
  have lb : b < s.heap.objs.size := let ⟨o, e, _⟩ := tb; Heap.lt_size e
  exact ⟨⟨_, o5, rfl⟩, q _ ⟨PySem.W.ktu_apart s.heap.objs.size a b la lb, o5, o3, o4, ⟨_, o1, rfl, rfl⟩, ⟨_, o2, rfl, rfl⟩, Heap.IsTuple.at ta fun o e => up _ _ e, Heap.IsList.at tb fun o e => up _ _ e⟩ up⟩
end
theorem turn_zipX {P : Program} {w : World} {K : PySem.W.Frag} {elts : List Expr} {kk : Nat} {tpos : Pos} {a b z a1 a2 i1 i2 : Addr} (ap : ZipApart z a1 a2 i1 i2 a b) :
    Turn P w K (.Tuple elts kk tpos) (ItzX K a b) [z, a1, a2, i1, i2] z (fun i h => IsZip h z a1 a2 .none ∧ IsPair h a1 (.ref i1) (.ref i2) ∧ (∃ x y, IsPair h a2 x y) ∧ ItAt true h i1 a i ∧ ItAt false h i2 b i) where
  mem := List.mem_cons_self ..
  obj := fun i h st c hc => by
    obtain ⟨kz, k1, ⟨x, y, k2⟩, t1, t2⟩ := st
    simp only [List.mem_cons, List.not_mem_nil, or_false] at hc
    rcases hc with rfl | rfl | rfl | rfl | rfl
    · exact ⟨_, kz, fun v q => by cases q⟩
    · exact ⟨_, k1, fun v q => by cases q⟩
    · exact ⟨_, k2, fun v q => by cases q⟩
    · exact t1.ob
    · exact t2.ob
  keep := fun i h h' st k => by
    obtain ⟨kz, k1, ⟨x, y, k2⟩, t1, t2⟩ := st
    exact ⟨k z (by simp) _ kz, k a1 (by simp) _ k1, ⟨x, y, k a2 (by simp) _ k2⟩, t1.kept fun o q => k i1 (by simp) o q, t2.kept fun o q => k i2 (by simp) o q⟩
  item := by
    intro X hP hw hK hc i pins s σ H E I hf st hg
    subst hP hw hK
    obtain ⟨kz, k1, ⟨x0, y0, k2⟩, t1, t2⟩ := st
    obtain ⟨xs, ys, x, y, qx, qy, hx, hy⟩ := hg
    obtain ⟨its, rv, p, _⟩ := I.tuple qx
    obtain ⟨jts, rw, p2, _⟩ := I.list qy
    obtain ⟨u, hu, ru⟩ := rv.get hx
    obtain ⟨v, hv, rv2⟩ := rw.get hy
    have lz : z < s.heap.objs.size := Heap.lt_size kz
    have Z : Zp true false s.heap z a1 a2 i1 i2 a b i i its.toArray jts.toArray x0 y0 .none := ⟨ap, kz, k1, k2, t1, t2, p, p2.isList⟩
    refine zn_item Z (u := u) (v := v) (by simpa using hu) (by simpa using hv) fun g Zg new _ far => ⟨_, rfl, wpAny_letOwnedTupleGo_zip (s := { s with heap := g }) Zg.zip fun g2 kz2 sb => ?_⟩
    have new2 : g2.get? s.heap.objs.size = some { cls := .type "tuple", data := .seq #[u, v] } := (sb.2 _ (Nat.ne_of_gt lz)).trans new
    have ok : ObjOk X.prog X.w (upd H s.heap.objs.size (.tup [x, y])) g2 s.heap.objs.size (.tup [x, y]) := ⟨by show 2 ≤ sizeLine; decide, [u, v], .cons ru (.cons rv2 .nil), ⟨_, new2, rfl, _, rfl⟩⟩
    have I1 : Inv X pins σ (upd H s.heap.objs.size (.tup [x, y])) { s with heap := g2 } :=
      I.turnedNew (t' := s.toks) (ch := [z, a1, a2, i1, i2]) (fun c o hb e => (sb.2 c (fun n => hb (by simp [n]))).trans (far c o (fun n => hb (by simp [n])) (fun n => hb (by simp [n])) (fun n => hb (by simp [n])) (fun n => hb (by simp [n])) e)) hf (Nat.le_refl _) ok
    refine ⟨.ref s.heap.objs.size, _, I1, rfl, ⟨_, x, y, rfl, I.hok.fresh (Nat.le_refl _), rfl, fun l hl => by rw [I.tuple_inj hl qx]; exact hx, fun l hl => by rw [I.list_inj hl qy]; exact hy⟩, ⟨kz2, ?_, ⟨u, v, ?_⟩, ?_, ?_⟩, fun c hcm => ?_⟩
    · exact (sb.2 _ ap.TIz).trans Zg.its
    · exact (sb.2 _ ap.TOz).trans Zg.out
    · exact Zg.one.kept fun o e => (sb.2 _ ap.i1z).trans e
    · exact Zg.two.kept fun o e => (sb.2 _ ap.i2z).trans e
    · have lc : c < s.heap.objs.size := by
        simp only [List.mem_cons, List.not_mem_nil, or_false] at hcm
        rcases hcm with rfl | rfl | rfl | rfl | rfl
        · exact lz
        · exact Heap.lt_size k1
        · exact Heap.lt_size k2
        · obtain ⟨_, e, _⟩ := t1.ob; exact Heap.lt_size e
        · obtain ⟨_, e, _⟩ := t2.ob; exact Heap.lt_size e
      rw [upd_ne (Nat.ne_of_lt lc)]; exact (hf c hcm).1
  done := by
    intro X hP hw hK hc i pins s σ H E I hf st hg
    subst hP hw hK
    obtain ⟨kz, k1, ⟨x0, y0, k2⟩, t1, t2⟩ := st
    obtain ⟨xs, ys, qx, qy, en⟩ := hg
    obtain ⟨its, rv, p, _⟩ := I.tuple qx
    obtain ⟨jts, rw, p2, _⟩ := I.list qy
    have n1 := rv.length
    have n2 := rw.length
    have Z : Zp true false s.heap z a1 a2 i1 i2 a b i i its.toArray jts.toArray x0 y0 .none := ⟨ap, kz, k1, k2, t1, t2, p, p2.isList⟩
    have en2 : its.toArray[i]? = none ∨ jts.toArray[i]? = none := en.imp (fun q => by simp; omega) (fun q => by simp; omega)
    exact zn_end (I.ok.hd hc) Z en2 fun g far => ⟨rfl, I.turnedL (t' := s.toks) (ch := [z, a1, a2, i1, i2]) (fun c o hb e => far c o (fun n => hb (by simp [n])) (fun n => hb (by simp [n])) (fun n => hb (by simp [n])) (fun n => hb (by simp [n])) e) hf⟩
  self := fun A i s Q E st h => wpAny_pyIter_zip st.1 h
def iZipX (K : PySem.W.Frag) (ta : TA) : TI := fun σ H R => ta σ H fun vs H1 => ∃ a b xs ys, vs = [.ref a, .ref b] ∧ SqT K H1 a xs ∧ SqL K H1 b ys ∧ R (ItzX K a b) H1
theorem pi_zipX {X : Cx} {e e2 : Expr} {ta : TA} {p pos tpos : Pos} {elts : List Expr} {kk : Nat} (hg : Gl X "zip") (hm : X.mg "zip" = none) (ha : PA X [e, e2] ta)
    (hs : starEach [e, e2] X.env = (false, eval e X.env) :: starEach [e2] X.env := by rfl) (hpl : (backTo pos (starEach [e2] X.env)).any (·.1) = false := by rfl) :
    PI X (.Tuple elts kk tpos) (.Call (.Name "zip" p) [e, e2] [] pos) (iZipX X.K ta) := by
  refine ⟨fun pins s σ H R I h => Call_ (ld_blt I hg hm PyProof.Rows.boot_zip (PyProof.Rows.callWith_type1 (thn (ha.run pos pins s σ H _ I h) fun us s1 ⟨vs, H1, I1, r1, q1⟩ => ?_) hs hpl))⟩
  obtain ⟨a, b, xs, ys, rfl, qx, qy, q⟩ := q1
  obtain rfl : us = [.ref a, .ref b] := by
    cases r1 with
    | cons r rr =>
      cases rr with
      | cons r2 rr =>
        cases rr
        cases r
        cases r2
        rfl
  obtain ⟨its, rv, p1, _⟩ := I1.tuple qx
  obtain ⟨jts, rw, p2, _⟩ := I1.list qy
  refine zm_call p1 p2.isList fun g Z far => wpAny_pyIter_zip Z.zip ?_
  have I2 : Inv X pins σ H1 { s1 with heap := g } := I1.kept (t' := s1.toks) far
  refine ⟨s1.heap.objs.size + 4, [s1.heap.objs.size + 4, s1.heap.objs.size + 2, s1.heap.objs.size + 3, s1.heap.objs.size, s1.heap.objs.size + 1], _, _, H1, rfl, I2, turn_zipX Z.ap, ⟨Z.zip, Z.its, ⟨_, _, Z.out⟩, Z.one, Z.two⟩, fun c hc => ?_, q⟩
  have hle : s1.heap.objs.size ≤ c := by
    simp only [List.mem_cons, List.not_mem_nil, or_false] at hc
    rcases hc with rfl | rfl | rfl | rfl | rfl <;> omega
  exact I1.fpOk hle (I1.hok.fresh hle)
theorem x_iZipX {K : PySem.W.Frag} {ta : TA} {σ : L2.St} {H : Hp} {R : It → Hp → Prop} : iZipX K ta σ H R = ta σ H fun vs H1 => ∃ a b xs ys, vs = [.ref a, .ref b] ∧ SqT K H1 a xs ∧ SqL K H1 b ys ∧ R (ItzX K a b) H1 := rfl
theorem walk_zipX {K : PySem.W.Frag} {a b : Addr} {xs ys : List V} (hn : xs.length = ys.length) : Walk (ItzX K a b) xs.length (fun H => SqT K H a xs ∧ SqL K H b ys) (YPair (fun i => xs[i]?) (fun i => ys[i]?)) := by
  refine ⟨fun i _ hi q => ?_, fun _ q => ⟨xs, ys, q.1, q.2, by omega⟩, fun i H v H' _ q y => ?_⟩
  · have h2 : i < ys.length := by omega
    exact ⟨xs, ys, xs[i], ys[i], q.1, q.2, by simp [hi], by simp [h2]⟩
  · obtain ⟨T, x, z, h1, h2, h3, h4, h5⟩ := y
    exact ⟨T, x, z, h1, h2, h3, h4 xs q.1, h5 ys q.2⟩
end FB
set_option Elab.async false
set_option linter.all false
set_option maxRecDepth 100000
set_option maxHeartbeats 4000000
set_option exponentiation.threshold 3000
/-! Sets of ints and texts: made, filled, asked, sorted; {x}; gcd, lcm. -/
namespace FB
open PySem PySem.Spec PyProof.Rows L2 Evl
section
variable {P : Program} {w : World} {A : Around} {E : Value → Shared → Prop} {s : Shared} {a : Addr} {S : Key → Bool} {n : Nat}
theorem setM_fresh {h : Heap} : SetM0 P w (h.push { cls := .type "set", dict := none, data := .set #[] 0 (.fresh 0 0 (!w.params.followText "set-order")) }) h.objs.size (fun _ => false) 0 :=
  ⟨_, #[], 0, _, Heap.get?_push_size _ rfl, ⟨rfl, rfl, rfl⟩, rfl, rfl, ⟨fun e he => by simp at he, fun k => by simp, by simp, by decide, by rfl, List.Pairwise.nil, by
    show _ ∨ (!w.params.followText "set-order") = true
    cases w.params.followText "set-order" <;> simp⟩⟩
theorem setM_at {h h' : Heap} (R : SetM0 P w h a S n) (k : ∀ o, h.get? a = some o → h'.get? a = some o) : SetM0 P w h' a S n := by
  obtain ⟨o, es, ep, t, ho, r⟩ := R
  exact ⟨o, es, ep, t, k o ho, r⟩
theorem setM_add {k : Key} {x : Value} {Q : Value → Shared → Prop} (hk : (mixKind P w).is k x = true) (hsc : x.scannable = true) (R : SetM0 P w s.heap a S n) (room : n + 1 < scanBound)
    (q : ∀ h', Heap.SameBut a s.heap h' → SetM0 P w h' a (fun j => S j || decide (j = k)) (if S k = true then n else n + 1) → Q .none { s with heap := h', toks := s.toks + 1 }) :
    wpAny (model P w) A (call (.builtin "set.add") [.ref a, x]) Q E s := by
  refine wpAny_call_entry PySem.F.slot_set_add R.setOf.typeIs PySem.F.entry_set_add ?_ (PySem.F.args_set_add_2 _ _)
  unfold Builtin.«set.add» Builtin.Frozenset.oneOther; simp only [List.isEmpty_nil, bind_assoc]
  unfold Builtin.Frozenset.addrOf setAdd; refine wpAny_bind (wpAny_pure ?_)
  try dsimp only
  refine wpAny_bind (wpAny_pure ?_)
  try dsimp only
  refine wpAny_bind (wpAny_holding (wpAny_bind ((mixKind P w).pyHash hk (setM_hashed (s := { s with toks := s.toks + 1 }) hk hsc R room fun g sb r => ?_))))
  show wpAny (model P w) _ (ret Value.none) _ _ _
  exact wpAny_pure ⟨_, rfl, q g sb r⟩
/-- the members, sorted: ints -/
theorem setM_sortedI {Q : Value → Shared → Prop} (R : SetM0 P w s.heap a S n) (hh : A.handled = none) (hI : ∀ k, S k = true → ∃ i : Int, k = .inl i)
    (q : ∀ s' p (out : Array Value) (c : Nat) (ns : List Int), (∀ b o, s.heap.get? b = some o → s'.heap.get? b = some o) → s'.gens = s.gens → s'.os = s.os → s.heap.objs.size ≤ p →
      s'.heap.get? p = some (seqObj "list" out c) → IntsAre out.toList ns → ns.Pairwise (· < ·) → (∀ i : Int, i ∈ ns ↔ S (.inl i) = true) → ns.length = n → Q (.ref p) s') :
    wpAny (model P w) A (call (.builtin "sorted") [.ref a]) Q E s := by
  obtain ⟨o, es, ep, t, ho, hx, hd, hn, T⟩ := R
  have hlen : es.toList.length = n := by rw [Array.length_toList]; exact hn
  have few := T.few
  refine Calls.call_function_entry kind_sorted plain_sorted entry_sorted (args_sorted1 _) (show wpAny (model P w) _ (Builtin.«sorted» _) _ _ _ from ?_)
  unfold Builtin.«sorted»; refine wpAny_bind (m := checkCount "sorted" 1 1 _) (wpAny_pure (wpAny_bind (collect_set (A := A.in1) hh ⟨o, ho, hx.1, hd⟩ T.fits T.few T.ris T.led fun s1 vs k1 hz g1 o1 pm => ?_)))
  have vl : vs.length = n := by rw [pm.length_eq, List.length_map]; exact hlen
  have el : ∀ e ∈ es.toList, ∃ (i : Int) (tk : Tok), e.2 = .int i tk ∧ elKey e = .inl i := fun e he => by
    obtain ⟨⟨k, hk, _⟩, _⟩ := T.el e he
    obtain ⟨i, rfl⟩ := hI k ((T.mem k).mpr ⟨e, he, hk⟩)
    rcases keyIs_shape (show keyIs (.inl i) e.2 = true from hk) with ⟨j, tk, ek, ev⟩ | ⟨z, tk, ek, ev⟩
    · cases ek; exact ⟨i, tk, ev, is_elKey hk⟩
    · cases ek
  have hin : IntsAre vs (vs.map Builtin.Re.reRawOf) := ints_of vs fun v hv => by
    obtain ⟨e, he, rfl⟩ := List.mem_map.mp (pm.mem_iff.mp hv)
    obtain ⟨i, tk, ev, _⟩ := el e he
    exact ⟨i, tk, ev⟩
  have pk : (vs.map Builtin.Re.reRawOf).Perm (es.toList.map fun e => Builtin.Re.reRawOf e.2) := by
    have := pm.map Builtin.Re.reRawOf
    rwa [List.map_map] at this
  refine wpAny_bind (wpAny_newList ?_ (by rw [vl, ← hlen, sizeLine_eq, Array.length_toList]; unfold scanBound at few; omega))
  have oL : (s1.heap.push (seqObj "list" vs.toArray 0)).get? s1.heap.objs.size = some (seqObj "list" vs.toArray 0) := Heap.get?_push_size _ rfl
  refine wpAny_bind (wpAny_holding (wpAny_call_entry PyProof.Rows.slot_list_sort ⟨_, oL, rfl⟩ PyProof.Rows.entry_list_sort (list_sort_treeAny oL hin (by rw [vl, ← hlen, sizeLine_eq, Array.length_toList]; unfold scanBound at few; omega) fun out ns b1 b2 b3 => ⟨_, rfl, ?_⟩) (args_list_sort _)))
  obtain ⟨c, hc⟩ := sortedHeap_at (vs := vs) (out := out) oL
  have pn : ns.Perm (es.toList.map fun e => Builtin.Re.reRawOf e.2) := b2.trans pk
  have raw : ∀ e ∈ es.toList, elKey e = .inl (Builtin.Re.reRawOf e.2) := fun e he => by
    obtain ⟨i, tk, ev, ek⟩ := el e he
    rw [ek, ev]; rfl
  have mk : es.toList.map elKey = (es.toList.map fun e => Builtin.Re.reRawOf e.2).map Sum.inl := by
    rw [List.map_map]; exact List.map_congr_left fun e he => raw e he
  have nd : (es.toList.map fun e => Builtin.Re.reRawOf e.2).Nodup := by
    have := T.nd
    rw [mk] at this
    exact (List.pairwise_map.mp this).imp fun h e => h (by rw [e])
  refine wpAny_pure ⟨_, rfl, q _ s1.heap.objs.size out c ns (fun b u e => ?_) g1 o1 hz hc b1 (lt_of_le_nodup ns b3 (pn.nodup_iff.mpr nd)) (fun i => ?_) (by rw [pn.length_eq, List.length_map]; exact hlen)⟩
  · have e1 := k1 b u e
    have lb := Heap.lt_size e1
    show (sortedHeap (s1.heap.push (seqObj "list" vs.toArray 0)) s1.heap.objs.size vs out).get? b = some u
    rw [sortedHeap_old (Nat.ne_of_lt lb) (by rw [size_push']; exact Nat.lt_succ_of_lt lb)]; exact Heap.get?_push_of_some _ e1
  · rw [pn.mem_iff, T.key, mk]
    simp
theorem strs_of : ∀ (l : List Value), (∀ v ∈ l, ∃ k tk, v = Value.str k tk) → ∃ ss : List Str, StrsAre l ss ∧ ∀ z, z ∈ ss ↔ ∃ tk, Value.str z tk ∈ l
  | [], _ => ⟨[], .nil, fun z => by simp⟩
  | v :: l, h => by
    obtain ⟨k, tk, rfl⟩ := h v (List.mem_cons_self ..)
    obtain ⟨ss, h1, h2⟩ := strs_of l fun u hu => h u (List.mem_cons_of_mem _ hu)
    refine ⟨k :: ss, .cons k tk h1, fun z => ?_⟩
    rw [List.mem_cons, h2]
    constructor
    · rintro (rfl | ⟨t, ht⟩)
      · exact ⟨tk, List.mem_cons_self ..⟩
      · exact ⟨t, List.mem_cons_of_mem _ ht⟩
    · rintro ⟨t, ht⟩
      rcases List.mem_cons.mp ht with e | e
      · cases e; exact .inl rfl
      · exact .inr ⟨t, e⟩

/-- the members, sorted: texts -/
theorem setM_sortedS {Q : Value → Shared → Prop} (R : SetM0 P w s.heap a S n) (hh : A.handled = none) (hI : ∀ k, S k = true → ∃ z : Str, k = .inr z)
    (q : ∀ s' p (out : Array Value) (c : Nat) (zs : List Str), (∀ b o, s.heap.get? b = some o → s'.heap.get? b = some o) → s'.gens = s.gens → s'.os = s.os → s.heap.objs.size ≤ p →
      s'.heap.get? p = some (seqObj "list" out c) → StrsAre out.toList zs → sortedS zs = true → zs.Nodup → (∀ z : Str, z ∈ zs ↔ S (.inr z) = true) → zs.length = n → Q (.ref p) s') :
    wpAny (model P w) A (call (.builtin "sorted") [.ref a]) Q E s := by
  obtain ⟨o, es, ep, t, ho, hx, hd, hn, T⟩ := R
  have hlen : es.toList.length = n := by rw [Array.length_toList]; exact hn
  have few := T.few
  refine Calls.call_function_entry kind_sorted plain_sorted entry_sorted (args_sorted1 _) (show wpAny (model P w) _ (Builtin.«sorted» _) _ _ _ from ?_)
  unfold Builtin.«sorted»; refine wpAny_bind (m := checkCount "sorted" 1 1 _) (wpAny_pure (wpAny_bind (collect_set (A := A.in1) hh ⟨o, ho, hx.1, hd⟩ T.fits T.few T.ris T.led fun s1 vs k1 hz g1 o1 pm => ?_)))
  have vl : vs.length = n := by rw [pm.length_eq, List.length_map]; exact hlen
  have el : ∀ e ∈ es.toList, ∃ (z : Str) (tk : Tok), e.2 = .str z tk ∧ elKey e = .inr z := fun e he => by
    obtain ⟨⟨k, hk, _⟩, _⟩ := T.el e he
    obtain ⟨z, rfl⟩ := hI k ((T.mem k).mpr ⟨e, he, hk⟩)
    rcases keyIs_shape (show keyIs (.inr z) e.2 = true from hk) with ⟨j, tk, ek, ev⟩ | ⟨y, tk, ek, ev⟩
    · cases ek
    · cases ek; exact ⟨z, tk, ev, is_elKey hk⟩
  obtain ⟨ss, hS, hm⟩ := strs_of vs fun v hv => by
    obtain ⟨e, he, rfl⟩ := List.mem_map.mp (pm.mem_iff.mp hv)
    obtain ⟨z, tk, ev, _⟩ := el e he
    exact ⟨z, tk, ev⟩
  refine wpAny_bind (wpAny_newList ?_ (by rw [vl, ← hlen, sizeLine_eq, Array.length_toList]; unfold scanBound at few; omega))
  have oL : (s1.heap.push (seqObj "list" vs.toArray 0)).get? s1.heap.objs.size = some (seqObj "list" vs.toArray 0) := Heap.get?_push_size _ rfl
  refine wpAny_bind (wpAny_holding (wpAny_call_entry PyProof.Rows.slot_list_sort ⟨_, oL, rfl⟩ PyProof.Rows.entry_list_sort (list_sort_treeKAny strKind_oneLt oL hS.keysOf (fun v₁ v₂ rest e => keyKind_strs (by rw [← e]; exact hS)) (by rw [vl, ← hlen, sizeLine_eq, Array.length_toList]; unfold scanBound at few; omega) fun st' b1 b2 => ⟨_, rfl, ?_⟩) (args_list_sort _)))
  obtain ⟨zs, c1, c2, c3⟩ := sorted_out_str hS b1 b2
  obtain ⟨c, hc⟩ := sortedHeap_at (vs := vs) (out := (arrOf st').map (·.2)) oL
  have strV : ∀ {l : List Value} {ss : List Str}, StrsAre l ss → l.map (fun v => match v with | .str z _ => z | _ => ⟨#[]⟩) = ss := fun {l ss} h => by
    induction h with
    | nil => rfl
    | cons y t r ih => rw [List.map_cons, ih]
  have ps : ss.Perm (es.toList.map fun e => match e.2 with | .str z _ => z | _ => ⟨#[]⟩) := by
    have := pm.map (fun v => match v with | .str z _ => z | _ => (⟨#[]⟩ : Str))
    rw [strV hS, List.map_map] at this
    exact this
  have mk : es.toList.map elKey = (es.toList.map fun e => match e.2 with | .str z _ => z | _ => (⟨#[]⟩ : Str)).map Sum.inr := by
    rw [List.map_map]
    exact List.map_congr_left fun e he => by
      obtain ⟨z, tk, ev, ek⟩ := el e he
      rw [ek]
      show _ = Sum.inr (match e.2 with | .str z _ => z | _ => (⟨#[]⟩ : Str))
      rw [ev]
  have nd : (es.toList.map fun e => match e.2 with | .str z _ => z | _ => (⟨#[]⟩ : Str)).Nodup := by
    have := T.nd
    rw [mk] at this
    exact (List.pairwise_map.mp this).imp fun h e => h (by rw [e])
  have pz := c2.trans ps
  refine wpAny_pure ⟨_, rfl, q _ s1.heap.objs.size _ c zs (fun b u e => ?_) g1 o1 hz hc c1 c3 (pz.nodup_iff.mpr nd) (fun z => ?_) (by rw [pz.length_eq, List.length_map]; exact hlen)⟩
  · have e1 := k1 b u e
    have lb := Heap.lt_size e1
    show (sortedHeap (s1.heap.push (seqObj "list" vs.toArray 0)) s1.heap.objs.size vs _).get? b = some u
    rw [sortedHeap_old (Nat.ne_of_lt lb) (by rw [size_push']; exact Nat.lt_succ_of_lt lb)]; exact Heap.get?_push_of_some _ e1
  · rw [pz.mem_iff, T.key, mk]
    simp
end
/-! ### the rules -/
section
variable {X : Cx} {pins : List (Addr × Obj)} {σ : L2.St} {H : Hp} {s : Shared} {a : Addr} {S : Key → Bool} {n : Nat}
theorem setM_get {P : Program} {w : World} (hP : X.prog = P) (hw : X.w = w) (I : Inv X pins σ H s) (ha : H a = some (SetM P w a S n)) : SetM0 X.prog X.w s.heap a S n := by
  subst hP hw
  exact (I.hok a _ ha).1
theorem setM_ne {P : Program} {w : World} {o : HO} (h : o ≠ SetM P w a S n := by intro z; cases z) : o ≠ SetM P w a S n := h
/-- set() -/
def rSetNew (P : Program) (w : World) : List V → Hp → VK → Prop := fun xs H Q => xs = [] ∧ ∀ p, H p = none → Q (.ref p) (upd H p (SetM P w p (fun _ => false) 0))
theorem call_setM {P : Program} {w : World} (hP : X.prog = P := by rfl) (hw : X.w = w := by rfl) : CallR X (.type "set") (rSetNew P w) := by
  subst hP hw
  intro pins s σ H xs us Q I r ⟨ex, q⟩
  subst ex
  cases r
  exact setR_new fun _ => ⟨.ref _, upd H s.heap.objs.size (SetM X.prog X.w s.heap.objs.size (fun _ => false) 0), I.laid (t' := s.toks) (fun b u e => Heap.get?_push_of_some _ e) (Nat.le_refl _) (setM_obj setM_fresh), rfl, q _ (I.hok.fresh (Nat.le_refl _))⟩
/-- m.add(k) -/
def rSetAdd (P : Program) (w : World) : V → List V → Hp → VK → Prop := fun x xs H Q => ∃ (a : Addr) (k : Key) (S : Key → Bool) (n : Nat), x = V.ref a ∧ xs = [kV k] ∧ H a = some (SetM P w a S n) ∧ n + 1 < scanBound ∧
  Q .non (upd H a (SetM P w a (fun j => S j || decide (j = k)) (if S k = true then n else n + 1)))
theorem inv_add {k : Key} {h' : Heap} (I : Inv X pins σ H s) (ha : H a = some (SetM X.prog X.w a S n)) (sb : Heap.SameBut a s.heap h') (r : SetM0 X.prog X.w h' a (fun j => S j || decide (j = k)) (if S k = true then n else n + 1)) :
    Inv X pins σ (upd H a (SetM X.prog X.w a (fun j => S j || decide (j = k)) (if S k = true then n else n + 1))) { s with heap := h', toks := s.toks + 1 } :=
  I.write (e := a) (t' := s.toks + 1) (by rw [ha]; exact True.intro) (.inl rfl) (fun b u hb hu => (sb.2 b hb).trans hu) (let ⟨o, _, _, _, e, _⟩ := r; ⟨o, e⟩) (setM_obj r)
theorem mt_setAdd : MtR X "set.add" (rSetAdd X.prog X.w) := fun pins s σ H x xs v us Q I rx rxs ⟨a, k, S, n, ex, exs, ha, room, q⟩ => by
  subst ex exs
  cases rx
  cases rxs with
  | cons ry rt =>
    cases rt
    exact setM_add (kV_is ry) (key_scan ry) (setM_get rfl rfl I ha) room fun g sb r => ⟨.non, _, inv_add I ha sb r, rfl, q⟩
def tSetAdd (P : Program) (w : World) (to : TE) (t : TA) : TE := fun σ H Q => to σ H fun x H1 => (∃ a S n, x = V.ref a ∧ H1 a = some (SetM P w a S n)) ∧ t σ H1 fun xs H2 => rSetAdd P w x xs H2 Q
variable {o e : Expr} {es : List Expr} {to : TE} {t : TA} {ap cp : Pos}
theorem pe_setAdd {P : Program} {w : World} (ho : PE X o to) (ha : PA X (e :: es) t) (hP : X.prog = P := by rfl) (hw : X.w = w := by rfl) (h1 : attributeBase o "add" X.env (eval o X.env) = eval o X.env := by rfl)
    (h2 : ((backTo cp (starEach (e :: es) X.env)).all (fun x => !x.1) && (backToKw cp (keywordEach [] X.env)).all (fun x => x.1.isSome) && decide ((e :: es).length + ([] : List Keyword).length + (if ([] : List Keyword).isEmpty then 0 else 1) < 30)) = true := by rfl)
    (h3 : (ap.endLine == cp.line) = true := by rfl) (h4 : starEach (e :: es) X.env = (false, eval e X.env) :: starEach es X.env := by rfl) (h5 : (backTo cp (starEach es X.env)).any (·.1) = false := by rfl) : PE X (.Call (.Attribute o "add" ap) (e :: es) [] cp) (tSetAdd P w to t) := by
  subst hP hw
  refine ⟨fun pins s σ H Q I h => wpAny_Call_method_late h1 h2 h3 rfl (thn (ho.run pins s σ H _ I h) fun v s1 ⟨x, H1, I1, r1, ty, q1⟩ => ?_)⟩
  obtain ⟨a, S, n, rfl, hka⟩ := ty
  have R := (setM_get rfl rfl I1 hka).setOf
  cases r1
  refine ⟨"set", "set.add", PySem.F.plainAttrs_set, PySem.F.slot_set_add, PySem.F.type_set_add, R.typeIs, R.noDict, ?_⟩
  have run := ha.run cp pins s1 σ H1 _ I1 q1
  rw [h4] at run ⊢
  exact Calls.callWith_builtin (show (false || (backTo cp (starEach es X.env)).any (·.1)) = false by rw [h5]; rfl) (Calls.evalArgs_plain (thn run fun us s2 ⟨vs, H2, I2, r2, q2⟩ => mt_setAdd pins s2 σ H2 (.ref a) vs (.ref a) us Q I2 rfl r2 q2))
/-- k in m, k not in m -/
def rSetIn (P : Program) (w : World) (neg : Bool) : V → V → Hp → VK → Prop := fun x y H Q => ∃ (k : Key) (a : Addr) (S : Key → Bool) (n : Nat), x = kV k ∧ y = V.ref a ∧ H a = some (SetM P w a S n) ∧ Q (.bl (if neg then !S k else S k)) H
theorem op_inM {P : Program} {w : World} (hP : X.prog = P := by rfl) (hw : X.w = w := by rfl) : OpR X (compareOp .In) (rSetIn P w false) := by
  subst hP hw
  intro pins s σ H x y v u Q I rx ry ⟨k, a, S, n, ex, ey, ha, q⟩
  subst ex ey
  cases ry
  exact wpAny_inSet_of (kV_is rx) (key_scan rx) (setM_get rfl rfl I ha).setOf ⟨.bl (S k), H, I.tok _, rfl, q⟩
/-- sorted(m): ints; texts -/
def rSortM (P : Program) (w : World) : List V → Hp → VK → Prop := fun vs H Q => ∃ (a : Addr) (S : Key → Bool) (n : Nat), vs = [V.ref a] ∧ H a = some (SetM P w a S n) ∧ n ≤ 1000 ∧
  (((∀ k, S k = true → ∃ i : Int, k = .inl i) ∧ ∀ (ns : List Int) (p : Addr), ns.Pairwise (· < ·) → (∀ i : Int, i ∈ ns ↔ S (.inl i) = true) → ns.length = n → H p = none → Q (.ref p) (upd H p (.lst (ns.map V.int)))) ∨
   ((∀ k, S k = true → ∃ z : Str, k = .inr z) ∧ ∀ (zs : List Str) (p : Addr), sortedS zs = true → zs.Nodup → (∀ z : Str, z ∈ zs ↔ S (.inr z) = true) → zs.length = n → H p = none → Q (.ref p) (upd H p (.lst (zs.map V.str)))))
theorem call_sortM {P : Program} {w : World} (hc : X.calm = true) (hP : X.prog = P := by rfl) (hw : X.w = w := by rfl) : CallR X (.builtin "sorted") (rSortM P w) := by
  subst hP hw
  intro pins s σ H vs us Q I r ⟨a, S, n, ex, ha, hn, hq⟩
  subst ex
  rw [Vals.ref1 r]
  have lay : ∀ (s' : Shared) (p : Nat) (out : Array Value) (c : Nat) (ys : List V), (∀ b o, s.heap.get? b = some o → s'.heap.get? b = some o) → s'.gens = s.gens → s'.os = s.os → s.heap.objs.size ≤ p →
      s'.heap.get? p = some (seqObj "list" out c) → ys.length ≤ 1000 → Vals ys out.toList → (H p = none → Q (.ref p) (upd H p (.lst ys))) → EP X pins σ Q (.ref p) s' := by
    intro s' p out c ys k g o hp hg hl hv q
    have hl2 : ys.length ≤ sizeLine := by rw [sizeLine_eq]; omega
    have hn : H p = none := I.hok.fresh hp
    have J : Inv X pins σ (upd H p (.lst ys)) { s with heap := s'.heap, gens := s'.gens, drawn := s'.drawn, toks := s'.toks } := I.call (ch := []) (Un.laid k hp hn) (I.hok.laid k hp ⟨hl2, out.toList, c, hv, hg⟩) (by rw [g]; exact I.bare) (fun _ z => nomatch z)
    have e : s' = { s with heap := s'.heap, gens := s'.gens, drawn := s'.drawn, toks := s'.toks } := by
      cases s'; cases s; cases o; rfl
    rw [e]
    exact ⟨.ref p, _, J, rfl, q hn⟩
  rcases hq with ⟨hI, q⟩ | ⟨hI, q⟩
  · exact setM_sortedI (setM_get rfl rfl I ha) (I.ok.hd hc) hI fun s' p out c ns k g o hp hg hi hs hm hl => lay s' p out c (ns.map V.int) k g o hp hg (by rw [List.length_map]; omega) (vals_of_ints hi) fun hn => q ns p hs hm hl hn
  · exact setM_sortedS (setM_get rfl rfl I ha) (I.ok.hd hc) hI fun s' p out c zs k g o hp hg hi hs nd hm hl => lay s' p out c (zs.map V.str) k g o hp hg (by rw [List.length_map]; omega) (vals_of_strs hi) fun hn => q zs p hs nd hm hl hn
/-- {x} -/
def tSet1 (P : Program) (w : World) (t : TE) : TE := fun σ H Q => ∀ p, H p = none → t σ (upd H p (SetM P w p (fun _ => false) 0)) fun x H1 => ∃ k : Key, x = kV k ∧ H1 p = some (SetM P w p (fun _ => false) 0) ∧ Q (.ref p) (upd H1 p (SetM P w p (fun j => decide (j = k)) 1))
theorem newSet_at {P : Program} {w : World} {A : Around} {E : Value → Shared → Prop} {Q : Value → Shared → Prop} (q : Q (.ref s.heap.objs.size) { s with heap := s.heap.push { cls := .type "set", dict := none, data := .set #[] 0 (.fresh 0 0 (!w.params.followText "set-order")) } }) :
    wpAny (model P w) A (newSet (.type "set")) Q E s := by
  unfold newSet
  unfold setsByText
  refine wpAny_bind (wpAny_bind (wpAny_askSetting (wpAny_pure ?_)))
  dsimp only
  exact wpAny_newObj_type q
theorem pe_set1 {P : Program} {w : World} {te : TE} {ps : Pos} (h : PE X e te) (hcd : PySem.W.kdsCode X.K X.env.code = true) (hP : X.prog = P := by rfl) (hw : X.w = w := by rfl) (hs : PySem.W.kdsPlain e = true := by rfl) : PE X (.Set [e] 0 ps) (tSet1 P w te) := by
  subst hP hw
  refine ⟨fun pins s σ H Q I hq => ?_⟩
  rw [arm_eval_Set]
  refine wpAny_bind (wpAny_standAt (wpAny_bind (PySem.W.kds_main I.kIn hcd fun b => ?_)))
  rw [PySem.W.kds_star [e] (by rw [List.all_cons, hs]; rfl), arm_evalEach_cons]
  show wpAny (model X.prog X.w) X.A (setDisplay (displayRoad 0 [e]) b [(false, eval e X.env >>= fun v => standAt ps >>= fun _ => pure v)]) _ _ s
  unfold setDisplay
  have road : displayRoad 0 [e] = .oneByOne := by unfold displayRoad; simp
  rw [road]
  rw [if_neg (show ¬ ((DisplayRoad.oneByOne == DisplayRoad.constants) = true) from by decide)]
  refine wpAny_bind (newSet_at ?_)
  dsimp only
  simp only [List.length_cons, List.length_nil, List.findIdx?_cons, List.findIdx?_nil, Option.getD_none, List.take_succ_cons, List.take_zero, List.map_cons, List.map_nil, List.drop_succ_cons, List.drop_zero, List.drop_nil, List.take_nil]
  rw [show (if 0 + 1 > 30 then 0 else ((if false = true then some 0 else Option.map (fun i => i + 1) none) : Option Nat).getD (0 + 1)) = 1 from rfl, List.take_succ_cons, List.take_zero, List.drop_succ_cons, List.drop_zero, List.map_cons, List.map_nil, List.forIn_nil]
  have fresh : H s.heap.objs.size = none := I.hok.fresh (Nat.le_refl _)
  have I0 : Inv X pins σ (upd H s.heap.objs.size (SetM X.prog X.w s.heap.objs.size (fun _ => false) 0)) { s with heap := s.heap.push { cls := .type "set", dict := none, data := .set #[] 0 (.fresh 0 0 (!X.w.params.followText "set-order")) } } :=
    I.laid (t' := s.toks) (fun b u e => Heap.get?_push_of_some _ e) (Nat.le_refl _) (setM_obj setM_fresh)
  refine wpAny_bind (wpAny_holding (wpAny_bind (PySem.W.kds_all ps [e] _ _ (thn (h.run pins _ σ _ _ I0 (hq _ fresh)) fun v s1 ⟨x, H1, I1, r1, k, ex, hm, q⟩ => ?_))))
  subst ex
  refine wpAny_bind (wpAny_holding ?_)
  rw [List.forIn_cons]
  have R := setM_get rfl rfl I1 hm
  refine wpAny_bind (wpAny_bind (wpAny_bind ?_))
  unfold setAdd; refine wpAny_holding (wpAny_bind ((mixKind X.prog X.w).pyHash (kV_is r1) (setM_hashed (s := { s1 with toks := s1.toks + 1 }) (kV_is r1) (key_scan r1) R (by decide) fun g sb r => ?_)))
  have J := inv_add I1 hm sb r
  have eS : (fun j => (fun _ : Key => false) j || decide (j = k)) = fun j => decide (j = k) := by funext j; simp
  rw [show (if (fun _ : Key => false) k = true then 0 else 0 + 1) = 1 from rfl, eS] at J
  refine wpAny_pure ?_
  dsimp only
  rw [List.forIn_nil]
  refine wpAny_pure ?_
  rw [if_neg (show ¬ ((DisplayRoad.oneByOne == DisplayRoad.unsure) = true) from by decide)]
  exact wpAny_pure (wpAny_bind (wpAny_pure (wpAny_pure (wpAny_pure ⟨.ref _, _, J, rfl, q⟩))))
/-! ### readings -/
section
variable {P : Program} {w : World} {H : Hp} {Q : VK} {a : Addr} {S : Key → Bool} {n : Nat} {k : Key}
theorem x_setNew (q : ∀ p H', H p = none → Ex H H' → H' p = some (SetM P w p (fun _ => false) 0) → Q (.ref p) H') : rSetNew P w [] H Q := ⟨rfl, fun p hp => q p _ hp (Ex.new hp) upd_same⟩
def rSetAddI (P : Program) (w : World) (x : V) (H : Hp) : Prop := ∃ a S n, x = V.ref a ∧ H a = some (SetM P w a S n)
theorem x_tSetAdd {to : TE} {t : TA} {σ : L2.St} : tSetAdd P w to t σ H Q = to σ H fun x H1 => rSetAddI P w x H1 ∧ t σ H1 fun xs H2 => rSetAdd P w x xs H2 Q := rfl
theorem x_setIs (h : H a = some (SetM P w a S n)) : rSetAddI P w (.ref a) H := ⟨a, S, n, rfl, h⟩
theorem x_setAdd (h : H a = some (SetM P w a S n)) (hn : n < 1000) (q : ∀ H', (∀ x o, x ≠ a → H x = some o → H' x = some o) → (∀ x, x ≠ a → H' x = none → H x = none) → H' a = some (SetM P w a (fun j => S j || decide (j = k)) (if S k = true then n else n + 1)) → Q .non H') :
    rSetAdd P w (.ref a) [kV k] H Q :=
  ⟨a, k, S, n, rfl, rfl, h, by unfold scanBound; omega, q _ (fun x o hx e => by rw [upd_ne hx]; exact e) (fun x hx e => by rw [upd_ne hx] at e; exact e) upd_same⟩
theorem x_setIn {neg : Bool} (h : H a = some (SetM P w a S n)) (q : Q (.bl (if neg then !S k else S k)) H) : rSetIn P w neg (kV k) (.ref a) H Q := ⟨k, a, S, n, rfl, rfl, h, q⟩
theorem x_sortMI (h : H a = some (SetM P w a S n)) (hn : n ≤ 1000) (hI : ∀ k, S k = true → ∃ i : Int, k = .inl i)
    (q : ∀ (ns : List Int) (p : Addr) (H' : Hp), ns.Pairwise (· < ·) → (∀ i : Int, i ∈ ns ↔ S (.inl i) = true) → ns.length = n → H p = none → Ex H H' → H' p = some (.lst (ns.map V.int)) → Q (.ref p) H') : rSortM P w [.ref a] H Q :=
  ⟨a, S, n, rfl, h, hn, .inl ⟨hI, fun ns p h1 h2 h3 h4 => q ns p _ h1 h2 h3 h4 (Ex.new h4) upd_same⟩⟩
theorem x_sortMS (h : H a = some (SetM P w a S n)) (hn : n ≤ 1000) (hI : ∀ k, S k = true → ∃ z : Str, k = .inr z)
    (q : ∀ (zs : List Str) (p : Addr) (H' : Hp), sortedS zs = true → zs.Nodup → (∀ z : Str, z ∈ zs ↔ S (.inr z) = true) → zs.length = n → H p = none → Ex H H' → H' p = some (.lst (zs.map V.str)) → Q (.ref p) H') : rSortM P w [.ref a] H Q :=
  ⟨a, S, n, rfl, h, hn, .inr ⟨hI, fun zs p h1 h2 h3 h4 h5 => q zs p _ h1 h2 h3 h4 h5 (Ex.new h5) upd_same⟩⟩
/-- {x}, x: it gets its item -/
def rSet1 (P : Program) (w : World) (p : Addr) (x : V) (H1 : Hp) (Q : VK) : Prop := ∃ k : Key, x = kV k ∧ H1 p = some (SetM P w p (fun _ => false) 0) ∧ Q (.ref p) (upd H1 p (SetM P w p (fun j => decide (j = k)) 1))
theorem x_tSet1I {i : Int} {σ : L2.St} (q : ∀ p H', H p = none → Ex H H' → H' p = some (SetM P w p (fun j => decide (j = (.inl i : Key))) 1) → Q (.ref p) H') : tSet1 P w (tC (.int i)) σ H Q := fun p hp =>
  ⟨.inl i, rfl, upd_same, by rw [upd_upd]; exact q p _ hp (Ex.new hp) upd_same⟩
end
end
/-! ### gcd and lcm, numbers of any size that stay small enough -/
section
variable {X : Cx}
def rGcdU (vs : List V) (H : Hp) (Q : VK) : Prop := ∃ a b : Int, vs = [.int a, .int b] ∧ Q (.int ((Nat.gcd a.natAbs b.natAbs : Nat) : Int)) H
theorem call_gcdU : CallR X (.builtin "math.gcd") rGcdU := cr_gcd
def rLcmU (vs : List V) (H : Hp) (Q : VK) : Prop := ∃ a b : Nat, vs = [.int a, .int b] ∧ a < 2 ^ 1000 ∧ b < 2 ^ 1000 ∧ Q (.int ((Nat.lcm a b : Nat) : Int)) H
theorem call_lcmU : CallR X (.builtin "math.lcm") rLcmU := by
  intro pins s σ H vs us Q I r ⟨a, b, ex, ha, hb, q⟩
  subst ex
  obtain ⟨t, u, rfl⟩ := Vals.int2 r
  have l1 : (max 1 (a : Int).natAbs).log2 ≤ 999 := PySem.W.mg_log (by show max 1 (a : Int).natAbs < 2 ^ 1000; rw [Int.natAbs_natCast]; exact Nat.max_lt.mpr ⟨by decide, ha⟩)
  have l2 : (max (a : Int).natAbs (b : Int).natAbs).log2 ≤ 999 := PySem.W.mg_log (by show max (a : Int).natAbs (b : Int).natAbs < 2 ^ 1000; rw [Int.natAbs_natCast, Int.natAbs_natCast]; exact Nat.max_lt.mpr ⟨ha, hb⟩)
  have e1 : (Nat.lcm 1 (a : Int).natAbs).lcm (b : Int).natAbs = Nat.lcm a b := by rw [PySem.W.mc_lcm_one, Int.natAbs_natCast, Int.natAbs_natCast]
  have hs : ((((Nat.lcm 1 (a : Int).natAbs).lcm (b : Int).natAbs : Nat) : Int)).natAbs.log2 < bitsLine := by
    rw [e1, Int.natAbs_natCast]
    have : Nat.lcm a b < 2 ^ 2000 := Nat.lt_of_le_of_lt (PySem.W.mc_lcm_le a b) (by
      rw [show (2 : Nat) ^ 2000 = 2 ^ 1000 * 2 ^ 1000 by rw [← Nat.pow_add]]
      exact Nat.mul_lt_mul'' ha hb)
    have h3 : (Nat.lcm a b).log2 ≤ 1999 := PySem.W.mg_log this
    have : bitsLine = 134217728 := by decide
    omega
  have m := PySem.W.mg_run_lcm (a : Int) t (b : Int) u (by omega) (by omega) hs
  rw [e1] at m
  exact PySem.call_function_meets PySem.W.MGF.kind_lcm PySem.W.MGF.plain_lcm PySem.W.MGF.entry_lcm (PySem.W.MGF.args_lcm _ _) m.meets ⟨.int _, H, I.tok _, ⟨_, rfl⟩, q⟩
end
end FB
set_option Elab.async false
set_option linter.all false
set_option maxRecDepth 100000
set_option maxHeartbeats 4000000
/-! list(d.values()); k in d; loops over a dict's keys; == of dicts of tuples. -/
namespace FB
open PySem PySem.Spec PyProof.Rows L2 Evl
theorem vals_snd {kvs : List (Key × V)} {vs : List (Key × Value)} (r : KV kvs vs) : Vals (kvs.map (·.2)) (vs.map (·.2)) := by
  unfold KV at r
  induction r with
  | nil => exact .nil
  | cons h _ ih => exact .cons h.2 ih
/-- the view of the values of the dict at d -/
def ViewO (v d : Addr) : HO := .ext fun h => h.IsValuesView v d
section
variable {X : Cx}
def rVals : V → List V → Hp → VK → Prop := fun x xs H Q => ∃ (d : Addr) (kvs : List (Key × V)), x = .ref d ∧ xs = [] ∧ H d = some (.dK kvs) ∧ ∀ v, H v = none → Q (.ref v) (upd H v (ViewO v d))
theorem mt_vals : MtR X "dict.values" rVals := by
  intro pins s σ H x xs v us Q I rx rxs ⟨d, kvs, ex, exs, hd, q⟩
  subst ex exs
  cases rx
  cases rxs
  obtain ⟨_, lo, vs, _, dd⟩ := dk_of I.hok hd
  refine call_meetsIn PySem.F.slot_dict_values dd.typeIs PySem.F.entry_dict_values (PySem.F.args_dict_values_1 _) (meets_dict_values (mixKind X.prog X.w) d lo) ⟨⟨vs, dd⟩, ?_⟩
  have view : (s.heap.push { cls := .type "dict_values", data := .fields #[.ref d] }).IsValuesView s.heap.objs.size d := ⟨_, Heap.get?_push_size _ rfl, rfl, rfl⟩
  refine ⟨.ref s.heap.objs.size, upd H s.heap.objs.size (ViewO s.heap.objs.size d), I.laid (t' := s.toks) (fun b u e => Heap.get?_push_of_some _ e) (Nat.le_refl _) ⟨view, ⟨_, Heap.get?_push_size _ rfl⟩, fun h1 h2 r k => let ⟨o, e, c, f⟩ := r; ⟨o, k _ e, c, f⟩⟩, rfl, q _ (I.hok.fresh (Nat.le_refl _))⟩
/-- list(view) -/
def rListV : List V → Hp → VK → Prop := fun xs H Q => ∃ (v d : Addr) (kvs : List (Key × V)), xs = [.ref v] ∧ H v = some (ViewO v d) ∧ H d = some (.dK kvs) ∧ ∀ l, H l = none → Q (.ref l) (upd H l (.lst (kvs.map (·.2))))
theorem call_listV (hc : X.calm = true) : CallR X (.type "list") rListV := by
  intro pins s σ H xs us Q I r ⟨v, d, kvs, ex, hv, hd, q⟩
  subst ex
  rw [Vals.ref1 r]
  obtain ⟨hz, _, vs, kv, dd⟩ := dk_of I.hok hd
  obtain ⟨ep, hat⟩ := dd.dictAt
  have view : s.heap.IsValuesView v d := (I.hok v _ hv).1
  have hl : kvs.length = vs.length := kv.length
  refine PySem.W.kdl_call (PySem.W.kdl_values (knd := mixKind X.prog X.w) (kvs := vs) (ep := ep)) (I.ok.hd hc) ⟨view, hat⟩ (by omega) fun h' tk acc c k hg hit => ?_
  have rel : Vals (kvs.map (·.2)) acc.toList := by
    have e : acc.toList = vs.map (·.2) := by
      apply List.ext_getElem
      · rw [Array.length_toList, List.length_map]; exact hit.1
      · intro i h1 h2
        have hi : i < acc.size := by rw [Array.length_toList] at h1; exact h1
        obtain ⟨k2, e2⟩ := hit.2 i _ (Array.getElem?_eq_getElem hi)
        rw [List.getElem_map, Array.getElem_toList]
        have hi2 : i < vs.length := by rw [List.length_map] at h2; exact h2
        rw [List.getElem?_eq_getElem hi2] at e2
        rw [Option.some.inj e2]
    rw [e]
    exact vals_snd kv
  exact ⟨.ref s.heap.objs.size, upd H s.heap.objs.size (.lst (kvs.map (·.2))), I.laid (t' := tk) k (Nat.le_refl _) ⟨by rw [List.length_map]; exact hz, acc.toList, c, rel, by rw [Array.toArray_toList]; exact hg⟩, rfl, q _ (I.hok.fresh (Nat.le_refl _))⟩
end
/-- == of two dicts of the same keys, the values equal data -/
def rEqDD (K : PySem.W.Frag) : R2 := fun x y H Q => ∃ (a b : Addr) (ks ls : List (Key × V)), x = .ref a ∧ y = .ref b ∧ H a = some (.dK ks) ∧ H b = some (.dK ls) ∧ ks.length = ls.length ∧
  (∀ p ∈ ks, ∃ u d, valV ls p.1 = some u ∧ Dp K H p.2 d ∧ Dp K H u d ∧ SeqAt.shaped d = true ∧ d.depth ≤ 60 ∧ PyData.eqv d d = true) ∧ Q (.bl true) H
theorem op_eqDD {X : Cx} {K : PySem.W.Frag} (hu : X.A.units + 64 < cLine) (hK : X.K = K := by rfl) : OpR X (compareOp .Eq) (rEqDD K) := by
  subst hK
  intro pins s σ H x y v u Q I rx ry ⟨a, b, ks, ls, ex, ey, ha, hb, hl, hp, q⟩
  subst ex ey
  cases rx
  cases ry
  obtain ⟨_, ya, va, ra, da⟩ := (show ObjOk X.prog X.w H s.heap a (.dK ks) from I.hok a _ ha)
  obtain ⟨_, yb, vb, rb, db⟩ := (show ObjOk X.prog X.w H s.heap b (.dK ls) from I.hok b _ hb)
  have ih : ∀ x y v u, (∃ d, Dp X.K H x d ∧ Dp X.K H y d ∧ SeqAt.shaped d = true ∧ d.depth ≤ 60 ∧ PyData.eqv d d = true) → RelV x v → RelV y u → SeqAt.EqP X.prog X.w X.A.in1 s v u true := fun x y v u ⟨d, h1, h2, sh, dp, e⟩ r1 r2 => by
    obtain ⟨as, q1⟩ := Dp.reads I d x v h1 r1
    obtain ⟨bs, q2⟩ := Dp.reads I d y u h2 r2
    have sh2 : d.canLay0 = true ∧ d.depth ≤ 64 := by
      unfold SeqAt.shaped at sh
      simpa using sh
    have := SeqAt.eqAt_reads d d X.A.in1 s v u as bs q1 q2 sh2.1 sh2.1 (by show X.A.units + 1 + _ < cLine; omega)
    rw [e] at this
    exact this.eqP
  refine PySem.W.rcP_dicts (knd := mixKind X.prog X.w) (r := true) ya yb da db (by omega) (fun _ => hits_run ih rb ra fun p hm => ?_) _ _ ?_
  · obtain ⟨u, d, e1, e2, e3, e4, e5, e6⟩ := hp p hm
    exact ⟨u, e1, d, e2, e3, e4, e5, e6⟩
  · rw [show (va.length == vb.length && true) = true from by rw [← ra.length, ← rb.length, hl]; simp]
    exact ⟨.bl true, H, I, rfl, q⟩
section
variable {K : PySem.W.Frag} {H : Hp} {Q : VK} {a b d v : Addr} {kvs ka kb : List (Key × V)} {k : Key}
theorem x_tyD (h : H d = some (.dK kvs)) : tyV K "dict" (.ref d) H := .inr (.inr (.inl ⟨rfl, .inl ⟨kvs, h⟩⟩))
theorem x_vals (h : H d = some (.dK kvs)) (q : ∀ v H', H v = none → Ex H H' → H' v = some (ViewO v d) → Q (.ref v) H') : rVals (.ref d) [] H Q := ⟨d, kvs, rfl, rfl, h, fun v hv => q v _ hv (Ex.new hv) upd_same⟩
theorem x_listV (hv : H v = some (ViewO v d)) (h : H d = some (.dK kvs)) (q : ∀ l H', H l = none → Ex H H' → H' l = some (.lst (kvs.map (·.2))) → Q (.ref l) H') : rListV [.ref v] H Q := ⟨v, d, kvs, rfl, hv, h, fun l hl => q l _ hl (Ex.new hl) upd_same⟩
/-- k in d -/
def rDIn (y x : V) (H : Hp) (Q : VK) : Prop := ∃ a o, x = .ref a ∧ DGet H a y o ∧ Q (.bl o.isSome) H
theorem x_tDIn {ty td : TE} {σ : L2.St} : tDIn ty td σ H Q = ty σ H fun y H1 => td σ H1 fun x H2 => rDIn y x H2 Q := rfl
theorem x_dIn (h : H a = some (.dK kvs)) (q : Q (.bl (valV kvs k).isSome) H) : rDIn (kV k) (.ref a) H Q := ⟨a, _, rfl, DGet.k h, q⟩
/-- keys of a locked dict -/
def rKeys (x : V) (H : Hp) (R : It → Hp → Prop) : Prop := ∃ d o, x = .ref d ∧ ((∃ kvs, H d = some (.frz o (.dK kvs)) ∧ R (Itk d o kvs) H) ∨ ∃ kvs, H d = some (.frz o (.dT kvs)) ∧ R (Itkt d o kvs) H)
theorem x_iKeys {td : TE} {σ : L2.St} {R : It → Hp → Prop} : iKeys td σ H R = td σ H fun x H1 => rKeys x H1 R := rfl
theorem x_keys {o : Obj} {R : It → Hp → Prop} (h : H d = some (.frz o (.dK kvs))) (q : R (Itk d o kvs) H) : rKeys (.ref d) H R := ⟨d, o, rfl, .inl ⟨kvs, h, q⟩⟩
theorem x_eqDD (h1 : H a = some (.dK ka)) (h2 : H b = some (.dK kb)) (hl : ka.length = kb.length) (hp : ∀ p ∈ ka, ∃ u d, valV kb p.1 = some u ∧ Dp K H p.2 d ∧ Dp K H u d ∧ SeqAt.shaped d = true ∧ d.depth ≤ 60 ∧ PyData.eqv d d = true) (q : Q (.bl true) H) : rEqDD K (.ref a) (.ref b) H Q :=
  ⟨a, b, ka, kb, rfl, rfl, h1, h2, hl, hp, q⟩
end
end FB
set_option Elab.async false
set_option linter.all false
set_option maxRecDepth 100000
set_option maxHeartbeats 4000000
namespace K
open PySem PySem.Spec PyProof.Rows L2 Evl FB
def top (i : Nat) : Stmt := PySem.Challenge.pw_fullboats_k12_whole_shares_over_a_period.main.body.getD i (.Pass ⟨0, 0, 0, 0⟩)
/-- a def of the text as it stands behind the top -/
structure Df (K : PySem.W.Frag) (mg : Str → Option Value) (x : Str) (st : Stmt) (ps : List Str) (f : Addr) (fd : FuncData) : Prop where
  F : Fun K x x st f fd
  g : mg x = some (.ref f)
  b : Binds K fd ps []
structure Bt (mg : Str → Option Value) : Prop where
  b_range : mg "range" = none
  b_tuple : mg "tuple" = none
  b_min : mg "min" = none
  b_isinstance : mg "isinstance" = none
  b_str : mg "str" = none
  b_dict : mg "dict" = none
  b_bool : mg "bool" = none
  b_sorted : mg "sorted" = none
  b_set : mg "set" = none
  b_enumerate : mg "enumerate" = none
  b_all : mg "all" = none
  b_len : mg "len" = none
  b_list : mg "list" = none
  b_int : mg "int" = none
  b_max : mg "max" = none
  b_sum : mg "sum" = none
  b_zip : mg "zip" = none
  b_abs : mg "abs" = none
  b_reversed : mg "reversed" = none
  b_any : mg "any" = none
local macro_rules | `(tactic| walk_at "run") => `(tactic| try simp only [tSeq, tAsg, tVar, tC, gName, L2.start, List.map_cons, List.map_nil, List.cons_append, List.nil_append, List.length_cons, List.length_nil, List.replicate, List.getElem?_cons_zero, List.getElem?_cons_succ, Option.some.injEq, exists_eq_left', List.set_cons_zero, List.set_cons_succ, V.ref.injEq, tRet, x_tLst, x_tTup, tCons, tCB, tNil, tOp, x_addI, x_mulI, x_rI, x_rI0, x_ltI, x_leI, x_ltS, x_leS, x_eqI, x_neI, x_eqS, x_eqB, x_neB, x_isiI, x_isiS, x_int, x_max, x_min, cxOf, tIfS, tNext, tTest, V.bl.injEq, decide_eq_true_eq, gSub, tAnd, tOr, tNot, tB, tDrop, tBM, x_tFor, iRng1, iList, iTup, x_tLc, tYes, tCall, tIf, tAndV, tOrV, tNotV, tChain, List.append_nil, tUn, if_true, wipe, true_and, x_never, iU, x_itS])
abbrev s_l_mix : Stmt := top 43
theorem sc_l_mix : FnScope ["_law_script", "_law_seed", "_law_mixed", "_law_cell"] ["_law_script", "_law_seed"] (defScope s_l_mix) := ⟨rfl, rfl, rfl, by decide +kernel, rfl, by decide +kernel, by decide +kernel⟩
/-- the law's source of draws: its list at a, its cells at b -/
def Gen (H : Hp) (a b : Addr) : Prop := ∃ (m c : Int) (ns : List Int), H a = some (.lst [.int m, .ref b, .int c]) ∧ H b = some (.lst (ns.map V.int)) ∧ ns.length ≤ 63
section
variable {P : Program} {w : World} {K : PySem.W.Frag} {mg : Str → Option Value} {base : Heap}
def spMix (K : PySem.W.Frag) : Sp := fun vs H Q _ => ∃ (a : Addr) (ns : List Int) (z : Int), vs = [.ref a, .int z] ∧ SqL K H a (ns.map V.int) ∧ ns.length ≤ 63 ∧ ∀ (p b : Addr) (H' : Hp), Ex H H' → H p = none → H b = none → Gen H' p b → Q (.ref p) H'
theorem ok_l_mix {f : Addr} {fd : FuncData} (D : Df K mg "_law_mix" s_l_mix ["_law_script", "_law_seed"] f fd) (T : Bt mg) : FnOk P w K mg base CX0 1 f fd ["_law_script", "_law_seed"] (spMix K) := by
  refine D.F.ok sc_l_mix (fun vs H Q E h => ?_) (fun cdv A outer s H vs Q E hr h => ?_)
  · obtain ⟨a, ns, z, rfl, _⟩ := h
    rfl
  · obtain ⟨a, ns, z, rfl, hS, hl, k⟩ := h
    refine ⟨_, (pss_cons (ps_set (i := 2) sc_l_mix.nd rfl (Or.inl rfl) (pv 1))
      (pss_cons (ps_for PassesOwn.never rfl (pi_U (K := K) (pv 0)) (pg_name (i := 3) sc_l_mix.nd rfl (Or.inl rfl)) (pss_one (ps_set (i := 2) sc_l_mix.nd rfl (Or.inl rfl) (pe_op op_modN (pe_op (op_addU (K := K)) (pe_op (op_addU (K := K)) (pe_op (op_mulU (K := K)) (pv 2) pe_int) (pe_op op_modN (pv 3) pe_int)) pe_int) pe_int))))
      (pss_one (ps_ret (pe_lst (pa_cons (pv 2) (pa_cons (pe_callTy (call_listU (K := K)) (by rfl) T.b_list (by decide +kernel) (pa_cons (pv 0) pa_nil)) (pa_cons pe_int pa_nil)))))))), ?_⟩
    walk_at "run"
    refine x_itL hS (loop_it (walk_list (xs := ns.map V.int)) (fun i σ H' => ∃ (m : Int) (u : Option V), σ = [some (.ref a), some (.int z), some (.int m), u] ∧ H' = H) ⟨z, _, rfl, rfl⟩ (fun i σ H' _ ⟨_, _, _, e⟩ => e ▸ hS) ?_ ?_)
    · rintro i y σ H' _ _ ⟨m, u, rfl, rfl⟩ ⟨rfl, hi⟩
      obtain ⟨n, _, rfl⟩ : ∃ n, ns[i]? = some n ∧ V.int n = y := by simpa using hi
      walk_at "run"
      refine ⟨.inr (by decide), by decide, by decide, _, _, rfl, trivial⟩
    · rintro σ H' ⟨m, u, rfl, rfl⟩
      walk_at "run"
      refine x_listL hS fun l H1 nl e1 h1 => ?_
      walk_at "run"
      refine x_lst (by simp) fun p H2 np e2 h2 => ?_
      exact k p l _ (e1.trans e2) (fresh_back e1 np) nl ⟨m, 0, ns, h2, e2 _ _ h1, hl⟩

theorem ints_ne {ns : List Int} {m c : Int} {b : Addr} : ns.map V.int ≠ [.int m, .ref b, .int c] := by
  intro h
  match ns, h with
  | [], h => cases h
  | [_], h => cases h
  | _ :: _ :: _, h =>
    simp at h
theorem Gen.ne {H : Hp} {a b : Addr} (g : Gen H a b) : a ≠ b := by
  obtain ⟨m, c, ns, h1, h2, _⟩ := g
  exact ne_of h1 h2 (fun z => ints_ne (HO.lst.inj z).symm)
abbrev s_l_next : Stmt := top 44
theorem sc_l_next : FnScope ["_law_h", "_law_limit", "_law_cell"] ["_law_h", "_law_limit"] (defScope s_l_next) := ⟨rfl, rfl, rfl, by decide +kernel, rfl, by decide +kernel, by decide +kernel⟩
def spNext : Sp := fun vs H Q _ => ∃ (a b : Addr) (n : Int), vs = [.ref a, .int n] ∧ Gen H a b ∧ 0 < n ∧ n < 1073741824 ∧ ∀ (r : Int) (H' : Hp), 0 ≤ r → r < n → Gen H' a b → Ex2 a b H H' → Q (.int r) H'
theorem ok_l_next {f : Addr} {fd : FuncData} (D : Df K mg "_law_next" s_l_next ["_law_h", "_law_limit"] f fd) (T : Bt mg) : FnOk P w K mg base CX0 1 f fd ["_law_h", "_law_limit"] spNext := by
  refine D.F.ok sc_l_next (fun vs H Q E h => ?_) (fun cdv A outer s H vs Q E hr h => ?_)
  · obtain ⟨a, b, n, rfl, _⟩ := h
    rfl
  · obtain ⟨a, b, n, rfl, ⟨m, c, ns, hA, hB, hl⟩, h0, h1, k⟩ := h
    refine ⟨_, (pss_cons (ps_set (i := 2) sc_l_next.nd rfl (Or.inl rfl) (pe_ix (ix_U (K := K)) (pe_op (op_addU (K := K)) (pe_ix (ix_U (K := K)) (pv 0) pe_int (fun _ _ => rfl)) (pe_lst (pa_cons pe_int pa_nil))) (pe_op op_modN (pe_callTy call_intU (by rfl) T.b_int (by decide +kernel) (pa_cons (pe_ix (ix_U (K := K)) (pv 0) pe_int (fun _ _ => rfl)) pa_nil)) (pe_callB (call_maxU rfl) (by rfl) T.b_max (by decide +kernel) (pa_cons pe_int (pa_cons (pe_callB (call_lenU (K := K)) (by rfl) T.b_len (by decide +kernel) (pa_cons (pe_ix (ix_U (K := K)) (pv 0) pe_int (fun _ _ => rfl)) pa_nil)) pa_nil)))) (fun _ _ => rfl)))
      (pss_cons (ps_if (pt_cmpR (op_geU) (pv 2) (pe_op op_pow pe_int pe_int) (nomark _)) (pss_cons (ps_asg (pe_op op_fdivN (pv 2) (pv 1)) (pg_sub (pe_ix (ix_U (K := K)) (pv 0) pe_int (fun _ _ => rfl)) (pe_op op_modN (pe_callTy call_intU (by rfl) T.b_int (by decide +kernel) (pa_cons (pe_ix (ix_U (K := K)) (pv 0) pe_int (fun _ _ => rfl)) pa_nil)) (pe_callB (call_lenU (K := K)) (by rfl) T.b_len (by decide +kernel) (pa_cons (pe_ix (ix_U (K := K)) (pv 0) pe_int (fun _ _ => rfl)) pa_nil))) set_list))
      (pss_one (ps_ret (pe_op op_modN (pe_callTy call_intU (by rfl) T.b_int (by decide +kernel) (pa_cons (pv 2) pa_nil)) (pv 1))))) pss_nil)
      (pss_cons (ps_asg (pe_op op_modN (pe_op (op_addU (K := K)) (pe_op (op_addU (K := K)) (pe_op (op_mulU (K := K)) (pe_ix (ix_U (K := K)) (pv 0) pe_int (fun _ _ => rfl)) pe_int) (pe_op (op_mulU (K := K)) (pv 2) pe_int)) pe_int) pe_int) (pg_sub (pv 0) pe_int set_list))
      (pss_cons (ps_asg (pe_op (op_addU (K := K)) (pe_ix (ix_U (K := K)) (pv 0) pe_int (fun _ _ => rfl)) pe_int) (pg_sub (pv 0) pe_int set_list))
      (pss_one (ps_ret (pe_op op_modN (pe_op op_fdivN (pe_ix (ix_U (K := K)) (pv 0) pe_int (fun _ _ => rfl)) pe_int) (pv 1)))))))), ?_⟩
    walk_at "run"
    refine x_ixL (SqL.of hA) rfl ?_
    refine x_lst (by simp) fun p H1 np e1 hp => ?_
    refine x_cat (e1 _ _ hB) hp (by simp; omega) fun l H2 nl e2 hL => ?_
    have hA2 := e2 _ _ (e1 _ _ hA)
    have hB2 := e2 _ _ (e1 _ _ hB)
    refine x_ixL (SqL.of hA2) rfl ?_
    walk_at "run"
    refine x_ixL (SqL.of hA2) rfl ?_
    refine x_lenL (SqL.of hB2) ?_
    walk_at "run"
    have hn : (List.map V.int ns).length = ns.length := List.length_map ..
    rw [hn]
    refine ⟨by split <;> omega, ?_⟩
    generalize hd : (if (ns.length : Int) > 1 then (ns.length : Int) else 1) = d
    have d0 : 0 < d := by rw [← hd]; split <;> omega
    have d1 : d ≤ ns.length ∨ (ns = [] ∧ d = 1) := by
      rw [← hd]
      split
      · exact .inl (Int.le_refl _)
      · by_cases z : ns = []
        · exact .inr ⟨z, rfl⟩
        · have := List.length_pos_iff.mpr z
          exact .inl (by omega)
    have k0 : 0 ≤ c.fmod d := Int.fmod_nonneg_of_pos _ d0
    have k1 : c.fmod d < d := Int.fmod_lt_of_pos _ d0
    obtain ⟨cell, hc, hc0⟩ : ∃ cell : Int, (List.map V.int ns ++ [V.int 0])[(c.fmod d).toNat]? = some (V.int cell) ∧ (cell ≠ 0 → ns ≠ []) := by
      rcases d1 with h | ⟨h, h'⟩
      · have hk : (c.fmod d).toNat < ns.length := by omega
        refine ⟨ns[(c.fmod d).toNat], ?_, fun _ z => by subst z; simp at hk⟩
        rw [List.getElem?_append_left (by simpa using hk)]
        simp [hk]
      · subst h
        subst h'
        have z : c.fmod 1 = 0 := by omega
        rw [z]
        exact ⟨0, rfl, fun z => (z rfl).elim⟩
    refine x_ixL (SqL.of hL) (atI_in k0 hc) ?_
    walk_at "run"
    refine ⟨⟨by decide, by decide, by decide⟩, ?_⟩
    split
    · rename_i hge
      have hge : (10 : Int) ^ Int.toNat 18 ≤ cell := hge
      have hne : ns ≠ [] := hc0 (by intro z; rw [z] at hge; exact absurd hge (by decide))
      have hp' := List.length_pos_iff.mpr hne
      refine ⟨⟨by omega, by omega⟩, ?_⟩
      refine x_ixL (SqL.of hA2) rfl ?_
      refine x_ixL (SqL.of hA2) rfl ?_
      walk_at "run"
      refine x_ixL (SqL.of hA2) rfl ?_
      refine x_lenL (SqL.of hB2) ?_
      walk_at "run"
      rw [hn]
      have q0 : 0 ≤ c.fmod ns.length := Int.fmod_nonneg_of_pos _ (by omega)
      have q1 : c.fmod ns.length < ns.length := Int.fmod_lt_of_pos _ (by omega)
      refine ⟨by omega, ?_⟩
      refine x_setL hB2 (ixN_in q0 (by simpa using q1)) fun H3 e3 hB3 => ?_
      walk_at "run"
      refine ⟨by omega, ?_⟩
      have nab : a ≠ b := Gen.ne ⟨m, c, ns, hA2, hB2, hl⟩
      refine k _ H3 (Int.fmod_nonneg_of_pos _ h0) (Int.fmod_lt_of_pos _ h0) ⟨m, c, ns.set (c.fmod ns.length).toNat (cell.fdiv n), e3 _ _ nab hA2, by rw [hB3, List.map_set], by simpa using hl⟩ fun x o h _ hb => e3 _ _ hb (e2 _ _ (e1 _ _ h))
    · refine x_ixL (SqL.of hA2) rfl ?_
      walk_at "run"
      refine ⟨.inr (by decide), .inr (by decide), by decide, ?_⟩
      refine x_setL hA2 rfl fun H3 e3 hA3 => ?_
      refine x_ixL (SqL.of hA3) rfl ?_
      walk_at "run"
      refine x_setL hA3 rfl fun H4 e4 hA4 => ?_
      refine x_ixL (SqL.of hA4) rfl ?_
      walk_at "run"
      refine ⟨⟨by decide, by decide⟩, by omega, ?_⟩
      have nab : b ≠ a := (Gen.ne ⟨m, c, ns, hA2, hB2, hl⟩).symm
      refine k _ H4 (Int.fmod_nonneg_of_pos _ h0) (Int.fmod_lt_of_pos _ h0) ⟨_, _, ns, hA4, e4 _ _ nab (e3 _ _ nab hB2), hl⟩ fun x o h ha _ => e4 _ _ ha (e3 _ _ ha (e2 _ _ (e1 _ _ h)))
end
end K
set_option Elab.async false
set_option linter.all false
set_option maxRecDepth 100000
set_option maxHeartbeats 4000000
namespace K
open PySem PySem.Spec PyProof.Rows L2 Evl FB
local macro_rules | `(tactic| walk_at "run") => `(tactic| try simp only [tSeq, tAsg, tVar, tC, gName, L2.start, List.map_cons, List.map_nil, List.cons_append, List.nil_append, List.length_cons, List.length_nil, List.replicate, List.getElem?_cons_zero, List.getElem?_cons_succ, Option.some.injEq, exists_eq_left', List.set_cons_zero, List.set_cons_succ, V.ref.injEq, tRet, x_tLst, x_tTup, tCons, tCB, tNil, tOp, x_addI, x_mulI, x_rI, x_rI0, x_ltI, x_leI, x_ltS, x_leS, x_eqI, x_neI, x_eqS, x_eqB, x_neB, x_isiI, x_isiS, x_int, x_max, x_min, cxOf, tIfS, tNext, tTest, V.bl.injEq, decide_eq_true_eq, gSub, tAnd, tOr, tNot, tB, tDrop, tBM, x_tFor, iRng1, iList, iTup, x_tLc, tYes, tCall, tIf, tAndV, tOrV, tNotV, tChain, List.append_nil, tUn, if_true, wipe, true_and, x_never, iU, x_itS])
theorem Gen.ex {H H' : Hp} {a b : Addr} (g : Gen H a b) (e : Ex H H') : Gen H' a b := by
  obtain ⟨m, c, ns, h1, h2, h3⟩ := g
  exact ⟨m, c, ns, e _ _ h1, e _ _ h2, h3⟩
theorem Gen.na {H : Hp} {a b p : Addr} (g : Gen H a b) (h : H p = none) : p ≠ a := by
  obtain ⟨m, c, ns, h1, h2, h3⟩ := g
  exact (ne_of_none h1 h).symm
theorem Gen.nb {H : Hp} {a b p : Addr} (g : Gen H a b) (h : H p = none) : p ≠ b := by
  obtain ⟨m, c, ns, h1, h2, h3⟩ := g
  exact (ne_of_none h2 h).symm
theorem Gen.tx {H H' : Hp} {a b : Addr} (g : Gen H a b) (e : Ex2 a b H H') : TX H H' := by
  obtain ⟨m, c, ns, h1, h2, h3⟩ := g
  exact TX.two h1 h2 e
theorem Gen.but {H H' : Hp} {a b p : Addr} (g : Gen H a b) (ha : p ≠ a) (hb : p ≠ b) (e : ∀ x o, x ≠ p → H x = some o → H' x = some o) : Gen H' a b := by
  obtain ⟨m, c, ns, h1, h2, h3⟩ := g
  exact ⟨m, c, ns, e _ _ ha.symm h1, e _ _ hb.symm h2, h3⟩
theorem x_next {H : Hp} {a b : Addr} {n : Int} {Q : VK} {E : XK} (g : Gen H a b) (h0 : 0 < n) (h1 : n < 1073741824) (k : ∀ r H', 0 ≤ r → r < n → Gen H' a b → Ex2 a b H H' → Q (.int r) H') : spNext [.ref a, .int n] H Q E :=
  ⟨a, b, n, rfl, g, h0, h1, k⟩
def W4 : List Str := ["a", "b", "west", "abcdefgh"]
/-- a place that is drawn for a seat of the station st of n -/
def PlOk (st n : Int) : Key → Prop
  | .inl j => st < j ∧ j < n
  | .inr z => z ∈ W4
abbrev s_l_place : Stmt := top 46
theorem sc_l_place : FnScope ["_law_h", "_law_station", "_law_count", "_law_far"] ["_law_h", "_law_station", "_law_count"] (defScope s_l_place) := ⟨rfl, rfl, rfl, by decide +kernel, rfl, by decide +kernel, by decide +kernel⟩
/-- a network that is drawn -/
structure Drawn (N : Net) (most : Int) : Prop where
  pos : 1 ≤ N.length
  le : (N.length : Int) ≤ most
  st : ∀ (k : Nat) s, N[k]? = some s → 1 ≤ s.length ∧ s.length ≤ 8 ∧ ∀ p ∈ s, PlOk k N.length p
section
variable {P : Program} {w : World} {K : PySem.W.Frag} {mg : Str → Option Value} {base : Heap}
def spPlace : Sp := fun vs H Q _ => ∃ (a b : Addr) (st n : Int), vs = [.ref a, .int st, .int n] ∧ Gen H a b ∧ 0 ≤ st ∧ st < n ∧ n ≤ 1000000 ∧ ∀ (k : Key) (H' : Hp), PlOk st n k → Gen H' a b → Ex2 a b H H' → Q (kV k) H'
theorem ok_l_place {f f1 : Addr} {fd fd1 : FuncData} (D : Df K mg "_law_place" s_l_place ["_law_h", "_law_station", "_law_count"] f fd) (T : Bt mg) (D_l_next : Df K mg "_law_next" s_l_next ["_law_h", "_law_limit"] f1 fd1) :
    FnOk P w K mg base CX0 2 f fd ["_law_h", "_law_station", "_law_count"] spPlace := by
  have G_l_next : FnOk P w K mg base CX0 1 f1 fd1 _ _ := ok_l_next D_l_next T
  refine D.F.ok sc_l_place (fun vs H Q E h => ?_) (fun cdv A outer s H vs Q E hr h => ?_)
  · obtain ⟨a, b, st, n, rfl, _⟩ := h
    rfl
  · obtain ⟨a, b, st, n, rfl, g, h0, h1, h2, k⟩ := h
    refine ⟨_, (pss_cons (ps_if (PW.pt (pw_and (pt_cmpR (op_ltU) (pe_op (op_addU (K := K)) (pv 1) pe_int) (pv 2) (nomark _)) (pw_and1 (pt_cmpR (op_gtU) (pe_call (G_l_next) (hr.mono (by decide)) rfl D_l_next.g D_l_next.F.kp D_l_next.b .nil pass0 (pa_cons (pv 0) (pa_cons pe_int pa_nil))) pe_int (nomark _))))) (pss_cons (ps_set (i := 3) sc_l_place.nd rfl (Or.inl rfl) (pe_ix (ix_U (K := K)) (pe_lst (pa_cons pe_int (pa_cons pe_int (pa_cons (pv 2) pa_nil)))) (pe_call (G_l_next) (hr.mono (by decide)) rfl D_l_next.g D_l_next.F.kp D_l_next.b .nil pass0 (pa_cons (pv 0) (pa_cons pe_int pa_nil))) (fun _ _ => rfl)))
      (pss_one (ps_ret (pe_op (op_addU (K := K)) (pe_op (op_addU (K := K)) (pv 1) pe_int) (pe_call (G_l_next) (hr.mono (by decide)) rfl D_l_next.g D_l_next.F.kp D_l_next.b .nil pass0 (pa_cons (pv 0) (pa_cons (pe_callB (call_maxU rfl) (by rfl) T.b_max (by decide +kernel) (pa_cons pe_int (pa_cons (pe_callB (call_minU rfl) (by rfl) T.b_min (by decide +kernel) (pa_cons (pv 3) (pa_cons (pe_op op_sub (pe_op op_sub (pv 2) (pv 1)) pe_int) pa_nil))) pa_nil))) pa_nil))))))) pss_nil)
      (pss_one (ps_ret (pe_ix (ix_U (K := K)) (pe_lst (pa_cons pe_str (pa_cons pe_str (pa_cons pe_str (pa_cons pe_str pa_nil))))) (pe_call (G_l_next) (hr.mono (by decide)) rfl D_l_next.g D_l_next.F.kp D_l_next.b .nil pass0 (pa_cons (pv 0) (pa_cons pe_int pa_nil))) (fun _ _ => rfl))))), ?_⟩
    walk_at "run"
    have tail : ∀ H1, Gen H1 a b → Ex2 a b H H1 → rLst [V.str "a", V.str "b", V.str "west", V.str "abcdefgh"] H1 fun x H1 => spNext [V.ref a, V.int 4] H1 (fun y H2 => rIx K x y H2 Q) E0 := by
      intro H1 g1 e1
      refine x_lst (by simp) fun p H2 np e2 hp => ?_
      refine x_next (g1.ex e2) (by decide) (by decide) fun r H3 r0 r1 g3 e3 => ?_
      have hp3 := e3 _ _ hp (g1.na np) (g1.nb np)
      have e := (e1.ex e2).trans e3
      obtain rfl | rfl | rfl | rfl : r = 0 ∨ r = 1 ∨ r = 2 ∨ r = 3 := by omega
      · exact x_ixL (SqL.of hp3) rfl (k (.inr "a") _ (.head _) g3 e)
      · exact x_ixL (SqL.of hp3) rfl (k (.inr "b") _ (.tail _ (.head _)) g3 e)
      · exact x_ixL (SqL.of hp3) rfl (k (.inr "west") _ (.tail _ (.tail _ (.head _))) g3 e)
      · exact x_ixL (SqL.of hp3) rfl (k (.inr "abcdefgh") _ (.tail _ (.tail _ (.tail _ (.head _)))) g3 e)
    split
    · refine x_next g (by decide) (by decide) fun r H1 r0 r1 g1 e1 => ?_
      walk_at "run"
      split
      · refine x_lst (by simp) fun p H2 np e2 hp => ?_
        refine x_next (g1.ex e2) (by decide) (by decide) fun r H3 r0 r1 g3 e3 => ?_
        have hp3 := e3 _ _ hp (g1.na np) (g1.nb np)
        have e := (e1.ex e2).trans e3
        have fin : ∀ far : Int, 1 ≤ far → far ≤ 1000000 → rMinU [V.int far, V.int (n - st - 1)] H3 fun x H1 => rMaxU [V.int 1, x] H1 fun x H1 => spNext [V.ref a, x] H1 (fun y H2 => rAddU K (V.int (st + 1)) y H2 Q) E0 := by
          intro far f0 f1
          walk_at "run"
          refine x_next g3 (by split <;> (split at * <;> omega)) (by split <;> (split at * <;> omega)) fun r H4 r0 r1 g4 e4 => ?_
          walk_at "run"
          exact k (.inl (st + 1 + r)) _ ⟨by omega, by revert r1; split <;> (split at * <;> omega)⟩ g4 (e.trans e4)
        obtain rfl | rfl | rfl : r = 0 ∨ r = 1 ∨ r = 2 := by omega
        · exact x_ixL (SqL.of hp3) rfl (fin _ (by omega) (by omega))
        · exact x_ixL (SqL.of hp3) rfl (fin _ (by omega) (by omega))
        · exact x_ixL (SqL.of hp3) rfl (fin _ (by omega) (by omega))
      · exact tail _ g1 e1
    · rw [if_neg Bool.false_ne_true]
      exact tail _ g (Ex2.refl _)
abbrev s_l_network : Stmt := top 47
theorem sc_l_network : FnScope ["_law_h", "_law_most", "_law_count", "_law_network_here", "_law_station", "_law_seats", "_law_seat"] ["_law_h", "_law_most"] (defScope s_l_network) := ⟨rfl, rfl, rfl, by decide +kernel, rfl, by decide +kernel, by decide +kernel⟩
def spNetwork (K : PySem.W.Frag) : Sp := fun vs H Q _ => ∃ (a b : Addr) (most : Int), vs = [.ref a, .int most] ∧ Gen H a b ∧ 1 ≤ most ∧ most ≤ 1000 ∧ ∀ (v : V) (N : Net) (H' : Hp), Drawn N most → NetAt K H' v N → Gen H' a b → Ex2 a b H H' → Q v H'
theorem ok_l_network {f f1 f2 : Addr} {fd fd1 fd2 : FuncData} (D : Df K mg "_law_network" s_l_network ["_law_h", "_law_most"] f fd) (T : Bt mg) (D_l_next : Df K mg "_law_next" s_l_next ["_law_h", "_law_limit"] f1 fd1)
    (D_l_place : Df K mg "_law_place" s_l_place ["_law_h", "_law_station", "_law_count"] f2 fd2) :
    FnOk P w K mg base CX0 3 f fd ["_law_h", "_law_most"] (spNetwork K) := by
  have G_l_next : FnOk P w K mg base CX0 1 f1 fd1 _ _ := ok_l_next D_l_next T
  have G_l_place : FnOk P w K mg base CX0 2 f2 fd2 _ _ := ok_l_place D_l_place T D_l_next
  refine D.F.ok sc_l_network (fun vs H Q E h => ?_) (fun cdv A outer s H vs Q E hr h => ?_)
  · obtain ⟨a, b, n, rfl, _⟩ := h
    rfl
  · obtain ⟨a, b, most, rfl, g, h0, h1, k⟩ := h
    refine ⟨_, (pss_cons (ps_set (i := 2) sc_l_network.nd rfl (Or.inr rfl) (pe_op (op_addU (K := K)) pe_int (pe_call (G_l_next) (hr.mono (by decide)) rfl D_l_next.g D_l_next.F.kp D_l_next.b .nil pass0 (pa_cons (pv 0) (pa_cons (pv 1) pa_nil)))))
      (pss_cons (ps_set (i := 3) sc_l_network.nd rfl (Or.inl rfl) (pe_lst pa_nil))
      (pss_cons (ps_for PassesOwn.never rfl (pi_range1 (by rfl) T.b_range (pa_cons (pv 2) pa_nil)) (pg_name (i := 4) sc_l_network.nd rfl (Or.inr rfl)) (pss_cons (ps_set (i := 5) sc_l_network.nd rfl (Or.inl rfl) (pe_op (op_addU (K := K)) pe_int (pe_call (G_l_next) (hr.mono (by decide)) rfl D_l_next.g D_l_next.F.kp D_l_next.b .nil pass0 (pa_cons (pv 0) (pa_cons (pe_ix (ix_U (K := K)) (pe_lst (pa_cons pe_int (pa_cons pe_int (pa_cons pe_int pa_nil)))) (pe_call (G_l_next) (hr.mono (by decide)) rfl D_l_next.g D_l_next.F.kp D_l_next.b .nil pass0 (pa_cons (pv 0) (pa_cons pe_int pa_nil))) (fun _ _ => rfl)) pa_nil)))))
      (pss_one (ps_expr (pe_bm PySem.F.plainAttrs_list PySem.F.slot_list_append PySem.F.type_list_append mt_append (pv 3) (pa_cons (pe_callTy (call_tupU (K := K)) (by rfl) T.b_tuple (by decide +kernel) (pa_cons (pe_lc (own := [("_law_seat", 6)]) (g := gName 6) (tt := tYes) rfl sc_l_network.nd (pi_range1 (by rfl) T.b_range (pa_cons (pv 5) pa_nil)) (blkOk_by (own := [("_law_seat", 6)]) (N := ["_law_h", "_law_most", "_law_count", "_law_network_here", "_law_station", "_law_seats", "_law_seat"]) (sc := defScope s_l_network) (by decide +kernel)) (fun _ _ _ _ _ => (pg_name (i := 6) sc_l_network.nd rfl (Or.inl rfl))) (fun _ _ _ _ _ => pts_nil) (fun _ _ _ _ _ => (pe_call (G_l_place) (hr.mono (by decide)) rfl D_l_place.g D_l_place.F.kp D_l_place.b .nil pass0 (pa_cons (pv 0) (pa_cons (pv 4) (pa_cons (pv 2) pa_nil)))))) pa_nil)) pa_nil))))))
      (pss_one (ps_ret (pe_callTy (call_tupU (K := K)) (by rfl) T.b_tuple (by decide +kernel) (pa_cons (pv 3) pa_nil))))))), ?_⟩
    walk_at "run"
    refine x_next g (by omega) (by omega) fun r H1 r0 r1 g1 e1 => ?_
    walk_at "run"
    refine x_lst (by simp) fun L H2 nL e2 hL => ?_
    obtain ⟨n, hn⟩ : ∃ n : Nat, 1 + r = (n : Int) := ⟨(1 + r).toNat, by omega⟩
    rw [hn]
    refine ⟨n, rfl, by omega, by omega, ?_⟩
    have hn1 : 1 ≤ n := by omega
    have nLa := (g1.na nL)
    have nLb := (g1.nb nL)
    have e02 : Ex2 a b H H2 := e1.ex e2
    refine loop_it walk_range (fun i σ H' => ∃ (u5 u6 u4 : Option V) (ts : List V) (M : Net), σ = [some (.ref a), some (.int most), some (.int n), some (.ref L), u4, u5, u6] ∧ H' L = some (.lst ts) ∧ DpAll K H' ts (M.map stD) ∧ M.length = i ∧ Gen H' a b ∧ (∀ x o, H x = some o → x ≠ a → x ≠ b → H' x = some o) ∧
      ∀ (k : Nat) s, M[k]? = some s → 1 ≤ s.length ∧ s.length ≤ 8 ∧ ∀ p ∈ s, PlOk k n p) ⟨_, _, _, [], [], rfl, hL, .nil, rfl, g1.ex e2, e02, fun k s h => by simp at h⟩ (fun _ _ _ _ _ => trivial) ?_ ?_
    · rintro i x σ H3 H3' hi ⟨u5, u6, u4, ts, M, rfl, hL3, hts, hM, g3, e3, hok⟩ ⟨eH, rfl⟩
      subst eH
      have hi : i < n := by simpa using hi
      walk_at "run"
      refine x_lst (by simp) fun p H4 np e4 hp => ?_
      refine x_next (g3.ex e4) (by decide) (by decide) fun r H5 r0 r1 g5 e5 => ?_
      have hp5 := e5 _ _ hp (g3.na np) (g3.nb np)
      have hL5 := e5 _ _ (e4 _ _ hL3) nLa nLb
      have e35 := (Ex2.of e4).trans e5
      have t35 := (TX.of e4).trans ((g3.ex e4).tx e5)
      refine x_menu hp5 r0 (by simpa using r1) fun v _ hv => ?_
      obtain ⟨q, rfl, q0, q1⟩ : ∃ q : Int, v = .int q ∧ 2 ≤ q ∧ q ≤ 8 := by
        simp at hv
        rcases hv with rfl | rfl | rfl <;> exact ⟨_, rfl, by omega, by omega⟩
      refine x_next g5 (by omega) (by omega) fun r H6 r0 r1 g6 e6 => ?_
      obtain ⟨m, hm⟩ : ∃ m : Nat, 1 + r = (m : Int) := ⟨(1 + r).toNat, by omega⟩
      have hL6 := e6 _ _ hL5 nLa nLb
      walk_at "run"
      rw [hm]
      refine ⟨x_tyL (SqL.of hL6), m, rfl, by omega, by omega, ?_⟩
      refine lcl_it walk_range (fun D j H' => ∃ acc : List Key, H' D = some (.lst (acc.map kV)) ∧ acc.length = j ∧ (∀ p ∈ acc, PlOk i n p) ∧ Gen H' a b ∧ ∀ x o, H6 x = some o → x ≠ a → x ≠ b → H' x = some o)
        (fun D H' hD e h => ⟨[], h, rfl, (by simp), g6.ex e, fun x o hx _ _ => e _ _ hx⟩) (fun _ _ _ _ _ => trivial) ?_ ?_
      · rintro D j x H7 H7' hD hj ⟨acc, hacc, hl, hok, g7, e7⟩ ⟨eH, rfl⟩
        subst eH
        have hj : j < m := by simpa using hj
        walk_at "run"
        refine ⟨a, b, _, _, rfl, g7, by omega, by omega, by omega, fun k H8 hk g8 e8 => ?_⟩
        refine x_push (e8 _ _ hacc (g6.na hD) (g6.nb hD)) (by simp; omega) fun H9 e9 h9 => ⟨acc ++ [k], by rw [h9]; simp, by simp [hl], ?_, g8.but (g6.na hD) (g6.nb hD) e9, fun x o hx ha hb => e9 _ _ (ne_of_none hx hD) (e8 _ _ (e7 _ _ hx ha hb) ha hb)⟩
        intro p hp
        rcases List.mem_append.mp hp with h | h
        · exact hok p h
        · obtain rfl : p = k := by simpa using h
          have e : (0 : Int) + i = i := by omega
          rw [e] at hk
          exact hk
      · rintro D H7 hD ⟨acc, hacc, hl, hok', g7, e7⟩
        have hl : acc.length = m := by simpa using hl
        refine x_tupL (SqL.of hacc) fun t H8 nt e8 ht => ?_
        have hL8 := e8 _ _ (e7 _ _ hL6 nLa nLb)
        refine x_append hL8 (by rw [hts.len]; simp; omega) fun H9 e9 h9 => ?_
        have t9 : TX H3' H9 := (((t35.trans (g5.tx e6)).trans (g6.tx e7)).trans (TX.of e8)).trans (TX.but hL8 e9)
        have hL7 := e7 _ _ hL6 nLa nLb
        have nLt : L ≠ t := ne_of_none hL7 nt
        refine ⟨some (.int m), u6, some (.int (0 + (i : Int))), ts ++ [.ref t], M ++ [acc], rfl, h9, ?_, by simp [hM], (g7.ex e8).but nLa nLb e9, fun x o hx ha hb => ?_, ?_⟩
        · rw [List.map_append]
          exact DpAll.append (DpAll.tx t9 hts fun d hd => (netD_t M).all d hd) (.cons (StAt.of (SqT.of (e9 _ _ nLt.symm ht))) .nil)
        · exact e9 _ _ (fun z => by subst z; exact absurd (e1 _ _ hx ha hb) (by rw [nL]; simp)) (e8 _ _ (e7 _ _ (e6 _ _ (e5 _ _ (e4 _ _ (e3 _ _ hx ha hb)) ha hb) ha hb) ha hb))
        · intro k s hs
          by_cases hk : k < M.length
          · rw [List.getElem?_append_left hk] at hs
            exact hok k s hs
          · rw [List.getElem?_append_right (by omega)] at hs
            have hz : k - M.length = 0 := by
              have := (List.getElem?_eq_some_iff.mp hs).1
              simp at this
              omega
            rw [hz] at hs
            obtain rfl : acc = s := by simpa using hs
            exact ⟨by omega, by omega, fun p hp => by
              have e : k = i := by omega
              rw [e]; exact hok' p hp⟩
    · rintro σ H3 ⟨u5, u6, u4, ts, M, rfl, hL3, hts, hM, g3, e3, hok⟩
      walk_at "run"
      refine x_tupL (SqL.of hL3) fun p H4 np e4 hp => ?_
      have hM : M.length = n := by simpa using hM
      refine k _ M _ ⟨by omega, by omega, fun k s h => by rw [hM]; exact hok k s h⟩ (.tup (SqT.of hp) (DpAll.ex e4 hts)) (g3.ex e4) (Ex2.ex e3 e4)
end
end K
set_option Elab.async false
set_option linter.all false
set_option maxRecDepth 100000
set_option maxHeartbeats 4000000
namespace K
open PySem PySem.Spec PyProof.Rows L2 Evl FB
local macro_rules | `(tactic| walk_at "run") => `(tactic| try simp only [tSeq, tAsg, tVar, tC, gName, L2.start, List.map_cons, List.map_nil, List.cons_append, List.nil_append, List.length_cons, List.length_nil, List.replicate, List.getElem?_cons_zero, List.getElem?_cons_succ, Option.some.injEq, exists_eq_left', List.set_cons_zero, List.set_cons_succ, V.ref.injEq, tRet, x_tLst, x_tTup, tCons, tCB, tNil, tOp, x_addI, x_mulI, x_rI, x_rI0, x_ltI, x_leI, x_ltS, x_leS, x_eqI, x_neI, x_eqS, x_eqB, x_neB, x_isiI, x_isiS, x_int, x_max, x_min, cxOf, tIfS, tNext, tTest, V.bl.injEq, decide_eq_true_eq, gSub, tAnd, tOr, tNot, tB, tDrop, tBM, x_tFor, iRng1, iList, iTup, x_tLc, tYes, tCall, tIf, tAndV, tOrV, tNotV, tChain, List.append_nil, tUn, if_true, wipe, true_and, x_never, iU, x_itS])
section
variable {P : Program} {w : World} {K : PySem.W.Frag} {mg : Str → Option Value} {base : Heap}
theorem FnOk.never {CX : CXT} {k : Nat} {f : Addr} {fd : FuncData} {ps : List Str} : FnOk P w K mg base CX k f fd ps (fun _ _ _ _ => False) := ⟨fun _ _ _ _ h => h.elim, fun _ _ _ _ _ _ _ _ _ _ _ _ _ h => h.elim⟩
abbrev s_l_alike : Stmt := top 45
theorem sc_l_alike : FnScope ["_law_found", "_law_due", "_law_k"] ["_law_found", "_law_due"] (defScope s_l_alike) := ⟨rfl, rfl, rfl, by decide +kernel, rfl, by decide +kernel, by decide +kernel⟩
theorem mem_depth : ∀ {ds : List PyData} {e : PyData}, e ∈ ds → e.depth ≤ PyData.depthAll ds
  | x :: r, e, h => by
    rw [PyData.depthAll]
    rcases List.mem_cons.mp h with rfl | h
    · omega
    · have := mem_depth h
      omega
theorem mem_lay : ∀ {ds : List PyData} {e : PyData}, PyData.canLayAll0 ds = true → e ∈ ds → e.canLay0 = true
  | x :: r, e, hc, h => by
    rw [PyData.canLayAll0, Bool.and_eq_true] at hc
    rcases List.mem_cons.mp h with rfl | h
    · exact hc.1
    · exact mem_lay hc.2 h
theorem shaped_mk {d : PyData} (h : d.canLay0 = true) (h2 : d.depth ≤ 64) : SeqAt.shaped d = true := by
  unfold SeqAt.shaped
  rw [h]
  simpa using h2
theorem shaped_get {d : PyData} (h : SeqAt.shaped d = true) : d.canLay0 = true ∧ d.depth ≤ 64 := by
  unfold SeqAt.shaped at h
  simpa using h
theorem shaped_l {ds : List PyData} {e : PyData} (h : SeqAt.shaped (.list ds) = true) (he : e ∈ ds) : SeqAt.shaped e = true ∧ e.depth + 1 ≤ (PyData.list ds).depth := by
  obtain ⟨h1, h2⟩ := shaped_get h
  rw [PyData.canLay0] at h1
  rw [PyData.depth] at h2 ⊢
  have := mem_depth he
  exact ⟨shaped_mk (mem_lay h1 he) (by omega), by omega⟩
theorem shaped_t {ds : List PyData} {e : PyData} (h : SeqAt.shaped (.tuple ds) = true) (he : e ∈ ds) : SeqAt.shaped e = true ∧ e.depth + 1 ≤ (PyData.tuple ds).depth := by
  obtain ⟨h1, h2⟩ := shaped_get h
  rw [PyData.canLay0] at h1
  rw [PyData.depth] at h2 ⊢
  have := mem_depth he
  exact ⟨shaped_mk (mem_lay h1 he) (by omega), by omega⟩
theorem eqv_same {d : PyData} (h : SeqAt.shaped d = true) : PyData.eqv d d = true := SeqAt.eqv_refl d (shaped_get h).1
/-- no list or tuple in it is very long -/
inductive SmD : PyData → Prop
  | non : SmD .none
  | bl (b : Bool) : SmD (.bool b)
  | int (i : Int) : SmD (.int i)
  | str (x : Str) : SmD (.str x)
  | lst {ds : List PyData} : ds.length ≤ 1000000 → (∀ d ∈ ds, SmD d) → SmD (.list ds)
  | tup {ds : List PyData} : ds.length ≤ 1000000 → (∀ d ∈ ds, SmD d) → SmD (.tuple ds)
/-- the same data on both sides, not deeper than n -/
def spAlike (K : PySem.W.Frag) : Nat → Sp
  | 0 => fun _ _ _ _ => False
  | n + 1 => fun vs H Q _ => ∃ (x y : V) (d : PyData), vs = [x, y] ∧ Dp K H x d ∧ Dp K H y d ∧ SeqAt.shaped d = true ∧ d.depth ≤ n ∧ SmD d ∧ ∀ H', Ex H H' → Q (.bl true) H'
theorem ok_l_alike {f : Addr} {fd : FuncData} (D : Df K mg "_law_alike" s_l_alike ["_law_found", "_law_due"] f fd) (T : Bt mg) : ∀ n, FnOk P w K mg base CX0 n f fd ["_law_found", "_law_due"] (spAlike K n)
  | 0 => FnOk.never
  | n + 1 => by
    have D_l_alike := D
    have G_l_alike : FnOk P w K mg base CX0 n f fd _ _ := ok_l_alike D T n
    refine D.F.ok sc_l_alike (fun vs H Q E h => ?_) (fun cdv A outer s H vs Q E hr h => ?_)
    · obtain ⟨a, b, n, rfl, _⟩ := h
      rfl
    · obtain ⟨x, y, d, rfl, hx, hy, sh, hd, sm, k⟩ := h
      have hu := hr.units
      refine ⟨_, (pss_cons (ps_if (pt_val (pe_callB (call_isiU (K := K)) (by rfl) T.b_isinstance (by decide +kernel) (pa_cons (pv 1) (pa_cons (pe_bltn (v := .ty "dict") (by rfl) T.b_dict (by decide +kernel) rfl) pa_nil)))) pss_never pss_nil)
      (pss_cons (ps_if (pt_val (pe_callB (call_isiU (K := K)) (by rfl) T.b_isinstance (by decide +kernel) (pa_cons (pv 1) (pa_cons (pe_tup (pa_cons (pe_bltn (v := .ty "tuple") (by rfl) T.b_tuple (by decide +kernel) rfl) (pa_cons (pe_bltn (v := .ty "list") (by rfl) T.b_list (by decide +kernel) rfl) pa_nil))) pa_nil)))) (pss_cons (ps_if (PW.pt (pw_or (pt_not (pt_val (pe_callB (call_isiU (K := K)) (by rfl) T.b_isinstance (by decide +kernel) (pa_cons (pv 0) (pa_cons (pe_tup (pa_cons (pe_bltn (v := .ty "tuple") (by rfl) T.b_tuple (by decide +kernel) rfl) (pa_cons (pe_bltn (v := .ty "list") (by rfl) T.b_list (by decide +kernel) rfl) pa_nil))) pa_nil))))) (pw_or1 (pt_cmpR (op_neU (K := K) hu) (pe_callB (call_isiU (K := K)) (by rfl) T.b_isinstance (by decide +kernel) (pa_cons (pv 0) (pa_cons (pe_bltn (v := .ty "list") (by rfl) T.b_list (by decide +kernel) rfl) pa_nil))) (pe_callB (call_isiU (K := K)) (by rfl) T.b_isinstance (by decide +kernel) (pa_cons (pv 1) (pa_cons (pe_bltn (v := .ty "list") (by rfl) T.b_list (by decide +kernel) rfl) pa_nil))) (nomark _))))) (pss_one (ps_ret pe_bl)) pss_nil)
      (pss_cons (ps_if (pt_cmpR (op_neU (K := K) hu) (pe_callB (call_lenU (K := K)) (by rfl) T.b_len (by decide +kernel) (pa_cons (pv 0) pa_nil)) (pe_callB (call_lenU (K := K)) (by rfl) T.b_len (by decide +kernel) (pa_cons (pv 1) pa_nil)) (nomark _)) (pss_one (ps_ret pe_bl)) pss_nil)
      (pss_one (ps_ret (pe_cmpR (op_eqU (K := K) hu) (pe_lc (own := [("_law_k", 2)]) (g := gName 2) (tt := _) rfl sc_l_alike.nd (pi_range1 (by rfl) T.b_range (pa_cons (pe_callB (call_lenU (K := K)) (by rfl) T.b_len (by decide +kernel) (pa_cons (pv 1) pa_nil)) pa_nil)) (blkOk_by (own := [("_law_k", 2)]) (N := ["_law_found", "_law_due", "_law_k"]) (sc := defScope s_l_alike) (by decide +kernel)) (fun _ _ _ _ _ => (pg_name (i := 2) sc_l_alike.nd rfl (Or.inl rfl))) (fun _ _ _ _ _ => (pts_one (pt_not (pt_val (pe_call (G_l_alike) hr rfl D_l_alike.g D_l_alike.F.kp D_l_alike.b .nil pass0 (pa_cons (pe_ix (ix_U (K := K)) (pv 0) (pv 2) (fun _ _ => rfl)) (pa_cons (pe_ix (ix_U (K := K)) (pv 1) (pv 2) (fun _ _ => rfl)) pa_nil))))))) (fun _ _ _ _ _ => (pv 2))) (pe_lst pa_nil) (nomark _)))))) pss_nil)
      (pss_cons (ps_if (PW.pt (pw_or (pt_cmpR op_isN (pv 1) pe_non (nomark _)) (pw_or1 (pt_val (pe_callB (call_isiU (K := K)) (by rfl) T.b_isinstance (by decide +kernel) (pa_cons (pv 1) (pa_cons (pe_bltn (v := .ty "str") (by rfl) T.b_str (by decide +kernel) rfl) pa_nil))))))) (pss_one (ps_ret (pe_and (pe_cmpR (op_eqU (K := K) hu) (pv 0) (pv 1) (nomark _)) (pe_one (pe_cmpR (op_eqU (K := K) hu) (pe_callB (call_isiU (K := K)) (by rfl) T.b_isinstance (by decide +kernel) (pa_cons (pv 0) (pa_cons (pe_bltn (v := .ty "str") (by rfl) T.b_str (by decide +kernel) rfl) pa_nil))) (pe_callB (call_isiU (K := K)) (by rfl) T.b_isinstance (by decide +kernel) (pa_cons (pv 1) (pa_cons (pe_bltn (v := .ty "str") (by rfl) T.b_str (by decide +kernel) rfl) pa_nil))) (nomark _)))))) pss_nil)
      (pss_one (ps_ret (pe_and (pe_callB (call_isiU (K := K)) (by rfl) T.b_isinstance (by decide +kernel) (pa_cons (pv 0) (pa_cons (pe_bltn (v := .ty "int") (by rfl) T.b_int (by decide +kernel) rfl) pa_nil))) (pe_and (pe_cmpR (op_eqU (K := K) hu) (pe_callB (call_isiU (K := K)) (by rfl) T.b_isinstance (by decide +kernel) (pa_cons (pv 0) (pa_cons (pe_bltn (v := .ty "bool") (by rfl) T.b_bool (by decide +kernel) rfl) pa_nil))) (pe_callB (call_isiU (K := K)) (by rfl) T.b_isinstance (by decide +kernel) (pa_cons (pv 1) (pa_cons (pe_bltn (v := .ty "bool") (by rfl) T.b_bool (by decide +kernel) rfl) pa_nil))) (nomark _)) (pe_one (pe_cmpR (op_eqU (K := K) hu) (pv 0) (pv 1) (nomark _)))))))))), ?_⟩
      walk_at "run"
      -- a tuple or a list: the items
      have seq : ∀ (ds : List PyData) (a b : Addr) (xs ys : List V) (H1 : Hp), Ex H H1 → x = .ref a → y = .ref b → SqA K H1 a xs → SqA K H1 b ys → DpAll K H1 xs ds → DpAll K H1 ys ds → ds.length ≤ 1000000 → (∀ e ∈ ds, SeqAt.shaped e = true ∧ e.depth + 1 ≤ n ∧ SmD e) →
          rLenU K [x] H1 fun x_8 H1 => rLenU K [y] H1 fun y_2 H2 => rNeU K x_8 y_2 H2 fun x_9 H' => ∃ k, x_9 = V.bl k ∧ if k = true then Q (V.bl false) H' else rLenU K [y] H' fun x_10 H1 => ∃ j, [x_10] = [V.int j] ∧ -2 ^ 62 ≤ j ∧ j < 2 ^ 62 ∧
            LcL (Itr 0 j.toNat) (gName 2) (tNot (tB (tCall (spAlike K n) [] E0 (tCons (tOp (rIx K) (tVar 0) (tVar 2)) (tCons (tOp (rIx K) (tVar 1) (tVar 2)) tNil))))) (tVar 2) [2] [some x, some y, none] H1 fun x H1 => rLst [] H1 fun y H2 => rEqU K x y H2 Q := by
        intro ds a b xs ys H1 e1 hxa hyb ha hb dx dy hlen hds
        subst hxa hyb
        have lx := dx.len
        have ly := dy.len
        refine x_lenA ha (x_lenA hb ?_)
        rw [lx, ly]
        walk_at "run"
        rw [if_neg (by simp)]
        refine x_lenA hb ⟨_, rfl, by omega, by omega, ?_⟩
        refine lcl_it walk_range (fun D i H' => H' D = some (.lst []) ∧ Ex H1 H') (fun D H' _ e h => ⟨h, e⟩) (fun _ _ _ _ _ => trivial) ?_ ?_
        · rintro D i v H2 H2' hD hi ⟨hD2, e2⟩ ⟨eH, rfl⟩
          subst eH
          have hi : i < ys.length := by simpa using hi
          obtain ⟨v1, hv1⟩ : ∃ v, xs[i]? = some v := ⟨xs[i], by simp⟩
          obtain ⟨v2, hv2⟩ : ∃ v, ys[i]? = some v := ⟨ys[i], by simp⟩
          obtain ⟨e, he, hd1⟩ := dx.get' hv1
          obtain ⟨e', he', hd2⟩ := dy.get' hv2
          obtain rfl : e = e' := by rw [he] at he'; exact Option.some.inj he'
          have hm := hds e (List.mem_of_getElem? he)
          have hz : (0 : Int) + i = (i : Int) := by omega
          walk_at "run"
          rw [hz]
          refine x_ixA (ha.ex e2) (atI_nat hv1) (x_ixA (hb.ex e2) (atI_nat hv2) ?_)
          obtain ⟨m, rfl⟩ : ∃ m, n = m + 1 := ⟨n - 1, by omega⟩
          refine ⟨_, _, e, rfl, Dp.ex e2 hd1, Dp.ex e2 hd2, hm.1, by omega, hm.2.2, fun H4 e4 => ⟨true, rfl, ?_⟩⟩
          rw [if_neg (by simp)]
          exact ⟨e4 _ _ hD2, e2.trans e4⟩
        · rintro D H2 hD ⟨hD2, e2⟩
          refine x_lst (by simp) fun p H3 np e3 hp => ?_
          refine x_eqD (.lst (SqL.of (e3 _ _ hD2)) .nil) (.lst (SqL.of hp) .nil) rfl rfl ?_
          exact k H3 (e1.trans (e2.trans e3))
      -- a scalar
      have e0 := eqv_same sh
      have eqd : ∀ (H1 : Hp) (Q1 : VK), Ex H H1 → Q1 (.bl true) H1 → rEqU K x y H1 Q1 := fun H1 Q1 e q => x_eqD (Dp.ex e hx) (Dp.ex e hy) sh sh (by rw [e0]; exact q)
      cases d with
      | dict _ => cases hx
      | list ds =>
        obtain ⟨a, xs, rfl, hxs, dx⟩ : ∃ a xs, x = .ref a ∧ SqL K H a xs ∧ DpAll K H xs ds := by
          cases hx with
          | lst h1 h2 => exact ⟨_, _, rfl, h1, h2⟩
        obtain ⟨b, ys, rfl, hys, dy⟩ : ∃ b ys, y = .ref b ∧ SqL K H b ys ∧ DpAll K H ys ds := by
          cases hy with
          | lst h1 h2 => exact ⟨_, _, rfl, h1, h2⟩
        obtain ⟨hlen, hsm⟩ : ds.length ≤ 1000000 ∧ ∀ d ∈ ds, SmD d := by
          cases sm with
          | lst h1 h2 => exact ⟨h1, h2⟩
        refine x_isD hy rfl ?_
        refine ⟨false, rfl, ?_⟩
        rw [if_neg Bool.false_ne_true]
        refine x_tup (by simp) fun p H1 np e1 hp => ?_
        refine x_isD2 (Dp.ex e1 hy) hp rfl ?_
        refine ⟨true, rfl, ?_⟩
        rw [if_pos rfl]
        refine x_tup (by simp) fun p2 H2 np2 e2 hp2 => ?_
        have e02 := e1.trans e2
        refine x_isD2 (Dp.ex e02 hx) hp2 rfl ?_
        refine ⟨true, rfl, ?_⟩
        rw [if_neg (by simp)]
        refine x_isD (Dp.ex e02 hx) rfl (x_isD (Dp.ex e02 hy) rfl ?_)
        walk_at "run"
        rw [if_neg (by simp)]
        refine seq ds a b xs ys H2 e02 rfl rfl (.inl (ex_l e02 hxs)) (.inl (ex_l e02 hys)) (DpAll.ex e02 dx) (DpAll.ex e02 dy) hlen fun e he => ?_
        have := shaped_l sh he
        exact ⟨this.1, by omega, hsm e he⟩
      | tuple ds =>
        obtain ⟨a, xs, rfl, hxs, dx⟩ := Dp.tup_inv hx
        obtain ⟨b, ys, rfl, hys, dy⟩ := Dp.tup_inv hy
        obtain ⟨hlen, hsm⟩ : ds.length ≤ 1000000 ∧ ∀ d ∈ ds, SmD d := by
          cases sm with
          | tup h1 h2 => exact ⟨h1, h2⟩
        refine x_isD hy rfl ?_
        refine ⟨false, rfl, ?_⟩
        rw [if_neg Bool.false_ne_true]
        refine x_tup (by simp) fun p H1 np e1 hp => ?_
        refine x_isD2 (Dp.ex e1 hy) hp rfl ?_
        refine ⟨true, rfl, ?_⟩
        rw [if_pos rfl]
        refine x_tup (by simp) fun p2 H2 np2 e2 hp2 => ?_
        have e02 := e1.trans e2
        refine x_isD2 (Dp.ex e02 hx) hp2 rfl ?_
        refine ⟨true, rfl, ?_⟩
        rw [if_neg (by simp)]
        refine x_isD (Dp.ex e02 hx) rfl (x_isD (Dp.ex e02 hy) rfl ?_)
        walk_at "run"
        rw [if_neg (by simp)]
        refine seq ds a b xs ys H2 e02 rfl rfl (.inr (ex_t e02 hxs)) (.inr (ex_t e02 hys)) (DpAll.ex e02 dx) (DpAll.ex e02 dy) hlen fun e he => ?_
        have := shaped_t sh he
        exact ⟨this.1, by omega, hsm e he⟩
      | none =>
        obtain rfl : y = .non := by cases hy; rfl
        refine x_isD hy rfl ⟨false, rfl, ?_⟩
        rw [if_neg Bool.false_ne_true]
        refine x_tup (by simp) fun p H1 np e1 hp => ?_
        refine x_isD2 (Dp.ex e1 hy) hp rfl ⟨false, rfl, ?_⟩
        rw [if_neg Bool.false_ne_true, if_pos rfl]
        refine eqd H1 _ e1 ⟨true, rfl, ?_⟩
        rw [if_pos rfl]
        refine x_isD (Dp.ex e1 hx) rfl (x_isD (Dp.ex e1 hy) rfl ?_)
        walk_at "run"
        exact k H1 e1
      | str z =>
        obtain rfl : y = .str z := by cases hy; rfl
        refine x_isD hy rfl ⟨false, rfl, ?_⟩
        rw [if_neg Bool.false_ne_true]
        refine x_tup (by simp) fun p H1 np e1 hp => ?_
        refine x_isD2 (Dp.ex e1 hy) hp rfl ⟨false, rfl, ?_⟩
        rw [if_neg Bool.false_ne_true, if_neg (by simp)]
        refine x_isD (Dp.ex e1 hy) rfl ⟨true, rfl, ?_⟩
        rw [if_pos rfl]
        refine eqd H1 _ e1 ⟨true, rfl, ?_⟩
        rw [if_pos rfl]
        refine x_isD (Dp.ex e1 hx) rfl (x_isD (Dp.ex e1 hy) rfl ?_)
        walk_at "run"
        exact k H1 e1
      | int z =>
        obtain rfl : y = .int z := by cases hy; rfl
        refine x_isD hy rfl ⟨false, rfl, ?_⟩
        rw [if_neg Bool.false_ne_true]
        refine x_tup (by simp) fun p H1 np e1 hp => ?_
        refine x_isD2 (Dp.ex e1 hy) hp rfl ⟨false, rfl, ?_⟩
        rw [if_neg Bool.false_ne_true, if_neg (by simp)]
        refine x_isD (Dp.ex e1 hy) rfl ⟨false, rfl, ?_⟩
        rw [if_neg Bool.false_ne_true]
        refine x_isD (Dp.ex e1 hx) rfl ⟨true, rfl, ?_⟩
        rw [if_pos rfl]
        refine x_isD (Dp.ex e1 hx) rfl (x_isD (Dp.ex e1 hy) rfl ?_)
        walk_at "run"
        exact eqd H1 _ e1 (k H1 e1)
      | bool z =>
        obtain rfl : y = .bl z := by cases hy; rfl
        refine x_isD hy rfl ⟨false, rfl, ?_⟩
        rw [if_neg Bool.false_ne_true]
        refine x_tup (by simp) fun p H1 np e1 hp => ?_
        refine x_isD2 (Dp.ex e1 hy) hp rfl ⟨false, rfl, ?_⟩
        rw [if_neg Bool.false_ne_true, if_neg (by simp)]
        refine x_isD (Dp.ex e1 hy) rfl ⟨false, rfl, ?_⟩
        rw [if_neg Bool.false_ne_true]
        refine x_isD (Dp.ex e1 hx) rfl ⟨true, rfl, ?_⟩
        rw [if_pos rfl]
        refine x_isD (Dp.ex e1 hx) rfl (x_isD (Dp.ex e1 hy) rfl ?_)
        walk_at "run"
        exact eqd H1 _ e1 (k H1 e1)
end
end K
set_option Elab.async false
set_option linter.all false
set_option maxRecDepth 100000
set_option maxHeartbeats 4000000
namespace K
open PySem PySem.Spec PyProof.Rows L2 Evl FB
local macro_rules | `(tactic| walk_at "run") => `(tactic| try simp only [tSeq, tAsg, tVar, tC, gName, L2.start, List.map_cons, List.map_nil, List.cons_append, List.nil_append, List.length_cons, List.length_nil, List.replicate, List.getElem?_cons_zero, List.getElem?_cons_succ, Option.some.injEq, exists_eq_left', List.set_cons_zero, List.set_cons_succ, V.ref.injEq, tRet, x_tLst, x_tTup, tCons, tCB, tNil, tOp, x_addI, x_mulI, x_rI, x_rI0, x_ltI, x_leI, x_ltS, x_leS, x_eqI, x_neI, x_eqS, x_eqB, x_neB, x_isiI, x_isiS, x_int, x_max, x_min, cxOf, tIfS, tNext, tTest, V.bl.injEq, decide_eq_true_eq, gSub, tAnd, tOr, tNot, tB, tDrop, tBM, x_tFor, iRng1, iList, iTup, x_tLc, tYes, tCall, tIf, tAndV, tOrV, tNotV, tChain, List.append_nil, tUn, if_true, wipe, true_and, x_never, iU, x_itS, kV])
/-- the program's constants -/
abbrev s_is_letters : Stmt := top 13
structure Ct (K : PySem.W.Frag) (mg : Str → Option Value) : Prop where
  g_MAX_LETTERS : ∃ t, mg "MAX_LETTERS" = some (.int 8 t)
  g_MAX_SEATS : ∃ t, mg "MAX_SEATS" = some (.int 8 t)
  g_MAX_STATIONS : ∃ t, mg "MAX_STATIONS" = some (.int 40 t)
  is_letters : ∃ f fd, Df K mg "is_letters" s_is_letters ["text"] f fd
def okc (c : Nat) : Bool := decide (97 ≤ c) && decide (c ≤ 122)
theorem one_lt (c d : Nat) : decide (([c] : List Nat) < [d]) = decide (c < d) := by
  have e : (([c] : List Nat) < [d]) ↔ c < d := by
    simp [List.cons_lt_cons_iff]
  simp [e]
/-- one to eight letters -/
def wordB (z : Str) : Bool := decide (1 ≤ z.length) && decide (z.length ≤ 8) && z.cps.toList.all okc
/-- a seat of the station st of n may lead to it -/
def placeB (st n : Int) : Key → Bool
  | .inl j => decide (st < j) && decide (j < n)
  | .inr z => wordB z
section
variable {P : Program} {w : World} {K : PySem.W.Frag} {mg : Str → Option Value} {base : Heap}
theorem sc_is_letters : FnScope ["text", "letter"] ["text"] (defScope s_is_letters) := ⟨rfl, rfl, rfl, by decide +kernel, rfl, by decide +kernel, by decide +kernel⟩
/-- letters a to z, at least one -/
def lettersB (z : Str) : Bool := decide (1 ≤ z.length) && z.cps.toList.all okc
def spLetters : Sp := fun vs H Q _ => ∃ z : Str, vs = [.str z] ∧ z.length ≤ 100000 ∧ ∀ H', Ex H H' → Q (.bl (lettersB z)) H'
theorem ok_is_letters {f : Addr} {fd : FuncData} (D : Df K mg "is_letters" s_is_letters ["text"] f fd) (T : Bt mg) : FnOk P w K mg base CX0 1 f fd ["text"] spLetters := by
  refine D.F.ok sc_is_letters (fun vs H Q E h => ?_) (fun cdv A outer s H vs Q E hr h => ?_)
  · obtain ⟨z, rfl, _⟩ := h
    rfl
  · obtain ⟨z, rfl, hl, k⟩ := h
    refine ⟨_, (pss_one (ps_ret (pe_and (pe_cmpR (op_gtU) (pe_callB (call_lenU (K := K)) (by rfl) T.b_len (by decide +kernel) (pa_cons (pv 0) pa_nil)) pe_int (nomark _)) (pe_one (pe_callB (call_allU (K := K) rfl) (by rfl) T.b_all (by decide +kernel) (pa_cons (pe_lc (own := [("letter", 1)]) (g := gName 1) (tt := tYes) rfl sc_is_letters.nd (pi_U (K := K) (pv 0)) (blkOk_by (own := [("letter", 1)]) (N := ["text", "letter"]) (sc := defScope s_is_letters) (by decide +kernel)) (fun _ _ _ _ _ => (pg_name (i := 1) sc_is_letters.nd rfl (Or.inl rfl))) (fun _ _ _ _ _ => pts_nil) (fun _ _ _ _ _ => (pe_chain (op_leU) (op_leU) pe_str (pv 1) pe_str))) pa_nil)))))), ?_⟩
    walk_at "run"
    refine x_lenS (by rw [sizeLine_eq]; omega) ?_
    walk_at "run"
    by_cases h1 : (0 : Int) < (z.length : Nat)
    · rw [if_pos h1]
      walk_at "run"
      have hz : z.cps.size = z.cps.toList.length := by simp
      have hzl : z.cps.size = z.length := rfl
      refine lcl_it walk_str (fun D i H' => H' D = some (.lst (((z.cps.toList.take i).map okc).map V.bl)) ∧ Ex H H') (fun D H' _ e h => ⟨h, e⟩) (fun _ _ _ _ _ => trivial) ?_ ?_
      · rintro D i v H2 H2' hD hi ⟨hD2, e2⟩ ⟨eH, c, hc, rfl⟩
        subst eH
        have hc' : z.cps.toList[i]? = some c := by simpa using hc
        walk_at "run"
        have ea : (Str.ofString "a").cps.toList = [97] := by decide +kernel
        have ez : (Str.ofString "z").cps.toList = [122] := by decide +kernel
        rw [ea]
        show if (!decide (([c] : List Nat) < [97])) = true then _ else _
        rw [one_lt]
        have push : ∀ b, b = okc c → Push D (fun H' => H' D = some (.lst (((z.cps.toList.take (i + 1)).map okc).map V.bl)) ∧ Ex H H') (.bl b) H2' := fun b hb => by
          refine x_push hD2 (by simp; omega) fun H5 e5 h5 => ⟨?_, fun x o hx => e5 _ _ (ne_of_none hx hD) (e2 _ _ hx)⟩
          rw [h5, List.take_add_one, hc', hb]
          simp
        by_cases g1 : c < 97
        · rw [if_neg (by simp [g1])]
          refine push _ ?_
          unfold okc
          simp; omega
        · rw [if_pos (by simp [g1])]
          rw [ez]
          show Push D _ (V.bl (!decide (([122] : List Nat) < [c]))) H2'
          rw [one_lt]
          refine push _ ?_
          unfold okc
          by_cases g2 : 122 < c
          · have : ¬ c ≤ 122 := by omega
            simp [g2, this]
          · have h1 : 97 ≤ c := by omega
            have h2 : c ≤ 122 := by omega
            simp [g2, h1, h2]
      · rintro D H2 hD ⟨hD2, e2⟩
        refine ⟨D, _, rfl, SqL.of hD2, ?_⟩
        have e : (((z.cps.toList.take z.cps.size).map okc).all id) = lettersB z := by
          rw [hz, List.take_length]
          unfold lettersB
          have a1 : decide (1 ≤ z.length) = true := by simp; omega
          rw [a1, List.all_map]
          rfl
        rw [e]
        exact k H2 e2
    · rw [if_neg h1]
      have q := k H (Ex.refl H)
      have e : lettersB z = false := by unfold lettersB; have : ¬ 1 ≤ z.length := by omega
                                        simp [this]
      rw [e] at q
      exact q
abbrev s_is_word : Stmt := top 14
theorem sc_is_word : FnScope ["text"] ["text"] (defScope s_is_word) := ⟨rfl, rfl, rfl, by decide +kernel, rfl, by decide +kernel, by decide +kernel⟩
def spWord : Sp := fun vs H Q _ => ∃ z : Str, vs = [.str z] ∧ z.length ≤ 1000 ∧ ∀ H', Ex H H' → Q (.bl (wordB z)) H'
theorem ok_is_word {f : Addr} {fd : FuncData} (D : Df K mg "is_word" s_is_word ["text"] f fd) (T : Bt mg) (C : Ct K mg) : FnOk P w K mg base CX0 2 f fd ["text"] spWord := by
  obtain ⟨f1, fd1, D_is_letters⟩ := C.is_letters
  have G_is_letters : FnOk P w K mg base CX0 1 f1 fd1 _ _ := ok_is_letters D_is_letters T
  refine D.F.ok sc_is_word (fun vs H Q E h => ?_) (fun cdv A outer s H vs Q E hr h => ?_)
  · obtain ⟨z, rfl, _⟩ := h
    rfl
  · obtain ⟨z, rfl, hl, k⟩ := h
    obtain ⟨tl, g_MAX_LETTERS⟩ := C.g_MAX_LETTERS
    refine ⟨_, (pss_one (ps_ret (pe_and (pe_cmpR (op_leU) (pe_callB (call_lenU (K := K)) (by rfl) T.b_len (by decide +kernel) (pa_cons (pv 0) pa_nil)) (pe_glob (v := .int 8) rfl g_MAX_LETTERS ⟨_, rfl⟩) (nomark _)) (pe_one (pe_call (G_is_letters) (hr.mono (by decide)) rfl D_is_letters.g D_is_letters.F.kp D_is_letters.b .nil pass0 (pa_cons (pv 0) pa_nil)))))), ?_⟩
    walk_at "run"
    refine x_lenS (by rw [sizeLine_eq]; omega) ?_
    walk_at "run"
    by_cases h8 : ((z.length : Nat) : Int) ≤ 8
    · rw [if_pos h8]
      refine ⟨z, rfl, by omega, fun H1 e1 => ?_⟩
      have e : lettersB z = wordB z := by
        unfold lettersB wordB
        have a2 : decide (z.length ≤ 8) = true := by simp; omega
        rw [a2, Bool.and_true]
      rw [e]
      exact k H1 e1
    · rw [if_neg h8]
      have q := k H (Ex.refl H)
      have e : wordB z = false := by unfold wordB; have : ¬ z.length ≤ 8 := by omega
                                     simp [this]
      rw [e] at q
      exact q
abbrev s_is_place : Stmt := top 15
theorem sc_is_place : FnScope ["place", "station", "stations"] ["place", "station", "stations"] (defScope s_is_place) := ⟨rfl, rfl, rfl, by decide +kernel, rfl, by decide +kernel, by decide +kernel⟩
def spPlaceQ : Sp := fun vs H Q _ => ∃ (k : Key) (st n : Int), vs = [kV k, .int st, .int n] ∧ (∀ z, k = .inr z → z.length ≤ 1000) ∧ ∀ H', Ex H H' → Q (.bl (placeB st n k)) H'
theorem ok_is_place {f f1 : Addr} {fd fd1 : FuncData} (D : Df K mg "is_place" s_is_place ["place", "station", "stations"] f fd) (T : Bt mg) (C : Ct K mg) (D_is_word : Df K mg "is_word" s_is_word ["text"] f1 fd1) :
    FnOk P w K mg base CX0 3 f fd ["place", "station", "stations"] spPlaceQ := by
  have G_is_word : FnOk P w K mg base CX0 2 f1 fd1 _ _ := ok_is_word D_is_word T C
  refine D.F.ok sc_is_place (fun vs H Q E h => ?_) (fun cdv A outer s H vs Q E hr h => ?_)
  · obtain ⟨k, st, n, rfl, _⟩ := h
    rfl
  · obtain ⟨key, st, n, rfl, hl, k⟩ := h
    refine ⟨_, (pss_cons (ps_if (pt_val (pe_callB (call_isiU (K := K)) (by rfl) T.b_isinstance (by decide +kernel) (pa_cons (pv 0) (pa_cons (pe_bltn (v := .ty "str") (by rfl) T.b_str (by decide +kernel) rfl) pa_nil)))) (pss_one (ps_ret (pe_call (G_is_word) (hr.mono (by decide)) rfl D_is_word.g D_is_word.F.kp D_is_word.b .nil pass0 (pa_cons (pv 0) pa_nil)))) pss_nil)
      (pss_one (ps_ret (pe_chain (op_ltU) (op_ltU) (pv 1) (pv 0) (pv 2))))), ?_⟩
    cases key with
    | inl j =>
      walk_at "run"
      rw [if_neg Bool.false_ne_true]
      by_cases h : st < j
      · rw [if_pos h]
        have e : placeB st n (.inl j) = decide (j < n) := by unfold placeB; simp [h]
        rw [← e]
        exact k H (Ex.refl H)
      · rw [if_neg h]
        have e : placeB st n (.inl j) = false := by unfold placeB; simp [h]
        rw [← e]
        exact k H (Ex.refl H)
    | inr z =>
      walk_at "run"
      exact ⟨z, rfl, hl z rfl, k⟩
end
end K
set_option Elab.async false
set_option linter.all false
set_option maxRecDepth 100000
set_option maxHeartbeats 4000000
namespace K
open PySem PySem.Spec PyProof.Rows L2 Evl FB
local macro_rules | `(tactic| walk_at "run") => `(tactic| try simp only [tSeq, tAsg, tVar, tC, gName, L2.start, List.map_cons, List.map_nil, List.cons_append, List.nil_append, List.length_cons, List.length_nil, List.replicate, List.getElem?_cons_zero, List.getElem?_cons_succ, Option.some.injEq, exists_eq_left', List.set_cons_zero, List.set_cons_succ, V.ref.injEq, tRet, x_tLst, x_tTup, tCons, tCB, tNil, tOp, x_addI, x_mulI, x_rI, x_rI0, x_ltI, x_leI, x_ltS, x_leS, x_eqI, x_neI, x_eqS, x_eqB, x_neB, x_isiI, x_isiS, x_int, x_max, x_min, cxOf, tIfS, tNext, tTest, V.bl.injEq, decide_eq_true_eq, gSub, tAnd, tOr, tNot, tB, tDrop, tBM, x_tFor, iRng1, iList, iTup, x_tLc, tYes, tCall, tIf, tAndV, tOrV, tNotV, tChain, List.append_nil, tUn, if_true, wipe, true_and, x_never, iU, x_itS, kV, Nat.reduceAdd, Nat.reduceSub, List.replicate_zero, x_rU, x_tMkO, iEnumT])
/-- a network without fault -/
structure ValidN (N : Net) : Prop where
  pos : 1 ≤ N.length
  le : N.length ≤ 40
  st : ∀ (k : Nat) s, N[k]? = some s → 1 ≤ s.length ∧ s.length ≤ 8 ∧ ∀ p ∈ s, placeB k N.length p = true ∧ ∀ z, p = .inr z → z.length ≤ 1000
theorem wordB_W4 {z : Str} (h : z ∈ W4) : wordB z = true ∧ z.length ≤ 8 := by
  unfold W4 at h
  simp only [List.mem_cons, List.not_mem_nil, or_false] at h
  rcases h with rfl | rfl | rfl | rfl <;> exact ⟨by decide +kernel, by decide +kernel⟩
theorem Drawn.valid {N : Net} {most : Int} (D : Drawn N most) (h : most ≤ 40) : ValidN N where
  pos := D.pos
  le := by have := D.le; omega
  st := fun k s hk => by
    obtain ⟨h1, h2, h3⟩ := D.st k s hk
    refine ⟨h1, h2, fun p hp => ?_⟩
    have := h3 p hp
    cases p with
    | inl j =>
      obtain ⟨a, b⟩ := this
      exact ⟨by unfold placeB; simp; omega, fun z e => by cases e⟩
    | inr z =>
      have := wordB_W4 this
      exact ⟨this.1, fun y e => by cases e; omega⟩
theorem ValidN.seat {N : Net} (h : ValidN N) {i : Nat} {s : List Key} (hs : N[i]? = some s) {j : Int} (hp : (.inl j : Key) ∈ s) : (i : Int) < j ∧ j < N.length := by
  have := ((h.st i s hs).2.2 _ hp).1
  unfold placeB at this
  simpa using this
section
variable {P : Program} {w : World} {K : PySem.W.Frag} {mg : Str → Option Value} {base : Heap}
def spCheckOk (K : PySem.W.Frag) : Sp := fun vs H Q _ => ∃ (v : V) (N : Net), vs = [v] ∧ NetAt K H v N ∧ ValidN N ∧ ∀ H', Ex H H' → Q .non H'
abbrev s_check_network : Stmt := top 16
theorem sc_check_network : FnScope ["network", "station", "seats", "seat", "place"] ["network"] (defScope s_check_network) := ⟨rfl, rfl, rfl, by decide +kernel, rfl, by decide +kernel, by decide +kernel⟩
theorem ok_check_network0 {f f1 f2 : Addr} {fd fd1 fd2 : FuncData} (D : Df K mg "check_network" s_check_network ["network"] f fd) (T : Bt mg) (Ck : Ct K mg) (D_is_word : Df K mg "is_word" s_is_word ["text"] f1 fd1)
    (D_is_place : Df K mg "is_place" s_is_place ["place", "station", "stations"] f2 fd2) :
    FnOk P w K mg base CX0 4 f fd ["network"] (spCheckOk K) := by
  have G_is_place : FnOk P w K mg base CX0 3 f2 fd2 _ _ := ok_is_place D_is_place T Ck D_is_word
  refine D.F.ok sc_check_network (fun vs H Q E h => ?_) (fun cdv A outer s H vs Q E hr h => ?_)
  · obtain ⟨v, N, rfl, _⟩ := h
    rfl
  · obtain ⟨v, N, rfl, hN, hV, k1⟩ := h
    have hu := hr.units
    obtain ⟨tML, g_MAX_STATIONS⟩ := Ck.g_MAX_STATIONS
    obtain ⟨tMS, g_MAX_SEATS⟩ := Ck.g_MAX_SEATS
    refine ⟨_, (pss_cons (ps_if (pt_cmpR (op_eqU (K := K) hu) (pe_callB (call_lenU (K := K)) (by rfl) T.b_len (by decide +kernel) (pa_cons (pv 0) pa_nil)) pe_int (nomark _)) pss_never pss_nil)
      (pss_one (ps_for PassesOwn.never rfl (pi_enumT (by rfl) T.b_enumerate (pa_cons (pv 0) pa_nil)) (pg_tup rfl (pgs_cons (pg_name (i := 1) sc_check_network.nd rfl (Or.inl rfl)) (pgs_cons (pg_name (i := 2) sc_check_network.nd rfl (Or.inl rfl)) pgs_nil))) (pss_cons (ps_if (PW.pt (pw_or (pt_cmpR (op_eqU (K := K) hu) (pv 1) (pe_glob (v := .int 40) rfl g_MAX_STATIONS ⟨_, rfl⟩) (nomark _)) (pw_or1 (pt_not (pt_chain (op_leU) (op_leU) pe_int (pe_callB (call_lenU (K := K)) (by rfl) T.b_len (by decide +kernel) (pa_cons (pv 2) pa_nil)) (pe_glob (v := .int 8) rfl g_MAX_SEATS ⟨_, rfl⟩)))))) pss_never pss_nil)
      (pss_one (ps_for PassesOwn.never rfl (pi_enumT (by rfl) T.b_enumerate (pa_cons (pv 2) pa_nil)) (pg_tup rfl (pgs_cons (pg_name (i := 3) sc_check_network.nd rfl (Or.inl rfl)) (pgs_cons (pg_name (i := 4) sc_check_network.nd rfl (Or.inl rfl)) pgs_nil))) (pss_one (ps_if (pt_not (pt_val (pe_call (G_is_place) (hr.mono (by decide)) rfl D_is_place.g D_is_place.F.kp D_is_place.b .nil pass0 (pa_cons (pv 4) (pa_cons (pv 1) (pa_cons (pe_callB (call_lenU (K := K)) (by rfl) T.b_len (by decide +kernel) (pa_cons (pv 0) pa_nil)) pa_nil)))))) pss_never pss_nil)))))))), ?_⟩
    walk_at "run"
    obtain ⟨a, ts, rfl, hT, hts⟩ := hN.at
    have hl : ts.length = N.length := by rw [hts.len, List.length_map]
    have hp := hV.pos
    have h40 := hV.le
    refine x_lenT hT ?_
    rw [hl]
    walk_at "run"
    rw [if_neg (by omega)]
    refine ⟨_, _, rfl, hT, loop_it walk_enumT (fun i σ H' => ∃ u1 u2 u3 u4, σ = [some (.ref a), u1, u2, u3, u4] ∧ Ex H H') ⟨_, _, _, _, rfl, Ex.refl H⟩
      (fun i σ H' _ ⟨_, _, _, _, _, e⟩ => ex_t e hT) ?_ ?_⟩
    · rintro i v σ H1 H2 hi ⟨u1, u2, u3, u4, rfl, e1⟩ ⟨T0, x, y, rfl, hT0, rfl, hx, hy⟩
      obtain rfl : V.int (i : Nat) = x := Option.some.inj hx
      have e2 : Ex H (upd H1 T0 (.tup [.int (i : Nat), y])) := e1.trans (Ex.new hT0)
      refine x_two (SqT.of upd_same) ?_
      generalize upd H1 T0 (.tup [.int (i : Nat), y]) = H2 at e2
      obtain ⟨sD, hs, hy2⟩ := hts.get' hy
      obtain ⟨s, hsN, rfl⟩ : ∃ s, N[i]? = some s ∧ stD s = sD := by simpa using hs
      obtain ⟨b, rfl, hB⟩ := StAt.at hy2
      obtain ⟨s1, s2, s3⟩ := hV.st i s hsN
      walk_at "run"
      rw [if_neg (by omega)]
      refine x_lenT (ex_t e2 hB) ?_
      rw [List.length_map]
      walk_at "run"
      rw [if_pos (by omega), if_neg (by simp; omega)]
      refine ⟨_, _, rfl, ex_t e2 hB, loop_it walk_enumT (fun j σ H' => ∃ u3 u4, σ = [some (.ref a), some (.int i), some (.ref b), u3, u4] ∧ Ex H H') ⟨_, _, rfl, e2⟩
        (fun j σ H' _ ⟨_, _, _, e⟩ => ex_t e hB) ?_ ?_⟩
      · rintro j v σ H3 H4 hj ⟨u3, u4, rfl, e3⟩ ⟨T1, x, y, rfl, hT1, rfl, hx, hy⟩
        obtain rfl : V.int (j : Nat) = x := Option.some.inj hx
        have e4 : Ex H (upd H3 T1 (.tup [.int (j : Nat), y])) := e3.trans (Ex.new hT1)
        refine x_two (SqT.of upd_same) ?_
        generalize upd H3 T1 (.tup [.int (j : Nat), y]) = H4 at e4
        obtain ⟨p, hp, rfl⟩ : ∃ p, s[j]? = some p ∧ kV p = y := by simpa using hy
        have hpm := s3 p (List.mem_of_getElem? hp)
        walk_at "run"
        refine x_lenT (ex_t e4 hT) ?_
        rw [hl]
        refine ⟨p, i, N.length, rfl, hpm.2, fun H5 e5 => ⟨_, rfl, ?_⟩⟩
        rw [if_neg (by rw [hpm.1]; decide)]
        exact ⟨_, _, rfl, e4.trans e5⟩
      · rintro σ H3 ⟨u3, u4, rfl, e3⟩
        exact ⟨_, _, _, _, rfl, e3⟩
    · rintro σ H1 ⟨u1, u2, u3, u4, rfl, e1⟩
      exact k1 H1 e1
end
/-- what is enough of a network for the counting -/
structure CntN (N : Net) : Prop where
  le : N.length ≤ 40
  st : ∀ s ∈ N, 1 ≤ s.length ∧ s.length ≤ 8
  fw : ∀ (i : Nat) s, N[i]? = some s → ∀ j : Int, (.inl j : Key) ∈ s → (i : Int) < j ∧ j < N.length
theorem ValidN.cnt {N : Net} (h : ValidN N) : CntN N :=
  ⟨h.le, fun s hs => by
    obtain ⟨k, hk⟩ := List.mem_iff_getElem?.mp hs
    obtain ⟨a, b, _⟩ := h.st k s hk
    exact ⟨a, b⟩, fun i s hs j hj => h.seat hs hj⟩
theorem seats_len {N : Net} (h : CntN N) {k : Nat} (hk : k ≤ N.length) : (seatsOf N k).length ≤ 320 := by
  have := seatsOf_len (N := N) (fun s hs => (h.st s hs).2) k
  have := h.le
  omega
end K
set_option Elab.async false
set_option linter.all false
set_option maxRecDepth 100000
set_option maxHeartbeats 4000000
namespace K
open PySem PySem.Spec PyProof.Rows L2 Evl FB
local macro_rules | `(tactic| walk_at "run") => `(tactic| try simp only [tSeq, tAsg, tVar, tC, gName, L2.start, List.map_cons, List.map_nil, List.cons_append, List.nil_append, List.length_cons, List.length_nil, List.replicate, List.getElem?_cons_zero, List.getElem?_cons_succ, Option.some.injEq, exists_eq_left', List.set_cons_zero, List.set_cons_succ, V.ref.injEq, tRet, x_tLst, x_tTup, tCons, tCB, tNil, tOp, x_addI, x_mulI, x_rI, x_rI0, x_ltI, x_leI, x_ltS, x_leS, x_eqI, x_neI, x_eqS, x_eqB, x_neB, x_isiI, x_isiS, x_int, x_max, x_min, cxOf, tIfS, tNext, tTest, V.bl.injEq, decide_eq_true_eq, gSub, tAnd, tOr, tNot, tB, tDrop, tBM, x_tFor, iRng1, iList, iTup, x_tLc, tYes, tCall, tIf, tAndV, tOrV, tNotV, tChain, List.append_nil, tUn, if_true, wipe, true_and, x_never, iU, x_itS, kV, Nat.reduceAdd, Nat.reduceSub, List.replicate_zero, x_rU, x_tMkO, iEnumT, x_tDc, x_tDGet, x_tDGet2, x_sDPut, x_tDSetd, x_tDNewK, x_iItems, x_iZip])
section
variable {P : Program} {w : World} {K : PySem.W.Frag} {mg : Str → Option Value} {base : Heap}
abbrev s_find_feeders : Stmt := top 32
theorem sc_find_feeders : FnScope ["network", "station", "feeders", "seats", "place", "sources"] ["network"] (defScope s_find_feeders) := ⟨rfl, rfl, rfl, by decide +kernel, rfl, by decide +kernel, by decide +kernel⟩
def spFeed (K : PySem.W.Frag) : Sp := fun vs H Q _ => ∃ (v : V) (N : Net), vs = [v] ∧ NetAt K H v N ∧ CntN N ∧ ∀ H' D A G kvs, Feed H H' D N.length (seatsOf N N.length) A G kvs → H' D = some (.dK kvs) → Q (.ref D) H'
theorem ok_find_feeders {f : Addr} {fd : FuncData} (D : Df K mg "find_feeders" s_find_feeders ["network"] f fd) (T : Bt mg) : FnOk P w K mg base CX0 1 f fd ["network"] (spFeed K) := by
  refine D.F.ok sc_find_feeders (fun vs H Q E h => ?_) (fun cdv A outer s H vs Q E hr h => ?_)
  · obtain ⟨v, N, rfl, _⟩ := h
    rfl
  · obtain ⟨v, N, rfl, hN, hC, q⟩ := h
    have hu1 := hu_of hr
    refine ⟨_, (pss_cons (ps_setDc (i := 2) (own := [("station", 1)]) (g := gName 1) (tt := tYes) rfl sc_find_feeders.nd rfl rfl (sw_trueD rfl rfl rfl (by decide +kernel)) (pi_range1 (by rfl) T.b_range (pa_cons (pe_callB (call_lenU (K := K)) (by rfl) T.b_len (by decide +kernel) (pa_cons (pv 0) pa_nil)) pa_nil)) (blkOk_by (own := [("station", 1)]) (N := ["network", "station", "feeders", "seats", "place", "sources"]) (sc := defScope s_find_feeders) (by decide +kernel)) (fun _ _ _ _ _ => (pg_name (i := 1) sc_find_feeders.nd rfl (Or.inl rfl))) (fun _ _ _ _ _ => pts_nil) (fun _ _ _ _ _ => (pv 1)) (fun _ _ _ _ _ => pe_dnewK))
      (pss_cons (ps_for PassesOwn.never rfl (pi_enumT (by rfl) T.b_enumerate (pa_cons (pv 0) pa_nil)) (pg_tup rfl (pgs_cons (pg_name (i := 1) sc_find_feeders.nd rfl (Or.inl rfl)) (pgs_cons (pg_name (i := 3) sc_find_feeders.nd rfl (Or.inl rfl)) pgs_nil))) (pss_one (ps_for PassesOwn.never rfl (pi_U (K := K) (pv 3)) (pg_name (i := 4) sc_find_feeders.nd rfl (Or.inl rfl)) (pss_cons (ps_set (i := 5) sc_find_feeders.nd rfl (Or.inl rfl) (pe_dsetd (pv 2) (pv 4) pe_dnewK ⟨rfl, rfl, rfl, rfl⟩))
      (pss_one (ps_dput hu1 (pv 5) (pv 1) (pe_op (op_addU (K := K)) (pe_dget2 hu1 (pv 5) (pv 1) pe_int ⟨rfl, rfl, rfl, rfl⟩) pe_int) rfl))))))
      (pss_one (ps_ret (pv 2))))), ?_⟩
    walk_at "run"
    obtain ⟨a, ts, rfl, hT, hts⟩ := hN.at
    have hl : ts.length = N.length := by rw [hts.len, List.length_map]
    have h40 := hC.le
    refine x_lenT hT ?_
    rw [hl]
    refine ⟨_, rfl, by omega, by omega, ?_⟩
    refine dcl_it walk_range (fun D i H' => ∃ A G kvs, Feed H H' D i [] A G kvs ∧ H' D = some (.dK kvs)) (fun D H' hD e h => ⟨_, _, _, Feed.start hD e, h⟩) (fun _ _ _ _ _ => trivial) ?_ ?_
    · rintro D i x H1 H1' hD hi ⟨A, G, kvs, F, hd⟩ ⟨eH, rfl⟩
      subst eH
      walk_at "run"
      have hi : i < N.length := by simpa using hi
      have hz : (0 : Int) + i = (i : Int) := by omega
      rw [hz]
      refine x_dnew fun z H2 nz e2 h2 => ?_
      have hl2 := F.len
      refine x_putD (k := .inl (i : Int)) (e2 _ _ hd) (by simp at hl2; omega) fun H3 e3 h3 => ⟨_, _, _, F.key (fresh_back F.ex nz) (ne_of_none hd nz).symm (fun q a h => ne_of_none (F.inn q a h) nz) (fun x o hx h => e3 _ _ hx (e2 _ _ h)) (e3 _ _ (ne_of_none hd nz).symm h2), h3⟩
    · rintro D H1 hD ⟨A, G, kvs, F, hd⟩
      walk_at "run"
      have hn : (((N.length : Nat) : Int)).toNat = N.length := by omega
      rw [hn] at F
      refine ⟨_, _, rfl, ex_t F.ex hT, loop_it walk_enumT (fun i σ H' => ∃ u1 u3 u4 u5 A G kvs, σ = [some (.ref a), u1, some (.ref D), u3, u4, u5] ∧ Feed H H' D N.length (seatsOf N i) A G kvs ∧ H' D = some (.dK kvs)) ⟨_, _, _, _, _, _, _, rfl, F, hd⟩
        (fun i σ H' _ ⟨_, _, _, _, _, _, _, _, F, _⟩ => ex_t F.ex hT) ?_ ?_⟩
      · rintro i v σ H2 H3 hi ⟨u1, u3, u4, u5, A, G, kvs, rfl, F, hd⟩ ⟨T0, x, y, rfl, hT0, rfl, hx, hy⟩
        obtain rfl : V.int (i : Nat) = x := Option.some.inj hx
        have e2 : Ex H2 (upd H2 T0 (.tup [.int (i : Nat), y])) := Ex.new hT0
        refine x_two (SqT.of upd_same) ?_
        generalize upd H2 T0 (.tup [.int (i : Nat), y]) = H3 at e2
        have F := F.ex2 e2
        have hd := e2 _ _ hd
        obtain ⟨sD, hs, hy2⟩ := hts.get' hy
        obtain ⟨s, hsN, rfl⟩ : ∃ s, N[i]? = some s ∧ stD s = sD := by simpa using hs
        obtain ⟨b, rfl, hB⟩ := StAt.at hy2
        have hiN : i < N.length := (List.getElem?_eq_some_iff.mp hsN).1
        have hs8 := (hC.st s (List.mem_of_getElem? hsN)).2
        have hLi := seats_len hC (k := i) (by omega)
        walk_at "run"
        refine x_itT (ex_t F.ex hB) (loop_it walk_tup (fun j σ H' => ∃ u4 u5 A G kvs, σ = [some (.ref a), some (.int i), some (.ref D), some (.ref b), u4, u5] ∧ Feed H H' D N.length (seatsOf N i ++ stSeats i (s.take j)) A G kvs ∧ H' D = some (.dK kvs)) ⟨_, _, _, _, _, rfl, by simpa [stSeats] using F, hd⟩
          (fun j σ H' _ ⟨_, _, _, _, _, _, F, _⟩ => ex_t F.ex hB) ?_ ?_)
        · rintro j x σ H4 H4' hj ⟨u4, u5, A, G, kvs, rfl, F, hd⟩ ⟨eH, hx⟩
          subst eH
          obtain ⟨p, hp, rfl⟩ : ∃ p, s[j]? = some p ∧ kV p = x := by simpa using hx
          have hL : (seatsOf N i ++ stSeats i (s.take j)).length ≤ 328 := by
            rw [List.length_append]
            have : (stSeats i (s.take j)).length ≤ 8 := by unfold stSeats; simp; omega
            omega
          have hkl := F.len
          have hLe : seatsOf N i ++ stSeats i (s.take (j + 1)) = (seatsOf N i ++ stSeats i (s.take j)) ++ [(i, p)] := by
            unfold stSeats
            rw [List.take_add_one, hp, List.map_append, List.append_assoc]
            rfl
          rw [hLe]
          generalize seatsOf N i ++ stSeats i (s.take j) = L at F hL hkl
          walk_at "run"
          refine ⟨isD_k hd, x_dnew fun z H5 nz e5 h5 => ?_⟩
          have nz0 := fresh_back F.ex nz
          have nzA : ∀ q a, A q = some a → a ≠ z := fun q a h => ne_of_none (F.inn q a h) nz
          have F := F.ex2 e5
          have hd5 := e5 _ _ hd
          -- the place's dict is at z2; it is asked, and put
          have fin : ∀ (z2 : Addr) (H6 : Hp) (kvs2 : List (Key × V)), (A p = some z2 ∨ (A p = none ∧ H z2 = none ∧ z2 ≠ D ∧ ∀ q a, A q = some a → a ≠ z2)) → (∀ x o, x ≠ D → H5 x = some o → H6 x = some o) → H6 D = some (.dK kvs2) → kvs2 = (if A p = none then putK kvs p (.ref z2) else kvs) → H6 z2 = some (.dK (cntV (G p))) →
              IsD H6 z2 ∧ rDGet2 z2 (V.int (i : Nat)) (V.int 0) H6 fun x H1 => rAddU K x (V.int 1) H1 fun v H1 => rDPut (V.ref z2) (V.int (i : Nat)) v H1
                ((fun σ H' => ∃ u4 u5 A G kvs, σ = [some (V.ref a), some (V.int (i : Nat)), some (V.ref D), some (V.ref b), u4, u5] ∧ Feed H H' D N.length (L ++ [(i, p)]) A G kvs ∧ H' D = some (.dK kvs)) [some (V.ref a), some (V.int (i : Nat)), some (V.ref D), some (V.ref b), some (kV p), some (V.ref z2)]) := by
            intro z2 H6 kvs2 hz e6 hd6 hk6 h6
            refine ⟨isD_k h6, x_dget2 (k := .inl (i : Int)) h6 ?_⟩
            rw [val_cntV]
            walk_at "run"
            have hg := F.lenG p
            refine x_dput (k := .inl (i : Int)) h6 (by unfold cntV; simp; omega) fun H7 e7 _ h7 => ?_
            rw [put_cntV (F.ndG p)] at h7
            have hzD : z2 ≠ D := by
              rcases hz with h | h
              · exact F.ne _ _ h
              · exact h.2.2.1
            refine ⟨_, _, _, _, _, rfl, F.seat hz (fun x o h1 h2 h => e7 _ _ h2 (e6 _ _ h1 h)) h7, ?_⟩
            rw [← hk6]
            exact e7 _ _ hzD.symm hd6
          refine x_dsetd hd5 (by omega) (fun v hv => ?_) (fun hv H6 e6 _ h6 => ?_)
          · rw [F.val] at hv
            obtain ⟨z2, hz2, rfl⟩ : ∃ z2, A p = some z2 ∧ V.ref z2 = v := by simpa using hv
            walk_at "run"
            exact fin z2 H5 kvs (.inl hz2) (fun _ _ _ h => h) hd5 (by rw [if_neg (by rw [hz2]; simp)]) (F.inn _ _ hz2)
          · rw [F.val] at hv
            have hA : A p = none := by simpa using hv
            have zD : z ≠ D := (ne_of_none hd nz).symm
            walk_at "run"
            exact fin z H6 _ (.inr ⟨hA, nz0, zD, nzA⟩) e6 h6 (by rw [if_pos hA]) (by rw [F.empty hA]; exact e6 _ _ zD h5)
        · rintro σ H4 ⟨u4, u5, A, G, kvs, rfl, F, hd⟩
          refine ⟨_, _, _, _, A, G, kvs, rfl, ?_, hd⟩
          have e : seatsOf N (i + 1) = seatsOf N i ++ stSeats i s := by
            show seatsOf N i ++ stSeats i (N.getD i []) = _
            rw [List.getD_eq_getElem?_getD, hsN]; rfl
          rw [e]
          have e2 : s.take ((s.map kV).length) = s := by rw [List.length_map, List.take_length]
          rw [e2] at F
          exact F
      · rintro σ H4 ⟨u1, u3, u4, u5, A, G, kvs, rfl, F, hd⟩
        walk_at "run"
        rw [hl] at F
        exact q _ _ _ _ _ F hd
end
end K
set_option Elab.async false
set_option linter.all false
set_option maxRecDepth 100000
set_option maxHeartbeats 4000000
namespace K
open PySem PySem.Spec PyProof.Rows L2 Evl FB
local macro_rules | `(tactic| walk_at "run") => `(tactic| try simp only [tSeq, tAsg, tVar, tC, gName, L2.start, List.map_cons, List.map_nil, List.cons_append, List.nil_append, List.length_cons, List.length_nil, List.replicate, List.getElem?_cons_zero, List.getElem?_cons_succ, Option.some.injEq, exists_eq_left', List.set_cons_zero, List.set_cons_succ, V.ref.injEq, tRet, x_tLst, x_tTup, tCons, tCB, tNil, tOp, x_addI, x_mulI, x_rI, x_rI0, x_ltI, x_leI, x_ltS, x_leS, x_eqI, x_neI, x_eqS, x_eqB, x_neB, x_isiI, x_isiS, x_int, x_max, x_min, cxOf, tIfS, tNext, tTest, V.bl.injEq, decide_eq_true_eq, gSub, tAnd, tOr, tNot, tB, tDrop, tBM, x_tFor, iRng1, iList, iTup, x_tLc, tYes, tCall, tIf, tAndV, tOrV, tNotV, tChain, List.append_nil, tUn, if_true, wipe, true_and, x_never, iU, x_itS, kV, Nat.reduceAdd, Nat.reduceSub, List.replicate_zero, x_rU, x_tMkO, iEnumT, x_tDc, x_tDGet, x_tDGet2, x_sDPut, x_tDSetd, x_tDNewK, x_iItems, x_iZip])
/-- what boats bs carry to a place with the feeders G -/
def brought (bs : List Int) (G : Cnt) : Int := cntQ (fun i => bs.getD i 0) G
theorem sum_brought {bs : List Int} : ∀ {G : Cnt}, (G.map fun g => g.2 * bs.getD g.1 0).sum = brought bs G
  | [] => rfl
  | (i, c) :: r => by
    rw [List.map_cons, List.sum_cons, sum_brought]; rfl
theorem ex_unlock {H H1 H2 : Hp} {d : Addr} {u : HO} (h : H d = some u) (e : ∀ x o, x ≠ d → H x = some o → H1 x = some o) (f : Ex H1 H2) : Ex H (upd H2 d u) := fun x o hx => by
  by_cases z : x = d
  · subst z
    rw [upd_same, ← h, hx]
  · rw [upd_ne z]; exact f _ _ (e _ _ z hx)
/-- how many join the station k, by the boats bs so far -/
def joins (N : Net) (c : Int) (bs : List Int) (k : Nat) : Int := if k = 0 then c else toQ (fun i => bs.getD i 0) (.inl (k : Int)) (seatsOf N N.length)
/-- the boats of the first k stations -/
def bts (N : Net) (ls : List Int) (c : Int) : Nat → List Int
  | 0 => []
  | k + 1 => bts N ls c k ++ [(ls.getD k 0 + joins N c (bts N ls c k) k).fdiv ((N.getD k []).length : Nat)]
theorem bts_len {N : Net} {ls : List Int} {c : Int} : ∀ {k}, (bts N ls c k).length = k
  | 0 => rfl
  | k + 1 => by
    show (bts N ls c k ++ [_]).length = k + 1
    rw [List.length_append, bts_len]; rfl
section
variable {P : Program} {w : World} {K : PySem.W.Frag} {mg : Str → Option Value} {base : Heap}
abbrev s_count_brought : Stmt := top 33
theorem sc_count_brought : FnScope ["sources", "boats", "station", "seats"] ["sources", "boats"] (defScope s_count_brought) := ⟨rfl, rfl, rfl, by decide +kernel, rfl, by decide +kernel, by decide +kernel⟩
def spBrought (K : PySem.W.Frag) : Sp := fun vs H Q _ => ∃ (d b : Addr) (G : Cnt) (bs : List Int), vs = [.ref d, .ref b] ∧ H d = some (.dK (cntV G)) ∧ SqL K H b (bs.map V.int) ∧ G.length ≤ 1000 ∧ (∀ g ∈ G, g.1 < bs.length ∧ 0 < g.2 ∧ g.2 ≤ 1000) ∧ ∀ H', Ex H H' → Q (.int (brought bs G)) H'
theorem ok_count_brought {f : Addr} {fd : FuncData} (D : Df K mg "count_brought" s_count_brought ["sources", "boats"] f fd) (T : Bt mg) : FnOk P w K mg base CX0 1 f fd ["sources", "boats"] (spBrought K) := by
  refine D.F.ok sc_count_brought (fun vs H Q E h => ?_) (fun cdv A outer s H vs Q E hr h => ?_)
  · obtain ⟨v, b, G, N, rfl, _⟩ := h
    rfl
  · obtain ⟨d, b, G, bs, rfl, hd, hb, hl, hG, q⟩ := h
    have hu1 := hu_of hr
    refine ⟨_, (pss_one (ps_ret (pe_callB (cr_sum rfl) (by rfl) T.b_sum (by decide +kernel) (pa_cons (pe_lock (pe_lc (own := [("station", 2), ("seats", 3)]) (g := gTup K 2 (gCons (gName 2) (gCons (gName 3) gNil))) (tt := tYes) rfl sc_count_brought.nd (pi_items (pv 0)) (blkOk_by (own := [("station", 2), ("seats", 3)]) (N := ["sources", "boats", "station", "seats"]) (sc := defScope s_count_brought) (by decide +kernel)) (fun _ _ _ _ _ => (pg_tup rfl (pgs_cons (pg_name (i := 2) sc_count_brought.nd rfl (Or.inl rfl)) (pgs_cons (pg_name (i := 3) sc_count_brought.nd rfl (Or.inl rfl)) pgs_nil)))) (fun _ _ _ _ _ => pts_nil) (fun _ _ _ _ _ => (pe_op (op_mulU (K := K)) (pv 3) (pe_ix (ix_U (K := K)) (pv 1) (pv 2) (fun _ _ => rfl)))))) pa_nil)))), ?_⟩
    walk_at "run"
    refine x_lock hd trivial fun od H1 e1 n1 h1 => ?_
    walk_at "run"
    refine x_items h1 (lcl_it walk_items (fun D i H' => Ex H1 H' ∧ H' D = some (.lst (((G.take i).map fun g => g.2 * bs.getD g.1 0).map V.int))) (fun D H' hD e h => ⟨e, h⟩) (fun D i H' _ h => h.1 _ _ h1) ?_ ?_)
    · rintro D i x H2 H3 hD hi ⟨e2, h2⟩ ⟨T0, x, y, rfl, hT0, rfl, hx, hy⟩
      have e3 : Ex H2 (upd H2 T0 (.tup [x, y])) := Ex.new hT0
      refine x_two (SqT.of upd_same) ?_
      generalize upd H2 T0 (.tup [x, y]) = H3 at e3
      obtain ⟨g, hg, rfl, rfl⟩ : ∃ g, G[i]? = some g ∧ V.int (g.1 : Nat) = x ∧ V.int g.2 = y := by
        cases e : G[i]? with
        | none => simp [cntV, e] at hx
        | some g =>
          simp [cntV, e] at hx hy
          exact ⟨g, rfl, hx, hy⟩
      obtain ⟨g1, g2, g3⟩ := hG g (List.mem_of_getElem? hg)
      walk_at "run"
      refine x_ixL (ex_l (e2.trans e3) (sq_but hb hd e1)) (atI_nat (v := .int (bs.getD g.1 0)) (by simp [List.getD_eq_getElem?_getD, g1])) ?_
      walk_at "run"
      refine ⟨.inl ⟨by omega, by omega⟩, ?_⟩
      refine x_push (e3 _ _ h2) (by simp; omega) fun H5 e5 h5 => ⟨fun x o hx => e5 _ _ (ne_of_none hx hD) (e3 _ _ (e2 _ _ hx)), ?_⟩
      rw [h5, List.take_add_one, hg]
      simp
    · rintro D H2 hD ⟨e2, h2⟩
      have hle : (cntV G).length = G.length := by unfold cntV; simp
      rw [hle, List.take_length] at h2
      have hDd : D ≠ d := fun z => by subst z; rw [h1] at hD; cases hD
      refine ⟨e2 _ _ h1, x_sum (ns := G.map fun g => g.2 * bs.getD g.1 0) (SqL.of (by rw [upd_ne hDd]; exact h2)) ?_⟩
      rw [sum_brought]
      exact q _ (ex_unlock hd e1 e2)
abbrev s_count_departures : Stmt := top 34
theorem sc_count_departures : FnScope ["network", "feeders", "lengths", "arrivals", "boats", "station", "seats", "joined"] ["network", "feeders", "lengths", "arrivals"] (defScope s_count_departures) := ⟨rfl, rfl, rfl, by decide +kernel, rfl, by decide +kernel, by decide +kernel⟩
def spDep (K : PySem.W.Frag) : Sp := fun vs H Q _ => ∃ (v : V) (N : Net) (D l : Addr) (H0 : Hp) (A : Key → Option Addr) (G : Key → Cnt) (kvs : List (Key × V)) (ls : List Int) (c : Int), vs = [v, .ref D, .ref l, .int c] ∧ NetAt K H v N ∧ CntN N ∧ Feed H0 H D N.length (seatsOf N N.length) A G kvs ∧ H D = some (.dK kvs) ∧
  SqL K H l (ls.map V.int) ∧ ls.length = N.length ∧ ∀ H' p, Ex H H' → H p = none → H' p = some (.lst ((bts N ls c N.length).map V.int)) → Q (.ref p) H'
theorem ok_count_departures {f f1 : Addr} {fd fd1 : FuncData} (D : Df K mg "count_departures" s_count_departures ["network", "feeders", "lengths", "arrivals"] f fd) (T : Bt mg) (D_count_brought : Df K mg "count_brought" s_count_brought ["sources", "boats"] f1 fd1) : FnOk P w K mg base CX0 2 f fd ["network", "feeders", "lengths", "arrivals"] (spDep K) := by
  have G_count_brought : FnOk P w K mg base CX0 1 f1 fd1 _ _ := ok_count_brought D_count_brought T
  refine D.F.ok sc_count_departures (fun vs H Q E h => ?_) (fun cdv A outer s H vs Q E hr h => ?_)
  · obtain ⟨v, N, D, l, H0, A, G, kvs, ls, c, rfl, _⟩ := h
    rfl
  · obtain ⟨v, N, D, l, H0, A, G, kvs, ls, c, rfl, hN, hC, F, hD, hls, hll, q⟩ := h
    have hu := hr.units
    have hu1 := hu_of hr
    refine ⟨_, (pss_cons (ps_set (i := 4) sc_count_departures.nd rfl (Or.inl rfl) (pe_lst pa_nil))
      (pss_cons (ps_for PassesOwn.never rfl (pi_enumT (by rfl) T.b_enumerate (pa_cons (pv 0) pa_nil)) (pg_tup rfl (pgs_cons (pg_name (i := 5) sc_count_departures.nd rfl (Or.inl rfl)) (pgs_cons (pg_name (i := 6) sc_count_departures.nd rfl (Or.inl rfl)) pgs_nil))) (pss_cons (ps_set (i := 7) sc_count_departures.nd rfl (Or.inl rfl) (pe_ifExp (pt_cmpR (op_eqU (K := K) hu) (pv 5) pe_int (nomark _)) (pv 3) (pe_call (G_count_brought) (hr.mono (by decide)) rfl D_count_brought.g D_count_brought.F.kp D_count_brought.b .nil pass0 (pa_cons (pe_dget hu1 (pv 1) (pv 5) (fun _ _ => rfl)) (pa_cons (pv 4) pa_nil)))))
      (pss_one (ps_expr (pe_bm PySem.F.plainAttrs_list PySem.F.slot_list_append PySem.F.type_list_append mt_append (pv 4) (pa_cons (pe_op op_fdivN (pe_op (op_addU (K := K)) (pe_ix (ix_U (K := K)) (pv 2) (pv 5) (fun _ _ => rfl)) (pv 7)) (pe_callB (call_lenU (K := K)) (by rfl) T.b_len (by decide +kernel) (pa_cons (pv 6) pa_nil))) pa_nil))))))
      (pss_one (ps_ret (pv 4))))), ?_⟩
    walk_at "run"
    obtain ⟨a, ts, rfl, hT, hts⟩ := hN.at
    have hl : ts.length = N.length := by rw [hts.len, List.length_map]
    have h40 := hC.le
    refine x_lst (by simp) fun B H1 nB e1 hB => ?_
    refine ⟨_, _, rfl, ex_t e1 hT, loop_it walk_enumT (fun i σ H' => ∃ u5 u6 u7, σ = [some (.ref a), some (.ref D), some (.ref l), some (.int c), some (.ref B), u5, u6, u7] ∧ Ex H H' ∧ H' B = some (.lst ((bts N ls c i).map V.int))) ⟨_, _, _, rfl, e1, hB⟩
      (fun i σ H' _ ⟨_, _, _, _, e, _⟩ => ex_t e hT) ?_ ?_⟩
    · rintro i v σ H2 H3 hi ⟨u5, u6, u7, rfl, e2, hB2⟩ ⟨T0, x, y, rfl, hT0, rfl, hx, hy⟩
      obtain rfl : V.int (i : Nat) = x := Option.some.inj hx
      have e3 : Ex H2 (upd H2 T0 (.tup [.int (i : Nat), y])) := Ex.new hT0
      refine x_two (SqT.of upd_same) ?_
      generalize upd H2 T0 (.tup [.int (i : Nat), y]) = H3 at e3
      have hB3 := e3 _ _ hB2
      have e03 := e2.trans e3
      obtain ⟨sD, hs, hy2⟩ := hts.get' hy
      obtain ⟨s, hsN, rfl⟩ : ∃ s, N[i]? = some s ∧ stD s = sD := by simpa using hs
      obtain ⟨b, rfl, hb⟩ := StAt.at hy2
      have hiN : i < N.length := (List.getElem?_eq_some_iff.mp hsN).1
      obtain ⟨hs1, hs8⟩ := hC.st s (List.mem_of_getElem? hsN)
      -- behind the name joined
      have fin : ∀ (j : Int) (H4 : Hp), j = joins N c (bts N ls c i) i → Ex H3 H4 → rIx K (V.ref l) (V.int (i : Nat)) H4 fun x H1 => rAddU K x (V.int j) H1 fun x H1 => rLenU K [V.ref b] H1 fun y H2 => rI CDivN (fun i j => V.int (i.fdiv j)) x y H2 fun v H1 =>
          rAppend (V.ref B) [v] H1 fun x H' => (fun σ H' => ∃ u5 u6 u7, σ = [some (V.ref a), some (V.ref D), some (V.ref l), some (V.int c), some (V.ref B), u5, u6, u7] ∧ Ex H H' ∧ H' B = some (.lst ((bts N ls c (i + 1)).map V.int))) [some (V.ref a), some (V.ref D), some (V.ref l), some (V.int c), some (V.ref B), some (V.int (i : Nat)), some (V.ref b), some (V.int j)] H' := by
        rintro j H4 rfl e4
        refine x_ixL (ex_l (e03.trans e4) hls) (atI_nat (v := .int (ls.getD i 0)) (by simp [List.getD_eq_getElem?_getD, hll, hiN])) ?_
        walk_at "run"
        refine x_lenT (ex_t (e03.trans e4) hb) ?_
        rw [List.length_map]
        walk_at "run"
        refine ⟨⟨by omega, by omega⟩, x_append (e4 _ _ hB3) (by rw [List.length_map, bts_len]; omega) fun H5 e5 h5 => ?_⟩
        refine ⟨_, _, _, rfl, fun x o hx => e5 _ _ (ne_of_none hx nB) (e4 _ _ (e03 _ _ hx)), ?_⟩
        rw [h5]
        show _ = some (HO.lst (List.map V.int (bts N ls c i ++ [_])))
        have hg : N.getD i [] = s := by rw [List.getD_eq_getElem?_getD, hsN]; rfl
        rw [List.map_append, hg]
        rfl
      walk_at "run"
      by_cases h0 : i = 0
      · rw [if_pos (by omega)]
        exact ⟨x_tyL (SqL.of hB3), fin c H3 (by unfold joins; rw [if_pos h0]) (Ex.refl _)⟩
      · rw [if_neg (by omega)]
        obtain ⟨dq, hdq⟩ : ∃ dq, A (.inl (i : Int)) = some dq := by
          have := (F.keys (.inl (i : Int))).mpr (.inl ⟨i, hiN, rfl⟩)
          exact Option.isSome_iff_exists.mp this
        refine x_dget (k := .inl (i : Int)) (e03 _ _ hD) (by rw [F.val, hdq]; rfl) ?_
        have hlen := seats_len hC (k := N.length) (Nat.le_refl _)
        have hlg := F.lenG (.inl (i : Int))
        refine ⟨dq, B, _, _, rfl, e03 _ _ (F.inn _ _ hdq), SqL.of hB3, by omega, fun g hg => ⟨?_, (F.le _ g hg).1, by have := (F.le _ g hg).2; omega⟩, fun H4 e4 => ⟨x_tyL (SqL.of (e4 _ _ hB3)), fin _ H4 ?_ e4⟩⟩
        · rw [bts_len]
          have hm := F.mem _ g hg
          obtain ⟨h1, h2⟩ := mem_seatsOf.mp hm
          have hgN : N[g.1]? = some (N.getD g.1 []) := by simp [List.getD_eq_getElem?_getD, h1]
          have := hC.fw g.1 _ hgN _ h2
          omega
        · unfold joins brought
          rw [if_neg h0, F.sum]
    · rintro σ H2 ⟨u5, u6, u7, rfl, e2, hB2⟩
      walk_at "run"
      rw [hl] at hB2
      exact q H2 B e2 nB hB2
end
end K
set_option Elab.async false
set_option linter.all false
set_option maxRecDepth 100000
set_option maxHeartbeats 4000000
namespace K
open PySem PySem.Spec PyProof.Rows L2 Evl FB
local macro_rules | `(tactic| walk_at "run") => `(tactic| try simp only [tSeq, tAsg, tVar, tC, gName, L2.start, List.map_cons, List.map_nil, List.cons_append, List.nil_append, List.length_cons, List.length_nil, List.replicate, List.getElem?_cons_zero, List.getElem?_cons_succ, Option.some.injEq, exists_eq_left', List.set_cons_zero, List.set_cons_succ, V.ref.injEq, tRet, x_tLst, x_tTup, tCons, tCB, tNil, tOp, x_addI, x_mulI, x_rI, x_rI0, x_ltI, x_leI, x_ltS, x_leS, x_eqI, x_neI, x_eqS, x_eqB, x_neB, x_isiI, x_isiS, x_int, x_max, x_min, cxOf, tIfS, tNext, tTest, V.bl.injEq, decide_eq_true_eq, gSub, tAnd, tOr, tNot, tB, tDrop, tBM, x_tFor, iRng1, iList, iTup, x_tLc, tYes, tCall, tIf, tAndV, tOrV, tNotV, tChain, List.append_nil, tUn, if_true, wipe, true_and, x_never, iU, x_itS, kV, Nat.reduceAdd, Nat.reduceSub, List.replicate_zero, x_rU, x_tMkO, iEnumT, x_tDc, x_tDGet, x_tDGet2, x_sDPut, x_tDSetd, x_tDNewK, x_iItems, x_iZip, x_tSAddK])
section
variable {P : Program} {w : World} {K : PySem.W.Frag} {mg : Str → Option Value} {base : Heap}
abbrev s_check_passengers : Stmt := top 37
theorem sc_check_passengers : FnScope ["next_passenger", "queues", "waiting", "queue", "passenger"] ["next_passenger", "queues"] (defScope s_check_passengers) := ⟨rfl, rfl, rfl, by decide +kernel, rfl, by decide +kernel, by decide +kernel⟩
def spPass (K : PySem.W.Frag) : Sp := fun vs H Q _ => ∃ (v : V) (p : Int) (qs : List (List Int)), vs = [.int p, v] ∧ Dp K H v (qsD qs) ∧ qs.flatten.Nodup ∧ (∀ x ∈ qs.flatten, 1 ≤ x ∧ x < p) ∧ qs.flatten.length ≤ 1000 ∧ ∀ H', Ex H H' → Q .non H'
theorem ok_check_passengers {f : Addr} {fd : FuncData} (D : Df K mg "check_passengers" s_check_passengers ["next_passenger", "queues"] f fd) (T : Bt mg) : FnOk P w K mg base CX0 1 f fd ["next_passenger", "queues"] (spPass K) := by
  refine D.F.ok sc_check_passengers (fun vs H Q E h => ?_) (fun cdv A outer s H vs Q E hr h => ?_)
  · obtain ⟨v, p, qs, rfl, _⟩ := h
    rfl
  · obtain ⟨v, p, qs, rfl, hv, nd, rg, hl, q⟩ := h
    have hu := hr.units
    refine ⟨_, (pss_cons (ps_set (i := 2) sc_check_passengers.nd rfl (Or.inl rfl) (pe_callTy0 cr_set0K (by rfl) T.b_set (by decide +kernel)))
      (pss_one (ps_for PassesOwn.never rfl (pi_U (K := K) (pv 1)) (pg_name (i := 3) sc_check_passengers.nd rfl (Or.inl rfl)) (pss_one (ps_for PassesOwn.never rfl (pi_U (K := K) (pv 3)) (pg_name (i := 4) sc_check_passengers.nd rfl (Or.inl rfl)) (pss_cons (ps_if (pt_not (pt_chain (op_leU) (op_ltU) pe_int (pv 4) (pv 0))) pss_never pss_nil)
      (pss_cons (ps_if (pt_cmpR ((op_inU (K := K) (P := P) (w := w))) (pv 4) (pv 2) (by rfl)) pss_never pss_nil)
      (pss_one (ps_expr (pe_saddK (pv 2) (pa_cons (pv 4) pa_nil))))))))))), ?_⟩
    walk_at "run"
    obtain ⟨a, ts, rfl, hT, hts⟩ := qs_at hv
    have hlt : ts.length = qs.length := by rw [hts.len, List.length_map]
    refine x_set0 fun S H1 nS e1 hS => ?_
    refine x_itT (ex_t e1 hT) (loop_it walk_tup (fun i σ H' => ∃ u3 u4 W n, σ = [some (.int p), some (.ref a), some (.ref S), u3, u4] ∧ Ex H H' ∧ H' S = some (SetK P w S W n) ∧ n ≤ (qs.take i).flatten.length ∧ ∀ x : Int, W (.inl x) = true ↔ x ∈ (qs.take i).flatten) ⟨_, _, _, _, rfl, e1, hS, by simp, by simp⟩
      (fun i σ H' _ ⟨_, _, _, _, _, e, _⟩ => ex_t e hT) ?_ ?_)
    · rintro i x σ H2 H2' hi ⟨u3, u4, W, n, rfl, e2, hS2, hn, hW⟩ ⟨eH, hx⟩
      subst eH
      obtain ⟨d, hd, hd2⟩ := hts.get' hx
      obtain ⟨qi, hq, rfl⟩ : ∃ q, qs[i]? = some q ∧ qD q = d := by simpa using hd
      obtain ⟨b, rfl, hb⟩ := q_at hd2
      have htk : (qs.take (i + 1)).flatten = (qs.take i).flatten ++ qi := by
        rw [List.take_add_one, hq, List.flatten_append]; simp
      have hpre : ((qs.take i).flatten ++ qi) <+: qs.flatten := by
        rw [← htk]
        have : qs.flatten = (qs.take (i + 1)).flatten ++ (qs.drop (i + 1)).flatten := by rw [← List.flatten_append, List.take_append_drop]
        rw [this]; exact List.prefix_append _ _
      have hlen := hpre.length_le
      rw [List.length_append] at hlen
      have nd2 : ((qs.take i).flatten ++ qi).Nodup := nd.sublist hpre.sublist
      walk_at "run"
      refine x_itT (ex_t e2 hb) (loop_it walk_tup (fun j σ H' => ∃ u4 W n, σ = [some (.int p), some (.ref a), some (.ref S), some (.ref b), u4] ∧ Ex H H' ∧ H' S = some (SetK P w S W n) ∧ n ≤ ((qs.take i).flatten ++ qi.take j).length ∧ ∀ x : Int, W (.inl x) = true ↔ x ∈ (qs.take i).flatten ++ qi.take j) ⟨_, _, _, rfl, e2, hS2, by simpa using hn, by simpa using hW⟩
        (fun i σ H' _ ⟨_, _, _, _, e, _⟩ => ex_t e hb) ?_ ?_)
      · rintro j y σ H3 H3' hj ⟨u4, W, n, rfl, e3, hS3, hn, hW⟩ ⟨eH, hy⟩
        subst eH
        obtain ⟨z, hz, rfl⟩ : ∃ z, qi[j]? = some z ∧ V.int z = y := by simpa using hy
        have hj2 : j < qi.length := (List.getElem?_eq_some_iff.mp hz).1
        have hzm : z ∈ qs.flatten := hpre.subset (List.mem_append_right _ (List.mem_of_getElem? hz))
        obtain ⟨z1, z2⟩ := rg z hzm
        have htj : qi.take (j + 1) = qi.take j ++ [z] := by rw [List.take_add_one, hz]; rfl
        have hnot : ¬ z ∈ (qs.take i).flatten ++ qi.take j := by
          have hp2 : ((qs.take i).flatten ++ qi.take j ++ [z]) <+: ((qs.take i).flatten ++ qi) := by
            rw [List.append_assoc, ← htj]
            exact List.prefix_append_right_inj _ |>.mpr (List.take_prefix _ _)
          have nd3 := nd2.sublist hp2.sublist
          rw [List.nodup_append] at nd3
          intro hm
          exact nd3.2.2 z hm z (by simp) rfl
        have hWz : W (.inl z) = false := by
          cases e : W (.inl z) with
          | false => rfl
          | true => exact absurd ((hW z).mp e) hnot
        walk_at "run"
        rw [if_pos (by omega)]
        rw [if_neg (by simp; omega)]
        refine x_inS (k := .inl z) hS3 ?_
        rw [hWz]
        refine ⟨_, rfl, ?_⟩
        rw [if_neg Bool.false_ne_true]
        have hln : ((qs.take i).flatten ++ qi.take j).length ≤ 1000 := by
          rw [List.length_append, List.length_take]; omega
        refine ⟨⟨_, _, _, rfl, hS3⟩, x_sadd (k := .inl z) hS3 (by omega) fun H4 m e4 hm h4 => ?_⟩
        refine ⟨_, _, _, rfl, fun x o hx => e4 _ _ (ne_of_none hx nS) (e3 _ _ hx), h4, ?_, fun x => ?_⟩
        · rw [htj, ← List.append_assoc, List.length_append]
          simp only [List.length_cons, List.length_nil]
          omega
        · rw [htj, ← List.append_assoc, List.mem_append, ← hW x]
          simp
      · rintro σ H3 ⟨u4, W, n, rfl, e3, hS3, hn, hW⟩
        have hlq : qi.take ((qi.map V.int).length) = qi := by rw [List.length_map, List.take_length]
        rw [hlq, ← htk] at hn hW
        exact ⟨_, _, _, _, rfl, e3, hS3, hn, hW⟩
    · rintro σ H2 ⟨u3, u4, W, n, rfl, e2, _⟩
      exact q H2 e2
end
end K
set_option Elab.async false
set_option linter.all false
set_option maxRecDepth 100000
set_option maxHeartbeats 4000000
namespace K
open PySem PySem.Spec PyProof.Rows L2 Evl FB
local macro_rules | `(tactic| walk_at "run") => `(tactic| try simp only [tSeq, tAsg, tVar, tC, gName, L2.start, List.map_cons, List.map_nil, List.cons_append, List.nil_append, List.length_cons, List.length_nil, List.replicate, List.getElem?_cons_zero, List.getElem?_cons_succ, Option.some.injEq, exists_eq_left', List.set_cons_zero, List.set_cons_succ, V.ref.injEq, tRet, x_tLst, x_tTup, tCons, tCB, tNil, tOp, x_addI, x_mulI, x_rI, x_rI0, x_ltI, x_leI, x_ltS, x_leS, x_eqI, x_neI, x_eqS, x_eqB, x_neB, x_isiI, x_isiS, x_int, x_max, x_min, cxOf, tIfS, tNext, tTest, V.bl.injEq, decide_eq_true_eq, gSub, tAnd, tOr, tNot, tB, tDrop, tBM, x_tFor, iRng1, iList, iTup, x_tLc, tYes, tCall, tIf, tAndV, tOrV, tNotV, tChain, List.append_nil, tUn, if_true, wipe, true_and, x_never, iU, x_itS, kV, Nat.reduceAdd, Nat.reduceSub, List.replicate_zero, x_rU, x_tMkO, iEnumT, x_tDc, x_tDGet, x_tDGet2, x_sDPut, x_tDSetd, x_tDNewK, x_iItems, x_iZip, x_tSAddK])
theorem flat_len : ∀ {qs : List (List Int)} {N : Net}, qs.length = N.length → (∀ (k : Nat) q s, qs[k]? = some q → N[k]? = some s → q.length < s.length) → (∀ s ∈ N, s.length ≤ 8) → qs.flatten.length ≤ 8 * N.length
  | [], _, _, _, _ => by simp
  | q :: qs, [], h, _, _ => by simp at h
  | q :: qs, s :: N, h, hlt, h8 => by
    have h1 := hlt 0 q s rfl rfl
    have h2 := h8 s (List.mem_cons_self ..)
    have h3 := flat_len (qs := qs) (N := N) (by simpa using h) (fun k q' s' a b => hlt (k + 1) q' s' (by simpa using a) (by simpa using b)) (fun s hs => h8 s (List.mem_cons_of_mem _ hs))
    rw [List.flatten_cons, List.length_append, List.length_cons]
    omega
section
variable {P : Program} {w : World} {K : PySem.W.Frag} {mg : Str → Option Value} {base : Heap}
abbrev s_check_state : Stmt := top 36
theorem sc_check_state : FnScope ["network", "state", "next_passenger", "queues", "seats", "queue"] ["network", "state"] (defScope s_check_state) := ⟨rfl, rfl, rfl, by decide +kernel, rfl, by decide +kernel, by decide +kernel⟩
def spState (K : PySem.W.Frag) : Sp := fun vs H Q _ => ∃ (v u : V) (N : Net) (p : Int) (qs : List (List Int)), vs = [v, u] ∧ NetAt K H v N ∧ ValidN N ∧ Dp K H u (stateD p qs) ∧ StOk N p qs ∧ ∀ H', Ex H H' → Q .non H'
theorem ok_check_state {f f1 f2 f3 f4 : Addr} {fd fd1 fd2 fd3 fd4 : FuncData} (D : Df K mg "check_state" s_check_state ["network", "state"] f fd) (T : Bt mg) (Ck : Ct K mg)
    (D_check_network : Df K mg "check_network" s_check_network ["network"] f1 fd1) (D_check_passengers : Df K mg "check_passengers" s_check_passengers ["next_passenger", "queues"] f2 fd2) (D_is_word : Df K mg "is_word" s_is_word ["text"] f3 fd3)
    (D_is_place : Df K mg "is_place" s_is_place ["place", "station", "stations"] f4 fd4) : FnOk P w K mg base CX0 5 f fd ["network", "state"] (spState K) := by
  have G_check_network : FnOk P w K mg base CX0 4 f1 fd1 _ _ := ok_check_network0 D_check_network T Ck D_is_word D_is_place
  have G_check_passengers : FnOk P w K mg base CX0 1 f2 fd2 _ _ := ok_check_passengers D_check_passengers T
  refine D.F.ok sc_check_state (fun vs H Q E h => ?_) (fun cdv A outer s H vs Q E hr h => ?_)
  · obtain ⟨v, u, N, p, qs, rfl, _⟩ := h
    rfl
  · obtain ⟨v, u, N, p, qs, rfl, hN, hV, hu2, hO, q⟩ := h
    have hu := hr.units
    refine ⟨_, (pss_cons (ps_expr (pe_call (G_check_network) (hr.mono (by decide)) rfl D_check_network.g D_check_network.F.kp D_check_network.b .nil pass0 (pa_cons (pv 0) pa_nil)))
      (pss_cons (ps_asg (pv 1) (pg_tup rfl (pgs_cons (pg_name (i := 2) sc_check_state.nd rfl (Or.inl rfl)) (pgs_cons (pg_name (i := 3) sc_check_state.nd rfl (Or.inl rfl)) pgs_nil))))
      (pss_cons (ps_if (pt_cmpR (op_ltU) (pv 2) pe_int (nomark _)) pss_never pss_nil)
      (pss_cons (ps_if (pt_cmpR (op_neU (K := K) hu) (pe_callB (call_lenU (K := K)) (by rfl) T.b_len (by decide +kernel) (pa_cons (pv 3) pa_nil)) (pe_callB (call_lenU (K := K)) (by rfl) T.b_len (by decide +kernel) (pa_cons (pv 0) pa_nil)) (nomark _)) pss_never pss_nil)
      (pss_cons (ps_for PassesOwn.never rfl (RZ.pi_zipA (by rfl) T.b_zip (pa_cons (pv 0) (pa_cons (pv 3) pa_nil))) (pg_tup rfl (pgs_cons (pg_name (i := 4) sc_check_state.nd rfl (Or.inl rfl)) (pgs_cons (pg_name (i := 5) sc_check_state.nd rfl (Or.inl rfl)) pgs_nil))) (pss_one (ps_if (pt_cmpR (op_geU) (pe_callB (call_lenU (K := K)) (by rfl) T.b_len (by decide +kernel) (pa_cons (pv 5) pa_nil)) (pe_callB (call_lenU (K := K)) (by rfl) T.b_len (by decide +kernel) (pa_cons (pv 4) pa_nil)) (nomark _)) pss_never pss_nil)))
      (pss_one (ps_expr (pe_call (G_check_passengers) (hr.mono (by decide)) rfl D_check_passengers.g D_check_passengers.F.kp D_check_passengers.b .nil pass0 (pa_cons (pv 2) (pa_cons (pv 3) pa_nil)))))))))), ?_⟩
    walk_at "run"
    refine ⟨v, N, rfl, hN, hV, fun H1 e1 => ?_⟩
    obtain ⟨a, y, rfl, hS, hy⟩ := state_at hu2
    refine x_two (ex_t e1 hS) ?_
    obtain ⟨b, ts, rfl, hT, hts⟩ := qs_at hy
    obtain ⟨c, us, rfl, hU, hus⟩ := hN.at
    have hlt : ts.length = qs.length := by rw [hts.len, List.length_map]
    have hlu : us.length = N.length := by rw [hus.len, List.length_map]
    have hp := hO.pos
    have hql := hO.len
    walk_at "run"
    rw [if_neg (by omega)]
    refine x_lenT (ex_t e1 hT) (x_lenT (ex_t e1 hU) ?_)
    rw [hlt, hlu]
    walk_at "run"
    rw [if_neg (by simp; omega)]
    refine x_zipT (ex_t e1 hU) (ex_t e1 hT) ?_
    refine loop_it (walk_zipT (by omega)) (fun i σ H' => ∃ u4 u5, σ = [some (.ref c), some (.ref a), some (.int p), some (.ref b), u4, u5] ∧ Ex H H') ⟨_, _, rfl, e1⟩ (fun i σ H' _ ⟨_, _, _, e⟩ => ⟨ex_t e hU, ex_t e hT⟩) ?_ ?_
    · rintro i v σ H2 H3 hi ⟨u4, u5, rfl, e2⟩ ⟨T0, x, y, rfl, hT0, rfl, hx, hy⟩
      have e3 : Ex H (upd H2 T0 (.tup [x, y])) := e2.trans (Ex.new hT0)
      refine x_two (SqT.of upd_same) ?_
      generalize upd H2 T0 (.tup [x, y]) = H3 at e3
      obtain ⟨sD, hs, hx2⟩ := hus.get' hx
      obtain ⟨s, hsN, rfl⟩ : ∃ s, N[i]? = some s ∧ stD s = sD := by simpa using hs
      obtain ⟨b1, rfl, hb1⟩ := StAt.at hx2
      obtain ⟨qD', hq, hy2⟩ := hts.get' hy
      obtain ⟨qi, hqi, rfl⟩ : ∃ s, qs[i]? = some s ∧ qD s = qD' := by simpa using hq
      obtain ⟨b2, rfl, hb2⟩ := q_at hy2
      have := hO.lt i qi s hqi hsN
      walk_at "run"
      refine x_lenT (ex_t e3 hb2) (x_lenT (ex_t e3 hb1) ?_)
      rw [List.length_map, List.length_map]
      walk_at "run"
      rw [if_neg (by omega)]
      exact ⟨_, _, rfl, e3⟩
    · rintro σ H2 ⟨u4, u5, rfl, e2⟩
      walk_at "run"
      have hfl := flat_len hql hO.lt (fun s hs => (hV.cnt.st s hs).2)
      have h40 := hV.le
      exact ⟨_, p, qs, rfl, Dp.ex e2 hy, hO.nd, hO.rng, by omega, fun H3 e3 => q H3 (e2.trans e3)⟩
end
end K
set_option Elab.async false
set_option linter.all false
set_option maxRecDepth 100000
set_option maxHeartbeats 4000000
namespace K
open PySem PySem.Spec PyProof.Rows L2 Evl FB
local macro_rules | `(tactic| walk_at "run") => `(tactic| try simp only [tSeq, tAsg, tVar, tC, gName, L2.start, List.map_cons, List.map_nil, List.cons_append, List.nil_append, List.length_cons, List.length_nil, List.replicate, List.getElem?_cons_zero, List.getElem?_cons_succ, Option.some.injEq, exists_eq_left', List.set_cons_zero, List.set_cons_succ, V.ref.injEq, tRet, x_tLst, x_tTup, tCons, tCB, tNil, tOp, x_addI, x_mulI, x_rI, x_rI0, x_ltI, x_leI, x_ltS, x_leS, x_eqI, x_neI, x_eqS, x_eqB, x_neB, x_isiI, x_isiS, x_int, x_max, x_min, cxOf, tIfS, tNext, tTest, V.bl.injEq, decide_eq_true_eq, gSub, tAnd, tOr, tNot, tB, tDrop, tBM, x_tFor, iRng1, iList, iTup, x_tLc, tYes, tCall, tIf, tAndV, tOrV, tNotV, tChain, List.append_nil, tUn, if_true, wipe, true_and, x_never, iU, x_itS, kV, Nat.reduceAdd, Nat.reduceSub, List.replicate_zero, x_rU, x_tMkO, iEnumT, x_tDc, x_tDGet, x_tDGet2, x_sDPut, x_tDSetd, x_tDNewK, x_iItems, x_iZip, x_tSAddK])
section
variable {P : Program} {w : World} {K : PySem.W.Frag} {mg : Str → Option Value} {base : Heap}
abbrev s_check_count : Stmt := top 8
theorem sc_check_count : FnScope ["count", "least", "most"] ["count", "least", "most"] (defScope s_check_count) := ⟨rfl, rfl, rfl, by decide +kernel, rfl, by decide +kernel, by decide +kernel⟩
def spCount : Sp := fun vs H Q _ => ∃ c l m : Int, vs = [.int c, .int l, .int m] ∧ l ≤ c ∧ c ≤ m ∧ Q .non H
theorem ok_check_count {f : Addr} {fd : FuncData} (D : Df K mg "check_count" s_check_count ["count", "least", "most"] f fd) : FnOk P w K mg base CX0 1 f fd ["count", "least", "most"] spCount := by
  refine D.F.ok sc_check_count (fun vs H Q E h => ?_) (fun cdv A outer s H vs Q E hr h => ?_)
  · obtain ⟨v, u, N, rfl, _⟩ := h
    rfl
  · obtain ⟨c, l, m, rfl, h1, h2, q⟩ := h
    refine ⟨_, (pss_one (ps_if (pt_not (pt_chain (op_leU) (op_leU) (pv 1) (pv 0) (pv 2))) pss_never pss_nil)), ?_⟩
    walk_at "run"
    rw [if_pos h1, if_neg (by simp; omega)]
    exact q
abbrev s_queue_lengths : Stmt := top 38
theorem sc_queue_lengths : FnScope ["state", "queue"] ["state"] (defScope s_queue_lengths) := ⟨rfl, rfl, rfl, by decide +kernel, rfl, by decide +kernel, by decide +kernel⟩
def lens (qs : List (List Int)) : List Int := qs.map fun q => ((q.length : Nat) : Int)
def spLens (K : PySem.W.Frag) : Sp := fun vs H Q _ => ∃ (v : V) (p : Int) (qs : List (List Int)), vs = [v] ∧ Dp K H v (stateD p qs) ∧ qs.length ≤ 1000 ∧ (∀ q ∈ qs, q.length ≤ 1000) ∧ ∀ H' l, Ex H H' → H l = none → H' l = some (.lst ((lens qs).map V.int)) → Q (.ref l) H'
theorem ok_queue_lengths {f : Addr} {fd : FuncData} (D : Df K mg "queue_lengths" s_queue_lengths ["state"] f fd) (T : Bt mg) : FnOk P w K mg base CX0 1 f fd ["state"] (spLens K) := by
  refine D.F.ok sc_queue_lengths (fun vs H Q E h => ?_) (fun cdv A outer s H vs Q E hr h => ?_)
  · obtain ⟨v, p, qs, rfl, _⟩ := h
    rfl
  · obtain ⟨v, p, qs, rfl, hv, hl, hl2, q⟩ := h
    refine ⟨_, (pss_one (ps_ret (pe_lc (own := [("queue", 1)]) (g := gName 1) (tt := tYes) rfl sc_queue_lengths.nd (pi_U (K := K) (pe_ix (ix_U (K := K)) (pv 0) pe_int (fun _ _ => rfl))) (blkOk_by (own := [("queue", 1)]) (N := ["state", "queue"]) (sc := defScope s_queue_lengths) (by decide +kernel)) (fun _ _ _ _ _ => (pg_name (i := 1) sc_queue_lengths.nd rfl (Or.inl rfl))) (fun _ _ _ _ _ => pts_nil) (fun _ _ _ _ _ => (pe_callB (call_lenU (K := K)) (by rfl) T.b_len (by decide +kernel) (pa_cons (pv 1) pa_nil)))))), ?_⟩
    walk_at "run"
    obtain ⟨a, y, rfl, hS, hy⟩ := state_at hv
    refine x_ixT hS rfl ?_
    obtain ⟨b, ts, rfl, hT, hts⟩ := qs_at hy
    have hlt : ts.length = qs.length := by rw [hts.len, List.length_map]
    refine x_itT hT (lcl_it walk_tup (fun D i H' => Ex H H' ∧ H' D = some (.lst ((lens (qs.take i)).map V.int))) (fun D H' hD e h => ⟨e, by simpa [lens] using h⟩) (fun D i H' _ h => ex_t h.1 hT) ?_ ?_)
    · rintro D i x H2 H2' hD hi ⟨e2, h2⟩ ⟨eH, hx⟩
      subst eH
      obtain ⟨d, hd, hd2⟩ := hts.get' hx
      obtain ⟨qi, hq, rfl⟩ : ∃ q, qs[i]? = some q ∧ qD q = d := by simpa using hd
      obtain ⟨b2, rfl, hb⟩ := q_at hd2
      walk_at "run"
      refine x_lenT (ex_t e2 hb) ?_
      rw [List.length_map]
      refine x_push h2 (by unfold lens; simp; omega) fun H5 e5 h5 => ⟨fun x o hx => e5 _ _ (ne_of_none hx hD) (e2 _ _ hx), ?_⟩
      rw [h5, List.take_add_one, hq]
      simp [lens]
    · rintro D H2 hD ⟨e2, h2⟩
      rw [hlt, List.take_length] at h2
      exact q H2 D e2 hD h2
end
end K
set_option Elab.async false
set_option linter.all false
set_option maxRecDepth 100000
set_option maxHeartbeats 4000000
namespace K
open PySem PySem.Spec PyProof.Rows L2 Evl FB
local macro_rules | `(tactic| walk_at "run") => `(tactic| try simp only [tSeq, tAsg, tVar, tC, gName, L2.start, List.map_cons, List.map_nil, List.cons_append, List.nil_append, List.length_cons, List.length_nil, List.replicate, List.getElem?_cons_zero, List.getElem?_cons_succ, Option.some.injEq, exists_eq_left', List.set_cons_zero, List.set_cons_succ, V.ref.injEq, tRet, x_tLst, x_tTup, tCons, tCB, tNil, tOp, x_addI, x_mulI, x_rI, x_rI0, x_ltI, x_leI, x_ltS, x_leS, x_eqI, x_neI, x_eqS, x_eqB, x_neB, x_isiI, x_isiS, x_int, x_max, x_min, cxOf, tIfS, tNext, tTest, V.bl.injEq, decide_eq_true_eq, gSub, tAnd, tOr, tNot, tB, tDrop, tBM, x_tFor, iRng1, iList, iTup, x_tLc, tYes, tCall, tIf, tAndV, tOrV, tNotV, tChain, List.append_nil, tUn, if_true, wipe, true_and, x_never, iU, x_itS, kV, Nat.reduceAdd, Nat.reduceSub, List.replicate_zero, x_rU, x_tMkO, iEnumT, x_tDc, x_tDGet, x_tDGet2, x_sDPut, x_tDSetd, x_tDNewK, x_iItems, x_iZip, x_tSAddK, x_tLockV])
/-- the program's constants of the counting -/
structure Cm (mg : Str → Option Value) : Prop where
  g_MAX_COUNT : ∃ t, mg "MAX_COUNT" = some (.int 1000000000000000000 t)
/-- what reaches a place by the boats bs -/
def reach (N : Net) (bs : List Int) (q : Key) : Int := toQ (fun i => bs.getD i 0) q (seatsOf N N.length)
/-- the dict kvs holds for each port that somebody reaches how many do -/
structure Fin (T : Str → Int) (kvs : List (Key × V)) : Prop where
  nd : (kvs.map (·.1)).Nodup
  str : ∀ p ∈ kvs, ∃ z, p.1 = .inr z
  val : ∀ z, valV kvs (.inr z) = if 0 < T z then some (.int (T z)) else none
/-- .. for the ports among ks -/
structure FinK (T : Str → Int) (ks : List Key) (kvs : List (Key × V)) : Prop where
  nd : (kvs.map (·.1)).Nodup
  str : ∀ p ∈ kvs, ∃ z, p.1 = .inr z
  yes : ∀ z : Str, (Sum.inr z : Key) ∈ ks → 0 < T z → valV kvs (.inr z) = some (V.int (T z))
  no : ∀ z : Str, ¬ ((Sum.inr z : Key) ∈ ks ∧ 0 < T z) → valV kvs (.inr z) = none
theorem FinK.nil {T : Str → Int} : FinK T [] [] := ⟨List.nodup_nil, fun _ h => (by simp at h), fun _ h => (by simp at h), fun _ _ => rfl⟩
theorem FinK.other {T : Str → Int} {ks : List Key} {kvs : List (Key × V)} {k : Key} (F : FinK T ks kvs) (h : ∀ z, k = .inr z → ¬ 0 < T z) : FinK T (ks ++ [k]) kvs where
  nd := F.nd
  str := F.str
  yes := fun z h1 h2 => by
    rcases List.mem_append.mp h1 with h1 | h1
    · exact F.yes z h1 h2
    · exact absurd h2 (h z (List.mem_singleton.mp h1).symm)
  no := fun z h1 => F.no z fun h2 => h1 ⟨List.mem_append_left _ h2.1, h2.2⟩
theorem FinK.put {T : Str → Int} {ks : List Key} {kvs : List (Key × V)} {y : Str} (F : FinK T ks kvs) (h : 0 < T y) : FinK T (ks ++ [.inr y]) (putK kvs (.inr y) (.int (T y))) where
  nd := putK_keys F.nd
  str := fun p hp => by
    unfold putK at hp
    split at hp
    · obtain ⟨p', hp', rfl⟩ := List.mem_map.mp hp
      split
      · exact F.str p' hp'
      · exact F.str p' hp'
    · rcases List.mem_append.mp hp with hp | hp
      · exact F.str p hp
      · rw [List.mem_singleton.mp hp]; exact ⟨y, rfl⟩
  yes := fun z h1 h2 => by
    rw [valV_put]
    by_cases e : (Sum.inr z : Key) = .inr y
    · rw [if_pos e]
      cases e
      rfl
    · rw [if_neg e]
      rcases List.mem_append.mp h1 with h1 | h1
      · exact F.yes z h1 h2
      · exact absurd (List.mem_singleton.mp h1) e
  no := fun z h1 => by
    rw [valV_put]
    by_cases e : (Sum.inr z : Key) = .inr y
    · cases e
      exact absurd ⟨List.mem_append_right _ (List.mem_singleton.mpr rfl), h⟩ h1
    · rw [if_neg e]
      exact F.no z fun h2 => h1 ⟨List.mem_append_left _ h2.1, h2.2⟩
section
variable {P : Program} {w : World} {K : PySem.W.Frag} {mg : Str → Option Value} {base : Heap}
abbrev s_count_boats : Stmt := top 40
theorem sc_count_boats : FnScope ["network", "state", "count"] ["network", "state", "count"] (defScope s_count_boats) := ⟨rfl, rfl, rfl, by decide +kernel, rfl, by decide +kernel, by decide +kernel⟩
def spBoats (K : PySem.W.Frag) : Sp := fun vs H Q _ => ∃ (v u : V) (N : Net) (p : Int) (qs : List (List Int)) (c : Int), vs = [v, u, .int c] ∧ NetAt K H v N ∧ ValidN N ∧ Dp K H u (stateD p qs) ∧ StOk N p qs ∧ 0 ≤ c ∧ c ≤ 1000000000000000000 ∧ ∀ H' l, Ex H H' → H l = none → H' l = some (.lst ((bts N (lens qs) c N.length).map V.int)) → Q (.ref l) H'
/-- the defs that count_boats calls -/
structure Dn (K : PySem.W.Frag) (mg : Str → Option Value) : Prop where
  is_word : ∃ f fd, Df K mg "is_word" s_is_word ["text"] f fd
  is_place : ∃ f fd, Df K mg "is_place" s_is_place ["place", "station", "stations"] f fd
  check_network : ∃ f fd, Df K mg "check_network" s_check_network ["network"] f fd
  check_passengers : ∃ f fd, Df K mg "check_passengers" s_check_passengers ["next_passenger", "queues"] f fd
  check_state : ∃ f fd, Df K mg "check_state" s_check_state ["network", "state"] f fd
  check_count : ∃ f fd, Df K mg "check_count" s_check_count ["count", "least", "most"] f fd
  find_feeders : ∃ f fd, Df K mg "find_feeders" s_find_feeders ["network"] f fd
  count_brought : ∃ f fd, Df K mg "count_brought" s_count_brought ["sources", "boats"] f fd
  count_departures : ∃ f fd, Df K mg "count_departures" s_count_departures ["network", "feeders", "lengths", "arrivals"] f fd
  queue_lengths : ∃ f fd, Df K mg "queue_lengths" s_queue_lengths ["state"] f fd
theorem ok_count_boats {f : Addr} {fd : FuncData} (D : Df K mg "count_boats" s_count_boats ["network", "state", "count"] f fd) (T : Bt mg) (Ck : Ct K mg) (Cm0 : Cm mg) (DD : Dn K mg) : FnOk P w K mg base CX0 6 f fd ["network", "state", "count"] (spBoats K) := by
  obtain ⟨f1, fd1, D_is_word⟩ := DD.is_word
  obtain ⟨f2, fd2, D_is_place⟩ := DD.is_place
  obtain ⟨f3, fd3, D_check_network⟩ := DD.check_network
  obtain ⟨f4, fd4, D_check_passengers⟩ := DD.check_passengers
  obtain ⟨f5, fd5, D_check_state⟩ := DD.check_state
  obtain ⟨f6, fd6, D_check_count⟩ := DD.check_count
  obtain ⟨f7, fd7, D_find_feeders⟩ := DD.find_feeders
  obtain ⟨f8, fd8, D_count_brought⟩ := DD.count_brought
  obtain ⟨f9, fd9, D_count_departures⟩ := DD.count_departures
  obtain ⟨f10, fd10, D_queue_lengths⟩ := DD.queue_lengths
  have G_check_state : FnOk P w K mg base CX0 5 f5 fd5 _ _ := ok_check_state D_check_state T Ck D_check_network D_check_passengers D_is_word D_is_place
  have G_check_count : FnOk P w K mg base CX0 1 f6 fd6 _ _ := ok_check_count D_check_count
  have G_find_feeders : FnOk P w K mg base CX0 1 f7 fd7 _ _ := ok_find_feeders D_find_feeders T
  have G_count_departures : FnOk P w K mg base CX0 2 f9 fd9 _ _ := ok_count_departures D_count_departures T D_count_brought
  have G_queue_lengths : FnOk P w K mg base CX0 1 f10 fd10 _ _ := ok_queue_lengths D_queue_lengths T
  refine D.F.ok sc_count_boats (fun vs H Q E h => ?_) (fun cdv A outer s H vs Q E hr h => ?_)
  · obtain ⟨v, u, N, p, qs, c, rfl, _⟩ := h
    rfl
  · obtain ⟨v, u, N, p, qs, c, rfl, hN, hV, hS, hO, c0, c1, q⟩ := h
    obtain ⟨tC, g_MAX_COUNT⟩ := Cm0.g_MAX_COUNT
    refine ⟨_, (pss_cons (ps_expr (pe_call (G_check_state) (hr.mono (by decide)) rfl D_check_state.g D_check_state.F.kp D_check_state.b .nil pass0 (pa_cons (pv 0) (pa_cons (pv 1) pa_nil))))
      (pss_cons (ps_expr (pe_call (G_check_count) (hr.mono (by decide)) rfl D_check_count.g D_check_count.F.kp D_check_count.b .nil pass0 (pa_cons (pv 2) (pa_cons pe_int (pa_cons (pe_glob (v := .int 1000000000000000000) rfl g_MAX_COUNT ⟨_, rfl⟩) pa_nil)))))
      (pss_one (ps_ret (pe_call (G_count_departures) (hr.mono (by decide)) rfl D_count_departures.g D_count_departures.F.kp D_count_departures.b .nil pass0 (pa_cons (pv 0) (pa_cons (pe_call (G_find_feeders) (hr.mono (by decide)) rfl D_find_feeders.g D_find_feeders.F.kp D_find_feeders.b .nil pass0 (pa_cons (pv 0) pa_nil)) (pa_cons (pe_call (G_queue_lengths) (hr.mono (by decide)) rfl D_queue_lengths.g D_queue_lengths.F.kp D_queue_lengths.b .nil pass0 (pa_cons (pv 1) pa_nil)) (pa_cons (pv 2) pa_nil))))))))), ?_⟩
    walk_at "run"
    have h40 := hV.le
    have hql := hO.len
    refine ⟨v, u, N, p, qs, rfl, hN, hV, hS, hO, fun H1 e1 => ?_⟩
    refine ⟨c, 0, 1000000000000000000, rfl, c0, c1, ?_⟩
    refine ⟨v, N, rfl, Dp.ex e1 hN, hV.cnt, fun H2 DA A G kvs F hD => ?_⟩
    refine ⟨u, p, qs, rfl, Dp.ex (e1.trans F.ex) hS, by omega, fun qi hq => ?_, fun H3 l e3 nl hl => ?_⟩
    · obtain ⟨k, hk⟩ := List.mem_iff_getElem?.mp hq
      have hkl := (List.getElem?_eq_some_iff.mp hk).1
      obtain ⟨s, hs⟩ : ∃ s, N[k]? = some s := ⟨N[k]'(by omega), List.getElem?_eq_getElem (by omega)⟩
      have h1 := hO.lt k qi s hk hs
      have h2 := (hV.cnt.st s (List.mem_of_getElem? hs)).2
      omega
    · have e03 := (e1.trans F.ex).trans e3
      exact ⟨v, N, DA, l, H1, A, G, kvs, lens qs, c, rfl, Dp.ex e03 hN, hV.cnt, F.ex2 e3, e3 _ _ hD, SqL.of hl, by unfold lens; rw [List.length_map]; exact hql, fun H4 p4 e4 n4 h4 => q H4 p4 (e03.trans e4) (fresh_back e03 n4) h4⟩
abbrev s_count_finished : Stmt := top 41
theorem sc_count_finished : FnScope ["network", "state", "count", "boats", "finished", "place", "sources", "passengers"] ["network", "state", "count"] (defScope s_count_finished) := ⟨rfl, rfl, rfl, by decide +kernel, rfl, by decide +kernel, by decide +kernel⟩
def spFinished (K : PySem.W.Frag) : Sp := fun vs H Q _ => ∃ (v u : V) (N : Net) (p : Int) (qs : List (List Int)) (c : Int), vs = [v, u, .int c] ∧ NetAt K H v N ∧ ValidN N ∧ Dp K H u (stateD p qs) ∧ StOk N p qs ∧ 0 ≤ c ∧ c ≤ 1000000000000000000 ∧
  ∀ H' l kvs, Ex H H' → H l = none → H' l = some (.dK kvs) → Fin (fun z => reach N (bts N (lens qs) c N.length) (.inr z)) kvs → Q (.ref l) H'
theorem ok_count_finished {f f1 : Addr} {fd fd1 : FuncData} (D : Df K mg "count_finished" s_count_finished ["network", "state", "count"] f fd) (T : Bt mg) (Ck : Ct K mg) (Cm0 : Cm mg) (DD : Dn K mg) (D_count_boats : Df K mg "count_boats" s_count_boats ["network", "state", "count"] f1 fd1) : FnOk P w K mg base CX0 7 f fd ["network", "state", "count"] (spFinished K) := by
  have G_count_boats : FnOk P w K mg base CX0 6 f1 fd1 _ _ := ok_count_boats D_count_boats T Ck Cm0 DD
  obtain ⟨f7, fd7, D_find_feeders⟩ := DD.find_feeders
  obtain ⟨f8, fd8, D_count_brought⟩ := DD.count_brought
  have G_find_feeders : FnOk P w K mg base CX0 1 f7 fd7 _ _ := ok_find_feeders D_find_feeders T
  have G_count_brought : FnOk P w K mg base CX0 1 f8 fd8 _ _ := ok_count_brought D_count_brought T
  refine D.F.ok sc_count_finished (fun vs H Q E h => ?_) (fun cdv A outer s H vs Q E hr h => ?_)
  · obtain ⟨v, u, N, p, qs, c, rfl, _⟩ := h
    rfl
  · obtain ⟨v, u, N, p, qs, c, rfl, hN, hV, hS, hO, c0, c1, q⟩ := h
    have hu1 := hu_of hr
    refine ⟨_, (pss_cons (ps_set (i := 3) sc_count_finished.nd rfl (Or.inl rfl) (pe_call (G_count_boats) (hr.mono (by decide)) rfl D_count_boats.g D_count_boats.F.kp D_count_boats.b .nil pass0 (pa_cons (pv 0) (pa_cons (pv 1) (pa_cons (pv 2) pa_nil)))))
      (pss_cons (ps_set (i := 4) sc_count_finished.nd rfl (Or.inl rfl) pe_dnewK)
      (pss_cons (ps_for PassesOwn.never rfl (pi_items (pe_lockV (pe_call (G_find_feeders) (hr.mono (by decide)) rfl D_find_feeders.g D_find_feeders.F.kp D_find_feeders.b .nil pass0 (pa_cons (pv 0) pa_nil)))) (pg_tup rfl (pgs_cons (pg_name (i := 5) sc_count_finished.nd rfl (Or.inl rfl)) (pgs_cons (pg_name (i := 6) sc_count_finished.nd rfl (Or.inl rfl)) pgs_nil))) (pss_cons (ps_set (i := 7) sc_count_finished.nd rfl (Or.inl rfl) (pe_call (G_count_brought) (hr.mono (by decide)) rfl D_count_brought.g D_count_brought.F.kp D_count_brought.b .nil pass0 (pa_cons (pv 6) (pa_cons (pv 3) pa_nil))))
      (pss_one (ps_if (PW.pt (pw_and (pt_val (pe_callB (call_isiU (K := K)) (by rfl) T.b_isinstance (by decide +kernel) (pa_cons (pv 5) (pa_cons (pe_bltn (v := .ty "str") (by rfl) T.b_str (by decide +kernel) rfl) pa_nil)))) (pw_and1 (pt_cmpR (op_gtU) (pv 7) pe_int (nomark _))))) (pss_one (ps_dput hu1 (pv 4) (pv 5) (pv 7) rfl)) pss_nil))))
      (pss_one (ps_ret (pv 4)))))), ?_⟩
    walk_at "run"
    refine ⟨v, u, N, p, qs, c, rfl, hN, hV, hS, hO, c0, c1, fun H1 B e1 nB hB => ?_⟩
    have hblen : (bts N (lens qs) c N.length).length = N.length := bts_len
    have hrd : ∀ z, reach N (bts N (lens qs) c N.length) z = reach N (bts N (lens qs) c N.length) z := fun _ => rfl
    generalize bts N (lens qs) c N.length = bs at hB q hblen
    refine x_dnew fun R H2 nR e2 hR => ?_
    walk_at "run"
    refine ⟨v, N, rfl, Dp.ex (e1.trans e2) hN, hV.cnt, fun H3 DA A G kvs F hD => ?_⟩
    refine x_lockV hD trivial fun od H4 e4 n4 h4 => ?_
    have nRD : R ≠ DA := ne_of_none hR F.newD
    have nBD : B ≠ DA := ne_of_none (e2 _ _ hB) F.newD
    have e24 : Ex H2 H4 := fun x o hx => e4 _ _ (ne_of_none hx F.newD) (F.ex _ _ hx)
    have F4 : Feed H2 H4 DA N.length (seatsOf N N.length) A G kvs := { F with inn := fun q a h => e4 _ _ (F.ne q a h) (F.inn q a h), ex := e24 }
    have hlen := seats_len hV.cnt (k := N.length) (Nat.le_refl _)
    have h40 := hV.le
    have hkl := F.len
    refine x_items h4 (loop_it walk_items (fun i σ H' => ∃ u5 u6 u7 fk, σ = [some v, some u, some (.int c), some (.ref B), some (.ref R), u5, u6, u7] ∧ (∀ x o, x ≠ R → H4 x = some o → H' x = some o) ∧ H' R = some (.dK fk) ∧ fk.length ≤ i ∧ FinK (fun z => reach N bs (.inr z)) ((kvs.take i).map (·.1)) fk)
      ⟨_, _, _, [], rfl, fun _ _ _ h => h, e24 _ _ hR, by simp, by simpa using FinK.nil⟩ (fun i σ H' _ ⟨_, _, _, _, _, e, _⟩ => e _ _ nRD.symm h4) ?_ ?_)
    · rintro i x0 σ H5 H6 hi ⟨u5, u6, u7, fk, rfl, e5, hR5, hfl, FK⟩ ⟨T0, x, y, rfl, hT0, rfl, hx, hy⟩
      have e6 : Ex H5 (upd H5 T0 (.tup [x, y])) := Ex.new hT0
      refine x_two (SqT.of upd_same) ?_
      generalize upd H5 T0 (.tup [x, y]) = H6 at e6
      obtain ⟨k, y, hk, rfl, rfl⟩ : ∃ k v, kvs[i]? = some (k, v) ∧ kV k = x ∧ v = y := by
        cases e : kvs[i]? with
        | none => simp [e] at hx
        | some g =>
          simp [e] at hx hy
          exact ⟨g.1, g.2, rfl, hx, hy⟩
      have hval := val_of_mem F.nd (List.mem_of_getElem? hk)
      rw [F.val] at hval
      obtain ⟨dk, hdk, rfl⟩ : ∃ a, A k = some a ∧ V.ref a = y := by simpa using hval
      have e46 : ∀ x o, x ≠ R → H4 x = some o → H6 x = some o := fun x o hx h => e6 _ _ (e5 _ _ hx h)
      have hdR : dk ≠ R := fun z => by
        have := F.new k dk hdk
        rw [z, hR] at this; cases this
      have hBR : B ≠ R := ne_of_none hB nR
      have hlg := F.lenG k
      walk_at "run"
      refine ⟨dk, B, G k, bs, rfl, e46 _ _ hdR (F4.inn k dk hdk), SqL.of (e46 _ _ hBR (e24 _ _ (e2 _ _ hB))), by omega, fun g hg => ⟨?_, (F.le k g hg).1, by have := (F.le k g hg).2; omega⟩, fun H7 e7 => ?_⟩
      · have := (mem_seatsOf.mp (F.mem k g hg)).1
        omega
      have hbr : brought bs (G k) = reach N bs k := by unfold brought reach; rw [F.sum]
      rw [hbr]
      have htk : (kvs.take (i + 1)).map (·.1) = (kvs.take i).map (·.1) ++ [k] := by
        rw [List.take_add_one, hk, List.map_append]; rfl
      have same : (∀ z, k = .inr z → ¬ 0 < reach N bs (.inr z)) → ∃ u5 u6 u7 fk, [some v, some u, some (V.int c), some (V.ref B), some (V.ref R), some (kV k), some (V.ref dk), some (V.int (reach N bs k))] = [some v, some u, some (.int c), some (.ref B), some (.ref R), u5, u6, u7] ∧ (∀ x o, x ≠ R → H4 x = some o → H7 x = some o) ∧ H7 R = some (.dK fk) ∧ fk.length ≤ i + 1 ∧ FinK (fun z => reach N bs (.inr z)) ((kvs.take (i + 1)).map (·.1)) fk := fun h =>
        ⟨_, _, _, fk, rfl, fun x o hx h => e7 _ _ (e46 _ _ hx h), e7 _ _ (e6 _ _ hR5), by omega, by rw [htk]; exact FK.other h⟩
      cases k with
      | inl j =>
        walk_at "run"
        rw [if_neg Bool.false_ne_true, if_neg Bool.false_ne_true]
        exact same fun z e => nomatch e
      | inr z =>
        walk_at "run"
        by_cases hp : 0 < reach N bs (.inr z)
        · rw [if_pos hp]
          refine x_dput (k := .inr z) (e7 _ _ (e6 _ _ hR5)) (by omega) fun H8 e8 _ h8 => ?_
          have := length_putK fk (.inr z) (.int (reach N bs (.inr z)))
          exact ⟨_, _, _, _, rfl, fun x o hx h => e8 _ _ hx (e7 _ _ (e46 _ _ hx h)), h8, by omega, by rw [htk]; exact FK.put (T := fun z => reach N bs (.inr z)) hp⟩
        · rw [if_neg hp]
          exact same fun z' e => by cases e; exact hp
    · rintro σ H5 ⟨u5, u6, u7, fk, rfl, e5, hR5, hfl, FK⟩
      walk_at "run"
      rw [List.take_length] at FK
      refine q H5 R fk (fun x o hx => e5 _ _ (ne_of_none (e1 _ _ hx) nR) (e24 _ _ (e2 _ _ (e1 _ _ hx)))) (fresh_back e1 nR) hR5 ⟨FK.nd, FK.str, fun z => ?_⟩
      by_cases hp : 0 < reach N bs (.inr z)
      · rw [if_pos hp]
        refine FK.yes z ?_ hp
        have : ∃ s ∈ seatsOf N N.length, s.2 = .inr z := Classical.byContradiction fun h => by
          have h0 : reach N bs (.inr z) = 0 := toQ_nil fun s hs e => h ⟨s, hs, e⟩
          omega
        obtain ⟨⟨j, _⟩, hs, rfl⟩ := this
        have hA := (F.keys (.inr z)).mpr (.inr ⟨j, hs⟩)
        obtain ⟨a, ha⟩ := Option.isSome_iff_exists.mp hA
        have hv := F.val (.inr z)
        rw [ha] at hv
        exact List.mem_map.mpr ⟨_, mem_of_val hv, rfl⟩
      · rw [if_neg hp]
        exact FK.no z fun h => hp h.2
end
end K
set_option Elab.async false
set_option linter.all false
set_option maxRecDepth 100000
set_option maxHeartbeats 4000000
namespace K
open PySem PySem.Spec PyProof.Rows L2 Evl FB
local macro_rules | `(tactic| walk_at "run") => `(tactic| try simp only [tSeq, tAsg, tVar, tC, gName, L2.start, List.map_cons, List.map_nil, List.cons_append, List.nil_append, List.length_cons, List.length_nil, List.replicate, List.getElem?_cons_zero, List.getElem?_cons_succ, Option.some.injEq, exists_eq_left', List.set_cons_zero, List.set_cons_succ, V.ref.injEq, tRet, x_tLst, x_tTup, tCons, tCB, tNil, tOp, x_addI, x_mulI, x_rI, x_rI0, x_ltI, x_leI, x_ltS, x_leS, x_eqI, x_neI, x_eqS, x_eqB, x_neB, x_isiI, x_isiS, x_int, x_max, x_min, cxOf, tIfS, tNext, tTest, V.bl.injEq, decide_eq_true_eq, gSub, tAnd, tOr, tNot, tB, tDrop, tBM, x_tFor, iRng1, iList, iTup, x_tLc, tYes, tCall, tIf, tAndV, tOrV, tNotV, tChain, List.append_nil, tUn, if_true, wipe, true_and, x_never, iU, x_itS, kV, Nat.reduceAdd, Nat.reduceSub, List.replicate_zero, x_rU, x_tMkO, iEnumT, x_tDc, x_tDGet, x_tDGet2, x_sDPut, x_tDSetd, x_tDNewK, x_iItems, x_iZip, x_tSAddK, x_tLockV])
theorem shaped_ints (ns : List Int) : SeqAt.shaped (.list (ns.map PyData.int)) = true ∧ (PyData.list (ns.map PyData.int)).depth ≤ 3 := by
  have h1 : PyData.canLayAll0 (ns.map PyData.int) = true := layAll fun d hd => by
    obtain ⟨i, _, rfl⟩ := List.mem_map.mp hd; rfl
  have h2 : PyData.depthAll (ns.map PyData.int) ≤ 1 := depthAll_le fun d hd => by
    obtain ⟨i, _, rfl⟩ := List.mem_map.mp hd; simp [PyData.depth]
  have h3 : (PyData.list (ns.map PyData.int)).depth ≤ 3 := by rw [PyData.depth]; omega
  exact ⟨shaped_mk (by rw [PyData.canLay0]; exact h1) (by omega), h3⟩
theorem shaped_strs (ns : List Str) (h : ∀ z ∈ ns, (PyData.str z).canLay0 = true) : SeqAt.shaped (.list (ns.map PyData.str)) = true ∧ (PyData.list (ns.map PyData.str)).depth ≤ 3 := by
  have h1 : PyData.canLayAll0 (ns.map PyData.str) = true := layAll fun d hd => by
    obtain ⟨i, hi, rfl⟩ := List.mem_map.mp hd; exact h i hi
  have h2 : PyData.depthAll (ns.map PyData.str) ≤ 1 := depthAll_le fun d hd => by
    obtain ⟨i, _, rfl⟩ := List.mem_map.mp hd; simp [PyData.depth]
  have h3 : (PyData.list (ns.map PyData.str)).depth ≤ 3 := by rw [PyData.depth]; omega
  exact ⟨shaped_mk (by rw [PyData.canLay0]; exact h1) (by omega), h3⟩
theorem sm_ints {ns : List Int} (h : ns.length ≤ 1000000) : SmD (.list (ns.map PyData.int)) := .lst (by simpa using h) fun d hd => by
  obtain ⟨i, _, rfl⟩ := List.mem_map.mp hd; exact .int i
theorem sm_strs {ns : List Str} (h : ns.length ≤ 1000000) : SmD (.list (ns.map PyData.str)) := .lst (by simpa using h) fun d hd => by
  obtain ⟨i, _, rfl⟩ := List.mem_map.mp hd; exact .str i
/-- the keys as texts -/
theorem Fin.keys {T : Str → Int} {kvs : List (Key × V)} (F : Fin T kvs) : ∃ ks : List Str, kvs.map (·.1) = ks.map Sum.inr ∧ ks.Nodup ∧ ∀ z, z ∈ ks ↔ 0 < T z := by
  have : ∀ {l : List (Key × V)}, (∀ p ∈ l, ∃ z, p.1 = .inr z) → ∃ ks : List Str, l.map (·.1) = ks.map Sum.inr := fun {l} => by
    induction l with
    | nil => exact fun _ => ⟨[], rfl⟩
    | cons p r ih =>
      intro h
      obtain ⟨ks, hk⟩ := ih fun q hq => h q (List.mem_cons_of_mem _ hq)
      obtain ⟨z, hz⟩ := h p (List.mem_cons_self ..)
      exact ⟨z :: ks, by rw [List.map_cons, List.map_cons, hk, hz]⟩
  obtain ⟨ks, hk⟩ := this F.str
  have nd := F.nd
  rw [hk] at nd
  refine ⟨ks, hk, (List.pairwise_map.mp nd).imp fun h e => h (by rw [e]), fun z => ?_⟩
  have hm : z ∈ ks ↔ (Sum.inr z : Key) ∈ kvs.map (·.1) := by
    rw [hk]
    simp
  rw [hm]
  have hv := F.val z
  constructor
  · intro h
    obtain ⟨⟨k, v⟩, hp, rfl⟩ := List.mem_map.mp h
    have := val_of_mem F.nd hp
    rw [this] at hv
    by_cases e : 0 < T z
    · exact e
    · rw [if_neg e] at hv; cases hv
  · intro h
    rw [if_pos h] at hv
    exact valV_in hv
theorem Fin.same {T : Str → Int} {ka kb : List (Key × V)} (A : Fin T ka) (B : Fin T kb) : ka.length = kb.length ∧ ∀ p ∈ ka, valV kb p.1 = some p.2 ∧ flatB p.2 = true := by
  obtain ⟨ks, h1, n1, m1⟩ := A.keys
  obtain ⟨ls, h2, n2, m2⟩ := B.keys
  have hp : ks.Perm ls := (List.perm_ext_iff_of_nodup n1 n2).mpr fun z => by rw [m1, m2]
  refine ⟨?_, fun p hp => ?_⟩
  · have e1 := congrArg List.length h1
    have e2 := congrArg List.length h2
    rw [List.length_map, List.length_map] at e1 e2
    rw [e1, e2]; exact hp.length_eq
  · obtain ⟨z, hz⟩ := A.str p hp
    have hv := val_of_mem (k := p.1) (v := p.2) A.nd hp
    rw [hz] at hv ⊢
    rw [A.val] at hv
    rw [B.val, hv]
    by_cases e : 0 < T z
    · rw [if_pos e] at hv
      rw [← Option.some.inj hv]
      exact ⟨rfl, rfl⟩
    · rw [if_neg e] at hv; cases hv
section
variable {P : Program} {w : World} {K : PySem.W.Frag} {mg : Str → Option Value} {base : Heap}
/-- the same numbers by ports on both sides -/
def spAlikeD : Sp := fun vs H Q _ => ∃ (a b : Addr) (T : Str → Int) (ka kb : List (Key × V)), vs = [.ref a, .ref b] ∧ H a = some (.dK ka) ∧ H b = some (.dK kb) ∧ Fin T ka ∧ Fin T kb ∧ kb.length < 64 ∧ (∀ z, 0 < T z → (PyData.str z).canLay0 = true) ∧ ∀ H', Ex H H' → Q (.bl true) H'
theorem ok_l_alikeD {f : Addr} {fd : FuncData} (D : Df K mg "_law_alike" s_l_alike ["_law_found", "_law_due"] f fd) (T : Bt mg) : FnOk P w K mg base CX0 5 f fd ["_law_found", "_law_due"] spAlikeD := by
  have D_l_alike := D
  have G_l_alike : FnOk P w K mg base CX0 4 f fd _ _ := ok_l_alike D T 4
  refine D.F.ok sc_l_alike (fun vs H Q E h => ?_) (fun cdv A outer s H vs Q E hr h => ?_)
  · obtain ⟨a, b, n, ka, kb, rfl, _⟩ := h
    rfl
  · obtain ⟨a, b, TT, ka, kb, rfl, ha, hb, FA, FB, hl, hok, q⟩ := h
    have hu := hr.units
    have hu2 := Nat.lt_of_le_of_lt (Nat.le_add_right _ 64) hu
    refine ⟨_, (pss_cons (ps_if (pt_val (pe_callB (call_isiU (K := K)) (by rfl) T.b_isinstance (by decide +kernel) (pa_cons (pv 1) (pa_cons (pe_bltn (v := .ty "dict") (by rfl) T.b_dict (by decide +kernel) rfl) pa_nil)))) (pss_one (ps_ret (pe_and (pe_callB (call_isiU (K := K)) (by rfl) T.b_isinstance (by decide +kernel) (pa_cons (pv 0) (pa_cons (pe_bltn (v := .ty "dict") (by rfl) T.b_dict (by decide +kernel) rfl) pa_nil))) (pe_and (pe_call (G_l_alike) (hr.mono (by decide)) rfl D_l_alike.g D_l_alike.F.kp D_l_alike.b .nil pass0 (pa_cons (pe_callB (call_sortD rfl) (by rfl) T.b_sorted (by decide +kernel) (pa_cons (pv 0) pa_nil)) (pa_cons (pe_callB (call_sortD rfl) (by rfl) T.b_sorted (by decide +kernel) (pa_cons (pv 1) pa_nil)) pa_nil))) (pe_one (pe_cmpR (op_eq_dictA hu2) (pv 0) (pv 1) (nomark _))))))) pss_nil)
      pss_never), ?_⟩
    walk_at "run"
    refine x_isDict hb ⟨_, rfl, ?_⟩
    rw [if_pos rfl]
    refine x_isDict ha ⟨_, rfl, ?_⟩
    rw [if_pos rfl]
    obtain ⟨ks, h1, n1, m1⟩ := FA.keys
    obtain ⟨ls, h2, n2, m2⟩ := FB.keys
    obtain ⟨s1, s2⟩ := FA.same FB
    have hpm : ks.Perm ls := (List.perm_ext_iff_of_nodup n1 n2).mpr fun z => by rw [m1, m2]
    have e1 := congrArg List.length h1
    have e2 := congrArg List.length h2
    rw [List.length_map, List.length_map] at e1 e2
    refine x_sortD ha h1 (by omega) fun ys p H1 p1 so1 np x1 hp => ?_
    refine x_sortD (x1 _ _ hb) h2 (by omega) fun zs p2 H2 p2' so2 np2 x2 hp2 => ?_
    obtain rfl : ys = zs := sorted_same ((p1.trans hpm).trans p2'.symm) so1 so2
    have hoy : ∀ z ∈ ys, (PyData.str z).canLay0 = true := fun z hz => hok z ((m1 z).mp (p1.mem_iff.mp hz))
    have hyl : ys.length ≤ 1000000 := by have := p1.length_eq; omega
    refine ⟨_, _, .list (ys.map PyData.str), rfl, .lst (SqL.of (x2 _ _ hp)) (strs_dp ys), .lst (SqL.of hp2) (strs_dp ys), (shaped_strs ys hoy).1, (shaped_strs ys hoy).2, sm_strs hyl, fun H3 x3 => ⟨_, rfl, ?_⟩⟩
    rw [if_pos rfl]
    have x03 := (x1.trans x2).trans x3
    exact x_eqDA (x03 _ _ ha) (x03 _ _ hb) s1 s2 (q H3 x03)
end
end K
set_option Elab.async false
set_option linter.all false
set_option maxRecDepth 100000
set_option maxHeartbeats 4000000
namespace K
open PySem PySem.Spec PyProof.Rows L2 Evl FB
local macro_rules | `(tactic| walk_at "run") => `(tactic| try simp only [tSeq, tAsg, tVar, tC, gName, L2.start, List.map_cons, List.map_nil, List.cons_append, List.nil_append, List.length_cons, List.length_nil, List.replicate, List.getElem?_cons_zero, List.getElem?_cons_succ, Option.some.injEq, exists_eq_left', List.set_cons_zero, List.set_cons_succ, V.ref.injEq, tRet, x_tLst, x_tTup, tCons, tCB, tNil, tOp, x_addI, x_mulI, x_rI, x_rI0, x_ltI, x_leI, x_ltS, x_leS, x_eqI, x_neI, x_eqS, x_eqB, x_neB, x_isiI, x_isiS, x_int, x_max, x_min, cxOf, tIfS, tNext, tTest, V.bl.injEq, decide_eq_true_eq, gSub, tAnd, tOr, tNot, tB, tDrop, tBM, x_tFor, iRng1, iList, iTup, x_tLc, tYes, tCall, tIf, tAndV, tOrV, tNotV, tChain, List.append_nil, tUn, if_true, wipe, true_and, x_never, iU, x_itS, kV, Nat.reduceAdd, Nat.reduceSub, List.replicate_zero, x_rU, x_tMkO, iEnumT, x_tDc, x_tDGet, x_tDGet2, x_sDPut, x_tDSetd, x_tDNewK, x_iItems, x_iZip, x_tSAddK, x_tLockV, x_tTupRg, x_tRg2, tPar, tPar3, tBM0])
/-- a network on which boats depart: stations of one to eight seats, seats lead on -/
structure JN (N : Net) : Prop where
  le : N.length ≤ 40
  st : ∀ k, k < N.length → 1 ≤ (N.getD k []).length ∧ (N.getD k []).length ≤ 8
  fw : Fw N
section
variable {P : Program} {w : World} {K : PySem.W.Frag} {mg : Str → Option Value} {base : Heap}
theorem FnOk.absurd {CX : CXT} {k : Nat} {f : Addr} {fd : FuncData} {ps : List Str} {sp : Sp} (h : ∀ vs H Q E, sp vs H Q E → False) : FnOk P w K mg base CX k f fd ps sp :=
  ⟨fun _ _ _ _ x => (h _ _ _ _ x).elim, fun _ _ _ _ _ _ _ _ _ _ _ _ _ x => (h _ _ _ _ x).elim⟩
abbrev s_l_join : Stmt := top 48
theorem sc_l_join : FnScope ["_law_network_here", "_law_queues", "_law_station", "_law_passenger", "_law_finished"] ["_law_network_here", "_law_queues", "_law_station", "_law_passenger", "_law_finished"] (defScope s_l_join) := ⟨rfl, rfl, rfl, by decide +kernel, rfl, by decide +kernel, by decide +kernel⟩
abbrev s_l_depart : Stmt := top 49
theorem sc_l_depart : FnScope ["_law_network_here", "_law_queues", "_law_station", "_law_finished", "_law_passengers", "_law_seat", "_law_place_here"] ["_law_network_here", "_law_queues", "_law_station", "_law_finished"] (defScope s_l_depart) := ⟨rfl, rfl, rfl, by decide +kernel, rfl, by decide +kernel, by decide +kernel⟩
def spJoinL (K : PySem.W.Frag) (f : Nat) : Sp := fun vs H Q _ => ∃ (v : V) (N : Net) (Qa Fa : Addr) (as : List Addr) (qs : Qs) (fs : List (Str × Int)) (j : Nat) (p : Int), vs = [v, .ref Qa, .int (j : Int), .int p, .ref Fa] ∧ NetAt K H v N ∧ JN N ∧ QsAt K H Qa as qs ∧ FinAt K H Fa fs ∧ Fa ≠ Qa ∧ Fa ∉ as ∧
  Short N qs ∧ j < N.length ∧ N.length ≤ j + f ∧ fs.length + qs.flatten.length + 1 ≤ 100000 ∧
  ∀ H', Ex3 as Fa H H' → QsAt K H' Qa as (joinW N (departW N f) qs j p).1 → FinAt K H' Fa (fs ++ finOf (joinW N (departW N f) qs j p).2) → Q .non H'
def spDepartL (K : PySem.W.Frag) (f : Nat) : Sp := fun vs H Q _ => ∃ (v : V) (N : Net) (Qa Fa : Addr) (as : List Addr) (qs : Qs) (fs : List (Str × Int)) (st : Nat), vs = [v, .ref Qa, .int (st : Int), .ref Fa] ∧ NetAt K H v N ∧ JN N ∧ QsAt K H Qa as qs ∧ FinAt K H Fa fs ∧ Fa ≠ Qa ∧ Fa ∉ as ∧
  qs.length = N.length ∧ (∀ k, k < N.length → k ≠ st → (qs.getD k []).length < (N.getD k []).length) ∧ (qs.getD st []).length ≤ (N.getD st []).length ∧ st < N.length ∧ N.length ≤ st + f ∧ fs.length + qs.flatten.length ≤ 100000 ∧
  ∀ H', Ex3 as Fa H H' → QsAt K H' Qa as (departW N f qs st).1 → FinAt K H' Fa (fs ++ finOf (departW N f qs st).2) → Q .non H'
theorem ok_l_join {f g : Addr} {fd gd : FuncData} {l n : Nat} (D : Df K mg "_law_join" s_l_join ["_law_network_here", "_law_queues", "_law_station", "_law_passenger", "_law_finished"] f fd) (T : Bt mg) (D_l_depart : Df K mg "_law_depart" s_l_depart ["_law_network_here", "_law_queues", "_law_station", "_law_finished"] g gd)
    (G_l_depart : FnOk P w K mg base CX0 l g gd ["_law_network_here", "_law_queues", "_law_station", "_law_finished"] (spDepartL K n)) : FnOk P w K mg base CX0 (l + 1) f fd ["_law_network_here", "_law_queues", "_law_station", "_law_passenger", "_law_finished"] (spJoinL K n) := by
  refine D.F.ok sc_l_join (fun vs H Q E h => ?_) (fun cdv A outer s H vs Q E hr h => ?_)
  · obtain ⟨v, N, Qa, Fa, as, qs, fs, j, p, rfl, _⟩ := h
    rfl
  · obtain ⟨v, N, Qa, Fa, as, qs, fs, j, p, rfl, hN, hJ, hQ, hF, n1, n2, S, hj, hf, hb, q⟩ := h
    have hu := hr.units
    refine ⟨_, (pss_cons (ps_expr (pe_bm PySem.F.plainAttrs_list PySem.F.slot_list_append PySem.F.type_list_append mt_append (pe_ix (ix_U (K := K)) (pv 1) (pv 2) (fun _ _ => rfl)) (pa_cons (pv 3) pa_nil)))
      (pss_one (ps_if (pt_cmpR (op_eqU (K := K) hu) (pe_callB (call_lenU (K := K)) (by rfl) T.b_len (by decide +kernel) (pa_cons (pe_ix (ix_U (K := K)) (pv 1) (pv 2) (fun _ _ => rfl)) pa_nil)) (pe_callB (call_lenU (K := K)) (by rfl) T.b_len (by decide +kernel) (pa_cons (pe_ix (ix_U (K := K)) (pv 0) (pv 2) (fun _ _ => rfl)) pa_nil)) (nomark _)) (pss_one (ps_expr (pe_call (G_l_depart) hr rfl D_l_depart.g D_l_depart.F.kp D_l_depart.b .nil pass0 (pa_cons (pv 0) (pa_cons (pv 1) (pa_cons (pv 2) (pa_cons (pv 4) pa_nil))))))) pss_nil))), ?_⟩
    walk_at "run"
    have hjq : j < qs.length := by rw [S.len]; exact hj
    obtain ⟨a, ha, hHa, ham⟩ := hQ.get hjq
    obtain ⟨vn, us, rfl, hU, hus⟩ := hN.at
    obtain ⟨h1s, h8s⟩ := hJ.st j hj
    have hlt := S.lt j hj
    have haj : (as.map V.ref)[j]? = some (.ref a) := by simp [ha]
    refine x_ixL (SqL.of hQ.at_) (atI_nat haj) ?_
    refine ⟨x_tyL (SqL.of hHa), x_append hHa (by rw [List.length_map]; omega) fun H1 e1 h1 => ?_⟩
    have hQ1 : QsAt K H1 Qa as (qs.set j (qs.getD j [] ++ [p])) := hQ.set ha e1 (by rw [h1, List.map_append]; rfl)
    have t1 : TX H H1 := TX.but hHa e1
    have hFa : a ≠ Fa := fun z => n2 (by rw [← z]; exact ham)
    have hF1 : FinAt K H1 Fa fs := hF.tx t1 fun o h => e1 _ _ hFa.symm h
    have ex1 : Ex3 as Fa H H1 := fun x o h h1 h2 => e1 x o (fun z => h2 (by rw [z]; exact ham)) h
    refine x_ixL (SqL.of hQ1.at_) (atI_nat haj) (x_lenL (SqL.of h1) ?_)
    obtain ⟨sv, hsv, hsd⟩ := hus.get (show (N.map stD)[j]? = some (stD (N.getD j [])) by simp [List.getD_eq_getElem?_getD, hj])
    obtain ⟨b, rfl, hbs⟩ := StAt.at hsd
    refine x_ixT (t1.t hU) (atI_nat hsv) (x_lenT (t1.t hbs) ?_)
    rw [List.length_map, List.length_append, List.length_map, show [V.int p].length = 1 from rfl]
    walk_at "run"
    have hlen : (qs.getD j [] ++ [p]).length = (qs.getD j []).length + 1 := by simp
    by_cases e : (qs.getD j [] ++ [p]).length = (N.getD j []).length
    · rw [if_pos (by omega)]
      have hjw : joinW N (departW N n) qs j p = departW N n (qs.set j (qs.getD j [] ++ [p])) j := by unfold joinW; rw [if_pos e]
      rw [hjw] at q
      have hfl := (set_perm (p := p) hjq).length_eq
      rw [List.length_append, show [p].length = 1 from rfl] at hfl
      refine ⟨_, N, Qa, Fa, as, _, fs, j, rfl, hN.tx t1, hJ, hQ1, hF1, n1, n2, by rw [List.length_set]; exact S.len, fun k hk hne => by rw [getD_set' hjq, if_neg hne]; exact S.lt k hk, by rw [getD_set' hjq, if_pos rfl]; omega, hj, hf, by omega, fun H2 ex2 hQ2 hF2 => ?_⟩
      exact q H2 (fun x o h h1 h2 => ex2 x o (ex1 x o h h1 h2) h1 h2) hQ2 hF2
    · rw [if_neg (by omega)]
      have hjw : joinW N (departW N n) qs j p = (qs.set j (qs.getD j [] ++ [p]), []) := by unfold joinW; rw [if_neg e]
      rw [hjw] at q
      exact q H1 ex1 hQ1 (by simpa [finOf] using hF1)
theorem ok_l_depart {f g : Addr} {fd gd : FuncData} {l n : Nat} (D : Df K mg "_law_depart" s_l_depart ["_law_network_here", "_law_queues", "_law_station", "_law_finished"] f fd) (T : Bt mg) (D_l_join : Df K mg "_law_join" s_l_join ["_law_network_here", "_law_queues", "_law_station", "_law_passenger", "_law_finished"] g gd)
    (G_l_join : FnOk P w K mg base CX0 l g gd ["_law_network_here", "_law_queues", "_law_station", "_law_passenger", "_law_finished"] (spJoinL K n)) : FnOk P w K mg base CX0 (l + 1) f fd ["_law_network_here", "_law_queues", "_law_station", "_law_finished"] (spDepartL K (n + 1)) := by
  refine D.F.ok sc_l_depart (fun vs H Q E h => ?_) (fun cdv A outer s H vs Q E hr h => ?_)
  · obtain ⟨v, N, Qa, Fa, as, qs, fs, st, rfl, _⟩ := h
    rfl
  · obtain ⟨v, N, Qa, Fa, as, qs, fs, st, rfl, hN, hJ, hQ, hF, n1, n2, hl, hsh, hle, hst, hf, hb, q⟩ := h
    refine ⟨_, (pss_cons (ps_set (i := 4) sc_l_depart.nd rfl (Or.inl rfl) (pe_callTy (call_listU (K := K)) (by rfl) T.b_list (by decide +kernel) (pa_cons (pe_ix (ix_U (K := K)) (pv 1) (pv 2) (fun _ _ => rfl)) pa_nil)))
      (pss_cons (ps_expr (pe_bm0 PySem.F.plainAttrs_list PySem.F.slot_list_clear PySem.F.type_list_clear mt_clear (pe_ix (ix_U (K := K)) (pv 1) (pv 2) (fun _ _ => rfl))))
      (pss_one (ps_for PassesOwn.never rfl (pi_range1 (by rfl) T.b_range (pa_cons (pe_callB (call_lenU (K := K)) (by rfl) T.b_len (by decide +kernel) (pa_cons (pv 4) pa_nil)) pa_nil)) (pg_name (i := 5) sc_l_depart.nd rfl (Or.inl rfl)) (pss_cons (ps_set (i := 6) sc_l_depart.nd rfl (Or.inl rfl) (pe_ix (ix_U (K := K)) (pe_ix (ix_U (K := K)) (pv 0) (pv 2) (fun _ _ => rfl)) (pv 5) (fun _ _ => rfl)))
      (pss_one (ps_if (pt_val (pe_callB (call_isiU (K := K)) (by rfl) T.b_isinstance (by decide +kernel) (pa_cons (pv 6) (pa_cons (pe_bltn (v := .ty "str") (by rfl) T.b_str (by decide +kernel) rfl) pa_nil)))) (pss_one (ps_expr (pe_bm PySem.F.plainAttrs_list PySem.F.slot_list_append PySem.F.type_list_append mt_append (pv 3) (pa_cons (pe_tup (pa_cons (pv 6) (pa_cons (pe_ix (ix_U (K := K)) (pv 4) (pv 5) (fun _ _ => rfl)) pa_nil))) pa_nil)))) (pss_one (ps_expr (pe_call (G_l_join) hr rfl D_l_join.g D_l_join.F.kp D_l_join.b .nil pass0 (pa_cons (pv 0) (pa_cons (pv 1) (pa_cons (pv 6) (pa_cons (pe_ix (ix_U (K := K)) (pv 4) (pv 5) (fun _ _ => rfl)) (pa_cons (pv 3) pa_nil))))))))))))))), ?_⟩
    walk_at "run"
    have hsq : st < qs.length := by omega
    obtain ⟨a, ha, hHa, ham⟩ := hQ.get hsq
    obtain ⟨vn, us, rfl, hU, hus⟩ := hN.at
    obtain ⟨h1s, h8s⟩ := hJ.st st hst
    have haj : (as.map V.ref)[st]? = some (.ref a) := by simp [ha]
    have hFa : a ≠ Fa := fun z => n2 (by rw [← z]; exact ham)
    refine x_ixL (SqL.of hQ.at_) (atI_nat haj) (x_listL (SqL.of hHa) fun pl H1 npl e1 h1 => ?_)
    walk_at "run"
    refine x_ixL (SqL.of (e1 _ _ hQ.at_)) (atI_nat haj) ⟨x_tyL (SqL.of (e1 _ _ hHa)), a, _, rfl, rfl, e1 _ _ hHa, ?_⟩
    generalize hH2 : upd H1 a (.lst []) = H2
    have e2 : ∀ x o, x ≠ a → H1 x = some o → H2 x = some o := fun x o hx h => by rw [← hH2, upd_ne hx]; exact h
    have h2 : H2 a = some (.lst []) := by rw [← hH2, upd_same]
    have hpa : pl ≠ a := (ne_of_none hHa npl).symm
    have t2 : TX H H2 := (TX.of e1).trans (TX.but (e1 _ _ hHa) e2)
    have hQ2 : QsAt K H2 Qa as (qs.set st []) := (hQ.ex e1).set ha e2 h2
    have hF2 : FinAt K H2 Fa fs := (hF.e e1).tx (TX.but (e1 _ _ hHa) e2) fun o h => e2 _ _ hFa.symm h
    have hpl2 := e2 _ _ hpa h1
    have hplF : pl ≠ Fa := fun z => by
      obtain ⟨ts, h, _⟩ := hF.ex
      rw [z] at npl
      rw [npl] at h; cases h
    have hpls : pl ∉ as := fun z => by
      obtain ⟨i, hi⟩ := List.mem_iff_getElem?.mp z
      have := hQ.q i pl hi
      rw [npl] at this; cases this
    have ex2 : Ex3 as Fa H H2 := fun x o h h1 h2 => e2 x o (fun z => h2 (by rw [z]; exact ham)) (e1 _ _ h)
    refine x_lenL (SqL.of hpl2) ⟨_, rfl, by rw [List.length_map]; omega, by rw [List.length_map]; omega, ?_⟩
    have hnn : ((((qs.getD st []).map V.int).length : Nat) : Int).toNat = (qs.getD st []).length := by rw [List.length_map]; omega
    rw [hnn]
    have h1k : ∀ k, k < N.length → 1 ≤ (N.getD k []).length := fun k hk => (hJ.st k hk).1
    have S0 : Short N (qs.set st []) := ⟨by rw [List.length_set]; exact hl, fun k hk => by
      rw [getD_set' hsq]
      split
      · rename_i e; subst e; exact h1s
      · rename_i e; exact hsh k hk e⟩
    have hdep := departW_ok (α := Int) h1k hJ.fw n
    have hpm := departW_pm (α := Int) hJ.fw n
    have hzl : ((N.getD st []).zip (qs.getD st [])).length = (qs.getD st []).length := by rw [List.length_zip]; omega
    have hmem : ∀ i, ∀ m ∈ ((N.getD st []).zip (qs.getD st [])).take i, ∀ j : Int, m.1 = .inl j → (st : Int) < j ∧ j < N.length := fun i m hm j e =>
      hJ.fw st hst j (by rw [← e]; exact (List.of_mem_zip (List.mem_of_mem_take hm)).1)
    have hfl0 : (qs.set st []).flatten.length + (qs.getD st []).length = qs.flatten.length := by
      obtain ⟨u, w, h1, h2⟩ := flat_set (y := []) (getD_some hsq)
      rw [h1, h2]
      simp only [List.append_nil, List.length_append]
      omega
    refine loop_it walk_range (fun i σ H' => ∃ u5 u6, σ = [some (.ref vn), some (.ref Qa), some (.int (st : Int)), some (.ref Fa), some (.ref pl), u5, u6] ∧ Ex3 as Fa H H' ∧ TX H H' ∧ H' pl = some (.lst ((qs.getD st []).map V.int)) ∧
      QsAt K H' Qa as (moveW N (departW N n) (((N.getD st []).zip (qs.getD st [])).take i) (qs.set st [])).1 ∧ FinAt K H' Fa (fs ++ finOf (moveW N (departW N n) (((N.getD st []).zip (qs.getD st [])).take i) (qs.set st [])).2)) ⟨_, _, rfl, ex2, t2, hpl2, hQ2, by simpa [moveW, finOf] using hF2⟩ (fun _ _ _ _ _ => trivial) ?_ ?_
    · rintro i x σ H3 H3' hi ⟨u5, u6, rfl, ex3, t3, hpl3, hQ3, hF3⟩ ⟨eH, rfl⟩
      subst eH
      have hz : (0 : Int) + i = (i : Int) := by omega
      obtain ⟨S3, K3⟩ := moveW_ok h1k hdep (st := st) (by omega) (ms := ((N.getD st []).zip (qs.getD st [])).take i) (hmem i) S0
      obtain ⟨L3, P3⟩ := moveW_pm hpm (ms := ((N.getD st []).zip (qs.getD st [])).take i) (qs := qs.set st []) (fun m hm j e => by
        have := hmem i m hm j e
        rw [List.length_set]; omega) (by rw [List.length_set]; exact hl)
      have hlen3 := P3.length_eq
      rw [List.length_append, List.length_append, List.length_map, List.length_map, List.length_take, hzl] at hlen3
      obtain ⟨k, hk⟩ : ∃ k, (N.getD st [])[i]? = some k := ⟨(N.getD st [])[i]'(by omega), List.getElem?_eq_getElem (by omega)⟩
      obtain ⟨p, hp⟩ : ∃ p, (qs.getD st [])[i]? = some p := ⟨(qs.getD st [])[i]'(by omega), List.getElem?_eq_getElem (by omega)⟩
      have hzi : ((N.getD st []).zip (qs.getD st []))[i]? = some (k, p) := by
        rw [List.getElem?_zip_eq_some]
        exact ⟨hk, hp⟩
      have htk : ((N.getD st []).zip (qs.getD st [])).take (i + 1) = ((N.getD st []).zip (qs.getD st [])).take i ++ [(k, p)] := by rw [List.take_add_one, hzi]; rfl
      rw [htk, moveW_snoc]
      generalize hR : moveW N (departW N n) (((N.getD st []).zip (qs.getD st [])).take i) (qs.set st []) = R at hQ3 hF3 S3 K3 L3 hlen3
      walk_at "run"
      rw [hz]
      have hpi : ((qs.getD st []).map V.int)[i]? = some (.int p) := by simp only [List.getElem?_map, hp]; rfl
      obtain ⟨sv, hsv, hsd⟩ := hus.get (show (N.map stD)[st]? = some (stD (N.getD st [])) by simp [List.getD_eq_getElem?_getD, hst])
      obtain ⟨b, rfl, hbs⟩ := StAt.at hsd
      have hki : ((N.getD st []).map kV)[i]? = some (kV k) := by simp only [List.getElem?_map, hk]; rfl
      refine x_ixT (t3.t hU) (atI_nat hsv) (x_ixT (t3.t hbs) (atI_nat hki) ?_)
      cases k with
      | inl j =>
        have hj := hJ.fw st hst j (List.mem_of_getElem? hk)
        obtain ⟨j', rfl⟩ : ∃ j' : Nat, j = (j' : Int) := ⟨j.toNat, by omega⟩
        walk_at "run"
        rw [if_neg Bool.false_ne_true]
        refine x_ixL (SqL.of hpl3) (atI_nat hpi) ?_
        have hjo := move_one_l (N := N) (dep := departW N n) (j := (j' : Int)) (p := p) (qs := R.1)
        rw [Int.toNat_natCast] at hjo
        rw [hjo]
        refine ⟨_, N, Qa, Fa, as, R.1, _, j', p, rfl, hN.tx t3, hJ, hQ3, hF3, n1, n2, S3, by omega, by omega, ?_, fun H4 ex4 hQ4 hF4 => ?_⟩
        · rw [List.length_append]; omega
        · refine ⟨_, _, rfl, fun x o h h1 h2 => ex4 x o (ex3 x o h h1 h2) h1 h2, t3.trans (ex4.tx hQ3 hF3), ex4 _ _ hpl3 hplF hpls, hQ4, ?_⟩
          rw [finOf_append, ← List.append_assoc]
          exact hF4
      | inr z =>
        walk_at "run"
        obtain ⟨ts, hF4, hts⟩ := hF3.ex
        refine ⟨x_tyL (SqL.of hF4), x_ixL (SqL.of hpl3) (atI_nat hpi) ?_⟩
        refine x_tup (by simp) fun tp H4 ntp e4 h4 => ?_
        have htl := hts.len
        rw [List.length_map, List.length_append] at htl
        refine x_append (e4 _ _ hF4) (by rw [htl]; omega) fun H5 e5 h5 => ?_
        have hFt : Fa ≠ tp := ne_of_none hF4 ntp
        have t5 : TX H3' H5 := (TX.of e4).trans (TX.but (e4 _ _ hF4) e5)
        rw [move_one_r]
        refine ⟨_, _, rfl, fun x o h h1 h2 => e5 _ _ h1 (e4 _ _ (ex3 x o h h1 h2)), t3.trans t5, e5 _ _ hplF (e4 _ _ hpl3), (hQ3.ex e4).but e5 n1.symm n2, ⟨_, h5, ?_⟩⟩
        rw [finOf_append, ← List.append_assoc, List.map_append]
        refine DpAll.append (DpAll.tx t5 hts fun d hd => ?_) (.cons (.tup (SqT.of (e5 _ _ hFt.symm h4)) (.cons (.str z) (.cons (.int p) .nil))) .nil)
        obtain ⟨y, _, rfl⟩ := List.mem_map.mp hd
        exact fpD_t y
    · rintro σ H3 ⟨u5, u6, rfl, ex3, t3, hpl3, hQ3, hF3⟩
      have ht : ((N.getD st []).zip (qs.getD st [])).take (qs.getD st []).length = (N.getD st []).zip (qs.getD st []) := List.take_of_length_le (by omega)
      rw [ht] at hQ3 hF3
      exact q H3 ex3 hQ3 hF3
end
end K
set_option Elab.async false
set_option linter.all false
set_option maxRecDepth 100000
set_option maxHeartbeats 4000000
namespace K
open PySem PySem.Spec PyProof.Rows L2 Evl FB
local macro_rules | `(tactic| walk_at "run") => `(tactic| try simp only [tSeq, tAsg, tVar, tC, gName, L2.start, List.map_cons, List.map_nil, List.cons_append, List.nil_append, List.length_cons, List.length_nil, List.replicate, List.getElem?_cons_zero, List.getElem?_cons_succ, Option.some.injEq, exists_eq_left', List.set_cons_zero, List.set_cons_succ, V.ref.injEq, tRet, x_tLst, x_tTup, tCons, tCB, tNil, tOp, x_addI, x_mulI, x_rI, x_rI0, x_ltI, x_leI, x_ltS, x_leS, x_eqI, x_neI, x_eqS, x_eqB, x_neB, x_isiI, x_isiS, x_int, x_max, x_min, cxOf, tIfS, tNext, tTest, V.bl.injEq, decide_eq_true_eq, gSub, tAnd, tOr, tNot, tB, tDrop, tBM, x_tFor, iRng1, iList, iTup, x_tLc, tYes, tCall, tIf, tAndV, tOrV, tNotV, tChain, List.append_nil, tUn, if_true, wipe, true_and, x_never, iU, x_itS, kV, Nat.reduceAdd, Nat.reduceSub, List.replicate_zero, x_rU, x_tMkO, iEnumT, x_tDc, x_tDGet, x_tDGet2, x_sDPut, x_tDSetd, x_tDNewK, x_iItems, x_iZip, x_tSAddK, x_tLockV, x_tTupRg, x_tRg2, tPar, tPar3, tBM0])
theorem Drawn.jn {N : Net} {most : Int} (D : Drawn N most) (h : most ≤ 40) : JN N where
  le := by have := D.le; omega
  st := fun k hk => by
    have e : N[k]? = some (N.getD k []) := by simp [List.getD_eq_getElem?_getD, hk]
    have := D.st k _ e
    exact ⟨this.1, this.2.1⟩
  fw := fun i hi j hj => by
    have e : N[i]? = some (N.getD i []) := by simp [List.getD_eq_getElem?_getD, hi]
    exact (D.st i _ e).2.2 _ hj
/-- a state while it is drawn -/
structure LS (K : PySem.W.Frag) (H0 H : Hp) (N : Net) (h b Qa Fa : Addr) (as : List Addr) (qs : Qs) (fs : List (Str × Int)) (p : Int) (i : Nat) : Prop where
  gen : Gen H h b
  q : QsAt K H Qa as qs
  f : FinAt K H Fa fs
  sh : Short N qs
  nd : qs.flatten.Nodup
  rg : ∀ x ∈ qs.flatten, 1 ≤ x ∧ x < p
  pos : 1 ≤ p
  le : fs.length + qs.flatten.length ≤ i
  ex : Ex2 h b H0 H
/-- the lists of the state are new -/
structure Nw (H0 : Hp) (h b Qa Fa : Addr) (as : List Addr) : Prop where
  g : Gen H0 h b
  q : H0 Qa = none
  f : H0 Fa = none
  a : ∀ a ∈ as, H0 a = none
  fq : Fa ≠ Qa
  fa : Fa ∉ as
section
variable {K : PySem.W.Frag} {H0 H H2 : Hp} {N : Net} {h b Qa Fa : Addr} {as : List Addr} {qs qs' : Qs} {fs fs' : List (Str × Int)} {p p' : Int} {i i' : Nat}
theorem LS.ex1 (W : LS K H0 H N h b Qa Fa as qs fs p i) (e : Ex H H2) : LS K H0 H2 N h b Qa Fa as qs fs p i :=
  { W with gen := W.gen.ex e, q := W.q.ex e, f := W.f.e e, ex := W.ex.ex e }
theorem LS.dr (W : LS K H0 H N h b Qa Fa as qs fs p i) (n : Nw H0 h b Qa Fa as) (g : Gen H2 h b) (e : Ex2 h b H H2) : LS K H0 H2 N h b Qa Fa as qs fs p i :=
  { W with gen := g, q := W.q.ex2 e ⟨n.g.na n.q, n.g.nb n.q⟩ (fun a ha => ⟨n.g.na (n.a a ha), n.g.nb (n.a a ha)⟩), f := W.f.tx (W.gen.tx e) (fun o ho => e _ _ ho (n.g.na n.f) (n.g.nb n.f)), ex := W.ex.trans e }
theorem LS.more (W : LS K H0 H N h b Qa Fa as qs fs p i) (hi : i ≤ i') : LS K H0 H N h b Qa Fa as qs fs p i' := { W with le := by have := W.le; omega }
/-- the queues and the list of who finished are others now -/
theorem LS.put (W : LS K H0 H N h b Qa Fa as qs fs p i) (n : Nw H0 h b Qa Fa as) (e : Ex3 as Fa H H2) (q2 : QsAt K H2 Qa as qs') (f2 : FinAt K H2 Fa fs') (sh : Short N qs') (nd : qs'.flatten.Nodup) (rg : ∀ x ∈ qs'.flatten, 1 ≤ x ∧ x < p') (pos : 1 ≤ p') (le : fs'.length + qs'.flatten.length ≤ i') :
    LS K H0 H2 N h b Qa Fa as qs' fs' p' i' := by
  have no : ∀ x o, H0 x = some o → x ≠ Fa ∧ x ∉ as := fun x o hx => ⟨ne_of_none hx n.f, fun z => ne_of_none hx (n.a x z) rfl⟩
  obtain ⟨m, c, ns, g1, g2, g3⟩ := n.g
  obtain ⟨m2, c2, ns2, k1, k2, k3⟩ := W.gen
  refine ⟨⟨m2, c2, ns2, e _ _ k1 (no _ _ g1).1 (no _ _ g1).2, e _ _ k2 (no _ _ g2).1 (no _ _ g2).2, k3⟩, q2, f2, sh, nd, rg, pos, le, fun x o hx ha hb => e _ _ (W.ex x o hx ha hb) (no _ _ hx).1 (no _ _ hx).2⟩
end
theorem MeetsSeq_idx {k n : Nat} (h : k < n) : seqIndex? (k : Int) n = some k := by
  unfold seqIndex?
  have h1 : ¬ (k : Int) < 0 := by omega
  rw [if_neg h1]
  have h2 : (decide (0 ≤ (k : Int)) && decide ((k : Int) < (n : Int))) = true := by
    rw [Bool.and_eq_true, decide_eq_true_eq, decide_eq_true_eq]; omega
  show (if (decide (0 ≤ (k : Int)) && decide ((k : Int) < (n : Int))) = true then some ((k : Int)).toNat else none) = some k
  rw [if_pos h2]
  rfl
theorem eraseIdx_mapV : ∀ {l : List Int} {k : Nat}, (l.map V.int).eraseIdx k = (l.eraseIdx k).map V.int
  | [], _ => by simp
  | a :: r, 0 => rfl
  | a :: r, k + 1 => by
    show V.int a :: (r.map V.int).eraseIdx k = V.int a :: (r.eraseIdx k).map V.int
    rw [eraseIdx_mapV]
theorem sub_of_pm {a b c : List Int} (h : (a ++ b).Perm c) : (c.Nodup → a.Nodup) ∧ ∀ x ∈ a, x ∈ c :=
  ⟨fun n => (List.nodup_append.mp (h.nodup_iff.mpr n)).1, fun x hx => h.mem_iff.mp (List.mem_append_left _ hx)⟩
/-- a passenger put into a queue, or an arrival -/
def tThird (K : PySem.W.Frag) : TS := tIfS (tAnd (tTest (tOp (rEqU K) (tVar 8) (tC (V.int 2)))) (tTest (tOp rLtU (tOp (rAddU K) (tCB (rLenU K) (tCons (tOp (rIx K) (tVar 4) (tVar 3)) tNil)) (tC (V.int 1))) (tCB (rLenU K) (tCons (tOp (rIx K) (tVar 1) (tVar 3)) tNil)))))
    (tSeq (tDrop (tBM K "list" rAppend (tOp (rIx K) (tVar 4) (tVar 3)) (tCons (tVar 5) tNil))) (tAsg (tOp (rAddU K) (tVar 5) (tC (V.int 1))) (gName 5)))
    (tSeq (tDrop (tCall (spJoinL K 8) [] E0 (tCons (tVar 1) (tCons (tVar 4) (tCons (tC (V.int 0)) (tCons (tVar 5) (tCons (tVar 6) tNil))))))) (tAsg (tOp (rAddU K) (tVar 5) (tC (V.int 1))) (gName 5)))
def tSecond (K : PySem.W.Frag) : TS := tIfS (tAnd (tTest (tOp (rEqU K) (tVar 8) (tC (V.int 1)))) (tTest (tOp (rNeU K) (tOp (rIx K) (tVar 4) (tVar 3)) (tLst tNil))))
    (tDrop (tBM K "list" rPopAt (tOp (rIx K) (tVar 4) (tVar 3)) (tCons (tCall spNext [] E0 (tCons (tVar 0) (tCons (tCB (rLenU K) (tCons (tOp (rIx K) (tVar 4) (tVar 3)) tNil)) tNil))) tNil))) (tThird K)
def tFirst (K : PySem.W.Frag) : TS := tIfS (tAnd (tTest (tOp (rEqU K) (tVar 8) (tC (V.int 0)))) (tTest (tOp (rNeU K) (tOp (rIx K) (tVar 4) (tVar 3)) (tLst tNil))))
    (tDrop (tCall (spDepartL K 8) [] E0 (tCons (tVar 1) (tCons (tVar 4) (tCons (tVar 3) (tCons (tVar 6) tNil)))))) (tSecond K)
section
variable {K : PySem.W.Frag} {H0 H : Hp} {N : Net} {h b Qa Fa vn : Addr} {us : List V} {as : List Addr} {qs : Qs} {fs : List (Str × Int)} {p most kd : Int} {i st : Nat} {u7 u9 : Option V} {D : Ends}
theorem LS.total (W : LS K H0 H N h b Qa Fa as qs fs p i) : qs.length = N.length := W.sh.len
theorem state_third (hJ : JN N) (hD8 : N.length ≤ 8) (h0 : 1 ≤ N.length) (hU : SqT K H0 vn us) (hus : DpAll K H0 us (N.map stD)) (n : Nw H0 h b Qa Fa as) (hst : st < N.length) (hi : i ≤ 1000) (W : LS K H0 H N h b Qa Fa as qs fs p i) (nx : ∀ p' qs' fs' H1, LS K H0 H1 N h b Qa Fa as qs' fs' p' (i + 1) → D.nx [some (.ref h), some (.ref vn), some (.int most), some (.int (st : Nat)), some (.ref Qa), some (.int p'), some (.ref Fa), u7, some (.int kd), u9] H1) : tThird K D [some (.ref h), some (.ref vn), some (.int most), some (.int (st : Nat)), some (.ref Qa), some (.int p), some (.ref Fa), u7, some (.int kd), u9] H := by
  have t := n.g.tx W.ex
  have hsq : st < qs.length := by rw [W.total]; exact hst
  have hle := W.le
  have join : spJoinL K 8 [.ref vn, .ref Qa, .int 0, .int p, .ref Fa] H (fun _ H1 => D.nx [some (.ref h), some (.ref vn), some (.int most), some (.int (st : Nat)), some (.ref Qa), some (.int (p + 1)), some (.ref Fa), u7, some (.int kd), u9] H1) E0 := by
    have h0q : 0 < qs.length := by rw [W.total]; omega
    obtain ⟨jl, jp⟩ := joinW_pm (departW_pm hJ.fw 8) (p := p) h0q W.total
    obtain ⟨j1, _⟩ := joinW_ok (fun k hk => (hJ.st k hk).1) (departW_ok (fun k hk => (hJ.st k hk).1) hJ.fw 8) (p := p) W.sh (j := 0) (by omega) (by omega)
    have hlen := jp.length_eq
    rw [List.length_append, List.length_append, List.length_map, show [p].length = 1 from rfl] at hlen
    have hsub := sub_of_pm jp
    refine ⟨_, N, Qa, Fa, as, qs, fs, 0, p, rfl, .tup (t.t hU) (DpAll.tx t hus (netD_t N).all), hJ, W.q, W.f, n.fq, n.fa, W.sh, by omega, by omega, by omega, fun H1 e1 q1 f1 => nx _ _ _ _ (W.put n e1 q1 f1 j1 ?_ ?_ (by have := W.pos; omega) ?_)⟩
    · refine hsub.1 ?_
      rw [List.nodup_append]
      refine ⟨W.nd, by simp, fun a ha b hb e => ?_⟩
      rw [List.mem_singleton.mp hb] at e
      have := (W.rg a ha).2
      omega
    · intro x hx
      rcases List.mem_append.mp (hsub.2 x hx) with h | h
      · have := W.rg x h; omega
      · rw [List.mem_singleton.mp h]; have := W.pos; omega
    · rw [List.length_append]
      omega
  unfold tThird
  walk_at "run"
  by_cases h2 : kd = 2
  · rw [if_pos h2]
    obtain ⟨a, ha, hHa, ham⟩ := W.q.get hsq
    have haj : (as.map V.ref)[st]? = some (.ref a) := by simp [ha]
    obtain ⟨sv, hsv, hsd⟩ := hus.get (show (N.map stD)[st]? = some (stD (N.getD st [])) by simp [List.getD_eq_getElem?_getD, hst])
    obtain ⟨bs, rfl, hbs⟩ := StAt.at hsd
    obtain ⟨h1s, h8s⟩ := hJ.st st hst
    refine x_ixL (SqL.of W.q.at_) (atI_nat haj) (x_lenL (SqL.of hHa) ?_)
    walk_at "run"
    refine x_ixT (t.t hU) (atI_nat hsv) (x_lenT (t.t hbs) ?_)
    rw [List.length_map, List.length_map]
    walk_at "run"
    by_cases hlt : (qs.getD st []).length + 1 < (N.getD st []).length
    · rw [if_pos (by omega)]
      refine x_ixL (SqL.of W.q.at_) (atI_nat haj) ⟨x_tyL (SqL.of hHa), x_append hHa (by rw [List.length_map]; omega) fun H1 e1 h1 => ?_⟩
      have hQ1 : QsAt K H1 Qa as (qs.set st (qs.getD st [] ++ [p])) := W.q.set ha e1 (by rw [h1, List.map_append]; rfl)
      have hFa : a ≠ Fa := fun z => n.fa (by rw [← z]; exact ham)
      have hpm := set_perm (p := p) hsq
      have hlen := hpm.length_eq
      rw [List.length_append, show [p].length = 1 from rfl] at hlen
      refine nx _ _ _ _ (W.put n (fun x o hx h1 h2 => e1 x o (fun z => h2 (by rw [z]; exact ham)) hx) hQ1 (W.f.tx (TX.but hHa e1) fun o ho => e1 _ _ hFa.symm ho) ⟨by rw [List.length_set]; exact W.total, fun k hk => ?_⟩ ?_ (fun x hx => ?_) (by have := W.pos; omega) (by omega))
      · rw [getD_set' hsq]
        split
        · rename_i e; subst e; rw [List.length_append, show [p].length = 1 from rfl]; exact hlt
        · exact W.sh.lt k hk
      · rw [hpm.nodup_iff, List.nodup_append]
        refine ⟨W.nd, by simp, fun a ha b hb e => ?_⟩
        rw [List.mem_singleton.mp hb] at e
        have := (W.rg a ha).2
        omega
      · rcases List.mem_append.mp (hpm.mem_iff.mp hx) with h | h
        · have := W.rg x h; omega
        · rw [List.mem_singleton.mp h]; have := W.pos; omega
    · rw [if_neg (by omega)]
      exact join
  · rw [if_neg h2, if_neg Bool.false_ne_true]
    exact join
theorem state_second (hJ : JN N) (hD8 : N.length ≤ 8) (h0 : 1 ≤ N.length) (hU : SqT K H0 vn us) (hus : DpAll K H0 us (N.map stD)) (n : Nw H0 h b Qa Fa as) (hst : st < N.length) (hi : i ≤ 1000) (W : LS K H0 H N h b Qa Fa as qs fs p i) (nx : ∀ p' qs' fs' H1, LS K H0 H1 N h b Qa Fa as qs' fs' p' (i + 1) → D.nx [some (.ref h), some (.ref vn), some (.int most), some (.int (st : Nat)), some (.ref Qa), some (.int p'), some (.ref Fa), u7, some (.int kd), u9] H1) : tSecond K D [some (.ref h), some (.ref vn), some (.int most), some (.int (st : Nat)), some (.ref Qa), some (.int p), some (.ref Fa), u7, some (.int kd), u9] H := by
  have t := n.g.tx W.ex
  have hsq : st < qs.length := by rw [W.total]; exact hst
  have hle := W.le
  unfold tSecond
  walk_at "run"
  by_cases h1 : kd = 1
  · rw [if_pos h1]
    obtain ⟨a, ha, hHa, ham⟩ := W.q.get hsq
    have haj : (as.map V.ref)[st]? = some (.ref a) := by simp [ha]
    refine x_ixL (SqL.of W.q.at_) (atI_nat haj) (x_neEmpty hHa fun H1 e1 => ⟨_, rfl, ?_⟩)
    have W1 := W.ex1 e1
    by_cases hq : qs.getD st [] = []
    · rw [if_neg (by rw [decide_eq_true hq]; decide)]
      exact state_third hJ hD8 h0 hU hus n hst hi W1 nx
    · rw [if_pos (by rw [decide_eq_false hq]; rfl)]
      have hql : 0 < (qs.getD st []).length := List.length_pos_iff.mpr hq
      obtain ⟨_, h8s⟩ := hJ.st st hst
      have hlt := W.sh.lt st hst
      refine x_ixL (SqL.of W1.q.at_) (atI_nat haj) ⟨x_tyL (SqL.of (e1 _ _ hHa)), x_ixL (SqL.of W1.q.at_) (atI_nat haj) (x_lenL (SqL.of (e1 _ _ hHa)) ?_)⟩
      rw [List.length_map]
      refine x_next W1.gen (by omega) (by omega) fun r H2 r0 r1 g2 e2 => ?_
      have W2 := W1.dr n g2 e2
      obtain ⟨k, rfl⟩ : ∃ k : Nat, r = (k : Int) := ⟨r.toNat, by omega⟩
      have hk : k < (qs.getD st []).length := by omega
      have hHa2 := W2.q.q st a ha
      refine ⟨a, _, (k : Int), k, .int ((qs.getD st [])[k]), rfl, rfl, hHa2, by omega, by omega, by rw [List.length_map]; exact MeetsSeq_idx hk, by rw [List.getElem?_map, List.getElem?_eq_getElem hk]; rfl, ?_⟩
      generalize hH3 : upd H2 a (.lst (((qs.getD st []).map V.int).eraseIdx k)) = H3
      have e3 : ∀ x o, x ≠ a → H2 x = some o → H3 x = some o := fun x o hx h => by rw [← hH3, upd_ne hx]; exact h
      have h3 : H3 a = some (.lst (((qs.getD st []).eraseIdx k).map V.int)) := by rw [← hH3, upd_same, eraseIdx_mapV]
      have hQ3 : QsAt K H3 Qa as (qs.set st ((qs.getD st []).eraseIdx k)) := W2.q.set ha e3 h3
      have hFa : a ≠ Fa := fun z => n.fa (by rw [← z]; exact ham)
      obtain ⟨u, v, k1, k2⟩ := flat_set (y := (qs.getD st []).eraseIdx k) (getD_some hsq)
      have hsl : (qs.set st ((qs.getD st []).eraseIdx k)).flatten.Sublist qs.flatten := by
        rw [k1, k2]
        exact ((List.Sublist.refl u).append (List.eraseIdx_sublist ..)).append (List.Sublist.refl v)
      refine nx _ _ _ _ (W2.put n (fun x o hx h1 h2 => e3 x o (fun z => h2 (by rw [z]; exact ham)) hx) hQ3 (W2.f.tx (TX.but hHa2 e3) fun o ho => e3 _ _ hFa.symm ho) ⟨by rw [List.length_set]; exact W.total, fun j hj => ?_⟩ (W.nd.sublist hsl) (fun x hx => W.rg x (hsl.subset hx)) W.pos (by have := hsl.length_le; omega))
      rw [getD_set' hsq]
      split
      · rename_i e; subst e
        have := (List.eraseIdx_sublist (qs.getD j []) k).length_le
        omega
      · exact W.sh.lt j hj
  · rw [if_neg h1, if_neg Bool.false_ne_true]
    exact state_third hJ hD8 h0 hU hus n hst hi W nx
theorem state_first (hJ : JN N) (hD8 : N.length ≤ 8) (h0 : 1 ≤ N.length) (hU : SqT K H0 vn us) (hus : DpAll K H0 us (N.map stD)) (n : Nw H0 h b Qa Fa as) (hst : st < N.length) (hi : i ≤ 1000) (W : LS K H0 H N h b Qa Fa as qs fs p i) (nx : ∀ p' qs' fs' H1, LS K H0 H1 N h b Qa Fa as qs' fs' p' (i + 1) → D.nx [some (.ref h), some (.ref vn), some (.int most), some (.int (st : Nat)), some (.ref Qa), some (.int p'), some (.ref Fa), u7, some (.int kd), u9] H1) : tFirst K D [some (.ref h), some (.ref vn), some (.int most), some (.int (st : Nat)), some (.ref Qa), some (.int p), some (.ref Fa), u7, some (.int kd), u9] H := by
  have t := n.g.tx W.ex
  have hsq : st < qs.length := by rw [W.total]; exact hst
  have hle := W.le
  unfold tFirst
  walk_at "run"
  by_cases h1 : kd = 0
  · rw [if_pos h1]
    obtain ⟨a, ha, hHa, ham⟩ := W.q.get hsq
    have haj : (as.map V.ref)[st]? = some (.ref a) := by simp [ha]
    refine x_ixL (SqL.of W.q.at_) (atI_nat haj) (x_neEmpty hHa fun H1 e1 => ⟨_, rfl, ?_⟩)
    have W1 := W.ex1 e1
    by_cases hq : qs.getD st [] = []
    · rw [if_neg (by rw [decide_eq_true hq]; decide)]
      exact state_second hJ hD8 h0 hU hus n hst hi W1 nx
    · rw [if_pos (by rw [decide_eq_false hq]; rfl)]
      have hlt := W.sh.lt st hst
      obtain ⟨dl, dp⟩ := departW_pm hJ.fw 8 qs st hsq W.total (by omega)
      obtain ⟨d1, _⟩ := departW_ok (fun k hk => (hJ.st k hk).1) hJ.fw 8 qs st (by omega) hst W.total (fun k hk _ => W.sh.lt k hk) (by omega) (hJ.st st hst).1
      have hlen := dp.length_eq
      rw [List.length_append, List.length_map] at hlen
      have hsub := sub_of_pm dp
      have t1 := n.g.tx W1.ex
      refine ⟨_, N, Qa, Fa, as, qs, fs, st, rfl, .tup (t1.t hU) (DpAll.tx t1 hus (netD_t N).all), hJ, W1.q, W1.f, n.fq, n.fa, W.total, fun k hk _ => W.sh.lt k hk, by omega, hst, by omega, by omega, fun H2 e2 q2 f2 => nx _ _ _ _ (W1.put n e2 q2 f2 d1 (hsub.1 W.nd) (fun x hx => W.rg x (hsub.2 x hx)) W.pos ?_)⟩
      rw [List.length_append]
      omega
  · rw [if_neg h1, if_neg Bool.false_ne_true]
    exact state_second hJ hD8 h0 hU hus n hst hi W nx
end
section
variable {P : Program} {w : World} {K : PySem.W.Frag} {mg : Str → Option Value} {base : Heap}
theorem ok_l_pair {f g : Addr} {fd gd : FuncData} (D_l_join : Df K mg "_law_join" s_l_join ["_law_network_here", "_law_queues", "_law_station", "_law_passenger", "_law_finished"] f fd) (T : Bt mg) (D_l_depart : Df K mg "_law_depart" s_l_depart ["_law_network_here", "_law_queues", "_law_station", "_law_finished"] g gd) : ∀ n : Nat,
    FnOk P w K mg base CX0 (2 * n) g gd ["_law_network_here", "_law_queues", "_law_station", "_law_finished"] (spDepartL K n) ∧ FnOk P w K mg base CX0 (2 * n + 1) f fd ["_law_network_here", "_law_queues", "_law_station", "_law_passenger", "_law_finished"] (spJoinL K n)
  | 0 => by
    have h0 : FnOk P w K mg base CX0 (2 * 0) g gd ["_law_network_here", "_law_queues", "_law_station", "_law_finished"] (spDepartL K 0) := FnOk.absurd fun vs H Q E ⟨_, _, _, _, _, _, _, _, _, _, _, _, _, _, _, _, _, _, h1, h2, _⟩ => by omega
    exact ⟨h0, ok_l_join D_l_join T D_l_depart h0⟩
  | n + 1 => by
    have h0 : FnOk P w K mg base CX0 (2 * (n + 1)) g gd ["_law_network_here", "_law_queues", "_law_station", "_law_finished"] (spDepartL K (n + 1)) := ok_l_depart D_l_depart T D_l_join (ok_l_pair D_l_join T D_l_depart n).2
    exact ⟨h0, ok_l_join D_l_join T D_l_depart h0⟩
abbrev s_l_state : Stmt := top 50
theorem sc_l_state : FnScope ["_law_h", "_law_network_here", "_law_most", "_law_station", "_law_queues", "_law_number", "_law_finished", "_law_k", "_law_kind", "_law_queue"] ["_law_h", "_law_network_here", "_law_most"] (defScope s_l_state) := ⟨rfl, rfl, rfl, by decide +kernel, rfl, by decide +kernel, by decide +kernel⟩
def spStateL (K : PySem.W.Frag) : Sp := fun vs H Q _ => ∃ (h b : Addr) (v : V) (N : Net) (most : Int), vs = [.ref h, v, .int most] ∧ Gen H h b ∧ NetAt K H v N ∧ Drawn N 8 ∧ 1 ≤ most ∧ most ≤ 1000 ∧
  ∀ (u : V) (p : Int) (qs : Qs) (H' : Hp), StOk N p qs → Dp K H' u (stateD p qs) → Gen H' h b → Ex2 h b H H' → Q u H'
theorem ok_l_state {f f1 f2 f3 : Addr} {fd fd1 fd2 fd3 : FuncData} (D : Df K mg "_law_state" s_l_state ["_law_h", "_law_network_here", "_law_most"] f fd) (T : Bt mg) (D_l_next : Df K mg "_law_next" s_l_next ["_law_h", "_law_limit"] f1 fd1)
    (D_l_join : Df K mg "_law_join" s_l_join ["_law_network_here", "_law_queues", "_law_station", "_law_passenger", "_law_finished"] f2 fd2) (D_l_depart : Df K mg "_law_depart" s_l_depart ["_law_network_here", "_law_queues", "_law_station", "_law_finished"] f3 fd3) : FnOk P w K mg base CX0 18 f fd ["_law_h", "_law_network_here", "_law_most"] (spStateL K) := by
  have G_l_next : FnOk P w K mg base CX0 1 f1 fd1 _ _ := ok_l_next D_l_next T
  have G_l_depart : FnOk P w K mg base CX0 16 f3 fd3 _ _ := (ok_l_pair D_l_join T D_l_depart 8).1
  have G_l_join : FnOk P w K mg base CX0 17 f2 fd2 _ _ := (ok_l_pair D_l_join T D_l_depart 8).2
  refine D.F.ok sc_l_state (fun vs H Q E h => ?_) (fun cdv A outer s H vs Q E hr h => ?_)
  · obtain ⟨a, b, v, N, most, rfl, _⟩ := h
    rfl
  · obtain ⟨h, b, v, N, most, rfl, g0, hN, hD, m0, m1, q⟩ := h
    have hu := hr.units
    refine ⟨_, (pss_cons (ps_par3 (i := 4) (j := 5) (l := 6) rfl sc_l_state.nd rfl rfl rfl (by decide) (by decide) (by decide) rfl rfl rfl (pa_cons (pe_lc (own := [("_law_station", 3)]) (g := gName 3) (tt := tYes) rfl sc_l_state.nd (pi_U (K := K) (pv 1)) (blkOk_by (own := [("_law_station", 3)]) (N := ["_law_h", "_law_network_here", "_law_most", "_law_station", "_law_queues", "_law_number", "_law_finished", "_law_k", "_law_kind", "_law_queue"]) (sc := defScope s_l_state) (by decide +kernel)) (fun _ _ _ _ _ => (pg_name (i := 3) sc_l_state.nd rfl (Or.inl rfl))) (fun _ _ _ _ _ => pts_nil) (fun _ _ _ _ _ => (pe_lst pa_nil))) (pa_cons (pe_op (op_addU (K := K)) pe_int (pe_call (G_l_next) (hr.mono (by decide)) rfl D_l_next.g D_l_next.F.kp D_l_next.b .nil pass0 (pa_cons (pv 0) (pa_cons pe_int pa_nil)))) (pa_cons (pe_lst pa_nil) pa_nil))) (by rfl))
      (pss_cons (ps_for PassesOwn.never rfl (pi_range1 (by rfl) T.b_range (pa_cons (pe_call (G_l_next) (hr.mono (by decide)) rfl D_l_next.g D_l_next.F.kp D_l_next.b .nil pass0 (pa_cons (pv 0) (pa_cons (pv 2) pa_nil))) pa_nil)) (pg_name (i := 7) sc_l_state.nd rfl (Or.inl rfl)) (pss_cons (ps_par (i := 8) (j := 3) (by rfl) sc_l_state.nd rfl rfl (by decide) rfl rfl (pa_cons (pe_call (G_l_next) (hr.mono (by decide)) rfl D_l_next.g D_l_next.F.kp D_l_next.b .nil pass0 (pa_cons (pv 0) (pa_cons pe_int pa_nil))) (pa_cons (pe_call (G_l_next) (hr.mono (by decide)) rfl D_l_next.g D_l_next.F.kp D_l_next.b .nil pass0 (pa_cons (pv 0) (pa_cons (pe_callB (call_lenU (K := K)) (by rfl) T.b_len (by decide +kernel) (pa_cons (pv 1) pa_nil)) pa_nil))) pa_nil)) (by rfl))
      (pss_one (ps_if (PW.pt (pw_and (pt_cmpR (op_eqU (K := K) hu) (pv 8) pe_int (nomark _)) (pw_and1 (pt_cmpR (op_neU (K := K) hu) (pe_ix (ix_U (K := K)) (pv 4) (pv 3) (fun _ _ => rfl)) (pe_lst pa_nil) (nomark _))))) (pss_one (ps_expr (pe_call (G_l_depart) (hr.mono (by decide)) rfl D_l_depart.g D_l_depart.F.kp D_l_depart.b .nil pass0 (pa_cons (pv 1) (pa_cons (pv 4) (pa_cons (pv 3) (pa_cons (pv 6) pa_nil))))))) (pss_one (ps_if (PW.pt (pw_and (pt_cmpR (op_eqU (K := K) hu) (pv 8) pe_int (nomark _)) (pw_and1 (pt_cmpR (op_neU (K := K) hu) (pe_ix (ix_U (K := K)) (pv 4) (pv 3) (fun _ _ => rfl)) (pe_lst pa_nil) (nomark _))))) (pss_one (ps_expr (pe_bm PySem.F.plainAttrs_list PySem.F.slot_list_pop PySem.F.type_list_pop mt_popAt (pe_ix (ix_U (K := K)) (pv 4) (pv 3) (fun _ _ => rfl)) (pa_cons (pe_call (G_l_next) (hr.mono (by decide)) rfl D_l_next.g D_l_next.F.kp D_l_next.b .nil pass0 (pa_cons (pv 0) (pa_cons (pe_callB (call_lenU (K := K)) (by rfl) T.b_len (by decide +kernel) (pa_cons (pe_ix (ix_U (K := K)) (pv 4) (pv 3) (fun _ _ => rfl)) pa_nil)) pa_nil))) pa_nil)))) (pss_one (ps_if (PW.pt (pw_and (pt_cmpR (op_eqU (K := K) hu) (pv 8) pe_int (nomark _)) (pw_and1 (pt_cmpR (op_ltU) (pe_op (op_addU (K := K)) (pe_callB (call_lenU (K := K)) (by rfl) T.b_len (by decide +kernel) (pa_cons (pe_ix (ix_U (K := K)) (pv 4) (pv 3) (fun _ _ => rfl)) pa_nil)) pe_int) (pe_callB (call_lenU (K := K)) (by rfl) T.b_len (by decide +kernel) (pa_cons (pe_ix (ix_U (K := K)) (pv 1) (pv 3) (fun _ _ => rfl)) pa_nil)) (nomark _))))) (pss_cons (ps_expr (pe_bm PySem.F.plainAttrs_list PySem.F.slot_list_append PySem.F.type_list_append mt_append (pe_ix (ix_U (K := K)) (pv 4) (pv 3) (fun _ _ => rfl)) (pa_cons (pv 5) pa_nil)))
      (pss_one (ps_set (i := 5) sc_l_state.nd rfl (Or.inl rfl) (pe_op (op_addU (K := K)) (pv 5) pe_int)))) (pss_cons (ps_expr (pe_call (G_l_join) (hr.mono (by decide)) rfl D_l_join.g D_l_join.F.kp D_l_join.b .nil pass0 (pa_cons (pv 1) (pa_cons (pv 4) (pa_cons pe_int (pa_cons (pv 5) (pa_cons (pv 6) pa_nil)))))))
      (pss_one (ps_set (i := 5) sc_l_state.nd rfl (Or.inl rfl) (pe_op (op_addU (K := K)) (pv 5) pe_int))))))))))))
      (pss_one (ps_ret (pe_tup (pa_cons (pv 5) (pa_cons (pe_callTy (call_tupU (K := K)) (by rfl) T.b_tuple (by decide +kernel) (pa_cons (pe_lc (own := [("_law_queue", 9)]) (g := gName 9) (tt := tYes) rfl sc_l_state.nd (pi_U (K := K) (pv 4)) (blkOk_by (own := [("_law_queue", 9)]) (N := ["_law_h", "_law_network_here", "_law_most", "_law_station", "_law_queues", "_law_number", "_law_finished", "_law_k", "_law_kind", "_law_queue"]) (sc := defScope s_l_state) (by decide +kernel)) (fun _ _ _ _ _ => (pg_name (i := 9) sc_l_state.nd rfl (Or.inl rfl))) (fun _ _ _ _ _ => pts_nil) (fun _ _ _ _ _ => (pe_callTy (call_tupU (K := K)) (by rfl) T.b_tuple (by decide +kernel) (pa_cons (pv 9) pa_nil)))) pa_nil)) pa_nil))))))), ?_⟩
    walk_at "run"
    obtain ⟨vn, us, rfl, hU, hus⟩ := hN.at
    have hlu : us.length = N.length := by rw [hus.len, List.length_map]
    have hN1 := hD.pos
    have hN8 := hD.le
    have hJ : JN N := hD.jn (by decide)
    refine x_itT hU (lcl_it walk_tup (fun D i H' => ∃ as : List Addr, H' D = some (.lst (as.map V.ref)) ∧ as.length = i ∧ as.Nodup ∧ D ∉ as ∧ (∀ a ∈ as, H a = none ∧ H' a = some (.lst [])) ∧ Ex H H') (fun D H' hD e h => ⟨[], h, rfl, List.nodup_nil, by simp, by simp, e⟩) (fun D i H' _ ⟨_, _, _, _, _, _, e⟩ => ex_t e hU) ?_ ?_)
    · rintro D i x H2 H2' hDn hi ⟨as, hA, hl, nd, nm, has, e2⟩ ⟨eH, hx⟩
      subst eH
      walk_at "run"
      refine x_lst (by simp) fun t H3 nt e3 ht => x_push (e3 _ _ hA) (by rw [List.length_map]; omega) fun H4 e4 h4 => ?_
      have hDt : D ≠ t := ne_of_none hA nt
      have hta : t ∉ as := fun z => ne_of_none (has t z).2 nt rfl
      refine ⟨as ++ [t], by rw [h4, List.map_append]; rfl, by simp [hl], ?_, ?_, fun a ha => ?_, fun x o hx => e4 _ _ (ne_of_none hx hDn) (e3 _ _ (e2 _ _ hx))⟩
      · exact nd_snoc nd hta
      · simp [nm, hDt]
      · rcases List.mem_append.mp ha with ha | ha
        · exact ⟨(has a ha).1, e4 _ _ (fun z => nm (by rw [← z]; exact ha)) (e3 _ _ (has a ha).2)⟩
        · rw [List.mem_singleton.mp ha]
          exact ⟨fresh_back e2 nt, e4 _ _ hDt.symm ht⟩
    · rintro Qa H1 nQ ⟨as, hA, hl, nd, nm, has, e1⟩
      rw [hlu] at hl
      refine x_next (g0.ex e1) (by decide) (by decide) fun r H2 r0 r1 g2 e2 => ?_
      walk_at "run"
      refine x_lst (by simp) fun Fa H3 nF e3 hF3 => ⟨_, _, _, rfl, ?_⟩
      have nQh : Qa ≠ h ∧ Qa ≠ b := ⟨g0.na nQ, g0.nb nQ⟩
      have nah : ∀ a ∈ as, a ≠ h ∧ a ≠ b := fun a ha => ⟨g0.na (has a ha).1, g0.nb (has a ha).1⟩
      have hQ1 : QsAt K H1 Qa as (List.replicate N.length []) := ⟨hA, by rw [List.length_replicate]; exact hl, nd, nm, fun i a ha => by
        rw [(has a (List.mem_of_getElem? ha)).2, List.getD_eq_getElem?_getD]
        cases e : (List.replicate N.length ([] : List Int))[i]? with
        | none => rfl
        | some y => rw [List.eq_of_mem_replicate (List.mem_of_getElem? e)]; rfl⟩
      have hQ2 := (hQ1.ex2 e2 nQh nah).ex e3
      have ex3 : Ex2 h b H H3 := ((Ex2.of e1).trans e2).ex e3
      have hF0 : H Fa = none := fresh_back e1 (by
        cases e : H1 Fa with
        | none => rfl
        | some o =>
          by_cases z1 : Fa = h
          · obtain ⟨_, _, _, k1, _⟩ := g2
            rw [← z1, nF] at k1; cases k1
          · by_cases z2 : Fa = b
            · obtain ⟨_, _, _, _, k2, _⟩ := g2
              rw [← z2, nF] at k2; cases k2
            · have := e2 _ _ e z1 z2
              rw [nF] at this; cases this)
      have hQ2' := hQ1.ex2 e2 nQh nah
      have nw : Nw H h b Qa Fa as := ⟨g0, nQ, hF0, fun a ha => (has a ha).1, fun z => ne_of_none hQ2'.at_ nF z.symm, fun z => by
        obtain ⟨i, hi⟩ := List.mem_iff_getElem?.mp z
        exact ne_of_none (hQ2'.q i Fa hi) nF rfl⟩
      have flr : (List.replicate N.length ([] : List Int)).flatten = [] := by
        generalize N.length = n
        induction n with
        | zero => rfl
        | succ n ih => rw [List.replicate_succ, List.flatten_cons, ih]; rfl
      have W0 : LS K H H3 N h b Qa Fa as (List.replicate N.length []) [] (1 + r) 0 := ⟨g2.ex e3, hQ2, ⟨[], hF3, .nil⟩, ⟨List.length_replicate .., fun k hk => by
          have := (hJ.st k hk).1
          rw [List.getD_eq_getElem?_getD, List.getElem?_replicate, if_pos hk]
          show 0 < _
          omega⟩, by rw [flr]; exact List.nodup_nil, by rw [flr]; simp, by omega, by rw [flr]; simp, ex3⟩
      refine x_next W0.gen (by omega) (by omega) fun r2 H4 r20 r21 g4 e4 => ⟨_, rfl, by omega, by omega, ?_⟩
      refine loop_it walk_range (fun i σ H' => ∃ u3 u7 u8 u9 qs fs p, σ = [some (.ref h), some (.ref vn), some (.int most), u3, some (.ref Qa), some (.int p), some (.ref Fa), u7, u8, u9] ∧ LS K H H' N h b Qa Fa as qs fs p i) ⟨_, _, _, _, _, _, _, rfl, W0.dr nw g4 e4⟩ (fun _ _ _ _ _ => trivial) ?_ ?_
      · rintro i x σ H5 H5' hi ⟨u3, u7, u8, u9, qs, fs, p, rfl, W⟩ ⟨eH, rfl⟩
        subst eH
        have hi : i < 1000 := by omega
        show tSeq (tPar 8 3 _) (tFirst K) _ _ _
        walk_at "run"
        refine x_next W.gen (by decide) (by decide) fun kd H6 kd0 kd1 g6 e6 => ?_
        have W6 := W.dr nw g6 e6
        have t6 := nw.g.tx W6.ex
        refine x_lenT (t6.t hU) ?_
        rw [hlu]
        refine x_next W6.gen (by omega) (by omega) fun st H7 st0 st1 g7 e7 => ?_
        have W7 := W6.dr nw g7 e7
        obtain ⟨st, rfl⟩ : ∃ k : Nat, st = (k : Int) := ⟨st.toNat, by omega⟩
        refine ⟨_, _, rfl, ?_⟩
        exact state_first hJ (by omega) hN1 hU hus nw (by omega) (by omega) W7 fun p' qs' fs' H1 W' => ⟨_, _, _, _, _, _, _, rfl, W'⟩
      · rintro σ H5 ⟨u3, u7, u8, u9, qs, fs, p, rfl, W⟩
        walk_at "run"
        have hal : (as.map V.ref).length = as.length := List.length_map ..
        refine x_itL (SqL.of W.q.at_) (lcl_it walk_list (fun D i H' => ∃ ts, H' D = some (.lst ts) ∧ DpAll K H' ts ((qs.take i).map qD) ∧ Ex H5 H') (fun D H' hD e hd => ⟨[], hd, by simpa using DpAll.nil, e⟩) (fun D i H' _ ⟨_, _, _, e⟩ => ex_l e (SqL.of W.q.at_)) ?_ ?_)
        · rintro D i x H6 H6' hDn hi ⟨ts, hd, hts, e6⟩ ⟨eH, hx⟩
          subst eH
          have hia : i < as.length := by rw [List.length_map] at hi; exact hi
          have hiq : i < qs.length := by rw [← W.q.len]; exact hia
          obtain ⟨a, ha, hHa, _⟩ := W.q.get hiq
          obtain rfl : x = .ref a := by
            have : (as.map V.ref)[i]? = some (.ref a) := by simp only [List.getElem?_map, ha]; rfl
            rw [hx] at this
            exact Option.some.inj this
          walk_at "run"
          refine x_tupL (SqL.of (e6 _ _ hHa)) fun t H7 nt e7 ht => ?_
          have htl := hts.len
          rw [List.length_map, List.length_take] at htl
          have hql : qs.length = N.length := W.sh.len
          refine x_push (e7 _ _ hd) (by omega) fun H8 e8 h8 => ⟨_, h8, ?_, fun x o hx => e8 _ _ (ne_of_none hx hDn) (e7 _ _ (e6 _ _ hx))⟩
          have hDt : D ≠ t := ne_of_none hd nt
          have t8 : TX H6' H8 := (TX.of e7).trans (TX.but (e7 _ _ hd) e8)
          have htk : qs.take (i + 1) = qs.take i ++ [qs.getD i []] := by rw [List.take_add_one, getD_some hiq]; rfl
          rw [htk, List.map_append]
          refine DpAll.append (DpAll.tx t8 hts fun d hd => ?_) (.cons (.tup (SqT.of (e8 _ _ hDt.symm ht)) (ints_dp _)) .nil)
          obtain ⟨y, _, rfl⟩ := List.mem_map.mp hd
          exact qD_t y
        · rintro D H6 hDn ⟨ts, hd, hts, e6⟩
          have hql : qs.length = N.length := W.sh.len
          have hlq : qs.take (as.map V.ref).length = qs := by rw [hal, W.q.len, List.take_length]
          rw [hlq] at hts
          refine x_tupL (SqL.of hd) fun t H7 nt e7 ht => x_tup (by simp) fun t2 H8 nt2 e8 ht2 => ?_
          have e58 := (e6.trans e7).trans e8
          refine q _ p qs H8 ⟨W.pos, hql, fun k q' s h1 h2 => ?_, W.nd, W.rg⟩ (.tup (SqT.of ht2) (.cons (.int p) (.cons (.tup (SqT.of (e8 _ _ ht)) (DpAll.ex (e7.trans e8) hts)) .nil))) (W.gen.ex e58) (W.ex.ex e58)
          have hk := (List.getElem?_eq_some_iff.mp h2).1
          have := W.sh.lt k hk
          rw [List.getD_eq_getElem?_getD, h1, List.getD_eq_getElem?_getD, h2] at this
          exact this
end
end K
set_option Elab.async false
set_option linter.all false
set_option maxRecDepth 100000
set_option maxHeartbeats 1000000
set_option exponentiation.threshold 20000
namespace K
open PySem PySem.Spec PyProof.Rows L2 Evl FB
local macro_rules | `(tactic| walk_at "run") => `(tactic| try simp only [tSeq, tAsg, tVar, tC, gName, L2.start, List.map_cons, List.map_nil, List.cons_append, List.nil_append, List.length_cons, List.length_nil, List.replicate, List.getElem?_cons_zero, List.getElem?_cons_succ, Option.some.injEq, exists_eq_left', List.set_cons_zero, List.set_cons_succ, V.ref.injEq, tRet, x_tLst, x_tTup, tCons, tCB, tNil, tOp, x_addI, x_mulI, x_rI, x_rI0, x_ltI, x_leI, x_ltS, x_leS, x_eqI, x_neI, x_eqS, x_eqB, x_neB, x_isiI, x_isiS, x_int, x_max, x_min, cxOf, tIfS, tNext, tTest, V.bl.injEq, decide_eq_true_eq, gSub, tAnd, tOr, tNot, tB, tDrop, tBM, x_tFor, iRng1, iList, iTup, x_tLc, tYes, tCall, tIf, tAndV, tOrV, tNotV, tChain, List.append_nil, tUn, if_true, wipe, true_and, x_never, iU, x_itS, kV, Nat.reduceAdd, Nat.reduceSub, List.replicate_zero, x_rU, x_tMkO, iEnumT, x_tDc, x_tDGet, x_tDGet2, x_sDPut, x_tDSetd, x_tDNewK, x_iItems, x_iZip, x_tSAddK, x_tLockV, x_tTupRg, x_tRg2, tPar, tPar3, tBM0, tSl, tNoPart, tPart, x_tSetAdd, x_tDIn, x_iKeys, x_iZipX, tWhile])
/-- a fraction as the program has it -/
def frD (q : Rat) : PyData := .tuple [.int q.num, .int (q.den : Int)]
theorem frD_t (q : Rat) : TupD (frD q) := .tup fun d hd => by
  simp only [List.mem_cons, List.not_mem_nil, or_false] at hd
  rcases hd with rfl | rfl
  · exact .int _
  · exact .int _
abbrev FrAt (K : PySem.W.Frag) (H : Hp) (v : V) (q : Rat) : Prop := Dp K H v (frD q)
section
variable {P : Program} {w : World} {K : PySem.W.Frag} {mg : Str → Option Value} {base : Heap}
theorem FrAt.at {H : Hp} {v : V} {q : Rat} (h : FrAt K H v q) : ∃ a, v = .ref a ∧ SqT K H a [.int q.num, .int (q.den : Int)] := by
  obtain ⟨a, xs, e, h1, h2⟩ := Dp.tup_inv h
  cases h2 with
  | cons p hs =>
    cases hs with
    | cons p2 hs =>
      cases hs
      rw [p.int_inv, p2.int_inv] at h1
      exact ⟨a, e, h1⟩
theorem FrAt.of {H : Hp} {a : Addr} {q : Rat} (h : SqT K H a [.int q.num, .int (q.den : Int)]) : FrAt K H (.ref a) q := .tup h (.cons (.int _) (.cons (.int _) .nil))
/-- numbers that are not too large for the wide rules -/
def Wd (q : Rat) : Prop := q.num.natAbs < 2 ^ 1500 ∧ q.den < 2 ^ 1500
abbrev s_lowest_terms : Stmt := top 22
theorem sc_lowest_terms : FnScope ["numerator", "denominator", "common"] ["numerator", "denominator"] (defScope s_lowest_terms) := ⟨rfl, rfl, rfl, by decide +kernel, rfl, by decide +kernel, by decide +kernel⟩
def spLow (K : PySem.W.Frag) : Sp := fun vs H Q _ => ∃ (n : Int) (m : Nat), vs = [.int n, .int (m : Int)] ∧ m ≠ 0 ∧ m < 2 ^ 4000 ∧ ∀ H' r, Ex H H' → FrAt K H' r (mkRat n m) → Q r H'
theorem ok_lowest_terms {f : Addr} {fd : FuncData} (D : Df K mg "lowest_terms" s_lowest_terms ["numerator", "denominator"] f fd) (hgcd : mg "gcd" = some (.builtin "math.gcd")) : FnOk P w K mg base CX0 1 f fd ["numerator", "denominator"] (spLow K) := by
  refine D.F.ok sc_lowest_terms (fun vs H Q E h => ?_) (fun cdv A outer s H vs Q E hr h => ?_)
  · obtain ⟨n, m, rfl, _⟩ := h
    rfl
  · obtain ⟨n, m, rfl, hm, hb, q⟩ := h
    refine ⟨_, (pss_cons (ps_set (i := 2) sc_lowest_terms.nd rfl (Or.inl rfl) (pe_callBfun call_gcdU (by rfl) hgcd (pa_cons (pv 0) (pa_cons (pv 1) pa_nil))))
      (pss_one (ps_ret (pe_tup (pa_cons (pe_op op_fdivW (pv 0) (pv 2)) (pa_cons (pe_op op_fdivW (pv 1) (pv 2)) pa_nil)))))), ?_⟩
    walk_at "run"
    refine ⟨n, m, rfl, ?_⟩
    rw [Int.natAbs_natCast]
    have c : ∀ i, CDivW i ((Nat.gcd n.natAbs m : Nat) : Int) := fun i => wide_div (low_pos hm) (by rw [Int.natAbs_natCast]; exact Nat.lt_of_le_of_lt (low_le hm) hb) (by decide) (by decide)
    walk_at "run"
    refine ⟨c _, c _, ?_⟩
    rw [low_num hm, low_den hm]
    exact x_tup (by simp) fun t H1 nt e1 h1 => q H1 _ e1 (FrAt.of (SqT.of h1))
abbrev s_add : Stmt := top 23
theorem sc_add : FnScope ["one", "other"] ["one", "other"] (defScope s_add) := ⟨rfl, rfl, rfl, by decide +kernel, rfl, by decide +kernel, by decide +kernel⟩
def spAddF (K : PySem.W.Frag) : Sp := fun vs H Q _ => ∃ (u v : V) (a b : Rat), vs = [u, v] ∧ FrAt K H u a ∧ FrAt K H v b ∧ Wd a ∧ Wd b ∧ ∀ H' r, Ex H H' → FrAt K H' r (a + b) → Q r H'
theorem wmul {i j : Int} (hi : i.natAbs < 2 ^ 1500) (hj : j.natAbs < 2 ^ 1500) : CMulW i j := wide_mul hi hj (by decide) (by decide) (by decide)
theorem dden {a b : Rat} (ha : a.den < 2 ^ 1500) (hb : b.den < 2 ^ 1500) : a.den * b.den < 2 ^ 4000 := by
  have h := Nat.mul_lt_mul'' ha hb
  rw [← Nat.pow_add] at h
  exact Nat.lt_of_lt_of_le h (Nat.pow_le_pow_right (by decide) (by decide))
theorem ok_add {f f1 : Addr} {fd fd1 : FuncData} (D : Df K mg "add" s_add ["one", "other"] f fd) (D_lowest_terms : Df K mg "lowest_terms" s_lowest_terms ["numerator", "denominator"] f1 fd1) (hgcd : mg "gcd" = some (.builtin "math.gcd")) : FnOk P w K mg base CX0 2 f fd ["one", "other"] (spAddF K) := by
  have G_lowest_terms : FnOk P w K mg base CX0 1 f1 fd1 _ _ := ok_lowest_terms D_lowest_terms hgcd
  refine D.F.ok sc_add (fun vs H Q E h => ?_) (fun cdv A outer s H vs Q E hr h => ?_)
  · obtain ⟨u, v, a, b, rfl, _⟩ := h
    rfl
  · obtain ⟨u, v, a, b, rfl, hu, hv, wa, wb, q⟩ := h
    refine ⟨_, (pss_one (ps_ret (pe_call (G_lowest_terms) (hr.mono (by decide)) rfl D_lowest_terms.g D_lowest_terms.F.kp D_lowest_terms.b .nil pass0 (pa_cons (pe_op (op_addU (K := K)) (pe_op op_mulW (pe_ix (ix_U (K := K)) (pv 0) pe_int (fun _ _ => rfl)) (pe_ix (ix_U (K := K)) (pv 1) pe_int (fun _ _ => rfl))) (pe_op op_mulW (pe_ix (ix_U (K := K)) (pv 1) pe_int (fun _ _ => rfl)) (pe_ix (ix_U (K := K)) (pv 0) pe_int (fun _ _ => rfl)))) (pa_cons (pe_op op_mulW (pe_ix (ix_U (K := K)) (pv 0) pe_int (fun _ _ => rfl)) (pe_ix (ix_U (K := K)) (pv 1) pe_int (fun _ _ => rfl))) pa_nil))))), ?_⟩
    obtain ⟨x, rfl, hx⟩ := hu.at
    obtain ⟨y, rfl, hy⟩ := hv.at
    have na : ((a.den : Int)).natAbs < 2 ^ 1500 := by rw [Int.natAbs_natCast]; exact wa.2
    have nb : ((b.den : Int)).natAbs < 2 ^ 1500 := by rw [Int.natAbs_natCast]; exact wb.2
    walk_at "run"
    refine x_ixT hx (v := .int a.num) rfl (x_ixT hy (v := .int (b.den : Int)) rfl ?_)
    walk_at "run"
    refine ⟨wmul wa.1 nb, x_ixT hy (v := .int b.num) rfl (x_ixT hx (v := .int (a.den : Int)) rfl ?_)⟩
    walk_at "run"
    refine ⟨wmul wb.1 na, x_ixT hx (v := .int (a.den : Int)) rfl (x_ixT hy (v := .int (b.den : Int)) rfl ?_)⟩
    walk_at "run"
    refine ⟨wmul na nb, ⟨a.num * (b.den : Int) + b.num * (a.den : Int), a.den * b.den, by rw [Int.natCast_mul], Nat.mul_ne_zero a.den_nz b.den_nz, dden wa.2 wb.2, fun H' r e h => q H' r e ?_⟩⟩
    rw [rat_add] at h
    exact h
abbrev s_divide : Stmt := top 24
theorem sc_divide : FnScope ["fraction", "integer"] ["fraction", "integer"] (defScope s_divide) := ⟨rfl, rfl, rfl, by decide +kernel, rfl, by decide +kernel, by decide +kernel⟩
def spDivF (K : PySem.W.Frag) : Sp := fun vs H Q _ => ∃ (u : V) (a : Rat) (k : Nat), vs = [u, .int (k : Int)] ∧ FrAt K H u a ∧ k ≠ 0 ∧ a.den < 2 ^ 1500 ∧ k < 2 ^ 1500 ∧ ∀ H' r, Ex H H' → FrAt K H' r (a / (k : Rat)) → Q r H'
theorem ok_divide {f f1 : Addr} {fd fd1 : FuncData} (D : Df K mg "divide" s_divide ["fraction", "integer"] f fd) (D_lowest_terms : Df K mg "lowest_terms" s_lowest_terms ["numerator", "denominator"] f1 fd1) (hgcd : mg "gcd" = some (.builtin "math.gcd")) : FnOk P w K mg base CX0 2 f fd ["fraction", "integer"] (spDivF K) := by
  have G_lowest_terms : FnOk P w K mg base CX0 1 f1 fd1 _ _ := ok_lowest_terms D_lowest_terms hgcd
  refine D.F.ok sc_divide (fun vs H Q E h => ?_) (fun cdv A outer s H vs Q E hr h => ?_)
  · obtain ⟨u, a, k, rfl, _⟩ := h
    rfl
  · obtain ⟨u, a, k, rfl, hu, hk, wa, wk, q⟩ := h
    refine ⟨_, (pss_one (ps_ret (pe_call (G_lowest_terms) (hr.mono (by decide)) rfl D_lowest_terms.g D_lowest_terms.F.kp D_lowest_terms.b .nil pass0 (pa_cons (pe_ix (ix_U (K := K)) (pv 0) pe_int (fun _ _ => rfl)) (pa_cons (pe_op op_mulW (pe_ix (ix_U (K := K)) (pv 0) pe_int (fun _ _ => rfl)) (pv 1)) pa_nil))))), ?_⟩
    obtain ⟨x, rfl, hx⟩ := hu.at
    walk_at "run"
    refine x_ixT hx (v := .int a.num) rfl (x_ixT hx (v := .int (a.den : Int)) rfl ?_)
    walk_at "run"
    refine ⟨wmul (by rw [Int.natAbs_natCast]; exact wa) (by rw [Int.natAbs_natCast]; exact wk), ⟨a.num, a.den * k, by rw [Int.natCast_mul], Nat.mul_ne_zero a.den_nz hk, ?_, fun H' r e h => q H' r e ?_⟩⟩
    · have h := Nat.mul_lt_mul'' wa wk
      rw [← Nat.pow_add] at h
      exact Nat.lt_of_lt_of_le h (Nat.pow_le_pow_right (by decide) (by decide))
    · rw [rat_divN a hk] at h
      exact h
/-- a list of fractions -/
def sumL : List Rat → Rat
  | [] => 0
  | q :: r => q + sumL r
theorem sumL_snoc {q : Rat} : ∀ {l : List Rat}, sumL (l ++ [q]) = sumL l + q
  | [] => by show q + 0 = 0 + q; grind
  | p :: r => by
    show p + sumL (r ++ [q]) = p + sumL r + q
    rw [sumL_snoc]; grind
theorem sumL_take {l : List Rat} {i : Nat} {q : Rat} (h : l[i]? = some q) : sumL (l.take (i + 1)) = sumL (l.take i) + q := by
  rw [List.take_add_one, h]
  exact sumL_snoc
abbrev s_total : Stmt := top 25
theorem sc_total : FnScope ["fractions", "result", "fraction"] ["fractions"] (defScope s_total) := ⟨rfl, rfl, rfl, by decide +kernel, rfl, by decide +kernel, by decide +kernel⟩
def spTotal (K : PySem.W.Frag) : Sp := fun vs H Q _ => ∃ (a : Addr) (xs : List V) (qs : List Rat), vs = [.ref a] ∧ SqL K H a xs ∧ DpAll K H xs (qs.map frD) ∧ (∀ q ∈ qs, Wd q) ∧ (∀ i, i ≤ qs.length → Wd (sumL (qs.take i))) ∧ ∀ H' r, Ex H H' → FrAt K H' r (sumL qs) → Q r H'
/-- the constant zero -/
structure Zero (K : PySem.W.Frag) (mg : Str → Option Value) (z : Addr) : Prop where
  g : mg "ZERO" = some (.ref z)
  at0 : ∀ H, SqT K H z [.int 0, .int 1]
theorem Zero.fr {z : Addr} (Z : Zero K mg z) {H : Hp} : FrAt K H (.ref z) 0 := FrAt.of (Z.at0 H)
theorem ok_total {f f1 f2 z : Addr} {fd fd1 fd2 : FuncData} (D : Df K mg "total" s_total ["fractions"] f fd) (D_add : Df K mg "add" s_add ["one", "other"] f2 fd2) (D_lowest_terms : Df K mg "lowest_terms" s_lowest_terms ["numerator", "denominator"] f1 fd1) (hgcd : mg "gcd" = some (.builtin "math.gcd")) (Z : Zero K mg z) :
    FnOk P w K mg base CX0 3 f fd ["fractions"] (spTotal K) := by
  have G_add : FnOk P w K mg base CX0 2 f2 fd2 _ _ := ok_add D_add D_lowest_terms hgcd
  have G_ZERO := Z.g
  refine D.F.ok sc_total (fun vs H Q E h => ?_) (fun cdv A outer s H vs Q E hr h => ?_)
  · obtain ⟨a, xs, qs, rfl, _⟩ := h
    rfl
  · obtain ⟨a, xs, qs, rfl, hS, hq, hw, hs, q⟩ := h
    refine ⟨_, (pss_cons (ps_set (i := 1) sc_total.nd rfl (Or.inl rfl) (pe_glob (v := .ref z) rfl G_ZERO rfl))
      (pss_cons (ps_for PassesOwn.never rfl (pi_U (K := K) (pv 0)) (pg_name (i := 2) sc_total.nd rfl (Or.inl rfl)) (pss_one (ps_set (i := 1) sc_total.nd rfl (Or.inl rfl) (pe_call (G_add) (hr.mono (by decide)) rfl D_add.g D_add.F.kp D_add.b .nil pass0 (pa_cons (pv 1) (pa_cons (pv 2) pa_nil))))))
      (pss_one (ps_ret (pv 1))))), ?_⟩
    have hl : xs.length = qs.length := by rw [hq.len, List.length_map]
    walk_at "run"
    refine x_itL hS (loop_it walk_list (fun i σ H' => ∃ r u, σ = [some (.ref a), some r, u] ∧ Ex H H' ∧ FrAt K H' r (sumL (qs.take i))) ⟨_, _, rfl, Ex.refl H, Z.fr⟩ (fun i σ H' _ ⟨_, _, _, e, _⟩ => ex_l e hS) ?_ ?_)
    · rintro i x σ H1 H1' hi ⟨r, u, rfl, e1, h1⟩ ⟨eH, hx⟩
      subst eH
      obtain ⟨d, hd, hxd⟩ := hq.get' hx
      obtain ⟨qi, hqi, rfl⟩ : ∃ qi, qs[i]? = some qi ∧ frD qi = d := by simpa using hd
      have wq := hw qi (List.mem_of_getElem? hqi)
      have wt := hs i (by omega)
      walk_at "run"
      refine ⟨r, x, _, qi, rfl, h1, Dp.ex e1 hxd, wt, wq, fun H2 r2 e2 h2 => ⟨_, _, rfl, e1.trans e2, ?_⟩⟩
      rw [sumL_take hqi]
      exact h2
    · rintro σ H1 ⟨r, u, rfl, e1, h1⟩
      rw [hl, List.take_length] at h1
      walk_at "run"
      exact q H1 r e1 h1
end
end K
set_option Elab.async false
set_option linter.all false
set_option maxRecDepth 100000
set_option maxHeartbeats 1000000
set_option exponentiation.threshold 20000
namespace K
open PySem PySem.Spec PyProof.Rows L2 Evl FB
local macro_rules | `(tactic| walk_at "run") => `(tactic| try simp only [tSeq, tAsg, tVar, tC, gName, L2.start, List.map_cons, List.map_nil, List.cons_append, List.nil_append, List.length_cons, List.length_nil, List.replicate, List.getElem?_cons_zero, List.getElem?_cons_succ, Option.some.injEq, exists_eq_left', List.set_cons_zero, List.set_cons_succ, V.ref.injEq, tRet, x_tLst, x_tTup, tCons, tCB, tNil, tOp, x_addI, x_mulI, x_rI, x_rI0, x_ltI, x_leI, x_ltS, x_leS, x_eqI, x_neI, x_eqS, x_eqB, x_neB, x_isiI, x_isiS, x_int, x_max, x_min, cxOf, tIfS, tNext, tTest, V.bl.injEq, decide_eq_true_eq, gSub, tAnd, tOr, tNot, tB, tDrop, tBM, x_tFor, iRng1, iList, iTup, x_tLc, tYes, tCall, tIf, tAndV, tOrV, tNotV, tChain, List.append_nil, tUn, if_true, wipe, true_and, x_never, iU, x_itS, kV, Nat.reduceAdd, Nat.reduceSub, List.replicate_zero, x_rU, x_tMkO, iEnumT, x_tDc, x_tDGet, x_tDGet2, x_sDPut, x_tDSetd, x_tDNewK, x_iItems, x_iZip, x_tSAddK, x_tLockV, x_tTupRg, x_tRg2, tPar, tPar3, tBM0, tSl, tNoPart, tPart, x_tSetAdd, x_tDIn, x_iKeys, x_iZipX, tWhile])
theorem ValidN.fwr {N : Net} (h : ValidN N) : FwR N where
  pos := fun i hi => by
    have e : N[i]? = some (N.getD i []) := by simp [List.getD_eq_getElem?_getD, hi]
    exact (h.cnt.st _ (List.mem_of_getElem? e)).1
  fw := fun i hi j hj => by
    have e : N[i]? = some (N.getD i []) := by simp [List.getD_eq_getElem?_getD, hi]
    exact h.seat e hj
theorem ValidN.len8 {N : Net} (h : ValidN N) (i : Nat) : (N.getD i []).length ≤ 8 := by
  rw [List.getD_eq_getElem?_getD]
  cases e : N[i]? with
  | none => simp
  | some s => exact (h.cnt.st _ (List.mem_of_getElem? e)).2
theorem p8 {k : Nat} (h : k ≤ 40) : (8 : Nat) ^ k ≤ 2 ^ 120 := Nat.le_trans (Nat.pow_le_pow_right (by decide) h) (by decide)
/-- a number between 0 and a, of a denominator of the network's -/
theorem ValidN.wd {N : Net} (h : ValidN N) {q : Rat} {a m : Nat} (h0 : 0 ≤ q) (h1 : q ≤ ((a : Nat) : Rat)) (ha : a ≤ 2 ^ 100) (hm : m ≤ N.length) (hd : q.den ∣ prodN N m) : Wd q := by
  have hp := prodN_pos h.fwr hm
  have h40 := h.le
  have hD : q.den ≤ 2 ^ 120 := Nat.le_trans (Nat.le_of_dvd hp hd) (Nat.le_trans (prodN_le h.len8 m) (p8 (by omega)))
  refine ⟨Nat.lt_of_le_of_lt (num_le h0 h1 hD) (Nat.lt_of_le_of_lt (Nat.mul_le_mul_right _ ha) (by decide)), Nat.lt_of_le_of_lt hD (by decide)⟩
theorem one_nat : ((1 : Nat) : Rat) = 1 := rfl
theorem toR_mono {f : Nat → Rat} (hf : ∀ i, 0 ≤ f i) {q : Key} {a b : Seats} : toR f q a ≤ toR f q (a ++ b) := by
  have := toR_nn hf (q := q) (a := b)
  rw [toR_append]; grind
/-- seats as far as the k-th of the station i -/
def upTo (N : Net) (i k : Nat) : Seats := seatsOf N i ++ stSeats i ((N.getD i []).take k)
theorem upTo_len {N : Net} {i k : Nat} (h : (N.getD i []).length ≤ k) : upTo N i k = seatsOf N (i + 1) := by
  unfold upTo
  rw [List.take_of_length_le h]; rfl
theorem upTo_zero {N : Net} {i : Nat} : upTo N i 0 = seatsOf N i := by
  unfold upTo stSeats
  simp
theorem upTo_succ {N : Net} {i k : Nat} {p : Key} (h : (N.getD i [])[k]? = some p) : upTo N i (k + 1) = upTo N i k ++ [(i, p)] := by
  unfold upTo stSeats
  rw [List.take_add_one, h, List.map_append, List.append_assoc]; rfl
theorem upTo_lt {N : Net} {i k : Nat} {s : Nat × Key} (h : s ∈ upTo N i k) : s.1 < i + 1 := by
  rcases List.mem_append.mp h with h | h
  · have := (mem_seatsOf.mp (show (s.1, s.2) ∈ seatsOf N i from h)).1
    omega
  · unfold stSeats at h
    obtain ⟨p, _, rfl⟩ := List.mem_map.mp h
    show i < i + 1
    omega
theorem upTo_split {N : Net} {i k : Nat} (hi : i < N.length) : ∃ L, seatsOf N N.length = upTo N i k ++ L := by
  obtain ⟨L, hL⟩ := seats_split (N := N) (show i + 1 ≤ N.length from hi)
  refine ⟨stSeats i ((N.getD i []).drop k) ++ L, ?_⟩
  rw [hL]
  show seatsOf N i ++ stSeats i (N.getD i []) ++ L = _
  unfold upTo stSeats
  rw [List.append_assoc, List.append_assoc, ← List.append_assoc (List.map _ (List.take _ _)), ← List.map_append, List.take_append_drop]
theorem vis_le {N : Net} (h : ValidN N) {i k j : Nat} (hi : i < N.length) (hj : j < N.length) : visF (av N) (upTo N i k) j ≤ 1 := by
  obtain ⟨L, hL⟩ := upTo_split (N := N) (k := k) hi
  have h1 := vi_le_one h.fwr hj
  have h2 := vi_from h.fwr (Nat.le_of_lt hj) (Nat.le_refl _)
  rw [hL] at h2
  have h3 := toR_mono (f := av N) av_nn (q := .inl (j : Int)) (a := upTo N i k) (b := L)
  unfold visF at h2 ⊢
  grind
theorem vis_nn {N : Net} {L : Seats} {j : Nat} : 0 ≤ visF (av N) L j := by
  have := toR_nn (f := av N) av_nn (q := .inl (j : Int)) (a := L)
  unfold visF
  split <;> grind
theorem vis_wd {N : Net} (h : ValidN N) {i k j : Nat} (hi : i < N.length) (hj : j < N.length) : Wd (visF (av N) (upTo N i k) j) :=
  h.wd (a := 1) vis_nn (by rw [one_nat]; exact vis_le h hi hj) (by decide) (show i + 1 ≤ N.length from hi) (visF_den h.fwr hi fun s hs => upTo_lt hs)
theorem av_wd {N : Net} (h : ValidN N) {i : Nat} (hi : i < N.length) : Wd (av N i) :=
  h.wd (a := 1) (av_nn i) (by rw [one_nat]; exact av_le_one h.fwr hi) (by decide) (Nat.le_refl _) (av_den h.fwr hi (Nat.le_refl _))
theorem vi_wd {N : Net} (h : ValidN N) {i : Nat} (hi : i < N.length) : Wd (vi N i) := by
  have := vis_wd h (k := 0) hi hi
  rw [upTo_zero] at this
  exact this
/-- the visitors of all stations so far -/
def visD (N : Net) (L : Seats) : List PyData := (List.range N.length).map fun j => frD (visF (av N) L j)
theorem visD_len {N : Net} {L : Seats} : (visD N L).length = N.length := by unfold visD; simp
theorem visD_get {N : Net} {L : Seats} {j : Nat} (h : j < N.length) : (visD N L)[j]? = some (frD (visF (av N) L j)) := by
  unfold visD
  simp [h]
theorem visD_t {N : Net} {L : Seats} : ∀ d ∈ visD N L, TupD d := fun d hd => by
  unfold visD at hd
  obtain ⟨j, _, rfl⟩ := List.mem_map.mp hd
  exact frD_t _
theorem visF_snoc {f : Nat → Rat} {L : Seats} {i : Nat} {p : Key} {j : Nat} : visF f (L ++ [(i, p)]) j = visF f L j + if p = .inl (j : Int) then f i else 0 := by
  unfold visF
  rw [toR_snoc]; grind
theorem visD_set {N : Net} {L : Seats} {i j : Nat} (hj : j < N.length) : visD N (L ++ [(i, .inl (j : Int))]) = (visD N L).set j (frD (visF (av N) L j + av N i)) := by
  apply List.ext_getElem?
  intro m
  rw [List.getElem?_set]
  by_cases hm : m < N.length
  · rw [visD_get hm]
    by_cases e : j = m
    · subst e
      rw [if_pos rfl, if_pos (by rw [visD_len]; exact hj), visF_snoc, if_pos rfl]
    · rw [if_neg e, visD_get hm, visF_snoc, if_neg (by intro z; have := Sum.inl.inj z; omega)]
      have : visF (av N) L m + 0 = visF (av N) L m := by grind
      rw [this]
  · have e1 : (visD N (L ++ [(i, .inl (j : Int))]))[m]? = none := List.getElem?_eq_none (by rw [visD_len]; omega)
    have e2 : (visD N L)[m]? = none := List.getElem?_eq_none (by rw [visD_len]; omega)
    rw [e1, e2, if_neg (by omega)]
theorem visD_str {N : Net} {L : Seats} {i : Nat} {z : Str} : visD N (L ++ [(i, .inr z)]) = visD N L := by
  unfold visD
  refine List.map_congr_left fun j _ => ?_
  rw [visF_snoc, if_neg (by intro e; cases e)]
  have : visF (av N) L j + 0 = visF (av N) L j := by grind
  rw [this]
theorem visD_nil {N : Net} (h : 1 ≤ N.length) : visD N [] = frD 1 :: List.replicate (N.length - 1) (frD 0) := by
  unfold visD
  obtain ⟨n, hn⟩ : ∃ n, N.length = n + 1 := ⟨N.length - 1, by omega⟩
  rw [hn, List.range_succ_eq_map, List.map_cons, Nat.add_sub_cancel]
  have e0 : visF (av N) [] 0 = 1 := by show (1 : Rat) + 0 = 1; grind
  rw [e0]
  congr 1
  rw [List.map_map, List.eq_replicate_iff]
  refine ⟨by simp, fun d hd => ?_⟩
  obtain ⟨j, _, rfl⟩ := List.mem_map.mp hd
  show frD (visF (av N) [] (j + 1)) = _
  have : visF (av N) [] (j + 1) = 0 := by
    unfold visF
    rw [if_neg (by omega)]
    show (0 : Rat) + 0 = 0
    grind
  rw [this]
/-- a station's averages -/
def avD (N : Net) (k : Nat) : PyData := .tuple [frD (vi N k), frD (av N k)]
theorem avD_t (N : Net) (k : Nat) : TupD (avD N k) := .tup fun d hd => by
  simp only [List.mem_cons, List.not_mem_nil, or_false] at hd
  rcases hd with rfl | rfl <;> exact frD_t _
def avL (N : Net) (n : Nat) : List PyData := (List.range n).map (avD N)
theorem avL_t {N : Net} {n : Nat} : ∀ d ∈ avL N n, TupD d := fun d hd => by
  obtain ⟨j, _, rfl⟩ := List.mem_map.mp hd
  exact avD_t N j
theorem avL_succ {N : Net} {n : Nat} : avL N (n + 1) = avL N n ++ [avD N n] := by
  unfold avL
  rw [List.range_succ, List.map_append]; rfl
theorem avL_len {N : Net} {n : Nat} : (avL N n).length = n := by unfold avL; simp
theorem avL_get {N : Net} {n k : Nat} (h : k < n) : (avL N n)[k]? = some (avD N k) := by unfold avL; simp [h]
section
variable {P : Program} {w : World} {K : PySem.W.Frag} {mg : Str → Option Value} {base : Heap}
theorem x_repQ {H : Hp} {p : Addr} {xs : List V} {k : Int} {Q : VK} (h : H p = some (.lst xs)) (hk : 0 ≤ k ∧ k ≤ 1000) (hl : xs.length ≤ 1000) (q : ∀ l H', H l = none → Ex H H' → H' l = some (.lst (List.replicate k.toNat xs).flatten) → Q (.ref l) H') : rMulU K (.ref p) (.int k) H Q :=
  .inl (.inr ⟨p, k, xs, rfl, rfl, h, by omega, by omega, small (by
    have h2 : xs.length * k.toNat ≤ 1000 * 1000 := Nat.mul_le_mul hl (by omega)
    omega), x_new q⟩)
/-- the constant one -/
structure One (K : PySem.W.Frag) (mg : Str → Option Value) (z : Addr) : Prop where
  g : mg "ONE" = some (.ref z)
  at1 : ∀ H, SqT K H z [.int 1, .int 1]
theorem One.fr {z : Addr} (Z : One K mg z) {H : Hp} : FrAt K H (.ref z) 1 := FrAt.of (Z.at1 H)
theorem pairD {H : Hp} {v : V} {d e : PyData} (h : Dp K H v (.tuple [d, e])) : ∃ t x y, v = .ref t ∧ SqT K H t [x, y] ∧ Dp K H x d ∧ Dp K H y e := by
  obtain ⟨t, xs, rfl, h1, h2⟩ := Dp.tup_inv h
  cases h2 with
  | cons p hs =>
    cases hs with
    | cons p2 hs =>
      cases hs
      exact ⟨t, _, _, rfl, h1, p, p2⟩
/-- the defs of the fractions -/
structure DF (K : PySem.W.Frag) (mg : Str → Option Value) (zr on : Addr) : Prop where
  low : ∃ f fd, Df K mg "lowest_terms" s_lowest_terms ["numerator", "denominator"] f fd
  gcd : mg "gcd" = some (.builtin "math.gcd")
  zero : Zero K mg zr
  one : One K mg on
abbrev s_list_averages : Stmt := top 30
theorem sc_list_averages : FnScope ["network", "visitors", "averages", "station", "seats", "boats", "place"] ["network"] (defScope s_list_averages) := ⟨rfl, rfl, rfl, by decide +kernel, rfl, by decide +kernel, by decide +kernel⟩
def spAvgs (K : PySem.W.Frag) : Sp := fun vs H Q _ => ∃ (v : V) (N : Net), vs = [v] ∧ NetAt K H v N ∧ ValidN N ∧ ∀ H' l ts, Ex H H' → H l = none → H' l = some (.lst ts) → DpAll K H' ts (avL N N.length) → Q (.ref l) H'
/-- the lists of list_averages -/
structure AvS (K : PySem.W.Frag) (H0 H : Hp) (N : Net) (a b : Addr) (L : Seats) (n : Nat) : Prop where
  ex : Ex H0 H
  va : LsAt K H a (visD N L)
  ab : LsAt K H b (avL N n)
theorem AvS.ex2 {H0 H H' : Hp} {N : Net} {a b : Addr} {L : Seats} {n : Nat} (A : AvS K H0 H N a b L n) (e : Ex H H') : AvS K H0 H' N a b L n := by
  obtain ⟨xs, h1, h2⟩ := A.va.ex
  obtain ⟨ys, h3, h4⟩ := A.ab.ex
  exact ⟨A.ex.trans e, ⟨⟨xs, e _ _ h1, DpAll.ex e h2⟩⟩, ⟨⟨ys, e _ _ h3, DpAll.ex e h4⟩⟩⟩
theorem ok_list_averages {f f1 f2 zr on : Addr} {fd fd1 fd2 : FuncData} (D : Df K mg "list_averages" s_list_averages ["network"] f fd) (T : Bt mg) (D_add : Df K mg "add" s_add ["one", "other"] f1 fd1) (D_divide : Df K mg "divide" s_divide ["fraction", "integer"] f2 fd2) (DD : DF K mg zr on) :
    FnOk P w K mg base CX0 3 f fd ["network"] (spAvgs K) := by
  obtain ⟨f3, fd3, D_lowest_terms⟩ := DD.low
  have G_add : FnOk P w K mg base CX0 2 f1 fd1 _ _ := ok_add D_add D_lowest_terms DD.gcd
  have G_divide : FnOk P w K mg base CX0 2 f2 fd2 _ _ := ok_divide D_divide D_lowest_terms DD.gcd
  have G_ZERO := DD.zero.g
  have G_ONE := DD.one.g
  refine D.F.ok sc_list_averages (fun vs H Q E h => ?_) (fun cdv A outer s H vs Q E hr h => ?_)
  · obtain ⟨v, N, rfl, _⟩ := h
    rfl
  · obtain ⟨v, N, rfl, hN, hV, q⟩ := h
    refine ⟨_, (pss_cons (ps_set (i := 1) sc_list_averages.nd rfl (Or.inl rfl) (pe_op (op_addU (K := K)) (pe_lst (pa_cons (pe_glob (v := .ref on) rfl G_ONE rfl) pa_nil)) (pe_op (op_mulU (K := K)) (pe_lst (pa_cons (pe_glob (v := .ref zr) rfl G_ZERO rfl) pa_nil)) (pe_op op_sub (pe_callB (call_lenU (K := K)) (by rfl) T.b_len (by decide +kernel) (pa_cons (pv 0) pa_nil)) pe_int))))
      (pss_cons (ps_set (i := 2) sc_list_averages.nd rfl (Or.inl rfl) (pe_lst pa_nil))
      (pss_cons (ps_for PassesOwn.never rfl (pi_enumT (by rfl) T.b_enumerate (pa_cons (pv 0) pa_nil)) (pg_tup rfl (pgs_cons (pg_name (i := 3) sc_list_averages.nd rfl (Or.inl rfl)) (pgs_cons (pg_name (i := 4) sc_list_averages.nd rfl (Or.inl rfl)) pgs_nil))) (pss_cons (ps_set (i := 5) sc_list_averages.nd rfl (Or.inl rfl) (pe_call (G_divide) (hr.mono (by decide)) rfl D_divide.g D_divide.F.kp D_divide.b .nil pass0 (pa_cons (pe_ix (ix_U (K := K)) (pv 1) (pv 3) (fun _ _ => rfl)) (pa_cons (pe_callB (call_lenU (K := K)) (by rfl) T.b_len (by decide +kernel) (pa_cons (pv 4) pa_nil)) pa_nil))))
      (pss_cons (ps_expr (pe_bm PySem.F.plainAttrs_list PySem.F.slot_list_append PySem.F.type_list_append mt_append (pv 2) (pa_cons (pe_tup (pa_cons (pe_ix (ix_U (K := K)) (pv 1) (pv 3) (fun _ _ => rfl)) (pa_cons (pv 5) pa_nil))) pa_nil)))
      (pss_one (ps_for PassesOwn.never rfl (pi_U (K := K) (pv 4)) (pg_name (i := 6) sc_list_averages.nd rfl (Or.inl rfl)) (pss_one (ps_if (pt_not (pt_val (pe_callB (call_isiU (K := K)) (by rfl) T.b_isinstance (by decide +kernel) (pa_cons (pv 6) (pa_cons (pe_bltn (v := .ty "str") (by rfl) T.b_str (by decide +kernel) rfl) pa_nil))))) (pss_one (ps_asg (pe_call (G_add) (hr.mono (by decide)) rfl D_add.g D_add.F.kp D_add.b .nil pass0 (pa_cons (pe_ix (ix_U (K := K)) (pv 1) (pv 6) (fun _ _ => rfl)) (pa_cons (pv 5) pa_nil))) (pg_sub (pv 1) (pv 6) set_list))) pss_nil)))))))
      (pss_one (ps_ret (pv 2)))))), ?_⟩
    obtain ⟨na, ns, rfl, hNs, hns⟩ := hN.at
    have hnl : ns.length = N.length := by rw [hns.len, List.length_map]
    have h40 := hV.le
    have h1n := hV.pos
    walk_at "run"
    refine x_lst (by simp) fun l1 H1 n1 e1 hl1 => x_lst (by simp) fun l2 H2 n2 e2 hl2 => x_lenT (ex_t (e1.trans e2) hNs) ?_
    rw [hnl]
    walk_at "run"
    refine x_repQ hl2 ⟨by omega, by omega⟩ (by simp) fun l3 H3 n3 e3 hl3 => x_cat (e3 _ _ (e2 _ _ hl1)) hl3 (by simp; omega) fun Va H4 n4 e4 hVa => x_lst (by simp) fun Av H5 n5 e5 hAv => ?_
    have e05 : Ex H H5 := fun x o h => e5 _ _ (e4 _ _ (e3 _ _ (e2 _ _ (e1 _ _ h))))
    have nVa : H Va = none := fresh_back (fun x o h => e3 _ _ (e2 _ _ (e1 _ _ h))) n4
    have nAv : H Av = none := fresh_back (fun x o h => e4 _ _ (e3 _ _ (e2 _ _ (e1 _ _ h)))) n5
    have hne : Va ≠ Av := ne_of_none hVa n5
    have A0 : AvS K H H5 N Va Av (upTo N 0 0) 0 := by
      refine ⟨e05, ⟨⟨_, e5 _ _ hVa, ?_⟩⟩, ⟨⟨[], hAv, .nil⟩⟩⟩
      rw [upTo_zero]
      show DpAll K H5 _ (visD N [])
      rw [visD_nil h1n]
      refine .cons DD.one.fr ?_
      have e0 : ((N.length : Int) - 1).toNat = N.length - 1 := by omega
      rw [e0]
      generalize N.length - 1 = n
      induction n with
      | zero => exact .nil
      | succ n ih =>
        rw [List.replicate_succ, List.replicate_succ, List.flatten_cons]
        exact .cons DD.zero.fr ih
    refine ⟨_, _, rfl, ex_t e05 hNs, loop_it walk_enumT (fun i σ H' => ∃ u3 u4 u5 u6, σ = [some (.ref na), some (.ref Va), some (.ref Av), u3, u4, u5, u6] ∧ AvS K H H' N Va Av (upTo N i 0) i) ⟨_, _, _, _, rfl, A0⟩
      (fun i σ H' _ ⟨_, _, _, _, _, A⟩ => ex_t A.ex hNs) ?_ ?_⟩
    · rintro i x σ H6 H7 hi ⟨u3, u4, u5, u6, rfl, A6⟩ ⟨T0, x, y, rfl, hT0, rfl, hx, hy⟩
      obtain rfl : V.int (i : Nat) = x := Option.some.inj hx
      have e7 : Ex H6 (upd H6 T0 (.tup [.int (i : Nat), y])) := Ex.new hT0
      refine x_two (SqT.of upd_same) ?_
      generalize upd H6 T0 (.tup [.int (i : Nat), y]) = H7 at e7
      have A7 := A6.ex2 e7
      obtain ⟨sD, hs, hy2⟩ := hns.get' hy
      obtain ⟨s, hsN, rfl⟩ : ∃ s, N[i]? = some s ∧ stD s = sD := by simpa using hs
      obtain ⟨b, rfl, hb⟩ := StAt.at hy2
      have hiN : i < N.length := (List.getElem?_eq_some_iff.mp hsN).1
      have hg : N.getD i [] = s := by rw [List.getD_eq_getElem?_getD, hsN]; rfl
      have hs1 := hV.fwr.pos i hiN
      have hs8 := hV.len8 i
      rw [hg] at hs1 hs8
      have hb7 := ex_t A7.ex hb
      obtain ⟨vs, hva, hvs⟩ := A7.va.ex
      obtain ⟨z, hz, hzd⟩ := hvs.get (visD_get (L := upTo N i 0) hiN)
      have hvi : visF (av N) (upTo N i 0) i = vi N i := by rw [upTo_zero]; rfl
      rw [hvi] at hzd
      walk_at "run"
      refine x_ixL (SqL.of hva) (atI_nat hz) (x_lenT hb7 ?_)
      rw [List.length_map]
      have wv := vi_wd hV hiN
      refine ⟨z, vi N i, s.length, rfl, hzd, by omega, wv.2, Nat.lt_of_le_of_lt hs8 (by decide), fun H8 r e8 h8 => ?_⟩
      have hr8 : FrAt K H8 r (av N i) := by rw [av_eq, hg]; exact h8
      have A8 := A7.ex2 e8
      obtain ⟨ys, hab, hys⟩ := A8.ab.ex
      have hyl : ys.length = i := by rw [hys.len, avL_len]
      walk_at "run"
      refine ⟨x_tyL (SqL.of hab), x_ixL (SqL.of (e8 _ _ hva)) (atI_nat hz) (x_tup (by simp) fun t H9 n9 e9 h9 => ?_)⟩
      have hab9 := e9 _ _ hab
      refine x_append hab9 (by omega) fun H10 e10 h10 => ?_
      have A9 := A8.ex2 e9
      have nA9 : H Av = none := nAv
      have ex10 : Ex H H10 := fun o u h => e10 _ _ (ne_of_none h nAv) (A9.ex _ _ h)
      have tx10 : TX H9 H10 := TX.but hab9 e10
      have hTt : t ≠ Av := fun z => by rw [z] at n9; rw [n9] at hab; cases hab
      have A10 : AvS K H H10 N Va Av (upTo N i 0) (i + 1) := by
        obtain ⟨vs9, hva9, hvs9⟩ := A9.va.ex
        refine ⟨ex10, ⟨⟨vs9, e10 _ _ hne hva9, DpAll.tx tx10 hvs9 visD_t⟩⟩, ⟨⟨_, h10, ?_⟩⟩⟩
        rw [avL_succ]
        refine DpAll.append (DpAll.tx ((TX.of e9).trans tx10) hys avL_t) (.cons (.tup (SqT.of (e10 _ _ hTt h9)) (.cons ?_ (.cons ?_ .nil))) .nil)
        · exact Dp.tx ((TX.of (e8.trans e9)).trans tx10) hzd (frD_t _)
        · exact Dp.tx ((TX.of e9).trans tx10) hr8 (frD_t _)
      have hr10 : FrAt K H10 r (av N i) := Dp.tx ((TX.of e9).trans tx10) hr8 (frD_t _)
      have wa := av_wd hV hiN
      refine x_itT (ex_t ex10 hb) (loop_it walk_tup (fun k σ H' => ∃ u6, σ = [some (.ref na), some (.ref Va), some (.ref Av), some (.int (i : Nat)), some (.ref b), some r, u6] ∧ AvS K H H' N Va Av (upTo N i k) (i + 1) ∧ FrAt K H' r (av N i)) ⟨_, rfl, A10, hr10⟩ (fun k σ H' _ ⟨_, _, A, _⟩ => ex_t A.ex hb) ?_ ?_)
      · rintro k x σ H11 H11' hk ⟨u6, rfl, A11, hr11⟩ ⟨eH, hx⟩
        subst eH
        obtain ⟨p, hp, rfl⟩ : ∃ p, s[k]? = some p ∧ kV p = x := by simpa using hx
        have hup : upTo N i (k + 1) = upTo N i k ++ [(i, p)] := upTo_succ (by rw [hg]; exact hp)
        cases p with
        | inr y =>
          walk_at "run"
          rw [if_neg (by simp)]
          refine ⟨_, rfl, ?_, hr11⟩
          rw [hup]
          exact ⟨A11.ex, by rw [visD_str]; exact A11.va, A11.ab⟩
        | inl j =>
          have hj := hV.fwr.fw i hiN j (by rw [hg]; exact List.mem_of_getElem? hp)
          obtain ⟨m, rfl⟩ : ∃ m : Nat, j = (m : Int) := ⟨j.toNat, by omega⟩
          have hm : m < N.length := by omega
          obtain ⟨ws, hwa, hws⟩ := A11.va.ex
          have hwl : ws.length = N.length := by rw [hws.len, visD_len]
          obtain ⟨c, hc, hcd⟩ := hws.get (visD_get (L := upTo N i k) hm)
          walk_at "run"
          rw [if_pos (by simp)]
          refine x_ixL (SqL.of hwa) (atI_nat hc) ⟨c, r, _, av N i, rfl, hcd, hr11, vis_wd hV hiN hm, wa, fun H12 r2 e12 h12 => ?_⟩
          walk_at "run"
          refine x_setL (e12 _ _ hwa) (ixN_in (n := ws.length) (by omega) (by omega)) fun H13 e13 h13 => ?_
          have A12 := A11.ex2 e12
          have tx13 : TX H12 H13 := TX.but (e12 _ _ hwa) e13
          obtain ⟨zs, hzb, hzs⟩ := A12.ab.ex
          refine ⟨_, rfl, ⟨fun o u h => e13 _ _ (ne_of_none h nVa) (A12.ex _ _ h), ⟨⟨_, h13, ?_⟩⟩, ⟨⟨zs, e13 _ _ hne.symm hzb, DpAll.tx tx13 hzs avL_t⟩⟩⟩, Dp.tx ((TX.of e12).trans tx13) hr11 (frD_t _)⟩
          rw [hup, visD_set hm, Int.toNat_natCast]
          exact DpAll.set (DpAll.tx ((TX.of e12).trans tx13) hws visD_t) (Dp.tx tx13 h12 (frD_t _))
      · rintro σ H11 ⟨u6, rfl, A11, _⟩
        refine ⟨_, _, _, _, rfl, ?_⟩
        rw [upTo_len (by rw [hg, List.length_map]; exact Nat.le_refl _)] at A11
        rw [upTo_zero]
        exact A11
    · rintro σ H6 ⟨u3, u4, u5, u6, rfl, A⟩
      obtain ⟨ys, hab, hys⟩ := A.ab.ex
      rw [hnl] at hys
      walk_at "run"
      exact q H6 Av ys A.ex nAv hab hys
end
end K
set_option Elab.async false
set_option linter.all false
set_option maxRecDepth 100000
set_option maxHeartbeats 1000000
set_option exponentiation.threshold 20000
namespace K
open PySem PySem.Spec PyProof.Rows L2 Evl FB
local macro_rules | `(tactic| walk_at "run") => `(tactic| try simp only [tSeq, tAsg, tVar, tC, gName, L2.start, List.map_cons, List.map_nil, List.cons_append, List.nil_append, List.length_cons, List.length_nil, List.replicate, List.getElem?_cons_zero, List.getElem?_cons_succ, Option.some.injEq, exists_eq_left', List.set_cons_zero, List.set_cons_succ, V.ref.injEq, tRet, x_tLst, x_tTup, tCons, tCB, tNil, tOp, x_addI, x_mulI, x_rI, x_rI0, x_ltI, x_leI, x_ltS, x_leS, x_eqI, x_neI, x_eqS, x_eqB, x_neB, x_isiI, x_isiS, x_int, x_max, x_min, cxOf, tIfS, tNext, tTest, V.bl.injEq, decide_eq_true_eq, gSub, tAnd, tOr, tNot, tB, tDrop, tBM, x_tFor, iRng1, iList, iTup, x_tLc, tYes, tCall, tIf, tAndV, tOrV, tNotV, tChain, List.append_nil, tUn, if_true, wipe, true_and, x_never, iU, x_itS, kV, Nat.reduceAdd, Nat.reduceSub, List.replicate_zero, x_rU, x_tMkO, iEnumT, x_tDc, x_tDGet, x_tDGet2, x_sDPut, x_tDSetd, x_tDNewK, x_iItems, x_iZip, x_tSAddK, x_tLockV, x_tTupRg, x_tRg2, tPar, tPar3, tBM0, tSl, tNoPart, tPart, x_tSetAdd, x_tDIn, x_iKeys, x_iZipX, tWhile])
section
variable {P : Program} {w : World} {K : PySem.W.Frag} {mg : Str → Option Value} {base : Heap}
/-- the defs that check a network, and those of the averages -/
structure DR (K : PySem.W.Frag) (mg : Str → Option Value) (zr on : Addr) : Prop where
  is_word : ∃ f fd, Df K mg "is_word" s_is_word ["text"] f fd
  is_place : ∃ f fd, Df K mg "is_place" s_is_place ["place", "station", "stations"] f fd
  check_network : ∃ f fd, Df K mg "check_network" s_check_network ["network"] f fd
  add : ∃ f fd, Df K mg "add" s_add ["one", "other"] f fd
  divide : ∃ f fd, Df K mg "divide" s_divide ["fraction", "integer"] f fd
  total : ∃ f fd, Df K mg "total" s_total ["fractions"] f fd
  list_averages : ∃ f fd, Df K mg "list_averages" s_list_averages ["network"] f fd
  df : DF K mg zr on
abbrev s_period : Stmt := top 27
theorem sc_period : FnScope ["network", "arrivals", "_", "boats"] ["network"] (defScope s_period) := ⟨rfl, rfl, rfl, by decide +kernel, rfl, by decide +kernel, by decide +kernel⟩
def spPeriod (K : PySem.W.Frag) : Sp := fun vs H Q _ => ∃ (v : V) (N : Net), vs = [v] ∧ NetAt K H v N ∧ ValidN N ∧ ∀ H', Ex H H' → Q (.int ((perN N N.length : Nat) : Int)) H'
theorem ok_period {f zr on : Addr} {fd : FuncData} (D : Df K mg "period" s_period ["network"] f fd) (T : Bt mg) (Ck : Ct K mg) (DD : DR K mg zr on) (hlcm : mg "lcm" = some (.builtin "math.lcm")) : FnOk P w K mg base CX0 5 f fd ["network"] (spPeriod K) := by
  obtain ⟨f1, fd1, D_is_word⟩ := DD.is_word
  obtain ⟨f2, fd2, D_is_place⟩ := DD.is_place
  obtain ⟨f3, fd3, D_check_network⟩ := DD.check_network
  obtain ⟨f4, fd4, D_add⟩ := DD.add
  obtain ⟨f5, fd5, D_divide⟩ := DD.divide
  obtain ⟨f6, fd6, D_list_averages⟩ := DD.list_averages
  have G_check_network : FnOk P w K mg base CX0 4 f3 fd3 _ _ := ok_check_network0 D_check_network T Ck D_is_word D_is_place
  have G_list_averages : FnOk P w K mg base CX0 3 f6 fd6 _ _ := ok_list_averages D_list_averages T D_add D_divide DD.df
  refine D.F.ok sc_period (fun vs H Q E h => ?_) (fun cdv A outer s H vs Q E hr h => ?_)
  · obtain ⟨v, N, rfl, _⟩ := h
    rfl
  · obtain ⟨v, N, rfl, hN, hV, q⟩ := h
    refine ⟨_, (pss_cons (ps_expr (pe_call (G_check_network) (hr.mono (by decide)) rfl D_check_network.g D_check_network.F.kp D_check_network.b .nil pass0 (pa_cons (pv 0) pa_nil)))
      (pss_cons (ps_set (i := 1) sc_period.nd rfl (Or.inl rfl) pe_int)
      (pss_cons (ps_for PassesOwn.never rfl (pi_U (K := K) (pe_call (G_list_averages) (hr.mono (by decide)) rfl D_list_averages.g D_list_averages.F.kp D_list_averages.b .nil pass0 (pa_cons (pv 0) pa_nil))) (pg_tup rfl (pgs_cons (pg_name (i := 2) sc_period.nd rfl (Or.inl rfl)) (pgs_cons (pg_name (i := 3) sc_period.nd rfl (Or.inl rfl)) pgs_nil))) (pss_one (ps_set (i := 1) sc_period.nd rfl (Or.inl rfl) (pe_callBfun call_lcmU (by rfl) hlcm (pa_cons (pv 1) (pa_cons (pe_ix (ix_U (K := K)) (pv 3) pe_int (fun _ _ => rfl)) pa_nil))))))
      (pss_one (ps_ret (pv 1)))))), ?_⟩
    walk_at "run"
    refine ⟨v, N, rfl, hN, hV, fun H1 e1 => ⟨v, N, rfl, Dp.ex e1 hN, hV, fun H2 l ts e2 nl hl hts => ?_⟩⟩
    have htl : ts.length = N.length := by rw [hts.len, avL_len]
    have h40 := hV.le
    refine x_itL (SqL.of hl) (loop_it walk_list (fun i σ H' => ∃ u2 u3, σ = [some v, some (.int ((perN N i : Nat) : Int)), u2, u3] ∧ Ex H2 H') ⟨_, _, rfl, Ex.refl H2⟩ (fun i σ H' _ ⟨_, _, _, e⟩ => SqL.of (e _ _ hl)) ?_ ?_)
    · rintro i x σ H3 H3' hi ⟨u2, u3, rfl, e3⟩ ⟨eH, hx⟩
      subst eH
      have hiN : i < N.length := by omega
      obtain ⟨d, hd, hxd⟩ := hts.get' hx
      rw [avL_get hiN] at hd
      cases hd
      obtain ⟨t, a, b, rfl, hT, ha, hb⟩ := pairD (Dp.ex e3 hxd)
      obtain ⟨c, rfl, hc⟩ := FrAt.at hb
      refine x_two hT ?_
      walk_at "run"
      refine x_ixT hc (v := .int ((av N i).den : Int)) rfl ⟨perN N i, (av N i).den, rfl, ?_, ?_, ⟨_, _, rfl, e3⟩⟩
      · exact Nat.lt_of_le_of_lt (Nat.le_of_dvd (prodN_pos hV.fwr (by omega)) (perN_dvd hV.fwr (show i ≤ N.length by omega))) (Nat.lt_of_le_of_lt (Nat.le_trans (prodN_le hV.len8 i) (p8 (by omega))) (by decide))
      · exact Nat.lt_of_le_of_lt (Nat.le_of_dvd (prodN_pos hV.fwr (Nat.le_refl _)) (av_den hV.fwr hiN (Nat.le_refl _))) (Nat.lt_of_le_of_lt (Nat.le_trans (prodN_le hV.len8 _) (p8 (by omega))) (by decide))
    · rintro σ H3 ⟨u2, u3, rfl, e3⟩
      rw [htl]
      walk_at "run"
      exact q H3 (e1.trans (e2.trans e3))
abbrev s_average_boats : Stmt := top 29
theorem sc_average_boats : FnScope ["network", "visitors", "_"] ["network"] (defScope s_average_boats) := ⟨rfl, rfl, rfl, by decide +kernel, rfl, by decide +kernel, by decide +kernel⟩
def visL (N : Net) (n : Nat) : List Rat := (List.range n).map (vi N)
theorem visL_succ {N : Net} {n : Nat} : visL N (n + 1) = visL N n ++ [vi N n] := by
  unfold visL
  rw [List.range_succ, List.map_append]; rfl
theorem visL_len {N : Net} {n : Nat} : (visL N n).length = n := by unfold visL; simp
theorem visL_take {N : Net} {n i : Nat} (h : i ≤ n) : (visL N n).take i = visL N i := by
  unfold visL
  rw [← List.map_take, List.take_range, Nat.min_eq_left h]
theorem sumL_visL {N : Net} : ∀ n, sumL (visL N n) = sumR (vi N) n
  | 0 => rfl
  | n + 1 => by
    rw [visL_succ, sumL_snoc, sumL_visL n]; rfl
theorem sumR_nn' {f : Nat → Rat} {n : Nat} (h : ∀ i, i < n → 0 ≤ f i) : 0 ≤ sumR f n := by
  induction n with
  | zero => exact Rat.le_refl
  | succ n ih =>
    have h1 := ih fun i hi => h i (by omega)
    have h2 := h n (by omega)
    show 0 ≤ sumR f n + f n
    grind
theorem sumR_isZ {f : Nat → Rat} {c : Rat} {n : Nat} (h : ∀ i, i < n → IsZ (f i * c)) : IsZ (sumR f n * c) := by
  induction n with
  | zero => have : sumR f 0 * c = 0 := by show (0 : Rat) * c = 0; grind
            rw [this]; exact .zero
  | succ n ih =>
    have e : sumR f (n + 1) * c = sumR f n * c + f n * c := by show (sumR f n + f n) * c = _; grind
    rw [e]
    exact .add (ih fun i hi => h i (by omega)) (h n (by omega))
theorem vi_den {N : Net} (h : ValidN N) {i : Nat} (hi : i < N.length) : (vi N i).den ∣ prodN N N.length := by
  have := visF_den h.fwr (j := i) (L := seatsOf N N.length) (Nat.le_refl _) fun s hs => (mem_seatsOf.mp (show (s.1, s.2) ∈ seatsOf N N.length from hs)).1
  rwa [vi_from h.fwr (Nat.le_of_lt hi) (Nat.le_refl _)] at this
theorem sumvi_den {N : Net} (h : ValidN N) {n : Nat} (hn : n ≤ N.length) : (sumR (vi N) n).den ∣ prodN N N.length :=
  den_dvd (sumR_isZ fun i hi => isZ_den (vi_den h (by omega)))
theorem sumvi_wd {N : Net} (h : ValidN N) {n : Nat} (hn : n ≤ N.length) : Wd (sumR (vi N) n) := by
  have h40 := h.le
  refine h.wd (a := n) (sumR_nn' fun i _ => vi_nn i) ?_ (Nat.le_trans (show n ≤ 40 by omega) (by decide)) (Nat.le_refl _) (sumvi_den h hn)
  have := sumR_le (f := vi N) (c := 1) (k := n) fun i hi => vi_le_one h.fwr (by omega)
  grind
/-- how many boats a passenger takes -/
def spAvB (K : PySem.W.Frag) : Sp := fun vs H Q _ => ∃ (v : V) (N : Net), vs = [v] ∧ NetAt K H v N ∧ ValidN N ∧ ∀ H' r, Ex H H' → FrAt K H' r (sumR (vi N) N.length) → Q r H'
theorem ok_average_boats {f zr on : Addr} {fd : FuncData} (D : Df K mg "average_boats" s_average_boats ["network"] f fd) (T : Bt mg) (Ck : Ct K mg) (DD : DR K mg zr on) : FnOk P w K mg base CX0 5 f fd ["network"] (spAvB K) := by
  obtain ⟨f1, fd1, D_is_word⟩ := DD.is_word
  obtain ⟨f2, fd2, D_is_place⟩ := DD.is_place
  obtain ⟨f3, fd3, D_check_network⟩ := DD.check_network
  obtain ⟨f4, fd4, D_add⟩ := DD.add
  obtain ⟨f5, fd5, D_divide⟩ := DD.divide
  obtain ⟨f6, fd6, D_list_averages⟩ := DD.list_averages
  obtain ⟨f7, fd7, D_total⟩ := DD.total
  obtain ⟨f8, fd8, D_lowest_terms⟩ := DD.df.low
  have G_check_network : FnOk P w K mg base CX0 4 f3 fd3 _ _ := ok_check_network0 D_check_network T Ck D_is_word D_is_place
  have G_list_averages : FnOk P w K mg base CX0 3 f6 fd6 _ _ := ok_list_averages D_list_averages T D_add D_divide DD.df
  have G_total : FnOk P w K mg base CX0 3 f7 fd7 _ _ := ok_total D_total D_add D_lowest_terms DD.df.gcd DD.df.zero
  refine D.F.ok sc_average_boats (fun vs H Q E h => ?_) (fun cdv A outer s H vs Q E hr h => ?_)
  · obtain ⟨v, N, rfl, _⟩ := h
    rfl
  · obtain ⟨v, N, rfl, hN, hV, q⟩ := h
    refine ⟨_, (pss_cons (ps_expr (pe_call (G_check_network) (hr.mono (by decide)) rfl D_check_network.g D_check_network.F.kp D_check_network.b .nil pass0 (pa_cons (pv 0) pa_nil)))
      (pss_one (ps_ret (pe_call (G_total) (hr.mono (by decide)) rfl D_total.g D_total.F.kp D_total.b .nil pass0 (pa_cons (pe_lc (own := [("visitors", 1), ("_", 2)]) (g := (gTup K 2 (gCons (gName 1) (gCons (gName 2) gNil)))) (tt := tYes) rfl sc_average_boats.nd (pi_U (K := K) (pe_call (G_list_averages) (hr.mono (by decide)) rfl D_list_averages.g D_list_averages.F.kp D_list_averages.b .nil pass0 (pa_cons (pv 0) pa_nil))) (blkOk_by (own := [("visitors", 1), ("_", 2)]) (N := ["network", "visitors", "_"]) (sc := defScope s_average_boats) (by decide +kernel)) (fun _ _ _ _ _ => (pg_tup rfl (pgs_cons (pg_name (i := 1) sc_average_boats.nd rfl (Or.inl rfl)) (pgs_cons (pg_name (i := 2) sc_average_boats.nd rfl (Or.inl rfl)) pgs_nil)))) (fun _ _ _ _ _ => pts_nil) (fun _ _ _ _ _ => (pv 1))) pa_nil))))), ?_⟩
    walk_at "run"
    refine ⟨v, N, rfl, hN, hV, fun H1 e1 => ⟨v, N, rfl, Dp.ex e1 hN, hV, fun H2 l ts e2 nl hl hts => ?_⟩⟩
    have htl : ts.length = N.length := by rw [hts.len, avL_len]
    have h40 := hV.le
    refine x_itL (SqL.of hl) (lcl_it walk_list (fun D i H' => Ex H2 H' ∧ LsAt K H' D ((visL N i).map frD)) (fun D H' hD e h => ⟨e, ⟨⟨[], h, .nil⟩⟩⟩) (fun D i H' _ h => SqL.of (h.1 _ _ hl)) ?_ ?_)
    · rintro D i x H3 H3' hD hi ⟨e3, hL⟩ ⟨eH, hx⟩
      subst eH
      have hiN : i < N.length := by omega
      obtain ⟨d, hd, hxd⟩ := hts.get' hx
      rw [avL_get hiN] at hd
      cases hd
      obtain ⟨t, a, b, rfl, hT, ha, hb⟩ := pairD (Dp.ex e3 hxd)
      refine x_two hT ?_
      walk_at "run"
      obtain ⟨ls, hls, hlsd⟩ := hL.ex
      have hll : ls.length = i := by rw [hlsd.len, List.length_map, visL_len]
      refine x_push hls (by omega) fun H4 e4 h4 => ⟨fun o u h => e4 _ _ (ne_of_none h hD) (e3 _ _ h), ⟨⟨_, h4, ?_⟩⟩⟩
      have t4 : TX H3' H4 := TX.but hls e4
      rw [visL_succ, List.map_append]
      refine DpAll.append (DpAll.tx t4 hlsd fun d hd => ?_) (.cons (Dp.tx t4 ha (frD_t _)) .nil)
      obtain ⟨y, _, rfl⟩ := List.mem_map.mp hd
      exact frD_t y
    · rintro D H3 hD ⟨e3, hL⟩
      rw [htl] at hL
      obtain ⟨ls, hls, hlsd⟩ := hL.ex
      refine ⟨D, ls, visL N N.length, rfl, SqL.of hls, hlsd, fun y hy => ?_, fun i hi => ?_, fun H4 r e4 h4 => q H4 r (e1.trans (e2.trans (e3.trans e4))) ?_⟩
      · unfold visL at hy
        obtain ⟨j, hj, rfl⟩ := List.mem_map.mp hy
        exact vi_wd hV (List.mem_range.mp hj)
      · rw [visL_len] at hi
        rw [visL_take hi, sumL_visL]
        exact sumvi_wd hV hi
      · rw [sumL_visL] at h4
        exact h4
end
end K
set_option Elab.async false
set_option linter.all false
set_option maxRecDepth 100000
set_option maxHeartbeats 1000000
set_option exponentiation.threshold 20000
namespace K
open PySem PySem.Spec PyProof.Rows L2 Evl FB
local macro_rules | `(tactic| walk_at "run") => `(tactic| try simp only [tSeq, tAsg, tVar, tC, gName, L2.start, List.map_cons, List.map_nil, List.cons_append, List.nil_append, List.length_cons, List.length_nil, List.replicate, List.getElem?_cons_zero, List.getElem?_cons_succ, Option.some.injEq, exists_eq_left', List.set_cons_zero, List.set_cons_succ, V.ref.injEq, tRet, x_tLst, x_tTup, tCons, tCB, tNil, tOp, x_addI, x_mulI, x_rI, x_rI0, x_ltI, x_leI, x_ltS, x_leS, x_eqI, x_neI, x_eqS, x_eqB, x_neB, x_isiI, x_isiS, x_int, x_max, x_min, cxOf, tIfS, tNext, tTest, V.bl.injEq, decide_eq_true_eq, gSub, tAnd, tOr, tNot, tB, tDrop, tBM, x_tFor, iRng1, iList, iTup, x_tLc, tYes, tCall, tIf, tAndV, tOrV, tNotV, tChain, List.append_nil, tUn, if_true, wipe, true_and, x_never, iU, x_itS, kV, Nat.reduceAdd, Nat.reduceSub, List.replicate_zero, x_rU, x_tMkO, iEnumT, x_tDc, x_tDGet, x_tDGet2, x_sDPut, x_tDSetd, x_tDNewK, x_iItems, x_iZip, x_tSAddK, x_tLockV, x_tTupRg, x_tRg2, tPar, tPar3, tBM0, tSl, tNoPart, tPart, x_tSetAdd, x_tDIn, x_iKeys, x_iZipX, tWhile])
theorem rising_len : ∀ {ns : List Int} {lo hi : Int}, ns.Pairwise (· < ·) → (∀ i ∈ ns, lo ≤ i ∧ i < hi) → lo ≤ hi → (ns.length : Int) ≤ hi - lo
  | [], lo, hi, _, _, h => by simp; omega
  | x :: r, lo, hi, p, h, hh => by
    obtain ⟨p1, p2⟩ := List.pairwise_cons.mp p
    have hx := h x (List.mem_cons_self ..)
    have ih := rising_len (lo := x + 1) (hi := hi) p2 (fun i hi' => by
      have := p1 i hi'
      have := h i (List.mem_cons_of_mem _ hi')
      omega) (by omega)
    rw [List.length_cons]
    omega
theorem vis_zero {N : Net} {i : Nat} (h : av N i = 0) {j : Nat} : visF (av N) (seatsOf N (i + 1)) j = visF (av N) (seatsOf N i) j := by
  have : ∀ s : List Key, toR (av N) (.inl (j : Int)) (stSeats i s) = 0 := fun s => by
    induction s with
    | nil => rfl
    | cons p r ih =>
      show (if p = .inl (j : Int) then av N i else 0) + toR (av N) _ (stSeats i r) = 0
      rw [ih, h]
      split <;> grind
  unfold visF
  show _ + toR _ _ (seatsOf N i ++ stSeats i _) = _
  rw [toR_append, this]
  grind
/-- who is reached by the seats L -/
def RchS (N : Net) (L : Seats) (S : Key → Bool) : Prop := ∀ k, S k = true ↔ ∃ j : Nat, k = .inl (j : Int) ∧ j < N.length ∧ 0 < visF (av N) L j
theorem RchS.start {N : Net} (h : 1 ≤ N.length) : RchS N [] (fun j => decide (j = (.inl 0 : Key))) := fun k => by
  rw [decide_eq_true_eq]
  constructor
  · rintro rfl
    refine ⟨0, rfl, h, ?_⟩
    show 0 < (1 : Rat) + 0
    grind
  · rintro ⟨j, rfl, _, hj⟩
    by_cases e : j = 0
    · rw [e]; rfl
    · unfold visF at hj
      rw [if_neg e] at hj
      have : (0 : Rat) < 0 + 0 := hj
      grind
theorem RchS.add {N : Net} {L : Seats} {S : Key → Bool} {i m : Nat} (R : RchS N L S) (hm : m < N.length) (h : 0 < av N i) : RchS N (L ++ [(i, .inl (m : Int))]) (fun j => S j || decide (j = (.inl (m : Int) : Key))) := fun k => by
  rw [Bool.or_eq_true, R k, decide_eq_true_eq]
  constructor
  · rintro (⟨j, rfl, hj, hp⟩ | rfl)
    · refine ⟨j, rfl, hj, ?_⟩
      rw [visF_snoc]
      split <;> grind
    · refine ⟨m, rfl, hm, ?_⟩
      rw [visF_snoc, if_pos rfl]
      have := vis_nn (N := N) (L := L) (j := m)
      grind
  · rintro ⟨j, rfl, hj, hp⟩
    rw [visF_snoc] at hp
    by_cases e : (Sum.inl (m : Int) : Key) = .inl (j : Int)
    · exact .inr e.symm
    · rw [if_neg e] at hp
      exact .inl ⟨j, rfl, hj, by grind⟩
theorem RchS.str {N : Net} {L : Seats} {S : Key → Bool} {i : Nat} {z : Str} (R : RchS N L S) : RchS N (L ++ [(i, .inr z)]) S := fun k => by
  rw [R k]
  have : ∀ j : Nat, visF (av N) (L ++ [(i, .inr z)]) j = visF (av N) L j := fun j => by
    rw [visF_snoc, if_neg (by intro e; cases e)]; grind
  simp only [this]
section
variable {P : Program} {w : World} {K : PySem.W.Frag} {mg : Str → Option Value} {base : Heap}
abbrev s_reachable_stations : Stmt := top 17
theorem sc_reachable_stations : FnScope ["network", "reached", "station", "seats", "place"] ["network"] (defScope s_reachable_stations) := ⟨rfl, rfl, rfl, by decide +kernel, rfl, by decide +kernel, by decide +kernel⟩
/-- the stations that are reached, rising -/
def Rch (N : Net) (ns : List Int) : Prop := ns.Pairwise (· < ·) ∧ ∀ i : Int, i ∈ ns ↔ ∃ j : Nat, i = (j : Int) ∧ j < N.length ∧ 0 < av N j
def spReach (K : PySem.W.Frag) : Sp := fun vs H Q _ => ∃ (v : V) (N : Net), vs = [v] ∧ NetAt K H v N ∧ ValidN N ∧ ∀ H' l ns, Ex H H' → H l = none → H' l = some (.lst (ns.map V.int)) → Rch N ns → Q (.ref l) H'
theorem ok_reachable_stations {f f1 f2 f3 c : Addr} {fd fd1 fd2 fd3 : FuncData} (D : Df K mg "reachable_stations" s_reachable_stations ["network"] f fd) (hc : fd.code = .ref c) (hcd : PySem.W.kdsCode K (.ref c) = true) (T : Bt mg) (Ck : Ct K mg)
    (D_check_network : Df K mg "check_network" s_check_network ["network"] f1 fd1) (D_is_word : Df K mg "is_word" s_is_word ["text"] f2 fd2) (D_is_place : Df K mg "is_place" s_is_place ["place", "station", "stations"] f3 fd3) : FnOk P w K mg base CX0 5 f fd ["network"] (spReach K) := by
  have G_check_network : FnOk P w K mg base CX0 4 f1 fd1 _ _ := ok_check_network0 D_check_network T Ck D_is_word D_is_place
  refine okC D.F hc sc_reachable_stations (fun vs H Q E h => ?_) (fun A outer s H vs Q E hr h => ?_)
  · obtain ⟨v, N, rfl, _⟩ := h
    rfl
  · obtain ⟨v, N, rfl, hN, hV, q⟩ := h
    refine ⟨_, (pss_cons (ps_expr (pe_call (G_check_network) (hr.mono (by decide)) rfl D_check_network.g D_check_network.F.kp D_check_network.b .nil pass0 (pa_cons (pv 0) pa_nil)))
      (pss_cons (ps_set (i := 1) sc_reachable_stations.nd rfl (Or.inl rfl) (pe_set1 (P := P) (w := w) pe_int hcd))
      (pss_cons (ps_for PassesOwn.never rfl (pi_enumT (by rfl) T.b_enumerate (pa_cons (pv 0) pa_nil)) (pg_tup rfl (pgs_cons (pg_name (i := 2) sc_reachable_stations.nd rfl (Or.inl rfl)) (pgs_cons (pg_name (i := 3) sc_reachable_stations.nd rfl (Or.inl rfl)) pgs_nil))) (pss_one (ps_if (pt_cmpR (op_inM (P := P) (w := w)) (pv 2) (pv 1) (by rfl)) (pss_one (ps_for PassesOwn.never rfl (pi_U (K := K) (pv 3)) (pg_name (i := 4) sc_reachable_stations.nd rfl (Or.inl rfl)) (pss_one (ps_if (pt_not (pt_val (pe_callB (call_isiU (K := K)) (by rfl) T.b_isinstance (by decide +kernel) (pa_cons (pv 4) (pa_cons (pe_bltn (v := .ty "str") (by rfl) T.b_str (by decide +kernel) rfl) pa_nil))))) (pss_one (ps_expr (pe_setAdd (P := P) (w := w) (pv 1) (pa_cons (pv 4) pa_nil)))) pss_nil)))) pss_nil)))
      (pss_one (ps_ret (pe_callB (call_sortM (P := P) (w := w) rfl) (by rfl) T.b_sorted (by decide +kernel) (pa_cons (pv 1) pa_nil))))))), ?_⟩
    obtain ⟨na, ns, rfl, hNs, hns⟩ := hN.at
    have hnl : ns.length = N.length := by rw [hns.len, List.length_map]
    have h40 := hV.le
    have h1n := hV.pos
    have F := hV.fwr
    walk_at "run"
    refine ⟨.ref na, N, rfl, hN, hV, fun H1 e1 => x_tSet1I fun R H2 nR e2 hR => ?_⟩
    walk_at "run"
    have e02 := e1.trans e2
    have nR0 : H R = none := fresh_back e1 nR
    refine ⟨_, _, rfl, ex_t e02 hNs, loop_it walk_enumT (fun i σ H' => ∃ u2 u3 u4 S n, σ = [some (.ref na), some (.ref R), u2, u3, u4] ∧ Ex H H' ∧ H' R = some (SetM P w R S n) ∧ RchS N (seatsOf N i) S ∧ n ≤ 1 + 8 * i) ⟨_, _, _, _, 1, rfl, e02, hR, RchS.start h1n, by omega⟩
      (fun i σ H' _ ⟨_, _, _, _, _, _, e, _⟩ => ex_t e hNs) ?_ ?_⟩
    · rintro i x σ H3 H4 hi ⟨u2, u3, u4, S, n, rfl, e3, hR3, RS, hn⟩ ⟨T0, x, y, rfl, hT0, rfl, hx, hy⟩
      obtain rfl : V.int (i : Nat) = x := Option.some.inj hx
      have e4 : Ex H3 (upd H3 T0 (.tup [.int (i : Nat), y])) := Ex.new hT0
      refine x_two (SqT.of upd_same) ?_
      generalize upd H3 T0 (.tup [.int (i : Nat), y]) = H4 at e4
      have hR4 := e4 _ _ hR3
      have e04 := e3.trans e4
      obtain ⟨sD, hs, hy2⟩ := hns.get' hy
      obtain ⟨s, hsN, rfl⟩ : ∃ s, N[i]? = some s ∧ stD s = sD := by simpa using hs
      obtain ⟨b, rfl, hb⟩ := StAt.at hy2
      have hiN : i < N.length := (List.getElem?_eq_some_iff.mp hsN).1
      have hg : N.getD i [] = s := by rw [List.getD_eq_getElem?_getD, hsN]; rfl
      have hs8 := hV.len8 i
      rw [hg] at hs8
      walk_at "run"
      refine x_setIn (k := .inl (i : Int)) hR4 ?_
      rw [if_neg Bool.false_ne_true]
      have hSi : S (.inl (i : Int)) = true ↔ 0 < av N i := by
        rw [RS (.inl (i : Int)), av_pos F hiN]
        constructor
        · rintro ⟨j, e, _, hp⟩
          have : i = j := by have := Sum.inl.inj e; omega
          subst this
          exact hp
        · intro hp
          exact ⟨i, rfl, hiN, hp⟩
      walk_at "run"
      cases hS : S (.inl (i : Int)) with
      | false =>
        rw [if_neg Bool.false_ne_true]
        have h0 : av N i = 0 := by
          have h1 := av_nn (N := N) i
          have h2 : ¬ 0 < av N i := fun z => by rw [hSi.mpr z] at hS; cases hS
          grind
        refine ⟨_, _, _, S, n, rfl, e04, hR4, fun k => ?_, by omega⟩
        rw [RS k]
        simp only [vis_zero h0]
      | true =>
        rw [if_pos rfl]
        have hp := hSi.mp hS
        refine x_itT (ex_t e04 hb) (loop_it walk_tup (fun k σ H' => ∃ u4 S n, σ = [some (.ref na), some (.ref R), some (.int (i : Nat)), some (.ref b), u4] ∧ Ex H H' ∧ H' R = some (SetM P w R S n) ∧ RchS N (upTo N i k) S ∧ n ≤ 1 + 8 * i + k) ⟨_, S, n, rfl, e04, hR4, by rw [upTo_zero]; exact RS, by omega⟩ (fun k σ H' _ ⟨_, _, _, _, e, _⟩ => ex_t e hb) ?_ ?_)
        · rintro k x σ H5 H5' hk ⟨u4, S, n, rfl, e5, hR5, RS5, hn5⟩ ⟨eH, hx⟩
          subst eH
          obtain ⟨p, hpk, rfl⟩ : ∃ p, s[k]? = some p ∧ kV p = x := by simpa using hx
          have hks : k < s.length := (List.getElem?_eq_some_iff.mp hpk).1
          have hup : upTo N i (k + 1) = upTo N i k ++ [(i, p)] := upTo_succ (by rw [hg]; exact hpk)
          cases p with
          | inr y =>
            walk_at "run"
            rw [if_neg (by simp)]
            exact ⟨_, S, n, rfl, e5, hR5, by rw [hup]; exact RS5.str, by omega⟩
          | inl j =>
            have hj := F.fw i hiN j (by rw [hg]; exact List.mem_of_getElem? hpk)
            obtain ⟨m, rfl⟩ : ∃ m : Nat, j = (m : Int) := ⟨j.toNat, by omega⟩
            walk_at "run"
            rw [if_pos (by simp)]
            refine ⟨x_setIs hR5, x_setAdd (k := .inl (m : Int)) hR5 (by omega) fun H6 e6 _ h6 => ?_⟩
            refine ⟨_, _, _, rfl, fun o u h => e6 _ _ (ne_of_none h nR0) (e5 _ _ h), h6, by rw [hup]; exact RS5.add (by omega) hp, ?_⟩
            split <;> omega
        · rintro σ H5 ⟨u4, S, n, rfl, e5, hR5, RS5, hn5⟩
          rw [upTo_len (by rw [hg, List.length_map]; exact Nat.le_refl _)] at RS5
          rw [List.length_map] at hn5
          exact ⟨_, _, _, S, n, rfl, e5, hR5, RS5, by omega⟩
    · rintro σ H3 ⟨u2, u3, u4, S, n, rfl, e3, hR3, RS, hn⟩
      rw [hnl] at RS hn
      walk_at "run"
      refine x_sortMI hR3 (by omega) (fun k hk => ?_) fun ms p H4 hp hm hl np e4 h4 => q H4 p ms (e3.trans e4) (fresh_back e3 np) h4 ⟨hp, fun i => ?_⟩
      · obtain ⟨j, rfl, _⟩ := (RS k).mp hk
        exact ⟨_, rfl⟩
      · rw [hm, RS]
        constructor
        · rintro ⟨j, e, hj, hpj⟩
          rw [vi_from F (Nat.le_of_lt hj) (Nat.le_refl _)] at hpj
          exact ⟨j, Sum.inl.inj e, hj, (av_pos F hj).mpr hpj⟩
        · rintro ⟨j, rfl, hj, hpj⟩
          refine ⟨j, rfl, hj, ?_⟩
          rw [vi_from F (Nat.le_of_lt hj) (Nat.le_refl _)]
          exact (av_pos F hj).mp hpj
abbrev s_ports : Stmt := top 18
theorem sc_ports : FnScope ["network", "names", "station", "place"] ["network"] (defScope s_ports) := ⟨rfl, rfl, rfl, by decide +kernel, rfl, by decide +kernel, by decide +kernel⟩
/-- the ports that are reached -/
def PortsOf (N : Net) (zs : List Str) : Prop := sortedS zs = true ∧ zs.Nodup ∧ zs.length ≤ 400 ∧ ∀ z : Str, z ∈ zs ↔ 0 < toR (av N) (.inr z) (seatsOf N N.length)
def spPorts (K : PySem.W.Frag) : Sp := fun vs H Q _ => ∃ (v : V) (N : Net), vs = [v] ∧ NetAt K H v N ∧ ValidN N ∧ ∀ H' l zs, Ex H H' → H l = none → H' l = some (.lst (zs.map V.str)) → PortsOf N zs → Q (.ref l) H'
def PrtS (N : Net) (A : Key → Prop) (S : Key → Bool) : Prop := ∀ k, S k = true ↔ (∃ z : Str, k = .inr z) ∧ A k
theorem ok_ports {f f1 : Addr} {fd fd1 : FuncData} (D : Df K mg "ports" s_ports ["network"] f fd) (T : Bt mg) (D_reachable_stations : Df K mg "reachable_stations" s_reachable_stations ["network"] f1 fd1)
    (G_reachable_stations : FnOk P w K mg base CX0 5 f1 fd1 ["network"] (spReach K)) : FnOk P w K mg base CX0 6 f fd ["network"] (spPorts K) := by
  refine D.F.ok sc_ports (fun vs H Q E h => ?_) (fun cdv A outer s H vs Q E hr h => ?_)
  · obtain ⟨v, N, rfl, _⟩ := h
    rfl
  · obtain ⟨v, N, rfl, hN, hV, q⟩ := h
    refine ⟨_, (pss_cons (ps_set (i := 1) sc_ports.nd rfl (Or.inl rfl) (pe_callTy0 (call_setM (P := P) (w := w)) (by rfl) T.b_set (by decide +kernel)))
      (pss_cons (ps_for PassesOwn.never rfl (pi_U (K := K) (pe_call (G_reachable_stations) (hr.mono (by decide)) rfl D_reachable_stations.g D_reachable_stations.F.kp D_reachable_stations.b .nil pass0 (pa_cons (pv 0) pa_nil))) (pg_name (i := 2) sc_ports.nd rfl (Or.inl rfl)) (pss_one (ps_for PassesOwn.never rfl (pi_U (K := K) (pe_ix (ix_U (K := K)) (pv 0) (pv 2) (fun _ _ => rfl))) (pg_name (i := 3) sc_ports.nd rfl (Or.inl rfl)) (pss_one (ps_if (pt_val (pe_callB (call_isiU (K := K)) (by rfl) T.b_isinstance (by decide +kernel) (pa_cons (pv 3) (pa_cons (pe_bltn (v := .ty "str") (by rfl) T.b_str (by decide +kernel) rfl) pa_nil)))) (pss_one (ps_expr (pe_setAdd (P := P) (w := w) (pv 1) (pa_cons (pv 3) pa_nil)))) pss_nil)))))
      (pss_one (ps_ret (pe_callB (call_sortM (P := P) (w := w) rfl) (by rfl) T.b_sorted (by decide +kernel) (pa_cons (pv 1) pa_nil)))))), ?_⟩
    obtain ⟨na, ns, rfl, hNs, hns⟩ := hN.at
    have hnl : ns.length = N.length := by rw [hns.len, List.length_map]
    have h40 := hV.le
    have F := hV.fwr
    walk_at "run"
    refine x_setNew fun R H1 nR e1 hR => ?_
    walk_at "run"
    refine ⟨.ref na, N, rfl, Dp.ex e1 hN, hV, fun H2 l ms e2 nl hl hRc => ?_⟩
    have e02 := e1.trans e2
    have nlR : l ≠ R := fun z => by rw [z, hR] at nl; cases nl
    have hml : ms.length ≤ 40 := by
      have := rising_len (lo := 0) (hi := (N.length : Int)) hRc.1 (fun i hi => by
        obtain ⟨j, rfl, hj, _⟩ := (hRc.2 i).mp hi
        omega) (by omega)
      omega
    refine x_itL (SqL.of hl) (loop_it walk_list (fun t σ H' => ∃ u2 u3 S n, σ = [some (.ref na), some (.ref R), u2, u3] ∧ Ex H H' ∧ H' l = some (.lst (ms.map V.int)) ∧ H' R = some (SetM P w R S n) ∧ PrtS N (fun k => ∃ m ∈ ms.take t, k ∈ N.getD m.toNat []) S ∧ n ≤ 8 * t) ⟨_, _, _, 0, rfl, e02, hl, e2 _ _ hR, fun k => by simp, by omega⟩
      (fun t σ H' _ ⟨_, _, _, _, _, _, h, _⟩ => SqL.of h) ?_ ?_)
    · rintro t x σ H3 H3' ht ⟨u2, u3, S, n, rfl, e3, hl3, hR3, PS3, hn⟩ ⟨eH, hx⟩
      subst eH
      rw [List.length_map] at ht
      obtain ⟨mi, hmi, rfl⟩ : ∃ m, ms[t]? = some m ∧ V.int m = x := by simpa using hx
      obtain ⟨i, rfl, hiN, hpi⟩ := (hRc.2 mi).mp (List.mem_of_getElem? hmi)
      obtain ⟨sD, hsD, hy2⟩ := hns.get (show (N.map stD)[i]? = some (stD (N.getD i [])) by simp [List.getD_eq_getElem?_getD, hiN])
      obtain ⟨b, rfl, hb⟩ := StAt.at hy2
      have hs8 := hV.len8 i
      walk_at "run"
      refine x_ixT (ex_t e3 hNs) (atI_nat hsD) (x_itT (ex_t e3 hb) (loop_it walk_tup (fun k σ H' => ∃ u3 S n, σ = [some (.ref na), some (.ref R), some (.int (i : Int)), u3] ∧ Ex H H' ∧ H' l = some (.lst (ms.map V.int)) ∧ H' R = some (SetM P w R S n) ∧ PrtS N (fun k' => (∃ m ∈ ms.take t, k' ∈ N.getD m.toNat []) ∨ k' ∈ (N.getD i []).take k) S ∧ n ≤ 8 * t + k) ⟨_, S, n, rfl, e3, hl3, hR3, fun k => by rw [PS3 k]; simp, by omega⟩ (fun k σ H' _ ⟨_, _, _, _, e, _⟩ => ex_t e hb) ?_ ?_))
      · rintro k x σ H5 H5' hk ⟨u3, S, n, rfl, e5, hl5, hR5, PS5, hn5⟩ ⟨eH, hx⟩
        subst eH
        obtain ⟨p, hpk, rfl⟩ : ∃ p, (N.getD i [])[k]? = some p ∧ kV p = x := by simpa using hx
        have hks : k < (N.getD i []).length := (List.getElem?_eq_some_iff.mp hpk).1
        have htk : (N.getD i []).take (k + 1) = (N.getD i []).take k ++ [p] := by rw [List.take_add_one, hpk]; rfl
        cases p with
        | inl j =>
          walk_at "run"
          rw [if_neg Bool.false_ne_true]
          refine ⟨_, S, n, rfl, e5, hl5, hR5, fun k' => ?_, by omega⟩
          rw [PS5 k', htk]
          constructor
          · rintro ⟨⟨z, rfl⟩, h⟩
            exact ⟨⟨z, rfl⟩, h.imp id fun h => List.mem_append_left _ h⟩
          · rintro ⟨⟨z, rfl⟩, h⟩
            refine ⟨⟨z, rfl⟩, h.imp id fun h => ?_⟩
            rcases List.mem_append.mp h with h | h
            · exact h
            · simp at h
        | inr y =>
          walk_at "run"
          refine ⟨x_setIs hR5, x_setAdd (k := .inr y) hR5 (by omega) fun H6 e6 _ h6 => ?_⟩
          refine ⟨_, _, _, rfl, fun o u h => e6 _ _ (ne_of_none h nR) (e5 _ _ h), e6 _ _ nlR hl5, h6, fun k' => ?_, by split <;> omega⟩
          rw [Bool.or_eq_true, PS5 k', decide_eq_true_eq, htk]
          constructor
          · rintro (⟨⟨z, rfl⟩, h⟩ | rfl)
            · exact ⟨⟨z, rfl⟩, h.imp id fun h => List.mem_append_left _ h⟩
            · exact ⟨⟨y, rfl⟩, .inr (List.mem_append_right _ (List.mem_singleton.mpr rfl))⟩
          · rintro ⟨⟨z, rfl⟩, h⟩
            rcases h with h | h
            · exact .inl ⟨⟨z, rfl⟩, .inl h⟩
            · rcases List.mem_append.mp h with h | h
              · exact .inl ⟨⟨z, rfl⟩, .inr h⟩
              · exact .inr (List.mem_singleton.mp h)
      · rintro σ H5 ⟨u3, S, n, rfl, e5, hl5, hR5, PS5, hn5⟩
        rw [List.length_map] at hn5
        refine ⟨_, _, S, n, rfl, e5, hl5, hR5, fun k' => ?_, by omega⟩
        rw [PS5 k', List.length_map, List.take_length, List.take_add_one, hmi]
        constructor
        · rintro ⟨hz, h⟩
          refine ⟨hz, ?_⟩
          rcases h with ⟨m, hm, h⟩ | h
          · exact ⟨m, List.mem_append_left _ hm, h⟩
          · exact ⟨(i : Int), List.mem_append_right _ (by simp), by rw [Int.toNat_natCast]; exact h⟩
        · rintro ⟨hz, m, hm, h⟩
          refine ⟨hz, ?_⟩
          rcases List.mem_append.mp hm with hm | hm
          · exact .inl ⟨m, hm, h⟩
          · have : m = (i : Int) := by simpa using hm
            rw [this, Int.toNat_natCast] at h
            exact .inr h
    · rintro σ H3 ⟨u2, u3, S, n, rfl, e3, hl3, hR3, PS3, hn⟩
      rw [List.length_map] at PS3 hn
      rw [List.take_length] at PS3
      walk_at "run"
      refine x_sortMS hR3 (by omega) (fun k hk => ((PS3 k).mp hk).1) fun zs p H4 h1 h2 h3 h4 np e4 h5 => q H4 p zs (e3.trans e4) (fresh_back e3 np) h5 ⟨h1, h2, by omega, fun z => ?_⟩
      rw [h3, PS3, toR_pos av_nn]
      constructor
      · rintro ⟨_, m, hm, h⟩
        obtain ⟨j, rfl, hj, hp⟩ := (hRc.2 m).mp hm
        rw [Int.toNat_natCast] at h
        exact ⟨j, mem_seatsOf.mpr ⟨hj, h⟩, hp⟩
      · rintro ⟨j, hj, hp⟩
        obtain ⟨h6, h7⟩ := mem_seatsOf.mp hj
        exact ⟨⟨z, rfl⟩, (j : Int), (hRc.2 _).mpr ⟨j, rfl, h6, hp⟩, by rw [Int.toNat_natCast]; exact h7⟩
end
end K
set_option Elab.async false
set_option linter.all false
set_option maxRecDepth 100000
set_option maxHeartbeats 1000000
set_option exponentiation.threshold 20000
namespace K
open PySem PySem.Spec PyProof.Rows L2 Evl FB
local macro_rules | `(tactic| walk_at "run") => `(tactic| try simp only [tSeq, tAsg, tVar, tC, gName, L2.start, List.map_cons, List.map_nil, List.cons_append, List.nil_append, List.length_cons, List.length_nil, List.replicate, List.getElem?_cons_zero, List.getElem?_cons_succ, Option.some.injEq, exists_eq_left', List.set_cons_zero, List.set_cons_succ, V.ref.injEq, tRet, x_tLst, x_tTup, tCons, tCB, tNil, tOp, x_addI, x_mulI, x_rI, x_rI0, x_ltI, x_leI, x_ltS, x_leS, x_eqI, x_neI, x_eqS, x_eqB, x_neB, x_isiI, x_isiS, x_int, x_max, x_min, cxOf, tIfS, tNext, tTest, V.bl.injEq, decide_eq_true_eq, gSub, tAnd, tOr, tNot, tB, tDrop, tBM, x_tFor, iRng1, iList, iTup, x_tLc, tYes, tCall, tIf, tAndV, tOrV, tNotV, tChain, List.append_nil, tUn, if_true, wipe, true_and, x_never, iU, x_itS, kV, Nat.reduceAdd, Nat.reduceSub, List.replicate_zero, x_rU, x_tMkO, iEnumT, x_tDc, x_tDGet, x_tDGet2, x_sDPut, x_tDSetd, x_tDNewK, x_iItems, x_iZip, x_tSAddK, x_tLockV, x_tTupRg, x_tRg2, tPar, tPar3, tBM0, tSl, tNoPart, tPart, x_tSetAdd, x_tDIn, x_iKeys, x_iZipX, tWhile])
theorem x_two2 {K : PySem.W.Frag} {H : Hp} {σ : L2.St} {i j m : Nat} {T T2 : Addr} {x y z : V} {Q : L2.St → Hp → Prop} (h : SqT K H T [x, .ref T2]) (h2 : SqT K H T2 [y, z]) (k : Q (((σ.set i (some x)).set j (some y)).set m (some z)) H) :
    gTup K 2 (gCons (gName i) (gCons (gTup K 2 (gCons (gName j) (gCons (gName m) gNil))) gNil)) (.ref T) σ H Q :=
  ⟨T, _, rfl, h, rfl, x, [_], rfl, _, [], rfl, ⟨T2, _, rfl, h2, rfl, y, [z], rfl, z, [], rfl, rfl, rfl, k⟩⟩
theorem putK_new {kvs : List (Key × V)} {k : Key} {v : V} (h : k ∉ kvs.map (·.1)) : putK kvs k v = kvs ++ [(k, v)] := by
  unfold putK
  rw [if_neg]
  intro z
  obtain ⟨p, hp, e⟩ := List.any_eq_true.mp z
  exact h (List.mem_map.mpr ⟨p, hp, by simpa using e⟩)
theorem putK_old {kvs : List (Key × V)} {k : Key} {v : V} (h : k ∈ kvs.map (·.1)) : (putK kvs k v).map (·.1) = kvs.map (·.1) := by
  obtain ⟨p, hp, e⟩ := List.mem_map.mp h
  have : (kvs.any fun kv => decide (kv.1 = k)) = true := List.any_eq_true.mpr ⟨p, hp, by simpa using e⟩
  unfold putK
  rw [if_pos this, List.map_map]
  exact List.map_congr_left fun a _ => by
    show (if a.1 = k then (a.1, v) else a).1 = a.1
    split <;> rfl
theorem valV_non {kvs : List (Key × V)} {k : Key} (h : k ∉ kvs.map (·.1)) : valV kvs k = none := by
  cases e : valV kvs k with
  | none => rfl
  | some v => exact absurd (valV_in e) h
/-- the dict kvs tells each port's fraction -/
structure ShF (K : PySem.W.Frag) (H : Hp) (zs : List Str) (f : Str → Rat) (kvs : List (Key × V)) : Prop where
  keys : kvs.map (·.1) = zs.map Sum.inr
  val : ∀ z ∈ zs, ∃ v, valV kvs (.inr z) = some v ∧ FrAt K H v (f z)
theorem ShF.tx {K : PySem.W.Frag} {H H' : Hp} {zs : List Str} {f : Str → Rat} {kvs : List (Key × V)} (S : ShF K H zs f kvs) (t : TX H H') : ShF K H' zs f kvs :=
  ⟨S.keys, fun z hz => let ⟨v, h1, h2⟩ := S.val z hz; ⟨v, h1, Dp.tx t h2 (frD_t _)⟩⟩
theorem ShF.len {K : PySem.W.Frag} {H : Hp} {zs : List Str} {f : Str → Rat} {kvs : List (Key × V)} (S : ShF K H zs f kvs) : kvs.length = zs.length := by
  have := congrArg List.length S.keys
  rwa [List.length_map, List.length_map] at this
theorem ShF.mem {K : PySem.W.Frag} {H : Hp} {zs : List Str} {f : Str → Rat} {kvs : List (Key × V)} (S : ShF K H zs f kvs) {z : Str} : (Sum.inr z : Key) ∈ kvs.map (·.1) ↔ z ∈ zs := by
  rw [S.keys]
  simp
section
variable {P : Program} {w : World} {K : PySem.W.Frag} {mg : Str → Option Value} {base : Heap}
abbrev s_shares : Stmt := top 28
theorem sc_shares : FnScope ["network", "result", "seats", "_", "boats", "place", "port"] ["network"] (defScope s_shares) := ⟨rfl, rfl, rfl, by decide +kernel, rfl, by decide +kernel, by decide +kernel⟩
def spShares (K : PySem.W.Frag) : Sp := fun vs H Q _ => ∃ (v : V) (N : Net), vs = [v] ∧ NetAt K H v N ∧ ValidN N ∧ ∀ H' d zs kvs, Ex H H' → H d = none → H' d = some (.dK kvs) → PortsOf N zs → ShF K H' zs (fun z => toR (av N) (.inr z) (seatsOf N N.length)) kvs → Q (.ref d) H'
theorem shr_wd {N : Net} (h : ValidN N) {i k : Nat} {z : Str} (hi : i < N.length) : Wd (toR (av N) (.inr z) (upTo N i k)) := by
  refine h.wd (a := 1) (toR_nn av_nn) ?_ (by decide) (show i + 1 ≤ N.length from hi) (toR_den h.fwr hi fun s hs => upTo_lt hs)
  rw [one_nat]
  obtain ⟨L, hL⟩ := upTo_split (N := N) (k := k) hi
  have h1 := toR_le_port (f := av N) av_nn (z := z) (upTo N i k)
  have h2 := portR_mono (f := av N) av_nn (a := upTo N i k) (b := L)
  rw [← hL, port_one h.fwr h.pos] at h2
  grind
theorem ok_shares {f f1 zr on : Addr} {fd fd1 : FuncData} (D : Df K mg "shares" s_shares ["network"] f fd) (T : Bt mg) (DD : DR K mg zr on) (D_ports : Df K mg "ports" s_ports ["network"] f1 fd1) (G_ports : FnOk P w K mg base CX0 6 f1 fd1 ["network"] (spPorts K)) :
    FnOk P w K mg base CX0 7 f fd ["network"] (spShares K) := by
  obtain ⟨f4, fd4, D_add⟩ := DD.add
  obtain ⟨f5, fd5, D_divide⟩ := DD.divide
  obtain ⟨f6, fd6, D_list_averages⟩ := DD.list_averages
  obtain ⟨f8, fd8, D_lowest_terms⟩ := DD.df.low
  have G_list_averages : FnOk P w K mg base CX0 3 f6 fd6 _ _ := ok_list_averages D_list_averages T D_add D_divide DD.df
  have G_add : FnOk P w K mg base CX0 2 f4 fd4 _ _ := ok_add D_add D_lowest_terms DD.df.gcd
  have G_ZERO := DD.df.zero.g
  refine D.F.ok sc_shares (fun vs H Q E h => ?_) (fun cdv A outer s H vs Q E hr h => ?_)
  · obtain ⟨v, N, rfl, _⟩ := h
    rfl
  · obtain ⟨v, N, rfl, hN, hV, q⟩ := h
    have hu1 := hu_of hr
    refine ⟨_, (pss_cons (ps_setDc (i := 1) (own := [("port", 6)]) (g := gName 6) (tt := tYes) rfl sc_shares.nd rfl rfl (sw_trueD rfl rfl rfl (by decide +kernel)) (pi_U (K := K) (pe_call (G_ports) (hr.mono (by decide)) rfl D_ports.g D_ports.F.kp D_ports.b .nil pass0 (pa_cons (pv 0) pa_nil))) (blkOk_by (own := [("port", 6)]) (N := ["network", "result", "seats", "_", "boats", "place", "port"]) (sc := defScope s_shares) (by decide +kernel)) (fun _ _ _ _ _ => (pg_name (i := 6) sc_shares.nd rfl (Or.inl rfl))) (fun _ _ _ _ _ => pts_nil) (fun _ _ _ _ _ => (pv 6)) (fun _ _ _ _ _ => (pe_glob (v := .ref zr) rfl G_ZERO rfl)))
      (pss_cons (ps_for PassesOwn.never rfl (pi_zipX (by rfl) T.b_zip (pa_cons (pv 0) (pa_cons (pe_call (G_list_averages) (hr.mono (by decide)) rfl D_list_averages.g D_list_averages.F.kp D_list_averages.b .nil pass0 (pa_cons (pv 0) pa_nil)) pa_nil))) (pg_tup rfl (pgs_cons (pg_name (i := 2) sc_shares.nd rfl (Or.inl rfl)) (pgs_cons (pg_tup rfl (pgs_cons (pg_name (i := 3) sc_shares.nd rfl (Or.inl rfl)) (pgs_cons (pg_name (i := 4) sc_shares.nd rfl (Or.inl rfl)) pgs_nil))) pgs_nil))) (pss_one (ps_for PassesOwn.never rfl (pi_U (K := K) (pv 2)) (pg_name (i := 5) sc_shares.nd rfl (Or.inl rfl)) (pss_one (ps_if (pt_cmp (pc_din hu1 (pv 5) (pv 1))) (pss_one (ps_dput hu1 (pv 1) (pv 5) (pe_call (G_add) (hr.mono (by decide)) rfl D_add.g D_add.F.kp D_add.b .nil pass0 (pa_cons (pe_dget hu1 (pv 1) (pv 5) (fun _ _ => rfl)) (pa_cons (pv 4) pa_nil))) rfl)) pss_nil)))))
      (pss_one (ps_ret (pv 1))))), ?_⟩
    obtain ⟨na, ns, rfl, hNs, hns⟩ := hN.at
    have hnl : ns.length = N.length := by rw [hns.len, List.length_map]
    have h40 := hV.le
    have F := hV.fwr
    walk_at "run"
    refine ⟨.ref na, N, rfl, hN, hV, fun H1 l zs e1 nl hl hP => ?_⟩
    have hzl := hP.2.2.1
    refine x_itL (SqL.of hl) (dcl_it walk_list (fun D i H' => Ex H1 H' ∧ H' D = some (.dK ((zs.take i).map fun z => ((Sum.inr z : Key), V.ref zr)))) (fun D H' hD e h => ⟨e, h⟩) (fun D i H' _ h => SqL.of (h.1 _ _ hl)) ?_ ?_)
    · rintro D i x H2 H2' hD hi ⟨e2, hd⟩ ⟨eH, hx⟩
      subst eH
      rw [List.length_map] at hi
      obtain ⟨z, hz, rfl⟩ : ∃ z, zs[i]? = some z ∧ V.str z = x := by simpa using hx
      walk_at "run"
      refine x_putD (k := .inr z) hd (by rw [List.length_map, List.length_take]; omega) fun H3 e3 h3 => ⟨fun o u h => e3 _ _ (ne_of_none h hD) (e2 _ _ h), ?_⟩
      rw [h3, putK_new, List.take_add_one, hz, List.map_append]
      · rfl
      · rw [List.map_map]
        intro hm
        obtain ⟨y, hy, e⟩ := List.mem_map.mp hm
        have e : y = z := Sum.inr.inj e
        subst e
        have hn := hP.2.1
        obtain ⟨j, hj⟩ := List.mem_iff_getElem?.mp hy
        rw [List.getElem?_take] at hj
        split at hj
        · rename_i hji
          have := (List.getElem?_inj (by omega) hn).mp (hj.trans hz.symm)
          omega
        · cases hj
    · rintro D H2 hD ⟨e2, hd⟩
      rw [List.length_map, List.take_length] at hd
      have e02 := e1.trans e2
      have nD : H D = none := fresh_back e1 hD
      walk_at "run"
      refine ⟨.ref na, N, rfl, Dp.ex e02 hN, hV, fun H3 l2 ts e3 nl2 hl2 hts => ?_⟩
      have htl : ts.length = N.length := by rw [hts.len, avL_len]
      have hd3 := e3 _ _ hd
      have S3 : ShF K H3 zs (fun z => toR (av N) (.inr z) (seatsOf N 0)) (zs.map fun z => ((Sum.inr z : Key), V.ref zr)) := by
        refine ⟨by rw [List.map_map]; rfl, fun z hz => ⟨.ref zr, ?_, DD.df.zero.fr⟩⟩
        refine val_of_mem ?_ (List.mem_map.mpr ⟨z, hz, rfl⟩)
        rw [List.map_map]
        exact List.pairwise_map.mpr (hP.2.1.imp fun h e => h (Sum.inr.inj e))
      have nl2H : H l2 = none := fresh_back e02 nl2
      have hDl : l2 ≠ D := fun z => by rw [z, hd] at nl2; cases nl2
      have tl3 : TX H H3 := TX.of (e02.trans e3)
      refine ⟨na, l2, ns, ts, rfl, tl3.t hNs, SqL.of hl2, loop_it (walk_zipX (by rw [hnl, htl])) (fun i σ H' => ∃ u2 u3 u4 u5 u6 kvs, σ = [some (.ref na), some (.ref D), u2, u3, u4, u5, u6] ∧ Ex H H' ∧ TX H3 H' ∧ H' l2 = some (.lst ts) ∧ H' D = some (.dK kvs) ∧ ShF K H' zs (fun z => toR (av N) (.inr z) (upTo N i 0)) kvs) ⟨_, _, _, _, _, _, rfl, e02.trans e3, TX.refl _, hl2, hd3, by simpa [upTo_zero] using S3⟩
        (fun i σ H' _ ⟨_, _, _, _, _, _, _, e, _, h, _⟩ => ⟨ex_t e hNs, SqL.of h⟩) ?_ ?_⟩
      · rintro i x σ H4 H5 hi ⟨u2, u3, u4, u5, u6, kvs, rfl, e4, t4, hl4, hd4, S4⟩ ⟨T0, x, y, rfl, hT0, rfl, hx, hy⟩
        have e5 : Ex H4 (upd H4 T0 (.tup [x, y])) := Ex.new hT0
        have hT5 : SqT K (upd H4 T0 (.tup [x, y])) T0 [x, y] := SqT.of upd_same
        generalize upd H4 T0 (.tup [x, y]) = H5 at e5 hT5
        have hiN : i < N.length := by omega
        obtain ⟨sD, hs, hy2⟩ := hns.get' hx
        obtain ⟨s, hsN, rfl⟩ : ∃ s, N[i]? = some s ∧ stD s = sD := by simpa using hs
        obtain ⟨b, rfl, hb⟩ := StAt.at hy2
        have hg : N.getD i [] = s := by rw [List.getD_eq_getElem?_getD, hsN]; rfl
        obtain ⟨d, hdd, hxd⟩ := hts.get' hy
        rw [avL_get hiN] at hdd
        cases hdd
        have t5 : TX H3 H5 := t4.trans (TX.of e5)
        obtain ⟨t, va, vb, rfl, hT, ha, hb2⟩ := pairD (Dp.tx t5 hxd (avD_t N i))
        refine x_two2 hT5 hT ?_
        walk_at "run"
        refine x_itT (ex_t (e4.trans e5) hb) (loop_it walk_tup (fun k σ H' => ∃ u5 u6 kvs, σ = [some (.ref na), some (.ref D), some (.ref b), some va, some vb, u5, u6] ∧ Ex H H' ∧ TX H3 H' ∧ H' l2 = some (.lst ts) ∧ FrAt K H' vb (av N i) ∧ H' D = some (.dK kvs) ∧ ShF K H' zs (fun z => toR (av N) (.inr z) (upTo N i k)) kvs) ⟨_, _, kvs, rfl, e4.trans e5, t5, e5 _ _ hl4, hb2, e5 _ _ hd4, S4.tx (TX.of e5)⟩ (fun k σ H' _ ⟨_, _, _, _, e, _⟩ => ex_t e hb) ?_ ?_)
        · rintro k x σ H6 H6' hk ⟨u5, u6, kvs, rfl, e6, t6, hl6, hb6, hd6, S6⟩ ⟨eH, hx⟩
          subst eH
          obtain ⟨p, hpk, rfl⟩ : ∃ p, s[k]? = some p ∧ kV p = x := by simpa using hx
          have hup : upTo N i (k + 1) = upTo N i k ++ [(i, p)] := upTo_succ (by rw [hg]; exact hpk)
          have hkl := S6.len
          cases p with
          | inl j =>
            walk_at "run"
            refine x_dIn (k := .inl j) hd6 ?_
            have hn : valV kvs (.inl j) = none := valV_non (by rw [S6.keys]; simp)
            rw [hn]
            walk_at "run"
            rw [if_neg (by simp)]
            refine ⟨_, _, kvs, rfl, e6, t6, hl6, hb6, hd6, S6.keys, fun z hz => ?_⟩
            obtain ⟨v, h1, h2⟩ := S6.val z hz
            refine ⟨v, h1, ?_⟩
            rw [hup, toR_snoc, if_neg (by intro e; cases e)]
            have : toR (av N) (.inr z) (upTo N i k) + 0 = toR (av N) (.inr z) (upTo N i k) := by grind
            rw [this]; exact h2
          | inr y =>
            walk_at "run"
            refine x_dIn (k := .inr y) hd6 ?_
            by_cases hy : y ∈ zs
            · obtain ⟨v, h1, h2⟩ := S6.val y hy
              rw [h1]
              walk_at "run"
              rw [if_pos (by simp)]
              refine x_dget (k := .inr y) hd6 h1 ⟨v, vb, _, _, rfl, h2, hb6, shr_wd hV hiN, av_wd hV hiN, fun H7 r e7 h7 => ?_⟩
              walk_at "run"
              refine x_dput (k := .inr y) (e7 _ _ hd6) (by omega) fun H8 e8 _ h8 => ?_
              have t8 : TX H6' H8 := fun x o hx cc => e8 x o (fun z => by subst z; have := e7 _ _ hx; rw [e7 _ _ hd6] at this; cases this; exact cc) (e7 _ _ hx)
              have t78 : TX H7 H8 := fun x o hx cc => e8 x o (fun z => by subst z; rw [e7 _ _ hd6] at hx; cases hx; exact cc) hx
              have nDx : ∀ x o, H x = some o → x ≠ D := fun x o h => ne_of_none h nD
              refine ⟨_, _, _, rfl, fun x o h => e8 _ _ (nDx x o h) (e7 _ _ (e6 _ _ h)), t6.trans t8, e8 _ _ hDl (e7 _ _ hl6), Dp.tx t8 hb6 (frD_t _), h8, ?_, fun z hz => ?_⟩
              · rw [putK_old (S6.mem.mpr hy)]; exact S6.keys
              · rw [valV_put]
                by_cases e : z = y
                · subst e
                  rw [if_pos rfl]
                  refine ⟨r, rfl, ?_⟩
                  rw [hup, toR_snoc, if_pos rfl]
                  exact Dp.tx t78 h7 (frD_t _)
                · rw [if_neg (fun z => e (Sum.inr.inj z))]
                  obtain ⟨v, h1, h2⟩ := S6.val z hz
                  refine ⟨v, h1, ?_⟩
                  rw [hup, toR_snoc, if_neg (fun z => e (Sum.inr.inj z).symm)]
                  have : toR (av N) (.inr z) (upTo N i k) + 0 = toR (av N) (.inr z) (upTo N i k) := by grind
                  rw [this]; exact Dp.tx t8 h2 (frD_t _)
            · have hn : valV kvs (.inr y) = none := valV_non fun z => hy (S6.mem.mp z)
              rw [hn]
              walk_at "run"
              rw [if_neg (by simp)]
              refine ⟨_, _, kvs, rfl, e6, t6, hl6, hb6, hd6, S6.keys, fun z hz => ?_⟩
              obtain ⟨v, h1, h2⟩ := S6.val z hz
              refine ⟨v, h1, ?_⟩
              rw [hup, toR_snoc, if_neg (fun e => hy (by have := Sum.inr.inj e; rw [this]; exact hz))]
              have : toR (av N) (.inr z) (upTo N i k) + 0 = toR (av N) (.inr z) (upTo N i k) := by grind
              rw [this]; exact h2
        · rintro σ H6 ⟨u5, u6, kvs, rfl, e6, t6, hl6, hb6, hd6, S6⟩
          rw [upTo_len (by rw [hg, List.length_map]; exact Nat.le_refl _)] at S6
          exact ⟨_, _, _, _, _, kvs, rfl, e6, t6, hl6, hd6, by rw [upTo_zero]; exact S6⟩
      · rintro σ H4 ⟨u2, u3, u4, u5, u6, kvs, rfl, e4, t4, hl4, hd4, S4⟩
        rw [hnl, upTo_zero] at S4
        walk_at "run"
        exact q H4 D zs kvs e4 nD hd4 hP S4
end
end K
set_option Elab.async false
set_option linter.all false
set_option maxRecDepth 100000
set_option maxHeartbeats 1000000
set_option exponentiation.threshold 20000
namespace K
open PySem PySem.Spec PyProof.Rows L2 Evl FB
local macro_rules | `(tactic| walk_at "run") => `(tactic| try simp only [tSeq, tAsg, tVar, tC, gName, L2.start, List.map_cons, List.map_nil, List.cons_append, List.nil_append, List.length_cons, List.length_nil, List.replicate, List.getElem?_cons_zero, List.getElem?_cons_succ, Option.some.injEq, exists_eq_left', List.set_cons_zero, List.set_cons_succ, V.ref.injEq, tRet, x_tLst, x_tTup, tCons, tCB, tNil, tOp, x_addI, x_mulI, x_rI, x_rI0, x_ltI, x_leI, x_ltS, x_leS, x_eqI, x_neI, x_eqS, x_eqB, x_neB, x_isiI, x_isiS, x_int, x_max, x_min, cxOf, tIfS, tNext, tTest, V.bl.injEq, decide_eq_true_eq, gSub, tAnd, tOr, tNot, tB, tDrop, tBM, x_tFor, iRng1, iList, iTup, x_tLc, tYes, tCall, tIf, tAndV, tOrV, tNotV, tChain, List.append_nil, tUn, if_true, wipe, true_and, x_never, iU, x_itS, kV, Nat.reduceAdd, Nat.reduceSub, List.replicate_zero, x_rU, x_tMkO, iEnumT, x_tDc, x_tDGet, x_tDGet2, x_sDPut, x_tDSetd, x_tDNewK, x_iItems, x_iZip, x_tSAddK, x_tLockV, x_tTupRg, x_tRg2, tPar, tPar3, tBM0, tSl, tNoPart, tPart, x_tSetAdd, x_tDIn, x_iKeys, x_iZipX, tWhile])
/-- a pair of ints, as data and as a fraction -/
def pD (p : Int × Nat) : PyData := .tuple [.int p.1, .int (p.2 : Int)]
def pQ (p : Int × Nat) : Rat := mkRat p.1 p.2
theorem pD_fr (q : Rat) : pD (q.num, q.den) = frD q := rfl
theorem pQ_fr (q : Rat) : pQ (q.num, q.den) = q := Rat.mkRat_self q
theorem pD_t (p : Int × Nat) : TupD (pD p) := .tup fun d hd => by
  simp only [List.mem_cons, List.not_mem_nil, or_false] at hd
  rcases hd with rfl | rfl
  · exact .int _
  · exact .int _
theorem step_sum (q : Rat) (p : Int × Nat) (h : p.2 ≠ 0) : mkRat (q.num * (p.2 : Int) + p.1 * (q.den : Int)) (q.den * p.2) = q + pQ p := by
  unfold pQ
  rw [Rat.mkRat_eq_div, Rat.mkRat_eq_div, Rat.intCast_add, Rat.intCast_mul, Rat.intCast_mul, Rat.intCast_natCast, Rat.intCast_natCast, Rat.natCast_mul]
  have h1 := rat_of q
  have h2 := den_ne q
  have h3 : ((p.2 : Nat) : Rat) ≠ 0 := by simpa using h
  generalize ((q.den : Nat) : Rat) = d at *
  generalize ((p.2 : Nat) : Rat) = e at *
  generalize ((q.num : Int) : Rat) = x at *
  generalize ((p.1 : Int) : Rat) = y at *
  rw [h1]
  grind
section
variable {P : Program} {w : World} {K : PySem.W.Frag} {mg : Str → Option Value} {base : Heap}
abbrev s_l_sum : Stmt := top 51
theorem sc_l_sum : FnScope ["_law_fractions", "_law_top", "_law_bottom", "_law_one", "_law_other", "_law_k", "_law_j"] ["_law_fractions"] (defScope s_l_sum) := ⟨rfl, rfl, rfl, by decide +kernel, rfl, by decide +kernel, by decide +kernel⟩
def spSumL (K : PySem.W.Frag) : Sp := fun vs H Q _ => ∃ (a : Addr) (xs : List V) (ps : List (Int × Nat)), vs = [.ref a] ∧ SqL K H a xs ∧ DpAll K H xs (ps.map pD) ∧ (∀ p ∈ ps, p.1.natAbs < 2 ^ 1500 ∧ p.2 ≠ 0 ∧ p.2 < 2 ^ 1500) ∧
  (∀ i, i ≤ ps.length → Wd (sumL ((ps.take i).map pQ))) ∧ ∀ H' r, Ex H H' → FrAt K H' r (sumL (ps.map pQ)) → Q r H'
theorem fmod_nat (k j : Nat) : (k : Int).fmod (j : Int) = ((k % j : Nat) : Int) := by
  rw [Int.fmod_eq_emod_of_nonneg _ (Int.natCast_nonneg _)]; rfl
theorem abs_nat (i : Int) : (if i < 0 then -i else i) = ((i.natAbs : Nat) : Int) := by
  split <;> omega
theorem ok_l_sum {f : Addr} {fd : FuncData} (D : Df K mg "_law_sum" s_l_sum ["_law_fractions"] f fd) (T : Bt mg) : FnOk P w K mg base CX0 1 f fd ["_law_fractions"] (spSumL K) := by
  refine D.F.ok sc_l_sum (fun vs H Q E h => ?_) (fun cdv A outer s H vs Q E hr h => ?_)
  · obtain ⟨a, xs, ps, rfl, _⟩ := h
    rfl
  · obtain ⟨a, xs, ps, rfl, hS, hps, hb, hw, q⟩ := h
    have hu := hr.units
    refine ⟨_, (pss_cons (ps_asg (pe_tup (pa_cons pe_int (pa_cons pe_int pa_nil))) (pg_tup rfl (pgs_cons (pg_name (i := 1) sc_l_sum.nd rfl (Or.inl rfl)) (pgs_cons (pg_name (i := 2) sc_l_sum.nd rfl (Or.inl rfl)) pgs_nil))))
      (pss_cons (ps_for PassesOwn.never rfl (pi_U (K := K) (pv 0)) (pg_tup rfl (pgs_cons (pg_name (i := 3) sc_l_sum.nd rfl (Or.inl rfl)) (pgs_cons (pg_name (i := 4) sc_l_sum.nd rfl (Or.inl rfl)) pgs_nil))) (pss_cons (ps_par (i := 1) (j := 2) (by rfl) sc_l_sum.nd rfl rfl (by decide) rfl rfl (pa_cons (pe_op (op_addU (K := K)) (pe_op op_mulW (pv 1) (pv 4)) (pe_op op_mulW (pv 3) (pv 2))) (pa_cons (pe_op op_mulW (pv 2) (pv 4)) pa_nil)) (by rfl))
      (pss_cons (ps_par (i := 5) (j := 6) (by rfl) sc_l_sum.nd rfl rfl (by decide) rfl rfl (pa_cons (pe_callB call_abs (by rfl) T.b_abs (by decide +kernel) (pa_cons (pv 1) pa_nil)) (pa_cons (pv 2) pa_nil)) (by rfl))
      (pss_cons (ps_while PassesOwn.never (pt_cmpR (op_neU (K := K) hu) (pv 6) pe_int (nomark _)) (pss_one (ps_par (i := 5) (j := 6) (by rfl) sc_l_sum.nd rfl rfl (by decide) rfl rfl (pa_cons (pv 6) (pa_cons (pe_op op_modN (pe_callTy call_intU (by rfl) T.b_int (by decide +kernel) (pa_cons (pv 5) pa_nil)) (pv 6)) pa_nil)) (by rfl))))
      (pss_one (ps_par (i := 1) (j := 2) (by rfl) sc_l_sum.nd rfl rfl (by decide) rfl rfl (pa_cons (pe_op op_fdivW (pv 1) (pv 5)) (pa_cons (pe_op op_fdivW (pv 2) (pv 5)) pa_nil)) (by rfl)))))))
      (pss_one (ps_ret (pe_tup (pa_cons (pv 1) (pa_cons (pv 2) pa_nil))))))), ?_⟩
    have hl : xs.length = ps.length := by rw [hps.len, List.length_map]
    walk_at "run"
    refine x_tup (by simp) fun t0 H0 n0 e0 h0 => x_two (SqT.of h0) ?_
    walk_at "run"
    refine x_itL (ex_l e0 hS) (loop_it walk_list (fun i σ H' => ∃ u3 u4 u5 u6 y, y = sumL ((ps.take i).map pQ) ∧ σ = [some (.ref a), some (.int y.num), some (.int (y.den : Int)), u3, u4, u5, u6] ∧ Ex H H') ⟨_, _, _, _, 0, rfl, rfl, e0⟩ (fun i σ H' _ ⟨_, _, _, _, _, _, _, e⟩ => ex_l e hS) ?_ ?_)
    · rintro i x σ H1 H1' hi ⟨u3, u4, u5, u6, y, hy, rfl, e1⟩ ⟨eH, hx⟩
      subst eH
      obtain ⟨d, hd, hxd⟩ := hps.get' hx
      obtain ⟨p, hp, rfl⟩ : ∃ p, ps[i]? = some p ∧ pD p = d := by simpa using hd
      obtain ⟨b1, b2, b3⟩ := hb p (List.mem_of_getElem? hp)
      have wy := hw i (by omega)
      rw [← hy] at wy
      have hnext : sumL ((ps.take (i + 1)).map pQ) = y + pQ p := by
        rw [List.take_add_one, hp, List.map_append, hy]
        exact sumL_snoc
      obtain ⟨t, c1, c2, rfl, hT, hc1, hc2⟩ := pairD (Dp.ex e1 hxd)
      obtain rfl := hc1.int_inv
      obtain rfl := hc2.int_inv
      refine x_two hT ?_
      walk_at "run"
      have nd : ((y.den : Int)).natAbs < 2 ^ 1500 := by rw [Int.natAbs_natCast]; exact wy.2
      have np : ((p.2 : Int)).natAbs < 2 ^ 1500 := by rw [Int.natAbs_natCast]; exact b3
      refine ⟨wmul wy.1 np, wmul b1 nd, wmul nd np, ?_⟩
      walk_at "run"
      have hz : y.den * p.2 ≠ 0 := Nat.mul_ne_zero y.den_nz b2
      have hm := step_sum y p b2
      rw [show (y.den : Int) * (p.2 : Int) = ((y.den * p.2 : Nat) : Int) by rw [Int.natCast_mul]]
      generalize htp : y.num * (p.2 : Int) + p.1 * (y.den : Int) = tp at hm ⊢
      have hbig : y.den * p.2 < 2 ^ 4000 := by
        have h := Nat.mul_lt_mul'' wy.2 b3
        rw [← Nat.pow_add] at h
        exact Nat.lt_of_lt_of_le h (Nat.pow_le_pow_right (by decide) (by decide))
      generalize y.den * p.2 = bt at hz hm hbig ⊢
      refine ⟨_, _, rfl, ?_⟩
      walk_at "run"
      refine ⟨_, rfl, ?_⟩
      rw [abs_nat]
      refine ⟨_, _, rfl, ?_⟩
      walk_at "run"
      refine ⟨fun m σ H' => ∃ k j : Nat, m = j ∧ Nat.gcd k j = Nat.gcd tp.natAbs bt ∧ σ = [some (.ref a), some (.int tp), some (.int (bt : Int)), some (.int p.1), some (.int (p.2 : Int)), some (.int (k : Int)), some (.int (j : Int))] ∧ H' = H1', ⟨_, tp.natAbs, bt, rfl, rfl, rfl, rfl⟩, ?_⟩
      rintro m σ H2 ⟨k, j, rfl, hg, rfl, rfl⟩
      walk_at "run"
      by_cases hj : m = 0
      · subst hj
        rw [if_neg (by simp)]
        have hk : k = Nat.gcd tp.natAbs bt := by rw [← hg, Nat.gcd_zero_right]
        subst hk
        have c : ∀ i, CDivW i ((Nat.gcd tp.natAbs bt : Nat) : Int) := fun i => wide_div (low_pos hz) (by rw [Int.natAbs_natCast]; exact Nat.lt_of_le_of_lt (low_le hz) hbig) (by decide) (by decide)
        walk_at "run"
        refine ⟨c _, c _, ⟨_, _, rfl, ?_⟩⟩
        walk_at "run"
        rw [low_num hz, low_den hz, hm, ← hnext]
        exact ⟨_, _, _, _, _, rfl, rfl, e1⟩
      · rw [if_pos (by simp [hj])]
        refine ⟨fun σ H' => ∃ k' j' : Nat, j' < m ∧ Nat.gcd k' j' = Nat.gcd tp.natAbs bt ∧ σ = [some (.ref a), some (.int tp), some (.int (bt : Int)), some (.int p.1), some (.int (p.2 : Int)), some (.int (k' : Int)), some (.int (j' : Int))] ∧ H' = H2, ?_, ?_⟩
        · rintro σ' H' ⟨k', j', h1, h2, h3, h4⟩
          exact ⟨j', h1, k', h2, h3, h4⟩
        · refine ⟨by omega, ?_⟩
          rw [fmod_nat]
          refine ⟨_, _, rfl, ?_⟩
          walk_at "run"
          refine ⟨m, k % m, Nat.mod_lt _ (by omega), by rw [← hg, Nat.gcd_comm k m, Nat.gcd_rec m k, Nat.gcd_comm], ?_⟩
          simp
    · rintro σ H1 ⟨u3, u4, u5, u6, y, hy, rfl, e1⟩
      rw [hl, List.take_length] at hy
      walk_at "run"
      refine x_tup (by simp) fun t H2 n2 e2 h2 => q H2 _ (e1.trans e2) ?_
      rw [← hy]
      exact FrAt.of (SqT.of h2)
end
end K
set_option Elab.async false
set_option linter.all false
set_option maxRecDepth 100000
set_option maxHeartbeats 1000000
set_option exponentiation.threshold 20000
namespace K
open PySem PySem.Spec PyProof.Rows L2 Evl FB
local macro_rules | `(tactic| walk_at "run") => `(tactic| try simp only [tSeq, tAsg, tVar, tC, gName, L2.start, List.map_cons, List.map_nil, List.cons_append, List.nil_append, List.length_cons, List.length_nil, List.replicate, List.getElem?_cons_zero, List.getElem?_cons_succ, Option.some.injEq, exists_eq_left', List.set_cons_zero, List.set_cons_succ, V.ref.injEq, tRet, x_tLst, x_tTup, tCons, tCB, tNil, tOp, x_addI, x_mulI, x_rI, x_rI0, x_ltI, x_leI, x_ltS, x_leS, x_eqI, x_neI, x_eqS, x_eqB, x_neB, x_isiI, x_isiS, x_int, x_max, x_min, cxOf, tIfS, tNext, tTest, V.bl.injEq, decide_eq_true_eq, gSub, tAnd, tOr, tNot, tB, tDrop, tBM, x_tFor, iRng1, iList, iTup, x_tLc, tYes, tCall, tIf, tAndV, tOrV, tNotV, tChain, List.append_nil, tUn, if_true, wipe, true_and, x_never, iU, x_itS, kV, Nat.reduceAdd, Nat.reduceSub, List.replicate_zero, x_rU, x_tMkO, iEnumT, x_tDc, x_tDGet, x_tDGet2, x_sDPut, x_tDSetd, x_tDNewK, x_iItems, x_iZip, x_tSAddK, x_tLockV, x_tTupRg, x_tRg2, tPar, tPar3, tBM0, tSl, tNoPart, tPart, x_tSetAdd, x_tDIn, x_iKeys, x_iZipX, tWhile])
theorem vi_zero (N : Net) : vi N 0 = 1 := by
  show (if (0 : Nat) = 0 then (1 : Rat) else 0) + toR (av N) (.inl ((0 : Nat) : Int)) [] = 1
  show (1 : Rat) + 0 = 1
  grind
theorem toR_all {N : Net} (F : FwR N) {k : Nat} (hk : k < N.length) (h0 : k ≠ 0) : toR (av N) (.inl (k : Int)) (seatsOf N N.length) = vi N k := by
  have := vi_from F (Nat.le_of_lt hk) (Nat.le_refl _)
  unfold visF at this
  rw [if_neg h0] at this
  rw [← this]; grind
theorem fdiv_back {l z : Int} {n : Nat} (h0 : 0 ≤ l) (h1 : l < n) : (l + z * (n : Int)).fdiv (n : Int) = z := by
  rw [Int.fdiv_eq_ediv_of_nonneg _ (Int.natCast_nonneg _), Int.add_mul_ediv_right _ _ (by omega), Int.ediv_eq_zero_of_lt h0 h1]
  omega
/-- a number of arrivals that all averages divide: as many boats as on the average -/
theorem bts_av {N : Net} (hV : ValidN N) {p : Int} {qs : Qs} (hO : StOk N p qs) {c : Nat} (hc : ∀ i, i < N.length → (av N i).den ∣ c) : ∀ k, k ≤ N.length → ∀ i, i < k → (((bts N (lens qs) (c : Int) k).getD i 0 : Int) : Rat) = (c : Rat) * av N i
  | 0, _, i, hi => by omega
  | k + 1, hk, i, hi => by
    have ih := bts_av hV hO hc k (by omega)
    have F := hV.fwr
    have hkN : k < N.length := by omega
    by_cases e : i < k
    · rw [← ih i e]
      show (((bts N (lens qs) (c : Int) k ++ [_]).getD i 0 : Int) : Rat) = _
      rw [List.getD_eq_getElem?_getD, List.getElem?_append_left (by rw [bts_len]; exact e), List.getD_eq_getElem?_getD]
    · have e : i = k := by omega
      subst e
      obtain ⟨z, hz⟩ := isZ_den (hc i hkN)
      have hj : ((joins N (c : Int) (bts N (lens qs) (c : Int) i) i : Int) : Rat) = (c : Rat) * vi N i := by
        unfold joins
        by_cases h0 : i = 0
        · rw [if_pos h0, h0, vi_zero, Rat.intCast_natCast]; grind
        · rw [if_neg h0, toR_int (f := av N) (c := (c : Rat)) (a := seatsOf N N.length) (m := fun j => (bts N (lens qs) (c : Int) i).getD j 0) (q := .inl (i : Int)) fun s hs hq => ?_, toR_all F hkN h0]
          obtain ⟨a, b⟩ := mem_seatsOf.mp (show (s.1, s.2) ∈ seatsOf N N.length from hs)
          rw [hq] at b
          have := (F.fw s.1 a _ b).1
          exact ih s.1 (by omega)
      have hji : joins N (c : Int) (bts N (lens qs) (c : Int) i) i = z * ((N.getD i []).length : Nat) := by
        apply Rat.intCast_inj.mp
        rw [hj, Rat.intCast_mul, Rat.intCast_natCast, ← av_mul F hkN, ← hz]
        grind
      obtain ⟨q, hq⟩ : ∃ q, qs[i]? = some q := ⟨qs[i]'(by rw [hO.len]; exact hkN), List.getElem?_eq_getElem (by rw [hO.len]; exact hkN)⟩
      have hs : N[i]? = some (N.getD i []) := by simp [List.getD_eq_getElem?_getD, hkN]
      have hlt := hO.lt i q _ hq hs
      have hl : (lens qs).getD i 0 = (q.length : Int) := by
        unfold lens
        rw [List.getD_eq_getElem?_getD, List.getElem?_map, hq]; rfl
      show (((bts N (lens qs) (c : Int) i ++ [((lens qs).getD i 0 + joins N (c : Int) (bts N (lens qs) (c : Int) i) i).fdiv ((N.getD i []).length : Nat)]).getD i 0 : Int) : Rat) = _
      rw [List.getD_eq_getElem?_getD, List.getElem?_append_right (by rw [bts_len]; exact Nat.le_refl _), bts_len, Nat.sub_self, hl, hji, fdiv_back (by omega) (by omega)]
      show ((z : Int) : Rat) = _
      rw [← hz]; grind
theorem reach_av {N : Net} (hV : ValidN N) {p : Int} {qs : Qs} (hO : StOk N p qs) {c : Nat} (hc : ∀ i, i < N.length → (av N i).den ∣ c) (q : Key) : ((reach N (bts N (lens qs) (c : Int) N.length) q : Int) : Rat) = (c : Rat) * toR (av N) q (seatsOf N N.length) := by
  unfold reach
  exact toR_int fun s hs _ => bts_av hV hO hc N.length (Nat.le_refl _) s.1 (mem_seatsOf.mp (show (s.1, s.2) ∈ seatsOf N N.length from hs)).1
/-- seats taken -/
def ridesN (N : Net) (bs : List Int) : Nat → List Int
  | 0 => []
  | k + 1 => ridesN N bs k ++ [bs.getD k 0 * ((N.getD k []).length : Nat)]
theorem rides_av {N : Net} (hV : ValidN N) {p : Int} {qs : Qs} (hO : StOk N p qs) {c : Nat} (hc : ∀ i, i < N.length → (av N i).den ∣ c) : ∀ k, k ≤ N.length → (((ridesN N (bts N (lens qs) (c : Int) N.length) k).sum : Int) : Rat) = (c : Rat) * sumR (vi N) k
  | 0, _ => by show ((0 : Int) : Rat) = _ * 0; rw [Rat.intCast_zero]; grind
  | k + 1, hk => by
    have ih := rides_av hV hO hc k (by omega)
    show (((ridesN N _ k ++ [_]).sum : Int) : Rat) = _ * (sumR (vi N) k + vi N k)
    rw [List.sum_append, Rat.intCast_add, ih]
    simp only [List.sum_cons, List.sum_nil, Int.add_zero]
    rw [Rat.intCast_mul, Rat.intCast_natCast, bts_av hV hO hc N.length (Nat.le_refl _) k (by omega), ← av_mul hV.fwr (show k < N.length by omega)]
    grind
theorem mkRat_of {x : Int} {c : Nat} {q : Rat} (hc : c ≠ 0) (h : (x : Rat) = (c : Rat) * q) : mkRat x c = q := by
  rw [Rat.mkRat_eq_div, h]
  have : ((c : Nat) : Rat) ≠ 0 := by simpa using hc
  generalize ((c : Nat) : Rat) = d at *
  grind
/-- all that comes to ports, port by port -/
theorem ports_sum {f : Nat → Rat} (hf : ∀ i, 0 ≤ f i) {ks : List Str} (nd : ks.Nodup) : ∀ {L : Seats}, (∀ s ∈ L, ∀ z : Str, s.2 = .inr z → 0 < f s.1 → z ∈ ks) → sumL (ks.map fun z => toR f (.inr z) L) = portR f L
  | [], _ => by
    have : ∀ ks : List Str, sumL (ks.map fun z => toR f (.inr z) []) = 0 := fun ks => by
      induction ks with
      | nil => rfl
      | cons z r ih =>
        show (0 : Rat) + sumL (r.map _) = 0
        rw [ih]; grind
    exact this ks
  | (i, p) :: r, h => by
    have ih := ports_sum hf nd (L := r) fun s hs => h s (List.mem_cons_of_mem _ hs)
    have e : ∀ ks : List Str, sumL (ks.map fun z => toR f (.inr z) ((i, p) :: r)) = sumL (ks.map fun z => if p = .inr z then f i else 0) + sumL (ks.map fun z => toR f (.inr z) r) := fun ks => by
      induction ks with
      | nil => show (0 : Rat) = 0 + 0; grind
      | cons z r2 ih2 =>
        show ((if p = .inr z then f i else 0) + toR f (.inr z) r) + sumL (r2.map _) = ((if p = .inr z then f i else 0) + sumL (r2.map _)) + (toR f (.inr z) r + sumL (r2.map _))
        rw [ih2]; grind
    rw [e, ih]
    show _ = pq p (f i) + portR f r
    congr 1
    cases p with
    | inl j =>
      have : ∀ ks : List Str, sumL (ks.map fun z => if (Sum.inl j : Key) = .inr z then f i else 0) = 0 := fun ks => by
        induction ks with
        | nil => rfl
        | cons z r2 ih2 =>
          show (if (Sum.inl j : Key) = .inr z then f i else 0) + sumL (r2.map _) = 0
          rw [ih2, if_neg (by intro z; cases z)]; grind
      exact this ks
    | inr y =>
      have no : ∀ ks : List Str, y ∉ ks → sumL (ks.map fun z => if (Sum.inr y : Key) = .inr z then f i else 0) = 0 := fun ks => by
        induction ks with
        | nil => exact fun _ => rfl
        | cons z r2 ih2 =>
          intro hy
          rw [List.mem_cons, not_or] at hy
          show (if (Sum.inr y : Key) = .inr z then f i else 0) + sumL (r2.map _) = 0
          rw [ih2 hy.2, if_neg (fun z => hy.1 (Sum.inr.inj z))]; grind
      have yes : ∀ ks : List Str, ks.Nodup → y ∈ ks → sumL (ks.map fun z => if (Sum.inr y : Key) = .inr z then f i else 0) = f i := fun ks => by
        induction ks with
        | nil => exact fun _ h => by simp at h
        | cons z r2 ih2 =>
          intro nd hy
          obtain ⟨n1, n2⟩ := List.nodup_cons.mp nd
          show (if (Sum.inr y : Key) = .inr z then f i else 0) + sumL (r2.map _) = f i
          by_cases e : y = z
          · subst e
            rw [no r2 n1, if_pos rfl]; grind
          · rw [ih2 n2 ((List.mem_cons.mp hy).resolve_left e), if_neg (fun z => e (Sum.inr.inj z))]; grind
      show _ = f i
      by_cases hp : 0 < f i
      · exact yes ks nd (h (i, .inr y) (List.mem_cons_self ..) y rfl hp)
      · have h0 : f i = 0 := by have := hf i; grind
        by_cases hy : y ∈ ks
        · exact yes ks nd hy
        · rw [no ks hy, h0]
theorem sumL_nn {l : List Rat} (h : ∀ q ∈ l, 0 ≤ q) : 0 ≤ sumL l := by
  induction l with
  | nil => exact Rat.le_refl
  | cons q r ih =>
    have h1 := h q (List.mem_cons_self ..)
    have h2 := ih fun p hp => h p (List.mem_cons_of_mem _ hp)
    show 0 ≤ q + sumL r
    grind
theorem sumL_append {a b : List Rat} : sumL (a ++ b) = sumL a + sumL b := by
  induction a with
  | nil => show sumL b = 0 + sumL b; grind
  | cons q r ih =>
    show q + sumL (r ++ b) = q + sumL r + sumL b
    rw [ih]; grind
theorem sumL_take_le {l : List Rat} (h : ∀ q ∈ l, 0 ≤ q) (i : Nat) : sumL (l.take i) ≤ sumL l := by
  have h1 : sumL l = sumL (l.take i) + sumL (l.drop i) := by rw [← sumL_append, List.take_append_drop]
  have h2 := sumL_nn (l := l.drop i) fun q hq => h q (List.mem_of_mem_drop hq)
  grind
theorem sumL_isZ {c : Rat} {l : List Rat} (h : ∀ q ∈ l, IsZ (q * c)) : IsZ (sumL l * c) := by
  induction l with
  | nil => have : sumL [] * c = 0 := by show (0 : Rat) * c = 0; grind
           rw [this]; exact .zero
  | cons q r ih =>
    have e : sumL (q :: r) * c = q * c + sumL r * c := by show (q + sumL r) * c = _; grind
    rw [e]
    exact .add (h q (List.mem_cons_self ..)) (ih fun p hp => h p (List.mem_cons_of_mem _ hp))
theorem frD_sh (q : Rat) : SeqAt.shaped (frD q) = true ∧ (frD q).depth ≤ 3 ∧ PyData.eqv (frD q) (frD q) = true := by
  have h1 : PyData.canLayAll0 [PyData.int q.num, .int (q.den : Int)] = true := layAll fun d hd => by
    simp only [List.mem_cons, List.not_mem_nil, or_false] at hd
    rcases hd with rfl | rfl <;> rfl
  have h2 : PyData.depthAll [PyData.int q.num, .int (q.den : Int)] ≤ 1 := depthAll_le fun d hd => by
    simp only [List.mem_cons, List.not_mem_nil, or_false] at hd
    rcases hd with rfl | rfl <;> simp [PyData.depth]
  have h3 : (frD q).depth ≤ 3 := by unfold frD; rw [PyData.depth]; omega
  exact ⟨shaped_mk (by unfold frD; rw [PyData.canLay0]; exact h1) (by omega), h3, by simp [frD, PyData.eqv, PyData.eqvAll]⟩
theorem frD_sm (q : Rat) : SmD (frD q) := .tup (by simp) fun d hd => by
  simp only [List.mem_cons, List.not_mem_nil, or_false] at hd
  rcases hd with rfl | rfl
  · exact .int _
  · exact .int _
section
variable {P : Program} {w : World} {K : PySem.W.Frag} {mg : Str → Option Value} {base : Heap}
/-- the same fractions by ports on both sides -/
def spAlikeF (K : PySem.W.Frag) : Sp := fun vs H Q _ => ∃ (a b : Addr) (g : Str → Rat) (zs ks : List Str) (ka kb : List (Key × V)), vs = [.ref a, .ref b] ∧ H a = some (.dK ka) ∧ H b = some (.dK kb) ∧ ShF K H zs g ka ∧ ShF K H ks g kb ∧ zs.Nodup ∧ ks.Nodup ∧ (∀ z, z ∈ zs ↔ z ∈ ks) ∧ ks.length < 64 ∧
  (∀ z ∈ ks, (PyData.str z).canLay0 = true) ∧ ∀ H', Ex H H' → Q (.bl true) H'
theorem ok_l_alikeF {f : Addr} {fd : FuncData} (D : Df K mg "_law_alike" s_l_alike ["_law_found", "_law_due"] f fd) (T : Bt mg) : FnOk P w K mg base CX0 5 f fd ["_law_found", "_law_due"] (spAlikeF K) := by
  have D_l_alike := D
  have G_l_alike : FnOk P w K mg base CX0 4 f fd _ _ := ok_l_alike D T 4
  refine D.F.ok sc_l_alike (fun vs H Q E h => ?_) (fun cdv A outer s H vs Q E hr h => ?_)
  · obtain ⟨a, b, g, zs, ks, ka, kb, rfl, _⟩ := h
    rfl
  · obtain ⟨a, b, g, zs, ks, ka, kb, rfl, ha, hb, SA, SB, nz, nk, hm, hl, hok, q⟩ := h
    have hu := hr.units
    refine ⟨_, (pss_cons (ps_if (pt_val (pe_callB (call_isiU (K := K)) (by rfl) T.b_isinstance (by decide +kernel) (pa_cons (pv 1) (pa_cons (pe_bltn (v := .ty "dict") (by rfl) T.b_dict (by decide +kernel) rfl) pa_nil)))) (pss_one (ps_ret (pe_and (pe_callB (call_isiU (K := K)) (by rfl) T.b_isinstance (by decide +kernel) (pa_cons (pv 0) (pa_cons (pe_bltn (v := .ty "dict") (by rfl) T.b_dict (by decide +kernel) rfl) pa_nil))) (pe_and (pe_call (G_l_alike) (hr.mono (by decide)) rfl D_l_alike.g D_l_alike.F.kp D_l_alike.b .nil pass0 (pa_cons (pe_callB (call_sortD rfl) (by rfl) T.b_sorted (by decide +kernel) (pa_cons (pv 0) pa_nil)) (pa_cons (pe_callB (call_sortD rfl) (by rfl) T.b_sorted (by decide +kernel) (pa_cons (pv 1) pa_nil)) pa_nil))) (pe_one (pe_cmpR (op_eqDD (K := K) hu) (pv 0) (pv 1) (nomark _))))))) pss_nil)
      pss_never), ?_⟩
    walk_at "run"
    refine x_isDict hb ⟨_, rfl, ?_⟩
    rw [if_pos rfl]
    refine x_isDict ha ⟨_, rfl, ?_⟩
    rw [if_pos rfl]
    have hpm : zs.Perm ks := (List.perm_ext_iff_of_nodup nz nk).mpr hm
    have hzl := hpm.length_eq
    refine x_sortD ha SA.keys (by omega) fun ys p H1 p1 so1 np x1 hp => ?_
    refine x_sortD (x1 _ _ hb) SB.keys (by omega) fun ws p2 H2 p2' so2 np2 x2 hp2 => ?_
    obtain rfl : ys = ws := sorted_same ((p1.trans hpm).trans p2'.symm) so1 so2
    have hoy : ∀ z ∈ ys, (PyData.str z).canLay0 = true := fun z hz => hok z (p2'.mem_iff.mp hz)
    have hyl : ys.length ≤ 1000000 := by have := p1.length_eq; omega
    refine ⟨_, _, .list (ys.map PyData.str), rfl, .lst (SqL.of (x2 _ _ hp)) (strs_dp ys), .lst (SqL.of hp2) (strs_dp ys), (shaped_strs ys hoy).1, (shaped_strs ys hoy).2, sm_strs hyl, fun H3 x3 => ⟨_, rfl, ?_⟩⟩
    rw [if_pos rfl]
    have x03 := (x1.trans x2).trans x3
    refine x_eqDD (x03 _ _ ha) (x03 _ _ hb) (by rw [SA.len, SB.len, hzl]) (fun pr hpr => ?_) (q H3 x03)
    obtain ⟨z, hz, e⟩ : ∃ z ∈ zs, Sum.inr z = pr.1 := by
      have : pr.1 ∈ ka.map (·.1) := List.mem_map.mpr ⟨pr, hpr, rfl⟩
      rw [SA.keys] at this
      exact List.mem_map.mp this
    have nka : (ka.map (·.1)).Nodup := by rw [SA.keys]; exact List.pairwise_map.mpr (nz.imp fun h e => h (Sum.inr.inj e))
    have hv := val_of_mem (k := pr.1) (v := pr.2) nka hpr
    obtain ⟨v, h1, h2⟩ := SA.val z hz
    obtain ⟨u, h3, h4⟩ := SB.val z ((hm z).mp hz)
    rw [e, hv] at h1
    cases h1
    obtain ⟨s1, s2, s3⟩ := frD_sh (g z)
    exact ⟨u, frD (g z), by rw [← e]; exact h3, Dp.ex x03 h2, Dp.ex x03 h4, s1, by omega, s3⟩
theorem ShF.vals {H : Hp} {ks : List Str} {g : Str → Rat} {kvs : List (Key × V)} (S : ShF K H ks g kvs) (nd : ks.Nodup) : DpAll K H (kvs.map (·.2)) (ks.map fun z => frD (g z)) := by
  have nk : (kvs.map (·.1)).Nodup := by rw [S.keys]; exact List.pairwise_map.mpr (nd.imp fun h e => h (Sum.inr.inj e))
  have key : ∀ (l : List (Key × V)) (zs : List Str), l.map (·.1) = zs.map Sum.inr → (∀ p ∈ l, p ∈ kvs) → (∀ z ∈ zs, z ∈ ks) → DpAll K H (l.map (·.2)) (zs.map fun z => frD (g z)) := fun l => by
    induction l with
    | nil =>
      intro zs h _ _
      cases zs with
      | nil => exact .nil
      | cons _ _ => simp at h
    | cons p r ih =>
      intro zs h h1 h2
      cases zs with
      | nil => simp at h
      | cons z zs =>
        rw [List.map_cons, List.map_cons, List.cons.injEq] at h
        obtain ⟨v, e1, e2⟩ := S.val z (h2 z (List.mem_cons_self ..))
        have hv := val_of_mem (k := p.1) (v := p.2) nk (h1 p (List.mem_cons_self ..))
        rw [h.1, e1] at hv
        cases hv
        exact .cons e2 (ih zs h.2 (fun p hp => h1 p (List.mem_cons_of_mem _ hp)) fun z hz => h2 z (List.mem_cons_of_mem _ hz))
  exact key kvs ks S.keys (fun _ h => h) fun _ h => h
end
end K
set_option Elab.async false
set_option linter.all false
set_option maxRecDepth 100000
set_option maxHeartbeats 1000000
set_option exponentiation.threshold 20000
namespace K
open PySem PySem.Spec PyProof.Rows L2 Evl FB
local macro_rules | `(tactic| walk_at "run") => `(tactic| try simp only [tSeq, tAsg, tVar, tC, gName, L2.start, List.map_cons, List.map_nil, List.cons_append, List.nil_append, List.length_cons, List.length_nil, List.replicate, List.getElem?_cons_zero, List.getElem?_cons_succ, Option.some.injEq, exists_eq_left', List.set_cons_zero, List.set_cons_succ, V.ref.injEq, tRet, x_tLst, x_tTup, tCons, tCB, tNil, tOp, x_addI, x_mulI, x_rI, x_rI0, x_ltI, x_leI, x_ltS, x_leS, x_eqI, x_neI, x_eqS, x_eqB, x_neB, x_isiI, x_isiS, x_int, x_max, x_min, cxOf, tIfS, tNext, tTest, V.bl.injEq, decide_eq_true_eq, gSub, tAnd, tOr, tNot, tB, tDrop, tBM, x_tFor, iRng1, iList, iTup, x_tLc, tYes, tCall, tIf, tAndV, tOrV, tNotV, tChain, List.append_nil, tUn, if_true, wipe, true_and, x_never, iU, x_itS, kV, Nat.reduceAdd, Nat.reduceSub, List.replicate_zero, x_rU, x_tMkO, iEnumT, x_tDc, x_tDGet, x_tDGet2, x_sDPut, x_tDSetd, x_tDNewK, x_iItems, x_iZip, x_tSAddK, x_tLockV, x_tTupRg, x_tRg2, tPar, tPar3, tBM0, tSl, tNoPart, tPart, x_tSetAdd, x_tDIn, x_iKeys, x_iZipX, tWhile])
theorem okW4 {z : Str} (h : z ∈ W4) : (PyData.str z).canLay0 = true := by
  unfold W4 at h
  simp only [List.mem_cons, List.not_mem_nil, or_false] at h
  rcases h with rfl | rfl | rfl | rfl <;> (rw [PyData.canLay0]; decide +kernel)
theorem posQ {f : Nat → Int} {q : Key} {L : Seats} (h : 0 < toQ f q L) : ∃ s ∈ L, s.2 = q := Classical.byContradiction fun n => by
  have h0 : toQ f q L = 0 := toQ_nil fun s hs e => n ⟨s, hs, e⟩
  omega
theorem Drawn.up {N : Net} {a b : Int} (D : Drawn N a) (h : a ≤ b) : Drawn N b := ⟨D.pos, by have := D.le; omega, D.st⟩
/-- all but two dicts stay -/
theorem dc_tx {H H' : Hp} {l d : Addr} {k1 k2 : List (Key × V)} (hl : H l = some (.dK k1)) (hd : H d = some (.dK k2)) (e : Ex2 l d H H') : TX H H' := fun x o hx c => by
  refine e x o hx (fun z => ?_) (fun z => ?_)
  · subst z
    rw [hl] at hx
    cases hx
    exact c
  · subst z
    rw [hd] at hx
    cases hx
    exact c
theorem dc_gen {H H' : Hp} {h b l d : Addr} {k1 k2 : List (Key × V)} (g : Gen H h b) (hl : H l = some (.dK k1)) (hd : H d = some (.dK k2)) (e : Ex2 l d H H') : Gen H' h b := by
  obtain ⟨m, c, ns, h1, h2, h3⟩ := g
  have ne : ∀ {x y : Addr} {xs : List V} {k : List (Key × V)}, H x = some (.lst xs) → H y = some (.dK k) → x ≠ y := fun {x y xs k} hx hy z => by
    rw [z, hy] at hx
    cases hx
  exact ⟨m, c, ns, e _ _ h1 (ne h1 hl) (ne h1 hd), e _ _ h2 (ne h2 hl) (ne h2 hd), h3⟩
theorem sqT_un {K : PySem.W.Frag} {H H' : Hp} {l a : Addr} {od : Obj} {kvs : List (Key × V)} {xs : List V} (h : SqT K H a xs) (hl : H l = some (.frz od (.dK kvs))) (e : ∀ x o, x ≠ l → H x = some o → H' x = some o) : SqT K H' a xs := by
  rcases h with (h | ⟨o, h⟩) | h
  · exact .inl (.inl (e _ _ (fun z => by rw [z, hl] at h; cases h) h))
  · exact .inl (.inr ⟨o, e _ _ (fun z => by rw [z, hl] at h; cases h) h⟩)
  · exact .inr h
theorem ShF.un {K : PySem.W.Frag} {H H' : Hp} {l : Addr} {od : Obj} {k1 : List (Key × V)} {zs : List Str} {f : Str → Rat} {kvs : List (Key × V)} (S : ShF K H zs f kvs) (hl : H l = some (.frz od (.dK k1))) (e : ∀ x o, x ≠ l → H x = some o → H' x = some o) : ShF K H' zs f kvs :=
  ⟨S.keys, fun z hz => by
    obtain ⟨v, h1, h2⟩ := S.val z hz
    obtain ⟨a, rfl, h3⟩ := h2.at
    exact ⟨_, h1, FrAt.of (sqT_un h3 hl e)⟩⟩
theorem ridesN_len {N : Net} {bs : List Int} : ∀ k, (ridesN N bs k).length = k
  | 0 => rfl
  | k + 1 => by
    show (ridesN N bs k ++ [_]).length = _
    rw [List.length_append, ridesN_len]; rfl
/-- a numerator of a part of c -/
theorem part_le {x : Int} {c n : Nat} {q : Rat} (h : (x : Rat) = (c : Rat) * q) (h0 : 0 ≤ q) (h1 : q ≤ ((n : Nat) : Rat)) : x.natAbs ≤ c * n := by
  have hc : (0 : Rat) ≤ ((c : Nat) : Rat) := Rat.natCast_nonneg
  have e1 : (0 : Rat) ≤ (x : Rat) := by rw [h]; exact Rat.mul_nonneg hc h0
  have e2 : (x : Rat) ≤ (((c * n : Nat) : Int) : Rat) := by
    rw [h, Rat.intCast_natCast, Rat.natCast_mul]
    exact Rat.mul_le_mul_of_nonneg_left h1 hc
  have e3 := Rat.intCast_nonneg.mp e1
  have e4 := Rat.intCast_le_intCast.mp e2
  omega
theorem share_le {N : Net} (hV : ValidN N) (z : Str) : toR (av N) (.inr z) (seatsOf N N.length) ≤ 1 := by
  have h1 := toR_le_port (f := av N) av_nn (z := z) (seatsOf N N.length)
  rw [port_one hV.fwr hV.pos] at h1
  exact h1
section
variable {P : Program} {w : World} {K : PySem.W.Frag} {mg : Str → Option Value} {base : Heap}
theorem x_slock {H : Hp} {t : TS} {D : Ends} {σ : L2.St} {d : Addr} {u : HO} (h : H d = some u) (mu : Mut (some u)) (q : ∀ od H1, (∀ x o, x ≠ d → H x = some o → H1 x = some o) → (∀ x, x ≠ d → H1 x = none → H x = none) → H1 d = some (.frz od u) →
    t ⟨fun σ' H' => H' d = some (.frz od u) ∧ D.nx σ' (upd H' d u), fun v H' => H' d = some (.frz od u) ∧ D.rt v (upd H' d u), fun σ' H' => H' d = some (.frz od u) ∧ D.bk σ' (upd H' d u), fun σ' H' => H' d = some (.frz od u) ∧ D.ct σ' (upd H' d u)⟩ σ H1) : tLock t D σ H :=
  ⟨d, u, h, mu, fun od => q od _ (fun x o hx e => by rw [upd_ne hx]; exact e) (fun x hx e => by rw [upd_ne hx] at e; exact e) upd_same⟩
theorem x_dgetF {H : Hp} {a : Addr} {kvs : List (Key × V)} {k : Key} {v : V} {o : Obj} {Q : VK} (h : H a = some (.frz o (.dK kvs))) (e : valV kvs k = some v) (q : Q v H) : rDGet (.ref a) (kV k) H Q := ⟨a, v, rfl, .inl ⟨kvs, k, .inr ⟨o, h⟩, rfl, e.symm⟩, q⟩
abbrev s_law : Stmt := top 53
theorem sc_law : FnScope ["_law_script", "_law_h", "_law_turn", "_law_network_here", "_law_count", "_law_state_here", "_law_told", "_law_due", "_law_port", "_law_boats", "_law_rides", "_law_k"] ["_law_script"] (defScope s_law) := ⟨rfl, rfl, rfl, by decide +kernel, rfl, by decide +kernel, by decide +kernel⟩
def spLaw (K : PySem.W.Frag) : Sp := fun vs H Q _ => ∃ (a : Addr) (ns : List Int), vs = [.ref a] ∧ SqL K H a (ns.map V.int) ∧ ns.length ≤ 63 ∧ ∀ H', Q (.bl true) H'
theorem ok_law {f g1 g2 g3 g4 g5 g6 f1 f2 f3 f4 f5 : Addr} {fd gd1 gd2 gd3 gd4 gd5 gd6 fd1 fd2 fd3 fd4 fd5 : FuncData} (F : Fun K "law" "law" s_law f fd) (T : Bt mg)
    (D_l_mix : Df K mg "_law_mix" s_l_mix ["_law_script", "_law_seed"] g1 gd1) (D_l_next : Df K mg "_law_next" s_l_next ["_law_h", "_law_limit"] g2 gd2) (D_l_network : Df K mg "_law_network" s_l_network ["_law_h", "_law_most"] g3 gd3) (D_l_state : Df K mg "_law_state" s_l_state ["_law_h", "_law_network_here", "_law_most"] g4 gd4)
    (D_l_alike : Df K mg "_law_alike" s_l_alike ["_law_found", "_law_due"] g5 gd5) (D_l_sum : Df K mg "_law_sum" s_l_sum ["_law_fractions"] g6 gd6)
    (D_count_boats : Df K mg "count_boats" s_count_boats ["network", "state", "count"] f1 fd1) (D_count_finished : Df K mg "count_finished" s_count_finished ["network", "state", "count"] f2 fd2) (D_period : Df K mg "period" s_period ["network"] f3 fd3) (D_shares : Df K mg "shares" s_shares ["network"] f4 fd4) (D_average_boats : Df K mg "average_boats" s_average_boats ["network"] f5 fd5)
    (G_l_network : FnOk P w K mg base CX0 3 g3 gd3 ["_law_h", "_law_most"] (spNetwork K)) (G_l_state : FnOk P w K mg base CX0 18 g4 gd4 ["_law_h", "_law_network_here", "_law_most"] (spStateL K)) (G_count_boats : FnOk P w K mg base CX0 6 f1 fd1 ["network", "state", "count"] (spBoats K)) (G_count_finished : FnOk P w K mg base CX0 7 f2 fd2 ["network", "state", "count"] (spFinished K))
    (G_period : FnOk P w K mg base CX0 5 f3 fd3 ["network"] (spPeriod K)) (G_shares : FnOk P w K mg base CX0 7 f4 fd4 ["network"] (spShares K)) (G_average_boats : FnOk P w K mg base CX0 5 f5 fd5 ["network"] (spAvB K)) :
    FnOk P w K mg base CX0 19 f fd ["_law_script"] (spLaw K) := by
  have G_l_mix : FnOk P w K mg base CX0 1 g1 gd1 _ _ := ok_l_mix D_l_mix T
  have G_l_next : FnOk P w K mg base CX0 1 g2 gd2 _ _ := ok_l_next D_l_next T
  have G_l_alike : FnOk P w K mg base CX0 5 g5 gd5 _ _ := ok_l_alike D_l_alike T 5
  have G_l_alikeF : FnOk P w K mg base CX0 5 g5 gd5 _ _ := ok_l_alikeF D_l_alike T
  have G_l_sum : FnOk P w K mg base CX0 1 g6 gd6 _ _ := ok_l_sum D_l_sum T
  refine F.ok sc_law (fun vs H Q E h => ?_) (fun cdv A outer s H vs Q E hr h => ?_)
  · obtain ⟨a, ns, rfl, _⟩ := h
    rfl
  · obtain ⟨a, ns, rfl, hS, hl, q⟩ := h
    have hu := hr.units
    have hu1 := hu_of hr
    refine ⟨_, (pss_cons (ps_set (i := 1) sc_law.nd rfl (Or.inl rfl) (pe_call (G_l_mix) (hr.mono (by decide)) rfl D_l_mix.g D_l_mix.F.kp D_l_mix.b .nil pass0 (pa_cons (pv 0) (pa_cons pe_int pa_nil))))
      (pss_cons (ps_for PassesOwn.never rfl (pi_range1 (by rfl) T.b_range (pa_cons pe_int pa_nil)) (pg_name (i := 2) sc_law.nd rfl (Or.inl rfl)) (pss_cons (ps_set (i := 3) sc_law.nd rfl (Or.inr rfl) (pe_call (G_l_network) (hr.mono (by decide)) rfl D_l_network.g D_l_network.F.kp D_l_network.b .nil pass0 (pa_cons (pv 1) (pa_cons (pe_ix (ix_U (K := K)) (pe_lst (pa_cons pe_int (pa_cons pe_int pa_nil))) (pe_call (G_l_next) (hr.mono (by decide)) rfl D_l_next.g D_l_next.F.kp D_l_next.b .nil pass0 (pa_cons (pv 1) (pa_cons pe_int pa_nil))) (fun _ _ => rfl)) pa_nil))))
      (pss_cons (ps_set (i := 4) sc_law.nd rfl (Or.inl rfl) (pe_call (G_period) (hr.mono (by decide)) rfl D_period.g D_period.F.kp D_period.b .nil pass0 (pa_cons (pv 3) pa_nil)))
      (pss_one (ps_if (pt_cmpR (op_leU) (pv 4) (pe_op op_pow pe_int pe_int) (nomark _)) (pss_cons (ps_set (i := 5) sc_law.nd rfl (Or.inl rfl) (pe_call (G_l_state) (hr.mono (by decide)) rfl D_l_state.g D_l_state.F.kp D_l_state.b .nil pass0 (pa_cons (pv 1) (pa_cons (pv 3) (pa_cons pe_int pa_nil)))))
      (pss_cons (ps_set (i := 6) sc_law.nd rfl (Or.inl rfl) (pe_call (G_count_finished) (hr.mono (by decide)) rfl D_count_finished.g D_count_finished.F.kp D_count_finished.b .nil pass0 (pa_cons (pv 3) (pa_cons (pv 5) (pa_cons (pv 4) pa_nil)))))
      (pss_cons (ps_set (i := 7) sc_law.nd rfl (Or.inl rfl) pe_dnewK)
      (pss_cons (ps_lock (ps_for PassesOwn.never rfl (pi_keys (pv 6)) (pg_name (i := 8) sc_law.nd rfl (Or.inl rfl)) (pss_one (ps_dput hu1 (pv 7) (pv 8) (pe_call (G_l_sum) (hr.mono (by decide)) rfl D_l_sum.g D_l_sum.F.kp D_l_sum.b .nil pass0 (pa_cons (pe_lst (pa_cons (pe_tup (pa_cons (pe_dget hu1 (pv 6) (pv 8) (fun _ _ => rfl)) (pa_cons (pv 4) pa_nil))) pa_nil)) pa_nil)) rfl))))
      (pss_cons (ps_if (PW.pt (pw_or (pt_not (pt_val (pe_call (G_l_alikeF) (hr.mono (by decide)) rfl D_l_alike.g D_l_alike.F.kp D_l_alike.b .nil pass0 (pa_cons (pe_call (G_shares) (hr.mono (by decide)) rfl D_shares.g D_shares.F.kp D_shares.b .nil pass0 (pa_cons (pv 3) pa_nil)) (pa_cons (pv 7) pa_nil))))) (pw_or1 (pt_cmpR (op_neU (K := K) hu) (pe_call (G_l_sum) (hr.mono (by decide)) rfl D_l_sum.g D_l_sum.F.kp D_l_sum.b .nil pass0 (pa_cons (pe_callTy (call_listV rfl) (by rfl) T.b_list (by decide +kernel) (pa_cons (pe_bm0 PySem.F.plainAttrs_dict PySem.F.slot_dict_values PySem.F.type_dict_values mt_vals (pv 7)) pa_nil)) pa_nil)) (pe_tup (pa_cons pe_int (pa_cons pe_int pa_nil))) (nomark _))))) (pss_one (ps_ret pe_bl)) pss_nil)
      (pss_cons (ps_set (i := 9) sc_law.nd rfl (Or.inr rfl) (pe_call (G_count_boats) (hr.mono (by decide)) rfl D_count_boats.g D_count_boats.F.kp D_count_boats.b .nil pass0 (pa_cons (pv 3) (pa_cons (pv 5) (pa_cons (pv 4) pa_nil)))))
      (pss_cons (ps_set (i := 10) sc_law.nd rfl (Or.inl rfl) (pe_callB (cr_sum rfl) (by rfl) T.b_sum (by decide +kernel) (pa_cons (pe_lc (own := [("_law_k", 11)]) (g := gName 11) (tt := tYes) rfl sc_law.nd (pi_range1 (by rfl) T.b_range (pa_cons (pe_callB (call_lenU (K := K)) (by rfl) T.b_len (by decide +kernel) (pa_cons (pv 3) pa_nil)) pa_nil)) (blkOk_by (own := [("_law_k", 11)]) (N := ["_law_script", "_law_h", "_law_turn", "_law_network_here", "_law_count", "_law_state_here", "_law_told", "_law_due", "_law_port", "_law_boats", "_law_rides", "_law_k"]) (sc := defScope s_law) (by decide +kernel)) (fun _ _ _ _ _ => (pg_name (i := 11) sc_law.nd rfl (Or.inl rfl))) (fun _ _ _ _ _ => pts_nil) (fun _ _ _ _ _ => (pe_op (op_mulU (K := K)) (pe_ix (ix_U (K := K)) (pv 9) (pv 11) (fun _ _ => rfl)) (pe_callB (call_lenU (K := K)) (by rfl) T.b_len (by decide +kernel) (pa_cons (pe_ix (ix_U (K := K)) (pv 3) (pv 11) (fun _ _ => rfl)) pa_nil))))) pa_nil)))
      (pss_one (ps_if (pt_not (pt_val (pe_call (G_l_alike) (hr.mono (by decide)) rfl D_l_alike.g D_l_alike.F.kp D_l_alike.b .nil pass0 (pa_cons (pe_call (G_average_boats) (hr.mono (by decide)) rfl D_average_boats.g D_average_boats.F.kp D_average_boats.b .nil pass0 (pa_cons (pv 3) pa_nil)) (pa_cons (pe_call (G_l_sum) (hr.mono (by decide)) rfl D_l_sum.g D_l_sum.F.kp D_l_sum.b .nil pass0 (pa_cons (pe_lst (pa_cons (pe_tup (pa_cons (pv 10) (pa_cons (pv 4) pa_nil))) pa_nil)) pa_nil)) pa_nil))))) (pss_one (ps_ret pe_bl)) pss_nil))))))))) pss_nil)))))
      (pss_one (ps_ret pe_bl)))), ?_⟩
    walk_at "run"
    refine ⟨a, ns, 12, rfl, hS, hl, fun h b H1 e1 nh nb g1 => ?_⟩
    refine ⟨3, rfl, by decide, by decide, loop_it walk_range (fun i σ H' => ∃ u2 u3 u4 u5 u6 u7 u8 u9 u10 u11, σ = [some (.ref a), some (.ref h), u2, u3, u4, u5, u6, u7, u8, u9, u10, u11] ∧ Gen H' h b) ⟨_, _, _, _, _, _, _, _, _, _, rfl, g1⟩ (fun _ _ _ _ _ => trivial) ?_ ?_⟩
    · rintro i x σ H2 H2' hi ⟨u2, u3, u4, u5, u6, u7, u8, u9, u10, u11, rfl, g2⟩ ⟨eH, rfl⟩
      subst eH
      walk_at "run"
      refine x_lst (by simp) fun M H3 nM e3 hM => ?_
      refine x_next (g2.ex e3) (by decide) (by decide) fun r H4 r0 r1 g4 e4 => ?_
      have hM4 := e4 _ _ hM (g2.na nM) (g2.nb nM)
      refine x_menu hM4 r0 (by simpa using r1) fun mv _ hmv => ?_
      obtain ⟨most, rfl, hm1, hm8⟩ : ∃ c : Int, mv = .int c ∧ 1 ≤ c ∧ c ≤ 8 := by
        simp only [List.mem_cons, List.not_mem_nil, or_false] at hmv
        rcases hmv with rfl | rfl
        · exact ⟨_, rfl, by decide, by decide⟩
        · exact ⟨_, rfl, by decide, by decide⟩
      refine ⟨h, b, most, rfl, g4, hm1, by omega, fun v N H5 hD hN g5 e5 => ?_⟩
      have hD8 : Drawn N 8 := hD.up hm8
      have hV : ValidN N := hD8.valid (by decide)
      have hn8 : N.length ≤ 8 := by have := hD8.le; omega
      walk_at "run"
      refine ⟨v, N, rfl, hN, hV, fun H6 e6 => ?_⟩
      generalize hP : perN N N.length = c
      have hcd : ∀ i, i < N.length → (av N i).den ∣ c := fun i hi => by rw [← hP]; exact perN_den hi
      have hc1 : 1 ≤ c := by rw [← hP]; exact perN_pos _
      have hcb : c ≤ 8 ^ 8 := by
        rw [← hP]
        exact Nat.le_trans (Nat.le_of_dvd (prodN_pos hV.fwr (Nat.le_refl _)) (perN_dvd hV.fwr (Nat.le_refl _))) (Nat.le_trans (prodN_le hV.len8 _) (Nat.pow_le_pow_right (by decide) hn8))
      have hc0 : c ≠ 0 := by omega
      have hcw : c < 2 ^ 1500 := Nat.lt_of_le_of_lt hcb (by decide)
      have h18 : (10 : Int) ^ Int.toNat 18 = 1000000000000000000 := by decide
      walk_at "run"
      refine ⟨⟨by decide, by decide, by decide⟩, ?_⟩
      have g6 := g5.ex e6
      have hN6 := Dp.ex e6 hN
      rw [h18]
      rw [if_pos (by have : (8 : Nat) ^ 8 = 16777216 := by decide
                     omega)]
      refine ⟨h, b, v, N, 20, rfl, g6, hN6, hD8, by decide, by decide, fun u p qs H7 hO hu7 g7 e7 => ?_⟩
      have hN7 : NetAt K H7 v N := Dp.tx (g6.tx e7) hN6 (netD_t N)
      have c18 : (c : Int) ≤ 1000000000000000000 := by
        have : (8 : Nat) ^ 8 = 16777216 := by decide
        omega
      walk_at "run"
      refine ⟨v, u, N, p, qs, (c : Int), rfl, hN7, hV, hu7, hO, by omega, c18, fun H8 l kvs e8 nl hl8 F8 => ?_⟩
      obtain ⟨ks, hks, nks, mks⟩ := F8.keys
      have hT : ∀ z, ((reach N (bts N (lens qs) (c : Int) N.length) (.inr z) : Int) : Rat) = (c : Rat) * toR (av N) (.inr z) (seatsOf N N.length) := fun z => reach_av hV hO hcd (.inr z)
      have hTW : ∀ z, 0 < reach N (bts N (lens qs) (c : Int) N.length) (.inr z) → z ∈ W4 := fun z hz => by
        obtain ⟨⟨i2, q2⟩, hs2, e2⟩ := posQ hz
        obtain ⟨h1, h2⟩ := mem_seatsOf.mp hs2
        have e3 : N[i2]? = some (N.getD i2 []) := by simp [List.getD_eq_getElem?_getD, h1]
        have := (hD.st i2 _ e3).2.2 q2 h2
        rw [show q2 = .inr z from e2] at this
        exact this
      have hk4 : ks.length ≤ 4 := nks.length_le_of_subset (l₂ := W4) fun z hz => hTW z ((mks z).mp hz)
      have hkl : kvs.length = ks.length := by
        have := congrArg List.length hks
        rwa [List.length_map, List.length_map] at this
      have hcp : (0 : Rat) < ((c : Nat) : Rat) := Rat.natCast_pos.mpr (by omega)
      have hsp : ∀ z, z ∈ ks ↔ 0 < toR (av N) (.inr z) (seatsOf N N.length) := fun z => by
        rw [mks]
        show 0 < reach N _ _ ↔ _
        have h1 : (0 : Rat) < ((reach N (bts N (lens qs) (c : Int) N.length) (.inr z) : Int) : Rat) ↔ 0 < toR (av N) (.inr z) (seatsOf N N.length) := by
          rw [hT]
          constructor
          · intro hp
            have h2 := toR_nn (f := av N) av_nn (q := .inr z) (a := seatsOf N N.length)
            rcases Rat.le_iff_lt_or_eq.mp h2 with h3 | h3
            · exact h3
            · rw [← h3] at hp
              grind
          · intro hp
            exact Rat.mul_pos hcp hp
        rw [← h1]
        exact Rat.intCast_pos.symm
      generalize hg : (fun z : Str => toR (av N) (.inr z) (seatsOf N N.length)) = g at *
      have hgz : ∀ z, toR (av N) (.inr z) (seatsOf N N.length) = g z := fun z => by rw [← hg]
      generalize hTT : (fun z : Str => reach N (bts N (lens qs) (c : Int) N.length) (.inr z)) = TT at F8 mks
      have mkT : ∀ z, z ∈ ks ↔ 0 < TT z := fun z => by rw [← hTT]; exact mks z
      have hTz : ∀ z, ((TT z : Int) : Rat) = (c : Rat) * g z := fun z => by rw [← hTT, ← hgz]; exact hT z
      have hg0 : ∀ z, 0 ≤ g z := fun z => by rw [← hgz]; exact toR_nn av_nn
      have hg1 : ∀ z, g z ≤ ((1 : Nat) : Rat) := fun z => by rw [← hgz, one_nat]; exact share_le hV z
      have hgd : ∀ z, (g z).den ∣ prodN N N.length := fun z => by
        rw [← hgz]
        exact toR_den hV.fwr (Nat.le_refl _) fun s hs => (mem_seatsOf.mp (show (s.1, s.2) ∈ seatsOf N N.length from hs)).1
      have hgw : ∀ z, Wd (g z) := fun z => hV.wd (a := 1) (hg0 z) (hg1 z) (by decide) (Nat.le_refl _) (hgd z)
      walk_at "run"
      refine x_dnew fun DU H9 nD e9 hD9 => ?_
      walk_at "run"
      have hl9 := e9 _ _ hl8
      have hlD : l ≠ DU := fun z => by rw [z] at hl8; rw [hl8] at nD; cases nD
      have g9 := ((g7.ex e8).ex e9)
      have hN9 := Dp.ex (e8.trans e9) hN7
      have hu9 := Dp.ex (e8.trans e9) hu7
      refine x_slock hl9 trivial fun od H10 k10 b10 h10 => ?_
      walk_at "run"
      refine x_keys h10 (loop_it walk_keys (fun i' σ H' => ∃ u8 kd, σ = [some (.ref a), some (.ref h), some (.int (0 + (i : Nat))), some v, some (.int (c : Int)), some u, some (.ref l), some (.ref DU), u8, u9, u10, u11] ∧ Ex2 l DU H9 H' ∧ H' l = some (.frz od (.dK kvs)) ∧ H' DU = some (.dK kd) ∧ ShF K H' (ks.take i') g kd) ⟨_, [], rfl, fun x o hx h1 h2 => k10 x o h1 hx, h10, k10 _ _ hlD.symm hD9, rfl, fun z hz => by simp at hz⟩ (fun i' σ H' _ ⟨_, _, _, _, h, _⟩ => h) ?_ ?_)
      · rintro i' x σ H11 H11' hi' ⟨u8, kd, rfl, e11, hl11, hd11, S11⟩ ⟨eH, k, val, hkv, rfl⟩
        subst eH
        obtain ⟨z, hz, rfl⟩ : ∃ z, ks[i']? = some z ∧ Sum.inr z = k := by
          have h1 : (kvs.map (·.1))[i']? = some k := by rw [List.getElem?_map, hkv]; rfl
          rw [hks, List.getElem?_map] at h1
          cases hz : ks[i']? with
          | none => rw [hz] at h1; cases h1
          | some z => rw [hz] at h1; exact ⟨z, rfl, Option.some.inj h1⟩
        have hzm : z ∈ ks := List.mem_of_getElem? hz
        have hTp := (mkT z).mp hzm
        have hval : valV kvs (.inr z) = some (.int (TT z)) := by rw [F8.val, if_pos hTp]
        have hkd := S11.len
        rw [List.length_take] at hkd
        walk_at "run"
        refine x_dgetF (k := .inr z) hl11 hval (x_tup (by simp) fun t H12 n12 e12 h12 => x_lst (by simp) fun lt H13 n13 e13 h13 => ?_)
        have hq : pQ (TT z, c) = g z := mkRat_of hc0 (hTz z)
        refine ⟨lt, [.ref t], [(TT z, c)], rfl, SqL.of h13, .cons (.tup (SqT.of (e13 _ _ h12)) (.cons (.int _) (.cons (.int _) .nil))) .nil, fun pr hpr => ?_, fun j hj => ?_, fun H14 r e14 h14 => ?_⟩
        · rw [List.mem_singleton.mp hpr]
          exact ⟨Nat.lt_of_le_of_lt (part_le (hTz z) (hg0 z) (hg1 z)) (by rw [Nat.mul_one]; exact hcw), hc0, hcw⟩
        · match j, hj with
          | 0, _ =>
            show Wd 0
            exact ⟨by decide, by decide⟩
          | 1, _ =>
            show Wd (pQ (TT z, c) + 0)
            rw [hq]
            have : g z + 0 = g z := by grind
            rw [this]; exact hgw z
        · walk_at "run"
          have e114 : Ex H11' H14 := e12.trans (e13.trans e14)
          refine x_dput (k := .inr z) (e114 _ _ hd11) (by omega) fun H15 e15 _ h15 => ?_
          have hr : FrAt K H14 r (g z) := by
            have : sumL ([(TT z, c)].map pQ) = g z := by
              show pQ (TT z, c) + 0 = g z
              rw [hq]; grind
            rw [← this]; exact h14
          have t15 : TX H14 H15 := fun x o hx cc => e15 x o (fun z => by subst z; rw [e114 _ _ hd11] at hx; cases hx; exact cc) hx
          have hnew : (Sum.inr z : Key) ∉ kd.map (·.1) := by
            rw [S11.keys]
            intro hm
            obtain ⟨y, hy, e⟩ := List.mem_map.mp hm
            have e : y = z := Sum.inr.inj e
            subst e
            obtain ⟨j, hj⟩ := List.mem_iff_getElem?.mp hy
            rw [List.getElem?_take] at hj
            split at hj
            · rename_i hji
              have := (List.getElem?_inj (by omega) nks).mp (hj.trans hz.symm)
              omega
            · cases hj
          refine ⟨_, _, rfl, fun x o hx h1 h2 => e15 _ _ h2 (e114 _ _ (e11 _ _ hx h1 h2)), e15 _ _ hlD (e114 _ _ hl11), h15, ?_, fun y hy => ?_⟩
          · rw [putK_new hnew, List.map_append, S11.keys, List.take_add_one, hz, List.map_append]; rfl
          · rw [valV_put]
            by_cases ey : y = z
            · subst ey
              rw [if_pos rfl]
              exact ⟨r, rfl, Dp.tx t15 hr (frD_t _)⟩
            · rw [if_neg (fun e => ey (Sum.inr.inj e))]
              rw [List.take_add_one, hz] at hy
              have hy2 : y ∈ ks.take i' := by
                rcases List.mem_append.mp hy with hy | hy
                · exact hy
                · exact absurd (by simpa using hy) ey
              obtain ⟨vv, h1, h2⟩ := S11.val y hy2
              exact ⟨vv, h1, Dp.tx ((TX.of e114).trans t15) h2 (frD_t _)⟩
      · rintro σ H11 ⟨u8, kd, rfl, e11, hl11, hd11, S11⟩
        rw [hkl, List.take_length] at S11
        refine ⟨hl11, ?_⟩
        have k12 : ∀ x o, x ≠ l → H11 x = some o → upd H11 l (.dK kvs) x = some o := fun x o hx e => by rw [upd_ne hx]; exact e
        have S12 := S11.un hl11 k12
        have hd12 := k12 _ _ hlD.symm hd11
        have e12 : Ex2 l DU H9 (upd H11 l (.dK kvs)) := fun x o hx h1 h2 => k12 _ _ h1 (e11 _ _ hx h1 h2)
        have g12 := dc_gen g9 hl9 hD9 e12
        have t12 := dc_tx hl9 hD9 e12
        generalize upd H11 l (.dK kvs) = H12 at S12 hd12 g12 t12
        have hN12 : NetAt K H12 v N := Dp.tx t12 hN9 (netD_t N)
        have hu12 : Dp K H12 u (stateD p qs) := Dp.tx t12 hu9 (stateD_t _ _)
        walk_at "run"
        refine ⟨v, N, rfl, hN12, hV, fun H13 d zs ka e13 nd hd13 hPz S13 => ?_⟩
        rw [hg] at S13
        have zk : ∀ z, z ∈ zs ↔ z ∈ ks := fun z => by rw [hPz.2.2.2, hsp, hgz]
        refine ⟨d, DU, g, zs, ks, ka, kd, rfl, hd13, e13 _ _ hd12, S13, S12.tx (TX.of e13), hPz.2.1, nks, zk, by omega, fun z hz => okW4 (hTW z ((mks z).mp hz)), fun H14 e14 => ⟨_, rfl, ?_⟩⟩
        have e1214 := e13.trans e14
        have hd14 := e1214 _ _ hd12
        have S14 := S12.tx (TX.of e1214)
        walk_at "run"
        refine ⟨x_tyD hd14, x_vals hd14 fun vw H15 n15 e15 h15 => x_listV h15 (e15 _ _ hd14) fun lv H16 n16 e16 h16 => ?_⟩
        have S16 := S14.tx (TX.of (e15.trans e16))
        have hvals := S16.vals nks
        have hmap : (ks.map fun z => frD (g z)) = (ks.map fun z => ((g z).num, (g z).den)).map pD := by
          rw [List.map_map]
          exact List.map_congr_left fun z _ => rfl
        have hmq : ∀ l : List Str, (l.map fun z => ((g z).num, (g z).den)).map pQ = l.map g := fun l => by
          rw [List.map_map]
          exact List.map_congr_left fun z _ => pQ_fr (g z)
        rw [hmap] at hvals
        have hone : sumL (ks.map g) = 1 := by
          have := ports_sum (f := av N) av_nn nks (L := seatsOf N N.length) fun s hs z hz hp => by
            rw [hsp]
            exact (toR_pos av_nn).mpr ⟨s.1, by rw [← hz]; exact hs, hp⟩
          rw [port_one hV.fwr hV.pos] at this
          rw [← this]
          congr 1
          exact List.map_congr_left fun z _ => (hgz z).symm
        refine ⟨lv, _, _, rfl, SqL.of h16, hvals, fun pr hpr => ?_, fun j hj => ?_, fun H17 r e17 h17 => ?_⟩
        · obtain ⟨z, _, rfl⟩ := List.mem_map.mp hpr
          exact ⟨(hgw z).1, (g z).den_nz, (hgw z).2⟩
        · rw [← List.map_take, hmq, List.map_take]
          refine hV.wd (a := 1) (sumL_nn fun y hy => ?_) ?_ (by decide) (Nat.le_refl _) (den_dvd (sumL_isZ fun y hy => ?_))
          · obtain ⟨z, _, rfl⟩ := List.mem_map.mp (List.mem_of_mem_take hy)
            exact hg0 z
          · rw [one_nat, ← hone]
            exact sumL_take_le (fun y hy => by obtain ⟨z, _, rfl⟩ := List.mem_map.mp hy; exact hg0 z) j
          · obtain ⟨z, _, rfl⟩ := List.mem_map.mp (List.mem_of_mem_take hy)
            exact isZ_den (hgd z)
        · rw [hmq, hone] at h17
          walk_at "run"
          refine x_tup (by simp) fun t18 H18 n18 e18 h18 => ?_
          have e1218 : Ex H12 H18 := e1214.trans (e15.trans (e16.trans (e17.trans e18)))
          have hr18 : Dp K H18 r (frD 1) := Dp.ex e18 h17
          have hc18 : Dp K H18 (.ref t18) (frD 1) := FrAt.of (q := 1) (SqT.of h18)
          refine x_neD hr18 hc18 (frD_sh 1).1 (frD_sh 1).1 ?_
          rw [(frD_sh 1).2.2]
          walk_at "run"
          have hN18 := Dp.ex e1218 hN12
          have hu18 := Dp.ex e1218 hu12
          have g18 := g12.ex e1218
          refine ⟨v, u, N, p, qs, (c : Int), rfl, hN18, hV, hu18, hO, by omega, c18, fun H19 lb e19 nlb hlb => ?_⟩
          have hbl : (bts N (lens qs) (c : Int) N.length).length = N.length := bts_len
          have hrd := fun k hk => rides_av hV hO hcd k hk
          have hba := fun i hi => bts_av hV hO hcd N.length (Nat.le_refl _) i hi
          generalize bts N (lens qs) (c : Int) N.length = bs at hlb hbl hrd hba
          have hN19 := Dp.ex e19 hN18
          obtain ⟨na, us, rfl, hU, hus⟩ := NetAt.at hN19
          have hul : us.length = N.length := by rw [hus.len, List.length_map]
          walk_at "run"
          refine x_lenT hU ?_
          rw [hul]
          refine ⟨_, rfl, by omega, by omega, ?_⟩
          refine lcl_it walk_range (fun D k H' => Ex H19 H' ∧ H' D = some (.lst ((ridesN N bs k).map V.int))) (fun D H' hD e h => ⟨e, h⟩) (fun _ _ _ _ _ => trivial) ?_ ?_
          · rintro D k x H20 H20' hDn hk ⟨e20, h20⟩ ⟨eH, rfl⟩
            subst eH
            have hkN : k < N.length := by simpa using hk
            have hz : (0 : Int) + k = (k : Int) := by omega
            obtain ⟨sv, hsv, hsd⟩ := hus.get (show (N.map stD)[k]? = some (stD (N.getD k [])) by simp [List.getD_eq_getElem?_getD, hkN])
            obtain ⟨cb, rfl, hcb2⟩ := StAt.at hsd
            walk_at "run"
            rw [hz]
            refine x_ixL (SqL.of (e20 _ _ hlb)) (atI_nat (v := .int (bs.getD k 0)) (by simp [List.getD_eq_getElem?_getD, hbl, hkN])) ?_
            refine x_ixT (ex_t e20 hU) (atI_nat hsv) (x_lenT (ex_t e20 hcb2) ?_)
            rw [List.length_map]
            walk_at "run"
            have h8 := hV.len8 k
            refine ⟨.inr ⟨by omega, by omega⟩, x_push h20 (by rw [List.length_map, ridesN_len]; omega) fun H21 e21 h21 => ⟨fun x o hx => e21 _ _ (ne_of_none hx hDn) (e20 _ _ hx), ?_⟩⟩
            rw [h21]
            show _ = some (HO.lst (List.map V.int (ridesN N bs k ++ [_])))
            rw [List.map_append]; rfl
          · rintro D H20 hDn ⟨e20, h20⟩
            have e0 : ((N.length : Nat) : Int).toNat = N.length := by omega
            rw [e0] at h20
            refine ⟨D, _, rfl, SqL.of h20, ?_⟩
            have hR := hrd N.length (Nat.le_refl _)
            have hv0 : 0 ≤ sumR (vi N) N.length := sumR_nn' fun i _ => vi_nn i
            have hv8 : sumR (vi N) N.length ≤ ((8 : Nat) : Rat) := by
              have h1 := sumR_le (f := vi N) (c := 1) (k := N.length) fun i hi => vi_le_one hV.fwr hi
              have h2 : ((N.length : Nat) : Rat) ≤ ((8 : Nat) : Rat) := Rat.natCast_le_natCast.mpr hn8
              grind
            generalize (ridesN N bs N.length).sum = rd at hR
            have hN20 := Dp.ex e20 hN19
            walk_at "run"
            refine ⟨_, N, rfl, hN20, hV, fun H21 r21 e21 h21 => ?_⟩
            refine x_tup (by simp) fun t H22 n22 e22 h22 => x_lst (by simp) fun lt H23 n23 e23 h23 => ?_
            have hq : pQ (rd, c) = sumR (vi N) N.length := mkRat_of hc0 hR
            refine ⟨lt, [.ref t], [(rd, c)], rfl, SqL.of h23, .cons (.tup (SqT.of (e23 _ _ h22)) (.cons (.int _) (.cons (.int _) .nil))) .nil, fun pr hpr => ?_, fun j hj => ?_, fun H24 r24 e24 h24 => ?_⟩
            · rw [List.mem_singleton.mp hpr]
              refine ⟨Nat.lt_of_le_of_lt (part_le hR hv0 hv8) (Nat.lt_of_le_of_lt (Nat.mul_le_mul_right 8 hcb) (by decide)), hc0, hcw⟩
            · match j, hj with
              | 0, _ =>
                show Wd 0
                exact ⟨by decide, by decide⟩
              | 1, _ =>
                show Wd (pQ (rd, c) + 0)
                rw [hq]
                have : sumR (vi N) N.length + 0 = sumR (vi N) N.length := by grind
                rw [this]; exact sumvi_wd hV (Nat.le_refl _)
            · have hsum : sumL ([(rd, c)].map pQ) = sumR (vi N) N.length := by
                show pQ (rd, c) + 0 = _
                rw [hq]; grind
              rw [hsum] at h24
              have e2124 : Ex H21 H24 := e22.trans (e23.trans e24)
              have hsh := frD_sh (sumR (vi N) N.length)
              refine ⟨_, _, frD (sumR (vi N) N.length), rfl, Dp.ex e2124 h21, h24, hsh.1, Nat.le_trans hsh.2.1 (by decide), frD_sm _, fun H25 e25 => ⟨_, rfl, ?_⟩⟩
              rw [if_neg (by simp)]
              exact ⟨_, _, _, _, _, _, _, _, _, _, rfl, (g18.ex (e19.trans (e20.trans (e21.trans (e2124.trans e25)))))⟩
    · rintro σ H2 ⟨u2, u3, u4, u5, u6, u7, u8, u9, u10, u11, rfl, g2⟩
      walk_at "run"
      exact q H2
end
end K
set_option Elab.async false
set_option linter.all false
set_option maxRecDepth 100000
set_option maxHeartbeats 4000000
namespace K
open PySem PySem.Spec PyProof.Rows L2 Evl FB
theorem all_mk {l : PySem.W.OpenLaw} {w : World} {K : PySem.W.Frag} {h : Heap} {mg : Str → Option Value} {fa : Addr} (X : K.In h) (G : h.Ns mainGlobals mg) (hfa : mg "law" = some (.ref fa))
    {f0 : Addr} {od0 an0 : Option Addr} {sl0 : Array (Option Value)} {oc0 kV0 dc0 pm0 ct0 : Value} {cd0 : Value}
    (a0 : PySem.W.nsIn K mainGlobals "check_count" = some (some (.ref f0)))
    (l0 : K.lookup f0 = some ⟨oc0, od0, .func (PySem.W.fnOf "check_count" "check_count" (defArgs s_check_count) (defBody s_check_count) (defScope s_check_count) .none kV0 dc0 pm0 an0 cd0 ct0), sl0⟩)
    (c0 : PySem.W.codeIn K cd0 "check_count" = true)
    (k0 : PySem.W.keepIn K (.ref f0) = true)
    {f1 : Addr} {od1 an1 : Option Addr} {sl1 : Array (Option Value)} {oc1 kV1 dc1 pm1 ct1 : Value} {cd1 : Value}
    (a1 : PySem.W.nsIn K mainGlobals "is_letters" = some (some (.ref f1)))
    (l1 : K.lookup f1 = some ⟨oc1, od1, .func (PySem.W.fnOf "is_letters" "is_letters" (defArgs s_is_letters) (defBody s_is_letters) (defScope s_is_letters) .none kV1 dc1 pm1 an1 cd1 ct1), sl1⟩)
    (c1 : PySem.W.codeIn K cd1 "is_letters" = true)
    (k1 : PySem.W.keepIn K (.ref f1) = true)
    {f2 : Addr} {od2 an2 : Option Addr} {sl2 : Array (Option Value)} {oc2 kV2 dc2 pm2 ct2 : Value} {cd2 : Value}
    (a2 : PySem.W.nsIn K mainGlobals "is_word" = some (some (.ref f2)))
    (l2 : K.lookup f2 = some ⟨oc2, od2, .func (PySem.W.fnOf "is_word" "is_word" (defArgs s_is_word) (defBody s_is_word) (defScope s_is_word) .none kV2 dc2 pm2 an2 cd2 ct2), sl2⟩)
    (c2 : PySem.W.codeIn K cd2 "is_word" = true)
    (k2 : PySem.W.keepIn K (.ref f2) = true)
    {f3 : Addr} {od3 an3 : Option Addr} {sl3 : Array (Option Value)} {oc3 kV3 dc3 pm3 ct3 : Value} {cd3 : Value}
    (a3 : PySem.W.nsIn K mainGlobals "is_place" = some (some (.ref f3)))
    (l3 : K.lookup f3 = some ⟨oc3, od3, .func (PySem.W.fnOf "is_place" "is_place" (defArgs s_is_place) (defBody s_is_place) (defScope s_is_place) .none kV3 dc3 pm3 an3 cd3 ct3), sl3⟩)
    (c3 : PySem.W.codeIn K cd3 "is_place" = true)
    (k3 : PySem.W.keepIn K (.ref f3) = true)
    {f4 : Addr} {od4 an4 : Option Addr} {sl4 : Array (Option Value)} {oc4 kV4 dc4 pm4 ct4 : Value} {cd4 : Value}
    (a4 : PySem.W.nsIn K mainGlobals "check_network" = some (some (.ref f4)))
    (l4 : K.lookup f4 = some ⟨oc4, od4, .func (PySem.W.fnOf "check_network" "check_network" (defArgs s_check_network) (defBody s_check_network) (defScope s_check_network) .none kV4 dc4 pm4 an4 cd4 ct4), sl4⟩)
    (c4 : PySem.W.codeIn K cd4 "check_network" = true)
    (k4 : PySem.W.keepIn K (.ref f4) = true)
    {f5 : Addr} {od5 an5 : Option Addr} {sl5 : Array (Option Value)} {oc5 kV5 dc5 pm5 ct5 : Value} {c_reachable_stations : Addr}
    (a5 : PySem.W.nsIn K mainGlobals "reachable_stations" = some (some (.ref f5)))
    (l5 : K.lookup f5 = some ⟨oc5, od5, .func (PySem.W.fnOf "reachable_stations" "reachable_stations" (defArgs s_reachable_stations) (defBody s_reachable_stations) (defScope s_reachable_stations) .none kV5 dc5 pm5 an5 (.ref c_reachable_stations) ct5), sl5⟩)
    (c5 : PySem.W.codeIn K (.ref c_reachable_stations) "reachable_stations" = true)
    (k5 : PySem.W.keepIn K (.ref f5) = true)
    (kd_reachable_stations : PySem.W.kdsCode K (.ref c_reachable_stations) = true)
    {f6 : Addr} {od6 an6 : Option Addr} {sl6 : Array (Option Value)} {oc6 kV6 dc6 pm6 ct6 : Value} {cd6 : Value}
    (a6 : PySem.W.nsIn K mainGlobals "ports" = some (some (.ref f6)))
    (l6 : K.lookup f6 = some ⟨oc6, od6, .func (PySem.W.fnOf "ports" "ports" (defArgs s_ports) (defBody s_ports) (defScope s_ports) .none kV6 dc6 pm6 an6 cd6 ct6), sl6⟩)
    (c6 : PySem.W.codeIn K cd6 "ports" = true)
    (k6 : PySem.W.keepIn K (.ref f6) = true)
    {f7 : Addr} {od7 an7 : Option Addr} {sl7 : Array (Option Value)} {oc7 kV7 dc7 pm7 ct7 : Value} {cd7 : Value}
    (a7 : PySem.W.nsIn K mainGlobals "lowest_terms" = some (some (.ref f7)))
    (l7 : K.lookup f7 = some ⟨oc7, od7, .func (PySem.W.fnOf "lowest_terms" "lowest_terms" (defArgs s_lowest_terms) (defBody s_lowest_terms) (defScope s_lowest_terms) .none kV7 dc7 pm7 an7 cd7 ct7), sl7⟩)
    (c7 : PySem.W.codeIn K cd7 "lowest_terms" = true)
    (k7 : PySem.W.keepIn K (.ref f7) = true)
    {f8 : Addr} {od8 an8 : Option Addr} {sl8 : Array (Option Value)} {oc8 kV8 dc8 pm8 ct8 : Value} {cd8 : Value}
    (a8 : PySem.W.nsIn K mainGlobals "add" = some (some (.ref f8)))
    (l8 : K.lookup f8 = some ⟨oc8, od8, .func (PySem.W.fnOf "add" "add" (defArgs s_add) (defBody s_add) (defScope s_add) .none kV8 dc8 pm8 an8 cd8 ct8), sl8⟩)
    (c8 : PySem.W.codeIn K cd8 "add" = true)
    (k8 : PySem.W.keepIn K (.ref f8) = true)
    {f9 : Addr} {od9 an9 : Option Addr} {sl9 : Array (Option Value)} {oc9 kV9 dc9 pm9 ct9 : Value} {cd9 : Value}
    (a9 : PySem.W.nsIn K mainGlobals "divide" = some (some (.ref f9)))
    (l9 : K.lookup f9 = some ⟨oc9, od9, .func (PySem.W.fnOf "divide" "divide" (defArgs s_divide) (defBody s_divide) (defScope s_divide) .none kV9 dc9 pm9 an9 cd9 ct9), sl9⟩)
    (c9 : PySem.W.codeIn K cd9 "divide" = true)
    (k9 : PySem.W.keepIn K (.ref f9) = true)
    {f10 : Addr} {od10 an10 : Option Addr} {sl10 : Array (Option Value)} {oc10 kV10 dc10 pm10 ct10 : Value} {cd10 : Value}
    (a10 : PySem.W.nsIn K mainGlobals "total" = some (some (.ref f10)))
    (l10 : K.lookup f10 = some ⟨oc10, od10, .func (PySem.W.fnOf "total" "total" (defArgs s_total) (defBody s_total) (defScope s_total) .none kV10 dc10 pm10 an10 cd10 ct10), sl10⟩)
    (c10 : PySem.W.codeIn K cd10 "total" = true)
    (k10 : PySem.W.keepIn K (.ref f10) = true)
    {f11 : Addr} {od11 an11 : Option Addr} {sl11 : Array (Option Value)} {oc11 kV11 dc11 pm11 ct11 : Value} {cd11 : Value}
    (a11 : PySem.W.nsIn K mainGlobals "period" = some (some (.ref f11)))
    (l11 : K.lookup f11 = some ⟨oc11, od11, .func (PySem.W.fnOf "period" "period" (defArgs s_period) (defBody s_period) (defScope s_period) .none kV11 dc11 pm11 an11 cd11 ct11), sl11⟩)
    (c11 : PySem.W.codeIn K cd11 "period" = true)
    (k11 : PySem.W.keepIn K (.ref f11) = true)
    {f12 : Addr} {od12 an12 : Option Addr} {sl12 : Array (Option Value)} {oc12 kV12 dc12 pm12 ct12 : Value} {cd12 : Value}
    (a12 : PySem.W.nsIn K mainGlobals "shares" = some (some (.ref f12)))
    (l12 : K.lookup f12 = some ⟨oc12, od12, .func (PySem.W.fnOf "shares" "shares" (defArgs s_shares) (defBody s_shares) (defScope s_shares) .none kV12 dc12 pm12 an12 cd12 ct12), sl12⟩)
    (c12 : PySem.W.codeIn K cd12 "shares" = true)
    (k12 : PySem.W.keepIn K (.ref f12) = true)
    {f13 : Addr} {od13 an13 : Option Addr} {sl13 : Array (Option Value)} {oc13 kV13 dc13 pm13 ct13 : Value} {cd13 : Value}
    (a13 : PySem.W.nsIn K mainGlobals "average_boats" = some (some (.ref f13)))
    (l13 : K.lookup f13 = some ⟨oc13, od13, .func (PySem.W.fnOf "average_boats" "average_boats" (defArgs s_average_boats) (defBody s_average_boats) (defScope s_average_boats) .none kV13 dc13 pm13 an13 cd13 ct13), sl13⟩)
    (c13 : PySem.W.codeIn K cd13 "average_boats" = true)
    (k13 : PySem.W.keepIn K (.ref f13) = true)
    {f14 : Addr} {od14 an14 : Option Addr} {sl14 : Array (Option Value)} {oc14 kV14 dc14 pm14 ct14 : Value} {cd14 : Value}
    (a14 : PySem.W.nsIn K mainGlobals "list_averages" = some (some (.ref f14)))
    (l14 : K.lookup f14 = some ⟨oc14, od14, .func (PySem.W.fnOf "list_averages" "list_averages" (defArgs s_list_averages) (defBody s_list_averages) (defScope s_list_averages) .none kV14 dc14 pm14 an14 cd14 ct14), sl14⟩)
    (c14 : PySem.W.codeIn K cd14 "list_averages" = true)
    (k14 : PySem.W.keepIn K (.ref f14) = true)
    {f15 : Addr} {od15 an15 : Option Addr} {sl15 : Array (Option Value)} {oc15 kV15 dc15 pm15 ct15 : Value} {cd15 : Value}
    (a15 : PySem.W.nsIn K mainGlobals "find_feeders" = some (some (.ref f15)))
    (l15 : K.lookup f15 = some ⟨oc15, od15, .func (PySem.W.fnOf "find_feeders" "find_feeders" (defArgs s_find_feeders) (defBody s_find_feeders) (defScope s_find_feeders) .none kV15 dc15 pm15 an15 cd15 ct15), sl15⟩)
    (c15 : PySem.W.codeIn K cd15 "find_feeders" = true)
    (k15 : PySem.W.keepIn K (.ref f15) = true)
    {f16 : Addr} {od16 an16 : Option Addr} {sl16 : Array (Option Value)} {oc16 kV16 dc16 pm16 ct16 : Value} {cd16 : Value}
    (a16 : PySem.W.nsIn K mainGlobals "count_brought" = some (some (.ref f16)))
    (l16 : K.lookup f16 = some ⟨oc16, od16, .func (PySem.W.fnOf "count_brought" "count_brought" (defArgs s_count_brought) (defBody s_count_brought) (defScope s_count_brought) .none kV16 dc16 pm16 an16 cd16 ct16), sl16⟩)
    (c16 : PySem.W.codeIn K cd16 "count_brought" = true)
    (k16 : PySem.W.keepIn K (.ref f16) = true)
    {f17 : Addr} {od17 an17 : Option Addr} {sl17 : Array (Option Value)} {oc17 kV17 dc17 pm17 ct17 : Value} {cd17 : Value}
    (a17 : PySem.W.nsIn K mainGlobals "count_departures" = some (some (.ref f17)))
    (l17 : K.lookup f17 = some ⟨oc17, od17, .func (PySem.W.fnOf "count_departures" "count_departures" (defArgs s_count_departures) (defBody s_count_departures) (defScope s_count_departures) .none kV17 dc17 pm17 an17 cd17 ct17), sl17⟩)
    (c17 : PySem.W.codeIn K cd17 "count_departures" = true)
    (k17 : PySem.W.keepIn K (.ref f17) = true)
    {f18 : Addr} {od18 an18 : Option Addr} {sl18 : Array (Option Value)} {oc18 kV18 dc18 pm18 ct18 : Value} {cd18 : Value}
    (a18 : PySem.W.nsIn K mainGlobals "check_state" = some (some (.ref f18)))
    (l18 : K.lookup f18 = some ⟨oc18, od18, .func (PySem.W.fnOf "check_state" "check_state" (defArgs s_check_state) (defBody s_check_state) (defScope s_check_state) .none kV18 dc18 pm18 an18 cd18 ct18), sl18⟩)
    (c18 : PySem.W.codeIn K cd18 "check_state" = true)
    (k18 : PySem.W.keepIn K (.ref f18) = true)
    {f19 : Addr} {od19 an19 : Option Addr} {sl19 : Array (Option Value)} {oc19 kV19 dc19 pm19 ct19 : Value} {cd19 : Value}
    (a19 : PySem.W.nsIn K mainGlobals "check_passengers" = some (some (.ref f19)))
    (l19 : K.lookup f19 = some ⟨oc19, od19, .func (PySem.W.fnOf "check_passengers" "check_passengers" (defArgs s_check_passengers) (defBody s_check_passengers) (defScope s_check_passengers) .none kV19 dc19 pm19 an19 cd19 ct19), sl19⟩)
    (c19 : PySem.W.codeIn K cd19 "check_passengers" = true)
    (k19 : PySem.W.keepIn K (.ref f19) = true)
    {f20 : Addr} {od20 an20 : Option Addr} {sl20 : Array (Option Value)} {oc20 kV20 dc20 pm20 ct20 : Value} {cd20 : Value}
    (a20 : PySem.W.nsIn K mainGlobals "queue_lengths" = some (some (.ref f20)))
    (l20 : K.lookup f20 = some ⟨oc20, od20, .func (PySem.W.fnOf "queue_lengths" "queue_lengths" (defArgs s_queue_lengths) (defBody s_queue_lengths) (defScope s_queue_lengths) .none kV20 dc20 pm20 an20 cd20 ct20), sl20⟩)
    (c20 : PySem.W.codeIn K cd20 "queue_lengths" = true)
    (k20 : PySem.W.keepIn K (.ref f20) = true)
    {f21 : Addr} {od21 an21 : Option Addr} {sl21 : Array (Option Value)} {oc21 kV21 dc21 pm21 ct21 : Value} {cd21 : Value}
    (a21 : PySem.W.nsIn K mainGlobals "count_boats" = some (some (.ref f21)))
    (l21 : K.lookup f21 = some ⟨oc21, od21, .func (PySem.W.fnOf "count_boats" "count_boats" (defArgs s_count_boats) (defBody s_count_boats) (defScope s_count_boats) .none kV21 dc21 pm21 an21 cd21 ct21), sl21⟩)
    (c21 : PySem.W.codeIn K cd21 "count_boats" = true)
    (k21 : PySem.W.keepIn K (.ref f21) = true)
    {f22 : Addr} {od22 an22 : Option Addr} {sl22 : Array (Option Value)} {oc22 kV22 dc22 pm22 ct22 : Value} {cd22 : Value}
    (a22 : PySem.W.nsIn K mainGlobals "count_finished" = some (some (.ref f22)))
    (l22 : K.lookup f22 = some ⟨oc22, od22, .func (PySem.W.fnOf "count_finished" "count_finished" (defArgs s_count_finished) (defBody s_count_finished) (defScope s_count_finished) .none kV22 dc22 pm22 an22 cd22 ct22), sl22⟩)
    (c22 : PySem.W.codeIn K cd22 "count_finished" = true)
    (k22 : PySem.W.keepIn K (.ref f22) = true)
    {f23 : Addr} {od23 an23 : Option Addr} {sl23 : Array (Option Value)} {oc23 kV23 dc23 pm23 ct23 : Value} {cd23 : Value}
    (a23 : PySem.W.nsIn K mainGlobals "_law_mix" = some (some (.ref f23)))
    (l23 : K.lookup f23 = some ⟨oc23, od23, .func (PySem.W.fnOf "_law_mix" "_law_mix" (defArgs s_l_mix) (defBody s_l_mix) (defScope s_l_mix) .none kV23 dc23 pm23 an23 cd23 ct23), sl23⟩)
    (c23 : PySem.W.codeIn K cd23 "_law_mix" = true)
    (k23 : PySem.W.keepIn K (.ref f23) = true)
    {f24 : Addr} {od24 an24 : Option Addr} {sl24 : Array (Option Value)} {oc24 kV24 dc24 pm24 ct24 : Value} {cd24 : Value}
    (a24 : PySem.W.nsIn K mainGlobals "_law_next" = some (some (.ref f24)))
    (l24 : K.lookup f24 = some ⟨oc24, od24, .func (PySem.W.fnOf "_law_next" "_law_next" (defArgs s_l_next) (defBody s_l_next) (defScope s_l_next) .none kV24 dc24 pm24 an24 cd24 ct24), sl24⟩)
    (c24 : PySem.W.codeIn K cd24 "_law_next" = true)
    (k24 : PySem.W.keepIn K (.ref f24) = true)
    {f25 : Addr} {od25 an25 : Option Addr} {sl25 : Array (Option Value)} {oc25 kV25 dc25 pm25 ct25 : Value} {cd25 : Value}
    (a25 : PySem.W.nsIn K mainGlobals "_law_alike" = some (some (.ref f25)))
    (l25 : K.lookup f25 = some ⟨oc25, od25, .func (PySem.W.fnOf "_law_alike" "_law_alike" (defArgs s_l_alike) (defBody s_l_alike) (defScope s_l_alike) .none kV25 dc25 pm25 an25 cd25 ct25), sl25⟩)
    (c25 : PySem.W.codeIn K cd25 "_law_alike" = true)
    (k25 : PySem.W.keepIn K (.ref f25) = true)
    {f26 : Addr} {od26 an26 : Option Addr} {sl26 : Array (Option Value)} {oc26 kV26 dc26 pm26 ct26 : Value} {cd26 : Value}
    (a26 : PySem.W.nsIn K mainGlobals "_law_place" = some (some (.ref f26)))
    (l26 : K.lookup f26 = some ⟨oc26, od26, .func (PySem.W.fnOf "_law_place" "_law_place" (defArgs s_l_place) (defBody s_l_place) (defScope s_l_place) .none kV26 dc26 pm26 an26 cd26 ct26), sl26⟩)
    (c26 : PySem.W.codeIn K cd26 "_law_place" = true)
    (k26 : PySem.W.keepIn K (.ref f26) = true)
    {f27 : Addr} {od27 an27 : Option Addr} {sl27 : Array (Option Value)} {oc27 kV27 dc27 pm27 ct27 : Value} {cd27 : Value}
    (a27 : PySem.W.nsIn K mainGlobals "_law_network" = some (some (.ref f27)))
    (l27 : K.lookup f27 = some ⟨oc27, od27, .func (PySem.W.fnOf "_law_network" "_law_network" (defArgs s_l_network) (defBody s_l_network) (defScope s_l_network) .none kV27 dc27 pm27 an27 cd27 ct27), sl27⟩)
    (c27 : PySem.W.codeIn K cd27 "_law_network" = true)
    (k27 : PySem.W.keepIn K (.ref f27) = true)
    {f28 : Addr} {od28 an28 : Option Addr} {sl28 : Array (Option Value)} {oc28 kV28 dc28 pm28 ct28 : Value} {cd28 : Value}
    (a28 : PySem.W.nsIn K mainGlobals "_law_join" = some (some (.ref f28)))
    (l28 : K.lookup f28 = some ⟨oc28, od28, .func (PySem.W.fnOf "_law_join" "_law_join" (defArgs s_l_join) (defBody s_l_join) (defScope s_l_join) .none kV28 dc28 pm28 an28 cd28 ct28), sl28⟩)
    (c28 : PySem.W.codeIn K cd28 "_law_join" = true)
    (k28 : PySem.W.keepIn K (.ref f28) = true)
    {f29 : Addr} {od29 an29 : Option Addr} {sl29 : Array (Option Value)} {oc29 kV29 dc29 pm29 ct29 : Value} {cd29 : Value}
    (a29 : PySem.W.nsIn K mainGlobals "_law_depart" = some (some (.ref f29)))
    (l29 : K.lookup f29 = some ⟨oc29, od29, .func (PySem.W.fnOf "_law_depart" "_law_depart" (defArgs s_l_depart) (defBody s_l_depart) (defScope s_l_depart) .none kV29 dc29 pm29 an29 cd29 ct29), sl29⟩)
    (c29 : PySem.W.codeIn K cd29 "_law_depart" = true)
    (k29 : PySem.W.keepIn K (.ref f29) = true)
    {f30 : Addr} {od30 an30 : Option Addr} {sl30 : Array (Option Value)} {oc30 kV30 dc30 pm30 ct30 : Value} {cd30 : Value}
    (a30 : PySem.W.nsIn K mainGlobals "_law_state" = some (some (.ref f30)))
    (l30 : K.lookup f30 = some ⟨oc30, od30, .func (PySem.W.fnOf "_law_state" "_law_state" (defArgs s_l_state) (defBody s_l_state) (defScope s_l_state) .none kV30 dc30 pm30 an30 cd30 ct30), sl30⟩)
    (c30 : PySem.W.codeIn K cd30 "_law_state" = true)
    (k30 : PySem.W.keepIn K (.ref f30) = true)
    {f31 : Addr} {od31 an31 : Option Addr} {sl31 : Array (Option Value)} {oc31 kV31 dc31 pm31 ct31 : Value} {cd31 : Value}
    (a31 : PySem.W.nsIn K mainGlobals "_law_sum" = some (some (.ref f31)))
    (l31 : K.lookup f31 = some ⟨oc31, od31, .func (PySem.W.fnOf "_law_sum" "_law_sum" (defArgs s_l_sum) (defBody s_l_sum) (defScope s_l_sum) .none kV31 dc31 pm31 an31 cd31 ct31), sl31⟩)
    (c31 : PySem.W.codeIn K cd31 "_law_sum" = true)
    (k31 : PySem.W.keepIn K (.ref f31) = true)
    {f32 : Addr} {od32 an32 : Option Addr} {sl32 : Array (Option Value)} {oc32 kV32 dc32 pm32 ct32 : Value} {cd32 : Value}
    (a32 : PySem.W.nsIn K mainGlobals "law" = some (some (.ref f32)))
    (l32 : K.lookup f32 = some ⟨oc32, od32, .func (PySem.W.fnOf "law" "law" (defArgs s_law) (defBody s_law) (defScope s_law) .none kV32 dc32 pm32 an32 cd32 ct32), sl32⟩)
    (c32 : PySem.W.codeIn K cd32 "law" = true)
    (k32 : PySem.W.keepIn K (.ref f32) = true)
    {t0 : Nat}
    (m0 : PySem.W.nsIn K mainGlobals "MAX_COUNT" = some (some (.int 1000000000000000000 t0)))
    {t1 : Nat}
    (m1 : PySem.W.nsIn K mainGlobals "MAX_STATIONS" = some (some (.int 40 t1)))
    {t2 : Nat}
    (m2 : PySem.W.nsIn K mainGlobals "MAX_SEATS" = some (some (.int 8 t2)))
    {t3 : Nat}
    (m3 : PySem.W.nsIn K mainGlobals "MAX_LETTERS" = some (some (.int 8 t3)))
    {z_ZERO : Addr} {zo_ZERO : Option Addr} {zn_ZERO : Nat} {zs_ZERO : Array (Option Value)} {zt_ZERO_0 : Nat} {zt_ZERO_1 : Nat}
    (m4 : PySem.W.nsIn K mainGlobals "ZERO" = some (some (.ref z_ZERO)))
    (q4 : K.lookup z_ZERO = some ⟨.type "tuple", zo_ZERO, .seq #[.int 0 zt_ZERO_0, .int 1 zt_ZERO_1] zn_ZERO, zs_ZERO⟩)
    {z_ONE : Addr} {zo_ONE : Option Addr} {zn_ONE : Nat} {zs_ONE : Array (Option Value)} {zt_ONE_0 : Nat} {zt_ONE_1 : Nat}
    (m5 : PySem.W.nsIn K mainGlobals "ONE" = some (some (.ref z_ONE)))
    (q5 : K.lookup z_ONE = some ⟨.type "tuple", zo_ONE, .seq #[.int 1 zt_ONE_0, .int 1 zt_ONE_1] zn_ONE, zs_ONE⟩)
    (im_gcd : PySem.W.nsIn K mainGlobals "gcd" = some (some (.builtin "math.gcd")))
    (im_lcm : PySem.W.nsIn K mainGlobals "lcm" = some (some (.builtin "math.lcm")))
    (z0 : PySem.W.nsIn K mainGlobals "range" = some none)
    (z1 : PySem.W.nsIn K mainGlobals "tuple" = some none)
    (z2 : PySem.W.nsIn K mainGlobals "min" = some none)
    (z3 : PySem.W.nsIn K mainGlobals "isinstance" = some none)
    (z4 : PySem.W.nsIn K mainGlobals "str" = some none)
    (z5 : PySem.W.nsIn K mainGlobals "dict" = some none)
    (z6 : PySem.W.nsIn K mainGlobals "bool" = some none)
    (z7 : PySem.W.nsIn K mainGlobals "sorted" = some none)
    (z8 : PySem.W.nsIn K mainGlobals "set" = some none)
    (z9 : PySem.W.nsIn K mainGlobals "enumerate" = some none)
    (z10 : PySem.W.nsIn K mainGlobals "all" = some none)
    (z11 : PySem.W.nsIn K mainGlobals "len" = some none)
    (z12 : PySem.W.nsIn K mainGlobals "list" = some none)
    (z13 : PySem.W.nsIn K mainGlobals "int" = some none)
    (z14 : PySem.W.nsIn K mainGlobals "max" = some none)
    (z15 : PySem.W.nsIn K mainGlobals "sum" = some none)
    (z16 : PySem.W.nsIn K mainGlobals "zip" = some none)
    (z17 : PySem.W.nsIn K mainGlobals "abs" = some none)
    (z18 : PySem.W.nsIn K mainGlobals "reversed" = some none)
    (z19 : PySem.W.nsIn K mainGlobals "any" = some none)
    : ∃ fd : FuncData, (∀ (s : Shared) (v : Value), BindsTo s fd ⟨[v], []⟩ [("_law_script", v)]) ∧ ∀ base : Heap, K.In base → base.Ns mainGlobals mg → FnOk l.prog w K mg base CX0 19 fa fd ["_law_script"] (spLaw K) := by
  have e := hfa.symm.trans (PySem.W.mg_of X G a32)
  cases e
  have F0 := fun_mk (st := s_check_count) l0 c0 k0
  have D_check_count : Df K mg "check_count" s_check_count ["count", "least", "most"] f0 _ := ⟨F0, PySem.W.mg_of X G a0, F0.binds (ps := ["count", "least", "most"]) fun _ _ _ _ _ _ us hl => match us, hl with | [_, _, _], _ => rfl⟩
  have F1 := fun_mk (st := s_is_letters) l1 c1 k1
  have D_is_letters : Df K mg "is_letters" s_is_letters ["text"] f1 _ := ⟨F1, PySem.W.mg_of X G a1, F1.binds (ps := ["text"]) fun _ _ _ _ _ _ us hl => match us, hl with | [_], _ => rfl⟩
  have F2 := fun_mk (st := s_is_word) l2 c2 k2
  have D_is_word : Df K mg "is_word" s_is_word ["text"] f2 _ := ⟨F2, PySem.W.mg_of X G a2, F2.binds (ps := ["text"]) fun _ _ _ _ _ _ us hl => match us, hl with | [_], _ => rfl⟩
  have F3 := fun_mk (st := s_is_place) l3 c3 k3
  have D_is_place : Df K mg "is_place" s_is_place ["place", "station", "stations"] f3 _ := ⟨F3, PySem.W.mg_of X G a3, F3.binds (ps := ["place", "station", "stations"]) fun _ _ _ _ _ _ us hl => match us, hl with | [_, _, _], _ => rfl⟩
  have F4 := fun_mk (st := s_check_network) l4 c4 k4
  have D_check_network : Df K mg "check_network" s_check_network ["network"] f4 _ := ⟨F4, PySem.W.mg_of X G a4, F4.binds (ps := ["network"]) fun _ _ _ _ _ _ us hl => match us, hl with | [_], _ => rfl⟩
  have F5 := fun_mk (st := s_reachable_stations) l5 c5 k5
  have D_reachable_stations : Df K mg "reachable_stations" s_reachable_stations ["network"] f5 _ := ⟨F5, PySem.W.mg_of X G a5, F5.binds (ps := ["network"]) fun _ _ _ _ _ _ us hl => match us, hl with | [_], _ => rfl⟩
  have F6 := fun_mk (st := s_ports) l6 c6 k6
  have D_ports : Df K mg "ports" s_ports ["network"] f6 _ := ⟨F6, PySem.W.mg_of X G a6, F6.binds (ps := ["network"]) fun _ _ _ _ _ _ us hl => match us, hl with | [_], _ => rfl⟩
  have F7 := fun_mk (st := s_lowest_terms) l7 c7 k7
  have D_lowest_terms : Df K mg "lowest_terms" s_lowest_terms ["numerator", "denominator"] f7 _ := ⟨F7, PySem.W.mg_of X G a7, F7.binds (ps := ["numerator", "denominator"]) fun _ _ _ _ _ _ us hl => match us, hl with | [_, _], _ => rfl⟩
  have F8 := fun_mk (st := s_add) l8 c8 k8
  have D_add : Df K mg "add" s_add ["one", "other"] f8 _ := ⟨F8, PySem.W.mg_of X G a8, F8.binds (ps := ["one", "other"]) fun _ _ _ _ _ _ us hl => match us, hl with | [_, _], _ => rfl⟩
  have F9 := fun_mk (st := s_divide) l9 c9 k9
  have D_divide : Df K mg "divide" s_divide ["fraction", "integer"] f9 _ := ⟨F9, PySem.W.mg_of X G a9, F9.binds (ps := ["fraction", "integer"]) fun _ _ _ _ _ _ us hl => match us, hl with | [_, _], _ => rfl⟩
  have F10 := fun_mk (st := s_total) l10 c10 k10
  have D_total : Df K mg "total" s_total ["fractions"] f10 _ := ⟨F10, PySem.W.mg_of X G a10, F10.binds (ps := ["fractions"]) fun _ _ _ _ _ _ us hl => match us, hl with | [_], _ => rfl⟩
  have F11 := fun_mk (st := s_period) l11 c11 k11
  have D_period : Df K mg "period" s_period ["network"] f11 _ := ⟨F11, PySem.W.mg_of X G a11, F11.binds (ps := ["network"]) fun _ _ _ _ _ _ us hl => match us, hl with | [_], _ => rfl⟩
  have F12 := fun_mk (st := s_shares) l12 c12 k12
  have D_shares : Df K mg "shares" s_shares ["network"] f12 _ := ⟨F12, PySem.W.mg_of X G a12, F12.binds (ps := ["network"]) fun _ _ _ _ _ _ us hl => match us, hl with | [_], _ => rfl⟩
  have F13 := fun_mk (st := s_average_boats) l13 c13 k13
  have D_average_boats : Df K mg "average_boats" s_average_boats ["network"] f13 _ := ⟨F13, PySem.W.mg_of X G a13, F13.binds (ps := ["network"]) fun _ _ _ _ _ _ us hl => match us, hl with | [_], _ => rfl⟩
  have F14 := fun_mk (st := s_list_averages) l14 c14 k14
  have D_list_averages : Df K mg "list_averages" s_list_averages ["network"] f14 _ := ⟨F14, PySem.W.mg_of X G a14, F14.binds (ps := ["network"]) fun _ _ _ _ _ _ us hl => match us, hl with | [_], _ => rfl⟩
  have F15 := fun_mk (st := s_find_feeders) l15 c15 k15
  have D_find_feeders : Df K mg "find_feeders" s_find_feeders ["network"] f15 _ := ⟨F15, PySem.W.mg_of X G a15, F15.binds (ps := ["network"]) fun _ _ _ _ _ _ us hl => match us, hl with | [_], _ => rfl⟩
  have F16 := fun_mk (st := s_count_brought) l16 c16 k16
  have D_count_brought : Df K mg "count_brought" s_count_brought ["sources", "boats"] f16 _ := ⟨F16, PySem.W.mg_of X G a16, F16.binds (ps := ["sources", "boats"]) fun _ _ _ _ _ _ us hl => match us, hl with | [_, _], _ => rfl⟩
  have F17 := fun_mk (st := s_count_departures) l17 c17 k17
  have D_count_departures : Df K mg "count_departures" s_count_departures ["network", "feeders", "lengths", "arrivals"] f17 _ := ⟨F17, PySem.W.mg_of X G a17, F17.binds (ps := ["network", "feeders", "lengths", "arrivals"]) fun _ _ _ _ _ _ us hl => match us, hl with | [_, _, _, _], _ => rfl⟩
  have F18 := fun_mk (st := s_check_state) l18 c18 k18
  have D_check_state : Df K mg "check_state" s_check_state ["network", "state"] f18 _ := ⟨F18, PySem.W.mg_of X G a18, F18.binds (ps := ["network", "state"]) fun _ _ _ _ _ _ us hl => match us, hl with | [_, _], _ => rfl⟩
  have F19 := fun_mk (st := s_check_passengers) l19 c19 k19
  have D_check_passengers : Df K mg "check_passengers" s_check_passengers ["next_passenger", "queues"] f19 _ := ⟨F19, PySem.W.mg_of X G a19, F19.binds (ps := ["next_passenger", "queues"]) fun _ _ _ _ _ _ us hl => match us, hl with | [_, _], _ => rfl⟩
  have F20 := fun_mk (st := s_queue_lengths) l20 c20 k20
  have D_queue_lengths : Df K mg "queue_lengths" s_queue_lengths ["state"] f20 _ := ⟨F20, PySem.W.mg_of X G a20, F20.binds (ps := ["state"]) fun _ _ _ _ _ _ us hl => match us, hl with | [_], _ => rfl⟩
  have F21 := fun_mk (st := s_count_boats) l21 c21 k21
  have D_count_boats : Df K mg "count_boats" s_count_boats ["network", "state", "count"] f21 _ := ⟨F21, PySem.W.mg_of X G a21, F21.binds (ps := ["network", "state", "count"]) fun _ _ _ _ _ _ us hl => match us, hl with | [_, _, _], _ => rfl⟩
  have F22 := fun_mk (st := s_count_finished) l22 c22 k22
  have D_count_finished : Df K mg "count_finished" s_count_finished ["network", "state", "count"] f22 _ := ⟨F22, PySem.W.mg_of X G a22, F22.binds (ps := ["network", "state", "count"]) fun _ _ _ _ _ _ us hl => match us, hl with | [_, _, _], _ => rfl⟩
  have F23 := fun_mk (st := s_l_mix) l23 c23 k23
  have D_l_mix : Df K mg "_law_mix" s_l_mix ["_law_script", "_law_seed"] f23 _ := ⟨F23, PySem.W.mg_of X G a23, F23.binds (ps := ["_law_script", "_law_seed"]) fun _ _ _ _ _ _ us hl => match us, hl with | [_, _], _ => rfl⟩
  have F24 := fun_mk (st := s_l_next) l24 c24 k24
  have D_l_next : Df K mg "_law_next" s_l_next ["_law_h", "_law_limit"] f24 _ := ⟨F24, PySem.W.mg_of X G a24, F24.binds (ps := ["_law_h", "_law_limit"]) fun _ _ _ _ _ _ us hl => match us, hl with | [_, _], _ => rfl⟩
  have F25 := fun_mk (st := s_l_alike) l25 c25 k25
  have D_l_alike : Df K mg "_law_alike" s_l_alike ["_law_found", "_law_due"] f25 _ := ⟨F25, PySem.W.mg_of X G a25, F25.binds (ps := ["_law_found", "_law_due"]) fun _ _ _ _ _ _ us hl => match us, hl with | [_, _], _ => rfl⟩
  have F26 := fun_mk (st := s_l_place) l26 c26 k26
  have D_l_place : Df K mg "_law_place" s_l_place ["_law_h", "_law_station", "_law_count"] f26 _ := ⟨F26, PySem.W.mg_of X G a26, F26.binds (ps := ["_law_h", "_law_station", "_law_count"]) fun _ _ _ _ _ _ us hl => match us, hl with | [_, _, _], _ => rfl⟩
  have F27 := fun_mk (st := s_l_network) l27 c27 k27
  have D_l_network : Df K mg "_law_network" s_l_network ["_law_h", "_law_most"] f27 _ := ⟨F27, PySem.W.mg_of X G a27, F27.binds (ps := ["_law_h", "_law_most"]) fun _ _ _ _ _ _ us hl => match us, hl with | [_, _], _ => rfl⟩
  have F28 := fun_mk (st := s_l_join) l28 c28 k28
  have D_l_join : Df K mg "_law_join" s_l_join ["_law_network_here", "_law_queues", "_law_station", "_law_passenger", "_law_finished"] f28 _ := ⟨F28, PySem.W.mg_of X G a28, F28.binds (ps := ["_law_network_here", "_law_queues", "_law_station", "_law_passenger", "_law_finished"]) fun _ _ _ _ _ _ us hl => match us, hl with | [_, _, _, _, _], _ => rfl⟩
  have F29 := fun_mk (st := s_l_depart) l29 c29 k29
  have D_l_depart : Df K mg "_law_depart" s_l_depart ["_law_network_here", "_law_queues", "_law_station", "_law_finished"] f29 _ := ⟨F29, PySem.W.mg_of X G a29, F29.binds (ps := ["_law_network_here", "_law_queues", "_law_station", "_law_finished"]) fun _ _ _ _ _ _ us hl => match us, hl with | [_, _, _, _], _ => rfl⟩
  have F30 := fun_mk (st := s_l_state) l30 c30 k30
  have D_l_state : Df K mg "_law_state" s_l_state ["_law_h", "_law_network_here", "_law_most"] f30 _ := ⟨F30, PySem.W.mg_of X G a30, F30.binds (ps := ["_law_h", "_law_network_here", "_law_most"]) fun _ _ _ _ _ _ us hl => match us, hl with | [_, _, _], _ => rfl⟩
  have F31 := fun_mk (st := s_l_sum) l31 c31 k31
  have D_l_sum : Df K mg "_law_sum" s_l_sum ["_law_fractions"] f31 _ := ⟨F31, PySem.W.mg_of X G a31, F31.binds (ps := ["_law_fractions"]) fun _ _ _ _ _ _ us hl => match us, hl with | [_], _ => rfl⟩
  have F32 := fun_mk (st := s_law) l32 c32 k32
  have g_MAX_COUNT : ∃ t, mg "MAX_COUNT" = some (.int 1000000000000000000 t) := ⟨_, PySem.W.mg_of X G m0⟩
  have g_MAX_STATIONS : ∃ t, mg "MAX_STATIONS" = some (.int 40 t) := ⟨_, PySem.W.mg_of X G m1⟩
  have g_MAX_SEATS : ∃ t, mg "MAX_SEATS" = some (.int 8 t) := ⟨_, PySem.W.mg_of X G m2⟩
  have g_MAX_LETTERS : ∃ t, mg "MAX_LETTERS" = some (.int 8 t) := ⟨_, PySem.W.mg_of X G m3⟩
  have g_ZERO : mg "ZERO" = some (.ref z_ZERO) := PySem.W.mg_of X G m4
  have t_ZERO : ∀ H, SqT K H z_ZERO [.int 0, .int 1] := fun H => .inr ⟨_, _, _, q4, rfl, rfl, by show 2 ≤ sizeLine; decide, (.cons ⟨_, rfl⟩ (.cons ⟨_, rfl⟩ .nil))⟩
  have g_ONE : mg "ONE" = some (.ref z_ONE) := PySem.W.mg_of X G m5
  have t_ONE : ∀ H, SqT K H z_ONE [.int 1, .int 1] := fun H => .inr ⟨_, _, _, q5, rfl, rfl, by show 2 ≤ sizeLine; decide, (.cons ⟨_, rfl⟩ (.cons ⟨_, rfl⟩ .nil))⟩
  have h_gcd : mg "gcd" = some (.builtin "math.gcd") := PySem.W.mg_of X G im_gcd
  have h_lcm : mg "lcm" = some (.builtin "math.lcm") := PySem.W.mg_of X G im_lcm
  have T : Bt mg := ⟨PySem.W.mg_none_of X G z0, PySem.W.mg_none_of X G z1, PySem.W.mg_none_of X G z2, PySem.W.mg_none_of X G z3, PySem.W.mg_none_of X G z4, PySem.W.mg_none_of X G z5, PySem.W.mg_none_of X G z6, PySem.W.mg_none_of X G z7, PySem.W.mg_none_of X G z8, PySem.W.mg_none_of X G z9, PySem.W.mg_none_of X G z10, PySem.W.mg_none_of X G z11, PySem.W.mg_none_of X G z12, PySem.W.mg_none_of X G z13, PySem.W.mg_none_of X G z14, PySem.W.mg_none_of X G z15, PySem.W.mg_none_of X G z16, PySem.W.mg_none_of X G z17, PySem.W.mg_none_of X G z18, PySem.W.mg_none_of X G z19⟩
  refine ⟨PySem.W.fnOf "law" "law" (defArgs s_law) (defBody s_law) (defScope s_law) .none kV32 dc32 pm32 an32 cd32 ct32, fun s v => .of_eq rfl, fun base _ _ => ?_⟩
  have F_law := F32
  have Ck : Ct K mg := ⟨g_MAX_LETTERS, g_MAX_SEATS, g_MAX_STATIONS, ⟨_, _, D_is_letters⟩⟩
  have DD : Dn K mg := ⟨⟨_, _, D_is_word⟩, ⟨_, _, D_is_place⟩, ⟨_, _, D_check_network⟩, ⟨_, _, D_check_passengers⟩, ⟨_, _, D_check_state⟩, ⟨_, _, D_check_count⟩, ⟨_, _, D_find_feeders⟩, ⟨_, _, D_count_brought⟩, ⟨_, _, D_count_departures⟩, ⟨_, _, D_queue_lengths⟩⟩
  have DFF : DF K mg z_ZERO z_ONE := ⟨⟨_, _, D_lowest_terms⟩, h_gcd, ⟨g_ZERO, t_ZERO⟩, ⟨g_ONE, t_ONE⟩⟩
  have DRR : DR K mg z_ZERO z_ONE := ⟨⟨_, _, D_is_word⟩, ⟨_, _, D_is_place⟩, ⟨_, _, D_check_network⟩, ⟨_, _, D_add⟩, ⟨_, _, D_divide⟩, ⟨_, _, D_total⟩, ⟨_, _, D_list_averages⟩, DFF⟩
  have G_reach : FnOk l.prog w K mg base CX0 5 _ _ ["network"] (spReach K) := ok_reachable_stations D_reachable_stations rfl kd_reachable_stations T Ck D_check_network D_is_word D_is_place
  have G_ports : FnOk l.prog w K mg base CX0 6 _ _ ["network"] (spPorts K) := ok_ports D_ports T D_reachable_stations G_reach
  have G_shares : FnOk l.prog w K mg base CX0 7 _ _ ["network"] (spShares K) := ok_shares D_shares T DRR D_ports G_ports
  have G_period : FnOk l.prog w K mg base CX0 5 _ _ ["network"] (spPeriod K) := ok_period D_period T Ck DRR h_lcm
  have G_avb : FnOk l.prog w K mg base CX0 5 _ _ ["network"] (spAvB K) := ok_average_boats D_average_boats T Ck DRR
  exact ok_law F_law T D_l_mix D_l_next D_l_network D_l_state D_l_alike D_l_sum D_count_boats D_count_finished D_period D_shares D_average_boats (ok_l_network D_l_network T D_l_next D_l_place) (ok_l_state D_l_state T D_l_next D_l_join D_l_depart) (ok_count_boats D_count_boats T Ck ⟨g_MAX_COUNT⟩ DD) (ok_count_finished D_count_finished T Ck ⟨g_MAX_COUNT⟩ DD D_count_boats) G_period G_shares G_avb
end K
open PySem PySem.W PyProof.Rows
set_option maxRecDepth 100000 in
set_option maxHeartbeats 0 in
theorem PySem.Challenge.cw_fullboats_k12_whole_shares_over_a_period_holds : PySem.Challenge.rw_fullboats_k12_whole_shares_over_a_period.Holds := by
  w_on; o_law; k_head; (case hw => w_witness2)
  k_fill
  refine L2.walk_of (l := PySem.Challenge.rw_fullboats_k12_whole_shares_over_a_period) (n := 63) (k := 19) (x := "_law_script") (CX := fun _ => L2.CX0) (sp := fun w => K.spLaw _) rfl (by decide) rfl ⟨rfl, by decide, by decide⟩ (fun w h Y => PySem.W.kIn_of Y) ?F (fun _ _ a ns hl _ hS => ⟨a, ns, rfl, hS, hl, fun _ => rfl⟩) (fun _ _ _ _ _ h => h)
  case F =>
    intro w mg fa h KX G hmg
    refine' K.all_mk KX G hmg ?a0 ?l0 ?c0 ?k0 ?a1 ?l1 ?c1 ?k1 ?a2 ?l2 ?c2 ?k2 ?a3 ?l3 ?c3 ?k3 ?a4 ?l4 ?c4 ?k4 ?a5 ?l5 ?c5 ?k5 ?kd_reachable_stations ?a6 ?l6 ?c6 ?k6 ?a7 ?l7 ?c7 ?k7 ?a8 ?l8 ?c8 ?k8 ?a9 ?l9 ?c9 ?k9 ?a10 ?l10 ?c10 ?k10 ?a11 ?l11 ?c11 ?k11 ?a12 ?l12 ?c12 ?k12 ?a13 ?l13 ?c13 ?k13 ?a14 ?l14 ?c14 ?k14 ?a15 ?l15 ?c15 ?k15 ?a16 ?l16 ?c16 ?k16 ?a17 ?l17 ?c17 ?k17 ?a18 ?l18 ?c18 ?k18 ?a19 ?l19 ?c19 ?k19 ?a20 ?l20 ?c20 ?k20 ?a21 ?l21 ?c21 ?k21 ?a22 ?l22 ?c22 ?k22 ?a23 ?l23 ?c23 ?k23 ?a24 ?l24 ?c24 ?k24 ?a25 ?l25 ?c25 ?k25 ?a26 ?l26 ?c26 ?k26 ?a27 ?l27 ?c27 ?k27 ?a28 ?l28 ?c28 ?k28 ?a29 ?l29 ?c29 ?k29 ?a30 ?l30 ?c30 ?k30 ?a31 ?l31 ?c31 ?k31 ?a32 ?l32 ?c32 ?k32 ?m0 ?m1 ?m2 ?m3 ?m4 ?q4 ?m5 ?q5 ?im_gcd ?im_lcm ?z0 ?z1 ?z2 ?z3 ?z4 ?z5 ?z6 ?z7 ?z8 ?z9 ?z10 ?z11 ?z12 ?z13 ?z14 ?z15 ?z16 ?z17 ?z18 ?z19
    (case a0 => k_is)
    (case l0 => k_is)
    (case c0 => k_is)
    (case k0 => k_is)
    (case a1 => k_is)
    (case l1 => k_is)
    (case c1 => k_is)
    (case k1 => k_is)
    (case a2 => k_is)
    (case l2 => k_is)
    (case c2 => k_is)
    (case k2 => k_is)
    (case a3 => k_is)
    (case l3 => k_is)
    (case c3 => k_is)
    (case k3 => k_is)
    (case a4 => k_is)
    (case l4 => k_is)
    (case c4 => k_is)
    (case k4 => k_is)
    (case a5 => k_is)
    (case l5 => k_is)
    (case c5 => k_is)
    (case k5 => k_is)
    (case kd_reachable_stations => first | k_is | rfl | kernel_rfl | decide +kernel)
    (case a6 => k_is)
    (case l6 => k_is)
    (case c6 => k_is)
    (case k6 => k_is)
    (case a7 => k_is)
    (case l7 => k_is)
    (case c7 => k_is)
    (case k7 => k_is)
    (case a8 => k_is)
    (case l8 => k_is)
    (case c8 => k_is)
    (case k8 => k_is)
    (case a9 => k_is)
    (case l9 => k_is)
    (case c9 => k_is)
    (case k9 => k_is)
    (case a10 => k_is)
    (case l10 => k_is)
    (case c10 => k_is)
    (case k10 => k_is)
    (case a11 => k_is)
    (case l11 => k_is)
    (case c11 => k_is)
    (case k11 => k_is)
    (case a12 => k_is)
    (case l12 => k_is)
    (case c12 => k_is)
    (case k12 => k_is)
    (case a13 => k_is)
    (case l13 => k_is)
    (case c13 => k_is)
    (case k13 => k_is)
    (case a14 => k_is)
    (case l14 => k_is)
    (case c14 => k_is)
    (case k14 => k_is)
    (case a15 => k_is)
    (case l15 => k_is)
    (case c15 => k_is)
    (case k15 => k_is)
    (case a16 => k_is)
    (case l16 => k_is)
    (case c16 => k_is)
    (case k16 => k_is)
    (case a17 => k_is)
    (case l17 => k_is)
    (case c17 => k_is)
    (case k17 => k_is)
    (case a18 => k_is)
    (case l18 => k_is)
    (case c18 => k_is)
    (case k18 => k_is)
    (case a19 => k_is)
    (case l19 => k_is)
    (case c19 => k_is)
    (case k19 => k_is)
    (case a20 => k_is)
    (case l20 => k_is)
    (case c20 => k_is)
    (case k20 => k_is)
    (case a21 => k_is)
    (case l21 => k_is)
    (case c21 => k_is)
    (case k21 => k_is)
    (case a22 => k_is)
    (case l22 => k_is)
    (case c22 => k_is)
    (case k22 => k_is)
    (case a23 => k_is)
    (case l23 => k_is)
    (case c23 => k_is)
    (case k23 => k_is)
    (case a24 => k_is)
    (case l24 => k_is)
    (case c24 => k_is)
    (case k24 => k_is)
    (case a25 => k_is)
    (case l25 => k_is)
    (case c25 => k_is)
    (case k25 => k_is)
    (case a26 => k_is)
    (case l26 => k_is)
    (case c26 => k_is)
    (case k26 => k_is)
    (case a27 => k_is)
    (case l27 => k_is)
    (case c27 => k_is)
    (case k27 => k_is)
    (case a28 => k_is)
    (case l28 => k_is)
    (case c28 => k_is)
    (case k28 => k_is)
    (case a29 => k_is)
    (case l29 => k_is)
    (case c29 => k_is)
    (case k29 => k_is)
    (case a30 => k_is)
    (case l30 => k_is)
    (case c30 => k_is)
    (case k30 => k_is)
    (case a31 => k_is)
    (case l31 => k_is)
    (case c31 => k_is)
    (case k31 => k_is)
    (case a32 => k_is)
    (case l32 => k_is)
    (case c32 => k_is)
    (case k32 => k_is)
    (case m0 => k_is)
    (case m1 => k_is)
    (case m2 => k_is)
    (case m3 => k_is)
    (case m4 => k_is)
    (case q4 => k_is)
    (case m5 => k_is)
    (case q5 => k_is)
    (case im_gcd => k_is)
    (case im_lcm => k_is)
    (case z0 => k_is)
    (case z1 => k_is)
    (case z2 => k_is)
    (case z3 => k_is)
    (case z4 => k_is)
    (case z5 => k_is)
    (case z6 => k_is)
    (case z7 => k_is)
    (case z8 => k_is)
    (case z9 => k_is)
    (case z10 => k_is)
    (case z11 => k_is)
    (case z12 => k_is)
    (case z13 => k_is)
    (case z14 => k_is)
    (case z15 => k_is)
    (case z16 => k_is)
    (case z17 => k_is)
    (case z18 => k_is)
    (case z19 => k_is)
