import PyProof.Rows.All
import Wide.All
import OpenK.AllK
import Wide.FinOn
import HandS.ForMost
import HandS.Codes
import HandS.Evl
import HandS.IsInst
import HandS.FStr
import HandS.StrMore
import KE.DataEq
import HandS.SetKeys
import HandS.MakeKwOnly
import PySem.Challenge.RW_foldkeep_k02_alike_names
set_option Elab.async false
set_option linter.all false
set_option maxRecDepth 100000
set_option maxHeartbeats 4000000
/-! what the laws' helpers share: values, texts, cells -/
namespace Lw
open PySem PySem.Spec PyProof.Rows L2 Evl

/-! ### small readings -/
section
variable {K : PySem.W.Frag} {σ : L2.St} {H H' : Hp} {ta tb te tx : TE} {t u : TT} {x y z v : V}
theorem rc_int {i : Int} : RC (fun xs H Q => (∃ i, xs = [V.int i] ∧ Q (V.int i) H) ∨ ∃ k, xs = [V.bl k] ∧ Q (V.int (if k = true then 1 else 0)) H) [.int i] H (.int i) :=
  fun H1 _ _ q => Or.inl ⟨i, rfl, q H1 (Ex.refl H1)⟩
theorem rc_lenStr {a : Str} (h : a.length ≤ 100000) : RC (fun xs H Q => ∃ z : Str, xs = [V.str z] ∧ z.length ≤ sizeLine ∧ Q (V.int z.length) H) [.str a] H (.int a.length) :=
  fun H1 _ _ q => ⟨a, rfl, sz_of h, q H1 (Ex.refl H1)⟩
theorem rc_ord {a : Str} (h : a.length = 1) : RC (fun xs H Q => ∃ x : Str, xs = [V.str x] ∧ x.length = 1 ∧ Q (V.int (x.cps.getD 0 0 : Nat)) H) [.str a] H (.int (a.cps.getD 0 0 : Nat)) :=
  fun H1 _ _ q => ⟨a, rfl, h, q H1 (Ex.refl H1)⟩
theorem rv_addS {a b : Str} (h : a.length + b.length ≤ 100000) : RV (fun x y H Q => ∃ i j, x = .str i ∧ y = .str j ∧ i.length + j.length ≤ sizeLine ∧ Q (.str (i ++ j)) H) (.str a) (.str b) H (.str (a ++ b)) :=
  fun H1 _ _ q => ⟨a, b, rfl, rfl, sz_of h, q H1 (Ex.refl H1)⟩
theorem rv_inSign {c : Nat} {a z : Str} (e : a = ⟨#[c]⟩) : RV (fun x y H Q => ∃ (c : Nat) (z : Str), x = .str ⟨#[c]⟩ ∧ y = .str z ∧ Q (.bl (decide (c ∈ z.cps.toList))) H) (.str a) (.str z) H (.bl (decide (c ∈ z.cps.toList))) :=
  fun H1 _ _ q => ⟨c, z, by rw [e], rfl, q H1 (Ex.refl H1)⟩
/-- a text times a small number -/
def rMulStr : R2 := fun x y H Q => ∃ (a : Str) (n : Int), x = .str a ∧ y = .int n ∧ 1 ≤ n ∧ n ≤ 20000 ∧ a.length ≤ 200 ∧ Q (.str (Txt.mul a n)) H
theorem op_mul_str {X : Cx} : OpR X (binaryOp .Mult) rMulStr := by
  intro pins s σ H x y v u Q I rx ry h
  obtain ⟨a, n, rfl, rfl, h1, h2, h3, q⟩ := h
  obtain ⟨t, rfl⟩ := rx
  obtain ⟨t', rfl⟩ := ry
  refine SB.mul (n := n) ⟨?_, fun _ _ => ?_, fun _ _ => ?_⟩ fun t' k => ⟨.str (Txt.mul a n), H, I.tok _, ⟨_, rfl⟩, q⟩
  · rw [decide_eq_false (by omega), decide_eq_false (by omega)]
    rfl
  · have : (2 ^ 63 - 1) / n ≥ 200 := by
      refine (Int.le_ediv_iff_mul_le (by omega)).mpr ?_
      omega
    omega
  · have e : a.length * n.toNat ≤ 200 * 20000 := Nat.mul_le_mul h3 (by omega)
    exact decide_eq_false (by show ¬ a.length * n.toNat > 2 ^ 24; omega)
theorem rv_mulStr {a : Str} {n : Int} (h1 : 1 ≤ n) (h2 : n ≤ 20000) (h3 : a.length ≤ 200) : RV rMulStr (.str a) (.int n) H (.str (Txt.mul a n)) :=
  fun H1 _ _ q => ⟨a, n, rfl, rfl, h1, h2, h3, q H1 (Ex.refl H1)⟩
theorem rc_max2 {i j : Int} : RC (fun xs H Q => ∃ i j : Int, xs = [V.int i, V.int j] ∧ Q (V.int (if j > i then j else i)) H) [.int i, .int j] H (.int (if j > i then j else i)) :=
  fun H1 _ _ q => ⟨i, j, rfl, q H1 (Ex.refl H1)⟩
theorem rc_min2 {i j : Int} : RC (fun xs H Q => ∃ i j : Int, xs = [V.int i, V.int j] ∧ Q (V.int (if j < i then j else i)) H) [.int i, .int j] H (.int (if j < i then j else i)) :=
  fun H1 _ _ q => ⟨i, j, rfl, q H1 (Ex.refl H1)⟩
theorem et_yes : EvT tYes σ H true := fun H1 _ _ q => q H1 (Ex.refl H1)
/-- a slice of a text -/
theorem ev_cutS {tl th : TO} {z : Str} {lo hi : Option Int} (h : Ev te σ H (.str z)) (h1 : EvO tl σ H lo) (h2 : EvO th σ H hi) (hz : z.length ≤ 100000) : Ev (tSl rSlS te tl th) σ H (.str (cutS z lo hi)) := fun H1 e Q q =>
  h H1 e _ fun H2 e2 => h1 H2 (e.trans e2) _ fun H3 e3 => h2 H3 ((e.trans e2).trans e3) _ fun H4 e4 => ⟨z, rfl, sz_of hz, q H4 ((e2.trans e3).trans e4)⟩
/-- sep.join(a new list of texts) -/
theorem ev_joinL {a : Str} {ys : List Str} (ho : Ev ta σ H (.str a)) (h : EvL te σ H (ys.map V.str)) (hz : (ys.map (·.length)).sum + ys.length * a.length ≤ 16777216) :
    Ev (tM1 (fun x xs H Q => ∃ a p, ∃ ys : List Str, x = .str a ∧ xs = [.ref p] ∧ (SqL K H p (ys.map V.str) ∨ SqT K H p (ys.map V.str)) ∧ (ys.map (·.length)).sum + ys.length * a.length ≤ 16777216 ∧ Q (.str (Txt.join a ys)) H) ta te) σ H (.str (Txt.join a ys)) := fun H1 e Q q =>
  ho H1 e _ fun H2 e2 => ⟨⟨a, rfl⟩, h H2 (e.trans e2) _ fun p H3 _ e3 h3 => ⟨a, p, ys, rfl, rfl, .inl (sq_of h3), hz, q H3 (e2.trans e3)⟩⟩
/-- sep.join(a list of texts that stands) -/
theorem ev_joinS {a : Str} {p : Addr} {ys : List Str} (ho : Ev ta σ H (.str a)) (h : Ev te σ H (.ref p)) (hp : SqL K H p (ys.map V.str) ∨ SqT K H p (ys.map V.str)) (hz : (ys.map (·.length)).sum + ys.length * a.length ≤ 16777216) :
    Ev (tM1 (fun x xs H Q => ∃ a p, ∃ ys : List Str, x = .str a ∧ xs = [.ref p] ∧ (SqL K H p (ys.map V.str) ∨ SqT K H p (ys.map V.str)) ∧ (ys.map (·.length)).sum + ys.length * a.length ≤ 16777216 ∧ Q (.str (Txt.join a ys)) H) ta te) σ H (.str (Txt.join a ys)) := fun H1 e Q q =>
  ho H1 e _ fun H2 e2 => ⟨⟨a, rfl⟩, h H2 (e.trans e2) _ fun H3 e3 => ⟨a, p, ys, rfl, rfl, hp.elim (fun h => .inl (ex_l ((e.trans e2).trans e3) h)) (fun h => .inr (ex_t ((e.trans e2).trans e3) h)), hz, q H3 (e2.trans e3)⟩⟩
/-- the second operand told once the first is there -/
theorem ev_opV2 {r : R2} (ha : Ev ta σ H x) (hb : ∀ H1, Ex H H1 → Ev tb σ H1 y) (hr : RV r x y H z) : Ev (tOp r ta tb) σ H z := fun H1 e Q q =>
  ha H1 e _ fun H2 e2 => hb H2 (e.trans e2) H2 (Ex.refl H2) _ fun H3 e3 => hr H3 ((e.trans e2).trans e3) Q fun H4 e4 => q H4 ((e2.trans e3).trans e4)
theorem ev_chain {r r' : R2} {tc : TE} {a b : Bool} (ha : Ev ta σ H x) (hb : Ev tb σ H y) (hr : RV r x y H (.bl a)) (hc : a = true → Ev tc σ H z) (hr' : a = true → RV r' y z H (.bl b)) : Ev (tChain r r' ta tb tc) σ H (.bl (a && b)) := fun H1 e Q q =>
  ha H1 e _ fun H2 e2 => hb H2 (e.trans e2) _ fun H3 e3 => hr H3 ((e.trans e2).trans e3) _ fun H4 e4 => ⟨a, rfl, by
    cases a with
    | true =>
      show tc σ H4 _
      exact hc rfl H4 (((e.trans e2).trans e3).trans e4) _ fun H5 e5 => hr' rfl H5 ((((e.trans e2).trans e3).trans e4).trans e5) Q fun H6 e6 => q H6 ((((e2.trans e3).trans e4).trans e5).trans e6)
    | false =>
      show Q (.bl false) H4
      exact q H4 ((e2.trans e3).trans e4)⟩
/-- some value of which R holds -/
def EvP (te : TE) (σ : L2.St) (H : Hp) (R : V → Prop) : Prop := ∀ H1, Ex H H1 → ∀ Q : VK, (∀ v H2, R v → Ex H1 H2 → Q v H2) → te σ H1 Q
def SpP (sp : Sp) (vs : List V) (H : Hp) (R : V → Prop) : Prop := ∀ H1, Ex H H1 → ∀ Q : VK, (∀ v H2, R v → Ex H1 H2 → Q v H2) → ∀ E : XK, sp vs H1 Q E
theorem s_asgP {R : V → Prop} {D : Ends} {i : Nat} (h : EvP te σ H R) (k : ∀ v H1, R v → Ex H H1 → D.nx (σ.set i (some v)) H1) : tAsg te (gName i) D σ H := h H (Ex.refl H) _ fun v H1 r e => k v H1 r e
theorem q_asgP {R : V → Prop} {D : Ends} {tz : TS} {i : Nat} (h : EvP te σ H R) (k : ∀ v H1, R v → Ex H H1 → tz D (σ.set i (some v)) H1) : tSeq (tAsg te (gName i)) tz D σ H := s_asgP (D := { D with nx := tz D }) h k
theorem ep_call {R : V → Prop} {sp : Sp} {dvs vs : List V} {E : XK} {ta : TA} (h : EvA ta σ H vs) (hs : SpP sp (vs ++ dvs) H R) : EvP (tCall sp dvs E ta) σ H R := fun H1 e Q q =>
  h H1 e _ fun H2 e2 => hs H2 (e.trans e2) Q (fun v H3 r e3 => q v H3 r (e2.trans e3)) E
/-- of one argument, a new list -/
theorem ep_callL {R : V → Prop} {sp : Sp} {dvs xs : List V} {E : XK} (h : EvL te σ H xs) (hs : ∀ p H1, Ex H H1 → H1 p = some (.lst xs) → SpP sp (.ref p :: dvs) H1 R) : EvP (tCall sp dvs E (tCons te tNil)) σ H R := fun H1 e Q q =>
  h H1 e _ fun p H2 _ e2 h2 => hs p H2 (e.trans e2) h2 H2 (Ex.refl H2) Q (fun v H3 r e3 => q v H3 r (e2.trans e3)) E
theorem at_int {ns : List Int} {i : Int} (h0 : 0 ≤ i) (h : i < (ns.length : Int)) : atI (ns.map V.int) i = some (.int (ns.getD i.toNat 0)) := by
  obtain ⟨j, rfl⟩ := Int.eq_ofNat_of_zero_le h0
  refine atI_nat ?_
  have hj : j < ns.length := by omega
  rw [List.getElem?_map, List.getElem?_eq_getElem hj, Int.toNat_natCast, List.getD_eq_getElem?_getD, List.getElem?_eq_getElem hj]
  rfl
end

/-! ### loops over texts -/
section
variable {σ : L2.St} {H H' : Hp} {te : TE} {D : Ends} {tu tz : TS} {g : TG}
theorem for_str {x : Str} {tb : TS} (Pv : Nat → L2.St → Hp → Prop) (h0 : Pv 0 σ H)
    (hs : ∀ i c σ H, x.cps.toList[i]? = some c → Pv i σ H → g (.str ⟨#[c]⟩) σ H fun σ2 H2 => tb { D with nx := Pv (i + 1), ct := Pv (i + 1), bk := D.nx } σ2 H2) (hd : ∀ σ H, Pv x.cps.size σ H → D.nx σ H) :
    ∃ W : Nat → Nat → L2.St → Hp → Prop, (∃ m, W 0 m σ H) ∧ ∀ i m σ H, W i m σ H →
      ((Its x).stop i H ∧ D.nx σ H) ∨ ((Its x).go i H ∧ ∃ N : L2.St → Hp → Prop, (∀ σ' H', N σ' H' → ∃ m', m' < m ∧ W (i + 1) m' σ' H') ∧ ∀ y H', (Its x).yld i H y H' → g y σ H' fun σ2 H2 => tb { D with nx := N, ct := N, bk := D.nx } σ2 H2) := by
  refine ⟨fun i m σ H => m = x.cps.size - i ∧ i ≤ x.cps.size ∧ Pv i σ H, ⟨x.cps.size, by simp, Nat.zero_le _, h0⟩, ?_⟩
  rintro i m σ H ⟨rfl, hi, p⟩
  by_cases hlt : i < x.cps.size
  · refine .inr ⟨hlt, Pv (i + 1), fun σ' H' p' => ⟨x.cps.size - (i + 1), by omega, rfl, hlt, p'⟩, fun y H' q => ?_⟩
    obtain ⟨rfl, c, hc, rfl⟩ := q
    exact hs i c σ _ (by rw [Array.getElem?_toList]; exact hc) p
  · have e : i = x.cps.size := by omega
    subst e
    exact .inl ⟨Nat.le_refl _, hd σ H p⟩
theorem s_forS {x : Str} {j : Nat} (h : Ev te σ H (.str x)) (Pv : Nat → L2.St → Hp → Prop) (h0 : ∀ H1, Ex H H1 → Pv 0 σ H1)
    (hs : ∀ i c σ' H', x.cps.toList[i]? = some c → Pv i σ' H' → tu { D with nx := Pv (i + 1), ct := Pv (i + 1), bk := D.nx } (σ'.set j (some (.str ⟨#[c]⟩))) H') (hd : ∀ σ' H', Pv x.cps.size σ' H' → D.nx σ' H') : tFor (iStr te) (gName j) tu D σ H :=
  h H (Ex.refl H) _ fun H1 e => ⟨x, rfl, for_str Pv (h0 H1 e) hs hd⟩
theorem q_forS {x : Str} {j : Nat} (h : Ev te σ H (.str x)) (Pv : Nat → L2.St → Hp → Prop) (h0 : ∀ H1, Ex H H1 → Pv 0 σ H1)
    (hs : ∀ i c σ' H', x.cps.toList[i]? = some c → Pv i σ' H' → tu { D with nx := Pv (i + 1), ct := Pv (i + 1), bk := tz D } (σ'.set j (some (.str ⟨#[c]⟩))) H') (hd : ∀ σ' H', Pv x.cps.size σ' H' → tz D σ' H') : tSeq (tFor (iStr te) (gName j) tu) tz D σ H :=
  s_forS (D := { D with nx := tz D }) h Pv h0 hs hd
end
theorem at_str {xs : List Str} {i : Int} (h0 : 0 ≤ i) (h : i < (xs.length : Int)) : atI (xs.map V.str) i = some (.str (xs.getD i.toNat Str.empty)) := by
  obtain ⟨j, rfl⟩ := Int.eq_ofNat_of_zero_le h0
  refine atI_nat ?_
  have hj : j < xs.length := by omega
  rw [List.getElem?_map, List.getElem?_eq_getElem hj, Int.toNat_natCast, List.getD_eq_getElem?_getD, List.getElem?_eq_getElem hj]
  rfl
theorem memD {α : Type} {xs : List α} {d : α} {j : Nat} (h : j < xs.length) : xs.getD j d ∈ xs := by
  rw [List.getD_eq_getElem?_getD, List.getElem?_eq_getElem h]
  exact List.getElem_mem h
theorem dec_str1 {c d : Nat} {a : Str} (e : a = ⟨#[d]⟩) : decide (V.str ⟨#[c]⟩ = V.str a) = decide (c = d) := by
  rw [e, Bool.eq_iff_iff, decide_eq_true_iff, decide_eq_true_iff]
  constructor
  · intro h
    have h1 : (⟨#[c]⟩ : Str) = ⟨#[d]⟩ := V.str.inj h
    have h2 : (#[c] : Array Nat) = #[d] := congrArg Str.cps h1
    have h3 : ([c] : List Nat) = [d] := congrArg Array.toList h2
    exact (List.cons.inj h3).1
  · intro h
    rw [h]
theorem all_take_succ {p : Nat → Bool} {xs : List Nat} {i c : Nat} (h : xs[i]? = some c) : (xs.take (i + 1)).all p = ((xs.take i).all p && p c) := by
  rw [List.take_add_one, h, List.all_append]
  simp

/-- a new tuple is handed back -/
def RetU (xs : List V) (H : Hp) (Q : VK) : Prop := ∀ p H2, H p = none → Ex H H2 → H2 p = some (.tup xs) → Q (.ref p) H2
def SpU (sp : Sp) (vs : List V) (H : Hp) (xs : List V) : Prop := ∀ H1, Ex H H1 → ∀ Q : VK, (∀ p H2, H1 p = none → Ex H1 H2 → H2 p = some (.tup xs) → Q (.ref p) H2) → ∀ E : XK, sp vs H1 Q E
section
variable {K : PySem.W.Frag} {σ : L2.St} {H H' : Hp} {te : TE} {D : Ends} {tu tz : TS} {g : TG}
theorem eu_call {sp : Sp} {dvs vs xs : List V} {E : XK} {ta : TA} (h : EvA ta σ H vs) (hs : SpU sp (vs ++ dvs) H xs) : EvU (tCall sp dvs E ta) σ H xs := fun H1 e Q q =>
  h H1 e _ fun H2 e2 => hs H2 (e.trans e2) Q (fun p H3 hp e3 h3 => q p H3 (fresh_back e2 hp) (e2.trans e3) h3) E
/-- a for over a new tuple -/
theorem s_forNT {xs : List V} {tl : TE} {j : Nat} (h : EvU tl σ H xs) (Pv : Addr → Nat → L2.St → Hp → Prop) (h0 : ∀ p H1, H p = none → Ex H H1 → H1 p = some (.tup xs) → Pv p 0 σ H1) (hl : ∀ p i σ' H', i ≤ xs.length → Pv p i σ' H' → SqT K H' p xs)
    (hs : ∀ p i x σ' H', xs[i]? = some x → Pv p i σ' H' → tu { D with nx := Pv p (i + 1), ct := Pv p (i + 1), bk := D.nx } (σ'.set j (some x)) H') (hd : ∀ p σ' H', Pv p xs.length σ' H' → D.nx σ' H') : tFor (iTup K tl) (gName j) tu D σ H :=
  h H (Ex.refl H) _ fun p H1 hp e h1 => ⟨p, rfl, ⟨xs, st_of h1⟩, for_tup (Pv p) (h0 p H1 hp e h1) (hl p) (hs p) (hd p)⟩
theorem q_forNT {xs : List V} {tl : TE} {j : Nat} (h : EvU tl σ H xs) (Pv : Addr → Nat → L2.St → Hp → Prop) (h0 : ∀ p H1, H p = none → Ex H H1 → H1 p = some (.tup xs) → Pv p 0 σ H1) (hl : ∀ p i σ' H', i ≤ xs.length → Pv p i σ' H' → SqT K H' p xs)
    (hs : ∀ p i x σ' H', xs[i]? = some x → Pv p i σ' H' → tu { D with nx := Pv p (i + 1), ct := Pv p (i + 1), bk := tz D } (σ'.set j (some x)) H') (hd : ∀ p σ' H', Pv p xs.length σ' H' → tz D σ' H') : tSeq (tFor (iTup K tl) (gName j) tu) tz D σ H :=
  s_forNT (D := { D with nx := tz D }) h Pv h0 hl hs hd
/-- len of a tuple -/
theorem ev_lenT {ta : TE} {p : Addr} {xs : List V} (ha : Ev ta σ H (.ref p)) (h : SqT K H p xs) : Ev (tCB (Evl.rLenS K) (tCons ta tNil)) σ H (.int (xs.length : Int)) := fun H1 e Q q =>
  ha H1 e _ fun H2 e2 => ⟨p, xs, rfl, Or.inr (ex_t (e.trans e2) h), q H2 e2⟩
end

section
variable {K : PySem.W.Frag} {H H' : Hp} {x y : V}
theorem rc_isTup {p : Addr} {xs : List V} (h : H p = some (.tup xs)) : RC (rIsi K) [.ref p, .ty "tuple"] H (.bl true) := fun H1 e _ q =>
  ⟨_, _, _, _, true, rfl, .ty "tuple", .base (.tup (e p _ h)), (by unfold PySem.W.kitOne; rw [if_pos (by decide)]), q H1 (Ex.refl H1)⟩
theorem rc_isBool {b : Bool} : RC (rIsi K) [.bl b, .ty "bool"] H (.bl true) := fun H1 e _ q =>
  ⟨_, _, _, _, true, rfl, .ty "bool", .base (.bl b), (by unfold PySem.W.kitOne; rw [if_pos (by decide)]), q H1 (Ex.refl H1)⟩
/-- two equal data -/
theorem rv_eqD {d e : PyData} {b : Bool} (hx : ∀ H1, Ex H H1 → Dp K H1 x d) (hy : ∀ H1, Ex H H1 → Dp K H1 y e) (sd : SeqAt.shaped d = true) (se : SeqAt.shaped e = true) (hb : PyData.eqv d e = b) : RV (rEqD K) x y H (.bl b) := fun H1 e1 _ q =>
  ⟨d, e, hx H1 e1, hy H1 e1, sd, se, by rw [hb]; exact q H1 (Ex.refl H1)⟩
theorem rv_neD {d e : PyData} {b : Bool} (hx : ∀ H1, Ex H H1 → Dp K H1 x d) (hy : ∀ H1, Ex H H1 → Dp K H1 y e) (sd : SeqAt.shaped d = true) (se : SeqAt.shaped e = true) (hb : PyData.eqv d e = b) : RV (rNeD K) x y H (.bl (!b)) := fun H1 e1 _ q =>
  ⟨d, e, hx H1 e1, hy H1 e1, sd, se, by rw [hb]; exact q H1 (Ex.refl H1)⟩
theorem at_codeS {l : List Nat} {i : Int} (h0 : 0 ≤ i) (h : i < (l.length : Int)) : atI (SX.S l).cps.toList i = some (l.getD i.toNat 0) := by
  obtain ⟨j, rfl⟩ := Int.eq_ofNat_of_zero_le h0
  have hj : j < l.length := by omega
  refine atI_nat ?_
  show l[j]? = _
  rw [List.getElem?_eq_getElem hj, Int.toNat_natCast, List.getD_eq_getElem?_getD, List.getElem?_eq_getElem hj]
  rfl
theorem mod_bd (x m : Int) (h : 0 < m) : 0 ≤ x % m ∧ x % m < m := ⟨Int.emod_nonneg _ (by omega), Int.emod_lt_of_pos _ h⟩
theorem given_all (n : Nat) (v : Nat → V) : given n (fun _ => true) v = (List.range n).map v := by
  unfold given
  rw [List.filter_eq_self.mpr (fun _ _ => rfl)]
theorem at_range {n i : Nat} {v : Nat → V} (h : i < n) : atI ((List.range n).map v) (i : Int) = some (v i) := by
  refine atI_nat ?_
  rw [List.getElem?_map, List.getElem?_range h]
  rfl
end

/-! ### texts by their codes -/
theorem len_S (l : List Nat) : (SX.S l).length = l.length := SX.S_len l
theorem cut_mid (l : List Nat) (a b : Nat) : cutS (SX.S l) (some (a : Int)) (some (b : Int)) = SX.S ((l.drop a).take (b - a)) := by
  unfold cutS
  rw [len_S, HT.sIx_nat, HT.sIx_nat]
  show SX.S ((l.drop (min a l.length)).take (min b l.length - min a l.length)) = _
  refine congrArg SX.S ?_
  by_cases h : a ≤ l.length
  · rw [Nat.min_eq_left h, List.take_eq_take_iff, List.length_drop]
    omega
  · rw [Nat.min_eq_right (show l.length ≤ a by omega), List.drop_eq_nil_of_le (Nat.le_refl _), List.drop_eq_nil_of_le (show l.length ≤ a by omega)]
    simp
theorem cut_to (l : List Nat) (b : Nat) : cutS (SX.S l) none (some (b : Int)) = SX.S (l.take b) := by
  unfold cutS
  rw [len_S, HT.sIx_nat, HT.sIx_none]
  show SX.S ((l.drop 0).take (min b l.length - 0)) = _
  refine congrArg SX.S ?_
  rw [List.drop_zero, List.take_eq_take_iff]
  omega
theorem cut_from (l : List Nat) (a : Nat) : cutS (SX.S l) (some (a : Int)) none = SX.S (l.drop a) := by
  unfold cutS
  rw [len_S, HT.sIx_nat, HT.sIx_none]
  show SX.S ((l.drop (min a l.length)).take (l.length - min a l.length)) = _
  refine congrArg SX.S ?_
  by_cases h : a ≤ l.length
  · rw [Nat.min_eq_left h]
    exact List.take_of_length_le (by rw [List.length_drop]; omega)
  · rw [Nat.min_eq_right (show l.length ≤ a by omega), List.drop_eq_nil_of_le (Nat.le_refl _), List.drop_eq_nil_of_le (show l.length ≤ a by omega)]
    simp
theorem join_ones : ∀ l : List Nat, Txt.join (SX.S []) (l.map fun c => SX.S [c]) = SX.S l := fun l => by
  have e : (l.map fun c => SX.S [c]) = (l.map fun c => [c]).map SX.S := by rw [List.map_map]; rfl
  rw [e, SX.join_S]
  refine congrArg SX.S ?_
  induction l with
  | nil => rfl
  | cons c l ih =>
    cases l with
    | nil => rfl
    | cons d l =>
      show [c] ++ ([] ++ TL.joinL [] (((d :: l).map fun c => [c]))) = _
      rw [ih (by rw [List.map_map]; rfl)]
      rfl
theorem sum_ones (l : List Nat) : ((l.map fun c => SX.S [c]).map (·.length)).sum = l.length := by
  induction l with
  | nil => rfl
  | cons c l ih =>
    rw [List.map_cons, List.map_cons, List.sum_cons, ih, len_S]
    simp [Nat.add_comm]

/-! ### names -/
theorem e_slashS : Str.ofString "/" = ⟨#[47]⟩ := by decide +kernel
def nameOk (z : Str) : Bool := (!(decide (V.str z = V.str (Str.ofString ".")) || (decide (V.str z = V.str (Str.ofString "..")) || decide (47 ∈ z.cps.toList)))) && ((!(decide ((z.length : Int) < 1) || decide ((100 : Int) < (z.length : Int)))) && z.cps.toList.all fun c => !decide (((c : Nat) : Int) < 32))
def sp_is_name (K : PySem.W.Frag) : Sp := fun vs H Q _ => ∃ z : Str, vs = [.str z] ∧ z.length ≤ 100000 ∧ RetV (.bl (nameOk z)) H Q
theorem sp_nm {K : PySem.W.Frag} {H : Hp} {z : Str} (h : z.length ≤ 100000) : SpV (sp_is_name K) [.str z] H (.bl (nameOk z)) := fun H1 e Q q E => ⟨z, rfl, h, fun H2 e2 => q H2 e2⟩

/-! ### == of data, whatever texts lie within -/
def rEqP (K : PySem.W.Frag) : R2 := fun x y H Q => ∃ d e, Dp K H x d ∧ Dp K H y e ∧ d.plain = true ∧ e.plain = true ∧ d.depth ≤ 60 ∧ Q (.bl (PyData.eqv d e)) H
def rNeP (K : PySem.W.Frag) : R2 := fun x y H Q => ∃ d e, Dp K H x d ∧ Dp K H y e ∧ d.plain = true ∧ e.plain = true ∧ d.depth ≤ 60 ∧ Q (.bl (!PyData.eqv d e)) H
theorem op_eqP {X : Cx} (hu : X.A.units + 64 < cLine) : OpR X (compareOp .Eq) (rEqP X.K) := by
  intro pins s σ H x y v u Q I rx ry h
  obtain ⟨d, e, hd, he, pd, pe, dd, q⟩ := h
  obtain ⟨as, r1⟩ := Dp.reads I d x v hd rx
  obtain ⟨bs, r2⟩ := Dp.reads I e y u he ry
  exact SeqAt.eq_plain r1 r2 pd pe (by omega) ⟨.bl _, H, I, rfl, q⟩
theorem op_neP {X : Cx} (hu : X.A.units + 64 < cLine) : OpR X (compareOp .NotEq) (rNeP X.K) := by
  intro pins s σ H x y v u Q I rx ry h
  obtain ⟨d, e, hd, he, pd, pe, dd, q⟩ := h
  obtain ⟨as, r1⟩ := Dp.reads I d x v hd rx
  obtain ⟨bs, r2⟩ := Dp.reads I e y u he ry
  exact SeqAt.ne_plain r1 r2 pd pe (by omega) ⟨.bl _, H, I, rfl, q⟩
section
variable {K : PySem.W.Frag} {σ : L2.St} {H H' : Hp} {ta tb te : TE} {x y z v : V} {r : R2}
theorem rv_eqP {d e : PyData} {b : Bool} (hx : ∀ H1, Ex H H1 → Dp K H1 x d) (hy : ∀ H1, Ex H H1 → Dp K H1 y e) (pd : d.plain = true) (pe : e.plain = true) (dd : d.depth ≤ 60) (hb : PyData.eqv d e = b) : RV (rEqP K) x y H (.bl b) := fun H1 e1 _ q =>
  ⟨d, e, hx H1 e1, hy H1 e1, pd, pe, dd, by rw [hb]; exact q H1 (Ex.refl H1)⟩
theorem rv_neP {d e : PyData} {b : Bool} (hx : ∀ H1, Ex H H1 → Dp K H1 x d) (hy : ∀ H1, Ex H H1 → Dp K H1 y e) (pd : d.plain = true) (pe : e.plain = true) (dd : d.depth ≤ 60) (hb : PyData.eqv d e = b) : RV (rNeP K) x y H (.bl (!b)) := fun H1 e1 _ q =>
  ⟨d, e, hx H1 e1, hy H1 e1, pd, pe, dd, by rw [hb]; exact q H1 (Ex.refl H1)⟩
theorem dp_strs {K : PySem.W.Frag} {H : Hp} : ∀ ys : List Str, DpAll K H (ys.map V.str) (ys.map PyData.str)
  | [] => .nil
  | y :: ys => .cons (.str y) (dp_strs ys)
theorem plain_strs : ∀ ys : List Str, PyData.plainAll (ys.map PyData.str) = true
  | [] => rfl
  | _ :: ys => plain_strs ys
theorem depth_strs : ∀ ys : List Str, PyData.depthAll (ys.map PyData.str) = 0
  | [] => rfl
  | _ :: ys => by
    show max 0 (PyData.depthAll (ys.map PyData.str)) = 0
    rw [depth_strs ys]
    rfl
/-- a value of which R holds, at the heap behind -/
def EvH (te : TE) (σ : L2.St) (H : Hp) (R : V → Hp → Prop) : Prop := ∀ H1, Ex H H1 → ∀ Q : VK, (∀ v H2, Ex H1 H2 → R v H2 → Q v H2) → te σ H1 Q
def SpH (sp : Sp) (vs : List V) (H : Hp) (R : V → Hp → Prop) : Prop := ∀ H1, Ex H H1 → ∀ Q : VK, (∀ v H2, Ex H1 H2 → R v H2 → Q v H2) → ∀ E : XK, sp vs H1 Q E
theorem eh_call {R : V → Hp → Prop} {sp : Sp} {dvs vs : List V} {E : XK} {ta : TA} (h : EvA ta σ H vs) (hs : SpH sp (vs ++ dvs) H R) : EvH (tCall sp dvs E ta) σ H R := fun H1 e Q q =>
  h H1 e _ fun H2 e2 => hs H2 (e.trans e2) Q (fun v H3 e3 r => q v H3 (e2.trans e3) r) E
theorem s_asgH {R : V → Hp → Prop} {D : Ends} {i : Nat} (h : EvH te σ H R) (k : ∀ v H1, Ex H H1 → R v H1 → D.nx (σ.set i (some v)) H1) : tAsg te (gName i) D σ H := h H (Ex.refl H) _ k
theorem q_asgH {R : V → Hp → Prop} {D : Ends} {tz : TS} {i : Nat} (h : EvH te σ H R) (k : ∀ v H1, Ex H H1 → R v H1 → tz D (σ.set i (some v)) H1) : tSeq (tAsg te (gName i)) tz D σ H := s_asgH (D := { D with nx := tz D }) h k
theorem ev_opH {R : V → Hp → Prop} (hm : ∀ v H1 H2, Ex H1 H2 → R v H1 → R v H2) (ha : EvH ta σ H R) (hb : ∀ H1, Ex H H1 → Ev tb σ H1 y) (hr : ∀ x H1, Ex H H1 → R x H1 → RV r x y H1 z) : Ev (tOp r ta tb) σ H z := fun H1 e Q q =>
  ha H1 e _ fun x H2 e2 rx => hb H2 (e.trans e2) H2 (Ex.refl H2) _ fun H3 e3 => hr x H3 ((e.trans e2).trans e3) (hm x _ _ e3 rx) H3 (Ex.refl H3) Q fun H4 e4 => q H4 ((e2.trans e3).trans e4)
/-- tuple(a list), tuple(a new list) -/
def rTup (K : PySem.W.Frag) : List V → Hp → VK → Prop := fun xs H Q => ∃ p ys, xs = [.ref p] ∧ ((SqL K H p ys ∧ ∀ l, H l = none → Q (.ref l) (upd H l (.tup ys))) ∨ (SqT K H p ys ∧ Q (.ref p) H))
theorem eu_tupOf {p : Addr} {xs : List V} (ha : Ev ta σ H (.ref p)) (h : SqL K H p xs) : EvU (tCB (rTup K) (tCons ta tNil)) σ H xs := fun H1 e Q q =>
  ha H1 e _ fun H2 e2 => ⟨p, xs, rfl, .inl ⟨ex_l (e.trans e2) h, fun l hl => q l _ (fresh_back e2 hl) (e2.trans (Ex.new hl)) upd_same⟩⟩
theorem eu_tupOfL {xs : List V} (ha : EvL ta σ H xs) : EvU (tCB (rTup K) (tCons ta tNil)) σ H xs := fun H1 e Q q =>
  ha H1 e _ fun p H2 _ e2 h2 => ⟨p, xs, rfl, .inl ⟨sq_of h2, fun l hl => q l _ (fresh_back e2 hl) (e2.trans (Ex.new hl)) upd_same⟩⟩
/-- s.split(t) -/
theorem el_split {a b : Str} (ho : Ev ta σ H (.str a)) (he : Ev te σ H (.str b)) (hb : (b.length == 0) = false) (ha : a.length ≤ 90000) :
    EvL (tM1 (fun x xs H Q => ∃ a b, x = .str a ∧ xs = [.str b] ∧ (b.length == 0) = false ∧ a.length + 2 ≤ sizeLine ∧ rNewStrs (Txt.split a b) H Q) ta te) σ H ((Txt.split a b).map V.str) := fun H1 e Q q =>
  ho H1 e _ fun H2 e2 => ⟨⟨a, rfl⟩, he H2 (e.trans e2) _ fun H3 e3 => ⟨a, b, rfl, rfl, hb, sz_of (by omega), fun p hp => q p _ (fresh_back (e2.trans e3) hp) ((e2.trans e3).trans (Ex.new hp)) upd_same⟩⟩
/-- all(a new list of truths), any(..) -/
theorem ev_allL {bs : List Bool} (ha : EvL ta σ H (bs.map V.bl)) : Ev (tCB (rAll K) (tCons ta tNil)) σ H (.bl (bs.all id)) := fun H1 e Q q =>
  ha H1 e _ fun p H2 _ e2 h2 => ⟨p, bs, rfl, sq_of h2, q H2 e2⟩
theorem ev_anyL {bs : List Bool} (ha : EvL ta σ H (bs.map V.bl)) : Ev (tCB (rAny K) (tCons ta tNil)) σ H (.bl (bs.any id)) := fun H1 e Q q =>
  ha H1 e _ fun p H2 _ e2 h2 => ⟨p, bs, rfl, sq_of h2, q H2 e2⟩
theorem rv_isN : RV (fun x y H Q => y = .non ∧ Q (.bl (decide (x = .non))) H) x .non H (.bl (decide (x = .non))) := fun H1 _ _ q => ⟨rfl, q H1 (Ex.refl H1)⟩
end
theorem join_cut : ∀ (l acc : List Nat), TL.joinL [47] (TL.spl [47] 0 acc l) = acc ++ l ∧ TL.spl [47] 0 acc l ≠ []
  | [], acc => by
    rw [TL.spl_nil]
    exact ⟨(List.append_nil acc).symm, by simp⟩
  | c :: r, acc => by
    by_cases h : TL.pre [47] (c :: r) = true
    · have hc : c = 47 := by
        simp [TL.pre] at h
        exact h
      rw [TL.spl_hit h]
      show TL.joinL [47] (acc :: TL.spl [47] 0 [] r) = acc ++ c :: r ∧ _
      obtain ⟨i1, i2⟩ := join_cut r []
      refine ⟨?_, by simp⟩
      cases hs : TL.spl [47] 0 [] r with
      | nil => exact absurd hs i2
      | cons x xs =>
        show acc ++ ([47] ++ TL.joinL [47] (x :: xs)) = _
        rw [← hs, i1, hc]
        rfl
    · have h' : TL.pre [47] (c :: r) = false := by
        cases hb : TL.pre [47] (c :: r) with
        | true => exact absurd hb h
        | false => rfl
      rw [TL.spl_miss h']
      obtain ⟨i1, i2⟩ := join_cut r (acc ++ [c])
      exact ⟨by rw [i1, List.append_assoc]; rfl, i2⟩

/-! ### f-strings, numbers as texts, unpacking -/
section
variable {K : PySem.W.Frag} {σ : L2.St} {H H' : Hp} {te : TE} {D : Ends} {tz : TS}
theorem ev_fmtS {y : Str} (h : Ev te σ H (.str y)) (hy : y.length ≤ 100000) : Ev (tFmt te) σ H (.str y) := fun H1 e Q q => h H1 e _ fun H2 e2 => .inl ⟨y, rfl, sz_of hy, q H2 e2⟩
theorem log_small {i : Int} (h : i.natAbs < 2 ^ 100) : i.natAbs.log2 < 1920 := by
  by_cases h0 : i.natAbs = 0
  · rw [h0]
    decide
  · have := (Nat.log2_lt h0).mpr h
    omega
theorem ev_fmtN {n : Nat} (h : Ev te σ H (.int (n : Int))) (hn : n < 2 ^ 100) : Ev (tFmt te) σ H (.str (SX.S (TL.numL n))) := fun H1 e Q q => h H1 e _ fun H2 e2 => .inr ⟨(n : Int), rfl, log_small hn, by
  have g := q H2 e2
  rw [← SX.num_S] at g
  exact g⟩
theorem rc_strN {n : Nat} (hn : n < 2 ^ 100) : RC (fun xs H Q => ∃ i : Int, xs = [V.int i] ∧ i.natAbs.log2 < 1920 ∧ Q (V.str (toString i : String)) H) [.int (n : Int)] H (.str (SX.S (TL.numL n))) := fun H1 _ _ q => ⟨(n : Int), rfl, log_small hn, by
  have g := q H1 (Ex.refl H1)
  rw [← SX.num_S] at g
  exact g⟩
inductive EvJ (σ : L2.St) (H : Hp) : List TE → List (List Nat) → Prop where
  | nil : EvJ σ H [] []
  | cons {t : TE} {y : List Nat} {ts : List TE} {ys : List (List Nat)} (h : Ev t σ H (.str (SX.S y))) (r : EvJ σ H ts ys) : EvJ σ H (t :: ts) (y :: ys)
theorem ev_js {ts : List TE} {ys : List (List Nat)} (h : EvJ σ H ts ys) : ∀ (acc : List Nat) (H1 : Hp), Ex H H1 → acc.length + (ys.map List.length).sum ≤ 100000 → ∀ Q : Str → Hp → Prop, (∀ H2, Ex H1 H2 → Q (SX.S (ys.foldl (· ++ ·) acc)) H2) → tJs ts (SX.S acc) σ H1 Q := by
  induction h with
  | nil =>
    intro acc H1 e _ Q q
    exact q H1 (Ex.refl H1)
  | @cons t y ts ys h r ih =>
    intro acc H1 e hl Q q
    rw [List.map_cons, List.sum_cons] at hl
    refine h H1 e _ fun H2 e2 => ⟨SX.S y, rfl, ?_, ?_⟩
    · rw [SX.S_cat, len_S, List.length_append]
      exact sz_of (by omega)
    · rw [SX.S_cat]
      exact ih (acc ++ y) H2 (e.trans e2) (by rw [List.length_append]; omega) Q fun H3 e3 => q H3 (e2.trans e3)
theorem ev_joined {ts : List TE} {ys : List (List Nat)} (h : EvJ σ H ts ys) (hl : (ys.map List.length).sum ≤ 100000) : Ev (fun σ H Q => tJs ts Str.empty σ H fun out H1 => Q (.str out) H1) σ H (.str (SX.S (ys.foldl (· ++ ·) []))) := fun H1 e Q q =>
  ev_js h [] H1 e (by rw [List.length_nil, Nat.zero_add]; exact hl) (fun out H2 => Q (.str out) H2) q
theorem q_unp2 {p : Addr} {x y : V} {i j : Nat} (h : Ev te σ H (.ref p)) (hp : SqT K H p [x, y]) (k : ∀ H1, Ex H H1 → tz D ((σ.set i (some x)).set j (some y)) H1) : tSeq (tAsg te (gTup K 2 (gCons (gName i) (gCons (gName j) gNil)))) tz D σ H :=
  h H (Ex.refl H) _ fun H1 e => ⟨p, _, rfl, ex_t e hp, rfl, x, _, rfl, y, _, rfl, rfl, k H1 e⟩
end

/-! ### the cells that a law draws -/
def fixC (c : Int) : Int := if c < 0 then 1 - 2 * c else c
def cell0 (ns : List Int) (k : Nat) : Int := if k < ns.length then ns.getD k 0 else 0
def cell2 (ns : List Int) (k : Nat) (c : Int) : Int := if 0 < ns.length then ns.getD (((k : Int) % (ns.length : Int)).toNat) 0 else c
def mix1 (k : Nat) (c : Int) : Int := ((c + 131 * (k : Int) + 7) * 48271 + (k : Int) * (k : Int) * 69621) % 1000000007
def mix2 (k : Nat) (c : Int) : Int := ((c + 17 * (k : Int) + 3) * 2862933555777941757) % 18446744073709551557
def cellAt (ns : List Int) (k : Nat) : Int :=
  if (ns.length : Int) ≤ (k : Int) ∨ fixC (cell0 ns k) < 1000000000 then mix2 k (mix1 k (fixC (cell2 ns k (fixC (cell0 ns k))))) else fixC (cell0 ns k)
def cellsOf (ns : List Int) (n : Nat) : List Int := (List.range n).map (cellAt ns)
theorem cellsOf_len (ns : List Int) (n : Nat) : (cellsOf ns n).length = n := by
  unfold cellsOf
  rw [List.length_map, List.length_range]
theorem cellsOf_succ (ns : List Int) (n : Nat) : cellsOf ns (n + 1) = cellsOf ns n ++ [cellAt ns n] := by
  unfold cellsOf
  rw [List.range_succ, List.map_append]
  rfl
theorem fixC_nn (c : Int) : 0 ≤ fixC c := by
  unfold fixC
  split <;> omega
theorem cellAt_nn (ns : List Int) (k : Nat) : 0 ≤ cellAt ns k := by
  unfold cellAt
  split
  · exact Int.emod_nonneg _ (by decide)
  · exact fixC_nn _
theorem cellsOf_nn (ns : List Int) (n : Nat) : ∀ c ∈ cellsOf ns n, 0 ≤ c := by
  intro c hc
  obtain ⟨k, _, rfl⟩ := List.mem_map.mp hc
  exact cellAt_nn ns k
theorem fixC_neg {c : Int} (h : decide (c < 0) = true) : 1 - 2 * c = fixC c := (if_pos (of_decide_eq_true h)).symm
theorem fixC_pos {c : Int} (h : decide (c < 0) = false) : fixC c = c := if_neg (of_decide_eq_false h)
theorem cellAt_mix {ns : List Int} {k : Nat} (h : (decide ((ns.length : Int) ≤ (k : Int)) || decide (fixC (cell0 ns k) < 1000000000)) = true) : mix2 k (mix1 k (fixC (cell2 ns k (fixC (cell0 ns k))))) = cellAt ns k := by
  unfold cellAt
  rw [if_pos]
  rcases (Bool.or_eq_true _ _).mp h with h | h
  · exact .inl (of_decide_eq_true h)
  · exact .inr (of_decide_eq_true h)
theorem cellAt_own {ns : List Int} {k : Nat} (h : (decide ((ns.length : Int) ≤ (k : Int)) || decide (fixC (cell0 ns k) < 1000000000)) = false) : fixC (cell0 ns k) = cellAt ns k := by
  unfold cellAt
  obtain ⟨h1, h2⟩ := (Bool.or_eq_false_iff).mp h
  rw [if_neg]
  rintro (h | h)
  · exact of_decide_eq_false h1 h
  · exact of_decide_eq_false h2 h
def spCells (K : PySem.W.Frag) : Sp := fun vs H Q _ => ∃ (a : Addr) (ns : List Int) (n : Nat), vs = [.ref a, .int (n : Int)] ∧ SqL K H a (ns.map V.int) ∧ ns.length ≤ 63 ∧ n ≤ 1000 ∧ RetL ((cellsOf ns n).map V.int) H Q
theorem sp_cells {K : PySem.W.Frag} {H : Hp} {a : Addr} {ns : List Int} {n : Nat} (hS : SqL K H a (ns.map V.int)) (hl : ns.length ≤ 63) (hn : n ≤ 1000) : SpL (spCells K) [.ref a, .int (n : Int)] H ((cellsOf ns n).map V.int) :=
  fun H1 e Q q E => ⟨a, ns, n, rfl, ex_l e hS, hl, hn, fun p H2 hp e2 h2 => q p H2 hp e2 h2⟩
/-! ### the rows that a law draws -/
def spRows (K : PySem.W.Frag) : Sp := fun vs H Q _ => ∃ (a : Addr) (ns : List Int) (n : Nat), vs = [.ref a, .int (n : Int)] ∧ SqL K H a (ns.map V.int) ∧ ns.length ≤ 63 ∧ n ≤ 1000 ∧ ∀ rs : List Int, rs.length = n → (∀ c ∈ rs, 0 ≤ c) → RetL (rs.map V.int) H Q
/-- what is there behind a call that gives a new list of n numbers from 0 on -/
def EvRows (te : TE) (σ : L2.St) (H : Hp) (n : Nat) : Prop := ∀ H1, Ex H H1 → ∀ Q : VK, (∀ p rs H2, H1 p = none → Ex H1 H2 → H2 p = some (.lst (List.map V.int rs)) → rs.length = n → (∀ c ∈ rs, 0 ≤ c) → Q (.ref p) H2) → te σ H1 Q
theorem ev_rows {K : PySem.W.Frag} {σ : L2.St} {H : Hp} {E : XK} {ta : TA} {a : Addr} {ns : List Int} {n : Nat} (h : EvA ta σ H [.ref a, .int (n : Int)]) (hS : SqL K H a (ns.map V.int)) (hl : ns.length ≤ 63) (hn : n ≤ 1000) : EvRows (tCall (spRows K) [] E ta) σ H n := fun H1 e Q q =>
  h H1 e _ fun H2 e2 => ⟨a, ns, n, rfl, ex_l (e.trans e2) hS, hl, hn, fun rs hr h0 p H3 hp e3 h3 => q p rs H3 (fresh_back e2 hp) (e2.trans e3) h3 hr h0⟩
theorem q_asgRows {σ : L2.St} {H : Hp} {te : TE} {D : Ends} {tz : TS} {i n : Nat} (h : EvRows te σ H n) (k : ∀ p rs H1, H p = none → Ex H H1 → H1 p = some (.lst (List.map V.int rs)) → rs.length = n → (∀ c ∈ rs, 0 ≤ c) → tz D (σ.set i (some (.ref p))) H1) : tSeq (tAsg te (gName i)) tz D σ H :=
  h H (Ex.refl H) _ fun p rs H1 hp e h1 hr h0 => k p rs H1 hp e h1 hr h0
/-- a def of the top: its text, its place, how it is called -/
structure Df (K : PySem.W.Frag) (mg : Str → Option Value) (x : Str) (st : Stmt) (ps : List Str) : Prop where
  ex : ∃ (f : Addr) (fd : FuncData), L2.Fun K x x st f fd ∧ mg x = some (.ref f) ∧ Binds K fd ps []
theorem Df.cal {P : Program} {w : World} {K : PySem.W.Frag} {mg : Str → Option Value} {base : Heap} {x : Str} {st : Stmt} {N ps : List Str} {k : Nat} {sp : Sp} (D : Df K mg x st ps) (S : FnScope N ps (defScope st)) (len : ∀ vs H Q E, sp vs H Q E → vs.length = ps.length)
    (hbody : ∀ (f : Addr) (cdv : Value) (A : Around) (outer : List Env) (s : Shared) (H : Hp) (vs : List V) (Q : VK) (E : XK), Room k (A.deeper (envOfC x (defScope st) s.heap.objs.size f cdv)) → sp vs H Q E →
      ∃ t, PSs (cxOf L2.CX0 P w K mg base N x (defScope st) f cdv A outer s H E).nox (defBody st) t ∧ t { nx := fun _ H' => Q .non H', rt := Q } (start N vs) H) : C8.Cal P w K mg base (k + 1) x sp [] := by
  obtain ⟨f, fd, F, hm, hb⟩ := D.ex
  exact ⟨f, fd, ps, [], F.ok S len (hbody f), hm, F.kp, hb, .nil⟩
def spLaw (K : PySem.W.Frag) : Sp := fun vs H Q _ => ∃ (a : Addr) (ns : List Int), vs = [.ref a] ∧ SqL K H a (ns.map V.int) ∧ ns.length ≤ 63 ∧ ∀ H', Q (.bl true) H'

/-! ### fields, dicts, classes made by keywords -/
section
variable {K : PySem.W.Frag} {σ : L2.St} {H H' : Hp} {te td ty tx ts : TE} {tt : TT} {D : Ends} {tz tu : TS} {x v : V}
theorem ev_fld {a C dx : Addr} {fs : List (Str × V)} {f : Str} (h : Ev te σ H (.ref a)) (ho : H a = some (.ins C dx fs)) (c : Cls K C) (n : NoAttr K C f) (l : fs.lookup f = some v) : Ev (tFld K te f) σ H v := fun H1 e Q q =>
  h H1 e _ fun H2 e2 => ⟨a, C, dx, fs, v, rfl, (e.trans e2) _ _ ho, c, n, l, q H2 e2⟩
theorem q_asgDN {i : Nat} (k : ∀ p H1, H p = none → Ex H H1 → H1 p = some (.dK []) → tz D (σ.set i (some (.ref p))) H1) : tSeq (tAsg tDNewK (gName i)) tz D σ H := fun p hp => k p _ hp (Ex.new hp) upd_same
theorem s_setd {d : Addr} {kvs : List (Key × V)} {k : Key} (h : Ev td σ H (.ref d)) (hd : H d = some (.dK kvs)) (hy : Ev ty σ H (kV k)) (hx : Ev tx σ H v) (hl : kvs.length < 100000)
    (k1 : ∀ y H1, valV kvs k = some y → Ex H H1 → D.nx σ H1) (k2 : ∀ H1, valV kvs k = none → Ex H H1 → D.nx σ (upd H1 d (.dK (putK kvs k v)))) : tDrop (tDSetd td ty tx) D σ H :=
  h H (Ex.refl H) _ fun H1 e1 => ⟨d, rfl, .inl ⟨kvs, .inl (e1 _ _ hd)⟩, hy H1 e1 _ fun H2 e2 => hx H2 (e1.trans e2) _ fun H3 e3 => ⟨kvs, k, ((e1.trans e2).trans e3) _ _ hd, rfl, sz_lt hl, fun y hy => k1 y H3 hy ((e1.trans e2).trans e3), fun hn => k2 H3 hn ((e1.trans e2).trans e3)⟩⟩
theorem ev_get2 {d : Addr} {kvs : List (Key × V)} {k : Key} (h : Ev td σ H (.ref d)) (hd : H d = some (.dK kvs)) (hy : Ev ty σ H (kV k)) (hx : Ev tx σ H v) : Ev (tDGet2 td ty tx) σ H ((valV kvs k).getD v) := fun H0 e Q q =>
  h H0 e _ fun H1 e1 => ⟨d, rfl, .inl ⟨kvs, .inl ((e.trans e1) _ _ hd)⟩, hy H1 (e.trans e1) _ fun H2 e2 => hx H2 ((e.trans e1).trans e2) _ fun H3 e3 => ⟨valV kvs k, DGet.k ((((e.trans e1).trans e2).trans e3) _ _ hd), q H3 ((e1.trans e2).trans e3)⟩⟩
/-- a comprehension over a text -/
theorem lc_str {x : Str} {g : TG} {vs : List Nat} {H1 : Hp} {Dl : Addr} {Qd : Hp → Prop} (Pv : Nat → Hp → Prop) (h0 : Pv 0 (upd H1 Dl (.lst [])))
    (hs : ∀ i c H, x.cps.toList[i]? = some c → Pv i H → g (.str ⟨#[c]⟩) (wipe σ vs) H fun σ2 H2 => wipe σ2 vs = wipe σ vs ∧ tt σ2 H2 fun b H3 =>
      if b = true then te σ2 H3 fun y H4 => ∃ acc, H4 Dl = some (.lst acc) ∧ acc.length < sizeLine ∧ Pv (i + 1) (upd H4 Dl (.lst (acc ++ [y]))) else Pv (i + 1) H3) (hd : ∀ H, Pv x.cps.size H → Qd H) :
    ∃ W : Nat → Nat → Hp → Prop, (∃ m, W 0 m (upd H1 Dl (.lst []))) ∧ ∀ i m H, W i m H →
      ((Its x).stop i H ∧ Qd H) ∨ ((Its x).go i H ∧ ∃ Nx : Hp → Prop, (∀ H', Nx H' → ∃ m', m' < m ∧ W (i + 1) m' H') ∧ ∀ y H', (Its x).yld i H y H' → g y (wipe σ vs) H' fun σ2 H2 => wipe σ2 vs = wipe σ vs ∧ tt σ2 H2 fun b H3 =>
        if b = true then te σ2 H3 fun y H4 => ∃ acc, H4 Dl = some (.lst acc) ∧ acc.length < sizeLine ∧ Nx (upd H4 Dl (.lst (acc ++ [y]))) else Nx H3) := by
  refine ⟨fun i m H => m = x.cps.size - i ∧ i ≤ x.cps.size ∧ Pv i H, ⟨x.cps.size, by simp, Nat.zero_le _, h0⟩, ?_⟩
  rintro i m H ⟨rfl, hi, p⟩
  by_cases hlt : i < x.cps.size
  · refine .inr ⟨hlt, Pv (i + 1), fun H' p' => ⟨x.cps.size - (i + 1), by omega, rfl, hlt, p'⟩, fun y H' q => ?_⟩
    obtain ⟨rfl, c, hc, rfl⟩ := q
    exact hs i c _ (by rw [Array.getElem?_toList]; exact hc) p
  · have e : i = x.cps.size := by omega
    subst e
    exact .inl ⟨Nat.le_refl _, hd H p⟩
theorem el_lcS {z : Str} {tl : TE} {j : Nat} {vs : List Nat} (f : Nat → Bool) (v : Nat → V) (h : Ev tl σ H (.str z)) (hz : z.length ≤ 40000) (hw : ∀ x, wipe ((wipe σ vs).set j (some x)) vs = wipe σ vs)
    (ht : ∀ (i c : Nat) H1, Ex H H1 → z.cps.toList[i]? = some c → EvT tt ((wipe σ vs).set j (some (.str ⟨#[c]⟩))) H1 (f i)) (he : ∀ (i c : Nat) H1, Ex H H1 → z.cps.toList[i]? = some c → f i = true → Ev te ((wipe σ vs).set j (some (.str ⟨#[c]⟩))) H1 (v i)) :
    EvL (tLc (iStr tl) (gName j) tt te vs) σ H (given z.cps.size f v) := fun H0 e Q q => h H0 e _ fun H1 e1 => ⟨z, rfl, fun Dl hD =>
  lc_str (x := z) (Cw H1 f v Dl) ⟨hD, Ex.new hD, upd_same⟩ (fun i c H' hi p => ⟨hw _, cw_turn p (by have h1 := (List.getElem?_eq_some_iff.mp hi).1; have h2 : z.length = z.cps.size := rfl; rw [Array.length_toList] at h1; omega) (ht i c H1 (e.trans e1) hi) (fun hf => he i c H1 (e.trans e1) hi hf)⟩)
    (fun H' p => q Dl H' (fresh_back e1 p.1) (e1.trans p.2.1) p.2.2)⟩
end
/-- a class that is made by its name, by keywords alone -/
def MkK (P : Program) (w : World) (K : PySem.W.Frag) (mg : Str → Option Value) (base : Heap) (k : Nat) (x : Str) (C : Addr) (n : Nat) (ks : List Str) (sp : Sp) (gV : List V → List V → List V) : Prop :=
  ∃ (f : Addr) (fd : FuncData) (ps : List Str) (g : List Value → List Value → List Value), Mk K C f ∧ FnOk P w K mg base CX0 k f fd ps sp ∧ KBn K fd ps n ks g gV ∧ mg x = some (.ref C)
theorem pe_mkK {X : Cx} {k j : Nat} {C : Addr} {x : Str} {ks : List Str} {sp : Sp} {gV : List V → List V → List V} {p pos : Pos} {kws : List Keyword} {tk : TA} (M : MkK X.prog X.w X.K X.mg X.base k x C 1 ks sp gV) (hr : Room j X.A) (hk : k + 1 ≤ j) (hg : Gl X x) (hkw : PK X kws tk)
    (hall : (backToKw pos (keywordEach kws X.env)).all (·.1.isSome) = true := by rfl) (hks : (backToKw pos (keywordEach kws X.env)).filterMap (·.1) = ks := by rfl) (hdb : (x == ("__debug__" : Str)) = false := by decide)
    (hpl : ((backTo pos (starEach [] X.env)).any (·.1) || (backToKw pos (keywordEach kws X.env)).any (·.1.isNone)) = false := by rfl) : PE X (.Call (.Name x p) [] kws pos) (tMakeK C 0 ks.length sp gV E0 tNil tk) := by
  obtain ⟨f, fd, ps, g, M, F, b, hm⟩ := M
  exact pe_makeK0 M F (hr.mono hk) hg hm b pass0 hkw hall hks hdb hpl
theorem eqv_strs : ∀ a b : List Str, PyData.eqvAll (a.map PyData.str) (b.map PyData.str) = decide (a = b)
  | [], [] => by rw [List.map_nil, PyData.eqvAll]; rfl
  | [], _ :: _ => by rw [List.map_nil, List.map_cons, PyData.eqvAll]; simp
  | _ :: _, [] => by rw [List.map_nil, List.map_cons, PyData.eqvAll]; simp
  | x :: xs, y :: ys => by
    rw [List.map_cons, List.map_cons, PyData.eqvAll, eqv_strs xs ys, PyData.eqv]
    by_cases h : x = y
    · rw [h, beq_self_eq_true]
      simp
    · have h1 : (x == y) = false := beq_eq_false_iff_ne.mpr h
      rw [h1]
      simp [h]
theorem eq_S (a b : List Nat) : decide (V.str (SX.S a) = V.str (SX.S b)) = decide (a = b) := decide_eq_decide.mpr ⟨fun h => SX.S_inj (V.str.inj h), fun h => by rw [h]⟩
theorem ones_inj : ∀ {a b : List Nat}, (a.map fun c => SX.S [c]) = (b.map fun c => SX.S [c]) → a = b
  | [], [], _ => rfl
  | [], _ :: _, h => by simp at h
  | _ :: _, [], h => by simp at h
  | x :: xs, y :: ys, h => by
    rw [List.map_cons, List.map_cons] at h
    obtain ⟨h1, h2⟩ := List.cons.inj h
    rw [ones_inj h2, (List.cons.inj (SX.S_inj h1)).1]
theorem map_getD {α β : Type} (f : α → β) (d : α) : ∀ l : List α, (List.range l.length).map (fun k => f (l.getD k d)) = l.map f := fun l => by
  refine List.ext_getElem (by simp) fun k h1 h2 => ?_
  rw [List.length_map, List.length_range] at h1
  rw [List.getElem_map, List.getElem_map, List.getElem_range, List.getD_eq_getElem?_getD, List.getElem?_eq_getElem h1]
  rfl
theorem take_up {α : Type} {l : List α} {i : Nat} {q : α} (h : l[i]? = some q) : l.take (i + 1) = l.take i ++ [q] := by
  rw [List.take_add_one, h]
  rfl
theorem len_lt {α : Type} {l : List α} {i : Nat} {q : α} (h : l[i]? = some q) : i < l.length := (List.getElem?_eq_some_iff.mp h).1
theorem len_put {f : Str} {v : V} {fs : List (Str × V)} {n : Nat} (h : fs.length ≤ n) : (putF f v fs).length ≤ n + 1 := Nat.le_trans (length_putF f v fs) (by omega)
/-- the signs of a text that is repeated -/
theorem mul_mem {l : List Nat} {n : Int} {c : Nat} (h : c ∈ (Txt.mul (SX.S l) n).cps.toList) : c ∈ l := by
  unfold Txt.mul at h
  split at h
  · exact absurd h (by show ¬ c ∈ ([] : List Nat); simp)
  · split at h
    · exact h
    · have key : ∀ (k : Nat) (acc : Array Nat), (∀ c ∈ acc.toList, c ∈ l) → ∀ c ∈ ((List.replicate k (SX.S l).cps).foldl (· ++ ·) acc).toList, c ∈ l := by
        intro k
        induction k with
        | zero => intro acc ha; exact ha
        | succ k ih =>
          intro acc ha
          rw [List.replicate_succ, List.foldl_cons]
          refine ih _ fun c hc => ?_
          rw [Array.toList_append] at hc
          rcases List.mem_append.mp hc with h | h
          · exact ha c h
          · exact h
      exact key _ #[] (fun c hc => by simp at hc) c h
theorem rc_intB {b : Bool} : RC (fun xs H Q => (∃ i, xs = [V.int i] ∧ Q (V.int i) H) ∨ ∃ k, xs = [V.bl k] ∧ Q (V.int (if k = true then 1 else 0)) H) [.bl b] H (.int (if b = true then 1 else 0)) :=
  fun H1 _ _ q => Or.inr ⟨b, rfl, q H1 (Ex.refl H1)⟩
end Lw
namespace K02
open PySem PySem.Spec PyProof.Rows L2 Evl Lw
def top (i : Nat) : Stmt := PySem.Challenge.pw_foldkeep_k02_alike_names.main.body.getD i (.Pass ⟨0, 0, 0, 0⟩)
abbrev s_Rule___init : Stmt := inClass (top 3) 0
abbrev s_is_name : Stmt := top 4
abbrev s_folded : Stmt := top 5
abbrev s_same_name : Stmt := top 6
abbrev s_fits : Stmt := top 7
abbrev s_law_cells : Stmt := top 9
abbrev s_law_word : Stmt := top 10
abbrev s_law_counts_as : Stmt := top 11
abbrev s_law_alike : Stmt := top 12
abbrev s_law : Stmt := top 13
theorem sc_Rule___init : FnScope ["self", "alike", "unfit", "longest", "swaps", "reads", "cuts", "turns"] ["self", "alike", "unfit", "longest", "swaps", "reads", "cuts", "turns"] (defScope s_Rule___init) := ⟨rfl, rfl, rfl, by decide +kernel, rfl, by decide +kernel, by decide +kernel⟩
theorem sc_is_name : FnScope ["text", "sign"] ["text"] (defScope s_is_name) := ⟨rfl, rfl, rfl, by decide +kernel, rfl, by decide +kernel, by decide +kernel⟩
theorem sc_folded : FnScope ["rule", "name", "counts_as", "pair", "sign"] ["rule", "name"] (defScope s_folded) := ⟨rfl, rfl, rfl, by decide +kernel, rfl, by decide +kernel, by decide +kernel⟩
theorem sc_same_name : FnScope ["rule", "first", "second"] ["rule", "first", "second"] (defScope s_same_name) := ⟨rfl, rfl, rfl, by decide +kernel, rfl, by decide +kernel, by decide +kernel⟩
theorem sc_fits : FnScope ["rule", "name", "unfit"] ["rule", "name"] (defScope s_fits) := ⟨rfl, rfl, rfl, by decide +kernel, rfl, by decide +kernel, by decide +kernel⟩
theorem sc_law_cells : FnScope ["script", "count", "cells", "k", "cell"] ["script", "count"] (defScope s_law_cells) := ⟨rfl, rfl, rfl, by decide +kernel, rfl, by decide +kernel, by decide +kernel⟩
theorem sc_law_word : FnScope ["cells", "at", "size", "word", "k"] ["cells", "at", "size"] (defScope s_law_word) := ⟨rfl, rfl, rfl, by decide +kernel, rfl, by decide +kernel, by decide +kernel⟩
theorem sc_law_counts_as : FnScope ["pairs", "sign", "pair"] ["pairs", "sign"] (defScope s_law_counts_as) := ⟨rfl, rfl, rfl, by decide +kernel, rfl, by decide +kernel, by decide +kernel⟩
theorem sc_law_alike : FnScope ["pairs", "first", "second", "sign"] ["pairs", "first", "second"] (defScope s_law_alike) := ⟨rfl, rfl, rfl, by decide +kernel, rfl, by decide +kernel, by decide +kernel⟩
theorem sc_law : FnScope ["script", "cells", "menu", "pairs", "size", "first", "second", "unfit", "longest", "rule", "word", "expected", "other", "k"] ["script"] (defScope s_law) := ⟨rfl, rfl, rfl, by decide +kernel, rfl, by decide +kernel, by decide +kernel⟩
/-- the names of the top that are asked for -/
structure Txt (K : PySem.W.Frag) (mg : Str → Option Value) (c_Rule : Addr) : Prop where
  cl_Rule : Cls K c_Rule
  mg_Rule : mg "Rule" = some (.ref c_Rule)
  na_Rule_alike : NoAttr K c_Rule "alike"
  na_Rule_unfit : NoAttr K c_Rule "unfit"
  na_Rule_longest : NoAttr K c_Rule "longest"
  na_Rule_swaps : NoAttr K c_Rule "swaps"
  na_Rule_reads : NoAttr K c_Rule "reads"
  na_Rule_cuts : NoAttr K c_Rule "cuts"
  na_Rule_turns : NoAttr K c_Rule "turns"
  n_int : mg "int" = none
  n_len : mg "len" = none
  n_max : mg "max" = none
  n_ord : mg "ord" = none
  n_range : mg "range" = none
  n_tuple : mg "tuple" = none
  g_FIRST_SIGN : ∃ u, mg "FIRST_SIGN" = some u ∧ RelV (.int 32) u
  g_MOST_SIGNS : ∃ u, mg "MOST_SIGNS" = some u ∧ RelV (.int 100) u
abbrev sp_law_cells := spCells
def ruleF (a u : Addr) (n : Int) : List (Str × V) := putF "turns" (.bl true) (putF "cuts" (.bl true) (putF "reads" (.bl true) (putF "swaps" (.bl true) (putF "longest" (.int n) (putF "unfit" (.ref u) (putF "alike" (.ref a) []))))))
theorem ruleF_alike (a u : Addr) (n : Int) : (ruleF a u n).lookup ("alike" : Str) = some (.ref a) := by
  unfold ruleF
  rw [lookup_putF, if_neg (by decide +kernel), lookup_putF, if_neg (by decide +kernel), lookup_putF, if_neg (by decide +kernel), lookup_putF, if_neg (by decide +kernel), lookup_putF, if_neg (by decide +kernel), lookup_putF, if_neg (by decide +kernel), lookup_putF, if_pos rfl]
theorem ruleF_unfit (a u : Addr) (n : Int) : (ruleF a u n).lookup ("unfit" : Str) = some (.ref u) := by
  unfold ruleF
  rw [lookup_putF, if_neg (by decide +kernel), lookup_putF, if_neg (by decide +kernel), lookup_putF, if_neg (by decide +kernel), lookup_putF, if_neg (by decide +kernel), lookup_putF, if_neg (by decide +kernel), lookup_putF, if_pos rfl]
theorem ruleF_longest (a u : Addr) (n : Int) : (ruleF a u n).lookup ("longest" : Str) = some (.int n) := by
  unfold ruleF
  rw [lookup_putF, if_neg (by decide +kernel), lookup_putF, if_neg (by decide +kernel), lookup_putF, if_neg (by decide +kernel), lookup_putF, if_neg (by decide +kernel), lookup_putF, if_pos rfl]
def fnd (prs : List (Nat × Nat)) (c : Nat) : Option Nat := (prs.find? fun q => q.1 == c).map (·.2)
def ca (prs : List (Nat × Nat)) (c : Nat) : Nat := (fnd prs c).getD c
theorem fnd_snoc (prs : List (Nat × Nat)) (q : Nat × Nat) (c : Nat) : fnd (prs ++ [q]) c = (fnd prs c).or (if q.1 = c then some q.2 else none) := by
  unfold fnd
  rw [List.find?_append]
  cases h : prs.find? fun q => q.1 == c with
  | some x => rfl
  | none =>
    by_cases e : q.1 = c
    · simp [e]
    · simp [e]
def pvs (prs : List (Nat × Nat)) : List V := prs.map fun q => V.str (SX.S [q.1, q.2])
def uvs (un : List (List Nat)) : List V := un.map fun l => V.str (SX.S l)
structure RuleOk (prs : List (Nat × Nat)) (un : List (List Nat)) : Prop where
  a : prs.length ≤ 10
  b : un.length ≤ 10
  c : ∀ l ∈ un, l.length ≤ 200
def RuleAt (C : Addr) (H : Hp) (r : Addr) (prs : List (Nat × Nat)) (un : List (List Nat)) (n : Int) : Prop := ∃ dx a u, H r = some (.ins C dx (ruleF a u n)) ∧ H a = some (.tup (pvs prs)) ∧ H u = some (.tup (uvs un)) ∧ RuleOk prs un
theorem RuleAt.ex {C : Addr} {H H' : Hp} {r : Addr} {prs : List (Nat × Nat)} {un : List (List Nat)} {n : Int} (e : Ex H H') (h : RuleAt C H r prs un n) : RuleAt C H' r prs un n := by
  obtain ⟨dx, a, u, h1, h2, h3, h4⟩ := h
  exact ⟨dx, a, u, e _ _ h1, e _ _ h2, e _ _ h3, h4⟩
def alk (prs : List (Nat × Nat)) (l m : List Nat) : Bool := decide (l.map (ca prs) = m.map (ca prs))
def kw_Rule (vs zs : List V) : List V := vs ++ (zs ++ [V.bl true, V.bl true, V.bl true, V.bl true])
def sp_Rule___init (K : PySem.W.Frag) (C : Addr) : Sp := fun vs H Q _ => ∃ (p dx a u : Addr) (aa uu : List V) (n : Int), vs = [.ref p, .ref a, .ref u, .int n, .bl true, .bl true, .bl true, .bl true] ∧ H p = some (.ins C dx []) ∧ H a = some (.tup aa) ∧ H u = some (.tup uu) ∧ ∀ H', H' p = some (.ins C dx (ruleF a u n)) → (∀ b o, H b = some o → b ≠ p → H' b = some o) → Q .non H'
theorem kb_Rule {K : PySem.W.Frag} {f : Addr} {fd : FuncData} (F : FunD K "__init__" "Rule.__init__" (defArgs s_Rule___init) (defBody s_Rule___init) (defScope s_Rule___init) [] [("swaps", V.bl true), ("reads", V.bl true), ("cuts", V.bl true), ("turns", V.bl true)] f fd) :
    ∃ g, KBn K fd ["self", "alike", "unfit", "longest", "swaps", "reads", "cuts", "turns"] 1 ["alike", "unfit", "longest"] g kw_Rule := by
  obtain ⟨mv, h⟩ := F.kbinds0 1 ["alike", "unfit", "longest"] [("swaps", V.bl true), ("reads", V.bl true), ("cuts", V.bl true), ("turns", V.bl true)] (fun vs mz zs => vs ++ (zs ++ mz)) (by simp) (fun q hq => hq) (fun r1 r2 r3 => r1.append (r3.append r2)) (ps := ["self", "alike", "unfit", "longest", "swaps", "reads", "cuts", "turns"]) (by
    intro D doc pm an cdv ct us mv ws l1 l2 l3
    match us, mv, ws, l1, l2, l3 with
    | [u0], [m1, m2, m3, m4], [w1, w2, w3], _, _, _ =>
      refine ⟨_, _, _, _, _, _, rfl, rfl, ?_⟩
      refine ⟨_, _, _, _, _, _, rfl, rfl, ?_⟩
      refine ⟨_, _, _, _, _, _, rfl, rfl, ?_⟩
      refine ⟨_, _, _, _, _, _, rfl, rfl, ?_⟩
      rfl)
  exact ⟨_, h⟩
def sp_folded (K : PySem.W.Frag) (C : Addr) : Sp := fun vs H Q _ => ∃ (r : Addr) (prs : List (Nat × Nat)) (un : List (List Nat)) (n : Int) (l : List Nat), vs = [.ref r, .str (SX.S l)] ∧ RuleAt C H r prs un n ∧ l.length ≤ 200 ∧ RetV (.str (SX.S (l.map (ca prs)))) H Q
def sp_same_name (K : PySem.W.Frag) (C : Addr) : Sp := fun vs H Q _ => ∃ (r : Addr) (prs : List (Nat × Nat)) (un : List (List Nat)) (n : Int) (l m : List Nat), vs = [.ref r, .str (SX.S l), .str (SX.S m)] ∧ RuleAt C H r prs un n ∧ l.length ≤ 200 ∧ m.length ≤ 200 ∧ RetV (.bl (alk prs l m)) H Q
def sp_fits (K : PySem.W.Frag) (C : Addr) : Sp := fun vs H Q _ => ∃ (r : Addr) (prs : List (Nat × Nat)) (un : List (List Nat)) (n : Int) (l : List Nat), vs = [.ref r, .str (SX.S l)] ∧ RuleAt C H r prs un n ∧ l.length ≤ 200 ∧ RetV (.bl (nameOk (SX.S l) && decide ((l.length : Int) ≤ n) && un.all fun o => !alk prs l o)) H Q
/-- the law's own signs -/
def signs : List Nat := [97, 65, 98, 66, 99, 67, 46, 32]
def wrd (cs : List Int) (at_ size : Nat) : List Nat := (List.range size).map fun k => signs.getD (cs.getD (at_ + k) 0 % 8).toNat 0
def sp_law_word (K : PySem.W.Frag) : Sp := fun vs H Q _ => ∃ (p : Addr) (cs : List Int) (i j : Nat), vs = [.ref p, .int (i : Int), .int (j : Int)] ∧ SqL K H p (cs.map V.int) ∧ i + j ≤ cs.length ∧ j ≤ 100 ∧ RetV (.str (SX.S (wrd cs i j))) H Q
def sp_law_counts_as (K : PySem.W.Frag) : Sp := fun vs H Q _ => ∃ (p : Addr) (prs : List (Nat × Nat)) (c : Nat), vs = [.ref p, .str (SX.S [c])] ∧ SqL K H p (pvs prs) ∧ RetV (.str (SX.S [ca prs c])) H Q
def sp_law_alike (K : PySem.W.Frag) : Sp := fun vs H Q _ => ∃ (p : Addr) (prs : List (Nat × Nat)) (l m : List Nat), vs = [.ref p, .str (SX.S l), .str (SX.S m)] ∧ SqL K H p (pvs prs) ∧ l.length ≤ 200 ∧ m.length ≤ 200 ∧ RetV (.bl (alk prs l m)) H Q
theorem sp_fo {K : PySem.W.Frag} {C : Addr} {H : Hp} {r : Addr} {prs : List (Nat × Nat)} {un : List (List Nat)} {n : Int} {l : List Nat} (h : RuleAt C H r prs un n) (hl : l.length ≤ 200) : SpV (sp_folded K C) [.ref r, .str (SX.S l)] H (.str (SX.S (l.map (ca prs)))) := fun H1 e Q q E => ⟨r, prs, un, n, l, rfl, h.ex e, hl, fun H2 e2 => q H2 e2⟩
theorem sp_sn {K : PySem.W.Frag} {C : Addr} {H : Hp} {r : Addr} {prs : List (Nat × Nat)} {un : List (List Nat)} {n : Int} {l m : List Nat} (h : RuleAt C H r prs un n) (hl : l.length ≤ 200) (hm : m.length ≤ 200) : SpV (sp_same_name K C) [.ref r, .str (SX.S l), .str (SX.S m)] H (.bl (alk prs l m)) := fun H1 e Q q E => ⟨r, prs, un, n, l, m, rfl, h.ex e, hl, hm, fun H2 e2 => q H2 e2⟩
theorem sp_ft {K : PySem.W.Frag} {C : Addr} {H : Hp} {r : Addr} {prs : List (Nat × Nat)} {un : List (List Nat)} {n : Int} {l : List Nat} (h : RuleAt C H r prs un n) (hl : l.length ≤ 200) : SpV (sp_fits K C) [.ref r, .str (SX.S l)] H (.bl (nameOk (SX.S l) && decide ((l.length : Int) ≤ n) && un.all fun o => !alk prs l o)) := fun H1 e Q q E => ⟨r, prs, un, n, l, rfl, h.ex e, hl, fun H2 e2 => q H2 e2⟩
theorem sp_wd {K : PySem.W.Frag} {H : Hp} {p : Addr} {cs : List Int} {i j : Nat} (h : SqL K H p (cs.map V.int)) (h1 : i + j ≤ cs.length) (h2 : j ≤ 100) : SpV (sp_law_word K) [.ref p, .int (i : Int), .int (j : Int)] H (.str (SX.S (wrd cs i j))) := fun H1 e Q q E => ⟨p, cs, i, j, rfl, ex_l e h, h1, h2, fun H2 e2 => q H2 e2⟩
theorem sp_ca {K : PySem.W.Frag} {H : Hp} {p : Addr} {prs : List (Nat × Nat)} {c : Nat} (h : SqL K H p (pvs prs)) : SpV (sp_law_counts_as K) [.ref p, .str (SX.S [c])] H (.str (SX.S [ca prs c])) := fun H1 e Q q E => ⟨p, prs, c, rfl, ex_l e h, fun H2 e2 => q H2 e2⟩
theorem sp_al {K : PySem.W.Frag} {H : Hp} {p : Addr} {prs : List (Nat × Nat)} {l m : List Nat} (h : SqL K H p (pvs prs)) (hl : l.length ≤ 200) (hm : m.length ≤ 200) : SpV (sp_law_alike K) [.ref p, .str (SX.S l), .str (SX.S m)] H (.bl (alk prs l m)) := fun H1 e Q q E => ⟨p, prs, l, m, rfl, ex_l e h, hl, hm, fun H2 e2 => q H2 e2⟩
theorem pvs_at {prs : List (Nat × Nat)} {i : Nat} {x : V} (h : (pvs prs)[i]? = some x) : ∃ q, prs[i]? = some q ∧ x = V.str (SX.S [q.1, q.2]) := by
  unfold pvs at h
  rw [List.getElem?_map] at h
  cases e : prs[i]? with
  | none => rw [e] at h; cases h
  | some q => rw [e] at h; exact ⟨q, rfl, (Option.some.inj h).symm⟩
theorem uvs_at {un : List (List Nat)} {i : Nat} {x : V} (h : (uvs un)[i]? = some x) : ∃ l, un[i]? = some l ∧ x = V.str (SX.S l) := by
  unfold uvs at h
  rw [List.getElem?_map] at h
  cases e : un[i]? with
  | none => rw [e] at h; cases h
  | some q => rw [e] at h; exact ⟨q, rfl, (Option.some.inj h).symm⟩
theorem alk_symm (prs : List (Nat × Nat)) (l m : List Nat) : alk prs l m = alk prs m l := decide_eq_decide.mpr ⟨Eq.symm, Eq.symm⟩
section
variable {P : Program} {w : World} {K : PySem.W.Frag} {mg : Str → Option Value} {base : Heap} {c_Rule : Addr}
/-! ### Rule___init -/
theorem ok_Rule___init {f : Addr} {fd : FuncData} (F : FunD K "__init__" "Rule.__init__" (defArgs s_Rule___init) (defBody s_Rule___init) (defScope s_Rule___init) [] [("swaps", V.bl true), ("reads", V.bl true), ("cuts", V.bl true), ("turns", V.bl true)] f fd) (T : Txt K mg c_Rule)  : FnOk P w K mg base CX0 1 f fd ["self", "alike", "unfit", "longest", "swaps", "reads", "cuts", "turns"] (sp_Rule___init K c_Rule) := by
  refine F.ok sc_Rule___init (fun vs H Q E h => ?_) (fun cdv A outer s H vs Q E hr h => ?_)
  · obtain ⟨p, dx, a, u, aa, uu, n, rfl, _⟩ := h
    rfl
  · obtain ⟨p, dx, a, u, aa, uu, n, rfl, hp, ha, hu, q⟩ := h
    refine ⟨_,
        (pss_cons (ps_fld (pv 0) (pe_callTy call_tuple_of (by rfl) T.n_tuple (by decide +kernel) (pa_cons (pv 1) pa_nil)) rfl)
        (pss_cons (ps_fld (pv 0) (pe_callTy call_tuple_of (by rfl) T.n_tuple (by decide +kernel) (pa_cons (pv 2) pa_nil)) rfl)
        (pss_cons (ps_fld (pv 0) (pv 3) rfl)
        (pss_cons (ps_fld (pv 0) (pv 4) rfl)
        (pss_cons (ps_fld (pv 0) (pv 5) rfl)
        (pss_cons (ps_fld (pv 0) (pv 6) rfl)
        (pss_one (ps_fld (pv 0) (pv 7) rfl)))))))), ?_⟩
    have na : p ≠ a := ne_of hp ha (by intro z; cases z)
    have nu : p ≠ u := ne_of hp hu (by intro z; cases z)
    refine ⟨_, rfl, a, aa, rfl, .inr ⟨st_of ha, _, rfl, p, c_Rule, dx, [], rfl, hp, T.cl_Rule, T.na_Rule_alike, by decide, ?_⟩⟩
    refine ⟨_, rfl, u, uu, rfl, .inr ⟨st_of (by rw [upd_ne (Ne.symm nu)]; exact hu), _, rfl, p, c_Rule, dx, _, rfl, upd_same, T.cl_Rule, T.na_Rule_unfit, (show 1 < 1000 by decide), ?_⟩⟩
    refine ⟨_, rfl, _, rfl, p, c_Rule, dx, _, rfl, upd_same, T.cl_Rule, T.na_Rule_longest, Nat.lt_of_le_of_lt (len_put (n := 1) (Nat.le_refl 1)) (by decide), ?_⟩
    refine ⟨_, rfl, _, rfl, p, c_Rule, dx, _, rfl, upd_same, T.cl_Rule, T.na_Rule_swaps, Nat.lt_of_le_of_lt (len_put (len_put (n := 1) (Nat.le_refl 1))) (by decide), ?_⟩
    refine ⟨_, rfl, _, rfl, p, c_Rule, dx, _, rfl, upd_same, T.cl_Rule, T.na_Rule_reads, Nat.lt_of_le_of_lt (len_put (len_put (len_put (n := 1) (Nat.le_refl 1)))) (by decide), ?_⟩
    refine ⟨_, rfl, _, rfl, p, c_Rule, dx, _, rfl, upd_same, T.cl_Rule, T.na_Rule_cuts, Nat.lt_of_le_of_lt (len_put (len_put (len_put (len_put (n := 1) (Nat.le_refl 1))))) (by decide), ?_⟩
    refine ⟨_, rfl, _, rfl, p, c_Rule, dx, _, rfl, upd_same, T.cl_Rule, T.na_Rule_turns, Nat.lt_of_le_of_lt (len_put (len_put (len_put (len_put (len_put (n := 1) (Nat.le_refl 1)))))) (by decide), ?_⟩
    refine q _ upd_same fun b o e hb => ?_
    rw [upd_ne hb, upd_ne hb, upd_ne hb, upd_ne hb, upd_ne hb, upd_ne hb, upd_ne hb]
    exact e

/-! ### is_name -/
theorem ok_is_name (D : Df K mg "is_name" s_is_name ["text"]) (T : Txt K mg c_Rule)  : C8.Cal P w K mg base 1 "is_name" (sp_is_name K) [] := by
  refine D.cal sc_is_name (fun vs H Q E h => ?_) (fun f cdv A outer s H vs Q E hr h => ?_)
  · obtain ⟨z, rfl, _⟩ := h
    rfl
  · obtain ⟨z, rfl, hz, q⟩ := h
    refine ⟨_,
        (pss_cons (ps_if (PW.pt (pw_or (pt_cmpR op_eq (pv 0) pe_str (nomark _)) (pw_or (pt_cmpR op_eq (pv 0) pe_str (nomark _)) (pw_or1 (pt_cmpR op_in_sign pe_str (pv 0) (by with_unfolding_all rfl))))))
          (pss_one (ps_ret pe_bl))
          pss_nil)
        (pss_cons (ps_if (PW.pt (pw_or (pt_cmpR op_lt (pe_callB call_len_str (by rfl) T.n_len PySem.boot_len (pa_cons (pv 0) pa_nil)) pe_int (nomark _)) (pw_or1 (pt_cmpR op_gt (pe_callB call_len_str (by rfl) T.n_len PySem.boot_len (pa_cons (pv 0) pa_nil)) (C8.pe_gc (by rfl) T.g_MOST_SIGNS) (nomark _)))))
          (pss_one (ps_ret pe_bl))
          pss_nil)
        (pss_cons (ps_for PassesOwn.never rfl (pi_str (pv 0)) (pg_name (i := 1) sc_is_name.nd rfl (.inl rfl))
          (pss_one (ps_if (pt_cmpR op_lt (pe_callB call_ord (by rfl) T.n_ord (by decide +kernel) (pa_cons (pv 1) pa_nil)) (C8.pe_gc (by rfl) T.g_FIRST_SIGN) (nomark _))
            (pss_one (ps_ret pe_bl))
            pss_nil)))
        (pss_one (ps_ret pe_bl))))), ?_⟩
    refine q_when (et_or (et_test (ev_op (ev_var rfl) ev_c (rv_eq rfl))) (fun _ => et_or (et_test (ev_op (ev_var rfl) ev_c (rv_eq rfl))) (fun _ => et_test (ev_op ev_c (ev_var rfl) (rv_inSign e_slashS))))) (fun hb H1 e1 => ?_) (fun hb H1 e1 => ?_)
    · refine s_ret ev_c fun H2 e2 => ?_
      have g := q H2 (e1.trans e2)
      unfold nameOk at g
      rw [hb] at g
      exact g
    refine q_when (et_or (et_test (ev_op (ev_cb (ea_cons (ev_var rfl) ea_nil) (rc_lenStr hz)) ev_c rv_I0)) (fun _ => et_test (ev_op (ev_cb (ea_cons (ev_var rfl) ea_nil) (rc_lenStr hz)) ev_c rv_I0))) (fun hb2 H2 e2 => ?_) (fun hb2 H2 e2 => ?_)
    · refine s_ret ev_c fun H3 e3 => ?_
      have g := q H3 ((e1.trans e2).trans e3)
      unfold nameOk at g
      rw [hb, hb2] at g
      exact g
    refine q_forS (ev_var rfl) (fun i σ' H' => ∃ x, σ' = [some (.str z), x] ∧ Ex H H' ∧ (z.cps.toList.take i).all (fun c => !decide (((c : Nat) : Int) < 32)) = true) (fun H3 e3 => ⟨none, rfl, (e1.trans e2).trans e3, rfl⟩) ?_ ?_
    · rintro i c σ' H' hc ⟨x, rfl, eH, ha⟩
      refine s_when (et_test (ev_op (ev_cb (ea_cons (ev_var rfl) ea_nil) (rc_ord rfl)) ev_c rv_I0)) (fun hb3 H3 e3 => ?_) (fun hb3 H3 e3 => ?_)
      · refine s_ret ev_c fun H4 e4 => ?_
        have g := q H4 ((eH.trans e3).trans e4)
        have hf : (z.cps.toList.all fun c => !decide (((c : Nat) : Int) < 32)) = false := by
          rw [List.all_eq_false]
          refine ⟨c, List.mem_of_getElem? hc, ?_⟩
          have hb4 : decide (((c : Nat) : Int) < 32) = true := hb3
          rw [hb4]
          decide
        unfold nameOk at g
        rw [hb, hb2, hf] at g
        exact g
      · refine ⟨_, rfl, eH.trans e3, ?_⟩
        rw [all_take_succ hc, ha]
        have hb4 : decide (((c : Nat) : Int) < 32) = false := hb3
        rw [hb4]
        rfl
    · rintro σ' H' ⟨x, rfl, eH, ha⟩
      refine s_ret ev_c fun H4 e4 => ?_
      have g := q H4 (eH.trans e4)
      have e : z.cps.toList.take z.cps.size = z.cps.toList := List.take_of_length_le (by simp)
      rw [e] at ha
      unfold nameOk at g
      rw [hb, hb2, ha] at g
      exact g

/-! ### folded -/
theorem ok_folded (D : Df K mg "folded" s_folded ["rule", "name"]) (T : Txt K mg c_Rule)  : C8.Cal P w K mg base 1 "folded" (sp_folded K c_Rule) [] := by
  refine D.cal sc_folded (fun vs H Q E h => ?_) (fun f cdv A outer s H vs Q E hr h => ?_)
  · obtain ⟨r, prs, un, n, l, rfl, _⟩ := h
    rfl
  · obtain ⟨r, prs, un, n, l, rfl, hR, hl, q⟩ := h
    refine ⟨_,
        (pss_cons (ps_set (i := 2) sc_folded.nd rfl (.inr rfl) pe_dnewK)
        (pss_cons (ps_for PassesOwn.never rfl (pi_tup (pe_fld (pv 0) rfl)) (pg_name (i := 3) sc_folded.nd rfl (.inl rfl))
          (pss_one (ps_expr (pe_dsetd (pv 2) (pe_ix ix_str (pv 3) pe_int (fun _ _ => rfl)) (pe_ix ix_str (pv 3) pe_int (fun _ _ => rfl)) ⟨rfl, rfl, rfl, rfl⟩))))
        (pss_one (ps_ret (pe_join pe_str (pe_lc (own := [("sign", 4)]) (g := gName 4) (tt := tYes) rfl sc_folded.nd (pi_str (pv 1)) (blkOk_by (own := [("sign", 4)]) (N := ["rule", "name", "counts_as", "pair", "sign"]) (sc := defScope s_folded) (by decide +kernel)) (fun _ _ _ _ _ => (pg_name (i := 4) sc_folded.nd rfl (Or.inl rfl))) (fun _ _ _ _ _ => pts_nil) (fun _ _ _ _ _ => (pe_dget2 (hu_of hr) (pv 2) (pv 4) (pv 4) ⟨rfl, rfl, rfl, rfl⟩)))))))), ?_⟩
    obtain ⟨dx, a, u, h1, h2, h3, hk⟩ := hR
    have hka := hk.a
    refine q_asgDN fun d H1 hd e1 h1d => ?_
    refine q_forT (K := K) (a := a) (xs := pvs prs) (ev_fld (ev_var rfl) (e1 _ _ h1) T.cl_Rule T.na_Rule_alike (ruleF_alike a u n)) (st_of (e1 _ _ h2))
      (fun i σ' H' => ∃ k kvs, σ' = [some (.ref r), some (.str (SX.S l)), some (.ref d), k, none] ∧ Ex H H' ∧ H' d = some (.dK kvs) ∧ kvs.length ≤ i ∧ ∀ c, valV kvs (Sum.inr (SX.S [c])) = (fnd (prs.take i) c).map fun x => V.str (SX.S [x]))
      (fun H2 e2 => ⟨none, [], rfl, e1.trans e2, e2 _ _ h1d, Nat.le_refl _, fun c => rfl⟩) (fun i σ' H' _ ⟨_, _, _, eH, _⟩ => st_of (eH _ _ h2)) ?_ ?_
    · rintro i x σ' H' hi ⟨k, kvs, rfl, eH, hd', hkl, hinv⟩
      obtain ⟨qq, hq, rfl⟩ := pvs_at hi
      have hil := len_lt hq
      have hup : ∀ c, fnd (prs.take (i + 1)) c = (fnd (prs.take i) c).or (if qq.1 = c then some qq.2 else none) := fun c => by rw [take_up hq, fnd_snoc]
      show tDrop _ _ _ H'
      refine s_setd (v := V.str (SX.S [qq.2])) (k := Sum.inr (SX.S [qq.1])) (ev_var rfl) hd' (ev_op (ev_var rfl) ev_c (rv_ixS (c := qq.1) (by rw [len_S]; show 2 ≤ 100000; decide) (atI_nat (j := 0) rfl))) (ev_op (ev_var rfl) ev_c (rv_ixS (c := qq.2) (by rw [len_S]; show 2 ≤ 100000; decide) (atI_nat (j := 1) rfl))) (by omega) (fun y H2 hy e2 => ?_) (fun H2 hn e2 => ?_)
      · refine ⟨_, kvs, rfl, eH.trans e2, e2 _ _ hd', by omega, fun c => ?_⟩
        rw [hup c, hinv c]
        cases hc : fnd (prs.take i) c with
        | some z => rfl
        | none =>
          have hne : ¬ qq.1 = c := fun h => by
            rw [h] at hy
            rw [hinv c, hc] at hy
            cases hy
          rw [if_neg hne]
          rfl
      · refine ⟨_, _, rfl, Ex.mut (eH.trans e2) hd, upd_same, Nat.le_trans (length_putK _ _ _) (by omega), fun c => ?_⟩
        rw [valV_put, hup c]
        by_cases hc : qq.1 = c
        · rw [if_pos (by rw [hc]), if_pos hc]
          have : fnd (prs.take i) c = none := by
            rw [hc, hinv c] at hn
            cases hz : fnd (prs.take i) c with
            | none => rfl
            | some z => rw [hz] at hn; cases hn
          rw [this]
          rfl
        · rw [if_neg (fun h => hc (List.cons.inj (SX.S_inj (Sum.inr.inj h))).1.symm), if_neg hc, hinv c]
          cases fnd (prs.take i) c <;> rfl
    · rintro σ' H' ⟨k, kvs, rfl, eH, hd', hkl, hinv⟩
      have hlen : (pvs prs).length = prs.length := List.length_map ..
      rw [hlen, List.take_of_length_le (Nat.le_refl _)] at hinv
      have hz : (SX.S l).length ≤ 40000 := by rw [len_S]; omega
      refine s_ret (ev_is (ev_joinL (a := SX.S []) (ys := (l.map (ca prs)).map fun c => SX.S [c]) (ev_is ev_c (congrArg V.str (by decide +kernel))) ?_ ?_) (congrArg V.str (join_ones (l.map (ca prs))))) fun H2 e2 => q H2 (eH.trans e2)
      · have e : given (SX.S l).cps.size (fun _ => true) (fun i => V.str (SX.S [ca prs (l.getD i 0)])) = (((l.map (ca prs)).map fun c => SX.S [c]).map V.str) := by
          rw [given_all, List.map_map, List.map_map]
          exact map_getD (fun c => V.str (SX.S [ca prs c])) 0 l
        rw [← e]
        refine el_lcS (fun _ => true) (fun i => V.str (SX.S [ca prs (l.getD i 0)])) (ev_var rfl) hz (fun _ => rfl) (fun _ _ _ _ _ => et_yes) (fun i c H2 e2 hc _ => ?_)
        have hc' : l.getD i 0 = c := by
          have h : l[i]? = some c := hc
          rw [List.getD_eq_getElem?_getD, h]
          rfl
        rw [hc']
        refine ev_is (ev_get2 (kvs := kvs) (k := Sum.inr (SX.S [c])) (v := V.str (SX.S [c])) (ev_var rfl) (e2 _ _ hd') (ev_var rfl) (ev_var rfl)) ?_
        rw [hinv c]
        unfold ca
        cases fnd prs c <;> rfl
      · rw [sum_ones, List.length_map, List.length_map, List.length_map, len_S]
        show l.length + l.length * 0 ≤ _
        omega

/-! ### same_name -/
theorem ok_same_name (D : Df K mg "same_name" s_same_name ["rule", "first", "second"]) (T : Txt K mg c_Rule) (G_folded : C8.Cal P w K mg base 1 "folded" (sp_folded K c_Rule) []) : C8.Cal P w K mg base 2 "same_name" (sp_same_name K c_Rule) [] := by
  refine D.cal sc_same_name (fun vs H Q E h => ?_) (fun f cdv A outer s H vs Q E hr h => ?_)
  · obtain ⟨r, prs, un, n, l, m, rfl, _⟩ := h
    rfl
  · obtain ⟨r, prs, un, n, l, m, rfl, hR, hl, hm, q⟩ := h
    refine ⟨_,
        (pss_one (ps_ret (pe_cmpR op_eq (C8.pe_c G_folded hr (by decide) (by rfl) (pa_cons (pv 0) (pa_cons (pv 1) pa_nil))) (C8.pe_c G_folded hr (by decide) (by rfl) (pa_cons (pv 0) (pa_cons (pv 2) pa_nil))) (nomark _)))), ?_⟩
    refine s_ret (ev_is (ev_op (ev_call (ea_cons (ev_var rfl) (ea_cons (ev_var rfl) ea_nil)) (sp_fo hR hl)) (ev_call (ea_cons (ev_var rfl) (ea_cons (ev_var rfl) ea_nil)) (sp_fo hR hm)) (rv_eq rfl)) (congrArg V.bl (eq_S _ _))) fun H1 e1 => q H1 e1

/-! ### fits -/
theorem ok_fits (D : Df K mg "fits" s_fits ["rule", "name"]) (T : Txt K mg c_Rule) (G_is_name : C8.Cal P w K mg base 1 "is_name" (sp_is_name K) []) (G_same_name : C8.Cal P w K mg base 2 "same_name" (sp_same_name K c_Rule) []) : C8.Cal P w K mg base 3 "fits" (sp_fits K c_Rule) [] := by
  refine D.cal sc_fits (fun vs H Q E h => ?_) (fun f cdv A outer s H vs Q E hr h => ?_)
  · obtain ⟨r, prs, un, n, l, rfl, _⟩ := h
    rfl
  · obtain ⟨r, prs, un, n, l, rfl, hR, hl, q⟩ := h
    refine ⟨_,
        (pss_cons (ps_if (PW.pt (pw_or (pt_not (pt_val (C8.pe_c G_is_name hr (by decide) (by rfl) (pa_cons (pv 1) pa_nil)))) (pw_or1 (pt_cmpR op_gt (pe_callB call_len_str (by rfl) T.n_len PySem.boot_len (pa_cons (pv 1) pa_nil)) (pe_fld (pv 0) rfl) (nomark _)))))
          (pss_one (ps_ret pe_bl))
          pss_nil)
        (pss_cons (ps_for PassesOwn.never rfl (pi_tup (pe_fld (pv 0) rfl)) (pg_name (i := 2) sc_fits.nd rfl (.inl rfl))
          (pss_one (ps_if (pt_val (C8.pe_c G_same_name hr (by decide) (by rfl) (pa_cons (pv 0) (pa_cons (pv 1) (pa_cons (pv 2) pa_nil)))))
            (pss_one (ps_ret pe_bl))
            pss_nil)))
        (pss_one (ps_ret pe_bl)))), ?_⟩
    have hR0 := hR
    obtain ⟨dx, a, u, h1, h2, h3, hk⟩ := hR
    have hz : (SX.S l).length ≤ 100000 := by rw [len_S]; omega
    refine q_when (b := !(nameOk (SX.S l) && decide ((l.length : Int) ≤ n))) (et_is (et_or (et_not (et_B (ev_call (ea_cons (ev_var rfl) ea_nil) (sp_nm hz)))) (fun _ => et_test (ev_op (ev_cb (ea_cons (ev_var rfl) ea_nil) (rc_lenStr hz)) (ev_fld (ev_var rfl) h1 T.cl_Rule T.na_Rule_longest (ruleF_longest a u n)) rv_I0))) ?_) (fun hb H1 e1 => ?_) (fun hb H1 e1 => ?_)
    · rw [len_S]
      by_cases h : (l.length : Int) ≤ n
      · rw [decide_eq_true h, decide_eq_false (show ¬ n < (l.length : Int) by omega)]
        cases nameOk (SX.S l) <;> rfl
      · rw [decide_eq_false h, decide_eq_true (show n < (l.length : Int) by omega)]
        cases nameOk (SX.S l) <;> rfl
    · refine s_ret ev_c fun H2 e2 => ?_
      have g := q H2 (e1.trans e2)
      rw [Bool.not_eq_true'] at hb
      rw [hb] at g
      exact g
    · rw [Bool.not_eq_false'] at hb
      rw [hb] at q
      refine q_forT (K := K) (a := u) (xs := uvs un) (ev_fld (ev_var rfl) (e1 _ _ h1) T.cl_Rule T.na_Rule_unfit (ruleF_unfit a u n)) (st_of (e1 _ _ h3))
        (fun i σ' H' => ∃ k, σ' = [some (.ref r), some (.str (SX.S l)), k] ∧ Ex H H' ∧ ((un.take i).all fun o => !alk prs l o) = true) (fun H2 e2 => ⟨none, rfl, e1.trans e2, rfl⟩) (fun i σ' H' _ ⟨_, _, eH, _⟩ => st_of (eH _ _ h3)) ?_ ?_
      · rintro i x σ' H' hi ⟨k, rfl, eH, hall⟩
        obtain ⟨o, ho, rfl⟩ := uvs_at hi
        have hom : o ∈ un := List.mem_of_getElem? ho
        show tIfS _ _ _ _ _ H'
        refine s_when (et_B (ev_call (ea_cons (ev_var rfl) (ea_cons (ev_var rfl) (ea_cons (ev_var rfl) ea_nil))) (sp_sn (hR0.ex eH) hl (hk.c o hom)))) (fun hb H2 e2 => ?_) (fun hb H2 e2 => ?_)
        · refine s_ret ev_c fun H3 e3 => ?_
          have g := q H3 ((eH.trans e2).trans e3)
          have hf : (un.all fun o => !alk prs l o) = false := by
            rw [List.all_eq_false]
            exact ⟨o, hom, by rw [hb]; decide⟩
          rw [hf] at g
          exact g
        · refine ⟨_, rfl, eH.trans e2, ?_⟩
          rw [take_up ho, List.all_append, hall]
          simp [hb]
      · rintro σ' H' ⟨k, rfl, eH, hall⟩
        rw [show (uvs un).length = un.length from List.length_map .., List.take_of_length_le (Nat.le_refl _)] at hall
        rw [hall] at q
        exact s_ret ev_c fun H3 e3 => q H3 (eH.trans e3)

/-! ### law_cells -/
theorem ok_law_cells (D : Df K mg "_law_cells" s_law_cells ["script", "count"]) (T : Txt K mg c_Rule)  : C8.Cal P w K mg base 1 "_law_cells" (sp_law_cells K) [] := by
  refine D.cal sc_law_cells (fun vs H Q E h => ?_) (fun f cdv A outer s H vs Q E hr h => ?_)
  · obtain ⟨a, ns, n, rfl, _⟩ := h
    rfl
  · obtain ⟨a, ns, n, rfl, hS, hl, hn, q⟩ := h
    refine ⟨_,
        (pss_cons (ps_set (i := 2) sc_law_cells.nd rfl (.inl rfl) (pe_lst pa_nil))
        (pss_cons (ps_for PassesOwn.never rfl (pi_range1 (by rfl) T.n_range (pa_cons (pv 1) pa_nil)) (pg_name (i := 3) sc_law_cells.nd rfl (.inl rfl))
          (pss_cons (ps_set (i := 4) sc_law_cells.nd rfl (.inl rfl) pe_int)
          (pss_cons (ps_if (pt_cmpR op_lt (pv 3) (pe_callB call_len_seq (by rfl) T.n_len PySem.boot_len (pa_cons (pv 0) pa_nil)) (nomark _))
            (pss_one (ps_set (i := 4) sc_law_cells.nd rfl (.inl rfl) (pe_callTy call_int1 (by rfl) T.n_int (by decide +kernel) (pa_cons (pe_ix ix_list (pv 0) (pv 3) (fun _ _ => rfl)) pa_nil))))
            pss_nil)
          (pss_cons (ps_if (pt_cmpR op_lt (pv 4) pe_int (nomark _))
            (pss_one (ps_set (i := 4) sc_law_cells.nd rfl (.inl rfl) (pe_op op_sub pe_int (pe_op op_mul pe_int (pv 4)))))
            pss_nil)
          (pss_cons (ps_if (PW.pt (pw_or (pt_cmpR op_ge (pv 3) (pe_callB call_len_seq (by rfl) T.n_len PySem.boot_len (pa_cons (pv 0) pa_nil)) (nomark _)) (pw_or1 (pt_cmpR op_lt (pv 4) pe_int (nomark _)))))
            (pss_cons (ps_if (pt_cmpR op_gt (pe_callB call_len_seq (by rfl) T.n_len PySem.boot_len (pa_cons (pv 0) pa_nil)) pe_int (nomark _))
              (pss_one (ps_set (i := 4) sc_law_cells.nd rfl (.inl rfl) (pe_callTy call_int1 (by rfl) T.n_int (by decide +kernel) (pa_cons (pe_ix ix_list (pv 0) (pe_op op_mod (pe_callTy call_int1 (by rfl) T.n_int (by decide +kernel) (pa_cons (pv 3) pa_nil)) (pe_callB call_len_seq (by rfl) T.n_len PySem.boot_len (pa_cons (pv 0) pa_nil))) (fun _ _ => rfl)) pa_nil))))
              pss_nil)
            (pss_cons (ps_if (pt_cmpR op_lt (pv 4) pe_int (nomark _))
              (pss_one (ps_set (i := 4) sc_law_cells.nd rfl (.inl rfl) (pe_op op_sub pe_int (pe_op op_mul pe_int (pv 4)))))
              pss_nil)
            (pss_cons (ps_set (i := 4) sc_law_cells.nd rfl (.inl rfl) (pe_op op_mod (pe_callTy call_int1 (by rfl) T.n_int (by decide +kernel) (pa_cons (pe_op op_add (pe_op op_mul (pe_op op_add (pe_op op_add (pv 4) (pe_op op_mul pe_int (pv 3))) pe_int) pe_int) (pe_op op_mul (pe_op op_mul (pv 3) (pv 3)) pe_int)) pa_nil)) pe_int))
            (pss_one (ps_set (i := 4) sc_law_cells.nd rfl (.inl rfl) (pe_op op_mod (pe_callTy call_int1 (by rfl) T.n_int (by decide +kernel) (pa_cons (pe_op op_mul (pe_op op_add (pe_op op_add (pv 4) (pe_op op_mul pe_int (pv 3))) pe_int) pe_int) pa_nil)) pe_int))))))
            pss_nil)
          (pss_one (ps_expr (pe_bm PySem.F.plainAttrs_list PySem.F.slot_list_append PySem.F.type_list_append mt_append (pv 2) (pa_cons (pv 4) pa_nil)))))))))
        (pss_one (ps_ret (pv 2))))), ?_⟩
    refine q_asgL (el_lst ea_nil (by simp)) fun p H1 hp e1 h1 => ?_
    refine q_forR1 (n := (n : Int)) (ea_cons (ev_var rfl) ea_nil) ⟨by omega, by omega⟩
      (fun i σ' H' => ∃ k c, σ' = [some (.ref a), some (.int (n : Int)), some (.ref p), k, c] ∧ Ex H H' ∧ H' p = some (.lst ((cellsOf ns i).map V.int)))
      (fun H2 e2 => ⟨none, none, rfl, e1.trans e2, e2 p _ h1⟩) ?_ ?_
    · rintro i σ' H' hi ⟨k0, c0, rfl, eH, hc⟩
      have hS' := ex_l eH hS
      have hlen : ((ns.map V.int).length : Int) = (ns.length : Int) := by rw [List.length_map]
      -- cell = 0; if k < len(script): cell = int(script[k])
      refine q_asg ev_c fun H2 e2 => ?_
      refine q_ifAsg (v := .int (cell0 ns i)) (et_test (ev_op (ev_var rfl) (ev_len (ev_var rfl) (ex_l e2 hS')) rv_I0)) (fun hb => ?_) (fun hb => ?_) fun H3 e3 => ?_
      · have hlt : i < ns.length := by
          have := of_decide_eq_true hb
          rw [hlen] at this
          omega
        refine ev_is (ev_cb (ea_cons (ev_op (ev_var rfl) (ev_var rfl) (rv_ixL (ex_l e2 hS') (at_int (by omega) (by omega)))) ea_nil) rc_int) ?_
        unfold cell0
        rw [if_pos hlt, Int.toNat_natCast]
      · have hlt : ¬ i < ns.length := by
          have := of_decide_eq_false hb
          rw [hlen] at this
          omega
        unfold cell0
        rw [if_neg hlt]
        rfl
      -- if cell < 0: cell = 1 - 2 * cell
      refine q_ifAsg (v := .int (fixC (cell0 ns i))) (et_test (ev_op (ev_var rfl) ev_c rv_I0)) (fun hb => ev_is (ev_op ev_c (ev_op ev_c (ev_var rfl) (rv_I (.inl (by decide)))) rv_I0) (congrArg V.int (fixC_neg hb))) (fun hb => by rw [fixC_pos hb]; rfl) fun H4 e4 => ?_
      have hS4 := ex_l ((e2.trans e3).trans e4) hS'
      have eH4 := (eH.trans ((e2.trans e3).trans e4))
      have hc4 := ((e2.trans e3).trans e4) p _ hc
      have lenc : ((cellsOf ns i).map V.int).length < 100000 := by
        rw [List.length_map, cellsOf_len]
        omega
      have fin : ∀ H5, Ex H4 H5 → ∃ k c, ([some (.ref a), some (.int (n : Int)), some (.ref p), some (.int (i : Int)), some (.int (cellAt ns i))] : L2.St) = [some (.ref a), some (.int (n : Int)), some (.ref p), k, c] ∧ Ex H (upd H5 p (.lst ((cellsOf ns i).map V.int ++ [.int (cellAt ns i)]))) ∧ (upd H5 p (.lst ((cellsOf ns i).map V.int ++ [.int (cellAt ns i)]))) p = some (.lst ((cellsOf ns (i + 1)).map V.int)) := fun H5 e5 => by
        refine ⟨_, _, rfl, Ex.mut (eH4.trans e5) hp, ?_⟩
        rw [upd_same, cellsOf_succ, List.map_append]
        rfl
      refine q_when (et_or (et_test (ev_op (ev_var rfl) (ev_len (ev_var rfl) hS4) rv_I0)) (fun _ => et_test (ev_op (ev_var rfl) ev_c rv_I0))) (fun hb H5 e5 => ?_) (fun hb H5 e5 => ?_)
      · rw [hlen] at hb
        have hS5 := ex_l e5 hS4
        refine q_ifAsg (v := .int (cell2 ns i (fixC (cell0 ns i)))) (et_test (ev_op (ev_len (ev_var rfl) hS5) ev_c rv_I0)) (fun hb => ?_) (fun hb => ?_) fun H6 e6 => ?_
        · have hpos : 0 < ns.length := by
            have := of_decide_eq_true hb
            rw [hlen] at this
            omega
          have hm0 : 0 ≤ (i : Int) % (ns.length : Int) := Int.emod_nonneg _ (by omega)
          have hm1 : (i : Int) % (ns.length : Int) < (ns.length : Int) := Int.emod_lt_of_pos _ (by omega)
          refine ev_is (ev_cb (ea_cons (ev_op (ev_var rfl) (ev_op (ev_cb (ea_cons (ev_var rfl) ea_nil) rc_int) (ev_len (ev_var rfl) hS5) (rv_I (by rw [hlen]; omega))) (rv_ixL hS5 (by rw [hlen]; exact at_int hm0 hm1))) ea_nil) rc_int) ?_
          unfold cell2
          rw [if_pos hpos]
        · have hpos : ¬ 0 < ns.length := by
            have := of_decide_eq_false hb
            rw [hlen] at this
            omega
          unfold cell2
          rw [if_neg hpos]
          rfl
        refine q_ifAsg (v := .int (fixC (cell2 ns i (fixC (cell0 ns i))))) (et_test (ev_op (ev_var rfl) ev_c rv_I0)) (fun hb => ev_is (ev_op ev_c (ev_op ev_c (ev_var rfl) (rv_I (.inl (by decide)))) rv_I0) (congrArg V.int (fixC_neg hb))) (fun hb => by rw [fixC_pos hb]; rfl) fun H7 e7 => ?_
        refine q_asg (v := .int (mix1 i (fixC (cell2 ns i (fixC (cell0 ns i)))))) (ev_op (ev_cb (ea_cons (ev_op (ev_op (ev_op (ev_op (ev_var rfl) (ev_op ev_c (ev_var rfl) (rv_I (.inl (by decide)))) rv_I0) ev_c rv_I0) ev_c (rv_I (.inr (by decide)))) (ev_op (ev_op (ev_var rfl) (ev_var rfl) (rv_I (.inl (by omega)))) ev_c (rv_I (.inr (by decide)))) rv_I0) ea_nil) rc_int) ev_c (rv_I (by show (0 : Int) < 1000000007; decide))) fun H8 e8 => ?_
        refine s_asg (v := .int (cellAt ns i)) (ev_is (ev_op (ev_cb (ea_cons (ev_op (ev_op (ev_op (ev_var rfl) (ev_op ev_c (ev_var rfl) (rv_I (.inl (by decide)))) rv_I0) ev_c rv_I0) ev_c (rv_I (.inr (by decide)))) ea_nil) rc_int) ev_c (rv_I (by show (0 : Int) < 18446744073709551557; decide))) (congrArg V.int (cellAt_mix hb))) fun H9 e9 => ?_
        have e49 := (((e5.trans e6).trans e7).trans e8).trans e9
        exact s_app (e49 p _ hc4) (ev_var rfl) (ev_var rfl) lenc fun H10 e10 => fin H10 (e49.trans e10)
      · rw [hlen] at hb
        rw [cellAt_own hb] at *
        exact s_app (e5 p _ hc4) (ev_var rfl) (ev_var rfl) lenc fun H10 e10 => fin H10 (e5.trans e10)
    · rintro σ' H' ⟨k0, c0, rfl, eH, hc⟩
      exact s_ret (ev_var rfl) fun H1' e' => q p H1' hp (eH.trans e') (e' p _ hc)

/-! ### law_word -/
theorem ok_law_word (D : Df K mg "_law_word" s_law_word ["cells", "at", "size"]) (T : Txt K mg c_Rule)  : C8.Cal P w K mg base 1 "_law_word" (sp_law_word K) [] := by
  refine D.cal sc_law_word (fun vs H Q E h => ?_) (fun f cdv A outer s H vs Q E hr h => ?_)
  · obtain ⟨p, cs, i, j, rfl, _⟩ := h
    rfl
  · obtain ⟨p, cs, i, j, rfl, hS, hij, hj, q⟩ := h
    refine ⟨_,
        (pss_cons (ps_set (i := 3) sc_law_word.nd rfl (.inl rfl) pe_str)
        (pss_cons (ps_for PassesOwn.never rfl (pi_range1 (by rfl) T.n_range (pa_cons (pv 2) pa_nil)) (pg_name (i := 4) sc_law_word.nd rfl (.inl rfl))
          (pss_one (ps_set (i := 3) sc_law_word.nd rfl (.inl rfl) (pe_op op_add_str (pv 3) (pe_ix ix_str pe_str (pe_op op_mod (pe_callTy call_int1 (by rfl) T.n_int (by decide +kernel) (pa_cons (pe_ix ix_list (pv 0) (pe_op op_add (pv 1) (pv 4)) (fun _ _ => rfl)) pa_nil)) pe_int) (fun _ _ => rfl))))))
        (pss_one (ps_ret (pv 3))))), ?_⟩
    refine q_asg (v := .str (SX.S [])) (ev_is ev_c (congrArg V.str (by decide +kernel))) fun H1 e1 => ?_
    refine q_forR1 (n := (j : Int)) (ea_cons (ev_var rfl) ea_nil) ⟨by omega, by omega⟩
      (fun m σ' H' => ∃ k, σ' = [some (.ref p), some (.int (i : Int)), some (.int (j : Int)), some (.str (SX.S (wrd cs i m))), k] ∧ Ex H H') (fun H2 e2 => ⟨none, rfl, e1.trans e2⟩) ?_ ?_
    · rintro m σ' H' hm ⟨k, rfl, eH⟩
      have hlt : i + m < cs.length := by omega
      have hmd := mod_bd (cs.getD ((i : Int) + (m : Int)).toNat 0) 8 (by decide)
      have hw : (wrd cs i m).length = m := by unfold wrd; rw [List.length_map, List.length_range]
      have e_al : Str.ofString "aAbBcC. " = SX.S signs := by decide +kernel
      refine s_asg (v := .str (SX.S (wrd cs i (m + 1)))) (ev_is (ev_op (ev_var rfl) (ev_op (ev_is ev_c (congrArg V.str e_al)) (ev_op (ev_cb (ea_cons (ev_op (ev_var rfl) (ev_op (ev_var rfl) (ev_var rfl) rv_I0) (rv_ixL (ex_l eH hS) (at_int (by omega) (by omega)))) ea_nil) rc_int) ev_c (rv_I (by show (0 : Int) < 8; decide))) (rv_ixS (by decide) (at_codeS hmd.1 hmd.2))) (rv_addS (by rw [len_S, hw]; show m + 1 ≤ 100000; omega))) (congrArg V.str ?_)) fun H2 e2 => ⟨_, rfl, eH.trans e2⟩
      have hS1 : ∀ c : Nat, (⟨#[c]⟩ : Str) = SX.S [c] := fun c => rfl
      rw [hS1, SX.S_cat]
      refine congrArg SX.S ?_
      unfold wrd
      rw [List.range_succ, List.map_append, show ((i : Int) + (m : Int)).toNat = i + m by omega]
      rfl
    · rintro σ' H' ⟨k, rfl, eH⟩
      exact s_ret (ev_var rfl) fun H3 e3 => q H3 (eH.trans e3)

/-! ### law_counts_as -/
theorem ok_law_counts_as (D : Df K mg "_law_counts_as" s_law_counts_as ["pairs", "sign"]) (T : Txt K mg c_Rule)  : C8.Cal P w K mg base 1 "_law_counts_as" (sp_law_counts_as K) [] := by
  refine D.cal sc_law_counts_as (fun vs H Q E h => ?_) (fun f cdv A outer s H vs Q E hr h => ?_)
  · obtain ⟨p, prs, c, rfl, _⟩ := h
    rfl
  · obtain ⟨p, prs, c, rfl, hS, q⟩ := h
    refine ⟨_,
        (pss_cons (ps_for PassesOwn.never rfl (pi_list (pv 0)) (pg_name (i := 2) sc_law_counts_as.nd rfl (.inl rfl))
          (pss_one (ps_if (pt_cmpR op_eq (pe_ix ix_str (pv 2) pe_int (fun _ _ => rfl)) (pv 1) (nomark _))
            (pss_one (ps_ret (pe_ix ix_str (pv 2) pe_int (fun _ _ => rfl))))
            pss_nil)))
        (pss_one (ps_ret (pv 1)))), ?_⟩
    refine q_forLn (K := K) (a := p) (xs := pvs prs) (ev_var rfl) hS (fun i σ' H' => ∃ k, σ' = [some (.ref p), some (.str (SX.S [c])), k] ∧ Ex H H' ∧ fnd (prs.take i) c = none) (fun H2 e2 => ⟨none, rfl, e2, rfl⟩) (fun i σ' H' _ ⟨_, _, eH, _⟩ => ex_l eH hS) ?_ ?_
    · rintro i x σ' H' hi ⟨k, rfl, eH, hn⟩
      obtain ⟨qq, hq, rfl⟩ := pvs_at hi
      have hup : fnd (prs.take (i + 1)) c = if qq.1 = c then some qq.2 else none := by rw [take_up hq, fnd_snoc, hn]; rfl
      refine s_when (b := decide (qq.1 = c)) (et_is (et_test (ev_op (ev_op (ev_var rfl) ev_c (rv_ixS (c := qq.1) (by rw [len_S]; show 2 ≤ 100000; decide) (atI_nat (j := 0) rfl))) (ev_var rfl) (rv_eq rfl))) (dec_str1 rfl)) (fun hb H2 e2 => ?_) (fun hb H2 e2 => ?_)
      · refine s_ret (ev_op (ev_var rfl) ev_c (rv_ixS (c := qq.2) (by rw [len_S]; show 2 ≤ 100000; decide) (atI_nat (j := 1) rfl))) fun H3 e3 => ?_
        have g := q H3 ((eH.trans e2).trans e3)
        have hf : ca prs c = qq.2 := by
          have h1 : fnd prs c = some qq.2 := by
            rw [← List.take_append_drop (i + 1) prs]
            unfold fnd at hup ⊢
            rw [List.find?_append]
            rw [if_pos (of_decide_eq_true hb)] at hup
            cases hz : (prs.take (i + 1)).find? fun q => q.1 == c with
            | none => rw [hz] at hup; cases hup
            | some z => rw [hz] at hup; exact hup
          unfold ca
          rw [h1]
          rfl
        rw [hf] at g
        exact g
      · refine ⟨_, rfl, eH.trans e2, ?_⟩
        rw [hup, if_neg (of_decide_eq_false hb)]
    · rintro σ' H' ⟨k, rfl, eH, hn⟩
      rw [show (pvs prs).length = prs.length from List.length_map .., List.take_of_length_le (Nat.le_refl _)] at hn
      have hf : ca prs c = c := by
        unfold ca
        rw [hn]
        rfl
      rw [hf] at q
      exact s_ret (ev_var rfl) fun H3 e3 => q H3 (eH.trans e3)

/-! ### law_alike -/
theorem ok_law_alike (D : Df K mg "_law_alike" s_law_alike ["pairs", "first", "second"]) (T : Txt K mg c_Rule) (G_law_counts_as : C8.Cal P w K mg base 1 "_law_counts_as" (sp_law_counts_as K) []) : C8.Cal P w K mg base 2 "_law_alike" (sp_law_alike K) [] := by
  refine D.cal sc_law_alike (fun vs H Q E h => ?_) (fun f cdv A outer s H vs Q E hr h => ?_)
  · obtain ⟨p, prs, l, m, rfl, _⟩ := h
    rfl
  · obtain ⟨p, prs, l, m, rfl, hS, hl, hm, q⟩ := h
    refine ⟨_,
        (pss_cons (ps_if (pt_cmpR op_ne (pe_callB call_len_str (by rfl) T.n_len PySem.boot_len (pa_cons (pv 1) pa_nil)) (pe_callB call_len_str (by rfl) T.n_len PySem.boot_len (pa_cons (pv 2) pa_nil)) (nomark _))
          (pss_one (ps_ret pe_bl))
          pss_nil)
        (pss_one (ps_ret (pe_cmpR (op_eqP hr.units) (pe_lc (own := [("sign", 3)]) (g := gName 3) (tt := tYes) rfl sc_law_alike.nd (pi_str (pv 1)) (blkOk_by (own := [("sign", 3)]) (N := ["pairs", "first", "second", "sign"]) (sc := defScope s_law_alike) (by decide +kernel)) (fun _ _ _ _ _ => (pg_name (i := 3) sc_law_alike.nd rfl (Or.inl rfl))) (fun _ _ _ _ _ => pts_nil) (fun _ _ _ _ _ => (C8.pe_c G_law_counts_as hr (by decide) (by rfl) (pa_cons (pv 0) (pa_cons (pv 3) pa_nil))))) (pe_lc (own := [("sign", 3)]) (g := gName 3) (tt := tYes) rfl sc_law_alike.nd (pi_str (pv 2)) (blkOk_by (own := [("sign", 3)]) (N := ["pairs", "first", "second", "sign"]) (sc := defScope s_law_alike) (by decide +kernel)) (fun _ _ _ _ _ => (pg_name (i := 3) sc_law_alike.nd rfl (Or.inl rfl))) (fun _ _ _ _ _ => pts_nil) (fun _ _ _ _ _ => (C8.pe_c G_law_counts_as hr (by decide) (by rfl) (pa_cons (pv 0) (pa_cons (pv 3) pa_nil))))) (nomark _))))), ?_⟩
    have hzl : (SX.S l).length ≤ 40000 := by rw [len_S]; omega
    have hzm : (SX.S m).length ≤ 40000 := by rw [len_S]; omega
    refine q_when (b := !decide (l.length = m.length)) (et_is (et_test (ev_op (ev_cb (ea_cons (ev_var rfl) ea_nil) (rc_lenStr (by omega))) (ev_cb (ea_cons (ev_var rfl) ea_nil) (rc_lenStr (by omega))) (rv_ne rfl))) (by rw [len_S, len_S]; exact congrArg Bool.not (decide_eq_decide.mpr ⟨fun h => by have := V.int.inj h; omega, fun h => by rw [h]⟩))) (fun hb H1 e1 => ?_) (fun hb H1 e1 => ?_)
    · refine s_ret ev_c fun H2 e2 => ?_
      have g := q H2 (e1.trans e2)
      rw [Bool.not_eq_true', decide_eq_false_iff_not] at hb
      have hf : alk prs l m = false := decide_eq_false fun h => hb (by have := congrArg List.length h; rwa [List.length_map, List.length_map] at this)
      rw [hf] at g
      exact g
    · let tw : List Nat → List V := fun z => ((z.map (ca prs)).map fun c => SX.S [c]).map V.str
      have hlc : ∀ (z : List Nat) (j : Nat), (SX.S z).length ≤ 40000 → [some (.ref p), some (.str (SX.S l)), some (.str (SX.S m)), none][j]? = some (some (V.str (SX.S z))) → EvL (tLc (iStr (tVar j)) (gName 3) tYes (tCall (sp_law_counts_as K) [] E0 (tCons (tVar 0) (tCons (tVar 3) tNil))) [3]) [some (.ref p), some (.str (SX.S l)), some (.str (SX.S m)), none] H1 (tw z) := fun z j hz hj => by
        have hh := el_lcS (tl := tVar j) (tt := tYes) (te := tCall (sp_law_counts_as K) [] E0 (tCons (tVar 0) (tCons (tVar 3) tNil))) (j := 3) (vs := [3]) (σ := [some (.ref p), some (.str (SX.S l)), some (.str (SX.S m)), none]) (H := H1) (z := SX.S z) (fun _ => true) (fun i => .str (SX.S [ca prs (z.getD i 0)])) (ev_var hj) hz (fun _ => rfl) (fun _ _ _ _ _ => et_yes) (fun i c H2 e2 hc _ => by
          have hc' : z.getD i 0 = c := by
            have h : z[i]? = some c := hc
            rw [List.getD_eq_getElem?_getD, h]
            rfl
          rw [hc']
          exact ev_call (ea_cons (ev_var rfl) (ea_cons (ev_var rfl) ea_nil)) (sp_ca (ex_l (e1.trans e2) hS)))
        have e : given (SX.S z).cps.size (fun _ => true) (fun i => V.str (SX.S [ca prs (z.getD i 0)])) = tw z := by
          show _ = ((z.map (ca prs)).map fun c => SX.S [c]).map V.str
          rw [given_all, List.map_map, List.map_map]
          exact map_getD (fun c => V.str (SX.S [ca prs c])) 0 z
        rw [e] at hh
        exact hh
      have hd : ∀ {H2 : Hp} {p : Addr} (z : List Nat), H2 p = some (.lst (tw z)) → Dp K H2 (.ref p) (.list (((z.map (ca prs)).map fun c => SX.S [c]).map PyData.str)) := fun z h => Dp.lst (sq_of h) (dp_strs _)
      have hp' : ∀ z : List Nat, PyData.plain (.list (((z.map (ca prs)).map fun c => SX.S [c]).map PyData.str)) = true := fun z => plain_strs _
      have hdd : ∀ z : List Nat, PyData.depth (.list (((z.map (ca prs)).map fun c => SX.S [c]).map PyData.str)) ≤ 60 := fun z => by
        show PyData.depthAll _ + 1 ≤ 60
        rw [depth_strs]
        decide
      refine s_ret (ev_opLL (hlc l 1 hzl rfl) (hlc m 2 hzm rfl) fun pa pb H2 ha hb e2 => rv_eqP (b := alk prs l m) (fun H3 e3 => hd l (e3 _ _ ha)) (fun H3 e3 => hd m (e3 _ _ hb)) (hp' l) (hp' m) (hdd l) ?_) fun H3 e3 => q H3 (e1.trans e3)
      show PyData.eqvAll _ _ = _
      rw [eqv_strs]
      exact decide_eq_decide.mpr ⟨ones_inj, fun h => by rw [h]⟩

/-! ### law -/
def menuQ : List (Nat × Nat) := [(65, 97), (97, 66), (66, 98), (98, 65), (67, 99), (99, 67), (65, 65), (65, 98)]
def menuT : List Str := [Str.ofString "Aa", Str.ofString "aB", Str.ofString "Bb", Str.ofString "bA", Str.ofString "Cc", Str.ofString "cC", Str.ofString "AA", Str.ofString "Ab"]
theorem menu_eq : menuT.map V.str = pvs menuQ := by
  have h : menuT = menuQ.map fun q => SX.S [q.1, q.2] := by decide +kernel
  rw [h]
  unfold pvs
  rw [List.map_map]
  rfl
theorem wrd_mem {cs : List Int} {i j c : Nat} (h : c ∈ wrd cs i j) : c ∈ signs := by
  unfold wrd at h
  obtain ⟨k, _, rfl⟩ := List.mem_map.mp h
  have hm := mod_bd (cs.getD (i + k) 0) 8 (by decide)
  exact memD (by show _ < 8; omega)
theorem wrd_len {cs : List Int} {i j : Nat} : (wrd cs i j).length = j := by unfold wrd; rw [List.length_map, List.length_range]
theorem name_word {l : List Nat} (h1 : 1 ≤ l.length) (hs : ∀ c ∈ l, c ∈ signs) : nameOk (SX.S l) = ((decide (l.length ≤ 100) && !decide (V.str (SX.S l) = V.str (Str.ofString "."))) && !decide (V.str (SX.S l) = V.str (Str.ofString ".."))) := by
  have hno : decide (47 ∈ (SX.S l).cps.toList) = false := decide_eq_false fun h => absurd (hs 47 h) (by decide)
  have hge : ((SX.S l).cps.toList.all fun c => !decide (((c : Nat) : Int) < 32)) = true := by
    rw [List.all_eq_true]
    intro c hc
    have h := hs c hc
    have : ∀ c ∈ signs, (!decide (((c : Nat) : Int) < 32)) = true := by decide
    exact this c h
  unfold nameOk
  rw [hno, hge, len_S, decide_eq_false (show ¬ (l.length : Int) < 1 by omega)]
  by_cases h : l.length ≤ 100
  · rw [decide_eq_true h, decide_eq_false (show ¬ (100 : Int) < (l.length : Int) by omega)]
    cases decide (V.str (SX.S l) = V.str (Str.ofString ".")) <;> cases decide (V.str (SX.S l) = V.str (Str.ofString "..")) <;> rfl
  · rw [decide_eq_false h, decide_eq_true (show (100 : Int) < (l.length : Int) by omega)]
    cases decide (V.str (SX.S l) = V.str (Str.ofString ".")) <;> cases decide (V.str (SX.S l) = V.str (Str.ofString "..")) <;> rfl
theorem eh_rule {K : PySem.W.Frag} {C : Addr} {σ : L2.St} {H : Hp} {p3 p7 : Addr} {prs : List (Nat × Nat)} {un : List (List Nat)} {n : Int} (s3 : σ[3]? = some (some (.ref p3))) (s7 : σ[7]? = some (some (.ref p7))) (s8 : σ[8]? = some (some (.int n))) (h3 : H p3 = some (.lst (pvs prs))) (h7 : H p7 = some (.lst (uvs un))) (ho : RuleOk prs un) :
    EvH (tMakeK C 0 3 (sp_Rule___init K C) kw_Rule E0 tNil (tCons (tCB (rTup K) (tCons (tVar 3) tNil)) (tCons (tCB (rTup K) (tCons (tVar 7) tNil)) (tCons (tVar 8) tNil)))) σ H (fun v H' => ∃ r, v = .ref r ∧ RuleAt C H' r prs un n) := fun H9 e9 Q q => by
  refine (eu_tupOf (K := K) (ev_var s3) (sq_of h3)) H9 e9 _ fun pa H10 _ e10 h10 => ?_
  refine (eu_tupOf (K := K) (ev_var s7) (sq_of h7)) H10 (e9.trans e10) _ fun pu H11 _ e11 h11 => ?_
  refine (ev_var s8 : Ev (tVar 8) σ H _) H11 ((e9.trans e10).trans e11) _ fun H12 e12 => ⟨rfl, rfl, fun x dx hx hdx hne => ?_⟩
  have e13' : Ex H12 (upd (upd H12 dx (.own x)) x (.ins C dx [])) := Ex.mut (Ex.new hdx) hx
  refine ⟨x, dx, pa, pu, pvs prs, uvs un, n, rfl, upd_same, e13' _ _ (e12 _ _ (e11 _ _ h10)), e13' _ _ (e12 _ _ h11), fun H' hx' hk' => ⟨rfl, ?_⟩⟩
  have e14' : Ex H12 H' := fun b o hb => hk' b o (e13' b o hb) (ne_of_none hb hx)
  exact q _ H' ((e10.trans e11).trans (e12.trans e14')) ⟨x, rfl, dx, pa, pu, hx', e14' _ _ (e12 _ _ (e11 _ _ h10)), e14' _ _ (e12 _ _ h11), ho⟩
theorem ok_law {f : Addr} {fd : FuncData} (F : Fun K "law" "law" s_law f fd) (T : Txt K mg c_Rule) (G_same_name : C8.Cal P w K mg base 2 "same_name" (sp_same_name K c_Rule) []) (G_fits : C8.Cal P w K mg base 3 "fits" (sp_fits K c_Rule) []) (G_law_cells : C8.Cal P w K mg base 1 "_law_cells" (sp_law_cells K) []) (G_law_word : C8.Cal P w K mg base 1 "_law_word" (sp_law_word K) []) (G_law_alike : C8.Cal P w K mg base 2 "_law_alike" (sp_law_alike K) []) (M_Rule : MkK P w K mg base 1 "Rule" c_Rule 1 ["alike", "unfit", "longest"] (sp_Rule___init K c_Rule) (kw_Rule)) : FnOk P w K mg base CX0 4 f fd ["script"] (spLaw K) := by
  refine F.ok sc_law (fun vs H Q E h => ?_) (fun cdv A outer s H vs Q E hr h => ?_)
  · obtain ⟨a, ns, rfl, _⟩ := h
    rfl
  · obtain ⟨a, ns, rfl, hS, hl, q⟩ := h
    refine ⟨_,
        (pss_cons (ps_set (i := 1) sc_law.nd rfl (.inr rfl) (C8.pe_c G_law_cells hr (by decide) (by rfl) (pa_cons (pv 0) (pa_cons pe_int pa_nil))))
        (pss_cons (ps_set (i := 2) sc_law.nd rfl (.inr rfl) (pe_lst (pa_cons pe_str (pa_cons pe_str (pa_cons pe_str (pa_cons pe_str (pa_cons pe_str (pa_cons pe_str (pa_cons pe_str (pa_cons pe_str pa_nil))))))))))
        (pss_cons (ps_setLc (i := 3) (own := [("k", 13)]) (g := gName 13) (tt := tYes) rfl sc_law.nd rfl rfl (sw_true rfl rfl rfl (by decide +kernel)) (pi_range1 (by rfl) T.n_range (pa_cons (pe_op op_mod (pe_callTy call_int1 (by rfl) T.n_int (by decide +kernel) (pa_cons (pe_ix ix_list (pv 1) pe_int (fun _ _ => rfl)) pa_nil)) pe_int) pa_nil)) (blkOk_by (own := [("k", 13)]) (N := ["script", "cells", "menu", "pairs", "size", "first", "second", "unfit", "longest", "rule", "word", "expected", "other", "k"]) (sc := defScope s_law) (by decide +kernel)) (fun _ _ _ _ _ => (pg_name (i := 13) sc_law.nd rfl (Or.inl rfl))) (fun _ _ _ _ _ => pts_nil) (fun _ _ _ _ _ => (pe_ix (show IxR _ (rIxL K) from ix_list) (pv 2) (pe_op op_mod (pe_callTy call_int1 (by rfl) T.n_int (by decide +kernel) (pa_cons (pe_ix (show IxR _ (rIxL K) from ix_list) (pv 1) (pv 13) (fun _ _ => rfl)) pa_nil)) pe_int) (fun _ _ => rfl))))
        (pss_cons (ps_set (i := 4) sc_law.nd rfl (.inl rfl) (pe_op op_add pe_int (pe_op op_mod (pe_callTy call_int1 (by rfl) T.n_int (by decide +kernel) (pa_cons (pe_ix ix_list (pv 1) pe_int (fun _ _ => rfl)) pa_nil)) pe_int)))
        (pss_cons (ps_set (i := 5) sc_law.nd rfl (.inl rfl) (C8.pe_c G_law_word hr (by decide) (by rfl) (pa_cons (pv 1) (pa_cons pe_int (pa_cons (pv 4) pa_nil)))))
        (pss_cons (ps_set (i := 6) sc_law.nd rfl (.inl rfl) (C8.pe_c G_law_word hr (by decide) (by rfl) (pa_cons (pv 1) (pa_cons pe_int (pa_cons (pe_callB (call_max2 rfl) (by rfl) T.n_max (by decide +kernel) (pa_cons pe_int (pa_cons (pe_op op_sub (pv 4) (pe_callTy call_int1 (by rfl) T.n_int (by decide +kernel) (pa_cons (pe_cmpR op_eq (pe_op op_mod (pe_ix ix_list (pv 1) pe_int (fun _ _ => rfl)) pe_int) pe_int (nomark _)) pa_nil))) pa_nil))) pa_nil)))))
        (pss_cons (ps_setLc (i := 7) (own := [("k", 13)]) (g := gName 13) (tt := tYes) rfl sc_law.nd rfl rfl (sw_true rfl rfl rfl (by decide +kernel)) (pi_range1 (by rfl) T.n_range (pa_cons (pe_op op_mod (pe_callTy call_int1 (by rfl) T.n_int (by decide +kernel) (pa_cons (pe_ix ix_list (pv 1) pe_int (fun _ _ => rfl)) pa_nil)) pe_int) pa_nil)) (blkOk_by (own := [("k", 13)]) (N := ["script", "cells", "menu", "pairs", "size", "first", "second", "unfit", "longest", "rule", "word", "expected", "other", "k"]) (sc := defScope s_law) (by decide +kernel)) (fun _ _ _ _ _ => (pg_name (i := 13) sc_law.nd rfl (Or.inl rfl))) (fun _ _ _ _ _ => pts_nil) (fun _ _ _ _ _ => (C8.pe_c G_law_word hr (by decide) (by rfl) (pa_cons (pv 1) (pa_cons (pe_op op_add pe_int (pe_op op_mul pe_int (pv 13))) (pa_cons (pe_op op_add pe_int (pe_op op_mod (pe_callTy call_int1 (by rfl) T.n_int (by decide +kernel) (pa_cons (pe_ix (show IxR _ (rIxL K) from ix_list) (pv 1) pe_int (fun _ _ => rfl)) pa_nil)) pe_int)) pa_nil))))))
        (pss_cons (ps_set (i := 8) sc_law.nd rfl (.inl rfl) (pe_op op_add pe_int (pe_op op_mod (pe_callTy call_int1 (by rfl) T.n_int (by decide +kernel) (pa_cons (pe_ix ix_list (pv 1) pe_int (fun _ _ => rfl)) pa_nil)) pe_int)))
        (pss_cons (ps_set (i := 9) sc_law.nd rfl (.inl rfl) (pe_mkK M_Rule hr (by decide) (by rfl) (pk_cons (pe_callTy call_tuple_of (by rfl) T.n_tuple (by decide +kernel) (pa_cons (pv 3) pa_nil)) (pk_cons (pe_callTy call_tuple_of (by rfl) T.n_tuple (by decide +kernel) (pa_cons (pv 7) pa_nil)) (pk_cons (pv 8) pk_nil)))))
        (pss_cons (ps_if (pt_cmpR op_ne (C8.pe_c G_same_name hr (by decide) (by rfl) (pa_cons (pv 9) (pa_cons (pv 5) (pa_cons (pv 6) pa_nil)))) (C8.pe_c G_law_alike hr (by decide) (by rfl) (pa_cons (pv 3) (pa_cons (pv 5) (pa_cons (pv 6) pa_nil)))) (nomark _))
          (pss_one (ps_ret pe_bl))
          pss_nil)
        (pss_cons (ps_set (i := 10) sc_law.nd rfl (.inl rfl) (pv 5))
        (pss_cut (ps_if (pt_cmpR op_eq (pe_op op_mod (pe_ix ix_list (pv 1) pe_int (fun _ _ => rfl)) pe_int) pe_int (nomark _))
          (pss_one (ps_set (i := 10) sc_law.nd rfl (.inl rfl) (pe_slice sl_str (pe_op op_mul_str (pv 5) pe_int) po_none (po_some (pe_op op_add (pe_op op_sub (pv 8) pe_int) (pe_op op_mod (pe_callTy call_int1 (by rfl) T.n_int (by decide +kernel) (pa_cons (pe_ix ix_list (pv 1) pe_int (fun _ _ => rfl)) pa_nil)) pe_int))))))
          pss_nil)
        (pss_cons (ps_set (i := 11) sc_law.nd rfl (.inl rfl) (pe_and (pe_cmpR op_le (pe_callB call_len_str (by rfl) T.n_len PySem.boot_len (pa_cons (pv 10) pa_nil)) (pv 8) (nomark _)) (pe_and (pe_cmpR op_le (pe_callB call_len_str (by rfl) T.n_len PySem.boot_len (pa_cons (pv 10) pa_nil)) pe_int (nomark _)) (pe_one (pe_cmpR op_ne (pv 10) pe_str (nomark _))))))
        (pss_cons (ps_set (i := 11) sc_law.nd rfl (.inl rfl) (pe_and (pv 11) (pe_one (pe_cmpR op_ne (pv 10) pe_str (nomark _)))))
        (pss_cons (ps_for PassesOwn.never rfl (pi_list (pv 7)) (pg_name (i := 12) sc_law.nd rfl (.inl rfl))
          (pss_one (ps_if (pt_val (C8.pe_c G_law_alike hr (by decide) (by rfl) (pa_cons (pv 3) (pa_cons (pv 12) (pa_cons (pv 10) pa_nil)))))
            (pss_one (ps_set (i := 11) sc_law.nd rfl (.inl rfl) pe_bl))
            pss_nil)))
        (pss_one (ps_ret (pe_cmpR op_eq (C8.pe_c G_fits hr (by decide) (by rfl) (pa_cons (pv 9) (pa_cons (pv 10) pa_nil))) (pv 11) (nomark _))))))))))))))))))), ?_⟩
    refine q_asgL (el_call (ea_cons (ev_var rfl) (ea_cons ev_c ea_nil)) (sp_cells (n := 40) hS hl (by decide))) fun p1 H1 hp1 e1 h1 => ?_
    have cl := cellsOf_len ns 40
    generalize cellsOf ns 40 = cs at h1 cl
    have cell : ∀ {σ : L2.St} {ti : TE} {H' : Hp} {i : Int}, Ex H1 H' → σ[1]? = some (some (.ref p1)) → Ev ti σ H' (.int i) → 0 ≤ i → i < 40 → Ev (tOp (rIxL K) (tVar 1) ti) σ H' (.int (cs.getD i.toNat 0)) := fun e h0 hi i0 i1 =>
      ev_op (ev_var h0) hi (rv_ixL (sq_of (e p1 _ h1)) (at_int i0 (by omega)))
    refine q_asgL (xs := pvs menuQ) (by rw [← menu_eq]; exact el_lst (ea_cons ev_c (ea_cons ev_c (ea_cons ev_c (ea_cons ev_c (ea_cons ev_c (ea_cons ev_c (ea_cons ev_c (ea_cons ev_c ea_nil)))))))) (by show 8 ≤ 100000; decide)) fun p2 H2 hp2 e2 h2 => ?_
    have hm8 := mod_bd (cs.getD (8 : Int).toNat 0) 5 (by decide)
    let pr : Nat → Nat × Nat := fun k => menuQ.getD (cs.getD k 0 % 8).toNat (0, 0)
    refine q_asgL (el_lcR1 (fun _ => true) (fun k => V.str (SX.S [(pr k).1, (pr k).2])) (ea_cons (ev_op (ev_cb (ea_cons (cell e2 rfl ev_c (by decide) (by decide)) ea_nil) rc_int) ev_c (rv_I (by show (0 : Int) < 5; decide))) ea_nil) ⟨by omega, by omega⟩ (fun _ => rfl) (fun _ _ _ _ => et_yes) (fun i H3 e3 hi _ => ?_)) fun p3 H3 hp3 e3 h3 => ?_
    · have hm := mod_bd (cs.getD ((i : Nat) : Int).toNat 0) 8 (by decide)
      obtain ⟨j, hj⟩ := Int.eq_ofNat_of_zero_le hm.1
      have hj8 : j < menuQ.length := by show j < 8; omega
      refine ev_op (ev_var rfl) (ev_op (ev_cb (ea_cons (cell (e2.trans e3) rfl (ev_var rfl) (by omega) (by omega)) ea_nil) rc_int) ev_c (rv_I (by show (0 : Int) < 8; decide))) (rv_ixL (sq_of (e3 _ _ h2)) ?_)
      rw [hj]
      refine atI_nat ?_
      unfold pvs
      rw [List.getElem?_map, List.getElem?_eq_getElem hj8]
      show some (V.str (SX.S [_, _])) = some (V.str (SX.S [(menuQ.getD (cs.getD i 0 % 8).toNat (0, 0)).1, (menuQ.getD (cs.getD i 0 % 8).toNat (0, 0)).2]))
      rw [show (cs.getD i 0 % 8).toNat = j by rw [Int.toNat_natCast] at hj; omega, List.getD_eq_getElem?_getD, List.getElem?_eq_getElem hj8]
      rfl
    obtain ⟨n5, hn5⟩ := Int.eq_ofNat_of_zero_le hm8.1
    have hprs : ∃ prs : List (Nat × Nat), H3 p3 = some (.lst (pvs prs)) ∧ prs.length ≤ 10 := by
      rw [given_all, hn5, Int.toNat_natCast] at h3
      refine ⟨(List.range n5).map pr, ?_, by rw [List.length_map, List.length_range]; omega⟩
      unfold pvs
      rw [List.map_map]
      exact h3
    obtain ⟨prs, h3', hpl⟩ := hprs
    have e13 := e2.trans e3
    have hm9 := mod_bd (cs.getD (9 : Int).toNat 0) 6 (by decide)
    obtain ⟨sz, hsz⟩ := Int.eq_ofNat_of_zero_le (show 0 ≤ 1 + cs.getD (9 : Int).toNat 0 % 6 by omega)
    refine q_asg (v := .int (sz : Int)) (ev_is (ev_op ev_c (ev_op (ev_cb (ea_cons (cell e13 rfl ev_c (by decide) (by decide)) ea_nil) rc_int) ev_c (rv_I (by show (0 : Int) < 6; decide))) rv_I0) (congrArg V.int hsz)) fun H4 e4 => ?_
    have e14 := e13.trans e4
    have hc4 := sq_of (K := K) (e14 _ _ h1)
    refine q_asg (ev_call (ea_cons (ev_var rfl) (ea_cons ev_c (ea_cons (ev_var rfl) ea_nil))) (sp_wd (i := 10) hc4 (by omega) (by omega))) fun H5 e5 => ?_
    have e15 := e14.trans e5
    have hc5 := sq_of (K := K) (e15 _ _ h1)
    have hmx : ∃ m : Nat, m ≤ 6 ∧ (if (sz : Int) - (if decide (V.int (cs.getD (22 : Int).toNat 0 % 3) = V.int 0) = true then 1 else 0) > 1 then (sz : Int) - (if decide (V.int (cs.getD (22 : Int).toNat 0 % 3) = V.int 0) = true then 1 else 0) else (1 : Int)) = (m : Int) := by
      obtain ⟨m, hm⟩ := Int.eq_ofNat_of_zero_le (show 0 ≤ (if (sz : Int) - (if decide (V.int (cs.getD (22 : Int).toNat 0 % 3) = V.int 0) = true then 1 else 0) > 1 then (sz : Int) - (if decide (V.int (cs.getD (22 : Int).toNat 0 % 3) = V.int 0) = true then 1 else 0) else (1 : Int)) by split <;> omega)
      refine ⟨m, ?_, hm⟩
      have : (m : Int) ≤ 6 := by
        rw [← hm]
        split <;> split <;> omega
      omega
    obtain ⟨m2, hm2, hmx⟩ := hmx
    refine q_asg (ev_call (ea_cons (ev_var rfl) (ea_cons ev_c (ea_cons (ev_is (ev_cb (ea_cons ev_c (ea_cons (ev_op (ev_var rfl) (ev_cb (ea_cons (ev_op (ev_op (cell e15 rfl ev_c (by decide) (by decide)) ev_c (rv_I (by show (0 : Int) < 3; decide))) ev_c (rv_eq rfl)) ea_nil) rc_intB) rv_I0) ea_nil)) rc_max2) (congrArg V.int hmx)) ea_nil))) (sp_wd (i := 16) hc5 (by omega) (by omega))) fun H6 e6 => ?_
    have e16 := e15.trans e6
    have hm32 := mod_bd (cs.getD (32 : Int).toNat 0) 3 (by decide)
    have hm33 := mod_bd (cs.getD (33 : Int).toNat 0) 3 (by decide)
    obtain ⟨t, ht⟩ := Int.eq_ofNat_of_zero_le (show 0 ≤ 1 + cs.getD (32 : Int).toNat 0 % 3 by omega)
    obtain ⟨u3, hu3⟩ := Int.eq_ofNat_of_zero_le hm33.1
    refine q_asgL (el_lcR1 (fun _ => true) (fun k => V.str (SX.S (wrd cs (23 + 3 * k) t))) (ea_cons (ev_op (ev_cb (ea_cons (cell e16 rfl ev_c (by decide) (by decide)) ea_nil) rc_int) ev_c (rv_I (by show (0 : Int) < 3; decide))) ea_nil) ⟨by omega, by omega⟩ (fun _ => rfl) (fun _ _ _ _ => et_yes) (fun i H7 e7 hi _ => ?_)) fun p7 H7 hp7 e7 h7 => ?_
    · exact ev_call (ea_cons (ev_var rfl) (ea_cons (ev_is (ev_op ev_c (ev_op ev_c (ev_var rfl) (rv_I (.inl (by decide)))) rv_I0) (congrArg V.int (show (23 : Int) + 3 * (i : Int) = ((23 + 3 * i : Nat) : Int) by omega))) (ea_cons (ev_is (ev_op ev_c (ev_op (ev_cb (ea_cons (cell (e16.trans e7) rfl ev_c (by decide) (by decide)) ea_nil) rc_int) ev_c (rv_I (by show (0 : Int) < 3; decide))) rv_I0) (congrArg V.int ht)) ea_nil))) (sp_wd (sq_of ((e16.trans e7) _ _ h1)) (by omega) (by omega))
    have hun : ∃ un : List (List Nat), H7 p7 = some (.lst (uvs un)) ∧ un.length ≤ 10 ∧ ∀ l ∈ un, l.length ≤ 200 := by
      rw [given_all, hu3, Int.toNat_natCast] at h7
      refine ⟨(List.range u3).map fun k => wrd cs (23 + 3 * k) t, ?_, by rw [List.length_map, List.length_range]; omega, fun l hl => ?_⟩
      · unfold uvs
        rw [List.map_map]
        exact h7
      · obtain ⟨k, _, rfl⟩ := List.mem_map.mp hl
        rw [wrd_len]
        omega
    obtain ⟨un, h7', hul, hue⟩ := hun
    have e17 := e16.trans e7
    have hm34 := mod_bd (cs.getD (34 : Int).toNat 0) 53 (by decide)
    obtain ⟨n, hn⟩ := Int.eq_ofNat_of_zero_le (show 0 ≤ 48 + cs.getD (34 : Int).toNat 0 % 53 by omega)
    refine q_asg (v := .int (n : Int)) (ev_is (ev_op ev_c (ev_op (ev_cb (ea_cons (cell e17 rfl ev_c (by decide) (by decide)) ea_nil) rc_int) ev_c (rv_I (by show (0 : Int) < 53; decide))) rv_I0) (congrArg V.int hn)) fun H8 e8 => ?_
    have e18 := e17.trans e8
    have e38 : Ex H3 H8 := e4.trans (e5.trans (e6.trans (e7.trans e8)))
    -- the rule
    refine q_asgH (eh_rule rfl rfl rfl (e38 _ _ h3') (e8 _ _ h7') ⟨hpl, hul, hue⟩) ?_
    rintro _ H9 e9 ⟨r, rfl, hR⟩
    have e39 := e38.trans e9
    have l10 : (wrd cs 10 sz).length ≤ 200 := by rw [wrd_len]; omega
    have l16 : (wrd cs 16 m2).length ≤ 200 := by rw [wrd_len]; omega
    refine q_when (b := false) (et_is (et_test (ev_op (ev_call (ea_cons (ev_var rfl) (ea_cons (ev_var rfl) (ea_cons (ev_var rfl) ea_nil))) (sp_sn hR l10 l16)) (ev_call (ea_cons (ev_var rfl) (ea_cons (ev_var rfl) (ea_cons (ev_var rfl) ea_nil))) (sp_al (sq_of (e39 _ _ h3')) l10 l16)) (rv_ne rfl))) (by rw [decide_eq_true rfl]; rfl)) (fun hb => by cases hb) (fun _ H10 e10 => ?_)
    refine q_asg (ev_var rfl) fun H11 e11 => ?_
    have e911 := e10.trans e11
    have e111 := (e18.trans e9).trans e911
    refine q_cut (M := fun σ' H' => ∃ l : List Nat, σ' = [some (.ref a), some (.ref p1), some (.ref p2), some (.ref p3), some (.int (sz : Int)), some (.str (SX.S (wrd cs 10 sz))), some (.str (SX.S (wrd cs 16 m2))), some (.ref p7), some (.int (n : Int)), some (.ref r), some (.str (SX.S l)), none, none, none] ∧ Ex H9 H' ∧ 1 ≤ l.length ∧ l.length ≤ 200 ∧ ∀ c ∈ l, c ∈ signs) ?_ ?_
    · refine s_when (et_test (ev_op (ev_op (cell e111 rfl ev_c (by decide) (by decide)) ev_c (rv_I (by show (0 : Int) < 2; decide))) ev_c (rv_eq rfl))) (fun hb H12 e12 => ?_) (fun hb H12 e12 => ?_)
      · have hm36 := mod_bd (cs.getD (36 : Int).toNat 0) 3 (by decide)
        obtain ⟨b, hb36⟩ := Int.eq_ofNat_of_zero_le (show 0 ≤ (n : Int) - 1 + cs.getD (36 : Int).toNat 0 % 3 by omega)
        have hml := len_mul_k (x := SX.S (wrd cs 10 sz)) (n := 60) sz (by rw [len_S, wrd_len])
        rw [if_neg (by decide)] at hml
        have hmt : PySem.Txt.mul (SX.S (wrd cs 10 sz)) 60 = SX.S (PySem.Txt.mul (SX.S (wrd cs 10 sz)) 60).cps.toList := (SX.S_tl _).symm
        have hml2 : (PySem.Txt.mul (SX.S (wrd cs 10 sz)) 60).cps.toList.length = (PySem.Txt.mul (SX.S (wrd cs 10 sz)) 60).length := Array.length_toList
        refine s_asg (v := .str (SX.S ((PySem.Txt.mul (SX.S (wrd cs 10 sz)) 60).cps.toList.take b))) (ev_is (ev_cutS (ev_op (ev_var rfl) ev_c (rv_mulStr (by decide) (by decide) (by rw [len_S]; omega))) eo_none (eo_some (ev_is (ev_op (ev_op (ev_var rfl) ev_c rv_I0) (ev_op (ev_cb (ea_cons (cell (e111.trans e12) rfl ev_c (by decide) (by decide)) ea_nil) rc_int) ev_c (rv_I (by show (0 : Int) < 3; decide))) rv_I0) (congrArg V.int hb36))) (by omega)) (congrArg V.str ?_)) fun H13 e13 => ⟨_, rfl, (e911.trans e12).trans e13, ?_, ?_, fun c hc => ?_⟩
        · rw [hmt, cut_to]
        · rw [List.length_take, hml2]
          omega
        · rw [List.length_take, hml2]
          omega
        · exact wrd_mem (mul_mem (List.mem_of_mem_take hc))
      · exact ⟨_, rfl, e911.trans e12, by rw [wrd_len]; omega, l10, fun c hc => wrd_mem hc⟩
    rintro σ' H12 ⟨l, rfl, e912, hl1, hl2, hls⟩
    have hz : (SX.S l).length ≤ 100000 := by rw [len_S]; omega
    refine q_asg (ev_andV (ev_op (ev_cb (ea_cons (ev_var rfl) ea_nil) (rc_lenStr hz)) (ev_var rfl) rv_I0) (fun _ => ev_andV (ev_op (ev_cb (ea_cons (ev_var rfl) ea_nil) (rc_lenStr hz)) ev_c rv_I0) (fun _ => ev_op (ev_var rfl) ev_c (rv_ne rfl)))) fun H13 e13 => ?_
    refine q_asg (ev_andV (ev_var rfl) (fun _ => ev_op (ev_var rfl) ev_c (rv_ne rfl))) fun H14 e14' => ?_
    have e914 := (e912.trans e13).trans e14'
    have e714 : Ex H7 H14 := (e8.trans e9).trans e914
    have hfull : ((decide ((((SX.S l).length : Nat) : Int) ≤ (n : Int)) && (decide ((((SX.S l).length : Nat) : Int) ≤ 100) && !decide (V.str (SX.S l) = V.str (Str.ofString ".")))) && !decide (V.str (SX.S l) = V.str (Str.ofString ".."))) = (nameOk (SX.S l) && decide ((l.length : Int) ≤ (n : Int))) := by
      rw [name_word hl1 hls, len_S, show decide ((l.length : Int) ≤ 100) = decide (l.length ≤ 100) from decide_eq_decide.mpr (by omega)]
      cases decide ((l.length : Int) ≤ (n : Int)) <;> cases decide (l.length ≤ 100) <;> cases decide (V.str (SX.S l) = V.str (Str.ofString ".")) <;> cases decide (V.str (SX.S l) = V.str (Str.ofString "..")) <;> rfl
    rw [hfull]
    generalize hex : (nameOk (SX.S l) && decide ((l.length : Int) ≤ (n : Int))) = ex
    refine q_forLn (K := K) (a := p7) (xs := uvs un) (ev_var rfl) (sq_of (e714 _ _ h7'))
      (fun i σ' H' => ∃ k, σ' = [some (.ref a), some (.ref p1), some (.ref p2), some (.ref p3), some (.int (sz : Int)), some (.str (SX.S (wrd cs 10 sz))), some (.str (SX.S (wrd cs 16 m2))), some (.ref p7), some (.int (n : Int)), some (.ref r), some (.str (SX.S l)), some (.bl (ex && (un.take i).all fun o => !alk prs l o)), k, none] ∧ Ex H9 H')
      (fun H15 e15 => ⟨none, by simp, e914.trans e15⟩) (fun i σ' H' _ ⟨_, _, eH⟩ => sq_of (((e8.trans e9).trans eH) _ _ h7')) ?_ ?_
    · rintro i x σ' H' hi ⟨k, rfl, eH⟩
      obtain ⟨o, ho, rfl⟩ := uvs_at hi
      have hom : o ∈ un := List.mem_of_getElem? ho
      refine s_ifAsg (v := .bl (ex && (un.take (i + 1)).all fun o => !alk prs l o)) (et_B (ev_call (ea_cons (ev_var rfl) (ea_cons (ev_var rfl) (ea_cons (ev_var rfl) ea_nil))) (sp_al (l := o) (m := l) (sq_of ((e39.trans eH) _ _ h3')) (hue o hom) hl2))) (fun hb => ?_) (fun hb => ?_) fun H15 e15 => ⟨_, rfl, eH.trans e15⟩
      · refine ev_is ev_c (congrArg V.bl ?_)
        rw [alk_symm] at hb
        rw [take_up ho, List.all_append]
        simp [hb]
      · rw [alk_symm] at hb
        rw [take_up ho, List.all_append]
        simp [hb]
    · rintro σ' H' ⟨k, rfl, eH⟩
      rw [show (uvs un).length = un.length from List.length_map .., List.take_of_length_le (Nat.le_refl _)]
      refine s_ret (ev_is (ev_op (ev_call (ea_cons (ev_var rfl) (ea_cons (ev_var rfl) ea_nil)) (sp_ft (hR.ex eH) hl2)) (ev_var rfl) (rv_eq rfl)) ?_) fun H15 e15 => q H15
      rw [hex, decide_eq_true rfl]

end
/-! ### what the top has made; the law's own head -/
theorem all_mk {l : PySem.W.OpenLaw} {w : World} {K : PySem.W.Frag} {h : Heap} {mg : Str → Option Value} {fa f1 f2 f3 f4 f5 f6 f7 f8 f9 f10 c_Rule kd_Rule : Addr} (X : K.In h) (G : h.Ns mainGlobals mg) (hfa : mg "law" = some (.ref fa)) {t1 t2 : Tok}
    {od1 an1 od2 an2 od3 an3 od4 an4 od5 an5 od6 an6 od7 an7 od8 an8 od9 an9 od10 an10 : Option Addr} {sl1 sl2 sl3 sl4 sl5 sl6 sl7 sl8 sl9 sl10 : Array (Option Value)} {oc1 dc1 pm1 cd1 ct1 oc2 kV2 dc2 pm2 cd2 ct2 oc3 kV3 dc3 pm3 cd3 ct3 oc4 kV4 dc4 pm4 cd4 ct4 oc5 kV5 dc5 pm5 cd5 ct5 oc6 kV6 dc6 pm6 cd6 ct6 oc7 kV7 dc7 pm7 cd7 ct7 oc8 kV8 dc8 pm8 cd8 ct8 oc9 kV9 dc9 pm9 cd9 ct9 oc10 kV10 dc10 pm10 cd10 ct10 : Value}
    (aC_Rule : PySem.W.nsIn K mainGlobals "Rule" = some (some (.ref c_Rule))) (pg_Rule : PySem.W.plainGet K c_Rule Str.empty = true) (hd_Rule : PySem.W.hasDictIn K c_Rule = true) (po_Rule : PySem.W.plainOver K c_Rule = true) (sa_Rule : PySem.W.findIn K (.ref c_Rule) "__setattr__" = some (some (.builtin "object.__setattr__"))) (mk_Rule : PySem.W.makesIn K c_Rule = true) (kc_Rule : PySem.W.keepIn K (.ref c_Rule) = true) (na_Rule_alike : PySem.W.findIn K (.ref c_Rule) "alike" = some none) (na_Rule_unfit : PySem.W.findIn K (.ref c_Rule) "unfit" = some none) (na_Rule_longest : PySem.W.findIn K (.ref c_Rule) "longest" = some none) (na_Rule_swaps : PySem.W.findIn K (.ref c_Rule) "swaps" = some none) (na_Rule_reads : PySem.W.findIn K (.ref c_Rule) "reads" = some none) (na_Rule_cuts : PySem.W.findIn K (.ref c_Rule) "cuts" = some none) (na_Rule_turns : PySem.W.findIn K (.ref c_Rule) "turns" = some none)
    (a1 : PySem.W.findIn K (.ref c_Rule) "__init__" = some (some (.ref f1))) (i1 : PySem.W.isFn K (.ref f1) = true) (l1 : K.lookup f1 = some ⟨oc1, od1, .func (PySem.W.fnOf "__init__" "Rule.__init__" (defArgs s_Rule___init) (defBody s_Rule___init) (defScope s_Rule___init) .none (.ref kd_Rule) dc1 pm1 an1 cd1 ct1), sl1⟩) (c1 : PySem.W.codeIn K cd1 "Rule.__init__" = true) (k1 : PySem.W.keepIn K (.ref f1) = true)
    (q_Rule_swaps : PySem.W.nsIn K kd_Rule "swaps" = some (some (.bool true))) (q_Rule_reads : PySem.W.nsIn K kd_Rule "reads" = some (some (.bool true))) (q_Rule_cuts : PySem.W.nsIn K kd_Rule "cuts" = some (some (.bool true))) (q_Rule_turns : PySem.W.nsIn K kd_Rule "turns" = some (some (.bool true)))
    (a2 : PySem.W.nsIn K mainGlobals "is_name" = some (some (.ref f2))) (l2 : K.lookup f2 = some ⟨oc2, od2, .func (PySem.W.fnOf "is_name" "is_name" (defArgs s_is_name) (defBody s_is_name) (defScope s_is_name) .none kV2 dc2 pm2 an2 cd2 ct2), sl2⟩) (c2 : PySem.W.codeIn K cd2 "is_name" = true) (k2 : PySem.W.keepIn K (.ref f2) = true)
    (a3 : PySem.W.nsIn K mainGlobals "folded" = some (some (.ref f3))) (l3 : K.lookup f3 = some ⟨oc3, od3, .func (PySem.W.fnOf "folded" "folded" (defArgs s_folded) (defBody s_folded) (defScope s_folded) .none kV3 dc3 pm3 an3 cd3 ct3), sl3⟩) (c3 : PySem.W.codeIn K cd3 "folded" = true) (k3 : PySem.W.keepIn K (.ref f3) = true)
    (a4 : PySem.W.nsIn K mainGlobals "same_name" = some (some (.ref f4))) (l4 : K.lookup f4 = some ⟨oc4, od4, .func (PySem.W.fnOf "same_name" "same_name" (defArgs s_same_name) (defBody s_same_name) (defScope s_same_name) .none kV4 dc4 pm4 an4 cd4 ct4), sl4⟩) (c4 : PySem.W.codeIn K cd4 "same_name" = true) (k4 : PySem.W.keepIn K (.ref f4) = true)
    (a5 : PySem.W.nsIn K mainGlobals "fits" = some (some (.ref f5))) (l5 : K.lookup f5 = some ⟨oc5, od5, .func (PySem.W.fnOf "fits" "fits" (defArgs s_fits) (defBody s_fits) (defScope s_fits) .none kV5 dc5 pm5 an5 cd5 ct5), sl5⟩) (c5 : PySem.W.codeIn K cd5 "fits" = true) (k5 : PySem.W.keepIn K (.ref f5) = true)
    (a6 : PySem.W.nsIn K mainGlobals "_law_cells" = some (some (.ref f6))) (l6 : K.lookup f6 = some ⟨oc6, od6, .func (PySem.W.fnOf "_law_cells" "_law_cells" (defArgs s_law_cells) (defBody s_law_cells) (defScope s_law_cells) .none kV6 dc6 pm6 an6 cd6 ct6), sl6⟩) (c6 : PySem.W.codeIn K cd6 "_law_cells" = true) (k6 : PySem.W.keepIn K (.ref f6) = true)
    (a7 : PySem.W.nsIn K mainGlobals "_law_word" = some (some (.ref f7))) (l7 : K.lookup f7 = some ⟨oc7, od7, .func (PySem.W.fnOf "_law_word" "_law_word" (defArgs s_law_word) (defBody s_law_word) (defScope s_law_word) .none kV7 dc7 pm7 an7 cd7 ct7), sl7⟩) (c7 : PySem.W.codeIn K cd7 "_law_word" = true) (k7 : PySem.W.keepIn K (.ref f7) = true)
    (a8 : PySem.W.nsIn K mainGlobals "_law_counts_as" = some (some (.ref f8))) (l8 : K.lookup f8 = some ⟨oc8, od8, .func (PySem.W.fnOf "_law_counts_as" "_law_counts_as" (defArgs s_law_counts_as) (defBody s_law_counts_as) (defScope s_law_counts_as) .none kV8 dc8 pm8 an8 cd8 ct8), sl8⟩) (c8 : PySem.W.codeIn K cd8 "_law_counts_as" = true) (k8 : PySem.W.keepIn K (.ref f8) = true)
    (a9 : PySem.W.nsIn K mainGlobals "_law_alike" = some (some (.ref f9))) (l9 : K.lookup f9 = some ⟨oc9, od9, .func (PySem.W.fnOf "_law_alike" "_law_alike" (defArgs s_law_alike) (defBody s_law_alike) (defScope s_law_alike) .none kV9 dc9 pm9 an9 cd9 ct9), sl9⟩) (c9 : PySem.W.codeIn K cd9 "_law_alike" = true) (k9 : PySem.W.keepIn K (.ref f9) = true)
    (a10 : PySem.W.nsIn K mainGlobals "law" = some (some (.ref f10))) (l10 : K.lookup f10 = some ⟨oc10, od10, .func (PySem.W.fnOf "law" "law" (defArgs s_law) (defBody s_law) (defScope s_law) .none kV10 dc10 pm10 an10 cd10 ct10), sl10⟩) (c10 : PySem.W.codeIn K cd10 "law" = true) (k10 : PySem.W.keepIn K (.ref f10) = true)
    (z1 : PySem.W.nsIn K mainGlobals "int" = some none) (z2 : PySem.W.nsIn K mainGlobals "len" = some none) (z3 : PySem.W.nsIn K mainGlobals "max" = some none) (z4 : PySem.W.nsIn K mainGlobals "ord" = some none) (z5 : PySem.W.nsIn K mainGlobals "range" = some none) (z6 : PySem.W.nsIn K mainGlobals "tuple" = some none) (g1 : PySem.W.nsIn K mainGlobals "FIRST_SIGN" = some (some (.int 32 t1))) (g2 : PySem.W.nsIn K mainGlobals "MOST_SIGNS" = some (some (.int 100 t2))) :
    ∃ fd : FuncData, (∀ (s : Shared) (v : Value), BindsTo s fd ⟨[v], []⟩ [("script", v)]) ∧ ∀ base : Heap, K.In base → base.Ns mainGlobals mg → FnOk l.prog w K mg base CX0 4 fa fd ["script"] (spLaw K) := by
  have e := hfa.symm.trans (PySem.W.mg_of X G a10)
  cases e
  have T : Txt K mg c_Rule := ⟨⟨pg_Rule, hd_Rule, po_Rule, sa_Rule⟩, PySem.W.mg_of X G aC_Rule, na_Rule_alike, na_Rule_unfit, na_Rule_longest, na_Rule_swaps, na_Rule_reads, na_Rule_cuts, na_Rule_turns, PySem.W.mg_none_of X G z1, PySem.W.mg_none_of X G z2, PySem.W.mg_none_of X G z3, PySem.W.mg_none_of X G z4, PySem.W.mg_none_of X G z5, PySem.W.mg_none_of X G z6, ⟨_, PySem.W.mg_of X G g1, ⟨_, rfl⟩⟩, ⟨_, PySem.W.mg_of X G g2, ⟨_, rfl⟩⟩⟩
  have F1 : FunD K "__init__" "Rule.__init__" (defArgs s_Rule___init) (defBody s_Rule___init) (defScope s_Rule___init) [] [("swaps", V.bl true), ("reads", V.bl true), ("cuts", V.bl true), ("turns", V.bl true)] f1 _ := ⟨⟨_, _, _, _, _, _, _, _, _, _, rfl, l1, c1, Or.inl ⟨rfl, rfl⟩, Or.inr ⟨_, rfl, fun q hq => ?_⟩⟩, k1⟩
  rotate_left
  · simp only [List.mem_cons, List.mem_nil_iff, or_false] at hq
    rcases hq with rfl | rfl | rfl | rfl
    · exact ⟨_, q_Rule_swaps, rfl⟩
    · exact ⟨_, q_Rule_reads, rfl⟩
    · exact ⟨_, q_Rule_cuts, rfl⟩
    · exact ⟨_, q_Rule_turns, rfl⟩
  have F2 := fun_mk (st := s_is_name) l2 c2 k2
  have D2 : Df K mg "is_name" s_is_name ["text"] := ⟨_, _, F2, PySem.W.mg_of X G a2, F2.binds (ps := ["text"]) fun _ _ _ _ _ _ us hl => match us, hl with | [_], _ => rfl⟩
  have F3 := fun_mk (st := s_folded) l3 c3 k3
  have D3 : Df K mg "folded" s_folded ["rule", "name"] := ⟨_, _, F3, PySem.W.mg_of X G a3, F3.binds (ps := ["rule", "name"]) fun _ _ _ _ _ _ us hl => match us, hl with | [_, _], _ => rfl⟩
  have F4 := fun_mk (st := s_same_name) l4 c4 k4
  have D4 : Df K mg "same_name" s_same_name ["rule", "first", "second"] := ⟨_, _, F4, PySem.W.mg_of X G a4, F4.binds (ps := ["rule", "first", "second"]) fun _ _ _ _ _ _ us hl => match us, hl with | [_, _, _], _ => rfl⟩
  have F5 := fun_mk (st := s_fits) l5 c5 k5
  have D5 : Df K mg "fits" s_fits ["rule", "name"] := ⟨_, _, F5, PySem.W.mg_of X G a5, F5.binds (ps := ["rule", "name"]) fun _ _ _ _ _ _ us hl => match us, hl with | [_, _], _ => rfl⟩
  have F6 := fun_mk (st := s_law_cells) l6 c6 k6
  have D6 : Df K mg "_law_cells" s_law_cells ["script", "count"] := ⟨_, _, F6, PySem.W.mg_of X G a6, F6.binds (ps := ["script", "count"]) fun _ _ _ _ _ _ us hl => match us, hl with | [_, _], _ => rfl⟩
  have F7 := fun_mk (st := s_law_word) l7 c7 k7
  have D7 : Df K mg "_law_word" s_law_word ["cells", "at", "size"] := ⟨_, _, F7, PySem.W.mg_of X G a7, F7.binds (ps := ["cells", "at", "size"]) fun _ _ _ _ _ _ us hl => match us, hl with | [_, _, _], _ => rfl⟩
  have F8 := fun_mk (st := s_law_counts_as) l8 c8 k8
  have D8 : Df K mg "_law_counts_as" s_law_counts_as ["pairs", "sign"] := ⟨_, _, F8, PySem.W.mg_of X G a8, F8.binds (ps := ["pairs", "sign"]) fun _ _ _ _ _ _ us hl => match us, hl with | [_, _], _ => rfl⟩
  have F9 := fun_mk (st := s_law_alike) l9 c9 k9
  have D9 : Df K mg "_law_alike" s_law_alike ["pairs", "first", "second"] := ⟨_, _, F9, PySem.W.mg_of X G a9, F9.binds (ps := ["pairs", "first", "second"]) fun _ _ _ _ _ _ us hl => match us, hl with | [_, _, _], _ => rfl⟩
  have F10 := fun_mk (st := s_law) l10 c10 k10
  refine ⟨PySem.W.fnOf "law" "law" (defArgs s_law) (defBody s_law) (defScope s_law) .none kV10 dc10 pm10 an10 cd10 ct10, fun s v => .of_eq rfl, fun base _ _ => ?_⟩
  have G_folded := ok_folded (P := l.prog) (w := w) (base := base) D3 T 
  have G_same_name := ok_same_name (P := l.prog) (w := w) (base := base) D4 T G_folded
  have G_is_name := ok_is_name (P := l.prog) (w := w) (base := base) D2 T 
  have G_fits := ok_fits (P := l.prog) (w := w) (base := base) D5 T G_is_name G_same_name
  have G_law_cells := ok_law_cells (P := l.prog) (w := w) (base := base) D6 T 
  have G_law_word := ok_law_word (P := l.prog) (w := w) (base := base) D7 T 
  have G_law_counts_as := ok_law_counts_as (P := l.prog) (w := w) (base := base) D8 T 
  have G_law_alike := ok_law_alike (P := l.prog) (w := w) (base := base) D9 T G_law_counts_as
  have G_Rule___init := ok_Rule___init (P := l.prog) (w := w) (base := base) F1 T 
  have M_Rule : MkK l.prog w K mg base 1 "Rule" c_Rule 1 ["alike", "unfit", "longest"] (sp_Rule___init K c_Rule) kw_Rule := by
    obtain ⟨g, hb⟩ := kb_Rule F1
    exact ⟨_, _, _, g, ⟨mk_Rule, a1, i1, kc_Rule⟩, G_Rule___init, hb, T.mg_Rule⟩
  exact ok_law F10 T G_same_name G_fits G_law_cells G_law_word G_law_alike M_Rule
end K02
open PySem PySem.W PyProof.Rows
set_option maxHeartbeats 0 in
theorem PySem.Challenge.cw_foldkeep_k02_alike_names_holds : PySem.Challenge.rw_foldkeep_k02_alike_names.Holds := by
  w_on; o_law; k_head; (case hw => w_witness2)
  k_fill
  refine L2.walk_of (l := PySem.Challenge.rw_foldkeep_k02_alike_names) (n := 63) (k := 4) (x := "script") (CX := fun _ => L2.CX0) (sp := fun w => Lw.spLaw _) rfl (by decide) rfl ⟨rfl, by decide, by decide⟩ (fun w h Y => PySem.W.kIn_of Y) ?F (fun _ _ a ns hl _ hS => ⟨a, ns, rfl, hS, hl, fun _ => rfl⟩) (fun _ _ _ _ _ h => h)
  case F =>
    intro w mg fa h KX G hmg
    refine' K02.all_mk KX G hmg ?aC_Rule ?pg_Rule ?hd_Rule ?po_Rule ?sa_Rule ?mk_Rule ?kc_Rule ?na_Rule_alike ?na_Rule_unfit ?na_Rule_longest ?na_Rule_swaps ?na_Rule_reads ?na_Rule_cuts ?na_Rule_turns ?a1 ?i1 ?l1 ?c1 ?k1 ?q_Rule_swaps ?q_Rule_reads ?q_Rule_cuts ?q_Rule_turns ?a2 ?l2 ?c2 ?k2 ?a3 ?l3 ?c3 ?k3 ?a4 ?l4 ?c4 ?k4 ?a5 ?l5 ?c5 ?k5 ?a6 ?l6 ?c6 ?k6 ?a7 ?l7 ?c7 ?k7 ?a8 ?l8 ?c8 ?k8 ?a9 ?l9 ?c9 ?k9 ?a10 ?l10 ?c10 ?k10 ?z1 ?z2 ?z3 ?z4 ?z5 ?z6 ?g1 ?g2
    (case aC_Rule => k_is); (case pg_Rule => k_is); (case hd_Rule => k_is); (case po_Rule => k_is)
    (case sa_Rule => k_is); (case mk_Rule => k_is); (case kc_Rule => k_is); (case na_Rule_alike => k_is)
    (case na_Rule_unfit => k_is); (case na_Rule_longest => k_is); (case na_Rule_swaps => k_is); (case na_Rule_reads => k_is)
    (case na_Rule_cuts => k_is); (case na_Rule_turns => k_is); (case a1 => k_is); (case i1 => k_is)
    (case l1 => k_is); (case c1 => k_is); (case k1 => k_is); (case q_Rule_swaps => k_is)
    (case q_Rule_reads => k_is); (case q_Rule_cuts => k_is); (case q_Rule_turns => k_is); (case a2 => k_is)
    (case l2 => k_is); (case c2 => k_is); (case k2 => k_is); (case a3 => k_is)
    (case l3 => k_is); (case c3 => k_is); (case k3 => k_is); (case a4 => k_is)
    (case l4 => k_is); (case c4 => k_is); (case k4 => k_is); (case a5 => k_is)
    (case l5 => k_is); (case c5 => k_is); (case k5 => k_is); (case a6 => k_is)
    (case l6 => k_is); (case c6 => k_is); (case k6 => k_is); (case a7 => k_is)
    (case l7 => k_is); (case c7 => k_is); (case k7 => k_is); (case a8 => k_is)
    (case l8 => k_is); (case c8 => k_is); (case k8 => k_is); (case a9 => k_is)
    (case l9 => k_is); (case c9 => k_is); (case k9 => k_is); (case a10 => k_is)
    (case l10 => k_is); (case c10 => k_is); (case k10 => k_is); (case z1 => k_is)
    (case z2 => k_is); (case z3 => k_is); (case z4 => k_is); (case z5 => k_is)
    (case z6 => k_is); (case g1 => k_is); (case g2 => k_is)
#print axioms PySem.Challenge.cw_foldkeep_k02_alike_names_holds
