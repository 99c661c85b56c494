import PyProof.Rows.All
import Wide.All
import OpenK.AllK
import Wide.FinOn
import HandS.ForMost
import HandS.Codes
import HandS.Evl
import HandS.IsInst
import HandS.FStr
import HandS.StrMore
import KE.DataEq
import HandS.SetKeys
import HandS.MakeKwOnly
import HandS.SetFor
import HandS.Strs
import HandS.Conv
import KE.KeyNested
import PyProof.DictFindH
import PyProof.DictRoadsH
import PyProof.DictMoreH
import KE.KDictKeyed
import HandS.TupAny
import HandS.Star
import HandS.Steps
import HandS.Ends
import HandS.SortKw
import KE.DataMinMax
import HandS.DictComp
import HandS.Zip
import KE.DataCmp
import PySem.Challenge.RW_foldkeep_k14_lines_stay_sound
set_option Elab.async false
set_option linter.all false
set_option maxRecDepth 100000
set_option maxHeartbeats 4000000
/-! what the laws' helpers share: values, texts, cells -/
namespace Lw
open PySem PySem.Spec PyProof.Rows L2 Evl

/-! ### small readings -/
section
variable {K : PySem.W.Frag} {σ : L2.St} {H H' : Hp} {ta tb te tx : TE} {t u : TT} {x y z v : V}
theorem rc_int {i : Int} : RC (fun xs H Q => (∃ i, xs = [V.int i] ∧ Q (V.int i) H) ∨ ∃ k, xs = [V.bl k] ∧ Q (V.int (if k = true then 1 else 0)) H) [.int i] H (.int i) :=
  fun H1 _ _ q => Or.inl ⟨i, rfl, q H1 (Ex.refl H1)⟩
theorem rc_lenStr {a : Str} (h : a.length ≤ 100000) : RC (fun xs H Q => ∃ z : Str, xs = [V.str z] ∧ z.length ≤ sizeLine ∧ Q (V.int z.length) H) [.str a] H (.int a.length) :=
  fun H1 _ _ q => ⟨a, rfl, sz_of h, q H1 (Ex.refl H1)⟩
theorem rc_ord {a : Str} (h : a.length = 1) : RC (fun xs H Q => ∃ x : Str, xs = [V.str x] ∧ x.length = 1 ∧ Q (V.int (x.cps.getD 0 0 : Nat)) H) [.str a] H (.int (a.cps.getD 0 0 : Nat)) :=
  fun H1 _ _ q => ⟨a, rfl, h, q H1 (Ex.refl H1)⟩
theorem rv_addS {a b : Str} (h : a.length + b.length ≤ 100000) : RV (fun x y H Q => ∃ i j, x = .str i ∧ y = .str j ∧ i.length + j.length ≤ sizeLine ∧ Q (.str (i ++ j)) H) (.str a) (.str b) H (.str (a ++ b)) :=
  fun H1 _ _ q => ⟨a, b, rfl, rfl, sz_of h, q H1 (Ex.refl H1)⟩
theorem rv_inSign {c : Nat} {a z : Str} (e : a = ⟨#[c]⟩) : RV (fun x y H Q => ∃ (c : Nat) (z : Str), x = .str ⟨#[c]⟩ ∧ y = .str z ∧ Q (.bl (decide (c ∈ z.cps.toList))) H) (.str a) (.str z) H (.bl (decide (c ∈ z.cps.toList))) :=
  fun H1 _ _ q => ⟨c, z, by rw [e], rfl, q H1 (Ex.refl H1)⟩
/-- a text times a small number -/
def rMulStr : R2 := fun x y H Q => ∃ (a : Str) (n : Int), x = .str a ∧ y = .int n ∧ 1 ≤ n ∧ n ≤ 20000 ∧ a.length ≤ 200 ∧ Q (.str (Txt.mul a n)) H
theorem op_mul_str {X : Cx} : OpR X (binaryOp .Mult) rMulStr := by
  intro pins s σ H x y v u Q I rx ry h
  obtain ⟨a, n, rfl, rfl, h1, h2, h3, q⟩ := h
  obtain ⟨t, rfl⟩ := rx
  obtain ⟨t', rfl⟩ := ry
  refine SB.mul (n := n) ⟨?_, fun _ _ => ?_, fun _ _ => ?_⟩ fun t' k => ⟨.str (Txt.mul a n), H, I.tok _, ⟨_, rfl⟩, q⟩
  · rw [decide_eq_false (by omega), decide_eq_false (by omega)]
    rfl
  · have : (2 ^ 63 - 1) / n ≥ 200 := by
      refine (Int.le_ediv_iff_mul_le (by omega)).mpr ?_
      omega
    omega
  · have e : a.length * n.toNat ≤ 200 * 20000 := Nat.mul_le_mul h3 (by omega)
    exact decide_eq_false (by show ¬ a.length * n.toNat > 2 ^ 24; omega)
theorem rv_mulStr {a : Str} {n : Int} (h1 : 1 ≤ n) (h2 : n ≤ 20000) (h3 : a.length ≤ 200) : RV rMulStr (.str a) (.int n) H (.str (Txt.mul a n)) :=
  fun H1 _ _ q => ⟨a, n, rfl, rfl, h1, h2, h3, q H1 (Ex.refl H1)⟩
theorem rc_max2 {i j : Int} : RC (fun xs H Q => ∃ i j : Int, xs = [V.int i, V.int j] ∧ Q (V.int (if j > i then j else i)) H) [.int i, .int j] H (.int (if j > i then j else i)) :=
  fun H1 _ _ q => ⟨i, j, rfl, q H1 (Ex.refl H1)⟩
theorem rc_min2 {i j : Int} : RC (fun xs H Q => ∃ i j : Int, xs = [V.int i, V.int j] ∧ Q (V.int (if j < i then j else i)) H) [.int i, .int j] H (.int (if j < i then j else i)) :=
  fun H1 _ _ q => ⟨i, j, rfl, q H1 (Ex.refl H1)⟩
theorem et_yes : EvT tYes σ H true := fun H1 _ _ q => q H1 (Ex.refl H1)
/-- a slice of a text -/
theorem ev_cutS {tl th : TO} {z : Str} {lo hi : Option Int} (h : Ev te σ H (.str z)) (h1 : EvO tl σ H lo) (h2 : EvO th σ H hi) (hz : z.length ≤ 100000) : Ev (tSl rSlS te tl th) σ H (.str (cutS z lo hi)) := fun H1 e Q q =>
  h H1 e _ fun H2 e2 => h1 H2 (e.trans e2) _ fun H3 e3 => h2 H3 ((e.trans e2).trans e3) _ fun H4 e4 => ⟨z, rfl, sz_of hz, q H4 ((e2.trans e3).trans e4)⟩
/-- sep.join(a new list of texts) -/
theorem ev_joinL {a : Str} {ys : List Str} (ho : Ev ta σ H (.str a)) (h : EvL te σ H (ys.map V.str)) (hz : (ys.map (·.length)).sum + ys.length * a.length ≤ 16777216) :
    Ev (tM1 (fun x xs H Q => ∃ a p, ∃ ys : List Str, x = .str a ∧ xs = [.ref p] ∧ (SqL K H p (ys.map V.str) ∨ SqT K H p (ys.map V.str)) ∧ (ys.map (·.length)).sum + ys.length * a.length ≤ 16777216 ∧ Q (.str (Txt.join a ys)) H) ta te) σ H (.str (Txt.join a ys)) := fun H1 e Q q =>
  ho H1 e _ fun H2 e2 => ⟨⟨a, rfl⟩, h H2 (e.trans e2) _ fun p H3 _ e3 h3 => ⟨a, p, ys, rfl, rfl, .inl (sq_of h3), hz, q H3 (e2.trans e3)⟩⟩
/-- sep.join(a list of texts that stands) -/
theorem ev_joinS {a : Str} {p : Addr} {ys : List Str} (ho : Ev ta σ H (.str a)) (h : Ev te σ H (.ref p)) (hp : SqL K H p (ys.map V.str) ∨ SqT K H p (ys.map V.str)) (hz : (ys.map (·.length)).sum + ys.length * a.length ≤ 16777216) :
    Ev (tM1 (fun x xs H Q => ∃ a p, ∃ ys : List Str, x = .str a ∧ xs = [.ref p] ∧ (SqL K H p (ys.map V.str) ∨ SqT K H p (ys.map V.str)) ∧ (ys.map (·.length)).sum + ys.length * a.length ≤ 16777216 ∧ Q (.str (Txt.join a ys)) H) ta te) σ H (.str (Txt.join a ys)) := fun H1 e Q q =>
  ho H1 e _ fun H2 e2 => ⟨⟨a, rfl⟩, h H2 (e.trans e2) _ fun H3 e3 => ⟨a, p, ys, rfl, rfl, hp.elim (fun h => .inl (ex_l ((e.trans e2).trans e3) h)) (fun h => .inr (ex_t ((e.trans e2).trans e3) h)), hz, q H3 (e2.trans e3)⟩⟩
/-- the second operand told once the first is there -/
theorem ev_opV2 {r : R2} (ha : Ev ta σ H x) (hb : ∀ H1, Ex H H1 → Ev tb σ H1 y) (hr : RV r x y H z) : Ev (tOp r ta tb) σ H z := fun H1 e Q q =>
  ha H1 e _ fun H2 e2 => hb H2 (e.trans e2) H2 (Ex.refl H2) _ fun H3 e3 => hr H3 ((e.trans e2).trans e3) Q fun H4 e4 => q H4 ((e2.trans e3).trans e4)
theorem ev_chain {r r' : R2} {tc : TE} {a b : Bool} (ha : Ev ta σ H x) (hb : Ev tb σ H y) (hr : RV r x y H (.bl a)) (hc : a = true → Ev tc σ H z) (hr' : a = true → RV r' y z H (.bl b)) : Ev (tChain r r' ta tb tc) σ H (.bl (a && b)) := fun H1 e Q q =>
  ha H1 e _ fun H2 e2 => hb H2 (e.trans e2) _ fun H3 e3 => hr H3 ((e.trans e2).trans e3) _ fun H4 e4 => ⟨a, rfl, by
    cases a with
    | true =>
      show tc σ H4 _
      exact hc rfl H4 (((e.trans e2).trans e3).trans e4) _ fun H5 e5 => hr' rfl H5 ((((e.trans e2).trans e3).trans e4).trans e5) Q fun H6 e6 => q H6 ((((e2.trans e3).trans e4).trans e5).trans e6)
    | false =>
      show Q (.bl false) H4
      exact q H4 ((e2.trans e3).trans e4)⟩
/-- some value of which R holds -/
def EvP (te : TE) (σ : L2.St) (H : Hp) (R : V → Prop) : Prop := ∀ H1, Ex H H1 → ∀ Q : VK, (∀ v H2, R v → Ex H1 H2 → Q v H2) → te σ H1 Q
def SpP (sp : Sp) (vs : List V) (H : Hp) (R : V → Prop) : Prop := ∀ H1, Ex H H1 → ∀ Q : VK, (∀ v H2, R v → Ex H1 H2 → Q v H2) → ∀ E : XK, sp vs H1 Q E
theorem s_asgP {R : V → Prop} {D : Ends} {i : Nat} (h : EvP te σ H R) (k : ∀ v H1, R v → Ex H H1 → D.nx (σ.set i (some v)) H1) : tAsg te (gName i) D σ H := h H (Ex.refl H) _ fun v H1 r e => k v H1 r e
theorem q_asgP {R : V → Prop} {D : Ends} {tz : TS} {i : Nat} (h : EvP te σ H R) (k : ∀ v H1, R v → Ex H H1 → tz D (σ.set i (some v)) H1) : tSeq (tAsg te (gName i)) tz D σ H := s_asgP (D := { D with nx := tz D }) h k
theorem ep_call {R : V → Prop} {sp : Sp} {dvs vs : List V} {E : XK} {ta : TA} (h : EvA ta σ H vs) (hs : SpP sp (vs ++ dvs) H R) : EvP (tCall sp dvs E ta) σ H R := fun H1 e Q q =>
  h H1 e _ fun H2 e2 => hs H2 (e.trans e2) Q (fun v H3 r e3 => q v H3 r (e2.trans e3)) E
/-- of one argument, a new list -/
theorem ep_callL {R : V → Prop} {sp : Sp} {dvs xs : List V} {E : XK} (h : EvL te σ H xs) (hs : ∀ p H1, Ex H H1 → H1 p = some (.lst xs) → SpP sp (.ref p :: dvs) H1 R) : EvP (tCall sp dvs E (tCons te tNil)) σ H R := fun H1 e Q q =>
  h H1 e _ fun p H2 _ e2 h2 => hs p H2 (e.trans e2) h2 H2 (Ex.refl H2) Q (fun v H3 r e3 => q v H3 r (e2.trans e3)) E
theorem at_int {ns : List Int} {i : Int} (h0 : 0 ≤ i) (h : i < (ns.length : Int)) : atI (ns.map V.int) i = some (.int (ns.getD i.toNat 0)) := by
  obtain ⟨j, rfl⟩ := Int.eq_ofNat_of_zero_le h0
  refine atI_nat ?_
  have hj : j < ns.length := by omega
  rw [List.getElem?_map, List.getElem?_eq_getElem hj, Int.toNat_natCast, List.getD_eq_getElem?_getD, List.getElem?_eq_getElem hj]
  rfl
end

/-! ### loops over texts -/
section
variable {σ : L2.St} {H H' : Hp} {te : TE} {D : Ends} {tu tz : TS} {g : TG}
theorem for_str {x : Str} {tb : TS} (Pv : Nat → L2.St → Hp → Prop) (h0 : Pv 0 σ H)
    (hs : ∀ i c σ H, x.cps.toList[i]? = some c → Pv i σ H → g (.str ⟨#[c]⟩) σ H fun σ2 H2 => tb { D with nx := Pv (i + 1), ct := Pv (i + 1), bk := D.nx } σ2 H2) (hd : ∀ σ H, Pv x.cps.size σ H → D.nx σ H) :
    ∃ W : Nat → Nat → L2.St → Hp → Prop, (∃ m, W 0 m σ H) ∧ ∀ i m σ H, W i m σ H →
      ((Its x).stop i H ∧ D.nx σ H) ∨ ((Its x).go i H ∧ ∃ N : L2.St → Hp → Prop, (∀ σ' H', N σ' H' → ∃ m', m' < m ∧ W (i + 1) m' σ' H') ∧ ∀ y H', (Its x).yld i H y H' → g y σ H' fun σ2 H2 => tb { D with nx := N, ct := N, bk := D.nx } σ2 H2) := by
  refine ⟨fun i m σ H => m = x.cps.size - i ∧ i ≤ x.cps.size ∧ Pv i σ H, ⟨x.cps.size, by simp, Nat.zero_le _, h0⟩, ?_⟩
  rintro i m σ H ⟨rfl, hi, p⟩
  by_cases hlt : i < x.cps.size
  · refine .inr ⟨hlt, Pv (i + 1), fun σ' H' p' => ⟨x.cps.size - (i + 1), by omega, rfl, hlt, p'⟩, fun y H' q => ?_⟩
    obtain ⟨rfl, c, hc, rfl⟩ := q
    exact hs i c σ _ (by rw [Array.getElem?_toList]; exact hc) p
  · have e : i = x.cps.size := by omega
    subst e
    exact .inl ⟨Nat.le_refl _, hd σ H p⟩
theorem s_forS {x : Str} {j : Nat} (h : Ev te σ H (.str x)) (Pv : Nat → L2.St → Hp → Prop) (h0 : ∀ H1, Ex H H1 → Pv 0 σ H1)
    (hs : ∀ i c σ' H', x.cps.toList[i]? = some c → Pv i σ' H' → tu { D with nx := Pv (i + 1), ct := Pv (i + 1), bk := D.nx } (σ'.set j (some (.str ⟨#[c]⟩))) H') (hd : ∀ σ' H', Pv x.cps.size σ' H' → D.nx σ' H') : tFor (iStr te) (gName j) tu D σ H :=
  h H (Ex.refl H) _ fun H1 e => ⟨x, rfl, for_str Pv (h0 H1 e) hs hd⟩
theorem q_forS {x : Str} {j : Nat} (h : Ev te σ H (.str x)) (Pv : Nat → L2.St → Hp → Prop) (h0 : ∀ H1, Ex H H1 → Pv 0 σ H1)
    (hs : ∀ i c σ' H', x.cps.toList[i]? = some c → Pv i σ' H' → tu { D with nx := Pv (i + 1), ct := Pv (i + 1), bk := tz D } (σ'.set j (some (.str ⟨#[c]⟩))) H') (hd : ∀ σ' H', Pv x.cps.size σ' H' → tz D σ' H') : tSeq (tFor (iStr te) (gName j) tu) tz D σ H :=
  s_forS (D := { D with nx := tz D }) h Pv h0 hs hd
end
theorem at_str {xs : List Str} {i : Int} (h0 : 0 ≤ i) (h : i < (xs.length : Int)) : atI (xs.map V.str) i = some (.str (xs.getD i.toNat Str.empty)) := by
  obtain ⟨j, rfl⟩ := Int.eq_ofNat_of_zero_le h0
  refine atI_nat ?_
  have hj : j < xs.length := by omega
  rw [List.getElem?_map, List.getElem?_eq_getElem hj, Int.toNat_natCast, List.getD_eq_getElem?_getD, List.getElem?_eq_getElem hj]
  rfl
theorem memD {α : Type} {xs : List α} {d : α} {j : Nat} (h : j < xs.length) : xs.getD j d ∈ xs := by
  rw [List.getD_eq_getElem?_getD, List.getElem?_eq_getElem h]
  exact List.getElem_mem h
theorem dec_str1 {c d : Nat} {a : Str} (e : a = ⟨#[d]⟩) : decide (V.str ⟨#[c]⟩ = V.str a) = decide (c = d) := by
  rw [e, Bool.eq_iff_iff, decide_eq_true_iff, decide_eq_true_iff]
  constructor
  · intro h
    have h1 : (⟨#[c]⟩ : Str) = ⟨#[d]⟩ := V.str.inj h
    have h2 : (#[c] : Array Nat) = #[d] := congrArg Str.cps h1
    have h3 : ([c] : List Nat) = [d] := congrArg Array.toList h2
    exact (List.cons.inj h3).1
  · intro h
    rw [h]
theorem all_take_succ {p : Nat → Bool} {xs : List Nat} {i c : Nat} (h : xs[i]? = some c) : (xs.take (i + 1)).all p = ((xs.take i).all p && p c) := by
  rw [List.take_add_one, h, List.all_append]
  simp

/-- a new tuple is handed back -/
def RetU (xs : List V) (H : Hp) (Q : VK) : Prop := ∀ p H2, H p = none → Ex H H2 → H2 p = some (.tup xs) → Q (.ref p) H2
def SpU (sp : Sp) (vs : List V) (H : Hp) (xs : List V) : Prop := ∀ H1, Ex H H1 → ∀ Q : VK, (∀ p H2, H1 p = none → Ex H1 H2 → H2 p = some (.tup xs) → Q (.ref p) H2) → ∀ E : XK, sp vs H1 Q E
section
variable {K : PySem.W.Frag} {σ : L2.St} {H H' : Hp} {te : TE} {D : Ends} {tu tz : TS} {g : TG}
theorem eu_call {sp : Sp} {dvs vs xs : List V} {E : XK} {ta : TA} (h : EvA ta σ H vs) (hs : SpU sp (vs ++ dvs) H xs) : EvU (tCall sp dvs E ta) σ H xs := fun H1 e Q q =>
  h H1 e _ fun H2 e2 => hs H2 (e.trans e2) Q (fun p H3 hp e3 h3 => q p H3 (fresh_back e2 hp) (e2.trans e3) h3) E
/-- a for over a new tuple -/
theorem s_forNT {xs : List V} {tl : TE} {j : Nat} (h : EvU tl σ H xs) (Pv : Addr → Nat → L2.St → Hp → Prop) (h0 : ∀ p H1, H p = none → Ex H H1 → H1 p = some (.tup xs) → Pv p 0 σ H1) (hl : ∀ p i σ' H', i ≤ xs.length → Pv p i σ' H' → SqT K H' p xs)
    (hs : ∀ p i x σ' H', xs[i]? = some x → Pv p i σ' H' → tu { D with nx := Pv p (i + 1), ct := Pv p (i + 1), bk := D.nx } (σ'.set j (some x)) H') (hd : ∀ p σ' H', Pv p xs.length σ' H' → D.nx σ' H') : tFor (iTup K tl) (gName j) tu D σ H :=
  h H (Ex.refl H) _ fun p H1 hp e h1 => ⟨p, rfl, ⟨xs, st_of h1⟩, for_tup (Pv p) (h0 p H1 hp e h1) (hl p) (hs p) (hd p)⟩
theorem q_forNT {xs : List V} {tl : TE} {j : Nat} (h : EvU tl σ H xs) (Pv : Addr → Nat → L2.St → Hp → Prop) (h0 : ∀ p H1, H p = none → Ex H H1 → H1 p = some (.tup xs) → Pv p 0 σ H1) (hl : ∀ p i σ' H', i ≤ xs.length → Pv p i σ' H' → SqT K H' p xs)
    (hs : ∀ p i x σ' H', xs[i]? = some x → Pv p i σ' H' → tu { D with nx := Pv p (i + 1), ct := Pv p (i + 1), bk := tz D } (σ'.set j (some x)) H') (hd : ∀ p σ' H', Pv p xs.length σ' H' → tz D σ' H') : tSeq (tFor (iTup K tl) (gName j) tu) tz D σ H :=
  s_forNT (D := { D with nx := tz D }) h Pv h0 hl hs hd
/-- len of a tuple -/
theorem ev_lenT {ta : TE} {p : Addr} {xs : List V} (ha : Ev ta σ H (.ref p)) (h : SqT K H p xs) : Ev (tCB (Evl.rLenS K) (tCons ta tNil)) σ H (.int (xs.length : Int)) := fun H1 e Q q =>
  ha H1 e _ fun H2 e2 => ⟨p, xs, rfl, Or.inr (ex_t (e.trans e2) h), q H2 e2⟩
end

section
variable {K : PySem.W.Frag} {H H' : Hp} {x y : V}
theorem rc_isTup {p : Addr} {xs : List V} (h : H p = some (.tup xs)) : RC (rIsi K) [.ref p, .ty "tuple"] H (.bl true) := fun H1 e _ q =>
  ⟨_, _, _, _, true, rfl, .ty "tuple", .base (.tup (e p _ h)), (by unfold PySem.W.kitOne; rw [if_pos (by decide)]), q H1 (Ex.refl H1)⟩
theorem rc_isBool {b : Bool} : RC (rIsi K) [.bl b, .ty "bool"] H (.bl true) := fun H1 e _ q =>
  ⟨_, _, _, _, true, rfl, .ty "bool", .base (.bl b), (by unfold PySem.W.kitOne; rw [if_pos (by decide)]), q H1 (Ex.refl H1)⟩
/-- two equal data -/
theorem rv_eqD {d e : PyData} {b : Bool} (hx : ∀ H1, Ex H H1 → Dp K H1 x d) (hy : ∀ H1, Ex H H1 → Dp K H1 y e) (sd : SeqAt.shaped d = true) (se : SeqAt.shaped e = true) (hb : PyData.eqv d e = b) : RV (rEqD K) x y H (.bl b) := fun H1 e1 _ q =>
  ⟨d, e, hx H1 e1, hy H1 e1, sd, se, by rw [hb]; exact q H1 (Ex.refl H1)⟩
theorem rv_neD {d e : PyData} {b : Bool} (hx : ∀ H1, Ex H H1 → Dp K H1 x d) (hy : ∀ H1, Ex H H1 → Dp K H1 y e) (sd : SeqAt.shaped d = true) (se : SeqAt.shaped e = true) (hb : PyData.eqv d e = b) : RV (rNeD K) x y H (.bl (!b)) := fun H1 e1 _ q =>
  ⟨d, e, hx H1 e1, hy H1 e1, sd, se, by rw [hb]; exact q H1 (Ex.refl H1)⟩
theorem at_codeS {l : List Nat} {i : Int} (h0 : 0 ≤ i) (h : i < (l.length : Int)) : atI (SX.S l).cps.toList i = some (l.getD i.toNat 0) := by
  obtain ⟨j, rfl⟩ := Int.eq_ofNat_of_zero_le h0
  have hj : j < l.length := by omega
  refine atI_nat ?_
  show l[j]? = _
  rw [List.getElem?_eq_getElem hj, Int.toNat_natCast, List.getD_eq_getElem?_getD, List.getElem?_eq_getElem hj]
  rfl
theorem mod_bd (x m : Int) (h : 0 < m) : 0 ≤ x % m ∧ x % m < m := ⟨Int.emod_nonneg _ (by omega), Int.emod_lt_of_pos _ h⟩
theorem given_all (n : Nat) (v : Nat → V) : given n (fun _ => true) v = (List.range n).map v := by
  unfold given
  rw [List.filter_eq_self.mpr (fun _ _ => rfl)]
theorem at_range {n i : Nat} {v : Nat → V} (h : i < n) : atI ((List.range n).map v) (i : Int) = some (v i) := by
  refine atI_nat ?_
  rw [List.getElem?_map, List.getElem?_range h]
  rfl
end

/-! ### texts by their codes -/
theorem len_S (l : List Nat) : (SX.S l).length = l.length := SX.S_len l
theorem cut_mid (l : List Nat) (a b : Nat) : cutS (SX.S l) (some (a : Int)) (some (b : Int)) = SX.S ((l.drop a).take (b - a)) := by
  unfold cutS
  rw [len_S, HT.sIx_nat, HT.sIx_nat]
  show SX.S ((l.drop (min a l.length)).take (min b l.length - min a l.length)) = _
  refine congrArg SX.S ?_
  by_cases h : a ≤ l.length
  · rw [Nat.min_eq_left h, List.take_eq_take_iff, List.length_drop]
    omega
  · rw [Nat.min_eq_right (show l.length ≤ a by omega), List.drop_eq_nil_of_le (Nat.le_refl _), List.drop_eq_nil_of_le (show l.length ≤ a by omega)]
    simp
theorem cut_to (l : List Nat) (b : Nat) : cutS (SX.S l) none (some (b : Int)) = SX.S (l.take b) := by
  unfold cutS
  rw [len_S, HT.sIx_nat, HT.sIx_none]
  show SX.S ((l.drop 0).take (min b l.length - 0)) = _
  refine congrArg SX.S ?_
  rw [List.drop_zero, List.take_eq_take_iff]
  omega
theorem cut_from (l : List Nat) (a : Nat) : cutS (SX.S l) (some (a : Int)) none = SX.S (l.drop a) := by
  unfold cutS
  rw [len_S, HT.sIx_nat, HT.sIx_none]
  show SX.S ((l.drop (min a l.length)).take (l.length - min a l.length)) = _
  refine congrArg SX.S ?_
  by_cases h : a ≤ l.length
  · rw [Nat.min_eq_left h]
    exact List.take_of_length_le (by rw [List.length_drop]; omega)
  · rw [Nat.min_eq_right (show l.length ≤ a by omega), List.drop_eq_nil_of_le (Nat.le_refl _), List.drop_eq_nil_of_le (show l.length ≤ a by omega)]
    simp
theorem join_ones : ∀ l : List Nat, Txt.join (SX.S []) (l.map fun c => SX.S [c]) = SX.S l := fun l => by
  have e : (l.map fun c => SX.S [c]) = (l.map fun c => [c]).map SX.S := by rw [List.map_map]; rfl
  rw [e, SX.join_S]
  refine congrArg SX.S ?_
  induction l with
  | nil => rfl
  | cons c l ih =>
    cases l with
    | nil => rfl
    | cons d l =>
      show [c] ++ ([] ++ TL.joinL [] (((d :: l).map fun c => [c]))) = _
      rw [ih (by rw [List.map_map]; rfl)]
      rfl
theorem sum_ones (l : List Nat) : ((l.map fun c => SX.S [c]).map (·.length)).sum = l.length := by
  induction l with
  | nil => rfl
  | cons c l ih =>
    rw [List.map_cons, List.map_cons, List.sum_cons, ih, len_S]
    simp [Nat.add_comm]

/-! ### names -/
theorem e_slashS : Str.ofString "/" = ⟨#[47]⟩ := by decide +kernel
def nameOk (z : Str) : Bool := (!(decide (V.str z = V.str (Str.ofString ".")) || (decide (V.str z = V.str (Str.ofString "..")) || decide (47 ∈ z.cps.toList)))) && ((!(decide ((z.length : Int) < 1) || decide ((100 : Int) < (z.length : Int)))) && z.cps.toList.all fun c => !decide (((c : Nat) : Int) < 32))
def sp_is_name (K : PySem.W.Frag) : Sp := fun vs H Q _ => ∃ z : Str, vs = [.str z] ∧ z.length ≤ 100000 ∧ RetV (.bl (nameOk z)) H Q
theorem sp_nm {K : PySem.W.Frag} {H : Hp} {z : Str} (h : z.length ≤ 100000) : SpV (sp_is_name K) [.str z] H (.bl (nameOk z)) := fun H1 e Q q E => ⟨z, rfl, h, fun H2 e2 => q H2 e2⟩

/-! ### == of data, whatever texts lie within -/
def rEqP (K : PySem.W.Frag) : R2 := fun x y H Q => ∃ d e, Dp K H x d ∧ Dp K H y e ∧ d.plain = true ∧ e.plain = true ∧ d.depth ≤ 60 ∧ Q (.bl (PyData.eqv d e)) H
def rNeP (K : PySem.W.Frag) : R2 := fun x y H Q => ∃ d e, Dp K H x d ∧ Dp K H y e ∧ d.plain = true ∧ e.plain = true ∧ d.depth ≤ 60 ∧ Q (.bl (!PyData.eqv d e)) H
theorem op_eqP {X : Cx} (hu : X.A.units + 64 < cLine) : OpR X (compareOp .Eq) (rEqP X.K) := by
  intro pins s σ H x y v u Q I rx ry h
  obtain ⟨d, e, hd, he, pd, pe, dd, q⟩ := h
  obtain ⟨as, r1⟩ := Dp.reads I d x v hd rx
  obtain ⟨bs, r2⟩ := Dp.reads I e y u he ry
  exact SeqAt.eq_plain r1 r2 pd pe (by omega) ⟨.bl _, H, I, rfl, q⟩
theorem op_neP {X : Cx} (hu : X.A.units + 64 < cLine) : OpR X (compareOp .NotEq) (rNeP X.K) := by
  intro pins s σ H x y v u Q I rx ry h
  obtain ⟨d, e, hd, he, pd, pe, dd, q⟩ := h
  obtain ⟨as, r1⟩ := Dp.reads I d x v hd rx
  obtain ⟨bs, r2⟩ := Dp.reads I e y u he ry
  exact SeqAt.ne_plain r1 r2 pd pe (by omega) ⟨.bl _, H, I, rfl, q⟩
section
variable {K : PySem.W.Frag} {σ : L2.St} {H H' : Hp} {ta tb te : TE} {x y z v : V} {r : R2}
theorem rv_eqP {d e : PyData} {b : Bool} (hx : ∀ H1, Ex H H1 → Dp K H1 x d) (hy : ∀ H1, Ex H H1 → Dp K H1 y e) (pd : d.plain = true) (pe : e.plain = true) (dd : d.depth ≤ 60) (hb : PyData.eqv d e = b) : RV (rEqP K) x y H (.bl b) := fun H1 e1 _ q =>
  ⟨d, e, hx H1 e1, hy H1 e1, pd, pe, dd, by rw [hb]; exact q H1 (Ex.refl H1)⟩
theorem rv_neP {d e : PyData} {b : Bool} (hx : ∀ H1, Ex H H1 → Dp K H1 x d) (hy : ∀ H1, Ex H H1 → Dp K H1 y e) (pd : d.plain = true) (pe : e.plain = true) (dd : d.depth ≤ 60) (hb : PyData.eqv d e = b) : RV (rNeP K) x y H (.bl (!b)) := fun H1 e1 _ q =>
  ⟨d, e, hx H1 e1, hy H1 e1, pd, pe, dd, by rw [hb]; exact q H1 (Ex.refl H1)⟩
theorem dp_strs {K : PySem.W.Frag} {H : Hp} : ∀ ys : List Str, DpAll K H (ys.map V.str) (ys.map PyData.str)
  | [] => .nil
  | y :: ys => .cons (.str y) (dp_strs ys)
theorem plain_strs : ∀ ys : List Str, PyData.plainAll (ys.map PyData.str) = true
  | [] => rfl
  | _ :: ys => plain_strs ys
theorem depth_strs : ∀ ys : List Str, PyData.depthAll (ys.map PyData.str) = 0
  | [] => rfl
  | _ :: ys => by
    show max 0 (PyData.depthAll (ys.map PyData.str)) = 0
    rw [depth_strs ys]
    rfl
/-- a value of which R holds, at the heap behind -/
def EvH (te : TE) (σ : L2.St) (H : Hp) (R : V → Hp → Prop) : Prop := ∀ H1, Ex H H1 → ∀ Q : VK, (∀ v H2, Ex H1 H2 → R v H2 → Q v H2) → te σ H1 Q
def SpH (sp : Sp) (vs : List V) (H : Hp) (R : V → Hp → Prop) : Prop := ∀ H1, Ex H H1 → ∀ Q : VK, (∀ v H2, Ex H1 H2 → R v H2 → Q v H2) → ∀ E : XK, sp vs H1 Q E
theorem eh_call {R : V → Hp → Prop} {sp : Sp} {dvs vs : List V} {E : XK} {ta : TA} (h : EvA ta σ H vs) (hs : SpH sp (vs ++ dvs) H R) : EvH (tCall sp dvs E ta) σ H R := fun H1 e Q q =>
  h H1 e _ fun H2 e2 => hs H2 (e.trans e2) Q (fun v H3 e3 r => q v H3 (e2.trans e3) r) E
theorem s_asgH {R : V → Hp → Prop} {D : Ends} {i : Nat} (h : EvH te σ H R) (k : ∀ v H1, Ex H H1 → R v H1 → D.nx (σ.set i (some v)) H1) : tAsg te (gName i) D σ H := h H (Ex.refl H) _ k
theorem q_asgH {R : V → Hp → Prop} {D : Ends} {tz : TS} {i : Nat} (h : EvH te σ H R) (k : ∀ v H1, Ex H H1 → R v H1 → tz D (σ.set i (some v)) H1) : tSeq (tAsg te (gName i)) tz D σ H := s_asgH (D := { D with nx := tz D }) h k
theorem ev_opH {R : V → Hp → Prop} (hm : ∀ v H1 H2, Ex H1 H2 → R v H1 → R v H2) (ha : EvH ta σ H R) (hb : ∀ H1, Ex H H1 → Ev tb σ H1 y) (hr : ∀ x H1, Ex H H1 → R x H1 → RV r x y H1 z) : Ev (tOp r ta tb) σ H z := fun H1 e Q q =>
  ha H1 e _ fun x H2 e2 rx => hb H2 (e.trans e2) H2 (Ex.refl H2) _ fun H3 e3 => hr x H3 ((e.trans e2).trans e3) (hm x _ _ e3 rx) H3 (Ex.refl H3) Q fun H4 e4 => q H4 ((e2.trans e3).trans e4)
/-- tuple(a list), tuple(a new list) -/
def rTup (K : PySem.W.Frag) : List V → Hp → VK → Prop := fun xs H Q => ∃ p ys, xs = [.ref p] ∧ ((SqL K H p ys ∧ ∀ l, H l = none → Q (.ref l) (upd H l (.tup ys))) ∨ (SqT K H p ys ∧ Q (.ref p) H))
theorem eu_tupOf {p : Addr} {xs : List V} (ha : Ev ta σ H (.ref p)) (h : SqL K H p xs) : EvU (tCB (rTup K) (tCons ta tNil)) σ H xs := fun H1 e Q q =>
  ha H1 e _ fun H2 e2 => ⟨p, xs, rfl, .inl ⟨ex_l (e.trans e2) h, fun l hl => q l _ (fresh_back e2 hl) (e2.trans (Ex.new hl)) upd_same⟩⟩
theorem eu_tupOfL {xs : List V} (ha : EvL ta σ H xs) : EvU (tCB (rTup K) (tCons ta tNil)) σ H xs := fun H1 e Q q =>
  ha H1 e _ fun p H2 _ e2 h2 => ⟨p, xs, rfl, .inl ⟨sq_of h2, fun l hl => q l _ (fresh_back e2 hl) (e2.trans (Ex.new hl)) upd_same⟩⟩
/-- s.split(t) -/
theorem el_split {a b : Str} (ho : Ev ta σ H (.str a)) (he : Ev te σ H (.str b)) (hb : (b.length == 0) = false) (ha : a.length ≤ 90000) :
    EvL (tM1 (fun x xs H Q => ∃ a b, x = .str a ∧ xs = [.str b] ∧ (b.length == 0) = false ∧ a.length + 2 ≤ sizeLine ∧ rNewStrs (Txt.split a b) H Q) ta te) σ H ((Txt.split a b).map V.str) := fun H1 e Q q =>
  ho H1 e _ fun H2 e2 => ⟨⟨a, rfl⟩, he H2 (e.trans e2) _ fun H3 e3 => ⟨a, b, rfl, rfl, hb, sz_of (by omega), fun p hp => q p _ (fresh_back (e2.trans e3) hp) ((e2.trans e3).trans (Ex.new hp)) upd_same⟩⟩
/-- all(a new list of truths), any(..) -/
theorem ev_allL {bs : List Bool} (ha : EvL ta σ H (bs.map V.bl)) : Ev (tCB (rAll K) (tCons ta tNil)) σ H (.bl (bs.all id)) := fun H1 e Q q =>
  ha H1 e _ fun p H2 _ e2 h2 => ⟨p, bs, rfl, sq_of h2, q H2 e2⟩
theorem ev_anyL {bs : List Bool} (ha : EvL ta σ H (bs.map V.bl)) : Ev (tCB (rAny K) (tCons ta tNil)) σ H (.bl (bs.any id)) := fun H1 e Q q =>
  ha H1 e _ fun p H2 _ e2 h2 => ⟨p, bs, rfl, sq_of h2, q H2 e2⟩
theorem rv_isN : RV (fun x y H Q => y = .non ∧ Q (.bl (decide (x = .non))) H) x .non H (.bl (decide (x = .non))) := fun H1 _ _ q => ⟨rfl, q H1 (Ex.refl H1)⟩
end
theorem join_cut : ∀ (l acc : List Nat), TL.joinL [47] (TL.spl [47] 0 acc l) = acc ++ l ∧ TL.spl [47] 0 acc l ≠ []
  | [], acc => by
    rw [TL.spl_nil]
    exact ⟨(List.append_nil acc).symm, by simp⟩
  | c :: r, acc => by
    by_cases h : TL.pre [47] (c :: r) = true
    · have hc : c = 47 := by
        simp [TL.pre] at h
        exact h
      rw [TL.spl_hit h]
      show TL.joinL [47] (acc :: TL.spl [47] 0 [] r) = acc ++ c :: r ∧ _
      obtain ⟨i1, i2⟩ := join_cut r []
      refine ⟨?_, by simp⟩
      cases hs : TL.spl [47] 0 [] r with
      | nil => exact absurd hs i2
      | cons x xs =>
        show acc ++ ([47] ++ TL.joinL [47] (x :: xs)) = _
        rw [← hs, i1, hc]
        rfl
    · have h' : TL.pre [47] (c :: r) = false := by
        cases hb : TL.pre [47] (c :: r) with
        | true => exact absurd hb h
        | false => rfl
      rw [TL.spl_miss h']
      obtain ⟨i1, i2⟩ := join_cut r (acc ++ [c])
      exact ⟨by rw [i1, List.append_assoc]; rfl, i2⟩

/-! ### f-strings, numbers as texts, unpacking -/
section
variable {K : PySem.W.Frag} {σ : L2.St} {H H' : Hp} {te : TE} {D : Ends} {tz : TS}
theorem ev_fmtS {y : Str} (h : Ev te σ H (.str y)) (hy : y.length ≤ 100000) : Ev (tFmt te) σ H (.str y) := fun H1 e Q q => h H1 e _ fun H2 e2 => .inl ⟨y, rfl, sz_of hy, q H2 e2⟩
theorem log_small {i : Int} (h : i.natAbs < 2 ^ 100) : i.natAbs.log2 < 1920 := by
  by_cases h0 : i.natAbs = 0
  · rw [h0]
    decide
  · have := (Nat.log2_lt h0).mpr h
    omega
theorem ev_fmtN {n : Nat} (h : Ev te σ H (.int (n : Int))) (hn : n < 2 ^ 100) : Ev (tFmt te) σ H (.str (SX.S (TL.numL n))) := fun H1 e Q q => h H1 e _ fun H2 e2 => .inr ⟨(n : Int), rfl, log_small hn, by
  have g := q H2 e2
  rw [← SX.num_S] at g
  exact g⟩
theorem rc_strN {n : Nat} (hn : n < 2 ^ 100) : RC (fun xs H Q => ∃ i : Int, xs = [V.int i] ∧ i.natAbs.log2 < 1920 ∧ Q (V.str (toString i : String)) H) [.int (n : Int)] H (.str (SX.S (TL.numL n))) := fun H1 _ _ q => ⟨(n : Int), rfl, log_small hn, by
  have g := q H1 (Ex.refl H1)
  rw [← SX.num_S] at g
  exact g⟩
inductive EvJ (σ : L2.St) (H : Hp) : List TE → List (List Nat) → Prop where
  | nil : EvJ σ H [] []
  | cons {t : TE} {y : List Nat} {ts : List TE} {ys : List (List Nat)} (h : Ev t σ H (.str (SX.S y))) (r : EvJ σ H ts ys) : EvJ σ H (t :: ts) (y :: ys)
theorem ev_js {ts : List TE} {ys : List (List Nat)} (h : EvJ σ H ts ys) : ∀ (acc : List Nat) (H1 : Hp), Ex H H1 → acc.length + (ys.map List.length).sum ≤ 100000 → ∀ Q : Str → Hp → Prop, (∀ H2, Ex H1 H2 → Q (SX.S (ys.foldl (· ++ ·) acc)) H2) → tJs ts (SX.S acc) σ H1 Q := by
  induction h with
  | nil =>
    intro acc H1 e _ Q q
    exact q H1 (Ex.refl H1)
  | @cons t y ts ys h r ih =>
    intro acc H1 e hl Q q
    rw [List.map_cons, List.sum_cons] at hl
    refine h H1 e _ fun H2 e2 => ⟨SX.S y, rfl, ?_, ?_⟩
    · rw [SX.S_cat, len_S, List.length_append]
      exact sz_of (by omega)
    · rw [SX.S_cat]
      exact ih (acc ++ y) H2 (e.trans e2) (by rw [List.length_append]; omega) Q fun H3 e3 => q H3 (e2.trans e3)
theorem ev_joined {ts : List TE} {ys : List (List Nat)} (h : EvJ σ H ts ys) (hl : (ys.map List.length).sum ≤ 100000) : Ev (fun σ H Q => tJs ts Str.empty σ H fun out H1 => Q (.str out) H1) σ H (.str (SX.S (ys.foldl (· ++ ·) []))) := fun H1 e Q q =>
  ev_js h [] H1 e (by rw [List.length_nil, Nat.zero_add]; exact hl) (fun out H2 => Q (.str out) H2) q
theorem q_unp2 {p : Addr} {x y : V} {i j : Nat} (h : Ev te σ H (.ref p)) (hp : SqT K H p [x, y]) (k : ∀ H1, Ex H H1 → tz D ((σ.set i (some x)).set j (some y)) H1) : tSeq (tAsg te (gTup K 2 (gCons (gName i) (gCons (gName j) gNil)))) tz D σ H :=
  h H (Ex.refl H) _ fun H1 e => ⟨p, _, rfl, ex_t e hp, rfl, x, _, rfl, y, _, rfl, rfl, k H1 e⟩
end

/-! ### the cells that a law draws -/
def fixC (c : Int) : Int := if c < 0 then 1 - 2 * c else c
def cell0 (ns : List Int) (k : Nat) : Int := if k < ns.length then ns.getD k 0 else 0
def cell2 (ns : List Int) (k : Nat) (c : Int) : Int := if 0 < ns.length then ns.getD (((k : Int) % (ns.length : Int)).toNat) 0 else c
def mix1 (k : Nat) (c : Int) : Int := ((c + 131 * (k : Int) + 7) * 48271 + (k : Int) * (k : Int) * 69621) % 1000000007
def mix2 (k : Nat) (c : Int) : Int := ((c + 17 * (k : Int) + 3) * 2862933555777941757) % 18446744073709551557
def cellAt (ns : List Int) (k : Nat) : Int :=
  if (ns.length : Int) ≤ (k : Int) ∨ fixC (cell0 ns k) < 1000000000 then mix2 k (mix1 k (fixC (cell2 ns k (fixC (cell0 ns k))))) else fixC (cell0 ns k)
def cellsOf (ns : List Int) (n : Nat) : List Int := (List.range n).map (cellAt ns)
theorem cellsOf_len (ns : List Int) (n : Nat) : (cellsOf ns n).length = n := by
  unfold cellsOf
  rw [List.length_map, List.length_range]
theorem cellsOf_succ (ns : List Int) (n : Nat) : cellsOf ns (n + 1) = cellsOf ns n ++ [cellAt ns n] := by
  unfold cellsOf
  rw [List.range_succ, List.map_append]
  rfl
theorem fixC_nn (c : Int) : 0 ≤ fixC c := by
  unfold fixC
  split <;> omega
theorem cellAt_nn (ns : List Int) (k : Nat) : 0 ≤ cellAt ns k := by
  unfold cellAt
  split
  · exact Int.emod_nonneg _ (by decide)
  · exact fixC_nn _
theorem cellsOf_nn (ns : List Int) (n : Nat) : ∀ c ∈ cellsOf ns n, 0 ≤ c := by
  intro c hc
  obtain ⟨k, _, rfl⟩ := List.mem_map.mp hc
  exact cellAt_nn ns k
theorem fixC_neg {c : Int} (h : decide (c < 0) = true) : 1 - 2 * c = fixC c := (if_pos (of_decide_eq_true h)).symm
theorem fixC_pos {c : Int} (h : decide (c < 0) = false) : fixC c = c := if_neg (of_decide_eq_false h)
theorem cellAt_mix {ns : List Int} {k : Nat} (h : (decide ((ns.length : Int) ≤ (k : Int)) || decide (fixC (cell0 ns k) < 1000000000)) = true) : mix2 k (mix1 k (fixC (cell2 ns k (fixC (cell0 ns k))))) = cellAt ns k := by
  unfold cellAt
  rw [if_pos]
  rcases (Bool.or_eq_true _ _).mp h with h | h
  · exact .inl (of_decide_eq_true h)
  · exact .inr (of_decide_eq_true h)
theorem cellAt_own {ns : List Int} {k : Nat} (h : (decide ((ns.length : Int) ≤ (k : Int)) || decide (fixC (cell0 ns k) < 1000000000)) = false) : fixC (cell0 ns k) = cellAt ns k := by
  unfold cellAt
  obtain ⟨h1, h2⟩ := (Bool.or_eq_false_iff).mp h
  rw [if_neg]
  rintro (h | h)
  · exact of_decide_eq_false h1 h
  · exact of_decide_eq_false h2 h
def spCells (K : PySem.W.Frag) : Sp := fun vs H Q _ => ∃ (a : Addr) (ns : List Int) (n : Nat), vs = [.ref a, .int (n : Int)] ∧ SqL K H a (ns.map V.int) ∧ ns.length ≤ 63 ∧ n ≤ 1000 ∧ RetL ((cellsOf ns n).map V.int) H Q
theorem sp_cells {K : PySem.W.Frag} {H : Hp} {a : Addr} {ns : List Int} {n : Nat} (hS : SqL K H a (ns.map V.int)) (hl : ns.length ≤ 63) (hn : n ≤ 1000) : SpL (spCells K) [.ref a, .int (n : Int)] H ((cellsOf ns n).map V.int) :=
  fun H1 e Q q E => ⟨a, ns, n, rfl, ex_l e hS, hl, hn, fun p H2 hp e2 h2 => q p H2 hp e2 h2⟩
/-! ### the rows that a law draws -/
def spRows (K : PySem.W.Frag) : Sp := fun vs H Q _ => ∃ (a : Addr) (ns : List Int) (n : Nat), vs = [.ref a, .int (n : Int)] ∧ SqL K H a (ns.map V.int) ∧ ns.length ≤ 63 ∧ n ≤ 1000 ∧ ∀ rs : List Int, rs.length = n → (∀ c ∈ rs, 0 ≤ c) → RetL (rs.map V.int) H Q
/-- what is there behind a call that gives a new list of n numbers from 0 on -/
def EvRows (te : TE) (σ : L2.St) (H : Hp) (n : Nat) : Prop := ∀ H1, Ex H H1 → ∀ Q : VK, (∀ p rs H2, H1 p = none → Ex H1 H2 → H2 p = some (.lst (List.map V.int rs)) → rs.length = n → (∀ c ∈ rs, 0 ≤ c) → Q (.ref p) H2) → te σ H1 Q
theorem ev_rows {K : PySem.W.Frag} {σ : L2.St} {H : Hp} {E : XK} {ta : TA} {a : Addr} {ns : List Int} {n : Nat} (h : EvA ta σ H [.ref a, .int (n : Int)]) (hS : SqL K H a (ns.map V.int)) (hl : ns.length ≤ 63) (hn : n ≤ 1000) : EvRows (tCall (spRows K) [] E ta) σ H n := fun H1 e Q q =>
  h H1 e _ fun H2 e2 => ⟨a, ns, n, rfl, ex_l (e.trans e2) hS, hl, hn, fun rs hr h0 p H3 hp e3 h3 => q p rs H3 (fresh_back e2 hp) (e2.trans e3) h3 hr h0⟩
theorem q_asgRows {σ : L2.St} {H : Hp} {te : TE} {D : Ends} {tz : TS} {i n : Nat} (h : EvRows te σ H n) (k : ∀ p rs H1, H p = none → Ex H H1 → H1 p = some (.lst (List.map V.int rs)) → rs.length = n → (∀ c ∈ rs, 0 ≤ c) → tz D (σ.set i (some (.ref p))) H1) : tSeq (tAsg te (gName i)) tz D σ H :=
  h H (Ex.refl H) _ fun p rs H1 hp e h1 hr h0 => k p rs H1 hp e h1 hr h0
/-- a def of the top: its text, its place, how it is called -/
structure Df (K : PySem.W.Frag) (mg : Str → Option Value) (x : Str) (st : Stmt) (ps : List Str) : Prop where
  ex : ∃ (f : Addr) (fd : FuncData), L2.Fun K x x st f fd ∧ mg x = some (.ref f) ∧ Binds K fd ps []
theorem Df.cal {P : Program} {w : World} {K : PySem.W.Frag} {mg : Str → Option Value} {base : Heap} {x : Str} {st : Stmt} {N ps : List Str} {k : Nat} {sp : Sp} (D : Df K mg x st ps) (S : FnScope N ps (defScope st)) (len : ∀ vs H Q E, sp vs H Q E → vs.length = ps.length)
    (hbody : ∀ (f : Addr) (cdv : Value) (A : Around) (outer : List Env) (s : Shared) (H : Hp) (vs : List V) (Q : VK) (E : XK), Room k (A.deeper (envOfC x (defScope st) s.heap.objs.size f cdv)) → sp vs H Q E →
      ∃ t, PSs (cxOf L2.CX0 P w K mg base N x (defScope st) f cdv A outer s H E).nox (defBody st) t ∧ t { nx := fun _ H' => Q .non H', rt := Q } (start N vs) H) : C8.Cal P w K mg base (k + 1) x sp [] := by
  obtain ⟨f, fd, F, hm, hb⟩ := D.ex
  exact ⟨f, fd, ps, [], F.ok S len (hbody f), hm, F.kp, hb, .nil⟩
def spLaw (K : PySem.W.Frag) : Sp := fun vs H Q _ => ∃ (a : Addr) (ns : List Int), vs = [.ref a] ∧ SqL K H a (ns.map V.int) ∧ ns.length ≤ 63 ∧ ∀ H', Q (.bl true) H'

/-! ### fields, dicts, classes made by keywords -/
section
variable {K : PySem.W.Frag} {σ : L2.St} {H H' : Hp} {te td ty tx ts : TE} {tt : TT} {D : Ends} {tz tu : TS} {x v : V}
theorem ev_fld {a C dx : Addr} {fs : List (Str × V)} {f : Str} (h : Ev te σ H (.ref a)) (ho : H a = some (.ins C dx fs)) (c : Cls K C) (n : NoAttr K C f) (l : fs.lookup f = some v) : Ev (tFld K te f) σ H v := fun H1 e Q q =>
  h H1 e _ fun H2 e2 => ⟨a, C, dx, fs, v, rfl, (e.trans e2) _ _ ho, c, n, l, q H2 e2⟩
theorem q_asgDN {i : Nat} (k : ∀ p H1, H p = none → Ex H H1 → H1 p = some (.dK []) → tz D (σ.set i (some (.ref p))) H1) : tSeq (tAsg tDNewK (gName i)) tz D σ H := fun p hp => k p _ hp (Ex.new hp) upd_same
theorem s_setd {d : Addr} {kvs : List (Key × V)} {k : Key} (h : Ev td σ H (.ref d)) (hd : H d = some (.dK kvs)) (hy : Ev ty σ H (kV k)) (hx : Ev tx σ H v) (hl : kvs.length < 100000)
    (k1 : ∀ y H1, valV kvs k = some y → Ex H H1 → D.nx σ H1) (k2 : ∀ H1, valV kvs k = none → Ex H H1 → D.nx σ (upd H1 d (.dK (putK kvs k v)))) : tDrop (tDSetd td ty tx) D σ H :=
  h H (Ex.refl H) _ fun H1 e1 => ⟨d, rfl, .inl ⟨kvs, .inl (e1 _ _ hd)⟩, hy H1 e1 _ fun H2 e2 => hx H2 (e1.trans e2) _ fun H3 e3 => ⟨kvs, k, ((e1.trans e2).trans e3) _ _ hd, rfl, sz_lt hl, fun y hy => k1 y H3 hy ((e1.trans e2).trans e3), fun hn => k2 H3 hn ((e1.trans e2).trans e3)⟩⟩
theorem ev_get2 {d : Addr} {kvs : List (Key × V)} {k : Key} (h : Ev td σ H (.ref d)) (hd : H d = some (.dK kvs)) (hy : Ev ty σ H (kV k)) (hx : Ev tx σ H v) : Ev (tDGet2 td ty tx) σ H ((valV kvs k).getD v) := fun H0 e Q q =>
  h H0 e _ fun H1 e1 => ⟨d, rfl, .inl ⟨kvs, .inl ((e.trans e1) _ _ hd)⟩, hy H1 (e.trans e1) _ fun H2 e2 => hx H2 ((e.trans e1).trans e2) _ fun H3 e3 => ⟨valV kvs k, DGet.k ((((e.trans e1).trans e2).trans e3) _ _ hd), q H3 ((e1.trans e2).trans e3)⟩⟩
/-- a comprehension over a text -/
theorem lc_str {x : Str} {g : TG} {vs : List Nat} {H1 : Hp} {Dl : Addr} {Qd : Hp → Prop} (Pv : Nat → Hp → Prop) (h0 : Pv 0 (upd H1 Dl (.lst [])))
    (hs : ∀ i c H, x.cps.toList[i]? = some c → Pv i H → g (.str ⟨#[c]⟩) (wipe σ vs) H fun σ2 H2 => wipe σ2 vs = wipe σ vs ∧ tt σ2 H2 fun b H3 =>
      if b = true then te σ2 H3 fun y H4 => ∃ acc, H4 Dl = some (.lst acc) ∧ acc.length < sizeLine ∧ Pv (i + 1) (upd H4 Dl (.lst (acc ++ [y]))) else Pv (i + 1) H3) (hd : ∀ H, Pv x.cps.size H → Qd H) :
    ∃ W : Nat → Nat → Hp → Prop, (∃ m, W 0 m (upd H1 Dl (.lst []))) ∧ ∀ i m H, W i m H →
      ((Its x).stop i H ∧ Qd H) ∨ ((Its x).go i H ∧ ∃ Nx : Hp → Prop, (∀ H', Nx H' → ∃ m', m' < m ∧ W (i + 1) m' H') ∧ ∀ y H', (Its x).yld i H y H' → g y (wipe σ vs) H' fun σ2 H2 => wipe σ2 vs = wipe σ vs ∧ tt σ2 H2 fun b H3 =>
        if b = true then te σ2 H3 fun y H4 => ∃ acc, H4 Dl = some (.lst acc) ∧ acc.length < sizeLine ∧ Nx (upd H4 Dl (.lst (acc ++ [y]))) else Nx H3) := by
  refine ⟨fun i m H => m = x.cps.size - i ∧ i ≤ x.cps.size ∧ Pv i H, ⟨x.cps.size, by simp, Nat.zero_le _, h0⟩, ?_⟩
  rintro i m H ⟨rfl, hi, p⟩
  by_cases hlt : i < x.cps.size
  · refine .inr ⟨hlt, Pv (i + 1), fun H' p' => ⟨x.cps.size - (i + 1), by omega, rfl, hlt, p'⟩, fun y H' q => ?_⟩
    obtain ⟨rfl, c, hc, rfl⟩ := q
    exact hs i c _ (by rw [Array.getElem?_toList]; exact hc) p
  · have e : i = x.cps.size := by omega
    subst e
    exact .inl ⟨Nat.le_refl _, hd H p⟩
theorem el_lcS {z : Str} {tl : TE} {j : Nat} {vs : List Nat} (f : Nat → Bool) (v : Nat → V) (h : Ev tl σ H (.str z)) (hz : z.length ≤ 40000) (hw : ∀ x, wipe ((wipe σ vs).set j (some x)) vs = wipe σ vs)
    (ht : ∀ (i c : Nat) H1, Ex H H1 → z.cps.toList[i]? = some c → EvT tt ((wipe σ vs).set j (some (.str ⟨#[c]⟩))) H1 (f i)) (he : ∀ (i c : Nat) H1, Ex H H1 → z.cps.toList[i]? = some c → f i = true → Ev te ((wipe σ vs).set j (some (.str ⟨#[c]⟩))) H1 (v i)) :
    EvL (tLc (iStr tl) (gName j) tt te vs) σ H (given z.cps.size f v) := fun H0 e Q q => h H0 e _ fun H1 e1 => ⟨z, rfl, fun Dl hD =>
  lc_str (x := z) (Cw H1 f v Dl) ⟨hD, Ex.new hD, upd_same⟩ (fun i c H' hi p => ⟨hw _, cw_turn p (by have h1 := (List.getElem?_eq_some_iff.mp hi).1; have h2 : z.length = z.cps.size := rfl; rw [Array.length_toList] at h1; omega) (ht i c H1 (e.trans e1) hi) (fun hf => he i c H1 (e.trans e1) hi hf)⟩)
    (fun H' p => q Dl H' (fresh_back e1 p.1) (e1.trans p.2.1) p.2.2)⟩
end
/-- a class that is made by its name, by keywords alone -/
def MkK (P : Program) (w : World) (K : PySem.W.Frag) (mg : Str → Option Value) (base : Heap) (k : Nat) (x : Str) (C : Addr) (n : Nat) (ks : List Str) (sp : Sp) (gV : List V → List V → List V) : Prop :=
  ∃ (f : Addr) (fd : FuncData) (ps : List Str) (g : List Value → List Value → List Value), Mk K C f ∧ FnOk P w K mg base CX0 k f fd ps sp ∧ KBn K fd ps n ks g gV ∧ mg x = some (.ref C)
theorem pe_mkK {X : Cx} {k j : Nat} {C : Addr} {x : Str} {ks : List Str} {sp : Sp} {gV : List V → List V → List V} {p pos : Pos} {kws : List Keyword} {tk : TA} (M : MkK X.prog X.w X.K X.mg X.base k x C 1 ks sp gV) (hr : Room j X.A) (hk : k + 1 ≤ j) (hg : Gl X x) (hkw : PK X kws tk)
    (hall : (backToKw pos (keywordEach kws X.env)).all (·.1.isSome) = true := by rfl) (hks : (backToKw pos (keywordEach kws X.env)).filterMap (·.1) = ks := by rfl) (hdb : (x == ("__debug__" : Str)) = false := by decide)
    (hpl : ((backTo pos (starEach [] X.env)).any (·.1) || (backToKw pos (keywordEach kws X.env)).any (·.1.isNone)) = false := by rfl) : PE X (.Call (.Name x p) [] kws pos) (tMakeK C 0 ks.length sp gV E0 tNil tk) := by
  obtain ⟨f, fd, ps, g, M, F, b, hm⟩ := M
  exact pe_makeK0 M F (hr.mono hk) hg hm b pass0 hkw hall hks hdb hpl
theorem eqv_strs : ∀ a b : List Str, PyData.eqvAll (a.map PyData.str) (b.map PyData.str) = decide (a = b)
  | [], [] => by rw [List.map_nil, PyData.eqvAll]; rfl
  | [], _ :: _ => by rw [List.map_nil, List.map_cons, PyData.eqvAll]; simp
  | _ :: _, [] => by rw [List.map_nil, List.map_cons, PyData.eqvAll]; simp
  | x :: xs, y :: ys => by
    rw [List.map_cons, List.map_cons, PyData.eqvAll, eqv_strs xs ys, PyData.eqv]
    by_cases h : x = y
    · rw [h, beq_self_eq_true]
      simp
    · have h1 : (x == y) = false := beq_eq_false_iff_ne.mpr h
      rw [h1]
      simp [h]
theorem eq_S (a b : List Nat) : decide (V.str (SX.S a) = V.str (SX.S b)) = decide (a = b) := decide_eq_decide.mpr ⟨fun h => SX.S_inj (V.str.inj h), fun h => by rw [h]⟩
theorem ones_inj : ∀ {a b : List Nat}, (a.map fun c => SX.S [c]) = (b.map fun c => SX.S [c]) → a = b
  | [], [], _ => rfl
  | [], _ :: _, h => by simp at h
  | _ :: _, [], h => by simp at h
  | x :: xs, y :: ys, h => by
    rw [List.map_cons, List.map_cons] at h
    obtain ⟨h1, h2⟩ := List.cons.inj h
    rw [ones_inj h2, (List.cons.inj (SX.S_inj h1)).1]
theorem map_getD {α β : Type} (f : α → β) (d : α) : ∀ l : List α, (List.range l.length).map (fun k => f (l.getD k d)) = l.map f := fun l => by
  refine List.ext_getElem (by simp) fun k h1 h2 => ?_
  rw [List.length_map, List.length_range] at h1
  rw [List.getElem_map, List.getElem_map, List.getElem_range, List.getD_eq_getElem?_getD, List.getElem?_eq_getElem h1]
  rfl
theorem take_up {α : Type} {l : List α} {i : Nat} {q : α} (h : l[i]? = some q) : l.take (i + 1) = l.take i ++ [q] := by
  rw [List.take_add_one, h]
  rfl
theorem len_lt {α : Type} {l : List α} {i : Nat} {q : α} (h : l[i]? = some q) : i < l.length := (List.getElem?_eq_some_iff.mp h).1
theorem len_put {f : Str} {v : V} {fs : List (Str × V)} {n : Nat} (h : fs.length ≤ n) : (putF f v fs).length ≤ n + 1 := Nat.le_trans (length_putF f v fs) (by omega)
/-- the signs of a text that is repeated -/
theorem mul_mem {l : List Nat} {n : Int} {c : Nat} (h : c ∈ (Txt.mul (SX.S l) n).cps.toList) : c ∈ l := by
  unfold Txt.mul at h
  split at h
  · exact absurd h (by show ¬ c ∈ ([] : List Nat); simp)
  · split at h
    · exact h
    · have key : ∀ (k : Nat) (acc : Array Nat), (∀ c ∈ acc.toList, c ∈ l) → ∀ c ∈ ((List.replicate k (SX.S l).cps).foldl (· ++ ·) acc).toList, c ∈ l := by
        intro k
        induction k with
        | zero => intro acc ha; exact ha
        | succ k ih =>
          intro acc ha
          rw [List.replicate_succ, List.foldl_cons]
          refine ih _ fun c hc => ?_
          rw [Array.toList_append] at hc
          rcases List.mem_append.mp hc with h | h
          · exact ha c h
          · exact h
      exact key _ #[] (fun c hc => by simp at hc) c h
theorem rc_intB {b : Bool} : RC (fun xs H Q => (∃ i, xs = [V.int i] ∧ Q (V.int i) H) ∨ ∃ k, xs = [V.bl k] ∧ Q (V.int (if k = true then 1 else 0)) H) [.bl b] H (.int (if b = true then 1 else 0)) :=
  fun H1 _ _ q => Or.inr ⟨b, rfl, q H1 (Ex.refl H1)⟩
end Lw
/-! Dk: dicts whose keys are data of any mix (None, numbers, texts, tuples), told by the entries alone. -/
namespace Dk
open PySem SeqAt
variable {prog : Program} {w : World} {A : Around} {E : Value → Shared → Prop} {s : Shared}
/-- v is the key k, shallow enough -/
def KeyAt (h : Heap) (k : NestedKey) (v : Value) : Prop := NestedIs h k v ∧ k.depth ≤ 8
/-- the keys of the entries, in order -/
structure Ks (w : World) (h : Heap) (es : Array DictEntry) (xs : List NestedKey) : Prop where
  sz : es.size = xs.length
  ent : ∀ (i : Nat) k, xs[i]? = some k → ∃ e, es[i]? = some e ∧ e.hash = k.hash w ∧ KeyAt h k e.key
  nd : xs.Nodup
theorem Ks.key {h : Heap} {es : Array DictEntry} {xs : List NestedKey} (H : Ks w h es xs) {i : Nat} {e : DictEntry} (he : es[i]? = some e) : ∃ k, xs[i]? = some k ∧ e.hash = k.hash w ∧ KeyAt h k e.key := by
  obtain ⟨hi, _⟩ := Array.getElem?_eq_some_iff.mp he
  rw [H.sz] at hi
  obtain ⟨e', h1, h2, h3⟩ := H.ent i xs[i] (List.getElem?_eq_getElem hi)
  rw [h1] at he
  cases he
  exact ⟨_, List.getElem?_eq_getElem hi, h2, h3⟩
theorem nodup_idx {α : Type} {xs : List α} (hn : xs.Nodup) {i j : Nat} {k : α} (hi : xs[i]? = some k) (hj : xs[j]? = some k) : i = j := by
  obtain ⟨h1, _⟩ := List.getElem?_eq_some_iff.mp hi
  exact (List.getElem?_inj h1 hn).mp (hi.trans hj.symm)
theorem quiet_at {k : NestedKey} {v : Value} {Q : Bool → Shared → Prop} (hk : KeyAt s.heap k v) (h : Q true s) : wpAny (model prog w) A (eqIsQuiet 8 v) Q E s := quiet_key k v 8 s hk.1 hk.2 A E Q h
theorem eq_at {x y : NestedKey} {a b : Value} {Q : Bool → Shared → Prop} (hu : A.units + 8 < cLine) (hx : KeyAt s.heap x a) (hy : KeyAt s.heap y b) (h : Q (decide (x = y)) s) : wpAny (model prog w) A (eqBool a b) Q E s :=
  eqAt_key x y A s a b hx.1 hy.1 (by have := hx.2; omega) prog w E Q (by rw [← NestedKey.decide_eq]; exact h)
theorem hash_at {k : NestedKey} {v : Value} {Q : Int → Shared → Prop} (hu : A.units + 8 < cLine) (hk : KeyAt s.heap k v) (h : Q (k.hash w) { s with toks := s.toks + k.draws }) : wpAny (model prog w) A (pyHash v) Q E s :=
  pyHash_key k v A s Q hk.1 (by have := hk.2; omega) h
theorem tells_not {key : Value} {k : NestedKey} {stored : List Value} {Q : Bool → Shared → Prop} (hk : KeyAt s.heap k key) (hst : ∀ v ∈ stored, ∃ k', KeyAt s.heap k' v) (h : Q false s) : wpAny (model prog w) A (tableMayTell key stored) Q E s := by
  unfold tableMayTell
  split
  · exact wpAny_pure h
  · refine wpAny_bind (quiet_at hk ?_)
    refine wpAny_bind ?_
    refine wpAny_forIn_list _ (fun rest r s' => s' = s ∧ r = (none, ()) ∧ ∀ v ∈ rest, ∃ k', KeyAt s.heap k' v) _ ?_ ?_ _ _ ⟨rfl, rfl, hst⟩
    · rintro v rest r s' ⟨rfl, rfl, hr⟩
      obtain ⟨k', hk'⟩ := hr v List.mem_cons_self
      exact wpAny_bind (quiet_at hk' (wpAny_pure ⟨rfl, rfl, fun u hu => hr u (List.mem_cons_of_mem _ hu)⟩))
    · rintro r s' ⟨rfl, rfl, _⟩
      exact wpAny_pure h
section
variable {d : Addr} {o : Obj} {es : Array DictEntry} {ep : Nat} {xs : List NestedKey} {k : NestedKey} {key : Value}
abbrev plc (es : Array DictEntry) (h : Int) : List Nat := placesWithHash es.size (fun i => es[i]?.map (·.hash)) h
theorem plc_nd (es : Array DictEntry) (h : Int) : (plc es h).Nodup := List.nodup_range.filter _
theorem plc_mem {h : Heap} (H : Ks w h es xs) {i : Nat} (hi : xs[i]? = some k) : i ∈ plc es (k.hash w) := by
  obtain ⟨e, h1, h2, _⟩ := H.ent i k hi
  refine List.mem_filter.mpr ⟨List.mem_range.mpr ?_, ?_⟩
  · exact (Array.getElem?_eq_some_iff.mp h1).1
  · show (es[i]?.map (·.hash) == some (k.hash w)) = true
    rw [h1, Option.map_some, h2]
    exact beq_self_eq_true _
theorem plc_of {h : Int} {i : Nat} (hi : i ∈ plc es h) : ∃ e, es[i]? = some e ∧ e.hash = h := by
  obtain ⟨_, h2⟩ := List.mem_filter.mp hi
  cases he : es[i]? with
  | none => simp [he] at h2
  | some e =>
    refine ⟨e, rfl, ?_⟩
    simpa [he] using h2
theorem ite2 {α : Type} {c : Prop} [Decidable c] {a b : Sem α} {Q : α → Shared → Prop} (ha : c → wpAny (model prog w) A a Q E s) (hb : ¬ c → wpAny (model prog w) A b Q E s) : wpAny (model prog w) A (if c then a else b) Q E s := by
  split
  · exact ha ‹_›
  · exact hb ‹_›
/-- the walk that stops at the first that is the same -/
theorem walk_plain {Q : Option Nat → Shared → Prop} (hu : A.units + 8 < cLine) (hk : KeyAt s.heap k key) (ho : s.heap.get? d = some o) (hd : o.data = .dict es ep) (H : Ks w s.heap es xs)
    (h0 : k ∉ xs → Q none s) (h1 : ∀ i, xs[i]? = some k → Q (some i) s) : wpAny (model prog w) A (dictWalkPlain d key (k.hash w) es (plc es (k.hash w))) Q E s := by
  unfold dictWalkPlain
  refine wpAny_bind ?_
  refine wpAny_forIn_list _ (fun rest b s' => s' = s ∧ b = (none, ()) ∧ ∃ pre, plc es (k.hash w) = pre ++ rest ∧ ∀ i ∈ pre, xs[i]? ≠ some k) _ ?_ ?_ _ _ ⟨rfl, rfl, [], rfl, fun i hi => by cases hi⟩
  · rintro x rest b s' ⟨rfl, rfl, pre, hp, hno⟩
    obtain ⟨e, he, hh⟩ := plc_of (show x ∈ plc es (k.hash w) by rw [hp]; exact List.mem_append.mpr (.inr List.mem_cons_self))
    obtain ⟨k', hk', _, hk2⟩ := H.key he
    simp only [he]
    rw [if_pos (by rw [hh]; exact beq_self_eq_true _)]
    refine wpAny_bind (wpAny_dictEpoch ho hd (wpAny_bind (eq_at hu hk2 hk (wpAny_bind (wpAny_dictEpoch ho hd ?_)))))
    simp only [bne_self_eq_false, Bool.false_eq_true, if_false]
    by_cases hkk : k' = k
    · rw [decide_eq_true hkk]
      subst hkk
      exact wpAny_bind (wpAny_rule (wpAny_pure (wpAny_pure (h1 x hk'))))
    · rw [decide_eq_false hkk]
      refine wpAny_bind (wpAny_rule (wpAny_pure ⟨rfl, rfl, pre ++ [x], by rw [hp, List.append_assoc]; rfl, fun i hi => ?_⟩))
      rcases List.mem_append.mp hi with hi | hi
      · exact hno i hi
      · rw [List.mem_singleton.mp hi, hk']
        exact fun z => hkk (Option.some.inj z)
  · rintro b s' ⟨rfl, rfl, pre, hp, hno⟩
    refine wpAny_pure (h0 fun hm => ?_)
    obtain ⟨i, hi⟩ := List.mem_iff_getElem?.mp hm
    have := plc_mem H hi
    rw [hp, List.append_nil] at this
    exact hno i this hi
/-- all keys are texts: found by the text -/
theorem isStr_at {h : Heap} {x : Str} {v : Value} (hk : KeyAt h k v) (hs : isExactStrKey v = true) : v.isStr x = decide (k = .text x) := by
  obtain ⟨hk, _⟩ := hk
  cases hk with
  | none => cases hs
  | bool _ => cases hs
  | int _ _ => cases hs
  | tup _ _ _ _ => cases hs
  | text y t =>
    by_cases e : y = x
    · subst e
      simp [Value.isStr]
    · simp [Value.isStr, e]
theorem found_text {Q : Option Nat → Shared → Prop} {x : Str} {t : Tok} (hu : A.units + 8 < cLine) (hk : KeyAt s.heap k (.str x t)) (ho : s.heap.get? d = some o) (hd : o.data = .dict es ep) (H : Ks w s.heap es xs) (hall : (es.all fun e => isExactStrKey e.key) = true)
    (h0 : k ∉ xs → Q none s) (h1 : ∀ i, xs[i]? = some k → Q (some i) s) : wpAny (model prog w) A (foundByValue d (.str x t) es x) Q E s := by
  have ek : k = .text x := by
    obtain ⟨hk, _⟩ := hk
    cases hk
    rfl
  have hal : ∀ (i : Nat) e, es[i]? = some e → isExactStrKey e.key = true := fun i e he => by
    obtain ⟨hi, rfl⟩ := Array.getElem?_eq_some_iff.mp he
    exact Array.all_eq_true.mp hall i hi
  unfold foundByValue
  cases hf : es.findIdx? (fun e => e.key.isStr x) with
  | none =>
    refine wpAny_pure (h0 fun hm => ?_)
    obtain ⟨i, hi⟩ := List.mem_iff_getElem?.mp hm
    obtain ⟨e, he, _, hke⟩ := H.ent i k hi
    have := Array.findIdx?_eq_none_iff.mp hf e (Array.mem_of_getElem? he)
    rw [isStr_at hke (hal i e he), ek] at this
    simp at this
  | some i =>
    obtain ⟨hlt, hi, _⟩ := Array.findIdx?_eq_some_iff_getElem.mp hf
    have he : es[i]? = some es[i] := Array.getElem?_eq_getElem hlt
    obtain ⟨k', hk', _, hk2⟩ := H.key he
    rw [isStr_at hk2 (hal i _ he)] at hi
    have hkk : k' = k := (of_decide_eq_true hi).trans ek.symm
    simp only [he]
    refine wpAny_bind (wpAny_dictEpoch ho hd (wpAny_bind (eq_at hu hk2 hk (wpAny_bind (wpAny_dictEpoch ho hd ?_)))))
    simp only [bne_self_eq_false, Bool.false_eq_true, if_false]
    rw [decide_eq_true hkk]
    subst hkk
    exact wpAny_bind (wpAny_rule (wpAny_pure (h1 i hk')))
/-- the whole search -/
theorem find_data {Q : Option Nat → Shared → Prop} (hu : A.units + 8 < cLine) (hk : KeyAt s.heap k key) (ho : s.heap.get? d = some o) (hd : o.data = .dict es ep) (H : Ks w s.heap es xs)
    (h0 : k ∉ xs → Q none s) (h1 : ∀ i, xs[i]? = some k → Q (some i) s) : wpAny (model prog w) A (dictFind d key (k.hash w)) Q E s := by
  have hst : ∀ v ∈ (plc es (k.hash w)).filterMap (fun i => es[i]?.map (·.key)), ∃ k', KeyAt s.heap k' v := by
    intro v hv
    obtain ⟨i, _, hi⟩ := List.mem_filterMap.mp hv
    cases he : es[i]? with
    | none => rw [he] at hi; cases hi
    | some e =>
      rw [he] at hi
      obtain ⟨k', _, _, hk'⟩ := H.key he
      obtain rfl : e.key = v := by simpa using hi
      exact ⟨k', hk'⟩
  have hany : (es.any fun e => e.key == key && e.hash != k.hash w) = false := by
    rw [Bool.eq_false_iff]
    intro hc
    obtain ⟨i, hi, hc⟩ := Array.any_eq_true.mp hc
    obtain ⟨k', _, hh, hk'⟩ := H.key (Array.getElem?_eq_getElem hi)
    simp only [Bool.and_eq_true, beq_iff_eq, bne_iff_ne, ne_eq] at hc
    rw [hc.1] at hk'
    exact hc.2 (by rw [hh, NestedIs.inj _ _ _ hk'.1 hk.1])
  have old : wpAny (model prog w) A (dictWalkPlain d key (k.hash w) es (plc es (k.hash w))) Q E s := walk_plain hu hk ho hd H h0 h1
  have hk0 := hk
  obtain ⟨hn, hdp⟩ := hk
  obtain ⟨k0, hek, hn⟩ : ∃ k0, k0 = k ∧ NestedIs s.heap k0 key := ⟨k, rfl, hn⟩
  unfold dictFind
  refine wpAny_holding ?_
  refine wpAny_bind (wpAny_dictEntries ho hd ?_)
  cases hn
  case' none => dsimp only; refine ite2 (fun _ => old) fun _ => ?_
  case' bool => dsimp only; refine ite2 (fun _ => old) fun _ => ?_
  case' int => dsimp only; refine ite2 (fun _ => old) fun _ => ?_
  case' text x t => dsimp only; refine ite2 (fun hall => found_text hu hk0 ho hd H hall h0 h1) fun _ => ite2 (fun _ => old) fun _ => ?_
  case' tup => dsimp only; refine ite2 (fun hc => by simp [carriedByValue] at hc) fun _ => ite2 (fun hc => by rw [hany] at hc; cases hc) fun _ => ?_
  all_goals refine ite2 (fun _ => wpAny_bind (L2.thn (Q := fun b s' => b = false ∧ s' = s) (wpAny_pure ⟨rfl, rfl⟩) fun b s' hb => ?_)) fun _ => wpAny_bind (L2.thn (Q := fun b s' => b = false ∧ s' = s) (tells_not hk0 hst ⟨rfl, rfl⟩) fun b s' hb => ?_)
  all_goals obtain ⟨rfl, rfl⟩ := hb
  all_goals refine ite2 (fun hc => by simp at hc) fun _ => wpAny_bind ?_
  all_goals refine wpAny_forIn_list _ (fun rest b s1 => s1 = s' ∧ ∃ pre hit, b = (none, hit) ∧ plc es (k.hash w) = pre ++ rest ∧ ((hit = none ∧ ∀ i ∈ pre, xs[i]? ≠ some k) ∨ ∃ j ∈ pre, hit = some j ∧ xs[j]? = some k)) _ ?_ ?_ _ _ ⟨rfl, [], none, rfl, rfl, .inl ⟨rfl, fun i hi => by cases hi⟩⟩
  all_goals first
    | (rintro b1 s1 ⟨rfl, pre, hit, rfl, hp, hH⟩
       rw [List.append_nil] at hp
       rcases hH with ⟨rfl, hno⟩ | ⟨j, _, rfl, h3⟩
       · refine wpAny_pure (h0 fun hm => ?_)
         obtain ⟨i, hi⟩ := List.mem_iff_getElem?.mp hm
         exact hno i (hp ▸ plc_mem H hi) hi
       · exact wpAny_pure (h1 j h3))
    | skip
  all_goals
    rintro x rest b1 s1 ⟨rfl, pre, hit, rfl, hp, hH⟩
    obtain ⟨e, he, hh⟩ := plc_of (show x ∈ plc es (k.hash w) by rw [hp]; exact List.mem_append.mpr (.inr List.mem_cons_self))
    obtain ⟨k', hk', _, hk2⟩ := H.key he
    have hnx : x ∉ pre := fun hx => by
      have := plc_nd es (k.hash w)
      rw [hp] at this
      exact (List.nodup_append.mp this).2.2 x hx x List.mem_cons_self rfl
    simp only [he]
    refine ite2 (fun _ => ?_) fun hc => absurd (by rw [hh]; exact beq_self_eq_true _) hc
    refine wpAny_bind (wpAny_dictEpoch ho hd (wpAny_bind (eq_at hu hk2 hk0 (wpAny_bind (wpAny_dictEpoch ho hd ?_)))))
    refine ite2 (fun hc => by simp at hc) fun _ => ?_
    by_cases hkk : k' = k
    · refine ite2 (fun _ => ?_) fun hc => absurd (decide_eq_true hkk) hc
      subst hkk
      rcases hH with ⟨rfl, _⟩ | ⟨j, hj, _, hj2⟩
      · refine ite2 (fun hc => by simp at hc) fun _ => ?_
        refine wpAny_bind (wpAny_rule ?_)
        refine ite2 (fun _ => wpAny_pure (wpAny_pure (h1 x hk'))) fun _ => wpAny_pure ⟨rfl, pre ++ [x], some x, rfl, by rw [hp, List.append_assoc]; rfl, .inr ⟨x, List.mem_append.mpr (.inr (List.mem_singleton.mpr rfl)), rfl, hk'⟩⟩
      · exact absurd (nodup_idx H.nd hj2 hk' ▸ hj) hnx
    · refine ite2 (fun hc => absurd (of_decide_eq_true hc) hkk) fun _ => ?_
      refine wpAny_bind (wpAny_rule ?_)
      refine ite2 (fun hc => by simp at hc) fun _ => ?_
      refine wpAny_pure ⟨rfl, pre ++ [x], hit, rfl, by rw [hp, List.append_assoc]; rfl, ?_⟩
      rcases hH with ⟨rfl, hno⟩ | ⟨j, hj, h2, h3⟩
      · refine .inl ⟨rfl, fun i hi => ?_⟩
        rcases List.mem_append.mp hi with hi | hi
        · exact hno i hi
        · rw [List.mem_singleton.mp hi, hk']
          exact fun z => hkk (Option.some.inj z)
      · exact .inr ⟨j, List.mem_append.mpr (.inl hj), h2, h3⟩
end
end Dk
/-! Dk2: what is done with such a dict: d[k], d.get, d[k] = v, k in d, setdefault. -/
namespace Dk
open PySem SeqAt
variable {prog : Program} {w : World} {A : Around} {E : Value → Shared → Prop} {s : Shared}
/-- an entry: the key as data, the key, what is held -/
abbrev En := NestedKey × Value × Value
def enE (w : World) (x : En) : DictEntry := ⟨x.1.hash w, x.2.1, x.2.2⟩
/-- at d stands the dict with these entries, in their order -/
structure DAt (w : World) (h : Heap) (d : Addr) (xs : List En) (o : Obj) (es : Array DictEntry) (ep : Nat) : Prop where
  ob : h.get? d = some o
  ex : o.ExactDict
  da : o.data = .dict es ep
  en : es.toList = xs.map (enE w)
  ks : ∀ x ∈ xs, KeyAt h x.1 x.2.1
  nd : (xs.map (·.1)).Nodup
def DOf (w : World) (h : Heap) (d : Addr) (xs : List En) : Prop := ∃ o es ep, DAt w h d xs o es ep
def atV (xs : List En) (k : NestedKey) : Option Value := (xs.find? fun x => decide (x.1 = k)).map (·.2.2)
def putV (xs : List En) (k : NestedKey) (u v : Value) : List En := if k ∈ xs.map (·.1) then xs.map (fun x => if x.1 = k then (x.1, x.2.1, v) else x) else xs ++ [(k, u, v)]
section
variable {h : Heap} {d : Addr} {xs : List En} {o : Obj} {es : Array DictEntry} {ep : Nat} {k : NestedKey} {key : Value}
theorem DAt.at_ (H : DAt w h d xs o es ep) (i : Nat) : es[i]? = (xs[i]?).map (enE w) := by
  rw [← Array.getElem?_toList, H.en, List.getElem?_map]
theorem DAt.sz (H : DAt w h d xs o es ep) : es.size = xs.length := by rw [← Array.length_toList, H.en, List.length_map]
theorem DAt.kk (H : DAt w h d xs o es ep) : Ks w h es (xs.map (·.1)) where
  sz := by rw [H.sz, List.length_map]
  nd := H.nd
  ent := fun i k hi => by
    rw [List.getElem?_map] at hi
    obtain ⟨x, hx, rfl⟩ := Option.map_eq_some_iff.mp hi
    exact ⟨enE w x, by rw [H.at_, hx]; rfl, rfl, H.ks x (List.mem_of_getElem? hx)⟩
theorem atV_none {xs : List En} {k : NestedKey} (h : k ∉ xs.map (·.1)) : atV xs k = none := by
  unfold atV
  rw [List.find?_eq_none.mpr, Option.map_none]
  exact fun x hx => by simpa using fun e => h (List.mem_map.mpr ⟨x, hx, e⟩)
theorem atV_some : ∀ {xs : List En} {k : NestedKey} {i : Nat} {x : En}, (xs.map (·.1)).Nodup → xs[i]? = some x → x.1 = k → atV xs k = some x.2.2
  | [], _, _, _, _, h, _ => by simp at h
  | y :: ys, k, i, x, hn, h, e => by
    unfold atV
    rw [List.map_cons, List.nodup_cons] at hn
    by_cases hy : y.1 = k
    · rw [List.find?_cons_of_pos (by simpa using hy), Option.map_some]
      cases i with
      | zero => rw [List.getElem?_cons_zero] at h; cases h; rfl
      | succ i =>
        rw [List.getElem?_cons_succ] at h
        exact absurd (List.mem_map.mpr ⟨x, List.mem_of_getElem? h, e.trans hy.symm⟩) hn.1
    · rw [List.find?_cons_of_neg (by simpa using hy)]
      cases i with
      | zero => rw [List.getElem?_cons_zero] at h; cases h; exact absurd e hy
      | succ i =>
        rw [List.getElem?_cons_succ] at h
        exact atV_some hn.2 h e
theorem get_data {Q : Option Value → Shared → Prop} (hu : A.units + 8 < cLine) (hk : KeyAt s.heap k key) (H : DOf w s.heap d xs) (h : Q (atV xs k) { s with toks := s.toks + k.draws }) : wpAny (model prog w) A (dictGet d key) Q E s := by
  obtain ⟨o, es, ep, H⟩ := H
  unfold dictGet
  refine wpAny_holding (wpAny_bind (hash_at hu hk (wpAny_bind (find_data (s := { s with toks := s.toks + k.draws }) hu hk H.ob H.da H.kk (fun hn => ?_) fun i hi => ?_))))
  · rw [atV_none hn] at h
    exact wpAny_pure h
  · rw [List.getElem?_map] at hi
    obtain ⟨x, hx, e⟩ := Option.map_eq_some_iff.mp hi
    rw [atV_some H.nd hx e] at h
    refine wpAny_bind (wpAny_dictEntries (s := { s with toks := s.toks + k.draws }) H.ob H.da ?_)
    rw [H.at_, hx]
    exact wpAny_pure h
theorem KeyAt.but {h h' : Heap} {k : NestedKey} {v : Value} (hk : KeyAt h k v) {d : Addr} {o : Obj} {es ep} (ho : h.get? d = some o) (hd : o.data = .dict es ep) (hs : Heap.SameBut d h h') : KeyAt h' k v :=
  ⟨NestedIs.at (fun b ob vs n hb hc => (hs.2 b fun e => by
    subst e
    rw [ho] at hb
    cases hb
    rw [hd] at hc
    cases hc).trans hb) k v hk.1, hk.2⟩
theorem modify_map {xs : List En} {i : Nat} {x : En} {v : Value} (hn : (xs.map (·.1)).Nodup) (hx : xs[i]? = some x) :
    (xs.map (enE w)).modify i (fun e : DictEntry => { e with val := v }) = (xs.map (fun y => if y.1 = x.1 then (y.1, y.2.1, v) else y)).map (enE w) := by
  refine List.ext_getElem? fun j => ?_
  rw [List.getElem?_modify, List.getElem?_map, List.getElem?_map, List.getElem?_map]
  cases hj : xs[j]? with
  | none => rfl
  | some y =>
    simp only [Option.map_some, Option.map_eq_map]
    by_cases e : i = j
    · subst e
      rw [hx] at hj
      cases hj
      rw [if_pos rfl, if_pos rfl]
      rfl
    · rw [if_neg e, if_neg fun z => ?_]
      exact e (nodup_idx (k := x.1) hn (by rw [List.getElem?_map, hx]; rfl) (by rw [List.getElem?_map, hj, Option.map_some, z]))
theorem set_data {v : Value} {Q : Unit → Shared → Prop} (hu : A.units + 8 < cLine) (hk : KeyAt s.heap k key) (H : DOf w s.heap d xs) (hz : xs.length ≤ sizeLine)
    (h : ∀ h', DOf w h' d (putV xs k key v) → Heap.SameBut d s.heap h' → Q () { s with heap := h', toks := s.toks + k.draws }) : wpAny (model prog w) A (dictSet d key v) Q E s := by
  obtain ⟨o, es, ep, H⟩ := H
  unfold dictSet dictSetHashed
  refine wpAny_holding (wpAny_bind (hash_at hu hk (wpAny_holding (wpAny_bind (find_data (s := { s with toks := s.toks + k.draws }) hu hk H.ob H.da H.kk (fun hn => ?_) fun i hi => ?_)))))
  · refine wpAny_bind (wpAny_rule (wpAny_updateDictKeys (hz := by rw [H.sz]; exact hz) (s := { s with toks := s.toks + k.draws }) H.ob H.da (h _ ⟨_, _, ep + 1, ⟨Heap.get?_update_self _ H.ob (Obj.isFreed_of_dict (Obj.data_mapDictKeys H.da _)), H.ex.mapDictKeys _, Obj.data_mapDictKeys H.da _, ?_, ?_, ?_⟩⟩ (Heap.SameBut.update ..))))
    · unfold putV
      rw [if_neg hn]
      simp [H.en, enE]
    · intro x hx
      unfold putV at hx
      rw [if_neg hn] at hx
      rcases List.mem_append.mp hx with hx | hx
      · exact (H.ks x hx).but H.ob H.da (Heap.SameBut.update ..)
      · rw [List.mem_singleton.mp hx]
        exact hk.but H.ob H.da (Heap.SameBut.update ..)
    · unfold putV
      rw [if_neg hn, List.map_append, List.nodup_append]
      refine ⟨H.nd, by simp, fun a ha b hb e => hn ?_⟩
      rw [List.map_singleton, List.mem_singleton] at hb
      subst e
      rw [hb] at ha
      exact ha
  · rw [List.getElem?_map] at hi
    obtain ⟨x, hx, e⟩ := Option.map_eq_some_iff.mp hi
    have hm : k ∈ xs.map (·.1) := List.mem_map.mpr ⟨x, List.mem_of_getElem? hx, e⟩
    refine wpAny_bind (wpAny_rule (wpAny_bind (wpAny_updateDict (s := { s with toks := s.toks + k.draws }) H.ob H.da (wpAny_point (h _ ⟨_, _, ep, ⟨Heap.get?_update_self _ H.ob (Obj.isFreed_of_dict (Obj.data_mapDict H.da _)), H.ex.mapDict _, Obj.data_mapDict H.da _, ?_, ?_, ?_⟩⟩ (Heap.SameBut.update ..))))))
    · unfold putV
      rw [if_pos hm, ← e]
      have := modify_map (w := w) (v := v) H.nd hx
      rw [← H.en] at this
      rw [← this]
      simp
    · intro y hy
      unfold putV at hy
      rw [if_pos hm] at hy
      obtain ⟨z, hz, rfl⟩ := List.mem_map.mp hy
      have := (H.ks z hz).but H.ob H.da (Heap.SameBut.update (f := Obj.mapDict fun es => es.modify i fun e => { e with val := v }) ..)
      split
      · exact this
      · exact this
    · unfold putV
      rw [if_pos hm, List.map_map]
      have : ((fun x : En => x.1) ∘ fun x => if x.1 = k then (x.1, x.2.1, v) else x) = fun x => x.1 := funext fun x => by
        show (if x.1 = k then (x.1, x.2.1, v) else x).1 = x.1
        split <;> rfl
      rw [this]
      exact H.nd
theorem DOf.typeIs (H : DOf w s.heap d xs) : s.TypeIs (.ref d) "dict" := let ⟨o, _, _, H⟩ := H; ⟨o, H.ob, H.ex.1⟩
theorem DOf.raw (H : DOf w h d xs) : ∃ es ep, h.DictRaw d es ep ∧ es.size = xs.length ∧ ∀ (i : Nat) (x : En), xs[i]? = some x → ∃ hi : i < es.size, es[i].key = x.2.1 ∧ es[i].val = x.2.2 := by
  obtain ⟨o, es, ep, H⟩ := H
  refine ⟨es, ep, ⟨o, H.ob, H.ex, H.da⟩, H.sz, fun i x hx => ?_⟩
  have := H.at_ i
  rw [hx, Option.map_some] at this
  obtain ⟨hi, e⟩ := Array.getElem?_eq_some_iff.mp this
  exact ⟨hi, by rw [e]; rfl, by rw [e]; rfl⟩
theorem DOf.new (h : Heap) : DOf w (h.push { cls := .type "dict", data := .dict #[] }) h.objs.size [] :=
  ⟨_, #[], 0, ⟨Heap.get?_push_size _ rfl, ⟨rfl, rfl, rfl⟩, rfl, rfl, (fun _ hx => by cases hx), List.nodup_nil⟩⟩
/-- k in d -/
theorem contains_data {Q : Bool → Shared → Prop} (hu : A.in1.units + 8 < cLine) (hk : KeyAt s.heap k key) (hd : (d == sysModules) = false) (H : DOf w s.heap d xs)
    (h : Q (atV xs k).isSome { s with toks := s.toks + k.draws }) : wpAny (model prog w) A (contains (.ref d) key) Q E s := by
  refine wpAny_contains_slot H.typeIs F.slot_dict_contains ?_
  refine call_meetsIn F.slot_dict_contains H.typeIs F.entry_dict_contains (F.args_dict_contains_2 _ _) (S := fun A' R s' => A' = A ∧ s' = s ∧ R (.ok (.ret (.bool (atV xs k).isSome))) { s with toks := s.toks + k.draws }) (fun A' R s' hS => ?_) ⟨rfl, rfl, wpAny_truthy_bool h⟩
  obtain ⟨rfl, rfl, hq⟩ := hS
  show wpAny _ _ (dictGet d key >>= _) _ _ _
  refine wpAny_bind (get_data hu hk H ?_)
  cases hf : atV xs k with
  | some v =>
    rw [hf] at hq
    show wpAny _ _ (ret (.bool true)) _ _ _
    exact wpAny_pure hq
  | none =>
    rw [hf] at hq
    show wpAny _ _ (Builtin.Dict.pendingKey? d key >>= _) _ _ _
    exact wpAny_bind (wpAny_pendingKey_other hd (wpAny_pure hq))
theorem in_data {Q : Value → Shared → Prop} (hu : A.in1.units + 8 < cLine) (hk : KeyAt s.heap k key) (hd : (d == sysModules) = false) (H : DOf w s.heap d xs)
    (h : Q (.bool (atV xs k).isSome) { s with toks := s.toks + k.draws }) : wpAny (model prog w) A (compareOp .In key (.ref d)) Q E s :=
  wpAny_bind (contains_data hu hk hd H (wpAny_pure h))
theorem notIn_data {Q : Value → Shared → Prop} (hu : A.in1.units + 8 < cLine) (hk : KeyAt s.heap k key) (hd : (d == sysModules) = false) (H : DOf w s.heap d xs)
    (h : Q (.bool (!(atV xs k).isSome)) { s with toks := s.toks + k.draws }) : wpAny (model prog w) A (compareOp .NotIn key (.ref d)) Q E s :=
  wpAny_bind (contains_data hu hk hd H (wpAny_pure h))
/-- d[k], the key there -/
theorem getItem_data {v : Value} {Q : Value → Shared → Prop} (hu : A.in1.units + 8 < cLine) (hk : KeyAt s.heap k key) (H : DOf w s.heap d xs) (hv : atV xs k = some v)
    (h : Q v { s with toks := s.toks + k.draws }) : wpAny (model prog w) A (getItem (.ref d) key) Q E s := by
  unfold getItem
  refine wpAny_holding (wpAny_bind (wpAny_sequenceKey H.typeIs (by decide) ?_))
  refine wpAny_bind (wpAny_callSpecial?_slot (name := Str.ofString "__getitem__") H.typeIs slot_dict_getitem (wpAny_call_entry slot_dict_getitem H.typeIs entry_dict_getitem ?_ (args_dict_getitem _ _)))
  show wpAny _ _ (dictGet d key >>= _) _ _ s
  refine wpAny_bind (get_data hu hk H ?_)
  rw [hv]
  exact wpAny_pure ⟨v, rfl, wpAny_pure h⟩
/-- d[k] = v -/
theorem setItem_data {v : Value} {Q : Unit → Shared → Prop} (hu : A.in1.units + 8 < cLine) (hk : KeyAt s.heap k key) (H : DOf w s.heap d xs) (hz : xs.length ≤ sizeLine)
    (h : ∀ h', DOf w h' d (putV xs k key v) → Heap.SameBut d s.heap h' → Q () { s with heap := h', toks := s.toks + k.draws }) : wpAny (model prog w) A (setItem (.ref d) key v) Q E s := by
  unfold setItem
  refine wpAny_holding (wpAny_bind (wpAny_sequenceKey H.typeIs (by decide) ?_))
  refine wpAny_bind (wpAny_callSpecial?_slot (name := Str.ofString "__setitem__") H.typeIs slot_dict_setitem (wpAny_call_entry slot_dict_setitem H.typeIs entry_dict_setitem ?_ (args_dict_setitem _ _ _)))
  show wpAny _ _ (Builtin.Dict.notOrdered "__setitem__" ⟨[.ref d, key, v], []⟩ >>= _) _ _ s
  refine wpAny_bind (wpAny_notOrdered_dict H.typeIs ?_)
  show wpAny _ _ (dictSet d key v >>= _) _ _ s
  exact wpAny_bind (set_data hu hk H hz fun h' H' hs => wpAny_pure ⟨.none, rfl, wpAny_pure (h h' H' hs)⟩)
/-- d.get(k) -/
theorem call_get1 {Q : Value → Shared → Prop} (hu : A.in1.units + 8 < cLine) (hk : KeyAt s.heap k key) (hd : (d == sysModules) = false) (H : DOf w s.heap d xs)
    (h : Q ((atV xs k).getD .none) { s with toks := s.toks + k.draws }) : wpAny (model prog w) A (call (.builtin "dict.get") [.ref d, key]) Q E s := by
  refine call_meetsIn F.slot_dict_get H.typeIs F.entry_dict_get (F.args_dict_get_2 _ _) (S := fun A' R s' => A' = A ∧ s' = s ∧ R (.ok (.ret ((atV xs k).getD .none))) { s with toks := s.toks + k.draws }) (.of_wp fun A' R s' hS => ?_) ⟨rfl, rfl, h⟩
  obtain ⟨rfl, rfl, hq⟩ := hS
  show wpAny _ _ (dictGet d key >>= _) _ _ _
  refine wpAny_bind (get_data hu hk H ?_)
  cases hf : atV xs k with
  | some v =>
    rw [hf] at hq
    exact wpAny_pure ⟨v, rfl, hq⟩
  | none =>
    rw [hf] at hq
    show wpAny _ _ (Builtin.Dict.missed d key >>= _) _ _ _
    exact wpAny_bind (wpAny_missed_other hd (wpAny_pure ⟨.none, rfl, hq⟩))
/-- d.get(k, x) -/
theorem call_get2 {x : Value} {Q : Value → Shared → Prop} (hu : A.in1.units + 8 < cLine) (hk : KeyAt s.heap k key) (hd : (d == sysModules) = false) (H : DOf w s.heap d xs)
    (h : Q ((atV xs k).getD x) { s with toks := s.toks + k.draws }) : wpAny (model prog w) A (call (.builtin "dict.get") [.ref d, key, x]) Q E s := by
  refine call_meetsIn F.slot_dict_get H.typeIs F.entry_dict_get (F.args_dict_get_3 _ _ _) (S := fun A' R s' => A' = A ∧ s' = s ∧ R (.ok (.ret ((atV xs k).getD x))) { s with toks := s.toks + k.draws }) (.of_wp fun A' R s' hS => ?_) ⟨rfl, rfl, h⟩
  obtain ⟨rfl, rfl, hq⟩ := hS
  show wpAny _ _ (dictGet d key >>= _) _ _ _
  refine wpAny_bind (get_data hu hk H ?_)
  cases hf : atV xs k with
  | some v =>
    rw [hf] at hq
    exact wpAny_pure ⟨v, rfl, hq⟩
  | none =>
    rw [hf] at hq
    show wpAny _ _ (Builtin.Dict.missed d key >>= _) _ _ _
    exact wpAny_bind (wpAny_missed_other hd (wpAny_pure ⟨x, rfl, hq⟩))
theorem putV_new {u v : Value} (hn : k ∉ xs.map (·.1)) : putV xs k u v = xs ++ [(k, u, v)] := by
  unfold putV
  rw [if_neg hn]
/-- a new entry behind the others -/
theorem DAt.push {v : Value} (H : DAt w h d xs o es ep) (hk : KeyAt h k key) (hn : k ∉ xs.map (·.1)) : DOf w (h.update d (Obj.mapDictKeys fun es => es.push ⟨k.hash w, key, v⟩)) d (putV xs k key v) := by
  refine ⟨_, _, ep + 1, ⟨Heap.get?_update_self _ H.ob (Obj.isFreed_of_dict (Obj.data_mapDictKeys H.da _)), H.ex.mapDictKeys _, Obj.data_mapDictKeys H.da _, ?_, ?_, ?_⟩⟩
  · rw [putV_new hn]
    simp [H.en, enE]
  · intro x hx
    rw [putV_new hn] at hx
    rcases List.mem_append.mp hx with hx | hx
    · exact (H.ks x hx).but H.ob H.da (Heap.SameBut.update ..)
    · rw [List.mem_singleton.mp hx]
      exact hk.but H.ob H.da (Heap.SameBut.update ..)
  · rw [putV_new hn, List.map_append, List.nodup_append]
    refine ⟨H.nd, by simp, fun a ha b hb e => hn ?_⟩
    rw [List.map_singleton, List.mem_singleton] at hb
    subst e
    rw [hb] at ha
    exact ha
theorem setdef_data {v : Value} {Q : Value → Shared → Prop} (hu : A.units + 8 < cLine) (hk : KeyAt s.heap k key) (H : DOf w s.heap d xs) (hz : xs.length ≤ sizeLine)
    (h1 : ∀ u, atV xs k = some u → Q u { s with toks := s.toks + k.draws })
    (h2 : atV xs k = none → ∀ h', DOf w h' d (putV xs k key v) → Heap.SameBut d s.heap h' → Q v { s with heap := h', toks := s.toks + k.draws }) : wpAny (model prog w) A (dictSetDefault d key v) Q E s := by
  obtain ⟨o, es, ep, H⟩ := H
  unfold dictSetDefault
  refine wpAny_holding (wpAny_bind (hash_at hu hk (wpAny_bind (find_data (s := { s with toks := s.toks + k.draws }) hu hk H.ob H.da H.kk (fun hn => ?_) fun i hi => ?_))))
  · exact wpAny_bind (wpAny_rule (wpAny_bind (wpAny_updateDictKeys (hz := by rw [H.sz]; exact hz) (s := { s with toks := s.toks + k.draws }) H.ob H.da (wpAny_pure (h2 (atV_none hn) _ (H.push hk hn) (Heap.SameBut.update ..))))))
  · rw [List.getElem?_map] at hi
    obtain ⟨x, hx, e⟩ := Option.map_eq_some_iff.mp hi
    have := h1 _ (atV_some H.nd hx e)
    refine wpAny_bind (wpAny_dictEntries (s := { s with toks := s.toks + k.draws }) H.ob H.da ?_)
    rw [H.at_, hx]
    exact wpAny_bind (wpAny_rule (wpAny_pure this))
/-- d.setdefault(k, v) -/
theorem call_setdefault {v : Value} {Q : Value → Shared → Prop} (hu : A.in1.units + 8 < cLine) (hk : KeyAt s.heap k key) (hd : (d == sysModules) = false) (H : DOf w s.heap d xs) (hz : xs.length ≤ sizeLine)
    (h1 : ∀ u, atV xs k = some u → Q u { s with toks := s.toks + k.draws })
    (h2 : atV xs k = none → ∀ h', DOf w h' d (putV xs k key v) → Heap.SameBut d s.heap h' → Q v { s with heap := h', toks := s.toks + k.draws }) : wpAny (model prog w) A (call (.builtin "dict.setdefault") [.ref d, key, v]) Q E s := by
  refine call_meetsIn F.slot_dict_setdefault H.typeIs F.entry_dict_setdefault (F.args_dict_setdefault_3 _ _ _) (S := fun A' R s' => A' = A ∧ s' = s ∧ (∀ u, atV xs k = some u → R (.ok (.ret u)) { s with toks := s.toks + k.draws }) ∧
    (atV xs k = none → ∀ h', DOf w h' d (putV xs k key v) → Heap.SameBut d s.heap h' → R (.ok (.ret v)) { s with heap := h', toks := s.toks + k.draws })) (.of_wp fun A' R s' hS => ?_) ⟨rfl, rfl, h1, h2⟩
  obtain ⟨rfl, rfl, q1, q2⟩ := hS
  unfold Builtin.«dict.setdefault»
  refine wpAny_bind ?_
  unfold Builtin.Dict.keyAndDefault
  refine wpAny_bind (wpAny_notOrdered_dict H.typeIs ?_)
  show wpAny _ _ (pure (d, key, some v)) _ _ _
  refine wpAny_pure ?_
  show wpAny _ _ (if (d == sysModules) = true then _ else (dictSetDefault d key v >>= _)) _ _ _
  rw [if_neg (by rw [hd]; exact Bool.false_ne_true)]
  exact wpAny_bind (setdef_data hu hk H hz (fun u hv => wpAny_pure ⟨u, rfl, q1 u hv⟩) fun hn h' H' hs => wpAny_pure ⟨v, rfl, q2 hn h' H' hs⟩)
end
end Dk
/-! Dk3: such a dict as an object of the abstract heap. -/
namespace Dk
open PySem PySem.Spec PyProof.Rows L2 Evl Lw
mutual
/-- the value is the key, in the abstract heap -/
inductive KV (K : PySem.W.Frag) (H : Hp) : NestedKey → V → Prop
  | none : KV K H .none .non
  | bool (b : Bool) : KV K H (.num (if b = true then 1 else 0)) (.bl b)
  | int (i : Int) : KV K H (.num i) (.int i)
  | text (x : Str) : KV K H (.text x) (.str x)
  | tup {a : Addr} {vs : List V} {ks : List NestedKey} : SqT K H a vs → KVs K H ks vs → KV K H (.tup ks) (.ref a)
inductive KVs (K : PySem.W.Frag) (H : Hp) : List NestedKey → List V → Prop
  | nil : KVs K H [] []
  | cons {k : NestedKey} {ks : List NestedKey} {v : V} {vs : List V} : KV K H k v → KVs K H ks vs → KVs K H (k :: ks) (v :: vs)
end
section
variable {X : Cx} {pins : List (Addr × Obj)} {σ : L2.St} {H H' : Hp} {s : Shared} {a : Addr}
mutual
theorem KV.nested (I : Inv X pins σ H s) : ∀ (k : NestedKey) (v : V) (u : Value), KV X.K H k v → RelV v u → NestedIs s.heap k u
  | .none, _, _, h, r => by
    cases h
    cases r
    exact .none
  | .num i, _, _, h, r => by
    cases h with
    | bool b => cases r; exact .bool rfl
    | int i =>
      obtain ⟨t, rfl⟩ := r
      exact .int i t
  | .text x, _, _, h, r => by
    cases h
    obtain ⟨t, rfl⟩ := r
    exact .text x t
  | .tup ks, _, _, h, r => by
    cases h with
    | tup hs ha =>
      cases r
      obtain ⟨its, hv, ⟨o, ho, hc, n, hd⟩, _⟩ := I.tuple hs
      exact .tup ho hc hd (KVs.nested I ks _ its ha hv)
theorem KVs.nested (I : Inv X pins σ H s) : ∀ (ks : List NestedKey) (vs : List V) (us : List Value), KVs X.K H ks vs → Vals vs us → NestedAll s.heap ks us
  | [], _, _, h, r => by
    cases h
    cases r
    exact .nil
  | k :: ks, _, _, h, r => by
    cases h with
    | cons h1 h2 =>
      cases r with
      | cons r1 r2 => exact .cons (KV.nested I k _ _ h1 r1) (KVs.nested I ks _ _ h2 r2)
end
mutual
theorem KV.up {K : PySem.W.Frag} (e : Ex H H') : ∀ (k : NestedKey) (v : V), KV K H k v → KV K H' k v
  | .none, _, h => by cases h; exact .none
  | .num _, _, h => by
    cases h with
    | bool b => exact .bool b
    | int => exact .int _
  | .text _, _, h => by cases h; exact .text _
  | .tup ks, _, h => by
    cases h with
    | tup hs ha => exact .tup (ex_t e hs) (KVs.up e ks _ ha)
theorem KVs.up {K : PySem.W.Frag} (e : Ex H H') : ∀ (ks : List NestedKey) (vs : List V), KVs K H ks vs → KVs K H' ks vs
  | [], _, h => by cases h; exact .nil
  | k :: ks, _, h => by
    cases h with
    | cons h1 h2 => exact .cons (KV.up e k _ h1) (KVs.up e ks _ h2)
end
/-- an entry of the abstract dict: the key as data, the key, what is held -/
abbrev EnV := NestedKey × V × V
def RelE (w : World) (x : EnV) (e : DictEntry) : Prop := e.hash = x.1.hash w ∧ RelV x.2.1 e.key ∧ RelV x.2.2 e.val
/-- what the object at a is, told by it alone -/
def DictV (w : World) (a : Addr) (l : List EnV) : Heap → Prop := fun h => (a == sysModules) = false ∧ ∃ o es ep, h.get? a = some o ∧ o.ExactDict ∧ o.data = .dict es ep ∧ Paired (RelE w) l es.toList
def DHO (w : World) (a : Addr) (l : List EnV) : HO := .ext (DictV w a l)
structure IsDk (K : PySem.W.Frag) (w : World) (H : Hp) (a : Addr) (l : List EnV) : Prop where
  ho : H a = some (DHO w a l)
  ks : ∀ e ∈ l, KV K H e.1 e.2.1 ∧ e.1.depth ≤ 8
  nd : (l.map (·.1)).Nodup
def atL (l : List EnV) (k : NestedKey) : Option V := (l.find? fun x => decide (x.1 = k)).map (·.2.2)
def putL (l : List EnV) (k : NestedKey) (u v : V) : List EnV := if k ∈ l.map (·.1) then l.map (fun x => if x.1 = k then (x.1, x.2.1, v) else x) else l ++ [(k, u, v)]
def RelN (x : EnV) (y : En) : Prop := x.1 = y.1 ∧ RelV x.2.1 y.2.1 ∧ RelV x.2.2 y.2.2
theorem relN_keys : ∀ {l : List EnV} {xs : List En}, Paired RelN l xs → xs.map (·.1) = l.map (·.1)
  | _, _, .nil => rfl
  | _, _, .cons h t => by rw [List.map_cons, List.map_cons, relN_keys t, h.1]
theorem relN_at (k : NestedKey) : ∀ {l : List EnV} {xs : List En}, Paired RelN l xs → RelO (atL l k) (atV xs k)
  | _, _, .nil => trivial
  | _, _, .cons (a := x) (b := y) h t => by
    unfold atL atV
    by_cases e : x.1 = k
    · rw [List.find?_cons_of_pos (by simpa using e), List.find?_cons_of_pos (by simpa using h.1 ▸ e)]
      exact h.2.2
    · rw [List.find?_cons_of_neg (by simpa using e), List.find?_cons_of_neg (by simpa using h.1 ▸ e)]
      exact relN_at k t
theorem relN_map {k : NestedKey} {v : V} {r : Value} (hv : RelV v r) : ∀ {l : List EnV} {xs : List En}, Paired RelN l xs → Paired RelN (l.map (fun x => if x.1 = k then (x.1, x.2.1, v) else x)) (xs.map (fun x => if x.1 = k then (x.1, x.2.1, r) else x))
  | _, _, .nil => .nil
  | _, _, .cons (a := x) (b := y) h t => by
    refine .cons ?_ (relN_map hv t)
    show RelN (if x.1 = k then (x.1, x.2.1, v) else x) (if y.1 = k then (y.1, y.2.1, r) else y)
    by_cases e : x.1 = k
    · rw [if_pos e, if_pos (h.1 ▸ e)]
      exact ⟨h.1, h.2.1, hv⟩
    · rw [if_neg e, if_neg (h.1 ▸ e)]
      exact h
theorem relN_put {k : NestedKey} {u v : V} {q r : Value} (hu : RelV u q) (hv : RelV v r) {l : List EnV} {xs : List En} (h : Paired RelN l xs) : Paired RelN (putL l k u v) (putV xs k q r) := by
  unfold putL putV
  rw [relN_keys h]
  by_cases e : k ∈ l.map (·.1)
  · rw [if_pos e, if_pos e]
    exact relN_map hv h
  · rw [if_neg e, if_neg e]
    exact Paired.snoc h ⟨rfl, hu, hv⟩
theorem relE_of {w : World} : ∀ {l : List EnV} {es : List DictEntry}, Paired (RelE w) l es → ∃ xs : List En, Paired RelN l xs ∧ es = xs.map (enE w)
  | _, _, .nil => ⟨[], .nil, rfl⟩
  | _, _, .cons (a := x) (b := e) h t => by
    obtain ⟨xs, h1, h2⟩ := relE_of t
    refine ⟨(x.1, e.key, e.val) :: xs, .cons ⟨rfl, h.2.1, h.2.2⟩ h1, ?_⟩
    rw [List.map_cons, ← h2]
    obtain ⟨eh, ek, ev⟩ := e
    obtain rfl : eh = _ := h.1
    rfl
theorem relE_to {w : World} : ∀ {l : List EnV} {xs : List En}, Paired RelN l xs → Paired (RelE w) l (xs.map (enE w))
  | _, _, .nil => .nil
  | _, _, .cons h t => .cons ⟨by rw [h.1]; rfl, h.2.1, h.2.2⟩ (relE_to t)
/-- the dict is read -/
theorem IsDk.of {l : List EnV} (D : IsDk X.K X.w H a l) (I : Inv X pins σ H s) : (a == sysModules) = false ∧ ∃ xs, Paired RelN l xs ∧ DOf X.w s.heap a xs := by
  obtain ⟨⟨hs, o, es, ep, ho, hx, hd, hp⟩, _, _⟩ := (show ObjOk X.prog X.w H s.heap a (DHO X.w a l) from I.hok a _ D.ho)
  obtain ⟨xs, h1, h2⟩ := relE_of hp
  refine ⟨hs, xs, h1, o, es, ep, ⟨ho, hx, hd, h2, fun x hxm => ?_, by rw [relN_keys h1]; exact D.nd⟩⟩
  have : ∃ e ∈ l, RelN e x := by
    have aux : ∀ {l : List EnV} {xs : List En}, Paired RelN l xs → x ∈ xs → ∃ e ∈ l, RelN e x := by
      intro l xs h
      induction h with
      | nil => intro h; cases h
      | cons h1 _ ih =>
        intro hm
        rcases List.mem_cons.mp hm with rfl | hm
        · exact ⟨_, List.mem_cons_self, h1⟩
        · obtain ⟨e, he, hr⟩ := ih hm
          exact ⟨e, List.mem_cons_of_mem _ he, hr⟩
    exact aux h1 hxm
  obtain ⟨e, he, hr⟩ := this
  obtain ⟨q1, q2⟩ := D.ks e he
  exact ⟨by rw [← hr.1]; exact KV.nested I _ _ _ q1 hr.2.1, by rw [← hr.1]; exact q2⟩
theorem dho_new {P : Program} {h : Heap} {l : List EnV} {xs : List En} (hs : (a == sysModules) = false) (D : DOf X.w h a xs) (hp : Paired RelN l xs) : ObjOk P X.w H h a (DHO X.w a l) := by
  obtain ⟨o, es, ep, D⟩ := D
  refine ⟨⟨hs, o, es, ep, D.ob, D.ex, D.da, by rw [D.en]; exact relE_to hp⟩, ⟨o, D.ob⟩, fun h1 h2 p k => ?_⟩
  obtain ⟨q1, o, es, ep, q2, q3⟩ := p
  exact ⟨q1, o, es, ep, k o q2, q3⟩
theorem KV.at_ {k : NestedKey} {x : V} {u : Value} (I : Inv X pins σ H s) (h : KV X.K H k x) (hd : k.depth ≤ 8) (r : RelV x u) : KeyAt s.heap k u := ⟨KV.nested I k x u h r, hd⟩
theorem RelO.sm {o : Option V} {p : Option Value} (h : RelO o p) : p.isSome = o.isSome := by
  cases o with
  | none => cases p with
    | none => rfl
    | some _ => exact (show False from h).elim
  | some _ => cases p with
    | none => exact (show False from h).elim
    | some _ => rfl
/-- k in d, k not in d -/
def rInDk (K : PySem.W.Frag) (w : World) (neg : Bool) : R2 := fun x y H Q => ∃ a l k, y = .ref a ∧ IsDk K w H a l ∧ KV K H k x ∧ k.depth ≤ 8 ∧ Q (.bl (if neg = true then !(atL l k).isSome else (atL l k).isSome)) H
theorem or_inDk (hu : X.A.units + 64 < cLine) : OpR X (compareOp .In) (rInDk X.K X.w false) := by
  intro pins s σ H x y v u Q I rx ry h
  obtain ⟨a, l, k, rfl, D, hk, hd, q⟩ := h
  cases ry
  obtain ⟨hs, xs, hp, hD⟩ := D.of I
  refine in_data (by show X.A.units + 1 + 8 < cLine; omega) (hk.at_ I hd rx) hs hD ?_
  rw [RelO.sm (relN_at k hp)]
  exact ⟨.bl (atL l k).isSome, H, I.tok _, rfl, q⟩
theorem or_niDk (hu : X.A.units + 64 < cLine) : OpR X (compareOp .NotIn) (rInDk X.K X.w true) := by
  intro pins s σ H x y v u Q I rx ry h
  obtain ⟨a, l, k, rfl, D, hk, hd, q⟩ := h
  cases ry
  obtain ⟨hs, xs, hp, hD⟩ := D.of I
  refine notIn_data (by show X.A.units + 1 + 8 < cLine; omega) (hk.at_ I hd rx) hs hD ?_
  rw [RelO.sm (relN_at k hp)]
  exact ⟨.bl (!(atL l k).isSome), H, I.tok _, rfl, q⟩
/-- d[k], the key there -/
def rGetDk (K : PySem.W.Frag) (w : World) : R2 := fun x y H Q => ∃ a l k v, x = .ref a ∧ IsDk K w H a l ∧ KV K H k y ∧ k.depth ≤ 8 ∧ atL l k = some v ∧ Q v H
theorem or_getDk (hu : X.A.units + 64 < cLine) : OpR X getItem (rGetDk X.K X.w) := by
  intro pins s σ H x y v u Q I rx ry h
  obtain ⟨a, l, k, z, rfl, D, hk, hd, hv, q⟩ := h
  cases rx
  obtain ⟨hs, xs, hp, hD⟩ := D.of I
  have ho := relN_at k hp
  rw [hv] at ho
  cases hz : atV xs k with
  | none => rw [hz] at ho; exact (show False from ho).elim
  | some w1 =>
    rw [hz] at ho
    exact getItem_data (by show X.A.units + 1 + 8 < cLine; omega) (hk.at_ I hd ry) hD hz ⟨z, H, I.tok _, ho, q⟩
/-- d[k] = v -/
theorem setItem_Dk {l : List EnV} {k : NestedKey} {x v : V} {u r : Value} {E : Value → Shared → Prop} {Q : Unit → Shared → Prop} (hu : X.A.units + 64 < cLine) (I : Inv X pins σ H s) (D : IsDk X.K X.w H a l) (hk : KV X.K H k x) (hd : k.depth ≤ 8) (hl : l.length ≤ 100000) (ru : RelV x u) (rv : RelV v r)
    (h : ∀ s', Inv X pins σ (upd H a (DHO X.w a (putL l k x v))) s' → Q () s') : wpAny (model X.prog X.w) X.A (setItem (.ref a) u r) Q E s := by
  obtain ⟨hs, xs, hp, hD⟩ := D.of I
  have hz : xs.length ≤ sizeLine := by
    rw [← Paired.length hp]
    exact Nat.le_trans hl (by decide)
  refine setItem_data (by show X.A.units + 1 + 8 < cLine; omega) (hk.at_ I hd ru) hD hz fun h' H' sb => h _ ?_
  have he : ∃ q, h'.get? a = some q := let ⟨o, _, _, D⟩ := H'; ⟨o, D.ob⟩
  exact I.write (e := a) (by rw [D.ho]; exact True.intro) (.inl rfl) (fun b q hb hq => (sb.2 b hb).trans hq) he (dho_new hs H' (relN_put ru rv hp))
end
end Dk
/-! Dk4: the rules for code: a new dict, d[k] = v, d.get, d.setdefault. -/
namespace Dk
open PySem PySem.Spec PyProof.Rows L2 Evl Lw
/-- {} -/
def tNewDk (K : PySem.W.Frag) (w : World) : TE := fun _ H Q => ∀ p, H p = none → Q (.ref p) (upd H p (DHO w p []))
section
variable {X : Cx} {pos apos cpos tpos : Pos} {o e f i value : Expr} {td ty tx tv : TE} {pins : List (Addr × Obj)} {σ : L2.St} {H : Hp} {s : Shared} {a : Addr}
theorem pe_newDk : PE X (.Dict [] [] pos) (tNewDk X.K X.w) := ⟨fun pins s σ H Q I h =>
  wpAny_Dict_empty ⟨.ref s.heap.objs.size, _, I.laid (a := s.heap.objs.size) (o := DHO X.w s.heap.objs.size []) (t' := s.toks) (fun _ _ q => Heap.get?_push_of_some _ q) (Nat.le_refl _)
    (dho_new (beq_eq_false_iff_ne.mpr (Ne.symm (Nat.ne_of_lt I.big))) (DOf.new s.heap) .nil), rfl, h _ (I.hok.fresh (Nat.le_refl _))⟩⟩
theorem isDk_new {p : Addr} : IsDk X.K X.w (upd H p (DHO X.w p [])) p [] := ⟨by simp [upd], (fun _ h => by cases h), List.nodup_nil⟩
/-- d[k] = v -/
def sPutDk (K : PySem.W.Frag) (w : World) (td ty tv : TE) : TS := fun D σ H => tv σ H fun v H1 => td σ H1 fun x H2 => ty σ H2 fun y H3 => ∃ a l k, x = .ref a ∧ IsDk K w H3 a l ∧ KV K H3 k y ∧ k.depth ≤ 8 ∧ l.length ≤ 100000 ∧ D.nx σ (upd H3 a (DHO w a (putL l k y v)))
theorem ps_putDk (hu : X.A.units + 64 < cLine) (ho : PE X o td) (hi : PE X i ty) (hv : PE X value tv) (hs : swapsWith value (some (.Subscript o i tpos)) pos.line X.env = pure false) :
    PS X (.Assign [.Subscript o i tpos] value pos) (sPutDk X.K X.w td ty tv) := by
  refine ⟨fun pins s σ H D I h => ?_⟩
  refine wpAny_Assign_Subscript (thn (hv.run pins s σ H _ I h) fun r s1 ⟨v, H1, I1, rv, q1⟩ => thn (ho.run pins s1 σ H1 _ I1 q1) fun u s2 ⟨x, H2, I2, rx, q2⟩ => thn (hi.run pins s2 σ H2 _ I2 q2) fun iv s3 ⟨y, H3, I3, ry, a, l, k, ex, g, hk, hd, hl, q3⟩ => ?_) hs
  subst ex
  obtain rfl : u = Value.ref a := rx
  exact setItem_Dk hu I3 g hk hd hl ry rv fun s4 I4 => ⟨σ, _, I4, q3⟩
theorem IsDk.noDict {l : List EnV} (D : IsDk X.K X.w H a l) (I : Inv X pins σ H s) : s.TypeIs (.ref a) "dict" ∧ (∀ b, Value.ref a = .ref b → ∃ ob, s.heap.get? b = some ob ∧ ob.dict = none) := by
  obtain ⟨_, xs, _, hD⟩ := D.of I
  refine ⟨hD.typeIs, fun b q => ?_⟩
  cases q
  obtain ⟨o, _, _, D⟩ := hD
  exact ⟨o, D.ob, D.ex.2.1⟩
/-- d.setdefault(k, v) -/
def tSetdDk (K : PySem.W.Frag) (w : World) (td ty tx : TE) : TE := fun σ H Q => td σ H fun x H1 => ∃ a l, x = .ref a ∧ IsDk K w H1 a l ∧ ty σ H1 fun y H2 => tx σ H2 fun z H3 => ∃ (l : List EnV) (k : NestedKey), IsDk K w H3 a l ∧ KV K H3 k y ∧ k.depth ≤ 8 ∧ l.length ≤ 100000 ∧
  (∀ v, atL l k = some v → Q v H3) ∧ (atL l k = none → Q z (upd H3 a (DHO w a (putL l k y z))))
theorem pe_setdDk (hu : X.A.units + 64 < cLine) (ho : PE X o td) (he : PE X e ty) (hf : PE X f tx) (m : M2 X o "setdefault" apos e f cpos) : PE X (.Call (.Attribute o "setdefault" apos) [e, f] [] cpos) (tSetdDk X.K X.w td ty tx) := by
  refine ⟨fun pins s σ H Q I h => ?_⟩
  refine wpAny_Call_method m.base m.few m.line PySem.F.plainAttrs_dict PySem.F.slot_dict_setdefault PySem.F.type_dict_setdefault (thn (ho.run pins s σ H _ I h) fun u s1 ⟨x, H1, I1, rx, a, l1, ex, d, q1⟩ => ?_)
  subst ex
  obtain rfl : u = Value.ref a := rx
  obtain ⟨t1, t2⟩ := d.noDict I1
  refine ⟨t1, t2, ?_⟩
  rw [m.trees]
  refine Calls.callWith_builtin rfl (Calls.evalArgs_plain (Calls.spliced_cons (thn (he.run pins s1 σ H1 _ I1 q1) fun iv s2 ⟨y, H2, I2, ry, q2⟩ =>
    Calls.spliced_cons (thn (hf.run pins s2 σ H2 _ I2 q2) fun fv s3 ⟨z, H3, I3, rz, l, k, g, hk, hd, hl, q3, q4⟩ => Calls.spliced_nil ?_))))
  obtain ⟨hs, xs, hp, hD⟩ := g.of I3
  have hz : xs.length ≤ sizeLine := by
    rw [← Paired.length hp]
    exact Nat.le_trans hl (by decide)
  have hat := relN_at k hp
  refine call_setdefault (by show X.A.units + 1 + 8 < cLine; omega) (hk.at_ I3 hd ry) hs hD hz (fun w' hw => ?_) fun hn h' H' sb => ?_
  · rw [hw] at hat
    cases hv : atL l k with
    | none => rw [hv] at hat; exact (show False from hat).elim
    | some v =>
      rw [hv] at hat
      exact ⟨v, H3, I3.tok _, hat, q3 v hv⟩
  · rw [hn] at hat
    cases hv : atL l k with
    | some v => rw [hv] at hat; exact (show False from hat).elim
    | none =>
      have hex : ∃ q, h'.get? a = some q := let ⟨o, _, _, D⟩ := H'; ⟨o, D.ob⟩
      exact ⟨z, _, I3.write (e := a) (by rw [g.ho]; exact True.intro) (.inl rfl) (fun b q hb hq => (sb.2 b hb).trans hq) hex (dho_new hs H' (relN_put ry rz hp)), rz, q4 hv⟩
/-- d.get(k, v) -/
def tGet2Dk (K : PySem.W.Frag) (w : World) (td ty tx : TE) : TE := fun σ H Q => td σ H fun x H1 => ∃ a l, x = .ref a ∧ IsDk K w H1 a l ∧ ty σ H1 fun y H2 => tx σ H2 fun z H3 => ∃ (l : List EnV) (k : NestedKey), IsDk K w H3 a l ∧ KV K H3 k y ∧ k.depth ≤ 8 ∧ Q ((atL l k).getD z) H3
theorem pe_get2Dk (hu : X.A.units + 64 < cLine) (ho : PE X o td) (he : PE X e ty) (hf : PE X f tx) (m : M2 X o "get" apos e f cpos) : PE X (.Call (.Attribute o "get" apos) [e, f] [] cpos) (tGet2Dk X.K X.w td ty tx) := by
  refine ⟨fun pins s σ H Q I h => ?_⟩
  refine wpAny_Call_method m.base m.few m.line PySem.F.plainAttrs_dict PySem.F.slot_dict_get PySem.F.type_dict_get (thn (ho.run pins s σ H _ I h) fun u s1 ⟨x, H1, I1, rx, a, l1, ex, d, q1⟩ => ?_)
  subst ex
  obtain rfl : u = Value.ref a := rx
  obtain ⟨t1, t2⟩ := d.noDict I1
  refine ⟨t1, t2, ?_⟩
  rw [m.trees]
  refine Calls.callWith_builtin rfl (Calls.evalArgs_plain (Calls.spliced_cons (thn (he.run pins s1 σ H1 _ I1 q1) fun iv s2 ⟨y, H2, I2, ry, q2⟩ =>
    Calls.spliced_cons (thn (hf.run pins s2 σ H2 _ I2 q2) fun fv s3 ⟨z, H3, I3, rz, l, k, g, hk, hd, q3⟩ => Calls.spliced_nil ?_))))
  obtain ⟨hs, xs, hp, hD⟩ := g.of I3
  have hat := relN_at k hp
  refine call_get2 (by show X.A.units + 1 + 8 < cLine; omega) (hk.at_ I3 hd ry) hs hD ?_
  refine ⟨(atL l k).getD z, H3, I3.tok _, ?_, q3⟩
  cases hv : atL l k with
  | none => cases hw : atV xs k with
    | none => exact rz
    | some _ => rw [hv, hw] at hat; exact (show False from hat).elim
  | some _ => cases hw : atV xs k with
    | none => rw [hv, hw] at hat; exact (show False from hat).elim
    | some _ => rw [hv, hw] at hat; exact hat
/-- d[k] as an expression -/
theorem pe_ixDk (hu : X.A.units + 64 < cLine) (ho : PE X o td) (hi : PE X i ty) (hs : NoSl i) : PE X (.Subscript o i pos) (tOp (rGetDk X.K X.w) td ty) := by
  refine ⟨fun pins s σ H Q I h => ?_⟩
  refine subD_of PySem.F.slot_dict_getitem.lookup hs (thn (ho.run pins s σ H _ I h) fun u s1 ⟨x, H1, I1, rx, q1⟩ => thn (hi.run pins s1 σ H1 _ I1 q1) fun iv s2 ⟨y, H2, I2, ry, q2⟩ => ?_)
  obtain ⟨a, l, k, v, ex, D, r⟩ := q2
  subst ex
  obtain rfl : u = Value.ref a := rx
  exact ⟨(D.noDict I2).1, or_getDk hu pins s2 σ H2 (.ref a) y _ iv Q I2 rfl ry ⟨a, l, k, v, rfl, D, r⟩⟩
/-- d.get(k) -/
def tGet1Dk (K : PySem.W.Frag) (w : World) (td ty : TE) : TE := fun σ H Q => td σ H fun x H1 => ∃ a l, x = .ref a ∧ IsDk K w H1 a l ∧ ty σ H1 fun y H2 => ∃ (l : List EnV) (k : NestedKey), IsDk K w H2 a l ∧ KV K H2 k y ∧ k.depth ≤ 8 ∧ Q ((atL l k).getD .non) H2
theorem pe_get1Dk (hu : X.A.units + 64 < cLine) (ho : PE X o td) (he : PE X e ty) (m : M1 X o "get" apos e cpos) : PE X (.Call (.Attribute o "get" apos) [e] [] cpos) (tGet1Dk X.K X.w td ty) := by
  refine ⟨fun pins s σ H Q I h => ?_⟩
  refine wpAny_Call_method m.base m.few m.line PySem.F.plainAttrs_dict PySem.F.slot_dict_get PySem.F.type_dict_get (thn (ho.run pins s σ H _ I h) fun u s1 ⟨x, H1, I1, rx, a, l1, ex, d, q1⟩ => ?_)
  subst ex
  obtain rfl : u = Value.ref a := rx
  obtain ⟨t1, t2⟩ := d.noDict I1
  refine ⟨t1, t2, ?_⟩
  rw [m.trees]
  refine Calls.callWith_builtin rfl (Calls.evalArgs_plain (Calls.spliced_cons (thn (he.run pins s1 σ H1 _ I1 q1) fun iv s2 ⟨y, H2, I2, ry, l, k, g, hk, hd, q3⟩ => Calls.spliced_nil ?_)))
  obtain ⟨hs, xs, hp, hD⟩ := g.of I2
  have hat := relN_at k hp
  refine call_get1 (by show X.A.units + 1 + 8 < cLine; omega) (hk.at_ I2 hd ry) hs hD ?_
  refine ⟨(atL l k).getD .non, H2, I2.tok _, ?_, q3⟩
  cases hv : atL l k with
  | none => cases hw : atV xs k with
    | none => exact (rfl : Value.none = Value.none)
    | some _ => rw [hv, hw] at hat; exact (show False from hat).elim
  | some _ => cases hw : atV xs k with
    | none => rw [hv, hw] at hat; exact (show False from hat).elim
    | some _ => rw [hv, hw] at hat; exact hat
end
end Dk
/-! data and a store of things that change; what a program does, said of these alone -/
namespace Pw
open PySem PySem.Spec PyProof.Rows L2 Evl Lw
inductive D where
  | non | bl (b : Bool) | int (i : Int) | str (s : Str) | ty (n : String)
  | tup (ds : List D) | lst (ds : List D) | scr (ds : List D) | obj (c : Nat) (ks : List Str) (ds : List D) | ref (n : Nat)
inductive SO where
  | lst (ds : List D) | obj (c : Nat) (ks : List Str) (ds : List D) | dct (kvs : List (D × D))
/-- where the classes stand, and the world (what texts hash to) -/
structure Cl where
  w : World
  f : Nat → Addr
instance : CoeFun Cl (fun _ => Nat → Addr) := ⟨Cl.f⟩
mutual
/-- the data as a key of a dict -/
def kOf : D → Option NestedKey
  | .non => some .none
  | .bl b => some (.num (if b = true then 1 else 0))
  | .int i => some (.num i)
  | .str s => some (.text s)
  | .tup ds => (kAll ds).map .tup
  | .lst _ | .scr _ | .obj _ _ _ | .ref _ | .ty _ => none
def kAll : List D → Option (List NestedKey)
  | [] => some []
  | d :: ds => (kOf d).bind fun k => (kAll ds).map fun ks => k :: ks
end
abbrev Sto := List SO
abbrev Env := List (Option D)
/-- the heap without the addresses that may still change -/
noncomputable def cut (N : Addr → Prop) (H : Hp) : Hp := fun a => @ite _ (N a) (Classical.propDecidable _) none (H a)
section
variable {N N' : Addr → Prop} {H H' : Hp}
theorem cut_yes {a : Addr} (h : N a) : cut N H a = none := by unfold cut; simp [h]
theorem cut_no {a : Addr} (h : ¬ N a) : cut N H a = H a := by unfold cut; simp [h]
theorem cut_sub : Ex (cut N H) H := fun a o h => by
  by_cases n : N a
  · rw [cut_yes n] at h
    cases h
  · rw [cut_no n] at h
    exact h
/-- what stands beside N stands in H' beside N' -/
theorem cut_ex (h : ∀ a o, ¬ N a → H a = some o → ¬ N' a ∧ H' a = some o) : Ex (cut N H) (cut N' H') := fun a o q => by
  by_cases n : N a
  · rw [cut_yes n] at q
    cases q
  · rw [cut_no n] at q
    obtain ⟨h1, h2⟩ := h a o n q
    rw [cut_no h1]
    exact h2
theorem cut_ex' (e : Ex (cut N H) (cut N' H')) {a : Addr} {o : HO} (n : ¬ N a) (h : H a = some o) : ¬ N' a ∧ H' a = some o := by
  have q := e a o (by rw [cut_no n]; exact h)
  by_cases n' : N' a
  · rw [cut_yes n'] at q
    cases q
  · rw [cut_no n'] at q
    exact ⟨n', q⟩
end
def NM (M : Addr → Prop) (ρ : List Addr) : Addr → Prop := fun a => M a ∨ a ∈ ρ
mutual
inductive RelD (K : PySem.W.Frag) (cl : Cl) (ρ : List Addr) (H : Hp) : D → V → Prop
  | non : RelD K cl ρ H .non .non
  | bl (b : Bool) : RelD K cl ρ H (.bl b) (.bl b)
  | int (i : Int) : RelD K cl ρ H (.int i) (.int i)
  | str (s : Str) : RelD K cl ρ H (.str s) (.str s)
  | ty (n : String) : RelD K cl ρ H (.ty n) (.ty n)
  | tup {a : Addr} {vs : List V} {ds : List D} : SqT K H a vs → RelAll K cl ρ H ds vs → RelD K cl ρ H (.tup ds) (.ref a)
  | lst {a : Addr} {vs : List V} {ds : List D} : H a = some (.lst vs) → RelAll K cl ρ H ds vs → RelD K cl ρ H (.lst ds) (.ref a)
  | scr {a : Addr} {vs : List V} {ds : List D} : SqL K H a vs → RelAll K cl ρ H ds vs → RelD K cl ρ H (.scr ds) (.ref a)
  | obj {a dx : Addr} {c : Nat} {fs : List (Str × V)} {ks : List Str} {ds : List D} : H a = some (.ins (cl c) dx fs) → fs.map (·.1) = ks → RelAll K cl ρ H ds (fs.map (·.2)) → RelD K cl ρ H (.obj c ks ds) (.ref a)
  | ref {n : Nat} {a : Addr} : ρ[n]? = some a → RelD K cl ρ H (.ref n) (.ref a)
inductive RelAll (K : PySem.W.Frag) (cl : Cl) (ρ : List Addr) (H : Hp) : List D → List V → Prop
  | nil : RelAll K cl ρ H [] []
  | cons {d : D} {ds : List D} {v : V} {vs : List V} : RelD K cl ρ H d v → RelAll K cl ρ H ds vs → RelAll K cl ρ H (d :: ds) (v :: vs)
end
section
variable {K : PySem.W.Frag} {cl : Cl} {ρ ρ' : List Addr} {H H' : Hp}
theorem pre_get {α : Type} {ρ ρ' : List α} (p : ρ <+: ρ') {n : Nat} {a : α} (h : ρ[n]? = some a) : ρ'[n]? = some a := by
  obtain ⟨t, rfl⟩ := p
  rw [List.getElem?_append_left (List.getElem?_eq_some_iff.mp h).1]
  exact h
mutual
theorem RelD.up (p : ρ <+: ρ') (e : Ex H H') : ∀ (d : D) (v : V), RelD K cl ρ H d v → RelD K cl ρ' H' d v
  | .non, _, h => by cases h; exact .non
  | .bl b, _, h => by cases h; exact .bl b
  | .int i, _, h => by cases h; exact .int i
  | .str s, _, h => by cases h; exact .str s
  | .ty n, _, h => by cases h; exact .ty n
  | .tup ds, _, h => by
    cases h with
    | tup hs ha => exact .tup (ex_t e hs) (RelAll.up p e ds _ ha)
  | .lst ds, _, h => by
    cases h with
    | lst hs ha => exact .lst (e _ _ hs) (RelAll.up p e ds _ ha)
  | .scr ds, _, h => by
    cases h with
    | scr hs ha => exact .scr (ex_l e hs) (RelAll.up p e ds _ ha)
  | .obj c ks ds, _, h => by
    cases h with
    | obj hs hk ha => exact .obj (e _ _ hs) hk (RelAll.up p e ds _ ha)
  | .ref n, _, h => by
    cases h with
    | ref hn => exact .ref (pre_get p hn)
theorem RelAll.up (p : ρ <+: ρ') (e : Ex H H') : ∀ (ds : List D) (vs : List V), RelAll K cl ρ H ds vs → RelAll K cl ρ' H' ds vs
  | [], _, h => by cases h; exact .nil
  | d :: ds, _, h => by
    cases h with
    | cons h1 h2 => exact .cons (RelD.up p e d _ h1) (RelAll.up p e ds _ h2)
end
theorem RelAll.len : ∀ {ds : List D} {vs : List V}, RelAll K cl ρ H ds vs → vs.length = ds.length
  | [], _, h => by cases h; rfl
  | d :: ds, _, h => by
    cases h with
    | cons h1 h2 => rw [List.length_cons, List.length_cons, RelAll.len h2]
theorem RelAll.get : ∀ {ds : List D} {vs : List V} {n : Nat} {d : D}, RelAll K cl ρ H ds vs → ds[n]? = some d → ∃ v, vs[n]? = some v ∧ RelD K cl ρ H d v
  | [], _, _, _, _, h => by simp at h
  | e :: ds, _, n, d, h, hd => by
    cases h with
    | cons h1 h2 =>
      cases n with
      | zero =>
        rw [List.getElem?_cons_zero] at hd ⊢
        cases hd
        exact ⟨_, rfl, h1⟩
      | succ n =>
        rw [List.getElem?_cons_succ] at hd ⊢
        exact RelAll.get h2 hd
theorem RelAll.back : ∀ {ds : List D} {vs : List V} {n : Nat} {v : V}, RelAll K cl ρ H ds vs → vs[n]? = some v → ∃ d, ds[n]? = some d ∧ RelD K cl ρ H d v
  | [], _, _, _, h, hv => by cases h; simp at hv
  | e :: ds, _, n, v, h, hv => by
    cases h with
    | cons h1 h2 =>
      cases n with
      | zero =>
        rw [List.getElem?_cons_zero] at hv ⊢
        cases hv
        exact ⟨_, rfl, h1⟩
      | succ n =>
        rw [List.getElem?_cons_succ] at hv ⊢
        exact RelAll.back h2 hv
theorem RelAll.app : ∀ {ds es : List D} {vs ws : List V}, RelAll K cl ρ H ds vs → RelAll K cl ρ H es ws → RelAll K cl ρ H (ds ++ es) (vs ++ ws)
  | [], _, _, _, h, k => by cases h; exact k
  | d :: ds, _, _, _, h, k => by
    cases h with
    | cons h1 h2 => exact .cons h1 (RelAll.app h2 k)
theorem RelAll.snoc {ds : List D} {vs : List V} {d : D} {y : V} (h : RelAll K cl ρ H ds vs) (k : RelD K cl ρ H d y) : RelAll K cl ρ H (ds ++ [d]) (vs ++ [y]) := h.app (.cons k .nil)
theorem RelAll.dropN : ∀ {ds : List D} {vs : List V} (n : Nat), RelAll K cl ρ H ds vs → RelAll K cl ρ H (ds.drop n) (vs.drop n)
  | _, _, 0, h => h
  | [], _, n + 1, h => by cases h; exact .nil
  | d :: ds, _, n + 1, h => by
    cases h with
    | cons h1 h2 => exact RelAll.dropN n h2
theorem RelAll.takeN : ∀ {ds : List D} {vs : List V} (n : Nat), RelAll K cl ρ H ds vs → RelAll K cl ρ H (ds.take n) (vs.take n)
  | _, _, 0, h => .nil
  | [], _, n + 1, h => by cases h; exact .nil
  | d :: ds, _, n + 1, h => by
    cases h with
    | cons h1 h2 => exact .cons h1 (RelAll.takeN n h2)
theorem RelAll.setN {e : D} {w : V} (k : RelD K cl ρ H e w) : ∀ {ds : List D} {vs : List V} (n : Nat), RelAll K cl ρ H ds vs → RelAll K cl ρ H (ds.set n e) (vs.set n w)
  | [], _, n, h => by cases h; exact .nil
  | d :: ds, _, 0, h => by
    cases h with
    | cons h1 h2 => exact .cons k h2
  | d :: ds, _, n + 1, h => by
    cases h with
    | cons h1 h2 => exact .cons h1 (RelAll.setN k n h2)
end
mutual
theorem RelD.kv {K : PySem.W.Frag} {cl : Cl} {ρ : List Addr} {H : Hp} : ∀ (d : D) (v : V) (k : NestedKey), RelD K cl ρ H d v → kOf d = some k → Dk.KV K H k v
  | .non, _, _, h, e => by cases h; cases e; exact .none
  | .bl b, _, _, h, e => by cases h; cases e; exact .bool b
  | .int i, _, _, h, e => by cases h; cases e; exact .int i
  | .str s, _, _, h, e => by cases h; cases e; exact .text s
  | .tup ds, _, _, h, e => by
    cases h with
    | tup hs ha =>
      unfold kOf at e
      obtain ⟨ks, hk, rfl⟩ := Option.map_eq_some_iff.mp e
      exact .tup hs (RelAll.kv ds _ ks ha hk)
  | .lst _, _, _, _, e => by unfold kOf at e; cases e
  | .scr _, _, _, _, e => by unfold kOf at e; cases e
  | .obj _ _ _, _, _, _, e => by unfold kOf at e; cases e
  | .ref _, _, _, _, e => by unfold kOf at e; cases e
  | .ty _, _, _, _, e => by unfold kOf at e; cases e
theorem RelAll.kv {K : PySem.W.Frag} {cl : Cl} {ρ : List Addr} {H : Hp} : ∀ (ds : List D) (vs : List V) (ks : List NestedKey), RelAll K cl ρ H ds vs → kAll ds = some ks → Dk.KVs K H ks vs
  | [], _, _, h, e => by
    cases h
    unfold kAll at e
    cases e
    exact .nil
  | d :: ds, _, _, h, e => by
    cases h with
    | cons h1 h2 =>
      unfold kAll at e
      obtain ⟨k, hk, e⟩ := Option.bind_eq_some_iff.mp e
      obtain ⟨ks, hks, rfl⟩ := Option.map_eq_some_iff.mp e
      exact .cons (RelD.kv d _ k h1 hk) (RelAll.kv ds _ ks h2 hks)
end
/-- an entry of a dict -/
def RelKv (K : PySem.W.Frag) (cl : Cl) (ρ : List Addr) (H : Hp) (p : D × D) (x : Dk.EnV) : Prop := kOf p.1 = some x.1 ∧ x.1.depth ≤ 8 ∧ RelD K cl ρ H p.1 x.2.1 ∧ RelD K cl ρ H p.2 x.2.2
inductive RelSO (K : PySem.W.Frag) (cl : Cl) (ρ : List Addr) (H : Hp) (a : Addr) : SO → HO → Prop
  | lst {ds : List D} {vs : List V} : RelAll K cl ρ H ds vs → RelSO K cl ρ H a (.lst ds) (.lst vs)
  | obj {c : Nat} {dx : Addr} {fs : List (Str × V)} {ks : List Str} {ds : List D} : fs.map (·.1) = ks → RelAll K cl ρ H ds (fs.map (·.2)) → RelSO K cl ρ H a (.obj c ks ds) (.ins (cl c) dx fs)
  | dct {kvs : List (D × D)} {l : List Dk.EnV} : Paired (RelKv K cl ρ H) kvs l → (l.map (·.1)).Nodup → RelSO K cl ρ H a (.dct kvs) (Dk.DHO cl.w a l)
theorem RelSO.up {K : PySem.W.Frag} {cl : Cl} {ρ ρ' : List Addr} {H H' : Hp} {a : Addr} {o : SO} {u : HO} (p : ρ <+: ρ') (e : Ex H H') (h : RelSO K cl ρ H a o u) : RelSO K cl ρ' H' a o u := by
  cases h with
  | lst h => exact .lst (h.up p e _ _)
  | obj h1 h2 => exact .obj h1 (h2.up p e _ _)
  | dct h1 h2 => exact .dct (L2.Paired.mapP h1 fun x y h => ⟨h.1, h.2.1, RelD.up p e _ _ h.2.2.1, RelD.up p e _ _ h.2.2.2⟩) h2
/-- the store stands in the heap; M: addresses that are others' to change -/
structure G (K : PySem.W.Frag) (cl : Cl) (M : Addr → Prop) (ρ : List Addr) (S : Sto) (H : Hp) : Prop where
  live : ∀ a, M a → H a ≠ none
  dis : ∀ a ∈ ρ, ¬ M a
  nd : ρ.Nodup
  len : ρ.length = S.length
  sto : ∀ (n : Nat) o a, S[n]? = some o → ρ[n]? = some a → ∃ u, H a = some u ∧ RelSO K cl ρ (cut (NM M ρ) H) a o u
structure Stp (M : Addr → Prop) (ρ : List Addr) (H : Hp) (ρ' : List Addr) (H' : Hp) : Prop where
  pre : ρ <+: ρ'
  ex : Ex (cut (NM M ρ) H) (cut (NM M ρ') H')
  keep : ∀ a, M a → H' a = H a
theorem Stp.refl {M : Addr → Prop} {ρ : List Addr} {H : Hp} : Stp M ρ H ρ H := ⟨List.prefix_refl _, Ex.refl _, fun _ _ => rfl⟩
theorem Stp.trans {M : Addr → Prop} {ρ ρ1 ρ2 : List Addr} {H H1 H2 : Hp} (a : Stp M ρ H ρ1 H1) (b : Stp M ρ1 H1 ρ2 H2) : Stp M ρ H ρ2 H2 :=
  ⟨a.pre.trans b.pre, a.ex.trans b.ex, fun x m => (b.keep x m).trans (a.keep x m)⟩
/-- slots -/
structure RE (K : PySem.W.Frag) (cl : Cl) (ρ : List Addr) (H : Hp) (env : Env) (σ : L2.St) : Prop where
  len : env.length = σ.length
  at' : ∀ (i : Nat) d, env[i]? = some (some d) → ∃ v, σ[i]? = some (some v) ∧ RelD K cl ρ H d v
section
variable {K : PySem.W.Frag} {cl : Cl} {M : Addr → Prop} {ρ ρ' : List Addr} {S : Sto} {H H' : Hp} {env : Env} {σ : L2.St}
theorem RE.up (r : RE K cl ρ (cut (NM M ρ) H) env σ) (s : Stp M ρ H ρ' H') : RE K cl ρ' (cut (NM M ρ') H') env σ :=
  ⟨r.len, fun i d h => by
    obtain ⟨v, h1, h2⟩ := r.at' i d h
    exact ⟨v, h1, h2.up s.pre s.ex d v⟩⟩
theorem RE.set {H : Hp} (r : RE K cl ρ H env σ) {d : D} {v : V} (i : Nat) (h : RelD K cl ρ H d v) : RE K cl ρ H (env.set i (some d)) (σ.set i (some v)) :=
  ⟨by rw [List.length_set, List.length_set, r.len], fun j e he => by
    by_cases hij : i = j
    · subst hij
      have hl : i < env.length := by
        have := (List.getElem?_eq_some_iff.mp he).1
        rw [List.length_set] at this
        exact this
      rw [List.getElem?_set_self hl] at he
      cases he
      exact ⟨v, List.getElem?_set_self (by rw [← r.len]; exact hl), h⟩
    · rw [List.getElem?_set_ne hij] at he ⊢
      exact r.at' j e he⟩
theorem RE.none {H : Hp} (r : RE K cl ρ H env σ) (i : Nat) : RE K cl ρ H (env.set i .none) (σ.set i .none) :=
  ⟨by rw [List.length_set, List.length_set, r.len], fun j e he => by
    by_cases hij : i = j
    · subst hij
      have hl : i < env.length := by
        have := (List.getElem?_eq_some_iff.mp he).1
        rw [List.length_set] at this
        exact this
      rw [List.getElem?_set_self hl] at he
      cases he
    · rw [List.getElem?_set_ne hij] at he ⊢
      exact r.at' j e he⟩
def wipeE (env : Env) : List Nat → Env
  | [] => env
  | v :: vs => (wipeE env vs).set v .none
theorem RE.wipe {H : Hp} (r : RE K cl ρ H env σ) : ∀ ws : List Nat, RE K cl ρ H (wipeE env ws) (wipe σ ws)
  | [] => r
  | v :: vs => (RE.wipe r vs).none v
theorem up_in {α : Type} {a : α} {l m : List α} (p : l <+: m) (h : a ∈ l) : a ∈ m := p.subset h
theorem G.liveR (g : G K cl M ρ S H) {a : Addr} (h : a ∈ ρ) : H a ≠ none := by
  obtain ⟨n, hn⟩ := List.mem_iff_getElem?.mp h
  have hl : n < S.length := by
    rw [← g.len]
    exact (List.getElem?_eq_some_iff.mp hn).1
  obtain ⟨u, hu, _⟩ := g.sto n _ a (List.getElem?_eq_getElem hl) hn
  rw [hu]
  intro z
  cases z
theorem G.off (g : G K cl M ρ S H) {p : Addr} (h : H p = none) : ¬ NM M ρ p := fun n => n.elim (fun m => g.live p m h) (fun m => g.liveR m h)
/-- a new thing that no one will change -/
theorem G.new (g : G K cl M ρ S H) {p : Addr} (o : HO) (h : H p = none) : G K cl M ρ S (upd H p o) ∧ Stp M ρ H ρ (upd H p o) ∧ cut (NM M ρ) (upd H p o) p = some o := by
  have hp := g.off h
  have e : Ex (cut (NM M ρ) H) (cut (NM M ρ) (upd H p o)) := cut_ex fun a u n q => ⟨n, by rw [upd_ne (ne_of_none q h)]; exact q⟩
  have k : ∀ a, NM M ρ a → (upd H p o) a = H a := fun a n => upd_ne fun z => hp (z ▸ n)
  refine ⟨⟨fun a m => by rw [k a (.inl m)]; exact g.live a m, g.dis, g.nd, g.len, fun n so a hs ha => ?_⟩, ⟨List.prefix_refl _, e, fun a m => k a (.inl m)⟩, by rw [cut_no hp, upd_same]⟩
  obtain ⟨u, hu, r⟩ := g.sto n so a hs ha
  exact ⟨u, by rw [k a (.inr (List.mem_of_getElem? ha))]; exact hu, r.up (List.prefix_refl _) e⟩
/-- a new thing of the store -/
theorem G.alloc (g : G K cl M ρ S H) {p : Addr} {o : HO} {so : SO} (h : H p = none) (r : RelSO K cl ρ (cut (NM M ρ) H) p so o) : G K cl M (ρ ++ [p]) (S ++ [so]) (upd H p o) ∧ Stp M ρ H (ρ ++ [p]) (upd H p o) := by
  have hp := g.off h
  have hpre : ρ <+: ρ ++ [p] := List.prefix_append _ _
  have e : Ex (cut (NM M ρ) H) (cut (NM M (ρ ++ [p])) (upd H p o)) := cut_ex fun a u n q => by
    have ne : a ≠ p := ne_of_none q h
    refine ⟨fun z => ?_, by rw [upd_ne ne]; exact q⟩
    rcases z with z | z
    · exact n (.inl z)
    · rcases List.mem_append.mp z with z | z
      · exact n (.inr z)
      · exact ne (List.mem_singleton.mp z)
  have k : ∀ a, NM M ρ a → (upd H p o) a = H a := fun a n => upd_ne fun z => hp (z ▸ n)
  refine ⟨⟨fun a m => by rw [k a (.inl m)]; exact g.live a m, fun a ha => ?_, ?_, by rw [List.length_append, List.length_append, g.len]; rfl, fun n s a hs ha => ?_⟩, ⟨hpre, e, fun a m => k a (.inl m)⟩⟩
  · rcases List.mem_append.mp ha with ha | ha
    · exact g.dis a ha
    · rw [List.mem_singleton.mp ha]
      exact fun m => hp (.inl m)
  · refine List.nodup_append.mpr ⟨g.nd, by simp, fun a ha b hb z => ?_⟩
    rw [List.mem_singleton.mp hb] at z
    exact hp (.inr (z ▸ ha))
  · by_cases hn : n < S.length
    · rw [List.getElem?_append_left hn] at hs
      rw [List.getElem?_append_left (by rw [g.len]; exact hn)] at ha
      obtain ⟨u, hu, r⟩ := g.sto n s a hs ha
      exact ⟨u, by rw [k a (.inr (List.mem_of_getElem? ha))]; exact hu, r.up hpre e⟩
    · have hl := (List.getElem?_eq_some_iff.mp hs).1
      rw [List.length_append] at hl
      have hn' : n = S.length := by
        have : [so].length = 1 := rfl
        omega
      subst hn'
      rw [List.getElem?_append_right (Nat.le_refl _), Nat.sub_self] at hs
      rw [List.getElem?_append_right (by rw [g.len]; exact Nat.le_refl _), g.len, Nat.sub_self] at ha
      cases hs
      cases ha
      exact ⟨o, upd_same, r.up hpre e⟩
/-- a thing of the store changes -/
theorem G.put (g : G K cl M ρ S H) {n : Nat} {a : Addr} {o : HO} {so : SO} (ha : ρ[n]? = some a) (r : RelSO K cl ρ (cut (NM M ρ) H) a so o) : G K cl M ρ (S.set n so) (upd H a o) ∧ Stp M ρ H ρ (upd H a o) := by
  have hm : a ∈ ρ := List.mem_of_getElem? ha
  have e : Ex (cut (NM M ρ) H) (cut (NM M ρ) (upd H a o)) := cut_ex fun b u nb q => ⟨nb, by rw [upd_ne fun z => nb (.inr (by rw [z]; exact hm))]; exact q⟩
  have k : ∀ b, M b → (upd H a o) b = H b := fun b m => upd_ne fun z => g.dis a hm (z ▸ m)
  refine ⟨⟨fun b m => by rw [k b m]; exact g.live b m, g.dis, g.nd, by rw [List.length_set, g.len], fun j s b hs hb => ?_⟩, ⟨List.prefix_refl _, e, k⟩⟩
  by_cases hj : n = j
  · subst hj
    rw [ha] at hb
    cases hb
    have hl : n < S.length := by
      rw [← g.len]
      exact (List.getElem?_eq_some_iff.mp ha).1
    rw [List.getElem?_set_self hl] at hs
    cases hs
    exact ⟨o, upd_same, r.up (List.prefix_refl _) e⟩
  · rw [List.getElem?_set_ne hj] at hs
    obtain ⟨u, hu, r⟩ := g.sto j s b hs hb
    have ne : b ≠ a := fun z => by
      rw [z] at hb
      obtain ⟨hl1, e1⟩ := List.getElem?_eq_some_iff.mp hb
      obtain ⟨hl2, e2⟩ := List.getElem?_eq_some_iff.mp ha
      exact hj ((List.getElem_inj g.nd).mp (e2.trans e1.symm))
    exact ⟨u, by rw [upd_ne ne]; exact hu, r.up (List.prefix_refl _) e⟩
end
end Pw
/-! values that are data (tuples and lists that no one changes), read by what they hold -/
namespace Lw
open PySem PySem.Spec PyProof.Rows L2 Evl
/-- the heap without the addresses that may still change -/
noncomputable def cutN (N : Addr → Prop) (H : Hp) : Hp := fun a => @ite _ (N a) (Classical.propDecidable _) none (H a)
def Live (N : Addr → Prop) (H : Hp) : Prop := ∀ a, N a → H a ≠ none
section
variable {N : Addr → Prop} {H H' H1 : Hp}
theorem cutN_yes {a : Addr} (h : N a) : cutN N H a = none := by unfold cutN; simp [h]
theorem cutN_no {a : Addr} (h : ¬ N a) : cutN N H a = H a := by unfold cutN; simp [h]
theorem cutN_sub : Ex (cutN N H) H := fun a o h => by
  by_cases n : N a
  · rw [cutN_yes n] at h
    cases h
  · rw [cutN_no n] at h
    exact h
theorem cutN_ex (e : Ex H H') : Ex (cutN N H) (cutN N H') := fun a o h => by
  by_cases n : N a
  · rw [cutN_yes n] at h
    cases h
  · rw [cutN_no n] at h ⊢
    exact e a o h
theorem Live.ex (L : Live N H) (e : Ex H H') : Live N H' := fun a n h => by
  cases q : H a with
  | none => exact L a n q
  | some o => rw [e a o q] at h; cases h
theorem Live.off (L : Live N H) {a : Addr} (h : H a = none) : ¬ N a := fun n => L a n h
/-- one address more -/
def plusN (N : Addr → Prop) (p : Addr) : Addr → Prop := fun a => N a ∨ a = p
theorem Live.plus {p : Addr} {o : HO} (L : Live N H) (e : Ex H H') (h : H' p = some o) : Live (plusN N p) H' := fun a n => by
  rcases n with n | n
  · exact L.ex e a n
  · rw [n, h]
    intro z
    cases z
theorem cutN_plus {p : Addr} (hp : H p = none) (e : Ex H H') : Ex (cutN N H) (cutN (plusN N p) H') := fun a o h => by
  by_cases n : N a
  · rw [cutN_yes n] at h
    cases h
  · rw [cutN_no n] at h
    have ne : a ≠ p := fun z => by rw [z, hp] at h; cases h
    rw [cutN_no (fun z => z.elim n ne)]
    exact e a o h
/-- what does not rest on p stands when p changes -/
theorem cutN_set {p : Addr} {o : HO} : Ex (cutN (plusN N p) H) (cutN N (upd H p o)) := fun a u h => by
  by_cases n : plusN N p a
  · rw [cutN_yes n] at h
    cases h
  · rw [cutN_no n] at h
    rw [cutN_no (fun z => n (.inl z)), upd_ne (fun z => n (.inr z))]
    exact h
theorem cutN_keep {p : Addr} {o : HO} : Ex (cutN (plusN N p) H) (cutN (plusN N p) (upd H p o)) := fun a u h => by
  by_cases n : plusN N p a
  · rw [cutN_yes n] at h
    cases h
  · rw [cutN_no n] at h ⊢
    rw [upd_ne (fun z => n (.inr z))]
    exact h
end
end Lw
namespace L2
open PySem PySem.Spec PyProof.Rows Evl
mutual
theorem Dp.ex {K : PySem.W.Frag} {H H' : Hp} (e : Ex H H') : ∀ (d : PyData) (v : V), Dp K H v d → Dp K H' v d
  | .none, _, h => by
    cases h
    exact .non
  | .bool b, _, h => by
    cases h
    exact .bl b
  | .int i, _, h => by
    cases h
    exact .int i
  | .str x, _, h => by
    cases h
    exact .str x
  | .list ds, _, h => by
    cases h with
    | lst hs ha => exact .lst (ex_l e hs) (DpAll.ex e ds _ ha)
  | .tuple ds, _, h => by
    cases h with
    | tup hs ha => exact .tup (ex_t e hs) (DpAll.ex e ds _ ha)
  | .dict _, _, h => by cases h
theorem DpAll.ex {K : PySem.W.Frag} {H H' : Hp} (e : Ex H H') : ∀ (ds : List PyData) (vs : List V), DpAll K H vs ds → DpAll K H' vs ds
  | [], _, h => by
    cases h
    exact .nil
  | d :: ds, _, h => by
    cases h with
    | cons h1 h2 => exact .cons (Dp.ex e d _ h1) (DpAll.ex e ds _ h2)
end
section
variable {K : PySem.W.Frag} {H : Hp} {ds es : List PyData} {vs : List V} {d : PyData}
theorem DpAll.len : ∀ {ds : List PyData} {vs : List V}, DpAll K H vs ds → vs.length = ds.length
  | [], _, h => by cases h; rfl
  | d :: ds, _, h => by
    cases h with
    | cons h1 h2 => rw [List.length_cons, List.length_cons, DpAll.len h2]
theorem DpAll.get : ∀ {ds : List PyData} {vs : List V} {n : Nat} {d : PyData}, DpAll K H vs ds → ds[n]? = some d → ∃ v, vs[n]? = some v ∧ Dp K H v d
  | [], _, _, _, _, h => by simp at h
  | e :: ds, _, n, d, h, hd => by
    cases h with
    | cons h1 h2 =>
      cases n with
      | zero =>
        rw [List.getElem?_cons_zero] at hd ⊢
        cases hd
        exact ⟨_, rfl, h1⟩
      | succ n =>
        rw [List.getElem?_cons_succ] at hd ⊢
        exact DpAll.get h2 hd
theorem DpAll.back : ∀ {ds : List PyData} {vs : List V} {n : Nat} {v : V}, DpAll K H vs ds → vs[n]? = some v → ∃ d, ds[n]? = some d ∧ Dp K H v d
  | [], _, _, _, h, hv => by cases h; simp at hv
  | e :: ds, _, n, v, h, hv => by
    cases h with
    | cons h1 h2 =>
      cases n with
      | zero =>
        rw [List.getElem?_cons_zero] at hv ⊢
        cases hv
        exact ⟨_, rfl, h1⟩
      | succ n =>
        rw [List.getElem?_cons_succ] at hv ⊢
        exact DpAll.back h2 hv
theorem DpAll.app : ∀ {ds es : List PyData} {vs ws : List V}, DpAll K H vs ds → DpAll K H ws es → DpAll K H (vs ++ ws) (ds ++ es)
  | [], _, _, _, h, k => by cases h; exact k
  | d :: ds, _, _, _, h, k => by
    cases h with
    | cons h1 h2 => exact .cons h1 (DpAll.app h2 k)
theorem DpAll.snoc {y : V} (h : DpAll K H vs ds) (k : Dp K H y d) : DpAll K H (vs ++ [y]) (ds ++ [d]) := h.app (.cons k .nil)
end
end L2
namespace Lw
open PySem PySem.Spec PyProof.Rows L2 Evl
section
variable {K : PySem.W.Frag} {N : Addr → Prop} {σ : L2.St} {H H' : Hp} {te ta tb : TE} {tr : TA} {tt : TT} {D : Ends} {tz tu : TS} {v : V} {d d' : PyData} {ds es : List PyData} {vs : List V} {g : TG}
/-- what an expression gives is the data d -/
def EvD (K : PySem.W.Frag) (N : Addr → Prop) (te : TE) (σ : L2.St) (H : Hp) (d : PyData) : Prop := Live N H → ∀ H1, Ex H H1 → ∀ Q : VK, (∀ v H2, Ex H1 H2 → Dp K (cutN N H2) v d → Q v H2) → te σ H1 Q
def EvDA (K : PySem.W.Frag) (N : Addr → Prop) (ta : TA) (σ : L2.St) (H : Hp) (ds : List PyData) : Prop := Live N H → ∀ H1, Ex H H1 → ∀ Q : List V → Hp → Prop, (∀ vs H2, Ex H1 H2 → DpAll K (cutN N H2) vs ds → Q vs H2) → ta σ H1 Q
theorem EvD.mono (e : Ex H H') (L : Live N H) (h : EvD K N te σ H d) : EvD K N te σ H' d := fun _ H1 a Q q => h L H1 (e.trans a) Q q
theorem EvD.is (h : EvD K N te σ H d) (e : d = d') : EvD K N te σ H d' := e ▸ h
theorem ed_v (h : Ev te σ H v) (hd : Dp K (cutN N H) v d) : EvD K N te σ H d := fun _ H1 e Q q => h H1 e _ fun H2 e2 => q v H2 e2 (Dp.ex (cutN_ex (e.trans e2)) d v hd)
theorem ed_var {i : Nat} (h : σ[i]? = some (some v)) (hd : Dp K (cutN N H) v d) : EvD K N (tVar i) σ H d := ed_v (ev_var h) hd
theorem ed_int {i : Int} : EvD K N (tC (.int i)) σ H (.int i) := ed_v ev_c (.int i)
theorem ed_str {x : Str} : EvD K N (tC (.str x)) σ H (.str x) := ed_v ev_c (.str x)
theorem ed_bl {b : Bool} : EvD K N (tC (.bl b)) σ H (.bool b) := ed_v ev_c (.bl b)
theorem ed_non : EvD K N (tC .non) σ H .none := ed_v ev_c .non
theorem ed_ofI {i : Int} (h : Ev te σ H (.int i)) : EvD K N te σ H (.int i) := ed_v h (.int i)
theorem ev_ofB {b : Bool} (L : Live N H) (h : EvD K N te σ H (.bool b)) : Ev te σ H (.bl b) := fun H1 e Q q => h L H1 e _ fun v H2 e2 hv => by
  cases hv
  exact q H2 e2
theorem ev_ofI {i : Int} (L : Live N H) (h : EvD K N te σ H (.int i)) : Ev te σ H (.int i) := fun H1 e Q q => h L H1 e _ fun v H2 e2 hv => by
  cases hv
  exact q H2 e2
theorem ev_ofS {x : Str} (L : Live N H) (h : EvD K N te σ H (.str x)) : Ev te σ H (.str x) := fun H1 e Q q => h L H1 e _ fun v H2 e2 hv => by
  cases hv
  exact q H2 e2
theorem ed_ix {n : Nat} (h : EvD K N te σ H (.tuple ds)) (hd : ds[n]? = some d) : EvD K N (tOp (rIxT K) te (tC (.int (n : Int)))) σ H d := fun L H1 e Q q => h L H1 e _ fun v H2 e2 hv => by
  cases hv with
  | tup hs ha =>
    obtain ⟨x, hx, hdx⟩ := ha.get hd
    exact ⟨_, _, (n : Int), x, rfl, rfl, ex_t cutN_sub hs, atI_nat hx, q x H2 e2 hdx⟩
theorem ed_ixL {n : Nat} (h : EvD K N te σ H (.list ds)) (hi : Ev ta σ H (.int (n : Int))) (hd : ds[n]? = some d) : EvD K N (tOp (rIxL K) te ta) σ H d := fun L H1 e Q q => h L H1 e _ fun v H2 e2 hv => by
  cases hv with
  | lst hs ha =>
    obtain ⟨x, hx, hdx⟩ := ha.get hd
    exact hi H2 (e.trans e2) _ fun H3 e3 => ⟨_, _, (n : Int), x, rfl, rfl, ex_l (cutN_sub.trans e3) hs, atI_nat hx, q x H3 (e2.trans e3) (Dp.ex (cutN_ex e3) d x hdx)⟩
theorem eda_nil : EvDA K N tNil σ H [] := fun _ H1 _ _ q => q [] H1 (Ex.refl H1) .nil
theorem eda_cons (h : EvD K N ta σ H d) (hr : EvDA K N tr σ H ds) : EvDA K N (tCons ta tr) σ H (d :: ds) := fun L H1 e _ q =>
  h L H1 e _ fun v H2 e2 hv => hr L H2 (e.trans e2) _ fun vs H3 e3 hvs => q (v :: vs) H3 (e2.trans e3) (.cons (Dp.ex (cutN_ex e3) d v hv) hvs)
theorem ed_tup (h : EvDA K N tr σ H ds) (hl : ds.length ≤ 100000) : EvD K N (tTup tr) σ H (.tuple ds) := fun L H1 e _ q =>
  h L H1 e _ fun vs H2 e2 hvs => ⟨sz_of (by rw [hvs.len]; exact hl), fun p hp => q _ _ (e2.trans (Ex.new hp)) (.tup (st_of (by rw [cutN_no ((L.ex (e.trans e2)).off hp), upd_same])) (DpAll.ex (cutN_ex (Ex.new hp)) ds vs hvs))⟩
theorem ed_lst (h : EvDA K N tr σ H ds) (hl : ds.length ≤ 100000) : EvD K N (tLst tr) σ H (.list ds) := fun L H1 e _ q =>
  h L H1 e _ fun vs H2 e2 hvs => ⟨sz_of (by rw [hvs.len]; exact hl), fun p hp => q _ _ (e2.trans (Ex.new hp)) (.lst (sq_of (by rw [cutN_no ((L.ex (e.trans e2)).off hp), upd_same])) (DpAll.ex (cutN_ex (Ex.new hp)) ds vs hvs))⟩
/-- [*xs, ..] -/
theorem eda_star (h : EvD K N ta σ H (.list ds)) (hr : EvDA K N tr σ H es) : EvDA K N (StX.tStar K ta tr) σ H (ds ++ es) := fun L H1 e _ q =>
  h L H1 e _ fun v H2 e2 hv => by
    cases hv with
    | lst hs ha => exact ⟨_, _, rfl, .inr (ex_l cutN_sub hs), hr L H2 (e.trans e2) _ fun vs H3 e3 hvs => q _ H3 (e2.trans e3) ((DpAll.ex (cutN_ex e3) ds _ ha).app hvs)⟩
theorem ed_cat (ha : EvD K N ta σ H (.tuple ds)) (hb : EvD K N tb σ H (.tuple es)) (hz : ds.length + es.length ≤ 100000) : EvD K N (tOp (rCatA K) ta tb) σ H (.tuple (ds ++ es)) := fun L H1 e Q q =>
  ha L H1 e _ fun x H2 e2 hx => hb L H2 (e.trans e2) _ fun y H3 e3 hy => by
    have hx3 := Dp.ex (cutN_ex e3) _ _ hx
    cases hx3 with
    | tup hs ha =>
      have hy3 := hy
      cases hy3 with
      | tup ht hb =>
        refine ⟨_, _, _, _, rfl, rfl, ex_t cutN_sub hs, ex_t cutN_sub ht, sz_of (by rw [ha.len, hb.len]; exact hz), fun h0 => ?_, fun h0 h1 => ?_, fun h0 h1 p hp => ?_⟩
        · subst h0
          cases ha
          exact q _ H3 (e2.trans e3) hy
        · subst h1
          cases hb
          rw [List.append_nil] at *
          exact q _ H3 (e2.trans e3) (.tup hs ha)
        · exact q _ _ ((e2.trans e3).trans (Ex.new hp)) (.tup (st_of (by rw [cutN_no ((L.ex ((e.trans e2).trans e3)).off hp), upd_same])) (DpAll.ex (cutN_ex (Ex.new hp)) _ _ (ha.app hb)))
def isN : PyData → Bool
  | .none => true
  | _ => false
theorem isN_of (h : Dp K H v d) : decide (v = .non) = isN d := by
  cases h <;> rfl
theorem ev_isN (L : Live N H) (h : EvD K N ta σ H d) : Ev (tOp (fun x y H Q => y = .non ∧ Q (.bl (decide (x = .non))) H) ta (tC .non)) σ H (.bl (isN d)) := fun H1 e Q q =>
  h L H1 e _ fun v H2 e2 hv => ⟨rfl, by rw [isN_of hv]; exact q H2 e2⟩
theorem ev_noN (L : Live N H) (h : EvD K N ta σ H d) : Ev (tOp (fun x y H Q => y = .non ∧ Q (.bl (!decide (x = .non))) H) ta (tC .non)) σ H (.bl (!isN d)) := fun H1 e Q q =>
  h L H1 e _ fun v H2 e2 hv => ⟨rfl, by rw [isN_of hv]; exact q H2 e2⟩
theorem ev_eqD (L : Live N H) (ha : EvD K N ta σ H d) (hb : EvD K N tb σ H d') (p1 : d.plain = true) (p2 : d'.plain = true) (hd : d.depth ≤ 60) : Ev (tOp (rEqP K) ta tb) σ H (.bl (PyData.eqv d d')) := fun H1 e Q q =>
  ha L H1 e _ fun x H2 e2 hx => hb L H2 (e.trans e2) _ fun y H3 e3 hy => ⟨d, d', Dp.ex (cutN_sub.trans e3) d x hx, Dp.ex cutN_sub d' y hy, p1, p2, hd, q H3 (e2.trans e3)⟩
theorem ev_neD (L : Live N H) (ha : EvD K N ta σ H d) (hb : EvD K N tb σ H d') (p1 : d.plain = true) (p2 : d'.plain = true) (hd : d.depth ≤ 60) : Ev (tOp (rNeP K) ta tb) σ H (.bl (!PyData.eqv d d')) := fun H1 e Q q =>
  ha L H1 e _ fun x H2 e2 hx => hb L H2 (e.trans e2) _ fun y H3 e3 hy => ⟨d, d', Dp.ex (cutN_sub.trans e3) d x hx, Dp.ex cutN_sub d' y hy, p1, p2, hd, q H3 (e2.trans e3)⟩
/-- x in a list or tuple of data -/
def rInD (K : PySem.W.Frag) (neg : Bool) : R2 := fun x y H Q => ∃ d es, Dp K H x d ∧ (Dp K H y (.list es) ∨ Dp K H y (.tuple es)) ∧ PyData.plainAll es = true ∧ d.plain = true ∧ d.depth ≤ 60 ∧ Q (.bl (if neg = true then !es.any fun z => PyData.eqv z d else es.any fun z => PyData.eqv z d)) H
theorem op_inD {X : Cx} (hu : X.A.units + 64 < cLine) : OpR X (compareOp .In) (rInD X.K false) := by
  intro pins s σ H x y v u Q I rx ry h
  obtain ⟨d, es, hd, he, pe, pd, dd, q⟩ := h
  obtain ⟨as, r1⟩ := Dp.reads I d x v hd rx
  rcases he with he | he
  · obtain ⟨bs, r2⟩ := Dp.reads I _ y u he ry
    exact SeqAt.in_list_data r2 r1 pe pd (by omega) ⟨.bl _, H, I, rfl, q⟩
  · obtain ⟨bs, r2⟩ := Dp.reads I _ y u he ry
    exact SeqAt.in_tuple_data r2 r1 pe pd (by omega) ⟨.bl _, H, I, rfl, q⟩
theorem op_niD {X : Cx} (hu : X.A.units + 64 < cLine) : OpR X (compareOp .NotIn) (rInD X.K true) := by
  intro pins s σ H x y v u Q I rx ry h
  obtain ⟨d, es, hd, he, pe, pd, dd, q⟩ := h
  obtain ⟨as, r1⟩ := Dp.reads I d x v hd rx
  rcases he with he | he
  · obtain ⟨bs, r2⟩ := Dp.reads I _ y u he ry
    exact SeqAt.notIn_list_data r2 r1 pe pd (by omega) ⟨.bl _, H, I, rfl, q⟩
  · obtain ⟨bs, r2⟩ := Dp.reads I _ y u he ry
    exact SeqAt.notIn_tuple_data r2 r1 pe pd (by omega) ⟨.bl _, H, I, rfl, q⟩
theorem ev_inD {neg : Bool} (L : Live N H) (ha : EvD K N ta σ H d) (hb : EvD K N tb σ H (.list es) ∨ EvD K N tb σ H (.tuple es)) (p1 : PyData.plainAll es = true) (p2 : d.plain = true) (hd : d.depth ≤ 60) : Ev (tOp (rInD K neg) ta tb) σ H (.bl (if neg = true then !es.any fun z => PyData.eqv z d else es.any fun z => PyData.eqv z d)) := fun H1 e Q q =>
  ha L H1 e _ fun x H2 e2 hx => by
    rcases hb with hb | hb
    · exact hb L H2 (e.trans e2) _ fun y H3 e3 hy => ⟨d, es, Dp.ex (cutN_sub.trans e3) d x hx, .inl (Dp.ex cutN_sub _ y hy), p1, p2, hd, q H3 (e2.trans e3)⟩
    · exact hb L H2 (e.trans e2) _ fun y H3 e3 hy => ⟨d, es, Dp.ex (cutN_sub.trans e3) d x hx, .inr (Dp.ex cutN_sub _ y hy), p1, p2, hd, q H3 (e2.trans e3)⟩
theorem ed_if {b : Bool} (h : EvT tt σ H b) (h1 : b = true → EvD K N ta σ H d) (h2 : b = false → EvD K N tb σ H d) : EvD K N (tIf tt ta tb) σ H d := fun L H1 e Q q => h H1 e _ fun H2 e2 => by
  cases b with
  | true => exact h1 rfl L H2 (e.trans e2) Q fun v H3 e3 hv => q v H3 (e2.trans e3) hv
  | false => exact h2 rfl L H2 (e.trans e2) Q fun v H3 e3 hv => q v H3 (e2.trans e3) hv
/-! ### promises over data -/
def SpD (K : PySem.W.Frag) (pre : List PyData → PyData → Prop) : Sp := fun vs H Q _ => ∃ N ds d, Live N H ∧ DpAll K (cutN N H) vs ds ∧ pre ds d ∧ ∀ v H2, Ex H H2 → Dp K (cutN N H2) v d → Q v H2
theorem ed_call {pre : List PyData → PyData → Prop} {E : XK} (h : EvDA K N tr σ H ds) (hp : pre ds d) : EvD K N (tCall (SpD K pre) [] E tr) σ H d := fun L H1 e Q q =>
  h L H1 e _ fun vs H2 e2 hvs => ⟨N, ds, d, L.ex (e.trans e2), by rw [List.append_nil]; exact hvs, hp, fun v H3 e3 hv => q v H3 (e2.trans e3) hv⟩
/-! ### statements -/
theorem s_asgD {i : Nat} (L : Live N H) (h : EvD K N te σ H d) (k : ∀ v H1, Ex H H1 → Dp K (cutN N H1) v d → D.nx (σ.set i (some v)) H1) : tAsg te (gName i) D σ H := h L H (Ex.refl H) _ k
theorem q_asgD {i : Nat} (L : Live N H) (h : EvD K N te σ H d) (k : ∀ v H1, Ex H H1 → Dp K (cutN N H1) v d → tz D (σ.set i (some v)) H1) : tSeq (tAsg te (gName i)) tz D σ H := s_asgD (D := { D with nx := tz D }) L h k
theorem s_retD (L : Live N H) (h : EvD K N te σ H d) (k : ∀ v H1, Ex H H1 → Dp K (cutN N H1) v d → D.rt v H1) : tRet te D σ H := h L H (Ex.refl H) _ k
theorem g_unp3 {i j m : Nat} {d0 d1 d2 : PyData} {Q : L2.St → Hp → Prop} (hv : Dp K (cutN N H) v (.tuple [d0, d1, d2])) (k : ∀ x y z, Dp K (cutN N H) x d0 → Dp K (cutN N H) y d1 → Dp K (cutN N H) z d2 → Q (((σ.set i (some x)).set j (some y)).set m (some z)) H) : (gTup K 3 (gCons (gName i) (gCons (gName j) (gCons (gName m) gNil)))) v σ H Q := by
  cases hv with
  | tup hs ha =>
    cases ha with
    | cons a0 ha => cases ha with
      | cons a1 ha => cases ha with
        | cons a2 ha =>
          cases ha
          exact ⟨_, _, rfl, ex_t cutN_sub hs, rfl, _, _, rfl, _, _, rfl, _, _, rfl, rfl, k _ _ _ a0 a1 a2⟩
theorem g_unp5 {i j m n o : Nat} {d0 d1 d2 d3 d4 : PyData} {Q : L2.St → Hp → Prop} (hv : Dp K (cutN N H) v (.tuple [d0, d1, d2, d3, d4])) (k : ∀ x y z u w, Dp K (cutN N H) x d0 → Dp K (cutN N H) y d1 → Dp K (cutN N H) z d2 → Dp K (cutN N H) u d3 → Dp K (cutN N H) w d4 → Q (((((σ.set i (some x)).set j (some y)).set m (some z)).set n (some u)).set o (some w)) H) :
    (gTup K 5 (gCons (gName i) (gCons (gName j) (gCons (gName m) (gCons (gName n) (gCons (gName o) gNil)))))) v σ H Q := by
  cases hv with
  | tup hs ha =>
    cases ha with
    | cons a0 ha => cases ha with
      | cons a1 ha => cases ha with
        | cons a2 ha => cases ha with
          | cons a3 ha => cases ha with
            | cons a4 ha =>
              cases ha
              exact ⟨_, _, rfl, ex_t cutN_sub hs, rfl, _, _, rfl, _, _, rfl, _, _, rfl, _, _, rfl, _, _, rfl, rfl, k _ _ _ _ _ a0 a1 a2 a3 a4⟩
theorem q_unp {n : Nat} {tgs : TGs} (L : Live N H) (h : EvD K N te σ H d) (k : ∀ v H1, Ex H H1 → Dp K (cutN N H1) v d → (gTup K n tgs) v σ H1 fun σ2 H2 => tz D σ2 H2) : tSeq (tAsg te (gTup K n tgs)) tz D σ H := h L H (Ex.refl H) _ k
/-- for over a list, a tuple of data -/
theorem q_forDL (L : Live N H) (h : EvD K N te σ H (.list ds)) (Pv : Hp → Nat → L2.St → Hp → Prop) (h0 : ∀ H1, Ex H H1 → Pv H1 0 σ H1) (hE : ∀ H1 i σ' H', Ex H H1 → Pv H1 i σ' H' → Ex (cutN N H1) (cutN N H'))
    (hs : ∀ H1 i v d σ' H', Ex H H1 → ds[i]? = some d → Dp K (cutN N H') v d → Pv H1 i σ' H' → g v σ' H' fun σ2 H2 => tu { D with nx := Pv H1 (i + 1), ct := Pv H1 (i + 1), bk := tz D } σ2 H2) (hd : ∀ H1 σ' H', Ex H H1 → Pv H1 ds.length σ' H' → tz D σ' H') : tSeq (tFor (iList K te) g tu) tz D σ H :=
  h L H (Ex.refl H) _ fun v H1 e hv => by
    cases hv with
    | lst hs' ha =>
      have hq : SqL K H1 _ _ := ex_l cutN_sub hs'
      refine ⟨_, rfl, ⟨_, hq⟩, for_list (Pv H1) (h0 H1 e) (fun i σ' H' _ p => ex_l ((hE H1 i σ' H' e p).trans cutN_sub) hs') (fun i x σ' H' hx p => ?_) fun σ' H' p => hd H1 σ' H' e (by rw [← ha.len]; exact p)⟩
      obtain ⟨d, hd1, hd2⟩ := ha.back hx
      exact hs H1 i x d σ' H' e hd1 (Dp.ex (hE H1 i σ' H' e p) d x hd2) p
theorem s_forDL (L : Live N H) (h : EvD K N te σ H (.list ds)) (Pv : Hp → Nat → L2.St → Hp → Prop) (h0 : ∀ H1, Ex H H1 → Pv H1 0 σ H1) (hE : ∀ H1 i σ' H', Ex H H1 → Pv H1 i σ' H' → Ex (cutN N H1) (cutN N H'))
    (hs : ∀ H1 i v d σ' H', Ex H H1 → ds[i]? = some d → Dp K (cutN N H') v d → Pv H1 i σ' H' → g v σ' H' fun σ2 H2 => tu { D with nx := Pv H1 (i + 1), ct := Pv H1 (i + 1), bk := D.nx } σ2 H2) (hd : ∀ H1 σ' H', Ex H H1 → Pv H1 ds.length σ' H' → D.nx σ' H') : tFor (iList K te) g tu D σ H :=
  h L H (Ex.refl H) _ fun v H1 e hv => by
    cases hv with
    | lst hs' ha =>
      have hq : SqL K H1 _ _ := ex_l cutN_sub hs'
      refine ⟨_, rfl, ⟨_, hq⟩, for_list (Pv H1) (h0 H1 e) (fun i σ' H' _ p => ex_l ((hE H1 i σ' H' e p).trans cutN_sub) hs') (fun i x σ' H' hx p => ?_) fun σ' H' p => hd H1 σ' H' e (by rw [← ha.len]; exact p)⟩
      obtain ⟨d, hd1, hd2⟩ := ha.back hx
      exact hs H1 i x d σ' H' e hd1 (Dp.ex (hE H1 i σ' H' e p) d x hd2) p
theorem q_forDT (L : Live N H) (h : EvD K N te σ H (.tuple ds)) (Pv : Hp → Nat → L2.St → Hp → Prop) (h0 : ∀ H1, Ex H H1 → Pv H1 0 σ H1) (hE : ∀ H1 i σ' H', Ex H H1 → Pv H1 i σ' H' → Ex (cutN N H1) (cutN N H'))
    (hs : ∀ H1 i v d σ' H', Ex H H1 → ds[i]? = some d → Dp K (cutN N H') v d → Pv H1 i σ' H' → g v σ' H' fun σ2 H2 => tu { D with nx := Pv H1 (i + 1), ct := Pv H1 (i + 1), bk := tz D } σ2 H2) (hd : ∀ H1 σ' H', Ex H H1 → Pv H1 ds.length σ' H' → tz D σ' H') : tSeq (tFor (iTup K te) g tu) tz D σ H :=
  h L H (Ex.refl H) _ fun v H1 e hv => by
    cases hv with
    | tup hs' ha =>
      have hq : SqT K H1 _ _ := ex_t cutN_sub hs'
      refine ⟨_, rfl, ⟨_, hq⟩, for_tup (Pv H1) (h0 H1 e) (fun i σ' H' _ p => ex_t ((hE H1 i σ' H' e p).trans cutN_sub) hs') (fun i x σ' H' hx p => ?_) fun σ' H' p => hd H1 σ' H' e (by rw [← ha.len]; exact p)⟩
      obtain ⟨d, hd1, hd2⟩ := ha.back hx
      exact hs H1 i x d σ' H' e hd1 (Dp.ex (hE H1 i σ' H' e p) d x hd2) p
/-- a comprehension over a list of data -/
def Cd (K : PySem.W.Frag) (N : Addr → Prop) (H : Hp) (es : List PyData) (Dl : Addr) (H' : Hp) : Prop := H Dl = none ∧ Ex H H' ∧ ∃ acc, H' Dl = some (.lst acc) ∧ DpAll K (cutN (plusN N Dl) H') acc es
theorem map_at {α : Type} {as : List α} {enc : α → PyData} {i : Nat} {d : PyData} (h : (as.map enc)[i]? = some d) : ∃ a, as[i]? = some a ∧ d = enc a := by
  rw [List.getElem?_map] at h
  cases e : as[i]? with
  | none => rw [e] at h; cases h
  | some a => rw [e] at h; exact ⟨a, rfl, (Option.some.inj h).symm⟩
theorem ed_lcL {α : Type} {as : List α} (enc : α → PyData) {j : Nat} {ws : List Nat} (f : α → Bool) (gd : α → PyData) (h : EvD K N ta σ H (.list (as.map enc))) (hz : as.length ≤ 40000) (hw : ∀ x, wipe ((wipe σ ws).set j (some x)) ws = wipe σ ws)
    (ht : ∀ v a M H1, a ∈ as → Ex H H1 → Ex (cutN N H) (cutN M H1) → Live M H1 → Dp K (cutN M H1) v (enc a) → EvT tt ((wipe σ ws).set j (some v)) H1 (f a))
    (he : ∀ v a M H1, a ∈ as → Ex H H1 → Ex (cutN N H) (cutN M H1) → Live M H1 → Dp K (cutN M H1) v (enc a) → f a = true → EvD K M te ((wipe σ ws).set j (some v)) H1 (gd a)) :
    EvD K N (tLc (iList K ta) (gName j) tt te ws) σ H (.list ((as.filter f).map gd)) := fun L H0 e Q q => h L H0 e _ fun v H1 e1 hv => by
  cases hv with
  | @lst a xs _ hs ha =>
    have hq : SqL K H1 a xs := ex_l cutN_sub hs
    have hlen := ha.len
    refine ⟨_, rfl, ⟨_, hq⟩, fun Dl hD => lc_list (xs := xs) (fun i H' => Cd K N H1 (((as.take i).filter f).map gd) Dl H') ⟨hD, Ex.new hD, [], upd_same, .nil⟩ (fun i H' _ p => ex_l p.2.1 hq) (fun i x H' hi p => ⟨hw x, ?_⟩) (fun H' p => ?_)⟩
    · obtain ⟨p1, p2, acc, p3, p4⟩ := p
      obtain ⟨_, hd1', hd2⟩ := ha.back hi
      obtain ⟨d, hd1, rfl⟩ := map_at hd1'
      have hil := len_lt hd1
      have hmem := List.mem_of_getElem? hd1
      have hsub : Ex (cutN N H1) (cutN (plusN N Dl) H') := cutN_plus p1 p2
      have hsub0 : Ex (cutN N H) (cutN (plusN N Dl) H') := (cutN_ex (e.trans e1)).trans hsub
      have L' : Live (plusN N Dl) H' := (L.ex (e.trans e1)).plus p2 p3
      have hx := Dp.ex hsub _ x hd2
      refine ht x d (plusN N Dl) H' hmem ((e.trans e1).trans p2) hsub0 L' hx H' (Ex.refl H') _ fun H3 e3 => ?_
      have htk : as.take (i + 1) = as.take i ++ [d] := take_up hd1
      have hacc : acc.length ≤ 40000 := by
        rw [p4.len, List.length_map]
        have := List.length_filter_le f (as.take i)
        rw [List.length_take] at this
        omega
      cases hf : f d with
      | true =>
        refine he x d (plusN N Dl) H3 hmem (((e.trans e1).trans p2).trans e3) (hsub0.trans (cutN_ex e3)) (L'.ex e3) (Dp.ex (cutN_ex e3) _ x hx) hf (L'.ex e3) H3 (Ex.refl H3) _ fun y H4 e4 hy => ⟨acc, e4 _ _ (e3 _ _ p3), sz_lt (by omega), p1, Ex.mut ((p2.trans e3).trans e4) p1, acc ++ [y], upd_same, ?_⟩
        rw [htk, List.filter_append, List.map_append, List.filter_cons_of_pos hf]
        exact (DpAll.ex ((cutN_ex (e3.trans e4)).trans cutN_keep) _ _ p4).snoc (Dp.ex cutN_keep _ _ hy)
      | false =>
        refine ⟨p1, p2.trans e3, acc, e3 _ _ p3, ?_⟩
        rw [htk, List.filter_append, List.filter_cons_of_neg (by rw [hf]; decide), List.filter_nil, List.append_nil]
        exact DpAll.ex (cutN_ex e3) _ _ p4
    · obtain ⟨p1, p2, acc, p3, p4⟩ := p
      rw [hlen, List.length_map, List.take_of_length_le (Nat.le_refl _)] at p4
      refine q _ H' (e1.trans p2) (.lst (sq_of ?_) (DpAll.ex (fun b o hb => ?_) _ _ p4))
      · rw [cutN_no ((L.ex (e.trans e1)).off p1)]
        exact p3
      · by_cases n : plusN N Dl b
        · rw [cutN_yes n] at hb
          cases hb
        · rw [cutN_no n] at hb
          rw [cutN_no (fun z => n (.inl z))]
          exact hb
theorem ed_lcT {α : Type} {as : List α} (enc : α → PyData) {j : Nat} {ws : List Nat} (f : α → Bool) (gd : α → PyData) (h : EvD K N ta σ H (.tuple (as.map enc))) (hz : as.length ≤ 40000) (hw : ∀ x, wipe ((wipe σ ws).set j (some x)) ws = wipe σ ws)
    (ht : ∀ v a M H1, a ∈ as → Ex H H1 → Ex (cutN N H) (cutN M H1) → Live M H1 → Dp K (cutN M H1) v (enc a) → EvT tt ((wipe σ ws).set j (some v)) H1 (f a))
    (he : ∀ v a M H1, a ∈ as → Ex H H1 → Ex (cutN N H) (cutN M H1) → Live M H1 → Dp K (cutN M H1) v (enc a) → f a = true → EvD K M te ((wipe σ ws).set j (some v)) H1 (gd a)) :
    EvD K N (tLc (iTup K ta) (gName j) tt te ws) σ H (.list ((as.filter f).map gd)) := fun L H0 e Q q => h L H0 e _ fun v H1 e1 hv => by
  cases hv with
  | @tup a xs _ hs ha =>
    have hq : SqT K H1 a xs := ex_t cutN_sub hs
    have hlen := ha.len
    refine ⟨_, rfl, ⟨_, hq⟩, fun Dl hD => lc_tup (xs := xs) (fun i H' => Cd K N H1 (((as.take i).filter f).map gd) Dl H') ⟨hD, Ex.new hD, [], upd_same, .nil⟩ (fun i H' _ p => ex_t p.2.1 hq) (fun i x H' hi p => ⟨hw x, ?_⟩) (fun H' p => ?_)⟩
    · obtain ⟨p1, p2, acc, p3, p4⟩ := p
      obtain ⟨_, hd1', hd2⟩ := ha.back hi
      obtain ⟨d, hd1, rfl⟩ := map_at hd1'
      have hil := len_lt hd1
      have hmem := List.mem_of_getElem? hd1
      have hsub : Ex (cutN N H1) (cutN (plusN N Dl) H') := cutN_plus p1 p2
      have hsub0 : Ex (cutN N H) (cutN (plusN N Dl) H') := (cutN_ex (e.trans e1)).trans hsub
      have L' : Live (plusN N Dl) H' := (L.ex (e.trans e1)).plus p2 p3
      have hx := Dp.ex hsub _ x hd2
      refine ht x d (plusN N Dl) H' hmem ((e.trans e1).trans p2) hsub0 L' hx H' (Ex.refl H') _ fun H3 e3 => ?_
      have htk : as.take (i + 1) = as.take i ++ [d] := take_up hd1
      have hacc : acc.length ≤ 40000 := by
        rw [p4.len, List.length_map]
        have := List.length_filter_le f (as.take i)
        rw [List.length_take] at this
        omega
      cases hf : f d with
      | true =>
        refine he x d (plusN N Dl) H3 hmem (((e.trans e1).trans p2).trans e3) (hsub0.trans (cutN_ex e3)) (L'.ex e3) (Dp.ex (cutN_ex e3) _ x hx) hf (L'.ex e3) H3 (Ex.refl H3) _ fun y H4 e4 hy => ⟨acc, e4 _ _ (e3 _ _ p3), sz_lt (by omega), p1, Ex.mut ((p2.trans e3).trans e4) p1, acc ++ [y], upd_same, ?_⟩
        rw [htk, List.filter_append, List.map_append, List.filter_cons_of_pos hf]
        exact (DpAll.ex ((cutN_ex (e3.trans e4)).trans cutN_keep) _ _ p4).snoc (Dp.ex cutN_keep _ _ hy)
      | false =>
        refine ⟨p1, p2.trans e3, acc, e3 _ _ p3, ?_⟩
        rw [htk, List.filter_append, List.filter_cons_of_neg (by rw [hf]; decide), List.filter_nil, List.append_nil]
        exact DpAll.ex (cutN_ex e3) _ _ p4
    · obtain ⟨p1, p2, acc, p3, p4⟩ := p
      rw [hlen, List.length_map, List.take_of_length_le (Nat.le_refl _)] at p4
      refine q _ H' (e1.trans p2) (.lst (sq_of ?_) (DpAll.ex (fun b o hb => ?_) _ _ p4))
      · rw [cutN_no ((L.ex (e.trans e1)).off p1)]
        exact p3
      · by_cases n : plusN N Dl b
        · rw [cutN_yes n] at hb
          cases hb
        · rw [cutN_no n] at hb
          rw [cutN_no (fun z => n (.inl z))]
          exact hb
end

/-! ### for over a list or a tuple, whichever it is -/
def iEit (K : PySem.W.Frag) (tl : TE) : TI := fun σ H R => tl σ H fun x H1 => ∃ a, x = .ref a ∧ (((∃ xs, SqL K H1 a xs) ∧ R (Itl K a) H1) ∨ ((∃ xs, SqT K H1 a xs) ∧ R (Itt K a) H1))
theorem pi_eit {X : Cx} {tg l : Expr} {tl : TE} (hl : PE X l tl) : PI X tg l (iEit X.K tl) := by
  refine ⟨fun pins s σ H R I h => thn (hl.run pins s σ H _ I h) fun v s1 ⟨x, H1, I1, r1, a, ex, q⟩ => ?_⟩
  subst ex
  cases r1
  rcases q with ⟨⟨xs, hq⟩, q⟩ | ⟨⟨xs, hq⟩, q⟩
  · obtain ⟨its, _, p, _⟩ := I1.list hq
    refine wpAny_pyIter_list p.isList ⟨s1.heap.objs.size, [s1.heap.objs.size], _, _, H1, rfl, I1.kept (t' := s1.toks) fun b o e => Heap.get?_push_of_some _ e, turn_list a _, ⟨_, Heap.get?_push_size _ rfl, rfl, rfl⟩, fun b hb => ?_, q⟩
    obtain rfl : b = s1.heap.objs.size := List.mem_singleton.mp hb
    exact I1.fpOk (Nat.le_refl _) (I1.hok.fresh (Nat.le_refl _))
  · obtain ⟨its, _, p, _⟩ := I1.tuple hq
    refine wpAny_pyIter_tuple (show s1.heap.IsTuple a its.toArray from p) ⟨s1.heap.objs.size, [s1.heap.objs.size], _, _, H1, rfl, I1.kept (t' := s1.toks) fun b o e => Heap.get?_push_of_some _ e, turn_tuple a _, ⟨_, Heap.get?_push_size _ rfl, rfl, rfl⟩, fun b hb => ?_, q⟩
    obtain rfl : b = s1.heap.objs.size := List.mem_singleton.mp hb
    exact I1.fpOk (Nat.le_refl _) (I1.hok.fresh (Nat.le_refl _))
/-- a sequence of the data ds -/
def IsSeqD (ds : List PyData) (d : PyData) : Prop := d = .list ds ∨ d = .tuple ds
section
variable {K : PySem.W.Frag} {N : Addr → Prop} {σ : L2.St} {H H' : Hp} {te ta tb : TE} {tr : TA} {tt : TT} {D : Ends} {tz tu : TS} {v : V} {d d' : PyData} {ds es : List PyData} {g : TG}
theorem q_forDE (L : Live N H) (h : EvD K N te σ H d) (hd0 : IsSeqD ds d) (Pv : Hp → Nat → L2.St → Hp → Prop) (h0 : ∀ H1, Ex H H1 → Pv H1 0 σ H1) (hE : ∀ H1 i σ' H', Ex H H1 → Pv H1 i σ' H' → Ex (cutN N H1) (cutN N H'))
    (hs : ∀ H1 i v d σ' H', Ex H H1 → ds[i]? = some d → Dp K (cutN N H') v d → Pv H1 i σ' H' → g v σ' H' fun σ2 H2 => tu { D with nx := Pv H1 (i + 1), ct := Pv H1 (i + 1), bk := tz D } σ2 H2) (hd : ∀ H1 σ' H', Ex H H1 → Pv H1 ds.length σ' H' → tz D σ' H') : tSeq (tFor (iEit K te) g tu) tz D σ H :=
  h L H (Ex.refl H) _ fun v H1 e hv => by
    rcases hd0 with rfl | rfl
    · cases hv with
      | lst hs' ha =>
        have hq : SqL K H1 _ _ := ex_l cutN_sub hs'
        refine ⟨_, rfl, .inl ⟨⟨_, hq⟩, for_list (Pv H1) (h0 H1 e) (fun i σ' H' _ p => ex_l ((hE H1 i σ' H' e p).trans cutN_sub) hs') (fun i x σ' H' hx p => ?_) fun σ' H' p => hd H1 σ' H' e (by rw [← ha.len]; exact p)⟩⟩
        obtain ⟨d, hd1, hd2⟩ := ha.back hx
        exact hs H1 i x d σ' H' e hd1 (Dp.ex (hE H1 i σ' H' e p) d x hd2) p
    · cases hv with
      | tup hs' ha =>
        have hq : SqT K H1 _ _ := ex_t cutN_sub hs'
        refine ⟨_, rfl, .inr ⟨⟨_, hq⟩, for_tup (Pv H1) (h0 H1 e) (fun i σ' H' _ p => ex_t ((hE H1 i σ' H' e p).trans cutN_sub) hs') (fun i x σ' H' hx p => ?_) fun σ' H' p => hd H1 σ' H' e (by rw [← ha.len]; exact p)⟩⟩
        obtain ⟨d, hd1, hd2⟩ := ha.back hx
        exact hs H1 i x d σ' H' e hd1 (Dp.ex (hE H1 i σ' H' e p) d x hd2) p
/-- a list that grows in place: its items, which don't rest on it -/
def Grw (K : PySem.W.Frag) (N : Addr → Prop) (H : Hp) (p : Addr) (es : List PyData) (H' : Hp) : Prop := H p = none ∧ Ex H H' ∧ ∃ acc, H' p = some (.lst acc) ∧ DpAll K (cutN (plusN N p) H') acc es
theorem Grw.ex {p : Addr} {H2 : Hp} (h : Grw K N H p es H') (e : Ex H' H2) : Grw K N H p es H2 := by
  obtain ⟨h1, h2, acc, h3, h4⟩ := h
  exact ⟨h1, h2.trans e, acc, e _ _ h3, DpAll.ex (cutN_ex e) _ _ h4⟩
theorem Grw.live {p : Addr} (L : Live N H) (h : Grw K N H p es H') : Live (plusN N p) H' := by
  obtain ⟨h1, h2, acc, h3, h4⟩ := h
  exact L.plus h2 h3
theorem Grw.sub {p : Addr} (h : Grw K N H p es H') : Ex (cutN N H) (cutN (plusN N p) H') := cutN_plus h.1 h.2.1
theorem Grw.nil {p : Addr} (hp : H p = none) (e : Ex H H') (h : H' p = some (.lst [])) : Grw K N H p [] H' := ⟨hp, e, [], h, .nil⟩
/-- done: it is a list of data -/
theorem Grw.dp {p : Addr} (L : Live N H) (h : Grw K N H p es H') : Dp K (cutN N H') (.ref p) (.list es) := by
  obtain ⟨h1, h2, acc, h3, h4⟩ := h
  refine .lst (sq_of ?_) (DpAll.ex (fun b o hb => ?_) _ _ h4)
  · rw [cutN_no (L.off h1)]
    exact h3
  · by_cases n : plusN N p b
    · rw [cutN_yes n] at hb
      cases hb
    · rw [cutN_no n] at hb
      rw [cutN_no (fun z => n (.inl z))]
      exact hb
theorem s_appD {p : Addr} (L : Live N H) (h : Grw K N H p es H') (ho : Ev ta σ H' (.ref p)) (hv : EvD K (plusN N p) te σ H' d) (hz : es.length < 90000) (k : ∀ H2, Ex H H2 → Ex (cutN (plusN N p) H') (cutN (plusN N p) H2) → Grw K N H p (es ++ [d]) H2 → D.nx σ H2) :
    tDrop (tBM K "list" rAppend ta (tCons te tNil)) D σ H' := by
  obtain ⟨h1, h2, acc, h3, h4⟩ := id h
  refine ho H' (Ex.refl H') _ fun H2 e2 => ⟨.inl ⟨rfl, acc, sq_of (e2 _ _ h3)⟩, hv (h.live L) H2 e2 _ fun v H3 e3 hv => ⟨p, acc, v, rfl, rfl, e3 _ _ (e2 _ _ h3), sz_lt (by rw [h4.len]; omega), ?_⟩⟩
  have e4 : Ex H (upd H3 p (.lst (acc ++ [v]))) := Ex.mut ((h2.trans e2).trans e3) h1
  exact k _ e4 ((cutN_ex (e2.trans e3)).trans cutN_keep) ⟨h1, e4, acc ++ [v], upd_same, (DpAll.ex ((cutN_ex (e2.trans e3)).trans cutN_keep) _ _ h4).snoc (Dp.ex cutN_keep _ _ hv)⟩
/-- list(a list of data) -/
theorem ed_listOf (h : EvD K N ta σ H (.list ds)) : EvD K N (tCB (rListS K) (tCons ta tNil)) σ H (.list ds) := fun L H1 e Q q =>
  h L H1 e _ fun v H2 e2 hv => by
    cases hv with
    | lst hs ha => exact ⟨_, _, rfl, .inl (ex_l cutN_sub hs), fun l hl => q _ _ (e2.trans (Ex.new hl)) (.lst (sq_of (by rw [cutN_no ((L.ex (e.trans e2)).off hl), upd_same])) (DpAll.ex (cutN_ex (Ex.new hl)) _ _ ha))⟩
theorem q_ifAsgD {b : Bool} {i : Nat} {v0 : V} (L : Live N H) (h : EvT tt σ H b) (h1 : b = true → EvD K N te σ H d) (h2 : b = false → σ.set i (some v0) = σ ∧ Dp K (cutN N H) v0 d) (k : ∀ v H1, Ex H H1 → Dp K (cutN N H1) v d → tz D (σ.set i (some v)) H1) : tSeq (tIfS tt (tAsg te (gName i)) tNext) tz D σ H :=
  h H (Ex.refl H) _ fun H1 e => by
    cases b with
    | true => exact h1 rfl L H1 e _ fun v H2 e2 hv => k v H2 (e.trans e2) hv
    | false =>
      obtain ⟨g1, g2⟩ := h2 rfl
      have g := k v0 H1 e (Dp.ex (cutN_ex e) d v0 g2)
      rw [g1] at g
      exact g
theorem g_unp2 {i j : Nat} {d0 d1 : PyData} {Q : L2.St → Hp → Prop} (hv : Dp K (cutN N H) v (.tuple [d0, d1])) (k : ∀ x y, Dp K (cutN N H) x d0 → Dp K (cutN N H) y d1 → Q ((σ.set i (some x)).set j (some y)) H) : (gTup K 2 (gCons (gName i) (gCons (gName j) gNil))) v σ H Q := by
  cases hv with
  | tup hs ha =>
    cases ha with
    | cons a0 ha => cases ha with
      | cons a1 ha =>
        cases ha
        exact ⟨_, _, rfl, ex_t cutN_sub hs, rfl, _, _, rfl, _, _, rfl, rfl, k _ _ a0 a1⟩
theorem g_unp6 {i j m n o r : Nat} {d0 d1 d2 d3 d4 d5 : PyData} {Q : L2.St → Hp → Prop} (hv : Dp K (cutN N H) v (.tuple [d0, d1, d2, d3, d4, d5])) (k : ∀ x y z u w t, Dp K (cutN N H) x d0 → Dp K (cutN N H) y d1 → Dp K (cutN N H) z d2 → Dp K (cutN N H) u d3 → Dp K (cutN N H) w d4 → Dp K (cutN N H) t d5 → Q ((((((σ.set i (some x)).set j (some y)).set m (some z)).set n (some u)).set o (some w)).set r (some t)) H) :
    (gTup K 6 (gCons (gName i) (gCons (gName j) (gCons (gName m) (gCons (gName n) (gCons (gName o) (gCons (gName r) gNil))))))) v σ H Q := by
  cases hv with
  | tup hs ha =>
    cases ha with
    | cons a0 ha => cases ha with
      | cons a1 ha => cases ha with
        | cons a2 ha => cases ha with
          | cons a3 ha => cases ha with
            | cons a4 ha => cases ha with
              | cons a5 ha =>
                cases ha
                exact ⟨_, _, rfl, ex_t cutN_sub hs, rfl, _, _, rfl, _, _, rfl, _, _, rfl, _, _, rfl, _, _, rfl, _, _, rfl, rfl, k _ _ _ _ _ _ a0 a1 a2 a3 a4 a5⟩
end
end Lw
namespace Pw
open PySem PySem.Spec PyProof.Rows L2 Evl Lw
abbrev PEx := Env → Sto → (D → Sto → Prop) → Prop
abbrev PTx := Env → Sto → (Bool → Sto → Prop) → Prop
abbrev PAx := Env → Sto → (List D → Sto → Prop) → Prop
abbrev POx := Env → Sto → (Option Int → Sto → Prop) → Prop
structure PEnds where
  nx : Env → Sto → Prop
  rt : D → Sto → Prop
  bk : Env → Sto → Prop := fun _ _ => False
  ct : Env → Sto → Prop := fun _ _ => False
abbrev PSx := PEnds → Env → Sto → Prop
abbrev PGx := D → Env → Sto → (Env → Sto → Prop) → Prop
abbrev PIx := Env → Sto → (D → List D → Sto → Prop) → Prop
abbrev Op2 := Sto → D → D → (D → Prop) → Prop
abbrev OpN := Sto → List D → (D → Prop) → Prop
/-! ### pure data -/
mutual
def D.pure : D → Bool
  | .non | .bl _ | .int _ | .str _ => true
  | .tup ds | .lst ds | .scr ds => pureAll ds
  | .ty _ | .obj _ _ _ | .ref _ => false
def pureAll : List D → Bool
  | [] => true
  | d :: ds => d.pure && pureAll ds
end
mutual
def D.py : D → PyData
  | .bl b => .bool b
  | .int i => .int i
  | .str s => .str s
  | .tup ds => .tuple (pyAll ds)
  | .lst ds | .scr ds => .list (pyAll ds)
  | .non | .ty _ | .obj _ _ _ | .ref _ => .none
def pyAll : List D → List PyData
  | [] => []
  | d :: ds => d.py :: pyAll ds
end
def D.dep (d : D) : Nat := d.py.depth
def D.eqv (a b : D) : Bool := PyData.eqv a.py b.py
def eqvL (a b : List D) : Bool := PyData.eqvAll (pyAll a) (pyAll b)
mutual
theorem plain_py : ∀ d : D, d.py.plain = true
  | .non | .bl _ | .int _ | .str _ | .ty _ | .obj _ _ _ | .ref _ => by simp [D.py, PyData.plain]
  | .tup ds | .lst ds | .scr ds => by simp [D.py, PyData.plain, plain_pys ds]
theorem plain_pys : ∀ ds : List D, PyData.plainAll (pyAll ds) = true
  | [] => rfl
  | d :: ds => by simp [pyAll, PyData.plainAll, plain_py d, plain_pys ds]
end
mutual
theorem dp_of {K : PySem.W.Frag} {cl : Cl} {ρ : List Addr} {H : Hp} : ∀ (d : D) (v : V), d.pure = true → RelD K cl ρ H d v → Dp K H v d.py
  | .non, _, _, h => by cases h; exact .non
  | .bl b, _, _, h => by cases h; exact .bl b
  | .int i, _, _, h => by cases h; exact .int i
  | .str s, _, _, h => by cases h; exact .str s
  | .ty n, _, p, _ => by simp [D.pure] at p
  | .tup ds, _, p, h => by
    cases h with
    | tup hs ha => exact .tup hs (dps_of ds _ (by simpa [D.pure] using p) ha)
  | .lst ds, _, p, h => by
    cases h with
    | lst hs ha => exact .lst (sq_of hs) (dps_of ds _ (by simpa [D.pure] using p) ha)
  | .scr ds, _, p, h => by
    cases h with
    | scr hs ha => exact .lst hs (dps_of ds _ (by simpa [D.pure] using p) ha)
  | .obj _ _ _, _, p, _ => by simp [D.pure] at p
  | .ref _, _, p, _ => by simp [D.pure] at p
theorem dps_of {K : PySem.W.Frag} {cl : Cl} {ρ : List Addr} {H : Hp} : ∀ (ds : List D) (vs : List V), pureAll ds = true → RelAll K cl ρ H ds vs → DpAll K H vs (pyAll ds)
  | [], _, _, h => by cases h; exact .nil
  | d :: ds, _, p, h => by
    have p' : d.pure = true ∧ pureAll ds = true := by simpa [pureAll] using p
    cases h with
    | cons h1 h2 => exact .cons (dp_of d _ p'.1 h1) (dps_of ds _ p'.2 h2)
end
/-! ### what is read through the store -/
def itemsOf (S : Sto) : D → Option (List D)
  | .tup ds | .lst ds | .scr ds => some ds
  | .ref n => match S[n]? with
    | some (.lst ds) => some ds
    | _ => none
  | _ => none
def rs (S : Sto) : D → D
  | .ref n => match S[n]? with
    | some (.lst ds) => .lst ds
    | _ => .ref n
  | d => d
def isNon : D → Bool
  | .non => true
  | _ => false
section
variable {K : PySem.W.Frag} {cl : Cl} {M : Addr → Prop} {ρ ρ' : List Addr} {S : Sto} {H H' : Hp} {env : Env} {σ : L2.St}
theorem RelD.full {d : D} {v : V} (r : RelD K cl ρ (cut (NM M ρ) H) d v) : RelD K cl ρ H d v := r.up (List.prefix_refl _) cut_sub d v
theorem RelAll.full {d : List D} {v : List V} (r : RelAll K cl ρ (cut (NM M ρ) H) d v) : RelAll K cl ρ H d v := r.up (List.prefix_refl _) cut_sub d v
theorem G.lstAt (g : G K cl M ρ S H) {n : Nat} {a : Addr} {ds : List D} (ha : ρ[n]? = some a) (hs : S[n]? = some (.lst ds)) : ∃ vs, H a = some (.lst vs) ∧ RelAll K cl ρ (cut (NM M ρ) H) ds vs := by
  obtain ⟨u, hu, r⟩ := g.sto n _ a hs ha
  cases r with
  | lst r => exact ⟨_, hu, r⟩
theorem items_sq (g : G K cl M ρ S H) {d : D} {v : V} {ds : List D} (r : RelD K cl ρ (cut (NM M ρ) H) d v) (h : itemsOf S d = some ds) :
    ∃ a vs, v = .ref a ∧ (SqL K H a vs ∨ SqT K H a vs) ∧ RelAll K cl ρ (cut (NM M ρ) H) ds vs := by
  cases r with
  | tup hs ha => cases h; exact ⟨_, _, rfl, .inr (ex_t cut_sub hs), ha⟩
  | lst hs ha => cases h; exact ⟨_, _, rfl, .inl (sq_of (cut_sub _ _ hs)), ha⟩
  | scr hs ha => cases h; exact ⟨_, _, rfl, .inl (ex_l cut_sub hs), ha⟩
  | @ref n a hn =>
    unfold itemsOf at h
    simp only at h
    split at h
    · rename_i ds' he
      cases h
      obtain ⟨vs, hv, r⟩ := g.lstAt hn he
      exact ⟨a, vs, rfl, .inl (sq_of hv), r⟩
    · cases h
  | _ => cases h
theorem rs_rel (g : G K cl M ρ S H) {d : D} {v : V} (r : RelD K cl ρ (cut (NM M ρ) H) d v) : RelD K cl ρ H (rs S d) v := by
  cases r with
  | @ref n a hn =>
    unfold rs
    simp only
    split
    · rename_i ds' he
      obtain ⟨vs, hv, r⟩ := g.lstAt hn he
      exact .lst hv r.full
    · exact .ref hn
  | non => exact .non
  | bl => exact .bl _
  | int => exact .int _
  | str => exact .str _
  | ty => exact .ty _
  | tup hs ha => exact (RelD.tup hs ha).full
  | lst hs ha => exact (RelD.lst hs ha).full
  | scr hs ha => exact (RelD.scr hs ha).full
  | obj hs hk ha => exact (RelD.obj hs hk ha).full
theorem RelAll.atI {ds : List D} {vs : List V} {i : Int} {d : D} (r : RelAll K cl ρ H ds vs) (h : L2.atI ds i = some d) : ∃ v, L2.atI vs i = some v ∧ RelD K cl ρ H d v := by
  unfold L2.atI at h ⊢
  rw [r.len]
  cases e : ixN ds.length i with
  | none => rw [e] at h; cases h
  | some j =>
    rw [e] at h
    exact r.get h
end
/-! ### what simulates what -/
section
variable (K : PySem.W.Frag) (cl : Cl)
def SmE (te : TE) (pe : PEx) : Prop := ∀ (M : Addr → Prop) (ρ : List Addr) (S : Sto) (H : Hp) (env : Env) (σ : L2.St), G K cl M ρ S H → RE K cl ρ (cut (NM M ρ) H) env σ → ∀ (k : D → Sto → Prop) (Q : VK), pe env S k →
  (∀ ρ' H' S' d v, Stp M ρ H ρ' H' → G K cl M ρ' S' H' → RelD K cl ρ' (cut (NM M ρ') H') d v → k d S' → Q v H') → te σ H Q
def SmT (te : TT) (pe : PTx) : Prop := ∀ (M : Addr → Prop) (ρ : List Addr) (S : Sto) (H : Hp) (env : Env) (σ : L2.St), G K cl M ρ S H → RE K cl ρ (cut (NM M ρ) H) env σ → ∀ (k : Bool → Sto → Prop) (Q : Bool → Hp → Prop), pe env S k →
  (∀ ρ' H' S' b, Stp M ρ H ρ' H' → G K cl M ρ' S' H' → k b S' → Q b H') → te σ H Q
def SmA (te : TA) (pe : PAx) : Prop := ∀ (M : Addr → Prop) (ρ : List Addr) (S : Sto) (H : Hp) (env : Env) (σ : L2.St), G K cl M ρ S H → RE K cl ρ (cut (NM M ρ) H) env σ → ∀ (k : List D → Sto → Prop) (Q : List V → Hp → Prop), pe env S k →
  (∀ ρ' H' S' ds vs, Stp M ρ H ρ' H' → G K cl M ρ' S' H' → RelAll K cl ρ' (cut (NM M ρ') H') ds vs → k ds S' → Q vs H') → te σ H Q
def SmO (te : TO) (pe : POx) : Prop := ∀ (M : Addr → Prop) (ρ : List Addr) (S : Sto) (H : Hp) (env : Env) (σ : L2.St), G K cl M ρ S H → RE K cl ρ (cut (NM M ρ) H) env σ → ∀ (k : Option Int → Sto → Prop) (Q : Option Int → Hp → Prop), pe env S k →
  (∀ ρ' H' S' b, Stp M ρ H ρ' H' → G K cl M ρ' S' H' → k b S' → Q b H') → te σ H Q
/-- a two-place operation -/
def SmR (r : R2) (op : Op2) : Prop := ∀ (M : Addr → Prop) (ρ : List Addr) (S : Sto) (H : Hp) (x y : D) (v w : V), G K cl M ρ S H → RelD K cl ρ (cut (NM M ρ) H) x v → RelD K cl ρ (cut (NM M ρ) H) y w → ∀ (k : D → Prop) (Q : VK), op S x y k →
  (∀ H' d u, Stp M ρ H ρ H' → G K cl M ρ S H' → RelD K cl ρ (cut (NM M ρ) H') d u → k d → Q u H') → r v w H Q
def SmC (r : List V → Hp → VK → Prop) (op : OpN) : Prop := ∀ (M : Addr → Prop) (ρ : List Addr) (S : Sto) (H : Hp) (xs : List D) (vs : List V), G K cl M ρ S H → RelAll K cl ρ (cut (NM M ρ) H) xs vs → ∀ (k : D → Prop) (Q : VK), op S xs k →
  (∀ H' d u, Stp M ρ H ρ H' → G K cl M ρ S H' → RelD K cl ρ (cut (NM M ρ) H') d u → k d → Q u H') → r vs H Q
end
def pVar (i : Nat) : PEx := fun env S k => ∃ d, env[i]? = some (some d) ∧ k d S
def pC (d : D) : PEx := fun _ S k => k d S
def pOp (op : Op2) (pa pb : PEx) : PEx := fun env S k => pa env S fun x S1 => pb env S1 fun y S2 => op S2 x y fun z => k z S2
def pNil : PAx := fun _ S k => k [] S
def pCons (pa : PEx) (pr : PAx) : PAx := fun env S k => pa env S fun x S1 => pr env S1 fun xs S2 => k (x :: xs) S2
def pTup (pa : PAx) : PEx := fun env S k => pa env S fun xs S1 => xs.length ≤ 100000 ∧ k (.tup xs) S1
def pLst (pa : PAx) : PEx := fun env S k => pa env S fun xs S1 => xs.length ≤ 100000 ∧ k (.lst xs) S1
/-- a list that will change -/
def pLstM (pa : PAx) : PEx := fun env S k => pa env S fun xs S1 => xs.length ≤ 100000 ∧ k (.ref S1.length) (S1 ++ [.lst xs])
def pNot (pa : PEx) : PEx := fun env S k => pa env S fun x S1 => ∃ b, x = .bl b ∧ k (.bl (!b)) S1
def pAndV (pa pb : PEx) : PEx := fun env S k => pa env S fun x S1 => ∃ c, x = .bl c ∧ if c = true then pb env S1 k else k (.bl false) S1
def pOrV (pa pb : PEx) : PEx := fun env S k => pa env S fun x S1 => ∃ c, x = .bl c ∧ if c = true then k (.bl true) S1 else pb env S1 k
def pIf (pt : PTx) (pa pb : PEx) : PEx := fun env S k => pt env S fun c S1 => if c = true then pa env S1 k else pb env S1 k
def pB (pa : PEx) : PTx := fun env S k => pa env S fun x S1 => ∃ c, x = .bl c ∧ k c S1
def pAnd (pa pb : PTx) : PTx := fun env S k => pa env S fun c S1 => if c = true then pb env S1 k else k false S1
def pOr (pa pb : PTx) : PTx := fun env S k => pa env S fun c S1 => if c = true then k true S1 else pb env S1 k
def pNotT (pa : PTx) : PTx := fun env S k => pa env S fun c S1 => k (!c) S1
def pNoPart : POx := fun _ S k => k none S
def pPart (pa : PEx) : POx := fun env S k => pa env S fun x S1 => ∃ i, x = .int i ∧ k (some i) S1
def pCB (op : OpN) (pa : PAx) : PEx := fun env S k => pa env S fun xs S1 => op S1 xs fun d => k d S1
def pUnN (pa : PEx) : PEx := fun env S k => pa env S fun x S1 => ∃ i, x = .int i ∧ k (.int (-i)) S1
section
variable {K : PySem.W.Frag} {cl : Cl} {te ta tb : TE} {pe pa pb : PEx} {tt tu : TT} {pt pu : PTx} {tr : TA} {pr : PAx}
theorem sm_var {i : Nat} : SmE K cl (tVar i) (pVar i) := fun M ρ S H env σ g re k Q ⟨d, hd, hk⟩ q => by
  obtain ⟨v, hv, r⟩ := re.at' i d hd
  exact ⟨v, hv, q ρ H S d v .refl g r hk⟩
theorem sm_int {i : Int} : SmE K cl (tC (.int i)) (pC (.int i)) := fun M ρ S H env σ g re k Q h q => q ρ H S _ _ .refl g (.int i) h
theorem sm_str {i : Str} : SmE K cl (tC (.str i)) (pC (.str i)) := fun M ρ S H env σ g re k Q h q => q ρ H S _ _ .refl g (.str i) h
theorem sm_bl {i : Bool} : SmE K cl (tC (.bl i)) (pC (.bl i)) := fun M ρ S H env σ g re k Q h q => q ρ H S _ _ .refl g (.bl i) h
theorem sm_non : SmE K cl (tC .non) (pC .non) := fun M ρ S H env σ g re k Q h q => q ρ H S _ _ .refl g .non h
theorem sm_ty {i : String} : SmE K cl (tC (.ty i)) (pC (.ty i)) := fun M ρ S H env σ g re k Q h q => q ρ H S _ _ .refl g (.ty i) h
theorem sm_op {r : R2} {op : Op2} (hr : SmR K cl r op) (ha : SmE K cl ta pa) (hb : SmE K cl tb pb) : SmE K cl (tOp r ta tb) (pOp op pa pb) := fun M ρ S H env σ g re k Q h q =>
  ha M ρ S H env σ g re _ _ h fun ρ1 H1 S1 x v s1 g1 rx h1 => hb M ρ1 S1 H1 env σ g1 (re.up s1) _ _ h1 fun ρ2 H2 S2 y w s2 g2 ry h2 =>
    hr M ρ2 S2 H2 x y v w g2 (rx.up s2.pre s2.ex _ _) ry _ _ h2 fun H3 z u s3 g3 rz hk => q ρ2 H3 S2 z u ((s1.trans s2).trans s3) g3 rz hk
theorem sm_nil : SmA K cl tNil pNil := fun M ρ S H env σ g re k Q h q => q ρ H S _ _ .refl g .nil h
theorem sm_cons (ha : SmE K cl ta pa) (hr : SmA K cl tr pr) : SmA K cl (tCons ta tr) (pCons pa pr) := fun M ρ S H env σ g re k Q h q =>
  ha M ρ S H env σ g re _ _ h fun ρ1 H1 S1 x v s1 g1 rx h1 => hr M ρ1 S1 H1 env σ g1 (re.up s1) _ _ h1 fun ρ2 H2 S2 ys ws s2 g2 ry h2 =>
    q ρ2 H2 S2 _ _ (s1.trans s2) g2 (.cons (rx.up s2.pre s2.ex _ _) ry) h2
theorem sm_tup (hr : SmA K cl tr pr) : SmE K cl (tTup tr) (pTup pr) := fun M ρ S H env σ g re k Q h q =>
  hr M ρ S H env σ g re _ _ h fun ρ1 H1 S1 xs vs s1 g1 rx ⟨hl, hk⟩ => ⟨sz_of (by rw [rx.len]; exact hl), fun p hp => by
    obtain ⟨g2, s2, hc⟩ := g1.new (.tup vs) hp
    exact q ρ1 _ S1 _ _ (s1.trans s2) g2 (.tup (st_of hc) (rx.up s2.pre s2.ex _ _)) hk⟩
theorem sm_lst (hr : SmA K cl tr pr) : SmE K cl (tLst tr) (pLst pr) := fun M ρ S H env σ g re k Q h q =>
  hr M ρ S H env σ g re _ _ h fun ρ1 H1 S1 xs vs s1 g1 rx ⟨hl, hk⟩ => ⟨sz_of (by rw [rx.len]; exact hl), fun p hp => by
    obtain ⟨g2, s2, hc⟩ := g1.new (.lst vs) hp
    exact q ρ1 _ S1 _ _ (s1.trans s2) g2 (.lst hc (rx.up s2.pre s2.ex _ _)) hk⟩
theorem sm_lstM (hr : SmA K cl tr pr) : SmE K cl (tLst tr) (pLstM pr) := fun M ρ S H env σ g re k Q h q =>
  hr M ρ S H env σ g re _ _ h fun ρ1 H1 S1 xs vs s1 g1 rx ⟨hl, hk⟩ => ⟨sz_of (by rw [rx.len]; exact hl), fun p hp => by
    obtain ⟨g2, s2⟩ := g1.alloc (o := .lst vs) hp (.lst rx)
    exact q (ρ1 ++ [p]) _ _ _ _ (s1.trans s2) g2 (.ref (by rw [← g1.len, List.getElem?_append_right (Nat.le_refl _), Nat.sub_self]; rfl)) hk⟩
theorem rel_bl {ρ : List Addr} {H : Hp} {b : Bool} {v : V} (h : RelD K cl ρ H (.bl b) v) : v = .bl b := by cases h; rfl
theorem rel_int {ρ : List Addr} {H : Hp} {b : Int} {v : V} (h : RelD K cl ρ H (.int b) v) : v = .int b := by cases h; rfl
theorem rel_str {ρ : List Addr} {H : Hp} {b : Str} {v : V} (h : RelD K cl ρ H (.str b) v) : v = .str b := by cases h; rfl
theorem sm_not (ha : SmE K cl ta pa) : SmE K cl (tNotV ta) (pNot pa) := fun M ρ S H env σ g re k Q h q =>
  ha M ρ S H env σ g re _ _ h fun ρ1 H1 S1 x v s1 g1 rx ⟨b, e, hk⟩ => by
    subst e
    exact ⟨b, rel_bl rx, q ρ1 H1 S1 _ _ s1 g1 (.bl _) hk⟩
theorem sm_andV (ha : SmE K cl ta pa) (hb : SmE K cl tb pb) : SmE K cl (tAndV ta tb) (pAndV pa pb) := fun M ρ S H env σ g re k Q h q =>
  ha M ρ S H env σ g re _ _ h fun ρ1 H1 S1 x v s1 g1 rx ⟨b, e, hk⟩ => by
    subst e
    refine ⟨b, rel_bl rx, ?_⟩
    cases b with
    | true => exact hb M ρ1 S1 H1 env σ g1 (re.up s1) _ _ hk fun ρ2 H2 S2 y w s2 g2 ry h2 => q ρ2 H2 S2 y w (s1.trans s2) g2 ry h2
    | false => exact q ρ1 H1 S1 _ _ s1 g1 (.bl _) hk
theorem sm_orV (ha : SmE K cl ta pa) (hb : SmE K cl tb pb) : SmE K cl (tOrV ta tb) (pOrV pa pb) := fun M ρ S H env σ g re k Q h q =>
  ha M ρ S H env σ g re _ _ h fun ρ1 H1 S1 x v s1 g1 rx ⟨b, e, hk⟩ => by
    subst e
    refine ⟨b, rel_bl rx, ?_⟩
    cases b with
    | false => exact hb M ρ1 S1 H1 env σ g1 (re.up s1) _ _ hk fun ρ2 H2 S2 y w s2 g2 ry h2 => q ρ2 H2 S2 y w (s1.trans s2) g2 ry h2
    | true => exact q ρ1 H1 S1 _ _ s1 g1 (.bl _) hk
theorem sm_if (hc : SmT K cl tt pt) (ha : SmE K cl ta pa) (hb : SmE K cl tb pb) : SmE K cl (tIf tt ta tb) (pIf pt pa pb) := fun M ρ S H env σ g re k Q h q =>
  hc M ρ S H env σ g re _ _ h fun ρ1 H1 S1 b s1 g1 hk => by
    cases b with
    | false => exact hb M ρ1 S1 H1 env σ g1 (re.up s1) _ _ hk fun ρ2 H2 S2 y w s2 g2 ry h2 => q ρ2 H2 S2 y w (s1.trans s2) g2 ry h2
    | true => exact ha M ρ1 S1 H1 env σ g1 (re.up s1) _ _ hk fun ρ2 H2 S2 y w s2 g2 ry h2 => q ρ2 H2 S2 y w (s1.trans s2) g2 ry h2
theorem sm_B (ha : SmE K cl ta pa) : SmT K cl (tB ta) (pB pa) := fun M ρ S H env σ g re k Q h q =>
  ha M ρ S H env σ g re _ _ h fun ρ1 H1 S1 x v s1 g1 rx ⟨b, e, hk⟩ => by
    subst e
    exact ⟨b, rel_bl rx, q ρ1 H1 S1 _ s1 g1 hk⟩
theorem sm_test (ha : SmE K cl ta pa) : SmT K cl (tTest ta) (pB pa) := fun M ρ S H env σ g re k Q h q =>
  ha M ρ S H env σ g re _ _ h fun ρ1 H1 S1 x v s1 g1 rx ⟨b, e, hk⟩ => by
    subst e
    exact ⟨b, rel_bl rx, q ρ1 H1 S1 _ s1 g1 hk⟩
theorem sm_and (ha : SmT K cl tt pt) (hb : SmT K cl tu pu) : SmT K cl (tAnd tt tu) (pAnd pt pu) := fun M ρ S H env σ g re k Q h q =>
  ha M ρ S H env σ g re _ _ h fun ρ1 H1 S1 b s1 g1 hk => by
    cases b with
    | true => exact hb M ρ1 S1 H1 env σ g1 (re.up s1) _ _ hk fun ρ2 H2 S2 y s2 g2 h2 => q ρ2 H2 S2 y (s1.trans s2) g2 h2
    | false => exact q ρ1 H1 S1 _ s1 g1 hk
theorem sm_or (ha : SmT K cl tt pt) (hb : SmT K cl tu pu) : SmT K cl (tOr tt tu) (pOr pt pu) := fun M ρ S H env σ g re k Q h q =>
  ha M ρ S H env σ g re _ _ h fun ρ1 H1 S1 b s1 g1 hk => by
    cases b with
    | false => exact hb M ρ1 S1 H1 env σ g1 (re.up s1) _ _ hk fun ρ2 H2 S2 y s2 g2 h2 => q ρ2 H2 S2 y (s1.trans s2) g2 h2
    | true => exact q ρ1 H1 S1 _ s1 g1 hk
theorem sm_notT (ha : SmT K cl tt pt) : SmT K cl (tNot tt) (pNotT pt) := fun M ρ S H env σ g re k Q h q =>
  ha M ρ S H env σ g re _ _ h fun ρ1 H1 S1 b s1 g1 hk => q ρ1 H1 S1 _ s1 g1 hk
theorem sm_noPart : SmO K cl tNoPart pNoPart := fun M ρ S H env σ g re k Q h q => q ρ H S _ .refl g h
theorem sm_part (ha : SmE K cl ta pa) : SmO K cl (tPart ta) (pPart pa) := fun M ρ S H env σ g re k Q h q =>
  ha M ρ S H env σ g re _ _ h fun ρ1 H1 S1 x v s1 g1 rx ⟨i, e, hk⟩ => by
    subst e
    exact ⟨i, rel_int rx, q ρ1 H1 S1 _ s1 g1 hk⟩
theorem sm_cb {r : List V → Hp → VK → Prop} {op : OpN} (hr : SmC K cl r op) (ha : SmA K cl tr pr) : SmE K cl (tCB r tr) (pCB op pr) := fun M ρ S H env σ g re k Q h q =>
  ha M ρ S H env σ g re _ _ h fun ρ1 H1 S1 xs vs s1 g1 rx h1 => hr M ρ1 S1 H1 xs vs g1 rx _ _ h1 fun H2 d u s2 g2 rd hk => q ρ1 H2 S1 d u (s1.trans s2) g2 rd hk
theorem sm_neg (ha : SmE K cl ta pa) : SmE K cl (tUn (rU fun i => .int (-i)) ta) (pUnN pa) := fun M ρ S H env σ g re k Q h q =>
  ha M ρ S H env σ g re _ _ h fun ρ1 H1 S1 x v s1 g1 rx ⟨i, e, hk⟩ => by
    subst e
    exact ⟨i, rel_int rx, q ρ1 H1 S1 _ _ s1 g1 (.int _) hk⟩
end
end Pw
namespace Pw
open PySem PySem.Spec PyProof.Rows L2 Evl Lw
/-! ### operations, whatever the kinds of their operands -/
theorem or2 {X : Cx} {f : Value → Value → Sem Value} {r r' : R2} (h : OpR X f r) (h' : OpR X f r') : OpR X f (fun x y H Q => r x y H Q ∨ r' x y H Q) := by
  intro pins s σ H x y v u Q I rx ry q
  rcases q with q | q
  · exact h pins s σ H x y v u Q I rx ry q
  · exact h' pins s σ H x y v u Q I rx ry q
def rCatS : R2 := fun x y H Q => ∃ i j, x = .str i ∧ y = .str j ∧ i.length + j.length ≤ sizeLine ∧ Q (.str (i ++ j)) H
def uAdd (K : PySem.W.Frag) : R2 := fun x y H Q => rI0 (fun i j => .int (i + j)) x y H Q ∨ rCatS x y H Q ∨ rCatA K x y H Q ∨ rCat x y H Q
theorem uop_add {X : Cx} : OpR X (binaryOp .Add) (uAdd X.K) := or2 op_add (or2 op_add_str (or2 op_catA op_cat))
def uMul : R2 := fun x y H Q => rI CMul (fun i j => .int (i * j)) x y H Q ∨ rMulStr x y H Q ∨ rRep x y H Q
theorem uop_mul {X : Cx} : OpR X (binaryOp .Mult) uMul := or2 op_mul (or2 op_mul_str op_rep)
def uIx (K : PySem.W.Frag) : R2 := fun x y H Q => rIxL K x y H Q ∨ rIxT K x y H Q ∨ rIxS x y H Q
theorem uix {X : Cx} : IxR X (uIx X.K) := ix_list.or (ix_tup.or ix_str)
def uIn (K : PySem.W.Frag) : R2 := fun x y H Q => rInD K false x y H Q ∨ rInS x y H Q
theorem uop_in {X : Cx} (hu : X.A.units + 64 < cLine) : OpR X (compareOp .In) (uIn X.K) := or2 (op_inD hu) op_inS
def uNi (K : PySem.W.Frag) : R2 := fun x y H Q => rInD K true x y H Q ∨ rNotInS x y H Q
theorem uop_ni {X : Cx} (hu : X.A.units + 64 < cLine) : OpR X (compareOp .NotIn) (uNi X.K) := or2 (op_niD hu) op_notInS
def uLen (K : PySem.W.Frag) : List V → Hp → VK → Prop := fun xs H Q => (∃ z, xs = [.str z] ∧ z.length ≤ sizeLine ∧ Q (.int z.length) H) ∨ (∃ p ys, xs = [.ref p] ∧ (SqL K H p ys ∨ SqT K H p ys) ∧ Q (.int ys.length) H)
theorem ucall_len {X : Cx} : CallR X (.builtin "len") (uLen X.K) := call_len_str.or call_len_seq
def uSl (K : PySem.W.Frag) : V → Option Int → Option Int → Hp → VK → Prop := fun x lo hi H Q => rSlL K x lo hi H Q ∨ rSlA K x lo hi H Q ∨ rSlS x lo hi H Q
theorem usl {X : Cx} : SlR X (uSl X.K) := sl_list.or (sl_tupA.or sl_str)
/-- the list that is meant -/
def listOf (S : Sto) : D → Option (List D)
  | .lst ds => some ds
  | .ref n => match S[n]? with
    | some (.lst ds) => some ds
    | _ => none
  | _ => none
def addk : Op2 := fun S x y k => match x, y with
  | .int i, .int j => k (.int (i + j))
  | .str a, .str b => a.length + b.length ≤ 100000 ∧ k (.str (a ++ b))
  | .tup a, .tup b => a.length + b.length ≤ 100000 ∧ k (.tup (a ++ b))
  | x, y => ∃ a b, listOf S x = some a ∧ listOf S y = some b ∧ a.length + b.length ≤ 100000 ∧ k (.lst (a ++ b))
def subk : Op2 := fun _ x y k => match x, y with
  | .int i, .int j => k (.int (i - j))
  | _, _ => False
def mulk : Op2 := fun S x y k => match x, y with
  | .int i, .int j => CMul i j ∧ k (.int (i * j))
  | .str a, .int n => (1 ≤ n ∧ n ≤ 20000 ∧ a.length ≤ 200) ∧ k (.str (Txt.mul a n))
  | x, .int n => ∃ a, listOf S x = some a ∧ (0 ≤ n ∧ n ≤ 10000 ∧ a.length ≤ 10) ∧ k (.lst (List.replicate n.toNat a).flatten)
  | _, _ => False
def divk : Op2 := fun _ x y k => match x, y with
  | .int i, .int j => (0 < j ∧ j < 1073741824) ∧ k (.int (i / j))
  | _, _ => False
def modk : Op2 := fun _ x y k => match x, y with
  | .int i, .int j => 0 < j ∧ k (.int (i % j))
  | _, _ => False
def cmpk (f : Int → Int → Bool) : Op2 := fun _ x y k => match x, y with
  | .int i, .int j => k (.bl (f i j))
  | _, _ => False
def eqk : Op2 := fun S x y k => (rs S x).pure = true ∧ (rs S y).pure = true ∧ (rs S x).dep ≤ 60 ∧ k (.bl (D.eqv (rs S x) (rs S y)))
def nek : Op2 := fun S x y k => (rs S x).pure = true ∧ (rs S y).pure = true ∧ (rs S x).dep ≤ 60 ∧ k (.bl (!D.eqv (rs S x) (rs S y)))
def isk : Op2 := fun _ x y k => y = .non ∧ k (.bl (isNon x))
def ink : Op2 := fun S x y k => match y with
  | .str z => ∃ c, x = .str ⟨#[c]⟩ ∧ k (.bl (decide (c ∈ z.cps.toList)))
  | y => ∃ es, itemsOf S y = some es ∧ pureAll es = true ∧ x.pure = true ∧ x.dep ≤ 60 ∧ k (.bl (es.any fun z => D.eqv z x))
def nik : Op2 := fun S x y k => match y with
  | .str z => ∃ c, x = .str ⟨#[c]⟩ ∧ k (.bl (!decide (c ∈ z.cps.toList)))
  | y => ∃ es, itemsOf S y = some es ∧ pureAll es = true ∧ x.pure = true ∧ x.dep ≤ 60 ∧ k (.bl (!es.any fun z => D.eqv z x))
def nsk : Op2 := fun _ x y k => y = .non ∧ k (.bl (!isNon x))
def ixk : Op2 := fun S x y k => match y with
  | .int i => match x with
    | .str z => ∃ c, z.length ≤ 100000 ∧ atI z.cps.toList i = some c ∧ k (.str ⟨#[c]⟩)
    | x => ∃ ds d, itemsOf S x = some ds ∧ atI ds i = some d ∧ k d
  | _ => False
def lenk : OpN := fun S xs k => match xs with
  | [.str z] => z.length ≤ 100000 ∧ k (.int z.length)
  | [x] => ∃ ds, itemsOf S x = some ds ∧ k (.int ds.length)
  | _ => False
def int1k : OpN := fun _ xs k => match xs with
  | [.int i] => k (.int i)
  | [.bl b] => k (.int (if b = true then 1 else 0))
  | _ => False
def strIk : OpN := fun _ xs k => match xs with
  | [.int i] => i.natAbs.log2 < 1920 ∧ k (.str (toString i))
  | _ => False
def max2k : OpN := fun _ xs k => match xs with
  | [.int i, .int j] => k (.int (if j > i then j else i))
  | _ => False
def min2k : OpN := fun _ xs k => match xs with
  | [.int i, .int j] => k (.int (if j < i then j else i))
  | _ => False
/-- tuple(xs) -/
def tupk : OpN := fun S xs k => match xs with
  | [.tup ds] => k (.tup ds)
  | [x] => ∃ ds, listOf S x = some ds ∧ k (.tup ds)
  | _ => False
/-- list(xs), not to be changed -/
def lstk : OpN := fun S xs k => match xs with
  | [x] => ∃ ds, itemsOf S x = some ds ∧ k (.lst ds)
  | _ => False
def cutD (xs : List D) (lo hi : Option Int) : List D := (xs.drop (HT.sIx xs.length 0 lo)).take (HT.sIx xs.length xs.length hi - HT.sIx xs.length 0 lo)
def slk (S : Sto) (x : D) (lo hi : Option Int) (k : D → Prop) : Prop := match x with
  | .str z => z.length ≤ 100000 ∧ k (.str (cutS z lo hi))
  | .tup ds => k (.tup (cutD ds lo hi))
  | x => ∃ ds, listOf S x = some ds ∧ k (.lst (cutD ds lo hi))
def pSl (pa : PEx) (pl ph : POx) : PEx := fun env S k => pa env S fun x S1 => pl env S1 fun l S2 => ph env S2 fun u S3 => slk S3 x l u fun d => k d S3
section
variable {K : PySem.W.Frag} {cl : Cl} {M : Addr → Prop} {ρ ρ' : List Addr} {S : Sto} {H H' : Hp} {env : Env} {σ : L2.St}
theorem list_at (g : G K cl M ρ S H) {d : D} {v : V} {ds : List D} (r : RelD K cl ρ (cut (NM M ρ) H) d v) (h : listOf S d = some ds) :
    ∃ a vs, v = .ref a ∧ H a = some (.lst vs) ∧ RelAll K cl ρ (cut (NM M ρ) H) ds vs := by
  cases r with
  | lst hs ha => cases h; exact ⟨_, _, rfl, cut_sub _ _ hs, ha⟩
  | @ref n a hn =>
    unfold listOf at h
    simp only at h
    split at h
    · rename_i ds' he
      cases h
      obtain ⟨vs, hv, r⟩ := g.lstAt hn he
      exact ⟨a, vs, rfl, hv, r⟩
    · cases h
  | _ => cases h
/-- a new list that no one changes -/
theorem fin_lst (g : G K cl M ρ S H) {ds : List D} {vs : List V} (r : RelAll K cl ρ (cut (NM M ρ) H) ds vs) {k : D → Prop} {Q : VK} (hk : k (.lst ds))
    (q : ∀ H' d u, Stp M ρ H ρ H' → G K cl M ρ S H' → RelD K cl ρ (cut (NM M ρ) H') d u → k d → Q u H') (p : Addr) (hp : H p = none) : Q (.ref p) (upd H p (.lst vs)) := by
  obtain ⟨g2, s2, hc⟩ := g.new (.lst vs) hp
  exact q _ _ _ s2 g2 (.lst hc (r.up s2.pre s2.ex _ _)) hk
theorem fin_tup (g : G K cl M ρ S H) {ds : List D} {vs : List V} (r : RelAll K cl ρ (cut (NM M ρ) H) ds vs) {k : D → Prop} {Q : VK} (hk : k (.tup ds))
    (q : ∀ H' d u, Stp M ρ H ρ H' → G K cl M ρ S H' → RelD K cl ρ (cut (NM M ρ) H') d u → k d → Q u H') (p : Addr) (hp : H p = none) : Q (.ref p) (upd H p (.tup vs)) := by
  obtain ⟨g2, s2, hc⟩ := g.new (.tup vs) hp
  exact q _ _ _ s2 g2 (.tup (st_of hc) (r.up s2.pre s2.ex _ _)) hk
end
section
variable {K : PySem.W.Frag} {cl : Cl}
theorem smr_add : SmR K cl (uAdd K) addk := by
  intro M ρ S H x y v w g rx ry k Q h q
  have lists : (∃ a b, listOf S x = some a ∧ listOf S y = some b ∧ a.length + b.length ≤ 100000 ∧ k (.lst (a ++ b))) → uAdd K v w H Q := by
    rintro ⟨a, b, ha, hb, hl, hk⟩
    obtain ⟨p, vs, rfl, h1, r1⟩ := list_at g rx ha
    obtain ⟨p2, ws, rfl, h2, r2⟩ := list_at g ry hb
    exact .inr (.inr (.inr ⟨p, p2, vs, ws, rfl, rfl, h1, h2, sz_of (by rw [r1.len, r2.len]; exact hl), fin_lst g (r1.app r2) hk q⟩))
  cases x with
  | int i =>
    cases y with
    | int j =>
      rw [rel_int rx, rel_int ry]
      exact .inl ⟨i, j, rfl, rfl, q H _ _ .refl g (.int _) h⟩
    | _ => exact lists h
  | str i =>
    cases y with
    | str j =>
      rw [rel_str rx, rel_str ry]
      exact .inr (.inl ⟨i, j, rfl, rfl, sz_of h.1, q H _ _ .refl g (.str _) h.2⟩)
    | _ => exact lists h
  | tup a =>
    cases y with
    | tup b =>
      have hk := h.2
      have hr := h.1
      cases rx with
      | tup hs ha => cases ry with
        | tup ht hb =>
          refine .inr (.inr (.inl ⟨_, _, _, _, rfl, rfl, ex_t cut_sub hs, ex_t cut_sub ht, sz_of (by rw [ha.len, hb.len]; exact hr), fun h0 => ?_, fun h0 h1 => ?_, fun h0 h1 p hp => fin_tup g (ha.app hb) hk q p hp⟩))
          · subst h0
            cases ha
            exact q H _ _ .refl g (.tup ht hb) hk
          · subst h1
            cases hb
            rw [List.append_nil] at hk
            exact q H _ _ .refl g (.tup hs ha) hk
    | _ => exact lists h
  | _ => exact lists h
theorem smr_sub : SmR K cl (rI0 fun i j => .int (i - j)) subk := by
  intro M ρ S H x y v w g rx ry k Q h q
  cases x with
  | int i => cases y with
    | int j =>
      rw [rel_int rx, rel_int ry]
      exact ⟨i, j, rfl, rfl, q H _ _ .refl g (.int _) h⟩
    | _ => exact h.elim
  | _ => exact h.elim
theorem smr_mul : SmR K cl uMul mulk := by
  intro M ρ S H x y v w g rx ry k Q h q
  cases y with
  | int n =>
    have hw := rel_int ry
    subst hw
    have lists : (∃ a, listOf S x = some a ∧ (0 ≤ n ∧ n ≤ 10000 ∧ a.length ≤ 10) ∧ k (.lst (List.replicate n.toNat a).flatten)) → uMul v (.int n) H Q := by
      rintro ⟨a, ha, ⟨h1, h2, h3⟩, hk⟩
      obtain ⟨p, vs, rfl, hp, r1⟩ := list_at g rx ha
      have rep : ∀ m : Nat, RelAll K cl ρ (cut (NM M ρ) H) (List.replicate m a).flatten (List.replicate m vs).flatten := by
        intro m
        induction m with
        | zero => exact .nil
        | succ m ih =>
          rw [List.replicate_succ, List.replicate_succ, List.flatten_cons, List.flatten_cons]
          exact r1.app ih
      have hsz : vs.length * n.toNat ≤ 100000 := by
        rw [r1.len]
        have : n.toNat ≤ 10000 := by omega
        exact Nat.le_trans (Nat.mul_le_mul h3 this) (by decide)
      exact .inr (.inr ⟨p, n, vs, rfl, rfl, hp, by omega, by omega, sz_of hsz, fin_lst g (rep n.toNat) hk q⟩)
    cases x with
    | int i =>
      rw [rel_int rx]
      exact .inl ⟨i, n, rfl, rfl, h.1, q H _ _ .refl g (.int _) h.2⟩
    | str i =>
      rw [rel_str rx]
      exact .inr (.inl ⟨i, n, rfl, rfl, h.1.1, h.1.2.1, h.1.2.2, q H _ _ .refl g (.str _) h.2⟩)
    | _ => exact lists h
  | _ => cases x <;> exact h.elim
theorem smr_div : SmR K cl (rI CDiv fun i j => .int (i / j)) divk := by
  intro M ρ S H x y v w g rx ry k Q h q
  cases x with
  | int i => cases y with
    | int j =>
      rw [rel_int rx, rel_int ry]
      exact ⟨i, j, rfl, rfl, h.1, q H _ _ .refl g (.int _) h.2⟩
    | _ => exact h.elim
  | _ => exact h.elim
theorem smr_mod : SmR K cl (rI (fun _ j => 0 < j) fun i j => .int (i % j)) modk := by
  intro M ρ S H x y v w g rx ry k Q h q
  cases x with
  | int i => cases y with
    | int j =>
      rw [rel_int rx, rel_int ry]
      exact ⟨i, j, rfl, rfl, h.1, q H _ _ .refl g (.int _) h.2⟩
    | _ => exact h.elim
  | _ => exact h.elim
theorem smr_cmp {f : Int → Int → Bool} : SmR K cl (rI0 fun i j => .bl (f i j)) (cmpk f) := by
  intro M ρ S H x y v w g rx ry k Q h q
  cases x with
  | int i => cases y with
    | int j =>
      rw [rel_int rx, rel_int ry]
      exact ⟨i, j, rfl, rfl, q H _ _ .refl g (.bl _) h⟩
    | _ => exact h.elim
  | _ => exact h.elim
theorem smr_eq : SmR K cl (rEqP K) eqk := fun M ρ S H x y v w g rx ry k Q ⟨h1, h2, h3, hk⟩ q =>
  ⟨_, _, dp_of _ _ h1 (rs_rel g rx), dp_of _ _ h2 (rs_rel g ry), plain_py _, plain_py _, h3, q H _ _ .refl g (.bl _) hk⟩
theorem smr_ne : SmR K cl (rNeP K) nek := fun M ρ S H x y v w g rx ry k Q ⟨h1, h2, h3, hk⟩ q =>
  ⟨_, _, dp_of _ _ h1 (rs_rel g rx), dp_of _ _ h2 (rs_rel g ry), plain_py _, plain_py _, h3, q H _ _ .refl g (.bl _) hk⟩
theorem isNon_of {ρ : List Addr} {H : Hp} {d : D} {v : V} (h : RelD K cl ρ H d v) : decide (v = .non) = isNon d := by
  cases h <;> rfl
theorem smr_is : SmR K cl (fun x y H Q => y = .non ∧ Q (.bl (decide (x = .non))) H) isk := fun M ρ S H x y v w g rx ry k Q ⟨h1, hk⟩ q => by
  subst h1
  cases ry
  refine ⟨rfl, ?_⟩
  rw [isNon_of rx]
  exact q H _ _ .refl g (.bl _) hk
theorem smr_ns : SmR K cl (fun x y H Q => y = .non ∧ Q (.bl (!decide (x = .non))) H) nsk := fun M ρ S H x y v w g rx ry k Q ⟨h1, hk⟩ q => by
  subst h1
  cases ry
  refine ⟨rfl, ?_⟩
  rw [isNon_of rx]
  exact q H _ _ .refl g (.bl _) hk
theorem pys_map : ∀ ds : List D, pyAll ds = ds.map D.py
  | [] => rfl
  | d :: ds => by rw [pyAll, List.map_cons, pys_map ds]
theorem any_py (es : List D) (x : D) : ((pyAll es).any fun z => PyData.eqv z x.py) = es.any fun z => D.eqv z x := by
  rw [pys_map, List.any_map]
  rfl
theorem smr_in : SmR K cl (uIn K) ink := by
  intro M ρ S H x y v w g rx ry k Q h q
  have seqs : (∃ es, itemsOf S y = some es ∧ pureAll es = true ∧ x.pure = true ∧ x.dep ≤ 60 ∧ k (.bl (es.any fun z => D.eqv z x))) → uIn K v w H Q := by
    rintro ⟨es, he, hp, hx, hd, hk⟩
    obtain ⟨a, vs, rfl, hs, r⟩ := items_sq g ry he
    have dp := dps_of es vs hp r.full
    refine .inl ⟨x.py, pyAll es, dp_of x v hx rx.full, ?_, plain_pys _, plain_py _, hd, ?_⟩
    · rcases hs with hs | hs
      · exact .inl (.lst hs dp)
      · exact .inr (.tup hs dp)
    · rw [any_py]
      exact q H _ _ .refl g (.bl _) hk
  cases y with
  | str z =>
    obtain ⟨c, rfl, hk⟩ := h
    rw [rel_str rx, rel_str ry]
    exact .inr ⟨c, z, rfl, rfl, q H _ _ .refl g (.bl _) hk⟩
  | _ => exact seqs h
theorem smr_ni : SmR K cl (uNi K) nik := by
  intro M ρ S H x y v w g rx ry k Q h q
  have seqs : (∃ es, itemsOf S y = some es ∧ pureAll es = true ∧ x.pure = true ∧ x.dep ≤ 60 ∧ k (.bl (!es.any fun z => D.eqv z x))) → uNi K v w H Q := by
    rintro ⟨es, he, hp, hx, hd, hk⟩
    obtain ⟨a, vs, rfl, hs, r⟩ := items_sq g ry he
    have dp := dps_of es vs hp r.full
    refine .inl ⟨x.py, pyAll es, dp_of x v hx rx.full, ?_, plain_pys _, plain_py _, hd, ?_⟩
    · rcases hs with hs | hs
      · exact .inl (.lst hs dp)
      · exact .inr (.tup hs dp)
    · rw [if_pos rfl, any_py]
      exact q H _ _ .refl g (.bl _) hk
  cases y with
  | str z =>
    obtain ⟨c, rfl, hk⟩ := h
    rw [rel_str rx, rel_str ry]
    exact .inr ⟨c, z, rfl, rfl, q H _ _ .refl g (.bl _) hk⟩
  | _ => exact seqs h
theorem smr_ix : SmR K cl (uIx K) ixk := by
  intro M ρ S H x y v w g rx ry k Q h q
  cases y with
  | int i =>
    have hw := rel_int ry
    subst hw
    have seqs : (∃ ds d, itemsOf S x = some ds ∧ atI ds i = some d ∧ k d) → uIx K v (.int i) H Q := by
      rintro ⟨ds, d, he, hi, hk⟩
      obtain ⟨a, vs, rfl, hs, r⟩ := items_sq g rx he
      obtain ⟨u, hu, ru⟩ := r.atI hi
      rcases hs with hs | hs
      · exact .inl ⟨a, vs, i, u, rfl, rfl, hs, hu, q H _ _ .refl g ru hk⟩
      · exact .inr (.inl ⟨a, vs, i, u, rfl, rfl, hs, hu, q H _ _ .refl g ru hk⟩)
    cases x with
    | str z =>
      obtain ⟨c, hz, hc, hk⟩ := h
      rw [rel_str rx]
      exact .inr (.inr ⟨z, i, c, rfl, rfl, sz_of hz, hc, q H _ _ .refl g (.str _) hk⟩)
    | _ => exact seqs h
  | _ => exact h.elim
theorem all1 {ρ : List Addr} {H : Hp} {d : D} {vs : List V} (h : RelAll K cl ρ H [d] vs) : ∃ v, vs = [v] ∧ RelD K cl ρ H d v := by
  cases h with
  | cons a h => cases h; exact ⟨_, rfl, a⟩
theorem all2 {ρ : List Addr} {H : Hp} {d e : D} {vs : List V} (h : RelAll K cl ρ H [d, e] vs) : ∃ v w, vs = [v, w] ∧ RelD K cl ρ H d v ∧ RelD K cl ρ H e w := by
  cases h with
  | cons a h => cases h with
    | cons b h => cases h; exact ⟨_, _, rfl, a, b⟩
theorem smc_len : SmC K cl (uLen K) lenk := by
  intro M ρ S H xs vs g r k Q h q
  match xs, h with
  | [.str z], h =>
    obtain ⟨v, rfl, r1⟩ := all1 r
    rw [rel_str r1]
    exact .inl ⟨z, rfl, sz_of h.1, q H _ _ .refl g (.int _) h.2⟩
  | [.non], ⟨ds, e, hk⟩ | [.bl _], ⟨ds, e, hk⟩ | [.int _], ⟨ds, e, hk⟩ | [.ty _], ⟨ds, e, hk⟩ | [.obj _ _ _], ⟨ds, e, hk⟩ => cases e
  | [.tup _], ⟨ds, e, hk⟩ | [.lst _], ⟨ds, e, hk⟩ | [.scr _], ⟨ds, e, hk⟩ | [.ref _], ⟨ds, e, hk⟩ =>
    obtain ⟨v, rfl, r1⟩ := all1 r
    obtain ⟨a, ws, rfl, hs, r2⟩ := items_sq g r1 e
    refine .inr ⟨a, ws, rfl, hs, ?_⟩
    rw [r2.len]
    exact q H _ _ .refl g (.int _) hk
  | [], h => exact h.elim
  | _ :: _ :: _, h => simp [lenk] at h
theorem smc_int : SmC K cl (fun xs H Q => (∃ i, xs = [V.int i] ∧ Q (V.int i) H) ∨ ∃ k, xs = [V.bl k] ∧ Q (V.int (if k = true then 1 else 0)) H) int1k := by
  intro M ρ S H xs vs g r k Q h q
  match xs, h with
  | [.int i], h =>
    obtain ⟨v, rfl, r1⟩ := all1 r
    rw [rel_int r1]
    exact .inl ⟨i, rfl, q H _ _ .refl g (.int _) h⟩
  | [.bl b], h =>
    obtain ⟨v, rfl, r1⟩ := all1 r
    rw [rel_bl r1]
    exact .inr ⟨b, rfl, q H _ _ .refl g (.int _) h⟩
  | [.non], h | [.str _], h | [.ty _], h | [.obj _ _ _], h | [.tup _], h | [.lst _], h | [.scr _], h | [.ref _], h => exact h.elim
  | [], h => exact h.elim
  | _ :: _ :: _, h => simp [int1k] at h
theorem smc_strI : SmC K cl (fun xs H Q => ∃ i : Int, xs = [.int i] ∧ i.natAbs.log2 < 1920 ∧ Q (.str (toString i)) H) strIk := by
  intro M ρ S H xs vs g r k Q h q
  match xs, h with
  | [.int i], h =>
    obtain ⟨v, rfl, r1⟩ := all1 r
    rw [rel_int r1]
    exact ⟨i, rfl, h.1, q H _ _ .refl g (.str _) h.2⟩
  | [.bl b], h | [.non], h | [.str _], h | [.ty _], h | [.obj _ _ _], h | [.tup _], h | [.lst _], h | [.scr _], h | [.ref _], h => exact h.elim
  | [], h => exact h.elim
  | _ :: _ :: _, h => simp [strIk] at h
theorem smc_max2 : SmC K cl (fun xs H Q => ∃ i j : Int, xs = [V.int i, V.int j] ∧ Q (V.int (if j > i then j else i)) H) max2k := by
  intro M ρ S H xs vs g r k Q h q
  unfold max2k at h
  split at h
  · obtain ⟨v, w, rfl, r1, r2⟩ := all2 r
    rw [rel_int r1, rel_int r2]
    exact ⟨_, _, rfl, q H _ _ .refl g (.int _) h⟩
  · exact h.elim
theorem smc_min2 : SmC K cl (fun xs H Q => ∃ i j : Int, xs = [V.int i, V.int j] ∧ Q (V.int (if j < i then j else i)) H) min2k := by
  intro M ρ S H xs vs g r k Q h q
  unfold min2k at h
  split at h
  · obtain ⟨v, w, rfl, r1, r2⟩ := all2 r
    rw [rel_int r1, rel_int r2]
    exact ⟨_, _, rfl, q H _ _ .refl g (.int _) h⟩
  · exact h.elim
theorem smc_tup : SmC K cl (fun xs H Q => ∃ p ys, xs = [.ref p] ∧ ((SqL K H p ys ∧ ∀ l, H l = none → Q (.ref l) (upd H l (.tup ys))) ∨ (SqT K H p ys ∧ Q (.ref p) H))) tupk := by
  intro M ρ S H xs vs g r k Q h q
  have lists : ∀ x, xs = [x] → (∃ ds, listOf S x = some ds ∧ k (.tup ds)) → ∃ p ys, vs = [.ref p] ∧ ((SqL K H p ys ∧ ∀ l, H l = none → Q (.ref l) (upd H l (.tup ys))) ∨ (SqT K H p ys ∧ Q (.ref p) H)) := by
    rintro x rfl ⟨ds, e, hk⟩
    obtain ⟨v, rfl, r1⟩ := all1 r
    obtain ⟨a, ws, rfl, hs, r2⟩ := list_at g r1 e
    exact ⟨a, ws, rfl, .inl ⟨sq_of hs, fin_tup g r2 hk q⟩⟩
  unfold tupk at h
  split at h
  · obtain ⟨v, rfl, r1⟩ := all1 r
    cases r1 with
    | tup hs ha => exact ⟨_, _, rfl, .inr ⟨ex_t cut_sub hs, q H _ _ .refl g (.tup hs ha) h⟩⟩
  · exact lists _ rfl h
  · exact h.elim
theorem smc_lst : SmC K cl (fun xs H Q => ∃ p ys, xs = [.ref p] ∧ (SqL K H p ys ∨ SqT K H p ys) ∧ ∀ l, H l = none → Q (.ref l) (upd H l (.lst ys))) lstk := by
  intro M ρ S H xs vs g r k Q h q
  unfold lstk at h
  split at h
  · obtain ⟨ds, e, hk⟩ := h
    obtain ⟨v, rfl, r1⟩ := all1 r
    obtain ⟨a, ws, rfl, hs, r2⟩ := items_sq g r1 e
    exact ⟨a, ws, rfl, hs, fin_lst g r2 hk q⟩
  · exact h.elim
theorem relCut {ρ : List Addr} {H : Hp} {ds : List D} {vs : List V} (r : RelAll K cl ρ H ds vs) (lo hi : Option Int) : RelAll K cl ρ H (cutD ds lo hi) (cutV vs lo hi) := by
  unfold cutD cutV
  rw [r.len]
  exact (r.dropN _).takeN _
theorem sm_sl {te : TE} {tl th : TO} {pe : PEx} {pl ph : POx} (he : SmE K cl te pe) (hl : SmO K cl tl pl) (hh : SmO K cl th ph) : SmE K cl (tSl (uSl K) te tl th) (pSl pe pl ph) := fun M ρ S H env σ g re k Q h q =>
  he M ρ S H env σ g re _ _ h fun ρ1 H1 S1 x v s1 g1 rx h1 => hl M ρ1 S1 H1 env σ g1 (re.up s1) _ _ h1 fun ρ2 H2 S2 lo s2 g2 h2 =>
    hh M ρ2 S2 H2 env σ g2 (re.up (s1.trans s2)) _ _ h2 fun ρ3 H3 S3 hi s3 g3 h3 => by
      have s13 := s2.trans s3
      have rx3 := rx.up s13.pre s13.ex _ _
      have s03 := s1.trans s13
      have lists : (∃ ds, listOf S3 x = some ds ∧ k (.lst (cutD ds lo hi)) S3) → uSl K v lo hi H3 Q := by
        rintro ⟨ds, e, hk⟩
        obtain ⟨a, ws, rfl, hs, r2⟩ := list_at g3 rx3 e
        exact .inl ⟨a, ws, rfl, sq_of hs, fin_lst g3 (relCut r2 lo hi) (k := fun d => k d S3) hk fun H4 d u s4 g4 r4 hk => q ρ3 H4 S3 d u (s03.trans s4) g4 r4 hk⟩
      cases x with
      | str z =>
        rw [rel_str rx3]
        exact .inr (.inr ⟨z, rfl, sz_of h3.1, q ρ3 H3 S3 _ _ s03 g3 (.str _) h3.2⟩)
      | tup ds =>
        have hk : k (.tup (cutD ds lo hi)) S3 := h3
        cases rx3 with
        | tup hs ha =>
          refine .inr (.inl ⟨_, _, rfl, ex_t cut_sub hs, fun hw => ?_, fun hw p hp => ?_⟩)
          · have e : cutD ds lo hi = ds := by
              unfold cutD
              rw [← ha.len, hw.1, hw.2]
              simp [ha.len]
            rw [e] at hk
            exact q ρ3 H3 S3 _ _ s03 g3 (.tup hs ha) hk
          · exact fin_tup g3 (relCut ha lo hi) (k := fun d => k d S3) hk (fun H4 d u s4 g4 r4 hk => q ρ3 H4 S3 d u (s03.trans s4) g4 r4 hk) p hp
      | _ => exact lists h3
end
end Pw
namespace Pw
open PySem PySem.Spec PyProof.Rows L2 Evl Lw
/-! ### what loops walk -/
def iterOf (S : Sto) : D → Option (List D)
  | .str z => some (z.cps.toList.map fun c => .str ⟨#[c]⟩)
  | d => itemsOf S d
def rngD (n : Nat) : List D := (List.range n).map fun (i : Nat) => .int (i : Int)
def rngD2 (lo : Int) (n : Nat) : List D := (List.range n).map fun (i : Nat) => .int (lo + (i : Int))
def uIt (K : PySem.W.Frag) (tl : TE) : TI := fun σ H R => tl σ H fun x H1 => (∃ a, x = .ref a ∧ (((∃ xs, SqL K H1 a xs) ∧ R (Itl K a) H1) ∨ ((∃ xs, SqT K H1 a xs) ∧ R (Itt K a) H1))) ∨ (∃ z, x = .str z ∧ R (Its z) H1)
theorem upi {X : Cx} {tg l : Expr} {tl : TE} (hl : PE X l tl) : PI X tg l (uIt X.K tl) := by
  refine ⟨fun pins s σ H R I h => thn (hl.run pins s σ H _ I h) fun v s1 ⟨x, H1, I1, r1, q⟩ => ?_⟩
  rcases q with ⟨a, ex, q⟩ | ⟨z, ex, q⟩
  · subst ex
    cases r1
    rcases q with ⟨⟨xs, hq⟩, q⟩ | ⟨⟨xs, hq⟩, q⟩
    · obtain ⟨its, _, p, _⟩ := I1.list hq
      refine wpAny_pyIter_list p.isList ⟨s1.heap.objs.size, [s1.heap.objs.size], _, _, H1, rfl, I1.kept (t' := s1.toks) fun b o e => Heap.get?_push_of_some _ e, turn_list a _, ⟨_, Heap.get?_push_size _ rfl, rfl, rfl⟩, fun b hb => ?_, q⟩
      obtain rfl : b = s1.heap.objs.size := List.mem_singleton.mp hb
      exact I1.fpOk (Nat.le_refl _) (I1.hok.fresh (Nat.le_refl _))
    · obtain ⟨its, _, p, _⟩ := I1.tuple hq
      refine wpAny_pyIter_tuple (show s1.heap.IsTuple a its.toArray from p) ⟨s1.heap.objs.size, [s1.heap.objs.size], _, _, H1, rfl, I1.kept (t' := s1.toks) fun b o e => Heap.get?_push_of_some _ e, turn_tuple a _, ⟨_, Heap.get?_push_size _ rfl, rfl, rfl⟩, fun b hb => ?_, q⟩
      obtain rfl : b = s1.heap.objs.size := List.mem_singleton.mp hb
      exact I1.fpOk (Nat.le_refl _) (I1.hok.fresh (Nat.le_refl _))
  · subst ex
    obtain ⟨t, rfl⟩ := r1
    cases ha : z.cps.all (· < 128)
    · exact wpAny_pyIter_wide ha (pi_one (tk := s1.toks) I1 _ (turn_str _ z t "str_iterator" (.inr rfl)) ⟨_, Heap.get?_push_size _ rfl, rfl, rfl⟩ q)
    · exact wpAny_pyIter_ascii ha (pi_one (tk := s1.toks) I1 _ (turn_str _ z t "str_ascii_iterator" (.inl rfl)) ⟨_, Heap.get?_push_size _ rfl, rfl, rfl⟩ q)
def pIt (pa : PEx) : PIx := fun env S k => pa env S fun x S1 => ∃ ds, iterOf S1 x = some ds ∧ k x ds S1
def pRng1 (pa : PAx) : PIx := fun env S k => pa env S fun xs S1 => ∃ n : Int, xs = [.int n] ∧ (-100000 ≤ n ∧ n ≤ 100000) ∧ k (.lst (rngD n.toNat)) (rngD n.toNat) S1
def pRng2 (pa : PAx) : PIx := fun env S k => pa env S fun xs S1 => ∃ lo n : Int, xs = [.int lo, .int n] ∧ (-100000 ≤ lo ∧ lo ≤ 100000 ∧ -100000 ≤ n ∧ n ≤ 100000) ∧ k (.lst (rngD2 lo (n - lo).toNat)) (rngD2 lo (n - lo).toNat) S1
section
variable (K : PySem.W.Frag) (cl : Cl)
def ItOk (J : It) (src : D) (ds : List D) (M : Addr → Prop) (ρ0 : List Addr) (H0 : Hp) : Prop := ∀ (M' : Addr → Prop) (ρ : List Addr) (S : Sto) (H : Hp), ρ0 <+: ρ → Ex (cut (NM M ρ0) H0) (cut (NM M' ρ) H) → G K cl M' ρ S H → iterOf S src = some ds →
  (∀ i, i < ds.length → J.go i H) ∧ (∀ i, ds.length ≤ i → J.stop i H) ∧ ∀ (i : Nat), i < ds.length → ∀ y H', J.yld i H y H' → G K cl M' ρ S H' ∧ Stp M' ρ H ρ H' ∧ ∃ d, ds[i]? = some d ∧ RelD K cl ρ (cut (NM M' ρ) H') d y
def SmI (wi : TI) (pi : PIx) : Prop := ∀ (M : Addr → Prop) (ρ : List Addr) (S : Sto) (H : Hp) (env : Env) (σ : L2.St), G K cl M ρ S H → RE K cl ρ (cut (NM M ρ) H) env σ → ∀ (k : D → List D → Sto → Prop) (R : It → Hp → Prop), pi env S k →
  (∀ ρ' H' S' src ds J, Stp M ρ H ρ' H' → G K cl M ρ' S' H' → ItOk K cl J src ds M ρ' H' → k src ds S' → R J H') → wi σ H R
end
section
variable {K : PySem.W.Frag} {cl : Cl} {M : Addr → Prop} {ρ : List Addr} {S : Sto} {H : Hp}
theorem it_same {M : Addr → Prop} {ρ : List Addr} {S : Sto} {H H2 : Hp} {ds : List D} {i : Nat} {y : V} (g : G K cl M ρ S H) (h1 : H2 = H) (r : ∃ d, ds[i]? = some d ∧ RelD K cl ρ (cut (NM M ρ) H) d y) : G K cl M ρ S H2 ∧ Stp M ρ H ρ H2 ∧ ∃ d, ds[i]? = some d ∧ RelD K cl ρ (cut (NM M ρ) H2) d y := by
  subst h1
  exact ⟨g, .refl, r⟩
theorem itOk_list {a : Addr} {d : D} {ds : List D} (hd : ∀ (M' : Addr → Prop) (ρ' : List Addr) (S' : Sto) (H' : Hp), ρ <+: ρ' → Ex (cut (NM M ρ) H) (cut (NM M' ρ') H') → G K cl M' ρ' S' H' → iterOf S' d = some ds → ∃ vs, SqL K H' a vs ∧ (∀ ws, SqL K H' a ws → ws = vs) ∧ RelAll K cl ρ' (cut (NM M' ρ') H') ds vs) : ItOk K cl (Itl K a) d ds M ρ H := fun M' ρ' S' H' p e g h => by
  obtain ⟨vs, hs, _, r⟩ := hd M' ρ' S' H' p e g h
  refine ⟨fun i hi => ?_, fun i hi => ⟨vs, hs, by rw [r.len]; exact hi⟩, fun i _ y H2 ⟨h1, h2⟩ => it_same g h1 ?_⟩
  · have : i < vs.length := by rw [r.len]; exact hi
    exact ⟨vs, vs[i], hs, List.getElem?_eq_getElem this⟩
  · exact r.back (h2 vs hs)
theorem itOk_tup {a : Addr} {d : D} {ds : List D} (hd : ∀ (M' : Addr → Prop) (ρ' : List Addr) (S' : Sto) (H' : Hp), ρ <+: ρ' → Ex (cut (NM M ρ) H) (cut (NM M' ρ') H') → G K cl M' ρ' S' H' → iterOf S' d = some ds → ∃ vs, SqT K H' a vs ∧ RelAll K cl ρ' (cut (NM M' ρ') H') ds vs) : ItOk K cl (Itt K a) d ds M ρ H := fun M' ρ' S' H' p e g h => by
  obtain ⟨vs, hs, r⟩ := hd M' ρ' S' H' p e g h
  refine ⟨fun i hi => ?_, fun i hi => ⟨vs, hs, by rw [r.len]; exact hi⟩, fun i _ y H2 ⟨h1, h2⟩ => it_same g h1 ?_⟩
  · have : i < vs.length := by rw [r.len]; exact hi
    exact ⟨vs, vs[i], hs, List.getElem?_eq_getElem this⟩
  · exact r.back (h2 vs hs)
theorem sm_it {ta : TE} {pa : PEx} (ha : SmE K cl ta pa) : SmI K cl (uIt K ta) (pIt pa) := fun M ρ S H env σ g re k R h q =>
  ha M ρ S H env σ g re _ _ h fun ρ1 H1 S1 x v s1 g1 rx ⟨ds, hds, hk⟩ => by
    cases rx with
    | str z =>
      cases hds
      refine .inr ⟨z, rfl, q ρ1 H1 S1 _ _ _ s1 g1 (fun M' ρ' S' H' p e g h => ⟨fun i hi => ?_, fun i hi => ?_, fun i _ y H2 ⟨h1, c, h2, h3⟩ => it_same g h1 ⟨.str ⟨#[c]⟩, ?_, ?_⟩⟩) hk⟩
      · rw [List.length_map, Array.length_toList] at hi
        exact hi
      · rw [List.length_map, Array.length_toList] at hi
        exact hi
      · rw [List.getElem?_map, Array.getElem?_toList, h2]
        rfl
      · rw [h3]
        exact .str _
    | @tup a vs ds' hs ha =>
      have e : ds' = ds := by
        have : some ds' = some ds := hds
        exact Option.some.inj this
      subst e
      refine .inl ⟨a, rfl, .inr ⟨⟨vs, ex_t cut_sub hs⟩, q ρ1 H1 S1 _ _ _ s1 g1 (itOk_tup fun M' ρ' S' H' p e g h => ⟨vs, ex_t (e.trans cut_sub) hs, ha.up p e _ _⟩) hk⟩⟩
    | @lst a vs ds' hs ha =>
      have e : ds' = ds := by
        have : some ds' = some ds := hds
        exact Option.some.inj this
      subst e
      refine .inl ⟨a, rfl, .inl ⟨⟨vs, sq_of (cut_sub _ _ hs)⟩, q ρ1 H1 S1 _ _ _ s1 g1 (fun M' ρ' S' H' p e g h => ?_) hk⟩⟩
      have hs' : SqL K H' a vs := sq_of (cut_sub _ _ (e _ _ hs))
      have r := ha.up p e _ _
      exact ⟨fun i hi => ⟨vs, vs[i]'(by rw [r.len]; exact hi), hs', List.getElem?_eq_getElem _⟩, fun i hi => ⟨vs, hs', by rw [r.len]; exact hi⟩, fun i _ y H2 ⟨h1, h2⟩ => it_same g h1 (r.back (h2 vs hs'))⟩
    | @scr a vs ds' hs ha =>
      have e : ds' = ds := by
        have : some ds' = some ds := hds
        exact Option.some.inj this
      subst e
      refine .inl ⟨a, rfl, .inl ⟨⟨vs, ex_l cut_sub hs⟩, q ρ1 H1 S1 _ _ _ s1 g1 (fun M' ρ' S' H' p e g h => ?_) hk⟩⟩
      have hs' : SqL K H' a vs := ex_l (e.trans cut_sub) hs
      have r := ha.up p e _ _
      exact ⟨fun i hi => ⟨vs, vs[i]'(by rw [r.len]; exact hi), hs', List.getElem?_eq_getElem _⟩, fun i hi => ⟨vs, hs', by rw [r.len]; exact hi⟩, fun i _ y H2 ⟨h1, h2⟩ => it_same g h1 (r.back (h2 vs hs'))⟩
    | @ref n a hn =>
      have h1 : ∀ S2 : Sto, iterOf S2 (.ref n) = some ds → S2[n]? = some (.lst ds) := fun S2 h => by
        unfold iterOf itemsOf at h
        simp only at h
        split at h
        · rename_i ds' he
          cases h
          exact he
        · cases h
      obtain ⟨vs, hv, r⟩ := g1.lstAt hn (h1 S1 hds)
      refine .inl ⟨a, rfl, .inl ⟨⟨vs, sq_of hv⟩, q ρ1 H1 S1 _ _ _ s1 g1 (fun M' ρ' S' H' p e g h => ?_) hk⟩⟩
      obtain ⟨ws, hw, r'⟩ := g.lstAt (pre_get p hn) (h1 S' h)
      have hs' : SqL K H' a ws := sq_of hw
      exact ⟨fun i hi => ⟨ws, ws[i]'(by rw [r'.len]; exact hi), hs', List.getElem?_eq_getElem _⟩, fun i hi => ⟨ws, hs', by rw [r'.len]; exact hi⟩, fun i _ y H2 ⟨h1, h2⟩ => it_same g h1 (r'.back (h2 ws hs'))⟩
    | _ => cases hds
theorem rngD_len (n : Nat) : (rngD n).length = n := by unfold rngD; rw [List.length_map, List.length_range]
theorem rngD2_len (lo : Int) (n : Nat) : (rngD2 lo n).length = n := by unfold rngD2; rw [List.length_map, List.length_range]
theorem rngD_at {n i : Nat} {d : D} (h : (rngD n)[i]? = some d) : i < n ∧ d = .int (i : Int) := by
  unfold rngD at h
  rw [List.getElem?_map] at h
  by_cases hi : i < n
  · rw [List.getElem?_range hi] at h
    cases h
    exact ⟨hi, rfl⟩
  · rw [List.getElem?_eq_none (by rw [List.length_range]; omega)] at h
    cases h
theorem rngD2_at {lo : Int} {n i : Nat} {d : D} (h : (rngD2 lo n)[i]? = some d) : i < n ∧ d = .int (lo + (i : Int)) := by
  unfold rngD2 at h
  rw [List.getElem?_map] at h
  by_cases hi : i < n
  · rw [List.getElem?_range hi] at h
    cases h
    exact ⟨hi, rfl⟩
  · rw [List.getElem?_eq_none (by rw [List.length_range]; omega)] at h
    cases h
theorem sm_rng1 {ta : TA} {pa : PAx} (ha : SmA K cl ta pa) : SmI K cl (iRng1 ta) (pRng1 pa) := fun M ρ S H env σ g re k R h q =>
  ha M ρ S H env σ g re _ _ h fun ρ1 H1 S1 xs vs s1 g1 rx ⟨n, hx, hn, hk⟩ => by
    subst hx
    obtain ⟨v, rfl, r1⟩ := all1 rx
    rw [rel_int r1]
    refine ⟨n, rfl, by omega, by omega, q ρ1 H1 S1 _ _ _ s1 g1 (fun M' ρ' S' H' p e g h => ⟨fun i hi => ?_, fun i hi => ?_, fun i hi y H2 ⟨h1, h2⟩ => it_same g h1 ⟨.int (i : Int), ?_, ?_⟩⟩) hk⟩
    · rw [rngD_len] at hi
      exact hi
    · rw [rngD_len] at hi
      exact hi
    · rw [rngD_len] at hi
      unfold rngD
      rw [List.getElem?_map, List.getElem?_range hi]
      rfl
    · rw [h2, Int.zero_add]
      exact .int _
theorem sm_rng2 {ta : TA} {pa : PAx} (ha : SmA K cl ta pa) : SmI K cl (iRng2 ta) (pRng2 pa) := fun M ρ S H env σ g re k R h q =>
  ha M ρ S H env σ g re _ _ h fun ρ1 H1 S1 xs vs s1 g1 rx ⟨lo, n, hx, hn, hk⟩ => by
    subst hx
    obtain ⟨v, w, rfl, r1, r2⟩ := all2 rx
    rw [rel_int r1, rel_int r2]
    refine ⟨lo, n, rfl, by omega, q ρ1 H1 S1 _ _ _ s1 g1 (fun M' ρ' S' H' p e g h => ⟨fun i hi => ?_, fun i hi => ?_, fun i hi y H2 ⟨h1, h2⟩ => it_same g h1 ⟨.int (lo + (i : Int)), ?_, ?_⟩⟩) hk⟩
    · rw [rngD2_len] at hi
      exact hi
    · rw [rngD2_len] at hi
      exact hi
    · rw [rngD2_len] at hi
      unfold rngD2
      rw [List.getElem?_map, List.getElem?_range hi]
      rfl
    · rw [h2]
      exact .int _
end
/-! ### statements -/
def pSeq (p q : PSx) : PSx := fun P env S => p { P with nx := q P } env S
def pNext : PSx := fun P env S => P.nx env S
def pBreak : PSx := fun P env S => P.bk env S
def pCont : PSx := fun P env S => P.ct env S
def pAsg (pe : PEx) (g : PGx) : PSx := fun P env S => pe env S fun d S1 => g d env S1 P.nx
def pRet (pe : PEx) : PSx := fun P env S => pe env S P.rt
def pRetN : PSx := fun P _ S => P.rt .non S
def pDrop (pe : PEx) : PSx := fun P env S => pe env S fun _ S1 => P.nx env S1
def pIfS (pt : PTx) (p q : PSx) : PSx := fun P env S => pt env S fun b S1 => if b = true then p P env S1 else q P env S1
def pgName (i : Nat) : PGx := fun d env S k => k (env.set i (some d)) S
abbrev PGsx := List D → Env → Sto → (Env → Sto → Prop) → Prop
def pgNil : PGsx := fun ds env S k => ds = [] ∧ k env S
def pgCons (g : PGx) (gs : PGsx) : PGsx := fun ds env S k => match ds with
  | d :: r => g d env S fun env' S' => gs r env' S' k
  | [] => False
def pgTup (n : Nat) (gs : PGsx) : PGx := fun d env S k => match d with
  | .tup ds => ds.length = n ∧ gs ds env S k
  | _ => False
def pAug (i : Nat) (op : Int → Int → Int) (pe : PEx) : PSx := fun P env S => ∃ x, env[i]? = some (some (.int x)) ∧ pe env S fun d S1 => ∃ y, d = .int y ∧ P.nx (env.set i (some (.int (op x y)))) S1
/-- xs.append(x), xs a list of the store -/
def pApp (pa pe : PEx) : PSx := fun P env S => pa env S fun l S1 => ∃ n, l = .ref n ∧ ∃ ds0, S1[n]? = some (.lst ds0) ∧ pe env S1 fun d S2 => ∃ ds, S2[n]? = some (.lst ds) ∧ ds.length < 90000 ∧ P.nx env (S2.set n (.lst (ds ++ [d])))
def pFor (pi : PIx) (g : PGx) (tb : PSx) : PSx := fun P env S => pi env S fun src ds S1 => ∃ I : Nat → Env → Sto → Prop, I 0 env S1 ∧
  (∀ (i : Nat) d env S, ds[i]? = some d → I i env S → iterOf S src = some ds ∧ g d env S fun env1 S2 => tb { P with nx := I (i + 1), ct := I (i + 1), bk := P.nx } env1 S2) ∧ ∀ env S, I ds.length env S → iterOf S src = some ds ∧ P.nx env S
def pWhile (pt : PTx) (tb : PSx) : PSx := fun P env S => ∃ W : Nat → Env → Sto → Prop, (∃ m, W m env S) ∧ ∀ m env S, W m env S →
  pt env S fun b S1 => if b = true then ∃ N : Env → Sto → Prop, (∀ env' S', N env' S' → ∃ m', m' < m ∧ W m' env' S') ∧ tb { P with nx := N, ct := N, bk := P.nx } env S1 else P.nx env S1
def pLc (pi : PIx) (g : PGx) (pt : PTx) (pe : PEx) (ws : List Nat) : PEx := fun env S k => pi env S fun src ds S1 => ∃ I : Nat → List D → Sto → Prop, I 0 [] S1 ∧
  (∀ (i : Nat) d acc S, ds[i]? = some d → I i acc S → acc.length < 90000 ∧ iterOf S src = some ds ∧ g d (wipeE env ws) S fun env2 S2 => pt env2 S2 fun b S3 => if b = true then pe env2 S3 fun y S4 => I (i + 1) (acc ++ [y]) S4 else I (i + 1) acc S3) ∧
  ∀ acc S, I ds.length acc S → iterOf S src = some ds ∧ k (.lst acc) S
def pYes : PTx := fun _ S k => k true S
section
variable (K : PySem.W.Frag) (cl : Cl)
structure EndsOk (M : Addr → Prop) (ρ : List Addr) (H : Hp) (P : PEnds) (D : Ends) : Prop where
  nx : ∀ ρ' H' S' env' σ', Stp M ρ H ρ' H' → G K cl M ρ' S' H' → RE K cl ρ' (cut (NM M ρ') H') env' σ' → P.nx env' S' → D.nx σ' H'
  rt : ∀ ρ' H' S' d v, Stp M ρ H ρ' H' → G K cl M ρ' S' H' → RelD K cl ρ' (cut (NM M ρ') H') d v → P.rt d S' → D.rt v H'
  bk : ∀ ρ' H' S' env' σ', Stp M ρ H ρ' H' → G K cl M ρ' S' H' → RE K cl ρ' (cut (NM M ρ') H') env' σ' → P.bk env' S' → D.bk σ' H'
  ct : ∀ ρ' H' S' env' σ', Stp M ρ H ρ' H' → G K cl M ρ' S' H' → RE K cl ρ' (cut (NM M ρ') H') env' σ' → P.ct env' S' → D.ct σ' H'
def SmS (ts : TS) (ps : PSx) : Prop := ∀ (M : Addr → Prop) (ρ : List Addr) (S : Sto) (H : Hp) (env : Env) (σ : L2.St), G K cl M ρ S H → RE K cl ρ (cut (NM M ρ) H) env σ → ∀ (P : PEnds) (D : Ends), ps P env S → EndsOk K cl M ρ H P D → ts D σ H
def SmG (tg : TG) (pg : PGx) : Prop := ∀ (M : Addr → Prop) (ρ : List Addr) (S : Sto) (H : Hp) (env : Env) (σ : L2.St) (d : D) (v : V), G K cl M ρ S H → RE K cl ρ (cut (NM M ρ) H) env σ → RelD K cl ρ (cut (NM M ρ) H) d v → ∀ (k : Env → Sto → Prop) (Q : L2.St → Hp → Prop), pg d env S k →
  (∀ ρ' H' S' env' σ', Stp M ρ H ρ' H' → G K cl M ρ' S' H' → RE K cl ρ' (cut (NM M ρ') H') env' σ' → k env' S' → Q σ' H') → tg v σ H Q
def SmGs (tg : TGs) (pg : PGsx) : Prop := ∀ (M : Addr → Prop) (ρ : List Addr) (S : Sto) (H : Hp) (env : Env) (σ : L2.St) (d : List D) (v : List V), G K cl M ρ S H → RE K cl ρ (cut (NM M ρ) H) env σ → RelAll K cl ρ (cut (NM M ρ) H) d v → ∀ (k : Env → Sto → Prop) (Q : L2.St → Hp → Prop), pg d env S k →
  (∀ ρ' H' S' env' σ', Stp M ρ H ρ' H' → G K cl M ρ' S' H' → RE K cl ρ' (cut (NM M ρ') H') env' σ' → k env' S' → Q σ' H') → tg v σ H Q
end
section
variable {K : PySem.W.Frag} {cl : Cl} {M : Addr → Prop} {ρ ρ1 : List Addr} {S : Sto} {H H1 : Hp} {P : PEnds} {D : Ends} {tu tw : TS} {pu pw : PSx} {te ta : TE} {pe pa : PEx} {tg : TG} {pg : PGx} {tgs : TGs} {pgs : PGsx} {tt : TT} {pt : PTx}
theorem EndsOk.step (e : EndsOk K cl M ρ H P D) (s : Stp M ρ H ρ1 H1) : EndsOk K cl M ρ1 H1 P D :=
  ⟨fun _ _ _ _ _ s1 => e.nx _ _ _ _ _ (s.trans s1), fun _ _ _ _ _ s1 => e.rt _ _ _ _ _ (s.trans s1), fun _ _ _ _ _ s1 => e.bk _ _ _ _ _ (s.trans s1), fun _ _ _ _ _ s1 => e.ct _ _ _ _ _ (s.trans s1)⟩
theorem sm_seq (h1 : SmS K cl tu pu) (h2 : SmS K cl tw pw) : SmS K cl (tSeq tu tw) (pSeq pu pw) := fun M ρ S H env σ g re P D h e =>
  h1 M ρ S H env σ g re _ _ h ⟨fun ρ' H' S' env' σ' s g' re' h' => h2 M ρ' S' H' env' σ' g' re' P D h' (e.step s), e.rt, e.bk, e.ct⟩
theorem sm_next : SmS K cl tNext pNext := fun M ρ S H env σ g re P D h e => e.nx ρ H S env σ .refl g re h
theorem sm_break : SmS K cl tBreak pBreak := fun M ρ S H env σ g re P D h e => e.bk ρ H S env σ .refl g re h
theorem sm_cont : SmS K cl tCont pCont := fun M ρ S H env σ g re P D h e => e.ct ρ H S env σ .refl g re h
theorem sm_asg (ha : SmE K cl te pe) (hg : SmG K cl tg pg) : SmS K cl (tAsg te tg) (pAsg pe pg) := fun M ρ S H env σ g re P D h e =>
  ha M ρ S H env σ g re _ _ h fun ρ1 H1 S1 d v s1 g1 r h1 => hg M ρ1 S1 H1 env σ d v g1 (re.up s1) r _ _ h1 fun ρ2 H2 S2 env' σ' s2 g2 re2 h2 => e.nx ρ2 H2 S2 env' σ' (s1.trans s2) g2 re2 h2
theorem sm_ret (ha : SmE K cl te pe) : SmS K cl (tRet te) (pRet pe) := fun M ρ S H env σ g re P D h e => ha M ρ S H env σ g re _ _ h fun ρ1 H1 S1 d v s1 g1 r h1 => e.rt ρ1 H1 S1 d v s1 g1 r h1
theorem sm_retN : SmS K cl tRetN pRetN := fun M ρ S H env σ g re P D h e => e.rt ρ H S _ _ .refl g .non h
theorem sm_drop (ha : SmE K cl te pe) : SmS K cl (tDrop te) (pDrop pe) := fun M ρ S H env σ g re P D h e => ha M ρ S H env σ g re _ _ h fun ρ1 H1 S1 d v s1 g1 r h1 => e.nx ρ1 H1 S1 env σ s1 g1 (re.up s1) h1
theorem sm_ifS (hc : SmT K cl tt pt) (h1 : SmS K cl tu pu) (h2 : SmS K cl tw pw) : SmS K cl (tIfS tt tu tw) (pIfS pt pu pw) := fun M ρ S H env σ g re P D h e =>
  hc M ρ S H env σ g re _ _ h fun ρ1 H1 S1 b s1 g1 hk => by
    cases b with
    | true => exact h1 M ρ1 S1 H1 env σ g1 (re.up s1) P D hk (e.step s1)
    | false => exact h2 M ρ1 S1 H1 env σ g1 (re.up s1) P D hk (e.step s1)
theorem sm_gname {i : Nat} : SmG K cl (gName i) (pgName i) := fun M ρ S H env σ d v g re r k Q h q => q ρ H S _ _ .refl g (re.set i r) h
theorem sm_gnil : SmGs K cl gNil pgNil := fun M ρ S H env σ d v g re r k Q ⟨h, hk⟩ q => by
  subst h
  cases r
  exact ⟨rfl, q ρ H S _ _ .refl g re hk⟩
theorem sm_gcons (h1 : SmG K cl tg pg) (h2 : SmGs K cl tgs pgs) : SmGs K cl (gCons tg tgs) (pgCons pg pgs) := fun M ρ S H env σ d v g re r k Q h q => by
  cases r with
  | nil => exact h.elim
  | cons a b => exact ⟨_, _, rfl, h1 M ρ S H env σ _ _ g re a _ _ h fun ρ1 H1 S1 env1 σ1 s1 g1 re1 k1 => h2 M ρ1 S1 H1 env1 σ1 _ _ g1 re1 (b.up s1.pre s1.ex _ _) _ _ k1 fun ρ2 H2 S2 env2 σ2 s2 g2 re2 k2 => q ρ2 H2 S2 env2 σ2 (s1.trans s2) g2 re2 k2⟩
theorem sm_gtup {n : Nat} (h : SmGs K cl tgs pgs) : SmG K cl (gTup K n tgs) (pgTup n pgs) := fun M ρ S H env σ d v g re r k Q h1 q => by
  cases r with
  | tup hs ha => exact ⟨_, _, rfl, ex_t cut_sub hs, by rw [ha.len]; exact h1.1, h M ρ S H env σ _ _ g re ha k Q h1.2 q⟩
  | _ => exact h1.elim
theorem sm_aug {i : Nat} {op : Int → Int → Int} (ha : SmE K cl te pe) : SmS K cl (tAug i te (ipI op)) (pAug i op pe) := fun M ρ S H env σ g re P D ⟨x, hx, h⟩ e => by
  obtain ⟨v, hv, rv⟩ := re.at' i _ hx
  rw [rel_int rv] at hv
  refine ⟨_, hv, ha M ρ S H env σ g re _ _ h fun ρ1 H1 S1 d w s1 g1 r ⟨y, hy, hk⟩ => ?_⟩
  subst hy
  rw [rel_int r]
  exact ⟨x, y, rfl, rfl, e.nx ρ1 H1 S1 _ _ s1 g1 ((re.up s1).set i (.int _)) hk⟩
theorem sm_app (ha : SmE K cl ta pa) (he : SmE K cl te pe) : SmS K cl (tDrop (tBM K "list" rAppend ta (tCons te tNil))) (pApp pa pe) := fun M ρ S H env σ g re P D h e =>
  ha M ρ S H env σ g re _ _ h fun ρ1 H1 S1 l v s1 g1 rl ⟨n, hl, ds0, hs, h1⟩ => by
    subst hl
    cases rl with
    | @ref _ a hn =>
      obtain ⟨vs0, hv0, _⟩ := g1.lstAt hn hs
      refine ⟨.inl ⟨rfl, vs0, sq_of hv0⟩, he M ρ1 S1 H1 env σ g1 (re.up s1) _ _ h1 fun ρ2 H2 S2 d w s2 g2 rd ⟨ds, hs2, hl2, hk⟩ => ?_⟩
      have hn2 := pre_get s2.pre hn
      obtain ⟨vs, hv, r⟩ := g2.lstAt hn2 hs2
      refine ⟨a, vs, w, rfl, rfl, hv, sz_lt (by rw [r.len]; omega), ?_⟩
      obtain ⟨g3, s3⟩ := g2.put (o := .lst (vs ++ [w])) hn2 (.lst (r.snoc rd))
      exact e.nx ρ2 _ _ env σ ((s1.trans s2).trans s3) g3 (re.up ((s1.trans s2).trans s3)) hk
theorem sm_for {wi : TI} {pi : PIx} (hi : SmI K cl wi pi) (hg : SmG K cl tg pg) (hb : SmS K cl tu pu) : SmS K cl (tFor wi tg tu) (pFor pi pg pu) := fun M ρ S H env σ g re P D h e =>
  hi M ρ S H env σ g re _ _ h fun ρ1 H1 S1 src ds J s1 g1 ok ⟨I, hI0, hIs, hId⟩ => by
    refine ⟨fun i m σ' H' => m = ds.length - i ∧ i ≤ ds.length ∧ ∃ ρ' S' env', Stp M ρ1 H1 ρ' H' ∧ G K cl M ρ' S' H' ∧ RE K cl ρ' (cut (NM M ρ') H') env' σ' ∧ I i env' S', ⟨ds.length, by omega, Nat.zero_le _, ρ1, S1, env, .refl, g1, re.up s1, hI0⟩, ?_⟩
    rintro i m σ' H' ⟨rfl, hi, ρ', S', env', s2, g2, re2, hI⟩
    by_cases hlt : i < ds.length
    · have hd : ds[i]? = some ds[i] := List.getElem?_eq_getElem hlt
      obtain ⟨hit, hb'⟩ := hIs i _ env' S' hd hI
      obtain ⟨o1, _, o3⟩ := ok M ρ' S' H' s2.pre s2.ex g2 hit
      refine .inr ⟨o1 i hlt, fun σ2 H2 => ∃ ρ' S' env', Stp M ρ1 H1 ρ' H2 ∧ G K cl M ρ' S' H2 ∧ RE K cl ρ' (cut (NM M ρ') H2) env' σ2 ∧ I (i + 1) env' S', fun σ2 H2 p => ⟨ds.length - (i + 1), by omega, rfl, hlt, p⟩, fun y H2 hy => ?_⟩
      obtain ⟨gy, sy, d, hd', r⟩ := o3 i hlt y H2 hy
      rw [hd] at hd'
      cases hd'
      refine hg M ρ' S' H2 env' σ' _ y gy (re2.up sy) r _ _ hb' fun ρ3 H3 S3 env3 σ3 s3 g3 re3 h3 => ?_
      have s23 := (s2.trans sy).trans s3
      have e3 := (e.step s1).step s23
      refine hb M ρ3 S3 H3 env3 σ3 g3 re3 _ _ h3 ⟨fun ρ4 H4 S4 env4 σ4 s4 g4 re4 h4 => ⟨ρ4, S4, env4, s23.trans s4, g4, re4, h4⟩, fun ρ4 H4 S4 d v s4 g4 r4 h4 => e3.rt ρ4 H4 S4 d v s4 g4 r4 h4, fun ρ4 H4 S4 env4 σ4 s4 g4 re4 h4 => e3.nx ρ4 H4 S4 env4 σ4 s4 g4 re4 h4, fun ρ4 H4 S4 env4 σ4 s4 g4 re4 h4 => ⟨ρ4, S4, env4, s23.trans s4, g4, re4, h4⟩⟩
    · have hi' : i = ds.length := by omega
      subst hi'
      obtain ⟨hit, hk⟩ := hId env' S' hI
      obtain ⟨_, o2, _⟩ := ok M ρ' S' H' s2.pre s2.ex g2 hit
      exact .inl ⟨o2 _ (Nat.le_refl _), (e.step s1).nx ρ' H' S' env' σ' s2 g2 re2 hk⟩
theorem sm_while (hc : SmT K cl tt pt) (hb : SmS K cl tu pu) : SmS K cl (tWhile tt tu) (pWhile pt pu) := fun M ρ S H env σ g re P D ⟨W, ⟨m0, hW0⟩, hW⟩ e => by
  refine ⟨fun m σ' H' => ∃ ρ' S' env', Stp M ρ H ρ' H' ∧ G K cl M ρ' S' H' ∧ RE K cl ρ' (cut (NM M ρ') H') env' σ' ∧ W m env' S', ⟨m0, ρ, S, env, .refl, g, re, hW0⟩, ?_⟩
  rintro m σ' H' ⟨ρ', S', env', s2, g2, re2, hw⟩
  refine hc M ρ' S' H' env' σ' g2 re2 _ _ (hW m env' S' hw) fun ρ3 H3 S3 b s3 g3 h3 => ?_
  have s23 := s2.trans s3
  have e3 := e.step s23
  cases b with
  | true =>
    rw [if_pos rfl] at h3 ⊢
    obtain ⟨N, hN, hk⟩ := h3
    refine ⟨fun σ2 H2 => ∃ ρ' S' env', Stp M ρ H ρ' H2 ∧ G K cl M ρ' S' H2 ∧ RE K cl ρ' (cut (NM M ρ') H2) env' σ2 ∧ N env' S', fun σ2 H2 ⟨ρ4, S4, env4, s4, g4, re4, h4⟩ => ?_, ?_⟩
    · obtain ⟨m', hm, hw'⟩ := hN env4 S4 h4
      exact ⟨m', hm, ρ4, S4, env4, s4, g4, re4, hw'⟩
    · exact hb M ρ3 S3 H3 env' σ' g3 (re2.up s3) _ _ hk ⟨fun ρ4 H4 S4 env4 σ4 s4 g4 re4 h4 => ⟨ρ4, S4, env4, s23.trans s4, g4, re4, h4⟩, fun ρ4 H4 S4 d v s4 g4 r4 h4 => e3.rt ρ4 H4 S4 d v s4 g4 r4 h4, fun ρ4 H4 S4 env4 σ4 s4 g4 re4 h4 => e3.nx ρ4 H4 S4 env4 σ4 s4 g4 re4 h4, fun ρ4 H4 S4 env4 σ4 s4 g4 re4 h4 => ⟨ρ4, S4, env4, s23.trans s4, g4, re4, h4⟩⟩
  | false =>
    rw [if_neg (by decide)] at h3 ⊢
    exact e3.nx ρ3 H3 S3 env' σ' .refl g3 (re2.up s3) h3
theorem sm_yes : SmT K cl tYes pYes := fun M ρ S H env σ g re k Q h q => q ρ H S true .refl g h
/-! ### comprehensions -/
theorem wipe_get {σ : L2.St} : ∀ {ws : List Nat} {j : Nat}, (wipe σ ws)[j]? = if j ∈ ws then (if j < σ.length then some none else none) else σ[j]?
  | [], j => by simp [wipe]
  | v :: vs, j => by
    unfold wipe
    rw [List.getElem?_set]
    by_cases h : v = j
    · subst h
      simp [wipe_length]
    · rw [if_neg h, wipe_get (ws := vs)]
      have : (j ∈ v :: vs) ↔ j ∈ vs := by simp [Ne.symm h]
      simp [this]
theorem wipe_eq {σ σ' : L2.St} {ws : List Nat} (hl : σ'.length = σ.length) (h : ∀ j, j ∉ ws → σ'[j]? = σ[j]?) : wipe σ' ws = wipe σ ws := by
  refine List.ext_getElem? fun j => ?_
  rw [wipe_get, wipe_get, hl]
  by_cases hj : j ∈ ws
  · simp [hj]
  · simp [hj, h j hj]
end
/-- the target sets slots among ws alone -/
structure GOk (tg : TG) (ws : List Nat) : Prop where
  mono : ∀ v σ H (Q Q' : L2.St → Hp → Prop), (∀ σ2 H2, Q σ2 H2 → Q' σ2 H2) → tg v σ H Q → tg v σ H Q'
  own : ∀ v σ H (Q : L2.St → Hp → Prop), tg v σ H Q → tg v σ H fun σ2 H2 => (σ2.length = σ.length ∧ ∀ j, j ∉ ws → σ2[j]? = σ[j]?) ∧ Q σ2 H2
structure GsOk (tg : TGs) (ws : List Nat) : Prop where
  mono : ∀ v σ H (Q Q' : L2.St → Hp → Prop), (∀ σ2 H2, Q σ2 H2 → Q' σ2 H2) → tg v σ H Q → tg v σ H Q'
  own : ∀ v σ H (Q : L2.St → Hp → Prop), tg v σ H Q → tg v σ H fun σ2 H2 => (σ2.length = σ.length ∧ ∀ j, j ∉ ws → σ2[j]? = σ[j]?) ∧ Q σ2 H2
theorem gok_name {j : Nat} {ws : List Nat} (h : j ∈ ws) : GOk (gName j) ws := ⟨fun _ _ _ _ _ h q => h _ _ q, fun v σ H Q q => ⟨⟨List.length_set, fun i hi => List.getElem?_set_ne fun z => hi (by rw [← z]; exact h)⟩, q⟩⟩
theorem gok_nil {ws : List Nat} : GsOk gNil ws := ⟨fun _ _ _ _ _ h ⟨e, q⟩ => ⟨e, h _ _ q⟩, fun v σ H Q ⟨h, q⟩ => ⟨h, ⟨rfl, fun _ _ => rfl⟩, q⟩⟩
theorem gok_cons {tg : TG} {tgs : TGs} {ws : List Nat} (h1 : GOk tg ws) (h2 : GsOk tgs ws) : GsOk (gCons tg tgs) ws :=
  ⟨fun _ _ _ _ _ h ⟨x, r, e, q⟩ => ⟨x, r, e, h1.mono _ _ _ _ _ (fun σ2 H2 q => h2.mono _ _ _ _ _ h q) q⟩, fun v σ H Q ⟨x, r, e, q⟩ =>
    ⟨x, r, e, h1.mono _ _ _ _ _ (fun σ2 H2 ⟨⟨l1, k1⟩, q1⟩ => h2.mono _ _ _ _ _ (fun σ3 H3 ⟨⟨l2, k2⟩, q2⟩ => ⟨⟨l2.trans l1, fun j hj => (k2 j hj).trans (k1 j hj)⟩, q2⟩) (h2.own _ _ _ _ q1)) (h1.own _ _ _ _ q)⟩⟩
theorem gok_tup {K : PySem.W.Frag} {n : Nat} {tgs : TGs} {ws : List Nat} (h : GsOk tgs ws) : GOk (gTup K n tgs) ws :=
  ⟨fun _ _ _ _ _ h' ⟨a, xs, e, hs, hn, q⟩ => ⟨a, xs, e, hs, hn, h.mono _ _ _ _ _ h' q⟩, fun v σ H Q ⟨a, xs, e, hs, hn, q⟩ => ⟨a, xs, e, hs, hn, h.own _ _ _ _ q⟩⟩
section
variable {K : PySem.W.Frag} {cl : Cl} {te : TE} {pe : PEx} {tg : TG} {pg : PGx} {tt : TT} {pt : PTx}
theorem NM_plus {M : Addr → Prop} {p : Addr} {ρ : List Addr} {a : Addr} : NM (fun a => M a ∨ a = p) ρ a ↔ NM M ρ a ∨ a = p := by
  unfold NM
  constructor
  · rintro ((h | h) | h)
    · exact .inl (.inl h)
    · exact .inr h
    · exact .inl (.inr h)
  · rintro ((h | h) | h)
    · exact .inl (.inl h)
    · exact .inr h
    · exact .inl (.inr h)
/-- beside M one address more that is another's to change -/
def MP (M : Addr → Prop) (p : Addr) : Addr → Prop := fun a => M a ∨ a = p
theorem exMP {M : Addr → Prop} {p : Addr} {ρ : List Addr} {H : Hp} : Ex (cut (NM (MP M p) ρ) H) (cut (NM M ρ) H) := cut_ex fun a o n q => ⟨fun z => n (NM_plus.mpr (.inl z)), q⟩
theorem G.unMP {M : Addr → Prop} {p : Addr} {ρ : List Addr} {S : Sto} {H : Hp} (g : G K cl (MP M p) ρ S H) : G K cl M ρ S H :=
  ⟨fun a m => g.live a (.inl m), fun a ha m => g.dis a ha (.inl m), g.nd, g.len, fun n o a hs ha => by
    obtain ⟨u, hu, r⟩ := g.sto n o a hs ha
    exact ⟨u, hu, r.up (List.prefix_refl _) exMP⟩⟩
theorem G.mp {M : Addr → Prop} {p : Addr} {ρ : List Addr} {S : Sto} {H : Hp} {o : HO} (g : G K cl M ρ S H) (hp : H p = none) :
    G K cl (MP M p) ρ S (upd H p o) ∧ Ex (cut (NM M ρ) H) (cut (NM (MP M p) ρ) (upd H p o)) ∧ ∀ a, M a → (upd H p o) a = H a := by
  have hpn : ¬ NM M ρ p := g.off hp
  have ex0 : Ex (cut (NM M ρ) H) (cut (NM (MP M p) ρ) (upd H p o)) := cut_ex fun a u n q => ⟨fun z => (NM_plus.mp z).elim n (ne_of_none q hp), by rw [upd_ne (ne_of_none q hp)]; exact q⟩
  have k : ∀ a, NM M ρ a → (upd H p o) a = H a := fun a n => upd_ne fun z => hpn (z ▸ n)
  refine ⟨⟨fun a m => ?_, fun a ha m => ?_, g.nd, g.len, fun n s a hs ha => ?_⟩, ex0, fun a m => k a (.inl m)⟩
  · rcases m with m | m
    · rw [k a (.inl m)]
      exact g.live a m
    · rw [m, upd_same]
      intro z
      cases z
  · rcases m with m | m
    · exact g.dis a ha m
    · exact hpn (.inr (m ▸ ha))
  · obtain ⟨u, hu, r⟩ := g.sto n s a hs ha
    exact ⟨u, by rw [k a (.inr (List.mem_of_getElem? ha))]; exact hu, r.up (List.prefix_refl _) ex0⟩
/-- what was put at p anew does not matter to the rest -/
theorem G.setMP {M : Addr → Prop} {p : Addr} {ρ : List Addr} {S : Sto} {H : Hp} {o : HO} (g : G K cl (MP M p) ρ S H) :
    G K cl (MP M p) ρ S (upd H p o) ∧ Ex (cut (NM (MP M p) ρ) H) (cut (NM (MP M p) ρ) (upd H p o)) := by
  have ex0 : Ex (cut (NM (MP M p) ρ) H) (cut (NM (MP M p) ρ) (upd H p o)) := cut_ex fun a u n q => ⟨n, by rw [upd_ne fun z => n (.inl (.inr z))]; exact q⟩
  refine ⟨⟨fun a m => ?_, g.dis, g.nd, g.len, fun n s a hs ha => ?_⟩, ex0⟩
  · by_cases h : a = p
    · rw [h, upd_same]
      intro z
      cases z
    · rw [upd_ne h]
      exact g.live a m
  · obtain ⟨u, hu, r⟩ := g.sto n s a hs ha
    have ne : a ≠ p := fun z => g.dis a (List.mem_of_getElem? ha) (.inr z)
    exact ⟨u, by rw [upd_ne ne]; exact hu, r.up (List.prefix_refl _) ex0⟩
/-- how a comprehension stands: its list at Dl -/
structure LcSt (K : PySem.W.Frag) (cl : Cl) (M : Addr → Prop) (ρ1 : List Addr) (H1 : Hp) (Dl : Addr) (ρ' : List Addr) (S' : Sto) (acc : List D) (vs : List V) (H : Hp) : Prop where
  pre : ρ1 <+: ρ'
  ex : Ex (cut (NM M ρ1) H1) (cut (NM (MP M Dl) ρ') H)
  keep : ∀ a, M a → H a = H1 a
  g : G K cl (MP M Dl) ρ' S' H
  at' : H Dl = some (.lst vs)
  rel : RelAll K cl ρ' (cut (NM (MP M Dl) ρ') H) acc vs
theorem LcSt.step {M : Addr → Prop} {ρ1 ρ' ρ2 : List Addr} {H1 H H2 : Hp} {Dl : Addr} {S' S2 : Sto} {acc : List D} {vs : List V} (c : LcSt K cl M ρ1 H1 Dl ρ' S' acc vs H) (s : Stp (MP M Dl) ρ' H ρ2 H2) (g : G K cl (MP M Dl) ρ2 S2 H2) : LcSt K cl M ρ1 H1 Dl ρ2 S2 acc vs H2 :=
  ⟨c.pre.trans s.pre, c.ex.trans s.ex, fun a m => (s.keep a (.inl m)).trans (c.keep a m), g, (s.keep Dl (.inr rfl)).trans c.at', c.rel.up s.pre s.ex _ _⟩
theorem sm_lc {wi : TI} {pi : PIx} {ws : List Nat} (hi : SmI K cl wi pi) (hok : GOk tg ws) (hg : SmG K cl tg pg) (ht : SmT K cl tt pt) (he : SmE K cl te pe) : SmE K cl (tLc wi tg tt te ws) (pLc pi pg pt pe ws) := fun M ρ S H env σ g re k Q h q =>
  hi M ρ S H env σ g re _ _ h fun ρ1 H1 S1 src ds J s1 g1 ok ⟨I, hI0, hIs, hId⟩ => by
    intro Dl hD
    obtain ⟨gD, ex0, k0⟩ := g1.mp (o := .lst []) hD
    have hDn : ¬ NM M ρ1 Dl := g1.off hD
    refine ⟨fun i m H' => m = ds.length - i ∧ i ≤ ds.length ∧ ∃ ρ' S' acc vs, LcSt K cl M ρ1 H1 Dl ρ' S' acc vs H' ∧ I i acc S', ⟨ds.length, by omega, Nat.zero_le _, ρ1, S1, [], [], ⟨List.prefix_refl _, ex0, k0, gD, upd_same, .nil⟩, hI0⟩, ?_⟩
    rintro i m H' ⟨rfl, hi, ρ', S', acc, vs, c, hI⟩
    by_cases hlt : i < ds.length
    · have hd : ds[i]? = some ds[i] := List.getElem?_eq_getElem hlt
      obtain ⟨hal, hit, hb'⟩ := hIs i _ acc S' hd hI
      obtain ⟨o1, _, o3⟩ := ok (MP M Dl) ρ' S' H' c.pre c.ex c.g hit
      refine .inr ⟨o1 i hlt, fun H2 => ∃ ρ' S' acc vs, LcSt K cl M ρ1 H1 Dl ρ' S' acc vs H2 ∧ I (i + 1) acc S', fun H2 p => ⟨ds.length - (i + 1), by omega, rfl, hlt, p⟩, fun y H2 hy => ?_⟩
      obtain ⟨gy, sy, d, hd', r⟩ := o3 i hlt y H2 hy
      have c := c.step sy gy
      rw [hd] at hd'
      cases hd'
      have reW : RE K cl ρ' (cut (NM (MP M Dl) ρ') H2) (wipeE env ws) (wipe σ ws) := by
        refine RE.wipe ?_ ws
        have r1 := re.up s1
        exact ⟨r1.len, fun j d hj => by
          obtain ⟨v, h1, h2⟩ := r1.at' j d hj
          exact ⟨v, h1, h2.up c.pre c.ex d v⟩⟩
      refine hok.mono _ _ _ _ _ (fun σ2 H3 ⟨⟨l1, k1⟩, q1⟩ => ⟨wipe_eq (l1.trans (wipe_length σ ws)) fun j hj => by rw [k1 j hj, wipe_get, if_neg hj], q1⟩) (hok.own _ _ _ _ (hg (MP M Dl) ρ' S' H2 (wipeE env ws) (wipe σ ws) _ y c.g reW r _ _ hb' fun ρ3 H3 S3 env3 σ3 s3 g3 re3 h3 => ?_))
      · refine ht (MP M Dl) ρ3 S3 H3 env3 σ3 g3 re3 _ _ h3 fun ρ4 H4 S4 b s4 g4 h4 => ?_
        have c4 := c.step (s3.trans s4) g4
        cases b with
        | true =>
          rw [if_pos rfl] at h4 ⊢
          refine he (MP M Dl) ρ4 S4 H4 env3 σ3 g4 (re3.up s4) _ _ h4 fun ρ5 H5 S5 d5 v5 s5 g5 r5 h5 => ?_
          have c5 := c4.step s5 g5
          obtain ⟨g6, e6⟩ := g5.setMP (o := .lst (vs ++ [v5]))
          refine ⟨vs, c5.at', sz_lt (by rw [c5.rel.len]; omega), ρ5, S5, acc ++ [d5], vs ++ [v5], ⟨c5.pre, c5.ex.trans e6, fun a m => ?_, g6, upd_same, (c5.rel.snoc r5).up (List.prefix_refl _) e6 _ _⟩, h5⟩
          have ne : a ≠ Dl := fun z => hDn (.inl (z ▸ m))
          rw [upd_ne ne]
          exact c5.keep a m
        | false =>
          rw [if_neg (by decide)] at h4 ⊢
          exact ⟨ρ4, S4, acc, vs, c4, h4⟩
    · have hi' : i = ds.length := by omega
      subst hi'
      obtain ⟨hit, hk⟩ := hId acc S' hI
      obtain ⟨_, o2, _⟩ := ok (MP M Dl) ρ' S' H' c.pre c.ex c.g hit
      refine .inl ⟨o2 _ (Nat.le_refl _), ?_⟩
      have s2 : Stp M ρ1 H1 ρ' H' := ⟨c.pre, c.ex.trans exMP, c.keep⟩
      refine q ρ' H' S' _ _ (s1.trans s2) c.g.unMP (.lst ?_ (c.rel.up (List.prefix_refl _) exMP _ _)) hk
      rw [cut_no fun z => z.elim (fun m => hDn (.inl m)) fun m => c.g.dis Dl m (.inr rfl)]
      exact c.at'
end
end Pw
namespace Pw
open PySem PySem.Spec PyProof.Rows L2 Evl Lw
/-! ### data without references, without lists -/
mutual
def D.noRef : D → Bool
  | .ref _ => false
  | .tup ds | .lst ds | .scr ds | .obj _ _ ds => noRefs ds
  | _ => true
def noRefs : List D → Bool
  | [] => true
  | d :: ds => d.noRef && noRefs ds
end
mutual
def D.noLst : D → Bool
  | .ref _ | .lst _ | .scr _ => false
  | .tup ds | .obj _ _ ds => noLsts ds
  | _ => true
def noLsts : List D → Bool
  | [] => true
  | d :: ds => d.noLst && noLsts ds
end
section
variable {K : PySem.W.Frag} {cl : Cl} {ρ ρ' : List Addr} {H H' : Hp}
mutual
theorem RelD.drop : ∀ (d : D) (v : V), d.noRef = true → RelD K cl ρ H d v → RelD K cl ρ' H d v
  | .non, _, _, h => by cases h; exact .non
  | .bl b, _, _, h => by cases h; exact .bl b
  | .int i, _, _, h => by cases h; exact .int i
  | .str s, _, _, h => by cases h; exact .str s
  | .ty n, _, _, h => by cases h; exact .ty n
  | .tup ds, _, p, h => by
    cases h with
    | tup hs ha => exact .tup hs (RelAll.drop ds _ (by simpa [D.noRef] using p) ha)
  | .lst ds, _, p, h => by
    cases h with
    | lst hs ha => exact .lst hs (RelAll.drop ds _ (by simpa [D.noRef] using p) ha)
  | .scr ds, _, p, h => by
    cases h with
    | scr hs ha => exact .scr hs (RelAll.drop ds _ (by simpa [D.noRef] using p) ha)
  | .obj c ks ds, _, p, h => by
    cases h with
    | obj hs hk ha => exact .obj hs hk (RelAll.drop ds _ (by simpa [D.noRef] using p) ha)
  | .ref n, _, p, _ => by simp [D.noRef] at p
theorem RelAll.drop : ∀ (ds : List D) (vs : List V), noRefs ds = true → RelAll K cl ρ H ds vs → RelAll K cl ρ' H ds vs
  | [], _, _, h => by cases h; exact .nil
  | d :: ds, _, p, h => by
    have p' : d.noRef = true ∧ noRefs ds = true := by simpa [noRefs] using p
    cases h with
    | cons h1 h2 => exact .cons (RelD.drop d _ p'.1 h1) (RelAll.drop ds _ p'.2 h2)
end
/-- tuples, objects and what is not in the heap, read in another heap -/
def ExT (H H' : Hp) : Prop := (∀ a o, H a = some o → (∀ xs, o ≠ .lst xs) → H' a = some o)
theorem ext_t {a : Addr} {xs : List V} (e : ExT H H') (h : SqT K H a xs) : SqT K H' a xs := by
  rcases h with h | h
  · rcases h with h | ⟨o, h⟩
    · exact .inl (.inl (e _ _ h fun ys z => by cases z))
    · exact .inl (.inr ⟨o, e _ _ h fun ys z => by cases z⟩)
  · exact .inr h
mutual
theorem RelD.noL (e : ExT H H') : ∀ (d : D) (v : V), d.noLst = true → RelD K cl ρ H d v → RelD K cl ρ' H' d v
  | .non, _, _, h => by cases h; exact .non
  | .bl b, _, _, h => by cases h; exact .bl b
  | .int i, _, _, h => by cases h; exact .int i
  | .str s, _, _, h => by cases h; exact .str s
  | .ty n, _, _, h => by cases h; exact .ty n
  | .tup ds, _, p, h => by
    cases h with
    | tup hs ha => exact .tup (ext_t e hs) (RelAll.noL e ds _ (by simpa [D.noLst] using p) ha)
  | .lst ds, _, p, _ => by simp [D.noLst] at p
  | .scr ds, _, p, _ => by simp [D.noLst] at p
  | .obj c ks ds, _, p, h => by
    cases h with
    | obj hs hk ha => exact .obj (e _ _ hs fun ys z => by cases z) hk (RelAll.noL e ds _ (by simpa [D.noLst] using p) ha)
  | .ref n, _, p, _ => by simp [D.noLst] at p
theorem RelAll.noL (e : ExT H H') : ∀ (ds : List D) (vs : List V), noLsts ds = true → RelAll K cl ρ H ds vs → RelAll K cl ρ' H' ds vs
  | [], _, _, h => by cases h; exact .nil
  | d :: ds, _, p, h => by
    have p' : d.noLst = true ∧ noLsts ds = true := by simpa [noLsts] using p
    cases h with
    | cons h1 h2 => exact .cons (RelD.noL e d _ p'.1 h1) (RelAll.noL e ds _ p'.2 h2)
end
end
/-! ### what is handed back, with what it rests on of the store -/
mutual
def D.frz (S : Sto) : D → D
  | .ref m => match S[m]? with
    | some (.lst ds) => .lst ds
    | some (.obj c ks ds) => .obj c ks ds
    | some (.dct _) => .ref m
    | none => .ref m
  | .tup ds => .tup (frzs S ds)
  | .lst ds => .lst (frzs S ds)
  | .scr ds => .scr (frzs S ds)
  | .obj c ks ds => .obj c ks (frzs S ds)
  | d => d
def frzs (S : Sto) : List D → List D
  | [] => []
  | d :: ds => d.frz S :: frzs S ds
end
section
variable {K : PySem.W.Frag} {cl : Cl} {M : Addr → Prop} {ρ : List Addr} {S : Sto} {H : Hp}
theorem exNil : Ex (cut (NM M ρ) H) (cut (NM M []) H) := cut_ex fun a o n q => ⟨fun z => z.elim (fun m => n (.inl m)) (fun m => by cases m), q⟩
mutual
theorem frz_rel (g : G K cl M ρ S H) : ∀ (d : D) (v : V), RelD K cl ρ (cut (NM M ρ) H) d v → RelD K cl ρ (cut (NM M []) H) (d.frz S) v
  | .non, _, h => by cases h; exact .non
  | .bl b, _, h => by cases h; exact .bl b
  | .int i, _, h => by cases h; exact .int i
  | .str s, _, h => by cases h; exact .str s
  | .ty n, _, h => by cases h; exact .ty n
  | .tup ds, _, h => by
    cases h with
    | tup hs ha =>
      rw [D.frz]
      exact .tup (ex_t exNil hs) (frzs_rel g ds _ ha)
  | .lst ds, _, h => by
    cases h with
    | lst hs ha =>
      rw [D.frz]
      exact .lst (exNil _ _ hs) (frzs_rel g ds _ ha)
  | .scr ds, _, h => by
    cases h with
    | scr hs ha =>
      rw [D.frz]
      exact .scr (ex_l exNil hs) (frzs_rel g ds _ ha)
  | .obj c ks ds, _, h => by
    cases h with
    | obj hs hk ha =>
      rw [D.frz]
      exact .obj (exNil _ _ hs) hk (frzs_rel g ds _ ha)
  | .ref n, _, h => by
    cases h with
    | @ref _ a hn =>
      have hm : ¬ NM M [] a := fun z => z.elim (g.dis a (List.mem_of_getElem? hn)) (fun m => by cases m)
      rw [D.frz]
      split
      · rename_i ds he
        obtain ⟨vs, hv, r⟩ := g.lstAt hn he
        exact .lst (by rw [cut_no hm]; exact hv) (r.up (List.prefix_refl _) exNil _ _)
      · rename_i c ks ds he
        obtain ⟨u, hu, r⟩ := g.sto n _ a he hn
        cases r with
        | obj hk ha => exact .obj (by rw [cut_no hm]; exact hu) hk (ha.up (List.prefix_refl _) exNil _ _)
      · exact .ref hn
      · exact .ref hn
theorem frzs_rel (g : G K cl M ρ S H) : ∀ (ds : List D) (vs : List V), RelAll K cl ρ (cut (NM M ρ) H) ds vs → RelAll K cl ρ (cut (NM M []) H) (frzs S ds) vs
  | [], _, h => by cases h; rw [frzs]; exact .nil
  | d :: ds, _, h => by
    cases h with
    | cons h1 h2 =>
      rw [frzs]
      exact .cons (frz_rel g d _ h1) (frzs_rel g ds _ h2)
end
end
/-! ### defs that change nothing -/
abbrev PFn := List D → (D → Prop) → Prop
def spP (K : PySem.W.Frag) (cl : Cl) (F : PFn) : Sp := fun vs H Q _ => ∃ (M : Addr → Prop) (ds : List D) (k : D → Prop), (∀ a, M a → H a ≠ none) ∧ RelAll K cl [] (cut (NM M []) H) ds vs ∧ F ds k ∧
  ∀ H' d v, Stp M [] H [] H' → RelD K cl [] (cut (NM M []) H') d v → k d → Q v H'
def startE (n : Nat) (ds : List D) : Env := ds.map some ++ List.replicate (n - ds.length) none
theorem re_start {K : PySem.W.Frag} {cl : Cl} {ρ : List Addr} {H : Hp} {ds : List D} {vs : List V} (N : List Str) (r : RelAll K cl ρ H ds vs) : RE K cl ρ H (startE N.length ds) (L2.start N vs) := by
  refine ⟨?_, fun i d h => ?_⟩
  · unfold startE L2.start
    rw [List.length_append, List.length_append, List.length_map, List.length_map, List.length_replicate, List.length_replicate, r.len]
  · unfold startE at h
    unfold L2.start
    by_cases hi : i < ds.length
    · rw [List.getElem?_append_left (by rw [List.length_map]; exact hi), List.getElem?_map, List.getElem?_eq_getElem hi] at h
      cases h
      obtain ⟨v, hv, rv⟩ := r.get (List.getElem?_eq_getElem hi)
      exact ⟨v, by rw [List.getElem?_append_left (by rw [List.length_map, r.len]; exact hi), List.getElem?_map, hv]; rfl, rv⟩
    · rw [List.getElem?_append_right (by rw [List.length_map]; omega)] at h
      have := List.mem_of_getElem? h
      rw [List.mem_replicate] at this
      cases this.2
theorem spP_len {K : PySem.W.Frag} {cl : Cl} {F : PFn} {n : Nat} (h : ∀ ds k, F ds k → ds.length = n) : ∀ vs H Q E, spP K cl F vs H Q E → vs.length = n := fun vs H Q E ⟨M, ds, k, _, r, hF, _⟩ => by
  rw [r.len]
  exact h ds k hF
/-- a def keeps what it promises, if its body does over data -/
theorem fn_ok {K : PySem.W.Frag} {cl : Cl} {F : PFn} {ts : TS} {ps : PSx} {N : List Str} {vs : List V} {H : Hp} {Q : VK} {E : XK} (hs : SmS K cl ts ps)
    (hp : ∀ ds k, F ds k → ps { nx := fun _ _ => k .non, rt := fun d S => (d.frz S).noRef = true ∧ k (d.frz S) } (startE N.length ds) []) (h : spP K cl F vs H Q E) : ts { nx := fun _ H' => Q .non H', rt := Q } (L2.start N vs) H := by
  obtain ⟨M, ds, k, hM, r, hF, q⟩ := h
  have g : G K cl M [] [] H := ⟨hM, fun a ha => (by cases ha), List.nodup_nil, rfl, fun n o a hs => by simp at hs⟩
  have st : ∀ {ρ' H'}, Stp M [] H ρ' H' → Stp M [] H [] H' := fun s => ⟨List.prefix_refl _, s.ex.trans exNil, s.keep⟩
  refine hs M [] [] H _ _ g (re_start N r) _ _ (hp ds k hF) ⟨fun ρ' H' S' env' σ' s g' re' hk => q H' _ _ (st s) .non hk, fun ρ' H' S' d v s g' rd ⟨h1, hk⟩ => q H' _ _ (st s) ((frz_rel g' d v rd).drop _ _ h1) hk, fun _ _ _ _ _ _ _ _ h => h.elim, fun _ _ _ _ _ _ _ _ h => h.elim⟩
/-- a call of such a def: lists of the store are handed in as they stand -/
def callk (F : PFn) (S : Sto) (ds : List D) (k : D → Prop) : Prop := noRefs (ds.map (rs S)) = true ∧ F (ds.map (rs S)) fun d => (noRefs ds = true ∨ d.noLst = true) ∧ k d
def pCall (F : PFn) (pa : PAx) : PEx := fun env S k => pa env S fun ds S1 => callk F S1 ds fun d => k d S1
section
variable {K : PySem.W.Frag} {cl : Cl} {M : Addr → Prop} {ρ : List Addr} {S : Sto} {H H' : Hp} {F : PFn} {tr : TA} {pr : PAx} {E : XK}
theorem rs_id : ∀ ds : List D, noRefs ds = true → ds.map (rs S) = ds
  | [], _ => rfl
  | d :: ds, p => by
    have p' : d.noRef = true ∧ noRefs ds = true := by simpa [noRefs] using p
    rw [List.map_cons, rs_id ds p'.2]
    cases d <;> first | rfl | simp [D.noRef] at p'
/-- nothing of the store has changed -/
theorem G.same (g : G K cl M ρ S H) (e : ∀ a, ¬ NM M ρ a → ∀ o, H a = some o → H' a = some o) (k : ∀ a, NM M ρ a → H' a = H a) : G K cl M ρ S H' ∧ Stp M ρ H ρ H' := by
  have ex : Ex (cut (NM M ρ) H) (cut (NM M ρ) H') := cut_ex fun a o n q => ⟨n, e a n o q⟩
  refine ⟨⟨fun a m => by rw [k a (.inl m)]; exact g.live a m, g.dis, g.nd, g.len, fun n o a hs ha => ?_⟩, List.prefix_refl _, ex, fun a m => k a (.inl m)⟩
  obtain ⟨u, hu, r⟩ := g.sto n o a hs ha
  exact ⟨u, by rw [k a (.inr (List.mem_of_getElem? ha))]; exact hu, r.up (List.prefix_refl _) ex⟩
theorem sm_call (ha : SmA K cl tr pr) : SmE K cl (tCall (spP K cl F) [] E tr) (pCall F pr) := fun M ρ S H env σ g re k Q h q =>
  ha M ρ S H env σ g re _ _ h fun ρ1 H1 S1 ds vs s1 g1 r ⟨hn, hF⟩ => by
    show spP K cl F (vs ++ []) H1 Q E
    rw [List.append_nil]
    by_cases hr : noRefs ds = true
    · rw [rs_id ds hr] at hF
      have hset : ∀ a, NM (NM M ρ1) [] a ↔ NM M ρ1 a := fun a => ⟨fun z => z.elim id (fun m => by cases m), .inl⟩
      have e1 : ∀ H2 : Hp, Ex (cut (NM M ρ1) H2) (cut (NM (NM M ρ1) []) H2) := fun H2 => cut_ex fun a o n q => ⟨fun z => n ((hset a).mp z), q⟩
      have e2 : ∀ H2 : Hp, Ex (cut (NM (NM M ρ1) []) H2) (cut (NM M ρ1) H2) := fun H2 => cut_ex fun a o n q => ⟨fun z => n ((hset a).mpr z), q⟩
      refine ⟨NM M ρ1, ds, _, fun a m => m.elim (g1.live a) g1.liveR, (r.up (List.prefix_refl _) (e1 H1) _ _).drop _ _ hr, hF, fun H' d v s rd ⟨_, hk⟩ => ?_⟩
      obtain ⟨g2, s2⟩ := g1.same (H' := H') (fun a n o ho => (cut_ex' s.ex (fun z => n ((hset a).mp z)) ho).2) s.keep
      exact q ρ1 H' S1 d v (s1.trans s2) g2 (rd.up (List.nil_prefix) (e2 H') _ _) hk
    · let Vw : Addr → Prop := fun a => ∃ (n : Nat) (xs : List D), ρ1[n]? = some a ∧ S1[n]? = some (.lst xs)
      let M' : Addr → Prop := fun a => NM M ρ1 a ∧ ¬ Vw a
      have hset : ∀ a, NM M' [] a → NM M ρ1 a ∧ ¬ Vw a := fun a z => z.elim id (fun m => by cases m)
      have e1 : ∀ H2 : Hp, Ex (cut (NM M ρ1) H2) (cut (NM M' []) H2) := fun H2 => cut_ex fun a o n q => ⟨fun z => n (hset a z).1, q⟩
      have hview : ∀ a, Vw a → ∃ ws, H1 a = some (.lst ws) := fun a ⟨n, xs, hn, hs⟩ => by
        obtain ⟨ws, hw, _⟩ := g1.lstAt hn hs
        exact ⟨ws, hw⟩
      have rels : ∀ (ds : List D) (vs : List V), noRefs (ds.map (rs S1)) = true → RelAll K cl ρ1 (cut (NM M ρ1) H1) ds vs → RelAll K cl [] (cut (NM M' []) H1) (ds.map (rs S1)) vs := by
        intro ds
        induction ds with
        | nil =>
          intro vs _ h
          cases h
          exact .nil
        | cons d ds ih =>
          intro vs p h
          rw [List.map_cons] at p ⊢
          have p' : (rs S1 d).noRef = true ∧ noRefs (ds.map (rs S1)) = true := by simpa [noRefs] using p
          cases h with
          | @cons _ _ v0 _ h1 h2 =>
            refine .cons ?_ (ih _ p'.2 h2)
            have main : RelD K cl ρ1 (cut (NM M' []) H1) (rs S1 d) v0 := by
              cases h1 with
              | @ref n a hn =>
                have pr := p'.1
                unfold rs at pr ⊢
                simp only at pr ⊢
                split at pr
                · rename_i xs he
                  obtain ⟨ws, hw, rw'⟩ := g1.lstAt hn he
                  refine .lst ?_ (rw'.up (List.prefix_refl _) (e1 H1) _ _)
                  rw [cut_no fun z => (hset a z).2 ⟨n, xs, hn, he⟩]
                  exact hw
                · simp [D.noRef] at pr
              | non => exact .non
              | bl => exact .bl _
              | int => exact .int _
              | str => exact .str _
              | ty => exact .ty _
              | tup hs ha => exact (RelD.tup hs ha).up (List.prefix_refl _) (e1 H1) _ _
              | lst hs ha => exact (RelD.lst hs ha).up (List.prefix_refl _) (e1 H1) _ _
              | scr hs ha => exact (RelD.scr hs ha).up (List.prefix_refl _) (e1 H1) _ _
              | obj hs hk ha => exact (RelD.obj hs hk ha).up (List.prefix_refl _) (e1 H1) _ _
            exact main.drop _ _ p'.1
      refine ⟨M', ds.map (rs S1), _, fun a m => m.1.elim (g1.live a) g1.liveR, rels ds vs hn r, hF, fun H' d v s rd ⟨hl, hk⟩ => ?_⟩
      have hd : d.noLst = true := hl.elim (fun z => absurd z hr) id
      have keep : ∀ a, NM M ρ1 a → H' a = H1 a := fun a m => by
        by_cases hv : Vw a
        · obtain ⟨ws, hw⟩ := hview a hv
          rw [hw]
          exact (cut_ex' s.ex (fun z => (hset a z).2 hv) hw).2
        · exact s.keep a ⟨m, hv⟩
      obtain ⟨g2, s2⟩ := g1.same (H' := H') (fun a n o ho => (cut_ex' s.ex (fun z => n (hset a z).1) ho).2) keep
      refine q ρ1 H' S1 d v (s1.trans s2) g2 (RelD.noL (fun a o ho hl => ?_) d v hd rd) hk
      by_cases z : NM M' [] a
      · rw [cut_yes z] at ho
        cases ho
      · rw [cut_no z] at ho
        have n : ¬ NM M ρ1 a := fun m => by
          have hv : Vw a := Classical.byContradiction fun hv => z (.inl ⟨m, hv⟩)
          obtain ⟨ws, hw⟩ := hview a hv
          rw [keep a m, hw] at ho
          cases ho
          exact hl ws rfl
        rw [cut_no n]
        exact ho
end
/-! ### defs that change the store -/
abbrev SFn := List D → Sto → (D → Sto → Prop) → Prop
def spS (K : PySem.W.Frag) (cl : Cl) (R : SFn) : Sp := fun vs H Q _ => ∃ (M : Addr → Prop) (ρ : List Addr) (S : Sto) (ds : List D) (k : D → Sto → Prop), G K cl M ρ S H ∧ RelAll K cl ρ (cut (NM M ρ) H) ds vs ∧ R ds S k ∧
  ∀ ρ' H' S' d v, Stp M ρ H ρ' H' → G K cl M ρ' S' H' → RelD K cl ρ' (cut (NM M ρ') H') d v → k d S' → Q v H'
def pCallS (R : SFn) (pa : PAx) : PEx := fun env S k => pa env S fun ds S1 => R ds S1 k
theorem sm_callS {K : PySem.W.Frag} {cl : Cl} {R : SFn} {tr : TA} {pr : PAx} {E : XK} (ha : SmA K cl tr pr) : SmE K cl (tCall (spS K cl R) [] E tr) (pCallS R pr) := fun M ρ S H env σ g re k Q h q =>
  ha M ρ S H env σ g re _ _ h fun ρ1 H1 S1 ds vs s1 g1 r hR => ⟨M, ρ1, S1, ds, k, g1, by rw [List.append_nil]; exact r, hR, fun ρ' H' S' d v s2 g2 rd hk => q ρ' H' S' d v (s1.trans s2) g2 rd hk⟩
theorem spS_len {K : PySem.W.Frag} {cl : Cl} {R : SFn} {n : Nat} (h : ∀ ds S k, R ds S k → ds.length = n) : ∀ vs H Q E, spS K cl R vs H Q E → vs.length = n := fun vs H Q E ⟨M, ρ, S, ds, k, _, r, hF, _⟩ => by
  rw [r.len]
  exact h ds S k hF
theorem fnS_ok {K : PySem.W.Frag} {cl : Cl} {R : SFn} {ts : TS} {ps : PSx} {N : List Str} {vs : List V} {H : Hp} {Q : VK} {E : XK} (hs : SmS K cl ts ps)
    (hp : ∀ ds S k, R ds S k → ps { nx := fun _ S' => k .non S', rt := k } (startE N.length ds) S) (h : spS K cl R vs H Q E) : ts { nx := fun _ H' => Q .non H', rt := Q } (L2.start N vs) H := by
  obtain ⟨M, ρ, S, ds, k, g, r, hF, q⟩ := h
  exact hs M ρ S H _ _ g (re_start N r) _ _ (hp ds S k hF) ⟨fun ρ' H' S' env' σ' s g' re' hk => q ρ' H' S' _ _ s g' .non hk, q, fun _ _ _ _ _ _ _ _ h => h.elim, fun _ _ _ _ _ _ _ _ h => h.elim⟩
end Pw
namespace Pw
open PySem PySem.Spec PyProof.Rows L2 Evl Lw
abbrev uTup (K : PySem.W.Frag) : List V → Hp → VK → Prop := fun xs H Q => ∃ p ys, xs = [.ref p] ∧ ((SqL K H p ys ∧ ∀ l, H l = none → Q (.ref l) (upd H l (.tup ys))) ∨ (SqT K H p ys ∧ Q (.ref p) H))
abbrev uLst (K : PySem.W.Frag) : List V → Hp → VK → Prop := fun xs H Q => ∃ p ys, xs = [.ref p] ∧ (SqL K H p ys ∨ SqT K H p ys) ∧ ∀ l, H l = none → Q (.ref l) (upd H l (.lst ys))
/-- the law's own call -/
theorem law_ok {K : PySem.W.Frag} {cl : Cl} {ts : TS} {ps : PSx} {N : List Str} {vs : List V} {H : Hp} {Q : VK} {E : XK} (hs : SmS K cl ts ps)
    (hp : ∀ ns : List Int, ns.length ≤ 63 → ps { nx := fun _ _ => False, rt := fun d _ => d = .bl true } (startE N.length [.scr (ns.map D.int)]) []) (h : spLaw K vs H Q E) : ts { nx := fun _ H' => Q .non H', rt := Q } (L2.start N vs) H := by
  obtain ⟨a, ns, rfl, hS, hl, q⟩ := h
  have g : G K cl (fun _ => False) [] [] H := ⟨fun a m => m.elim, fun a ha => (by cases ha), List.nodup_nil, rfl, fun n o a hs => by simp at hs⟩
  have scrs : ∀ ns : List Int, RelAll K cl [] (cut (NM (fun _ => False) []) H) (ns.map D.int) (ns.map V.int) := fun ns => by
    induction ns with
    | nil => exact .nil
    | cons n ns ih => exact .cons (.int n) ih
  have ex : Ex H (cut (NM (fun _ => False) []) H) := fun a o h => by
    rw [cut_no (fun z => z.elim id (fun m => by cases m))]
    exact h
  refine hs _ [] [] H _ _ g (re_start N (.cons (.scr (ex_l ex hS) (scrs ns)) .nil)) _ _ (hp ns hl) ⟨fun ρ' H' S' env' σ' s g' re' hk => hk.elim, fun ρ' H' S' d v s g' rd hk => ?_, fun _ _ _ _ _ _ _ _ h => h.elim, fun _ _ _ _ _ _ _ _ h => h.elim⟩
  rw [hk] at rd
  rw [rel_bl rd]
  exact q H'
def pStar (pa : PEx) (pr : PAx) : PAx := fun env S k => pa env S fun x S1 => ∃ ds, itemsOf S1 x = some ds ∧ pr env S1 fun xs S2 => k (ds ++ xs) S2
/-! ### truth, texts, fields -/
def truk (S : Sto) (d : D) (k : Bool → Prop) : Prop := match d with
  | .non => k false
  | .bl b => k b
  | .int i => k (i != 0)
  | .str s => s.length ≤ 100000 ∧ k ((s.length : Int) != 0)
  | x => ∃ ds, itemsOf S x = some ds ∧ k (!ds.isEmpty)
def pTru (pa : PEx) : PTx := fun env S k => pa env S fun x S1 => truk S1 x fun b => k b S1
def pFmt (pa : PEx) : PEx := fun env S k => pa env S fun x S1 => match x with
  | .str y => y.length ≤ 100000 ∧ k (.str y) S1
  | .int i => i.natAbs.log2 < 1920 ∧ k (.str (toString i)) S1
  | _ => False
def pJs : List PEx → Str → Env → Sto → (Str → Sto → Prop) → Prop
  | [], acc, _, S, k => k acc S
  | p :: ps, acc, env, S, k => p env S fun x S1 => ∃ y : Str, x = .str y ∧ (acc ++ y).length ≤ 100000 ∧ pJs ps (acc ++ y) env S1 k
def pJoin (ps : List PEx) : PEx := fun env S k => pJs ps Str.empty env S fun out S1 => k (.str out) S1
def pRfind (pa pb : PEx) : PEx := fun env S k => pa env S fun x S1 => ∃ a, x = .str a ∧ pb env S1 fun y S2 => ∃ b, y = .str b ∧ k (.int (Txt.rfind a b)) S2
/-- a field, of an object of one of the classes cs -/
def fldOf (cs : List Nat) (f : Str) (S : Sto) : D → Option D
  | .obj c ks ds => if c ∈ cs then (ks.zip ds).lookup f else none
  | .ref n => match S[n]? with
    | some (.obj c ks ds) => if c ∈ cs then (ks.zip ds).lookup f else none
    | _ => none
  | _ => none
def pFld (f : Str) (cs : List Nat) (pa : PEx) : PEx := fun env S k => pa env S fun x S1 => ∃ d, fldOf cs f S1 x = some d ∧ k d S1
section
variable {K : PySem.W.Frag} {cl : Cl} {te ta tb : TE} {pe pa pb : PEx}
theorem sm_tru (ha : SmE K cl ta pa) : SmT K cl (fun σ H Q => ta σ H fun x H' => ∃ k, TruV K x H' k ∧ Q k H') (pTru pa) := fun M ρ S H env σ g re k Q h q =>
  ha M ρ S H env σ g re _ _ h fun ρ1 H1 S1 x v s1 g1 rx hk => by
    have seqs : (∃ ds, itemsOf S1 x = some ds ∧ k (!ds.isEmpty) S1) → ∃ k, TruV K v H1 k ∧ Q k H1 := by
      rintro ⟨ds, e, hk⟩
      obtain ⟨a, vs, rfl, hs, r⟩ := items_sq g1 rx e
      have he : (!ds.isEmpty) = !vs.isEmpty := by cases r <;> rfl
      refine ⟨_, ?_, q ρ1 H1 S1 _ s1 g1 hk⟩
      rcases hs with hs | hs
      · exact .inl ⟨vs, hs, he⟩
      · exact .inr (.inl ⟨vs, hs, he⟩)
    cases x with
    | non => cases rx; exact ⟨false, rfl, q ρ1 H1 S1 _ s1 g1 hk⟩
    | bl b => rw [rel_bl rx]; exact ⟨b, rfl, q ρ1 H1 S1 _ s1 g1 hk⟩
    | int i => rw [rel_int rx]; exact ⟨_, rfl, q ρ1 H1 S1 _ s1 g1 hk⟩
    | str y => rw [rel_str rx]; exact ⟨_, ⟨sz_of hk.1, rfl⟩, q ρ1 H1 S1 _ s1 g1 hk.2⟩
    | _ => exact seqs hk
theorem sm_fmt (ha : SmE K cl ta pa) : SmE K cl (tFmt ta) (pFmt pa) := fun M ρ S H env σ g re k Q h q =>
  ha M ρ S H env σ g re _ _ h fun ρ1 H1 S1 x v s1 g1 rx hk => by
    cases x with
    | str y =>
      rw [rel_str rx]
      exact .inl ⟨y, rfl, sz_of hk.1, q ρ1 H1 S1 _ _ s1 g1 (.str _) hk.2⟩
    | int i =>
      rw [rel_int rx]
      exact .inr ⟨i, rfl, hk.1, q ρ1 H1 S1 _ _ s1 g1 (.str _) hk.2⟩
    | _ => exact hk.elim
inductive SmJ (K : PySem.W.Frag) (cl : Cl) : List TE → List PEx → Prop where
  | nil : SmJ K cl [] []
  | cons {t : TE} {p : PEx} {ts : List TE} {ps : List PEx} : SmE K cl t p → SmJ K cl ts ps → SmJ K cl (t :: ts) (p :: ps)
theorem sm_js {ts : List TE} {ps : List PEx} (h : SmJ K cl ts ps) : ∀ (M : Addr → Prop) (ρ : List Addr) (S : Sto) (H : Hp) (env : Env) (σ : L2.St) (acc : Str), G K cl M ρ S H → RE K cl ρ (cut (NM M ρ) H) env σ → ∀ (k : Str → Sto → Prop) (Q : Str → Hp → Prop), pJs ps acc env S k →
    (∀ ρ' H' S' out, Stp M ρ H ρ' H' → G K cl M ρ' S' H' → k out S' → Q out H') → tJs ts acc σ H Q := by
  induction h with
  | nil => exact fun M ρ S H env σ acc g re k Q h q => q ρ H S acc .refl g h
  | cons h1 h2 ih =>
    exact fun M ρ S H env σ acc g re k Q h q => h1 M ρ S H env σ g re _ _ h fun ρ1 H1 S1 x v s1 g1 rx ⟨y, hy, hl, hk⟩ => by
      subst hy
      exact ⟨y, rel_str rx, sz_of hl, ih M ρ1 S1 H1 env σ _ g1 (re.up s1) _ _ hk fun ρ2 H2 S2 out s2 g2 h2 => q ρ2 H2 S2 out (s1.trans s2) g2 h2⟩
theorem sm_join {ts : List TE} {ps : List PEx} (h : SmJ K cl ts ps) : SmE K cl (fun σ H Q => tJs ts Str.empty σ H fun out H1 => Q (.str out) H1) (pJoin ps) := fun M ρ S H env σ g re k Q hk q =>
  sm_js h M ρ S H env σ Str.empty g re _ _ hk fun ρ' H' S' out s g' h' => q ρ' H' S' _ _ s g' (.str _) h'
theorem sm_rfind (ha : SmE K cl ta pa) (hb : SmE K cl tb pb) : SmE K cl (tM1 (fun x xs H Q => ∃ a b, x = .str a ∧ xs = [.str b] ∧ Q (.int (Txt.rfind a b)) H) ta tb) (pRfind pa pb) := fun M ρ S H env σ g re k Q h q =>
  ha M ρ S H env σ g re _ _ h fun ρ1 H1 S1 x v s1 g1 rx ⟨a, hx, h1⟩ => by
    subst hx
    rw [rel_str rx]
    exact ⟨⟨a, rfl⟩, hb M ρ1 S1 H1 env σ g1 (re.up s1) _ _ h1 fun ρ2 H2 S2 y w s2 g2 ry ⟨b, hy, hk⟩ => by
      subst hy
      rw [rel_str ry]
      exact ⟨a, b, rfl, rfl, q ρ2 H2 S2 _ _ (s1.trans s2) g2 (.int _) hk⟩⟩
theorem lookup_rel {ρ : List Addr} {H : Hp} {f : Str} : ∀ {fs : List (Str × V)} {ds : List D} {d : D}, RelAll K cl ρ H ds (fs.map (·.2)) → ((fs.map (·.1)).zip ds).lookup f = some d → ∃ v, fs.lookup f = some v ∧ RelD K cl ρ H d v
  | [], ds, d, r, h => by simp at h
  | (k, v) :: fs, ds, d, r, h => by
    cases r with
    | @cons d0 ds' _ _ h1 h2 =>
      rw [List.map_cons, List.zip_cons_cons, List.lookup_cons] at h
      rw [List.lookup_cons]
      cases hb : f == k with
      | true =>
        rw [hb] at h
        cases h
        exact ⟨v, rfl, h1⟩
      | false =>
        rw [hb] at h
        exact lookup_rel h2 h
theorem fld_at {M : Addr → Prop} {ρ : List Addr} {S : Sto} {H : Hp} (g : G K cl M ρ S H) {cs : List Nat} {f : Str} {x d : D} {v : V} (r : RelD K cl ρ (cut (NM M ρ) H) x v) (h : fldOf cs f S x = some d) :
    ∃ a c dx fs u, v = .ref a ∧ c ∈ cs ∧ H a = some (.ins (cl c) dx fs) ∧ fs.lookup f = some u ∧ RelD K cl ρ (cut (NM M ρ) H) d u := by
  cases r with
  | @obj a dx c fs ks ds hs hk ha =>
    unfold fldOf at h
    simp only at h
    split at h
    · rename_i hc
      rw [← hk] at h
      obtain ⟨u, hu, ru⟩ := lookup_rel ha h
      exact ⟨a, c, dx, fs, u, rfl, hc, cut_sub _ _ hs, hu, ru⟩
    · cases h
  | @ref n a hn =>
    unfold fldOf at h
    simp only at h
    split at h
    · rename_i c ks ds he
      split at h
      · rename_i hc
        obtain ⟨u, hu, r⟩ := g.sto n _ a he hn
        cases r with
        | @obj _ dx fs _ _ hk ha =>
          rw [← hk] at h
          obtain ⟨w, hw, rw'⟩ := lookup_rel ha h
          exact ⟨a, c, dx, fs, w, rfl, hc, hu, hw, rw'⟩
      · cases h
    · cases h
  | _ => cases h
theorem sm_fld {f : Str} {cs : List Nat} (hc : ∀ c ∈ cs, Cls K (cl c) ∧ NoAttr K (cl c) f) (ha : SmE K cl ta pa) : SmE K cl (tFld K ta f) (pFld f cs pa) := fun M ρ S H env σ g re k Q h q =>
  ha M ρ S H env σ g re _ _ h fun ρ1 H1 S1 x v s1 g1 rx ⟨d, hd, hk⟩ => by
    obtain ⟨a, c, dx, fs, u, rfl, hcs, hH, hu, ru⟩ := fld_at g1 rx hd
    exact ⟨a, cl c, dx, fs, u, rfl, hH, (hc c hcs).1, (hc c hcs).2, hu, q ρ1 H1 S1 d u s1 g1 ru hk⟩
theorem sm_star {tr : TA} {pr : PAx} (ha : SmE K cl ta pa) (hr : SmA K cl tr pr) : SmA K cl (StX.tStar K ta tr) (pStar pa pr) := fun M ρ S H env σ g re k Q h q =>
  ha M ρ S H env σ g re _ _ h fun ρ1 H1 S1 x v s1 g1 rx ⟨ds, hd, h1⟩ => by
    obtain ⟨a, vs, rfl, hs, r⟩ := items_sq g1 rx hd
    exact ⟨a, vs, rfl, hs.symm, hr M ρ1 S1 H1 env σ g1 (re.up s1) _ _ h1 fun ρ2 H2 S2 ys ws s2 g2 ry h2 => q ρ2 H2 S2 _ _ (s1.trans s2) g2 ((r.up s2.pre s2.ex _ _).app ry) h2⟩
end
/-! ### how it is shown -/
def forG (g : PGx) (tb : PSx) (P : PEnds) : List D → Env → Sto → Prop
  | [], env, S => P.nx env S
  | d :: ds, env, S => g d env S fun env1 S1 => tb { P with nx := forG g tb P ds, ct := forG g tb P ds, bk := P.nx } env1 S1
theorem for_go {pi : PIx} {g : PGx} {tb : PSx} {P : PEnds} {env : Env} {S : Sto} {src : D} {ds : List D} (hpi : ∀ kk : D → List D → Sto → Prop, kk src ds S → pi env S kk) (hs : ∀ S', iterOf S' src = some ds) (h : forG g tb P ds env S) : pFor pi g tb P env S := by
  refine hpi _ ⟨fun i => forG g tb P (ds.drop i), h, fun i d env S hd hI => ⟨hs S, ?_⟩, fun env S hI => ⟨hs S, ?_⟩⟩
  · have hi := (List.getElem?_eq_some_iff.mp hd)
    have e : ds.drop i = d :: ds.drop (i + 1) := by
      rw [← hi.2]
      exact List.drop_eq_getElem_cons hi.1
    dsimp only at hI
    rw [e] at hI
    exact hI
  · dsimp only at hI
    rw [List.drop_of_length_le (Nat.le_refl _)] at hI
    exact hI
/-- a loop over a list of the store -/
def forGR (src : D) (all : List D) (g : PGx) (tb : PSx) (P : PEnds) : List D → Env → Sto → Prop
  | [], env, S => iterOf S src = some all ∧ P.nx env S
  | d :: ds, env, S => iterOf S src = some all ∧ g d env S fun env1 S1 => tb { P with nx := forGR src all g tb P ds, ct := forGR src all g tb P ds, bk := P.nx } env1 S1
theorem for_ref {pi : PIx} {g : PGx} {tb : PSx} {P : PEnds} {env : Env} {S : Sto} {src : D} {ds : List D} (hpi : ∀ kk : D → List D → Sto → Prop, kk src ds S → pi env S kk) (h : forGR src ds g tb P ds env S) : pFor pi g tb P env S := by
  refine hpi _ ⟨fun i => forGR src ds g tb P (ds.drop i), h, fun i d env S hd hI => ?_, fun env S hI => ?_⟩
  · have hi := (List.getElem?_eq_some_iff.mp hd)
    have e : ds.drop i = d :: ds.drop (i + 1) := by
      rw [← hi.2]
      exact List.drop_eq_getElem_cons hi.1
    dsimp only at hI
    rw [e] at hI
    exact hI
  · dsimp only at hI
    rw [List.drop_of_length_le (Nat.le_refl _)] at hI
    exact hI
theorem lc_go {α : Type} {pi : PIx} {g : PGx} {pt : PTx} {pe : PEx} {ws : List Nat} {env : Env} {S : Sto} {k : D → Sto → Prop} {src : D} {as : List α} {enc : α → D} (f : α → Bool) (h : α → D)
    (hpi : ∀ kk : D → List D → Sto → Prop, kk src (as.map enc) S → pi env S kk) (hs : ∀ S', iterOf S' src = some (as.map enc)) (hl : as.length < 90000)
    (hd : ∀ a ∈ as, ∀ (k2 : D → Sto → Prop) (k3 : Sto → Prop), (if f a = true then k2 (h a) S else k3 S) → g (enc a) (wipeE env ws) S fun env2 S2 => pt env2 S2 fun b S3 => if b = true then pe env2 S3 k2 else k3 S3)
    (hk : k (.lst ((as.filter f).map h)) S) : pLc pi g pt pe ws env S k := by
  refine hpi _ ⟨fun i acc S' => S' = S ∧ acc = ((as.take i).filter f).map h, ⟨rfl, rfl⟩, ?_, ?_⟩
  · rintro i d acc S' hi ⟨rfl, rfl⟩
    rw [List.getElem?_map] at hi
    cases e : as[i]? with
    | none => rw [e] at hi; cases hi
    | some a =>
      rw [e] at hi
      cases hi
      have ht : as.take (i + 1) = as.take i ++ [a] := take_up e
      refine ⟨?_, hs S', hd a (List.mem_of_getElem? e) _ _ ?_⟩
      · rw [List.length_map]
        have := List.length_filter_le f (as.take i)
        rw [List.length_take] at this
        omega
      · dsimp only
        rw [ht, List.filter_append, List.map_append]
        cases hf : f a with
        | true => rw [if_pos rfl, List.filter_cons_of_pos hf]; exact ⟨rfl, rfl⟩
        | false => rw [if_neg (by decide), List.filter_cons_of_neg (by rw [hf]; decide)]; exact ⟨rfl, by simp⟩
  · rintro acc S' ⟨rfl, rfl⟩
    rw [List.length_map, List.take_of_length_le (Nat.le_refl _)]
    exact ⟨hs S', hk⟩
theorem lc_ref {α : Type} {pi : PIx} {g : PGx} {pt : PTx} {pe : PEx} {ws : List Nat} {env : Env} {S : Sto} {k : D → Sto → Prop} {src : D} {as : List α} {enc : α → D} (f : α → Bool) (h : α → D)
    (hpi : ∀ kk : D → List D → Sto → Prop, kk src (as.map enc) S → pi env S kk) (hs : iterOf S src = some (as.map enc)) (hl : as.length < 90000)
    (hd : ∀ a ∈ as, ∀ (k2 : D → Sto → Prop) (k3 : Sto → Prop), (if f a = true then k2 (h a) S else k3 S) → g (enc a) (wipeE env ws) S fun env2 S2 => pt env2 S2 fun b S3 => if b = true then pe env2 S3 k2 else k3 S3)
    (hk : k (.lst ((as.filter f).map h)) S) : pLc pi g pt pe ws env S k := by
  refine hpi _ ⟨fun i acc S' => S' = S ∧ acc = ((as.take i).filter f).map h, ⟨rfl, rfl⟩, ?_, ?_⟩
  · rintro i d acc S' hi ⟨rfl, rfl⟩
    rw [List.getElem?_map] at hi
    cases e : as[i]? with
    | none => rw [e] at hi; cases hi
    | some a =>
      rw [e] at hi
      cases hi
      have ht : as.take (i + 1) = as.take i ++ [a] := take_up e
      refine ⟨?_, hs, hd a (List.mem_of_getElem? e) _ _ ?_⟩
      · rw [List.length_map]
        have := List.length_filter_le f (as.take i)
        rw [List.length_take] at this
        omega
      · dsimp only
        rw [ht, List.filter_append, List.map_append]
        cases hf : f a with
        | true => rw [if_pos rfl, List.filter_cons_of_pos hf]; exact ⟨rfl, rfl⟩
        | false => rw [if_neg (by decide), List.filter_cons_of_neg (by rw [hf]; decide)]; exact ⟨rfl, by simp⟩
  · rintro acc S' ⟨rfl, rfl⟩
    rw [List.length_map, List.take_of_length_le (Nat.le_refl _)]
    exact ⟨hs, hk⟩
theorem pure_noRef : ∀ d : D, d.pure = true → d.noRef = true := by
  intro d
  refine D.rec (motive_1 := fun d => d.pure = true → d.noRef = true) (motive_2 := fun ds => pureAll ds = true → noRefs ds = true) ?_ ?_ ?_ ?_ ?_ ?_ ?_ ?_ ?_ ?_ ?_ ?_ d
  all_goals simp_all [D.pure, D.noRef, pureAll, noRefs]
theorem rs_pure {S : Sto} {d : D} (h : d.pure = true) : rs S d = d := by
  cases d <;> first | rfl | simp [D.pure] at h
theorem eqk_pure {S : Sto} {x y : D} {k : D → Prop} (hx : x.pure = true) (hy : y.pure = true) (hd : x.dep ≤ 60) : eqk S x y k = k (.bl (D.eqv x y)) := by
  unfold eqk
  rw [rs_pure hx, rs_pure hy, hx, hy]
  simp [hd]
theorem nek_pure {S : Sto} {x y : D} {k : D → Prop} (hx : x.pure = true) (hy : y.pure = true) (hd : x.dep ≤ 60) : nek S x y k = k (.bl (!D.eqv x y)) := by
  unfold nek
  rw [rs_pure hx, rs_pure hy, hx, hy]
  simp [hd]
theorem frz_pure (S : Sto) : ∀ d : D, d.pure = true → d.frz S = d := by
  intro d
  refine D.rec (motive_1 := fun d => d.pure = true → d.frz S = d) (motive_2 := fun ds => pureAll ds = true → frzs S ds = ds) ?_ ?_ ?_ ?_ ?_ ?_ ?_ ?_ ?_ ?_ ?_ ?_ d
  all_goals simp_all [D.pure, D.frz, pureAll, frzs]
theorem rt_pure {d : D} {S : Sto} {k : D → Prop} (h : d.pure = true) (hk : k d) : (d.frz S).noRef = true ∧ k (d.frz S) := by
  rw [frz_pure S d h]
  exact ⟨pure_noRef d h, hk⟩
theorem pgTup_t {n : Nat} {gs : PGsx} {ds : List D} {env : Env} {S : Sto} {k : Env → Sto → Prop} : pgTup n gs (.tup ds) env S k = (ds.length = n ∧ gs ds env S k) := rfl
theorem isk_non {S : Sto} {x : D} {k : D → Prop} : isk S x .non k = k (.bl (isNon x)) := by
  show (D.non = .non ∧ k (.bl (isNon x))) = _
  simp
theorem nsk_non {S : Sto} {x : D} {k : D → Prop} : nsk S x .non k = k (.bl (!isNon x)) := by
  show (D.non = .non ∧ k (.bl (!isNon x))) = _
  simp
theorem isN_non : isNon .non = true := rfl
theorem isN_bl {b : Bool} : isNon (.bl b) = false := rfl
theorem isN_int {b : Int} : isNon (.int b) = false := rfl
theorem isN_str {b : Str} : isNon (.str b) = false := rfl
theorem isN_tup {b : List D} : isNon (.tup b) = false := rfl
theorem isN_lst {b : List D} : isNon (.lst b) = false := rfl
theorem isN_ref {b : Nat} : isNon (.ref b) = false := rfl
theorem isN_obj {c : Nat} {ks : List Str} {b : List D} : isNon (.obj c ks b) = false := rfl
section
variable {S : Sto} {k : D → Prop}
theorem o_add {i j : Int} : addk S (.int i) (.int j) k = k (.int (i + j)) := rfl
theorem o_sub {i j : Int} : subk S (.int i) (.int j) k = k (.int (i - j)) := rfl
theorem o_mul {i j : Int} : mulk S (.int i) (.int j) k = (CMul i j ∧ k (.int (i * j))) := rfl
theorem o_div {i j : Int} : divk S (.int i) (.int j) k = ((0 < j ∧ j < 1073741824) ∧ k (.int (i / j))) := rfl
theorem o_mod {i j : Int} : modk S (.int i) (.int j) k = (0 < j ∧ k (.int (i % j))) := rfl
theorem o_cmp {f : Int → Int → Bool} {i j : Int} : cmpk f S (.int i) (.int j) k = k (.bl (f i j)) := rfl
theorem o_int {i : Int} : int1k S [.int i] k = k (.int i) := rfl
theorem o_min {i j : Int} : min2k S [.int i, .int j] k = k (.int (if j < i then j else i)) := rfl
theorem o_max {i j : Int} : max2k S [.int i, .int j] k = k (.int (if j > i then j else i)) := rfl
theorem o_lenl {ds : List D} : lenk S [.lst ds] k = k (.int ds.length) := by
  show (∃ es, itemsOf S (.lst ds) = some es ∧ k (.int es.length)) = _
  simp [itemsOf]
theorem o_lent {ds : List D} : lenk S [.tup ds] k = k (.int ds.length) := by
  show (∃ es, itemsOf S (.tup ds) = some es ∧ k (.int es.length)) = _
  simp [itemsOf]
theorem o_lens {ds : List D} : lenk S [.scr ds] k = k (.int ds.length) := by
  show (∃ es, itemsOf S (.scr ds) = some es ∧ k (.int es.length)) = _
  simp [itemsOf]
theorem o_tupt {ds : List D} : tupk S [.tup ds] k = k (.tup ds) := rfl
theorem o_tupl {ds : List D} : tupk S [.lst ds] k = k (.tup ds) := by
  show (∃ es, listOf S (.lst ds) = some es ∧ k (.tup es)) = _
  simp [listOf]
theorem o_tupr {n : Nat} : tupk S [.ref n] k = ∃ es, listOf S (.ref n) = some es ∧ k (.tup es) := rfl
theorem o_lenr {n : Nat} : lenk S [.ref n] k = ∃ es, itemsOf S (.ref n) = some es ∧ k (.int es.length) := rfl
theorem lo_ref {n : Nat} {ds : List D} (h : S[n]? = some (.lst ds)) : listOf S (.ref n) = some ds := by
  unfold listOf
  simp only [h]
theorem io_ref {n : Nat} {ds : List D} (h : S[n]? = some (.lst ds)) : itemsOf S (.ref n) = some ds := by
  unfold itemsOf
  simp only [h]
theorem q_int {a b : Int} : eqk S (.int a) (.int b) k = k (.bl (decide (a = b))) := by
  rw [eqk_pure (x := .int a) (y := .int b) rfl rfl (show (D.int a).dep ≤ 60 from Nat.zero_le 60)]
  have : D.eqv (.int a) (.int b) = decide (a = b) := by
    show (a == b) = _
    rw [Bool.eq_iff_iff]
    simp
  rw [this]
theorem n_int {a b : Int} : nek S (.int a) (.int b) k = k (.bl (!decide (a = b))) := by
  rw [nek_pure (x := .int a) (y := .int b) rfl rfl (show (D.int a).dep ≤ 60 from Nat.zero_le 60)]
  have : D.eqv (.int a) (.int b) = decide (a = b) := by
    show (a == b) = _
    rw [Bool.eq_iff_iff]
    simp
  rw [this]
theorem at0 {α : Type} {a : α} {l : List α} : atI (a :: l) 0 = some a := atI_nat (j := 0) rfl
theorem at1 {α : Type} {a b : α} {l : List α} : atI (a :: b :: l) 1 = some b := atI_nat (j := 1) rfl
theorem at2 {α : Type} {a b c : α} {l : List α} : atI (a :: b :: c :: l) 2 = some c := atI_nat (j := 2) rfl
theorem at3 {α : Type} {a b c d : α} {l : List α} : atI (a :: b :: c :: d :: l) 3 = some d := atI_nat (j := 3) rfl
theorem at4 {α : Type} {a b c d e : α} {l : List α} : atI (a :: b :: c :: d :: e :: l) 4 = some e := atI_nat (j := 4) rfl
theorem at5 {α : Type} {a b c d e f : α} {l : List α} : atI (a :: b :: c :: d :: e :: f :: l) 5 = some f := atI_nat (j := 5) rfl
theorem ixk_tup {ds : List D} {i : Int} : ixk S (.tup ds) (.int i) k = ∃ d, atI ds i = some d ∧ k d := by
  show (∃ ds' d, itemsOf S (.tup ds) = some ds' ∧ atI ds' i = some d ∧ k d) = _
  simp [itemsOf]
theorem ixk_lst {ds : List D} {i : Int} : ixk S (.lst ds) (.int i) k = ∃ d, atI ds i = some d ∧ k d := by
  show (∃ ds' d, itemsOf S (.lst ds) = some ds' ∧ atI ds' i = some d ∧ k d) = _
  simp [itemsOf]
theorem ixk_scr {ds : List D} {i : Int} : ixk S (.scr ds) (.int i) k = ∃ d, atI ds i = some d ∧ k d := by
  show (∃ ds' d, itemsOf S (.scr ds) = some ds' ∧ atI ds' i = some d ∧ k d) = _
  simp [itemsOf]
theorem at_map {α : Type} {f : α → D} {l : List α} {i : Nat} {a : α} (h : l[i]? = some a) : atI (l.map f) (i : Int) = some (f a) := atI_nat (by rw [List.getElem?_map, h]; rfl)
/-- an item by an index that is known to lie within -/
theorem at_in {l : List D} {i : Int} (h0 : 0 ≤ i) (h : i < (l.length : Int)) : atI l i = some (l[i.toNat]'(by omega)) := by
  have e : ((i.toNat : Nat) : Int) = i := Int.toNat_of_nonneg h0
  have := atI_nat (xs := l) (j := i.toNat) (List.getElem?_eq_getElem (by omega))
  rw [e] at this
  exact this
end
mutual
theorem eqv_refl : ∀ d : PyData, d.plain = true → PyData.eqv d d = true
  | .none, _ => rfl
  | .bool b, _ => by simp [PyData.eqv]
  | .int i, _ => by simp [PyData.eqv]
  | .str x, _ => by simp [PyData.eqv]
  | .list xs, h => by
    rw [PyData.eqv]
    exact eqvs_refl xs (by simpa [PyData.plain] using h)
  | .tuple xs, h => by
    rw [PyData.eqv]
    exact eqvs_refl xs (by simpa [PyData.plain] using h)
  | .dict _, h => by simp [PyData.plain] at h
theorem eqvs_refl : ∀ ds : List PyData, PyData.plainAll ds = true → PyData.eqvAll ds ds = true
  | [], _ => by rw [PyData.eqvAll]
  | d :: ds, h => by
    have h' : d.plain = true ∧ PyData.plainAll ds = true := by simpa [PyData.plainAll] using h
    rw [PyData.eqvAll, eqv_refl d h'.1, eqvs_refl ds h'.2]
    rfl
end
theorem q_refl {S : Sto} {x : D} {k : D → Prop} (hx : x.pure = true) (hd : x.dep ≤ 60) : eqk S x x k = k (.bl true) := by
  rw [eqk_pure hx hx hd]
  unfold D.eqv
  rw [eqv_refl _ (plain_py x)]
theorem n_refl {S : Sto} {x : D} {k : D → Prop} (hx : x.pure = true) (hd : x.dep ≤ 60) : nek S x x k = k (.bl false) := by
  rw [nek_pure hx hx hd]
  unfold D.eqv
  rw [eqv_refl _ (plain_py x)]
  rfl
theorem q_word (S : Sto) (a b : Str) (k : D → Prop) : eqk S (.str a) (.str b) k = k (.bl (decide (a = b))) := by
  rw [eqk_pure (x := .str a) (y := .str b) rfl rfl (show (D.str a).dep ≤ 60 from Nat.zero_le 60)]
  have : D.eqv (.str a) (.str b) = decide (a = b) := by
    show (a == b) = _
    rw [Bool.eq_iff_iff]
    simp
  rw [this]
/-- a call with a list of the store as its first argument -/
theorem call_v {F : PFn} {S : Sto} {n : Nat} {xs rest : List D} {k : D → Prop} (hs : S[n]? = some (.lst xs)) (h1 : noRefs xs = true) (h2 : noRefs rest = true) (h : F (.lst xs :: rest) fun d => d.noLst = true ∧ k d) : callk F S (.ref n :: rest) k := by
  unfold callk
  rw [List.map_cons, rs_id rest h2, show rs S (.ref n) = .lst xs by unfold rs; simp only [hs]]
  refine ⟨?_, ?_⟩
  · rw [noRefs, h2]
    show ((D.lst xs).noRef && true) = true
    rw [D.noRef, h1]
    rfl
  · have : (fun d : D => (noRefs (.ref n :: rest) = true ∨ d.noLst = true) ∧ k d) = fun d => d.noLst = true ∧ k d := by
      funext d
      simp [noRefs, D.noRef]
    rw [this]
    exact h
end Pw
/-! objects: made, their fields set -/
namespace Pw
open PySem PySem.Spec PyProof.Rows L2 Evl Lw
def putK (f : Str) : List Str → List Str
  | [] => [f]
  | g :: r => if g = f then g :: r else g :: putK f r
def putD (f : Str) (d : D) : List Str → List D → List D
  | g :: r, e :: ds => if g = f then d :: ds else e :: putD f d r ds
  | _, _ => [d]
theorem put_rel {K : PySem.W.Frag} {cl : Cl} {ρ : List Addr} {H : Hp} {f : Str} {d : D} {v : V} (h : RelD K cl ρ H d v) : ∀ {fs : List (Str × V)} {ds : List D}, RelAll K cl ρ H ds (fs.map (·.2)) →
    (putF f v fs).map (·.1) = putK f (fs.map (·.1)) ∧ RelAll K cl ρ H (putD f d (fs.map (·.1)) ds) ((putF f v fs).map (·.2))
  | [], ds, r => by
    cases r
    exact ⟨rfl, .cons h .nil⟩
  | (g, x) :: fs, ds, r => by
    cases r with
    | @cons e ds' _ _ h1 h2 =>
      obtain ⟨i1, i2⟩ := put_rel h h2
      rw [List.map_cons]
      unfold putF putK putD
      by_cases hg : g = f
      · rw [if_pos hg, if_pos hg, if_pos hg]
        exact ⟨rfl, .cons h h2⟩
      · rw [if_neg hg, if_neg hg, if_neg hg]
        exact ⟨by rw [List.map_cons, i1], .cons h1 i2⟩
/-- self.f = x, of an object of the store, of one of the classes cs -/
def pSetF (f : Str) (cs : List Nat) (pa pv : PEx) : PSx := fun P env S => pv env S fun d S1 => pa env S1 fun x S2 => ∃ n, x = .ref n ∧ ∃ c ks ds, S2[n]? = some (.obj c ks ds) ∧ c ∈ cs ∧ ks.length < 1000 ∧ P.nx env (S2.set n (.obj c (putK f ks) (putD f d ks ds)))
/-- C(..): kept as it stands, or not to be changed any more -/
def makek (c : Nat) (R : SFn) (S : Sto) (ds : List D) (k : D → Sto → Prop) : Prop := R (.ref S.length :: ds) (S ++ [.obj c [] []]) fun d S' => d = .non ∧ ((∃ ks fs, S' = S ++ [.obj c ks fs] ∧ noRefs fs = true ∧ k (.obj c ks fs) S) ∨ k (.ref S.length) S')
def pMake (c : Nat) (R : SFn) (pa : PAx) : PEx := fun env S k => pa env S fun ds S1 => makek c R S1 ds k
section
variable {K : PySem.W.Frag} {cl : Cl} {te ta tv : TE} {pe pa pv : PEx}
theorem sm_setF {f : Str} {cs : List Nat} (hc : ∀ c ∈ cs, Cls K (cl c) ∧ NoAttr K (cl c) f) (ha : SmE K cl ta pa) (hv : SmE K cl tv pv) : SmS K cl (sFld K ta tv f) (pSetF f cs pa pv) := fun M ρ S H env σ g re P D h e =>
  hv M ρ S H env σ g re _ _ h fun ρ1 H1 S1 d v s1 g1 rd h1 => ha M ρ1 S1 H1 env σ g1 (re.up s1) _ _ h1 fun ρ2 H2 S2 x w s2 g2 rx ⟨n, hx, c, ks, ds, hs, hcs, hl, hk⟩ => by
    subst hx
    cases rx with
    | @ref _ a hn =>
      obtain ⟨u, hu, r⟩ := g2.sto n _ a hs hn
      cases r with
      | @obj _ dx fs _ _ hk2 ra =>
        subst hk2
        obtain ⟨i1, i2⟩ := put_rel (f := f) (rd.up s2.pre s2.ex _ _) ra
        refine ⟨a, cl c, dx, fs, rfl, hu, (hc c hcs).1, (hc c hcs).2, by rw [List.length_map] at hl; exact hl, ?_⟩
        obtain ⟨g3, s3⟩ := g2.put (o := .ins (cl c) dx (putF f v fs)) hn (.obj i1 i2)
        exact e.nx ρ2 _ _ env σ ((s1.trans s2).trans s3) g3 (re.up ((s1.trans s2).trans s3)) hk
theorem back_get {α : Type} {ρ ρ' : List α} (p : ρ <+: ρ') {n : Nat} {a b : α} (h : ρ[n]? = some a) (h' : ρ'[n]? = some b) : ρ[n]? = some b := by
  rw [pre_get p h] at h'
  cases h'
  exact h
mutual
theorem RelD.back2 {ρ ρ' : List Addr} {H H' : Hp} (p : ρ <+: ρ') : ∀ (d : D) (v v' : V), RelD K cl ρ H d v → RelD K cl ρ' H' d v' → RelD K cl ρ H' d v'
  | .non, _, _, _, h => by cases h; exact .non
  | .bl b, _, _, _, h => by cases h; exact .bl b
  | .int i, _, _, _, h => by cases h; exact .int i
  | .str s, _, _, _, h => by cases h; exact .str s
  | .ty n, _, _, _, h => by cases h; exact .ty n
  | .tup ds, _, _, h0, h => by
    cases h0 with
    | tup _ h0 => cases h with
      | tup hs ha => exact .tup hs (RelAll.back2 p ds _ _ h0 ha)
  | .lst ds, _, _, h0, h => by
    cases h0 with
    | lst _ h0 => cases h with
      | lst hs ha => exact .lst hs (RelAll.back2 p ds _ _ h0 ha)
  | .scr ds, _, _, h0, h => by
    cases h0 with
    | scr _ h0 => cases h with
      | scr hs ha => exact .scr hs (RelAll.back2 p ds _ _ h0 ha)
  | .obj c ks ds, _, _, h0, h => by
    cases h0 with
    | obj _ _ h0 => cases h with
      | obj hs hk ha => exact .obj hs hk (RelAll.back2 p ds _ _ h0 ha)
  | .ref n, _, _, h0, h => by
    cases h0 with
    | ref h0 => cases h with
      | ref hn => exact .ref (back_get p h0 hn)
theorem RelAll.back2 {ρ ρ' : List Addr} {H H' : Hp} (p : ρ <+: ρ') : ∀ (ds : List D) (vs vs' : List V), RelAll K cl ρ H ds vs → RelAll K cl ρ' H' ds vs' → RelAll K cl ρ H' ds vs'
  | [], _, _, _, h => by cases h; exact .nil
  | d :: ds, _, _, h0, h => by
    cases h0 with
    | cons a0 b0 => cases h with
      | cons a b => exact .cons (RelD.back2 p d _ _ a0 a) (RelAll.back2 p ds _ _ b0 b)
end
theorem kv_back2 {ρ ρ' : List Addr} {H H' : Hp} (p : ρ <+: ρ') : ∀ {kvs : List (D × D)} {l l' : List Dk.EnV}, Paired (RelKv K cl ρ H) kvs l → Paired (RelKv K cl ρ' H') kvs l' → Paired (RelKv K cl ρ H') kvs l'
  | _, _, _, .nil, .nil => .nil
  | _, _, _, .cons a0 b0, .cons a b => .cons ⟨a.1, a.2.1, RelD.back2 p _ _ _ a0.2.2.1 a.2.2.1, RelD.back2 p _ _ _ a0.2.2.2 a.2.2.2⟩ (kv_back2 p b0 b)
theorem exPre {M : Addr → Prop} {ρ ρ' : List Addr} {H : Hp} (p : ρ <+: ρ') : Ex (cut (NM M ρ') H) (cut (NM M ρ) H) := cut_ex fun a o n q => ⟨fun z => z.elim (fun m => n (.inl m)) (fun m => n (.inr (p.subset m))), q⟩
/-- the last thing of the store is not asked for any more -/
theorem G.pop {M : Addr → Prop} {ρ : List Addr} {x : Addr} {S : Sto} {o : SO} {H H' : Hp} (g0 : G K cl M ρ S H) (g : G K cl M (ρ ++ [x]) (S ++ [o]) H') : G K cl M ρ S H' :=
  ⟨g.live, fun a ha => g.dis a (List.mem_append.mpr (.inl ha)), (List.nodup_append.mp g.nd).1, g0.len, fun n s a hs ha => by
    obtain ⟨u0, _, r0⟩ := g0.sto n s a hs ha
    have hl : n < S.length := (List.getElem?_eq_some_iff.mp hs).1
    obtain ⟨u, hu, r⟩ := g.sto n s a (by rw [List.getElem?_append_left hl]; exact hs) (pre_get (List.prefix_append _ _) ha)
    refine ⟨u, hu, ?_⟩
    cases r with
    | lst r => cases r0 with
      | lst r0 => exact .lst ((RelAll.back2 (List.prefix_append _ _) _ _ _ r0 r).up (List.prefix_refl _) (exPre (List.prefix_append _ _)) _ _)
    | obj hk r => cases r0 with
      | obj _ r0 => exact .obj hk ((RelAll.back2 (List.prefix_append _ _) _ _ _ r0 r).up (List.prefix_refl _) (exPre (List.prefix_append _ _)) _ _)
    | dct r nd => cases r0 with
      | dct r0 _ => exact .dct (L2.Paired.mapP (kv_back2 (List.prefix_append _ _) r0 r) fun x y h => ⟨h.1, h.2.1, RelD.up (List.prefix_refl _) (exPre (List.prefix_append _ _)) _ _ h.2.2.1, RelD.up (List.prefix_refl _) (exPre (List.prefix_append _ _)) _ _ h.2.2.2⟩) nd⟩
theorem make_run {c : Nat} {R : SFn} {M : Addr → Prop} {ρ1 : List Addr} {S1 : Sto} {H1 : Hp} {ds : List D} {vs : List V} {k : D → Sto → Prop} {Q : VK} {E : XK} (g1 : G K cl M ρ1 S1 H1) (r1 : RelAll K cl ρ1 (cut (NM M ρ1) H1) ds vs) (h : makek c R S1 ds k)
    (q : ∀ ρ' H' S' d v, Stp M ρ1 H1 ρ' H' → G K cl M ρ' S' H' → RelD K cl ρ' (cut (NM M ρ') H') d v → k d S' → Q v H') (x dx : Addr) (hx : H1 x = none) (hdx : H1 dx = none) (hne : dx ≠ x) :
    spS K cl R (.ref x :: vs) (upd (upd H1 dx (.own x)) x (.ins (cl c) dx [])) (fun v H2 => v = .non ∧ Q (.ref x) H2) E := by
  unfold makek at h
  obtain ⟨g2, s2, _⟩ := g1.new (.own x) hdx
  have hx2 : upd H1 dx (.own x) x = none := by rw [upd_ne (Ne.symm hne)]; exact hx
  obtain ⟨g3, s3⟩ := g2.alloc (o := .ins (cl c) dx []) (so := .obj c [] []) hx2 (.obj (fs := []) rfl .nil)
  have s23 := s2.trans s3
  have hself : (ρ1 ++ [x])[S1.length]? = some x := by rw [← g1.len, List.getElem?_append_right (Nat.le_refl _), Nat.sub_self]; rfl
  refine ⟨M, ρ1 ++ [x], S1 ++ [.obj c [] []], .ref S1.length :: ds, _, g3, .cons (.ref hself) (r1.up s23.pre s23.ex _ _), h, fun ρ' H' S' d v s4 g4 rd ⟨hd, alt⟩ => ?_⟩
  subst hd
  cases rd
  refine ⟨rfl, ?_⟩
  have s24 := s23.trans s4
  rcases alt with ⟨ks, fs, hS, hn, hk⟩ | hk
  · subst hS
    obtain ⟨t, ht⟩ := s4.pre
    have hlen := g4.len
    rw [← ht, List.length_append, List.length_append, List.length_append, g1.len] at hlen
    have : t = [] := List.length_eq_zero_iff.mp (by have : [x].length = 1 := rfl; have : [SO.obj c ks fs].length = 1 := rfl; omega)
    subst this
    rw [List.append_nil] at ht
    subst ht
    have g5 := G.pop g1 g4
    obtain ⟨u, hu, r⟩ := g4.sto S1.length (.obj c ks fs) x (by rw [List.getElem?_append_right (Nat.le_refl _), Nat.sub_self]; rfl) hself
    have hxn : ¬ NM M ρ1 x := g1.off hx
    have s5 : Stp M ρ1 H1 ρ1 H' := ⟨List.prefix_refl _, s24.ex.trans (exPre (List.prefix_append _ _)), s24.keep⟩
    cases r with
    | @obj _ dx' fs' _ _ hk2 ra =>
      refine q ρ1 H' S1 _ _ s5 g5 (.obj (dx := dx') (fs := fs') ?_ hk2 ((ra.up (List.prefix_refl _) (exPre (List.prefix_append _ _)) _ _).drop _ _ hn)) hk
      rw [cut_no hxn]
      exact hu
  · exact q ρ' H' S' _ _ s24 g4 (.ref (pre_get s4.pre hself)) hk
theorem sm_make {c : Nat} {R : SFn} {tr : TA} {pr : PAx} {E : XK} (ha : SmA K cl tr pr) : SmE K cl (tMake (cl c) (spS K cl R) [] E tr) (pMake c R pr) := fun M ρ S H env σ g re k Q h q =>
  ha M ρ S H env σ g re _ _ h fun ρ1 H1 S1 ds vs s1 g1 r1 h1 => by
    intro x dx hx hdx hne
    rw [List.append_nil]
    exact make_run g1 r1 h1 (fun ρ' H' S' d v s g' rd hk => q ρ' H' S' d v (s1.trans s) g' rd hk) x dx hx hdx hne
end
end Pw
/-! lines and edits as data of Lean, and what the module `lines` makes of them -/
namespace Ln
open PySem PySem.Spec PyProof.Rows L2 Evl Lw
abbrev Id := Int × Int
abbrev Ct := Int × Int × Int × Bool
structure Line where
  id : Id
  hd : Id
  ins : Option Id
  path : List Str
  ct : Option Ct
deriving DecidableEq
abbrev Place := Option Id × List Str × List Str
abbrev Mv := Option Id × Option Id × Place
inductive Edit where
  | write (id : Id) (pl : Place) (ct : Option Ct) (meant : Option Id) (heads : List Id)
  | drop (id : Id) (heads : List Id)
  | move (id : Id) (ms : List Mv)
def dId (i : Id) : PyData := .tuple [.int i.1, .int i.2]
def dOp {α : Type} (f : α → PyData) : Option α → PyData
  | none => .none
  | some a => f a
def dPath (p : List Str) : PyData := .tuple (p.map PyData.str)
def dCt (c : Ct) : PyData := .tuple [.int c.1, .int c.2.1, .int c.2.2.1, .bool c.2.2.2]
def dLn (l : Line) : PyData := .tuple [dId l.id, dId l.hd, dOp dId l.ins, dPath l.path, dOp dCt l.ct]
def dLs (ls : List Line) : PyData := .list (ls.map dLn)
def dIds (is : List Id) : PyData := .tuple (is.map dId)
def dPl (p : Place) : PyData := .tuple [dOp dId p.1, dPath p.2.1, dPath p.2.2]
def dMv (m : Mv) : PyData := .tuple [dOp dId m.1, dOp dId m.2.1, dPl m.2.2]
def dEd : Edit → PyData
  | .write id pl ct meant heads => .tuple [.str (Str.ofString "write"), dId id, dPl pl, dOp dCt ct, dOp dId meant, dIds heads]
  | .drop id heads => .tuple [.str (Str.ofString "drop"), dId id, dIds heads]
  | .move id ms => .tuple [.str (Str.ofString "move"), dId id, .tuple (ms.map dMv)]
/-! ### == -/
theorem eqv_id (a b : Id) : PyData.eqv (dId a) (dId b) = decide (a = b) := by
  obtain ⟨a1, a2⟩ := a
  obtain ⟨b1, b2⟩ := b
  show PyData.eqv (.tuple [.int a1, .int a2]) (.tuple [.int b1, .int b2]) = _
  simp only [PyData.eqv, PyData.eqvAll]
  rw [Bool.eq_iff_iff]
  simp
theorem eqv_oid (a b : Option Id) : PyData.eqv (dOp dId a) (dOp dId b) = decide (a = b) := by
  cases a with
  | none => cases b with
    | none => rfl
    | some b => rfl
  | some a => cases b with
    | none => rfl
    | some b =>
      show PyData.eqv (dId a) (dId b) = _
      rw [eqv_id]
      simp
theorem eqv_ido (a : Id) (b : Option Id) : PyData.eqv (dId a) (dOp dId b) = decide (some a = b) := eqv_oid (some a) b
theorem eqv_path (a b : List Str) : PyData.eqv (dPath a) (dPath b) = decide (a = b) := by
  show PyData.eqv (.tuple _) (.tuple _) = _
  rw [PyData.eqv, eqv_strs]
theorem eqv_ct (a b : Ct) : PyData.eqv (dCt a) (dCt b) = decide (a = b) := by
  obtain ⟨a1, a2, a3, a4⟩ := a
  obtain ⟨b1, b2, b3, b4⟩ := b
  show PyData.eqv (.tuple [.int a1, .int a2, .int a3, .bool a4]) (.tuple [.int b1, .int b2, .int b3, .bool b4]) = _
  simp only [PyData.eqv, PyData.eqvAll]
  rw [Bool.eq_iff_iff]
  simp
theorem eqv_oct (a b : Option Ct) : PyData.eqv (dOp dCt a) (dOp dCt b) = decide (a = b) := by
  cases a with
  | none => cases b with
    | none => rfl
    | some b => rfl
  | some a => cases b with
    | none => rfl
    | some b =>
      show PyData.eqv (dCt a) (dCt b) = _
      rw [eqv_ct]
      simp
theorem eqv_ln (a b : Line) : PyData.eqv (dLn a) (dLn b) = decide (a = b) := by
  obtain ⟨a1, a2, a3, a4, a5⟩ := a
  obtain ⟨b1, b2, b3, b4, b5⟩ := b
  show PyData.eqv (.tuple [dId a1, dId a2, dOp dId a3, dPath a4, dOp dCt a5]) (.tuple [dId b1, dId b2, dOp dId b3, dPath b4, dOp dCt b5]) = _
  rw [PyData.eqv, PyData.eqvAll, PyData.eqvAll, PyData.eqvAll, PyData.eqvAll, PyData.eqvAll, PyData.eqvAll, eqv_id, eqv_id, eqv_oid, eqv_path, eqv_oct]
  simp [Bool.eq_iff_iff]
theorem eqv_lns : ∀ a b : List Line, PyData.eqvAll (a.map dLn) (b.map dLn) = decide (a = b)
  | [], [] => by rw [List.map_nil, PyData.eqvAll]; rfl
  | [], _ :: _ => by rw [List.map_nil, List.map_cons, PyData.eqvAll]; simp
  | _ :: _, [] => by rw [List.map_nil, List.map_cons, PyData.eqvAll]; simp
  | x :: xs, y :: ys => by
    rw [List.map_cons, List.map_cons, PyData.eqvAll, eqv_ln, eqv_lns xs ys]
    simp [Bool.eq_iff_iff]
theorem eqv_ls (a b : List Line) : PyData.eqv (dLs a) (dLs b) = decide (a = b) := by
  show PyData.eqv (.list _) (.list _) = _
  rw [PyData.eqv, eqv_lns]
theorem any_ids (i : Id) (is : List Id) : ((is.map dId).any fun z => PyData.eqv z (dId i)) = decide (i ∈ is) := by
  induction is with
  | nil => rfl
  | cons a is ih =>
    rw [List.map_cons, List.any_cons, ih, eqv_id]
    simp [Bool.eq_iff_iff, eq_comm]
/-! ### plain, not deep -/
theorem pl_id (i : Id) : (dId i).plain = true := rfl
theorem pl_oid (i : Option Id) : (dOp dId i).plain = true := by cases i <;> rfl
theorem pl_path (p : List Str) : (dPath p).plain = true := plain_strs p
theorem pl_oct (c : Option Ct) : (dOp dCt c).plain = true := by cases c <;> rfl
theorem pl_ln (l : Line) : (dLn l).plain = true := by
  show PyData.plainAll [dId l.id, dId l.hd, dOp dId l.ins, dPath l.path, dOp dCt l.ct] = true
  simp [PyData.plainAll, pl_id, pl_oid, pl_path, pl_oct]
theorem pl_all {α : Type} {f : α → PyData} (h : ∀ a, (f a).plain = true) : ∀ l : List α, PyData.plainAll (l.map f) = true
  | [] => rfl
  | a :: l => by
    rw [List.map_cons, PyData.plainAll, h a, pl_all h l]
    rfl
theorem pl_ls (ls : List Line) : (dLs ls).plain = true := pl_all pl_ln ls
theorem dp_id (i : Id) : (dId i).depth ≤ 1 := by
  show max 0 (max 0 0) + 1 ≤ 1
  decide
theorem dp_oid (i : Option Id) : (dOp dId i).depth ≤ 1 := by
  cases i with
  | none => exact Nat.zero_le 1
  | some i => exact dp_id i
theorem dp_path (p : List Str) : (dPath p).depth ≤ 1 := by
  show PyData.depthAll _ + 1 ≤ 1
  rw [depth_strs]
  decide
theorem dp_oct (c : Option Ct) : (dOp dCt c).depth ≤ 1 := by
  cases c with
  | none => exact Nat.zero_le 1
  | some c =>
    show max 0 (max 0 (max 0 (max 0 0))) + 1 ≤ 1
    decide
theorem dp_ln (l : Line) : (dLn l).depth ≤ 2 := by
  have h1 := dp_id l.id
  have h2 := dp_id l.hd
  have h3 := dp_oid l.ins
  have h4 := dp_path l.path
  have h5 := dp_oct l.ct
  show max (dId l.id).depth (max (dId l.hd).depth (max (dOp dId l.ins).depth (max (dPath l.path).depth (max (dOp dCt l.ct).depth 0)))) + 1 ≤ 2
  omega
theorem dp_all {α : Type} {f : α → PyData} {n : Nat} (h : ∀ a, (f a).depth ≤ n) : ∀ l : List α, PyData.depthAll (l.map f) ≤ n
  | [] => Nat.zero_le n
  | a :: l => by
    have h1 := h a
    have h2 := dp_all h l
    show max (f a).depth (PyData.depthAll (l.map f)) ≤ n
    omega
theorem dp_ls (ls : List Line) : (dLs ls).depth ≤ 3 := by
  have := dp_all dp_ln ls
  show PyData.depthAll (ls.map dLn) + 1 ≤ 3
  omega

/-! ### what the defs give -/
def findLine (ls : List Line) (o : Option Id) : Option Line := ls.find? fun l => decide (some l.id = o)
def findHead (ls : List Line) (o : Option Id) : Option Line := ls.find? fun l => decide (some l.hd = o)
def settleF (ls : List Line) (pl : Place) : Option Id × List Str := match findLine ls pl.1 with
  | some f => if f.ct = none then (pl.1, pl.2.1) else (none, pl.2.2)
  | none => (none, pl.2.2)
def dTwo (w : Option Id × List Str) : PyData := .tuple [dOp dId w.1, dPath w.2]
def woLine (ls : List Line) (e : Line) : List Line := ls.flatMap fun k => if k.ins = some e.id then [{ k with ins := e.ins, path := e.path ++ k.path }] else if k.id ≠ e.id then [k] else []
def woHead (ls : List Line) (h : Id) : List Line := match findHead ls (some h) with
  | some e => woLine ls e
  | none => ls
def woHeads (ls : List Line) (hs : List Id) : List Line := hs.foldl woHead ls
def whereF (ls : List Line) (pl : Place) (meant : Option Id) : Option Id × List Str := match findLine ls meant with
  | some m => (m.ins, m.path)
  | none => settleF ls pl
def withNew (ls : List Line) (id : Id) (pl : Place) (ct : Option Ct) (meant : Option Id) : List Line := ls ++ [⟨id, id, (whereF ls pl meant).1, (whereF ls pl meant).2, ct⟩]
def firstRep (ls : List Line) (hs : List Id) : Option Line := ls.find? fun l => l.ct.isSome && decide (l.hd ∈ hs)
/-- x stands in o, or is it: found by going up n times -/
inductive SIn (ls : List Line) (x : Id) : Nat → Option Id → Bool → Prop where
  | root : SIn ls x 0 none false
  | hit : SIn ls x 0 (some x) true
  | up {i : Id} {f : Line} {n : Nat} {b : Bool} : i ≠ x → findLine ls (some i) = some f → SIn ls x n f.ins b → SIn ls x (n + 1) (some i) b
/-- the path that is found by going up n times -/
inductive Std (ls : List Line) : Nat → Option Id → List Str → List Str → Prop where
  | root (p : List Str) : Std ls 0 none p p
  | up {i : Id} {f : Line} {n : Nat} {p r : List Str} : findLine ls (some i) = some f → Std ls n f.ins (f.path ++ p) r → Std ls (n + 1) (some i) p r
theorem Std.len {ls : List Line} {n : Nat} {o : Option Id} {p r : List Str} (h : Std ls n o p r) : p.length ≤ r.length := by
  induction h with
  | root p => exact Nat.le_refl _
  | up _ _ ih =>
    rw [List.length_append] at ih
    omega
def Short (ls : List Line) : Prop := ls.length ≤ 1000 ∧ ∀ l ∈ ls, l.path.length ≤ 10000
/-! ### promises -/
def pFindLine : List PyData → PyData → Prop := fun ds d => ∃ ls o, ds = [dLs ls, dOp dId o] ∧ d = dOp dLn (findLine ls o)
def pFindHead : List PyData → PyData → Prop := fun ds d => ∃ ls o, ds = [dLs ls, dOp dId o] ∧ d = dOp dLn (findHead ls o)
def pStands : List PyData → PyData → Prop := fun ds d => ∃ ls l n r, ds = [dLs ls, dLn l] ∧ Std ls n l.ins l.path r ∧ r.length ≤ 90000 ∧ d = dPath r
def pSettle : List PyData → PyData → Prop := fun ds d => ∃ ls pl, ds = [dLs ls, dPl pl] ∧ d = dTwo (settleF ls pl)
def pStandsIn : List PyData → PyData → Prop := fun ds d => ∃ ls o x n b, ds = [dLs ls, dOp dId o, dId x] ∧ SIn ls x n o b ∧ d = .bool b
def pWoLine : List PyData → PyData → Prop := fun ds d => ∃ ls e, ds = [dLs ls, dLn e] ∧ Short ls ∧ e.path.length ≤ 10000 ∧ d = dLs (woLine ls e)
def pFirstRep : List PyData → PyData → Prop := fun ds d => ∃ ls hs, ds = [dLs ls, dIds hs] ∧ d = dOp dLn (firstRep ls hs)
abbrev sp_find_line (K : PySem.W.Frag) : Sp := SpD K pFindLine
abbrev sp_find_head (K : PySem.W.Frag) : Sp := SpD K pFindHead
abbrev sp_stands (K : PySem.W.Frag) : Sp := SpD K pStands
abbrev sp_settle (K : PySem.W.Frag) : Sp := SpD K pSettle
abbrev sp_stands_in (K : PySem.W.Frag) : Sp := SpD K pStandsIn
abbrev sp_without_line (K : PySem.W.Frag) : Sp := SpD K pWoLine
abbrev sp_first_replaced (K : PySem.W.Frag) : Sp := SpD K pFirstRep
/-! ### the arguments taken apart -/
theorem args1 {K : PySem.W.Frag} {H : Hp} {vs : List V} {d1 : PyData} (h : DpAll K H vs [d1]) : ∃ v1, vs = [v1] ∧ Dp K H v1 d1 := by
  cases h with
  | cons a h =>
    cases h
    exact ⟨_, rfl, a⟩
theorem args2 {K : PySem.W.Frag} {H : Hp} {vs : List V} {d1 d2 : PyData} (h : DpAll K H vs [d1, d2]) : ∃ v1 v2, vs = [v1, v2] ∧ Dp K H v1 d1 ∧ Dp K H v2 d2 := by
  cases h with
  | cons a h => cases h with
    | cons b h =>
      cases h
      exact ⟨_, _, rfl, a, b⟩
theorem args3 {K : PySem.W.Frag} {H : Hp} {vs : List V} {d1 d2 d3 : PyData} (h : DpAll K H vs [d1, d2, d3]) : ∃ v1 v2 v3, vs = [v1, v2, v3] ∧ Dp K H v1 d1 ∧ Dp K H v2 d2 ∧ Dp K H v3 d3 := by
  cases h with
  | cons a h => cases h with
    | cons b h => cases h with
      | cons c h =>
        cases h
        exact ⟨_, _, _, rfl, a, b, c⟩
theorem args4 {K : PySem.W.Frag} {H : Hp} {vs : List V} {d1 d2 d3 d4 : PyData} (h : DpAll K H vs [d1, d2, d3, d4]) : ∃ v1 v2 v3 v4, vs = [v1, v2, v3, v4] ∧ Dp K H v1 d1 ∧ Dp K H v2 d2 ∧ Dp K H v3 d3 ∧ Dp K H v4 d4 := by
  cases h with
  | cons a h => cases h with
    | cons b h => cases h with
      | cons c h => cases h with
        | cons d h =>
          cases h
          exact ⟨_, _, _, _, rfl, a, b, c, d⟩
theorem ls_at {ls : List Line} {i : Nat} {d : PyData} (h : (ls.map dLn)[i]? = some d) : ∃ l, ls[i]? = some l ∧ d = dLn l := by
  rw [List.getElem?_map] at h
  cases e : ls[i]? with
  | none => rw [e] at h; cases h
  | some l => rw [e] at h; exact ⟨l, rfl, (Option.some.inj h).symm⟩
theorem ids_at {is : List Id} {i : Nat} {d : PyData} (h : (is.map dId)[i]? = some d) : ∃ l, is[i]? = some l ∧ d = dId l := by
  rw [List.getElem?_map] at h
  cases e : is[i]? with
  | none => rw [e] at h; cases h
  | some l => rw [e] at h; exact ⟨l, rfl, (Option.some.inj h).symm⟩
/-- the first that is asked for -/
theorem find_hit {ls : List Line} {p : Line → Bool} {i : Nat} {l : Line} (h : (ls.take i).find? p = none) (hl : ls[i]? = some l) (hp : p l = true) : ls.find? p = some l := by
  have e : ls = ls.take (i + 1) ++ ls.drop (i + 1) := (List.take_append_drop _ _).symm
  rw [e, take_up hl, List.append_assoc, List.find?_append, h]
  simp [hp]
theorem find_miss {ls : List Line} {p : Line → Bool} {i : Nat} {l : Line} (h : (ls.take i).find? p = none) (hl : ls[i]? = some l) (hp : p l = false) : (ls.take (i + 1)).find? p = none := by
  rw [take_up hl, List.find?_append, h]
  simp [hp]
theorem up {K : PySem.W.Frag} {N : Addr → Prop} {H H1 : Hp} {v : V} {d : PyData} (e : Ex H H1) (h : Dp K (cutN N H) v d) : Dp K (cutN N H1) v d := Dp.ex (cutN_ex e) d v h
theorem eqv_oi (a : Option Id) (b : Id) : PyData.eqv (dOp dId a) (dId b) = decide (a = some b) := eqv_oid a (some b)
theorem isN_oid (o : Option Id) : isN (dOp dId o) = o.isNone := by cases o <;> rfl
theorem isN_oln (o : Option Line) : isN (dOp dLn o) = o.isNone := by cases o <;> rfl
theorem isN_oct (o : Option Ct) : isN (dOp dCt o) = o.isNone := by cases o <;> rfl
theorem woLine_up {ls : List Line} {e k : Line} {i : Nat} (h : ls[i]? = some k) : woLine (ls.take (i + 1)) e = woLine (ls.take i) e ++ (if k.ins = some e.id then [{ k with ins := e.ins, path := e.path ++ k.path }] else if k.id ≠ e.id then [k] else []) := by
  unfold woLine
  rw [take_up h, List.flatMap_append]
  simp
theorem woLine_len (ls : List Line) (e : Line) : (woLine ls e).length ≤ ls.length := by
  unfold woLine
  induction ls with
  | nil => exact Nat.le_refl _
  | cons k ls ih =>
    rw [List.flatMap_cons, List.length_append, List.length_cons]
    have : (if k.ins = some e.id then [{ k with ins := e.ins, path := e.path ++ k.path }] else if k.id ≠ e.id then [k] else []).length ≤ 1 := by
      split
      · exact Nat.le_refl 1
      · split
        · exact Nat.le_refl 1
        · exact Nat.zero_le 1
    omega
/-- a line is moved -/
def mvTo (ls : List Line) (l : Line) (w : Option Id × List Str) : List Line := ls.map fun k => if k.id = l.id then ⟨l.id, l.hd, w.1, w.2, l.ct⟩ else k
def meantBy (ls : List Line) (m : Mv) : Option Line := (findHead ls m.1).or (findLine ls m.2.1)
inductive MvR (ls : List Line) (m : Mv) : List Line → Prop where
  | no : meantBy ls m = none → MvR ls m ls
  | ring {l : Line} {n : Nat} : meantBy ls m = some l → SIn ls l.id n (settleF ls m.2.2).1 true → MvR ls m ls
  | yes {l : Line} {n : Nat} : meantBy ls m = some l → SIn ls l.id n (settleF ls m.2.2).1 false → MvR ls m (mvTo ls l (settleF ls m.2.2))
def pMove : List PyData → PyData → Prop := fun ds d => ∃ ls m ls', ds = [dLs ls, dOp dId m.1, dOp dId m.2.1, dPl m.2.2] ∧ Short ls ∧ MvR ls m ls' ∧ d = dLs ls'
abbrev sp_move_line (K : PySem.W.Frag) : Sp := SpD K pMove
def pWoHeads : List PyData → PyData → Prop := fun ds d => ∃ ls hs d1, ds = [dLs ls, d1] ∧ IsSeqD (hs.map dId) d1 ∧ (∀ i, Short (woHeads ls (hs.take i))) ∧ d = dLs (woHeads ls hs)
abbrev sp_without_heads (K : PySem.W.Frag) : Sp := SpD K pWoHeads
def pWithNew : List PyData → PyData → Prop := fun ds d => ∃ ls id pl ct meant hs, ds = [dLs ls, dEd (.write id pl ct meant hs)] ∧ Short ls ∧ d = dLs (withNew ls id pl ct meant)
abbrev sp_with_new_line (K : PySem.W.Frag) : Sp := SpD K pWithNew
theorem woHeads_up {ls : List Line} {hs : List Id} {i : Nat} {h : Id} (e : hs[i]? = some h) : woHeads ls (hs.take (i + 1)) = woHead (woHeads ls (hs.take i)) h := by
  unfold woHeads
  rw [take_up e, List.foldl_append]
  rfl
def textIn (ls : List Line) (id : Id) (pl : Place) (ct : Option Ct) (meant : Option Id) (hs : List Id) : List Line := match firstRep ls hs with
  | none => withNew ls id pl ct meant
  | some c => ls.map fun k => if k.id = c.id then ⟨c.id, id, c.ins, c.path, ct⟩ else k
def afterText (ls : List Line) (id : Id) (pl : Place) (ct : Option Ct) (meant : Option Id) (hs : List Id) : List Line := woHeads (textIn ls id pl ct meant hs) (hs.filter fun h => !decide (h = id))
inductive MvsR : List Line → List Mv → List Line → Prop where
  | nil (ls : List Line) : MvsR ls [] ls
  | cons {ls ls1 ls2 : List Line} {m : Mv} {ms : List Mv} : Short ls → MvR ls m ls1 → MvsR ls1 ms ls2 → MvsR ls (m :: ms) ls2
/-- what an edit does, where it can be followed -/
inductive AftR (ls : List Line) : Edit → List Line → Prop where
  | drop (id : Id) (hs : List Id) : (∀ i, Short (woHeads ls (hs.take i))) → AftR ls (.drop id hs) (woHeads ls hs)
  | move (id : Id) {ms : List Mv} {ls' : List Line} : MvsR ls ms ls' → AftR ls (.move id ms) ls'
  | mark (id : Id) (pl : Place) (meant : Option Id) (hs : List Id) : Short ls → (∀ i, Short (woHeads (withNew ls id pl none meant) (hs.take i))) → AftR ls (.write id pl none meant hs) (woHeads (withNew ls id pl none meant) hs)
  | text (id : Id) (pl : Place) (c : Ct) (meant : Option Id) (hs : List Id) : Short ls → hs.length ≤ 1000 → (∀ i, Short (woHeads (textIn ls id pl (some c) meant hs) ((hs.filter fun h => !decide (h = id)).take i))) → AftR ls (.write id pl (some c) meant hs) (afterText ls id pl (some c) meant hs)
inductive FoldR : List Line → List Edit → List Line → Prop where
  | nil (ls : List Line) : FoldR ls [] ls
  | cons {ls ls1 ls2 : List Line} {e : Edit} {es : List Edit} : AftR ls e ls1 → FoldR ls1 es ls2 → FoldR ls (e :: es) ls2
def pAfterText : List PyData → PyData → Prop := fun ds d => ∃ ls id pl ct meant hs, ds = [dLs ls, dEd (.write id pl ct meant hs)] ∧ Short ls ∧ hs.length ≤ 1000 ∧ (∀ i, Short (woHeads (textIn ls id pl ct meant hs) ((hs.filter fun h => !decide (h = id)).take i))) ∧ d = dLs (afterText ls id pl ct meant hs)
def pAfterMove : List PyData → PyData → Prop := fun ds d => ∃ ls id ms ls', ds = [dLs ls, dEd (.move id ms)] ∧ MvsR ls ms ls' ∧ d = dLs ls'
def pLinesAfter : List PyData → PyData → Prop := fun ds d => ∃ ls e ls', ds = [dLs ls, dEd e] ∧ AftR ls e ls' ∧ d = dLs ls'
def pFold : List PyData → PyData → Prop := fun ds d => ∃ ls es ls', ds = [dLs ls, .list (es.map dEd)] ∧ FoldR ls es ls' ∧ d = dLs ls'
def pLinesOf : List PyData → PyData → Prop := fun ds d => ∃ es ls', ds = [.list (es.map dEd)] ∧ FoldR [] es ls' ∧ d = dLs ls'
abbrev sp_after_text (K : PySem.W.Frag) : Sp := SpD K pAfterText
abbrev sp_after_move (K : PySem.W.Frag) : Sp := SpD K pAfterMove
abbrev sp_lines_after (K : PySem.W.Frag) : Sp := SpD K pLinesAfter
abbrev sp_fold_lines (K : PySem.W.Frag) : Sp := SpD K pFold
abbrev sp_lines_of (K : PySem.W.Frag) : Sp := SpD K pLinesOf
theorem mv_cases {ls ls' : List Line} {m : Mv} (h : MvR ls m ls') : (meantBy ls m = none ∧ ls' = ls) ∨ ∃ l n b, meantBy ls m = some l ∧ SIn ls l.id n (settleF ls m.2.2).1 b ∧ ls' = if b = true then ls else mvTo ls l (settleF ls m.2.2) := by
  cases h with
  | no h => exact .inl ⟨h, rfl⟩
  | ring h1 h2 => exact .inr ⟨_, _, true, h1, h2, rfl⟩
  | yes h1 h2 => exact .inr ⟨_, _, false, h1, h2, rfl⟩
theorem flt_all {α : Type} (l : List α) : l.filter (fun _ => true) = l := List.filter_eq_self.mpr fun _ _ => rfl
theorem pl_ids (is : List Id) : PyData.plainAll (is.map dId) = true := pl_all pl_id is
end Ln
/-! lines that stay sound: what every edit keeps -/
namespace Ln
open PySem L2 Lw
/-- U: all ids that there were; r: falls on the way up; S: the ended lines whose paths a line has taken over -/
structure OkW (ls : List Line) (U : List Id) (r : Id → Nat) (S : Id → List Id) : Prop where
  nd : (ls.map (·.id)).Nodup
  hnd : (ls.map (·.hd)).Nodup
  fol : ∀ l ∈ ls, l.ct = none → l.hd = l.id
  idU : ∀ l ∈ ls, l.id ∈ U ∧ l.hd ∈ U
  up : ∀ l ∈ ls, ∀ i, l.ins = some i → ∃ f ∈ ls, f.id = i ∧ f.ct = none ∧ r i < r l.id
  len : ∀ l ∈ ls, 1 ≤ l.path.length ∧ l.path.length ≤ 3 * ((S l.id).length + 1)
  snd : ∀ l ∈ ls, (S l.id).Nodup
  gone : ∀ l ∈ ls, ∀ x ∈ S l.id, x ∈ U ∧ ∀ k ∈ ls, k.id ≠ x
  sib : ∀ k ∈ ls, ∀ l ∈ ls, k.id ≠ l.id → ∀ x, x ∈ S k.id → x ∈ S l.id → k.ins = l.ins
theorem nodup_inj {α β : Type} {f : α → β} : ∀ {l : List α}, (l.map f).Nodup → ∀ a ∈ l, ∀ b ∈ l, f a = f b → a = b
  | [], _, a, ha, _, _, _ => by cases ha
  | x :: l, h, a, ha, b, hb, e => by
    rw [List.map_cons, List.nodup_cons] at h
    rcases List.mem_cons.mp ha with h1 | h1
    · rcases List.mem_cons.mp hb with h2 | h2
      · rw [h1, h2]
      · rw [h1] at e
        exact absurd (List.mem_map.mpr ⟨b, h2, e.symm⟩) h.1
    · rcases List.mem_cons.mp hb with h2 | h2
      · rw [h2] at e
        exact absurd (List.mem_map.mpr ⟨a, h1, e⟩) h.1
      · exact nodup_inj h.2 a h1 b h2 e
theorem nodup_sub {α : Type} [DecidableEq α] : ∀ {l u : List α}, l.Nodup → (∀ x ∈ l, x ∈ u) → l.length ≤ u.length
  | [], _, _, _ => Nat.zero_le _
  | x :: l, u, h, hs => by
    rw [List.nodup_cons] at h
    have hx := hs x (List.mem_cons_self ..)
    have h1 := nodup_sub (l := l) (u := u.erase x) h.2 fun y hy => (List.mem_erase_of_ne (fun e => h.1 (by rw [← e]; exact hy))).mpr (hs y (List.mem_cons_of_mem _ hy))
    rw [List.length_erase_of_mem hx] at h1
    have : 0 < u.length := List.length_pos_of_mem hx
    rw [List.length_cons]
    omega
section
variable {ls : List Line} {U : List Id} {r : Id → Nat} {S : Id → List Id}
theorem OkW.find (h : OkW ls U r S) {l : Line} (hl : l ∈ ls) : findLine ls (some l.id) = some l := by
  unfold findLine
  cases hf : ls.find? fun k => decide (some k.id = some l.id) with
  | none =>
    have := List.find?_eq_none.mp hf l hl
    simp at this
  | some k =>
    have h1 := List.mem_of_find?_eq_some hf
    have h2 := List.find?_some hf
    rw [nodup_inj h.nd k h1 l hl (Option.some.inj (of_decide_eq_true h2))]
theorem OkW.findH (h : OkW ls U r S) {l : Line} (hl : l ∈ ls) : findHead ls (some l.hd) = some l := by
  unfold findHead
  cases hf : ls.find? fun k => decide (some k.hd = some l.hd) with
  | none =>
    have := List.find?_eq_none.mp hf l hl
    simp at this
  | some k =>
    have h1 := List.mem_of_find?_eq_some hf
    have h2 := List.find?_some hf
    rw [nodup_inj h.hnd k h1 l hl (Option.some.inj (of_decide_eq_true h2))]
theorem find_mem {o : Option Id} {l : Line} (h : findLine ls o = some l) : l ∈ ls ∧ o = some l.id := by
  unfold findLine at h
  have h2 := List.find?_some h
  exact ⟨List.mem_of_find?_eq_some h, (of_decide_eq_true h2).symm⟩
theorem findH_mem {o : Option Id} {l : Line} (h : findHead ls o = some l) : l ∈ ls ∧ o = some l.hd := by
  unfold findHead at h
  have h2 := List.find?_some h
  exact ⟨List.mem_of_find?_eq_some h, (of_decide_eq_true h2).symm⟩
/-- something of the list, or the root -/
def InLs (ls : List Line) (o : Option Id) : Prop := ∀ i, o = some i → ∃ f ∈ ls, f.id = i
theorem OkW.ins (h : OkW ls U r S) {l : Line} (hl : l ∈ ls) : InLs ls l.ins := fun i e => let ⟨f, h1, h2, _⟩ := h.up l hl i e; ⟨f, h1, h2⟩
theorem OkW.sin (h : OkW ls U r S) (x : Id) : ∀ (k : Nat) (o : Option Id), InLs ls o → (∀ i, o = some i → r i < k) → ∃ n b, SIn ls x n o b
  | _, none, _, _ => ⟨0, false, .root⟩
  | 0, some i, _, hk => absurd (hk i rfl) (Nat.not_lt_zero _)
  | k + 1, some i, ho, hk => by
    by_cases e : i = x
    · rw [e]
      exact ⟨0, true, .hit⟩
    · obtain ⟨f, hf, rfl⟩ := ho i rfl
      obtain ⟨n, b, hs⟩ := OkW.sin h x k f.ins (h.ins hf) fun j hj => by
        obtain ⟨g, _, rfl, _, hlt⟩ := h.up f hf j hj
        have := hk f.id rfl
        omega
      exact ⟨n + 1, b, .up e (h.find hf) hs⟩
theorem OkW.sin_any (h : OkW ls U r S) (x : Id) {o : Option Id} (ho : InLs ls o) : ∃ n b, SIn ls x n o b := by
  cases o with
  | none => exact ⟨0, false, .root⟩
  | some i => exact h.sin x (r i + 1) (some i) ho fun j hj => by cases hj; exact Nat.lt_succ_self _
theorem sin_one {x : Id} : ∀ {n : Nat} {o : Option Id} {b : Bool}, SIn ls x n o b → ∀ {m : Nat} {c : Bool}, SIn ls x m o c → b = c := by
  intro n o b h
  induction h with
  | root =>
    intro m c k
    cases k
    rfl
  | hit =>
    intro m c k
    cases k with
    | hit => rfl
    | up hne _ _ => exact absurd rfl hne
  | up hne hf hs ih =>
    intro m c k
    cases k with
    | hit => exact absurd rfl hne
    | up _ hf' hs' =>
      rw [hf] at hf'
      cases hf'
      exact ih hs'
/-- paths are short -/
theorem OkW.short (h : OkW ls U r S) (hU : U.length ≤ 500) : Short ls := by
  refine ⟨?_, fun l hl => ?_⟩
  · have := nodup_sub h.nd fun x hx => by
      obtain ⟨l, hl, rfl⟩ := List.mem_map.mp hx
      exact (h.idU l hl).1
    rw [List.length_map] at this
    omega
  · have h1 := nodup_sub (h.snd l hl) fun x hx => (h.gone l hl x hx).1
    have h2 := (h.len l hl).2
    omega
/-! ### a line ends -/
theorem mem_wo {e k : Line} : k ∈ woLine ls e ↔ ∃ l ∈ ls, (l.ins = some e.id ∧ k = { l with ins := e.ins, path := e.path ++ l.path }) ∨ (l.ins ≠ some e.id ∧ l.id ≠ e.id ∧ k = l) := by
  unfold woLine
  rw [List.mem_flatMap]
  constructor
  · rintro ⟨l, hl, hk⟩
    by_cases h1 : l.ins = some e.id
    · rw [if_pos h1] at hk
      exact ⟨l, hl, .inl ⟨h1, List.mem_singleton.mp hk⟩⟩
    · rw [if_neg h1] at hk
      by_cases h2 : l.id ≠ e.id
      · rw [if_pos h2] at hk
        exact ⟨l, hl, .inr ⟨h1, h2, List.mem_singleton.mp hk⟩⟩
      · rw [if_neg h2] at hk
        cases hk
  · rintro ⟨l, hl, ⟨h1, rfl⟩ | ⟨h1, h2, rfl⟩⟩
    · exact ⟨l, hl, by rw [if_pos h1]; exact List.mem_singleton_self _⟩
    · exact ⟨k, hl, by rw [if_neg h1, if_pos h2]; exact List.mem_singleton_self _⟩
theorem wo_map {β : Type} (f : Line → β) (e : Line) (hf : ∀ (l : Line) (o : Option Id) (p : List Str), f { l with ins := o, path := p } = f l) (h0 : ∀ l ∈ ls, l.ins = some e.id → l.id ≠ e.id) : (woLine ls e).map f = (ls.filter fun l => !decide (l.id = e.id)).map f := by
  unfold woLine
  induction ls with
  | nil => rfl
  | cons l ls ih =>
    have ih := ih fun k hk => h0 k (List.mem_cons_of_mem _ hk)
    rw [List.flatMap_cons, List.map_append, ih]
    by_cases h1 : l.ins = some e.id
    · have h2 := h0 l (List.mem_cons_self ..) h1
      rw [if_pos h1, List.filter_cons_of_pos (by rw [decide_eq_false h2]; rfl), List.map_cons]
      show [f _] ++ _ = _
      rw [hf]
      rfl
    · by_cases h2 : l.id = e.id
      · rw [if_neg h1, if_neg (fun h => h h2), List.filter_cons_of_neg (by rw [decide_eq_true h2]; decide)]
        rfl
      · rw [if_neg h1, if_pos h2, List.filter_cons_of_pos (by rw [decide_eq_false h2]; rfl), List.map_cons]
        rfl
theorem OkW.not_self (h : OkW ls U r S) {l : Line} (hl : l ∈ ls) : l.ins ≠ some l.id := fun e => by
  obtain ⟨f, _, _, _, hlt⟩ := h.up l hl l.id e
  omega
def soS (S : Id → List Id) (ls : List Line) (e : Line) (x : Id) : List Id := if ∃ l ∈ ls, l.id = x ∧ l.ins = some e.id then e.id :: (S e.id ++ S x) else S x
theorem OkW.wo (h : OkW ls U r S) {e : Line} (he : e ∈ ls) : ∃ S', OkW (woLine ls e) U r S' := by
  have hns : ∀ l ∈ ls, l.ins = some e.id → l.id ≠ e.id := fun l hl h1 h2 => by
    have : l = e := nodup_inj h.nd l hl e he h2
    rw [this] at h1
    exact h.not_self he h1
  classical
  let S' : Id → List Id := fun x => if ∃ l ∈ ls, l.id = x ∧ l.ins = some e.id then e.id :: (S e.id ++ S x) else S x
  have s1 : ∀ l ∈ ls, l.ins = some e.id → S' l.id = e.id :: (S e.id ++ S l.id) := fun l hl h1 => if_pos ⟨l, hl, rfl, h1⟩
  have s2 : ∀ l ∈ ls, l.ins ≠ some e.id → S' l.id = S l.id := fun l hl h1 => if_neg fun ⟨k, hk, h2, h3⟩ => h1 (by rw [← nodup_inj h.nd k hk l hl h2]; exact h3)
  have dj : ∀ l ∈ ls, l.ins = some e.id → ∀ x, x ∈ S e.id → x ∈ S l.id → False := fun l hl h1 x hx1 hx2 => by
    have h2 := h.sib e he l hl (fun z => hns l hl h1 z.symm) x hx1 hx2
    rw [h1] at h2
    exact h.not_self he h2
  refine ⟨S', ?_, ?_, ?_, ?_, ?_, ?_, ?_, ?_, ?_⟩
  · rw [wo_map (·.id) e (fun _ _ _ => rfl) hns]
    exact (List.filter_sublist.map _).nodup h.nd
  · rw [wo_map (·.hd) e (fun _ _ _ => rfl) hns]
    exact (List.filter_sublist.map _).nodup h.hnd
  · intro k hk hc
    obtain ⟨l, hl, ⟨_, rfl⟩ | ⟨_, _, rfl⟩⟩ := mem_wo.mp hk
    · exact h.fol l hl hc
    · exact h.fol k hl hc
  · intro k hk
    obtain ⟨l, hl, ⟨_, rfl⟩ | ⟨_, _, rfl⟩⟩ := mem_wo.mp hk
    · exact h.idU l hl
    · exact h.idU k hl
  · -- the way up
    have stay : ∀ f ∈ ls, f.id ≠ e.id → f.ct = none → ∃ g ∈ woLine ls e, g.id = f.id ∧ g.ct = none := fun f hf h1 h2 => by
      by_cases h3 : f.ins = some e.id
      · exact ⟨_, mem_wo.mpr ⟨f, hf, .inl ⟨h3, rfl⟩⟩, rfl, h2⟩
      · exact ⟨f, mem_wo.mpr ⟨f, hf, .inr ⟨h3, h1, rfl⟩⟩, rfl, h2⟩
    intro k hk i hi
    obtain ⟨l, hl, ⟨h1, rfl⟩ | ⟨h1, h2, rfl⟩⟩ := mem_wo.mp hk
    · obtain ⟨f, hf, rfl, h3, h4⟩ := h.up e he i hi
      obtain ⟨_, _, _, _, h5⟩ := h.up l hl e.id h1
      obtain ⟨g, g1, g2, g3⟩ := stay f hf (fun z => by rw [z] at h4; omega) h3
      exact ⟨g, g1, g2, g3, Nat.lt_trans h4 h5⟩
    · obtain ⟨f, hf, rfl, h3, h4⟩ := h.up k hl i hi
      obtain ⟨g, g1, g2, g3⟩ := stay f hf (fun z => h1 (by rw [hi, z])) h3
      exact ⟨g, g1, g2, g3, h4⟩
  · intro k hk
    obtain ⟨l, hl, ⟨h1, rfl⟩ | ⟨h1, h2, rfl⟩⟩ := mem_wo.mp hk
    · have a1 := h.len l hl
      have a2 := h.len e he
      show 1 ≤ (e.path ++ l.path).length ∧ (e.path ++ l.path).length ≤ 3 * ((S' l.id).length + 1)
      rw [s1 l hl h1, List.length_cons, List.length_append, List.length_append]
      omega
    · rw [s2 k hl h1]
      exact h.len k hl
  · intro k hk
    obtain ⟨l, hl, ⟨h1, rfl⟩ | ⟨h1, h2, rfl⟩⟩ := mem_wo.mp hk
    · show (S' l.id).Nodup
      rw [s1 l hl h1, List.nodup_cons, List.mem_append, List.nodup_append]
      refine ⟨?_, h.snd e he, h.snd l hl, fun a ha b hb z => dj l hl h1 a ha (z ▸ hb)⟩
      rintro (z | z)
      · exact (h.gone e he _ z).2 e he rfl
      · exact (h.gone l hl _ z).2 e he rfl
    · rw [s2 k hl h1]
      exact h.snd k hl
  · -- ended ids
    have old : ∀ x, x ∈ U → (∀ k ∈ ls, k.id ≠ x) → x ∈ U ∧ ∀ k ∈ woLine ls e, k.id ≠ x := fun x hu hx => ⟨hu, fun k hk => by
      obtain ⟨l, hl, ⟨_, rfl⟩ | ⟨_, _, rfl⟩⟩ := mem_wo.mp hk
      · exact hx l hl
      · exact hx k hl⟩
    intro k hk x hx
    obtain ⟨l, hl, ⟨h1, rfl⟩ | ⟨h1, h2, rfl⟩⟩ := mem_wo.mp hk
    · have hx' : x ∈ S' l.id := hx
      rw [s1 l hl h1, List.mem_cons, List.mem_append] at hx'
      rcases hx' with rfl | hx' | hx'
      · refine ⟨(h.idU e he).1, fun k hk => ?_⟩
        obtain ⟨m, hm, ⟨h5, rfl⟩ | ⟨_, h6, rfl⟩⟩ := mem_wo.mp hk
        · exact hns m hm h5
        · exact h6
      · exact old x (h.gone e he x hx').1 (h.gone e he x hx').2
      · exact old x (h.gone l hl x hx').1 (h.gone l hl x hx').2
    · rw [s2 k hl h1] at hx
      exact old x (h.gone k hl x hx).1 (h.gone k hl x hx).2
  · -- side by side
    have one : ∀ l ∈ ls, l.ins = some e.id → ∀ m ∈ ls, m.ins ≠ some e.id → m.id ≠ e.id → ∀ x, x ∈ S' l.id → x ∈ S m.id → e.ins = m.ins := fun l hl h1 m hm h3 h4 x hx1 hx2 => by
      rw [s1 l hl h1, List.mem_cons, List.mem_append] at hx1
      rcases hx1 with rfl | hx1 | hx1
      · exact absurd rfl ((h.gone m hm _ hx2).2 e he)
      · exact h.sib e he m hm (fun z => h4 z.symm) x hx1 hx2
      · have hne : l.id ≠ m.id := fun z => h3 (by rw [← nodup_inj h.nd l hl m hm z]; exact h1)
        have := h.sib l hl m hm hne x hx1 hx2
        rw [h1] at this
        exact absurd this.symm h3
    intro k hk k' hk' hne x hx hx'
    obtain ⟨l, hl, ⟨h1, rfl⟩ | ⟨h1, h2, rfl⟩⟩ := mem_wo.mp hk
    · obtain ⟨m, hm, ⟨h3, rfl⟩ | ⟨h3, h4, rfl⟩⟩ := mem_wo.mp hk'
      · rfl
      · rw [s2 k' hm h3] at hx'
        exact one l hl h1 k' hm h3 h4 x hx hx'
    · rw [s2 k hl h1] at hx
      obtain ⟨m, hm, ⟨h3, rfl⟩ | ⟨h3, h4, rfl⟩⟩ := mem_wo.mp hk'
      · exact (one m hm h3 k hl h1 h2 x hx' hx).symm
      · rw [s2 k' hm h3] at hx'
        exact h.sib k hl k' hm hne x hx hx'
/-! ### a line more -/
def upR (r : Id → Nat) : Option Id → Nat
  | some i => r i + 1
  | none => 0
def Fol (ls : List Line) (o : Option Id) : Prop := ∀ i, o = some i → ∃ f ∈ ls, f.id = i ∧ f.ct = none
theorem OkW.add (h : OkW ls U r S) {id : Id} (hid : id ∉ U) {o : Option Id} {p : List Str} {T : List Id} (ct : Option Ct) (ho : Fol ls o) (hp : 1 ≤ p.length ∧ p.length ≤ 3 * (T.length + 1)) (hT : T.Nodup)
    (hg : ∀ x ∈ T, x ∈ U ∧ ∀ k ∈ ls, k.id ≠ x) (hs : ∀ k ∈ ls, ∀ x, x ∈ S k.id → x ∈ T → k.ins = o) : ∃ r' S', OkW (ls ++ [⟨id, id, o, p, ct⟩]) (id :: U) r' S' := by
  have hne : ∀ l ∈ ls, l.id ≠ id := fun l hl e => hid (e ▸ (h.idU l hl).1)
  have hnh : ∀ l ∈ ls, l.hd ≠ id := fun l hl e => hid (e ▸ (h.idU l hl).2)
  refine ⟨fun x => if x = id then upR r o else r x, fun x => if x = id then T else S x, ?_, ?_, ?_, ?_, ?_, ?_, ?_, ?_, ?_⟩
  · rw [List.map_append, List.nodup_append]
    refine ⟨h.nd, by simp, fun a ha b hb => ?_⟩
    obtain ⟨l, hl, rfl⟩ := List.mem_map.mp ha
    rw [List.mem_singleton.mp hb]
    exact hne l hl
  · rw [List.map_append, List.nodup_append]
    refine ⟨h.hnd, by simp, fun a ha b hb => ?_⟩
    obtain ⟨l, hl, rfl⟩ := List.mem_map.mp ha
    rw [List.mem_singleton.mp hb]
    exact hnh l hl
  · intro l hl hc
    rcases List.mem_append.mp hl with hl | hl
    · exact h.fol l hl hc
    · rw [List.mem_singleton.mp hl]
  · intro l hl
    rcases List.mem_append.mp hl with hl | hl
    · exact ⟨List.mem_cons_of_mem _ (h.idU l hl).1, List.mem_cons_of_mem _ (h.idU l hl).2⟩
    · rw [List.mem_singleton.mp hl]
      exact ⟨List.mem_cons_self .., List.mem_cons_self ..⟩
  · intro l hl i hi
    rcases List.mem_append.mp hl with hl | hl
    · obtain ⟨f, hf, rfl, h1, h2⟩ := h.up l hl i hi
      refine ⟨f, List.mem_append_left _ hf, rfl, h1, ?_⟩
      show (if f.id = id then _ else r f.id) < if l.id = id then _ else r l.id
      rw [if_neg (hne f hf), if_neg (hne l hl)]
      exact h2
    · obtain rfl := List.mem_singleton.mp hl
      obtain ⟨f, hf, rfl, h1⟩ := ho i hi
      refine ⟨f, List.mem_append_left _ hf, rfl, h1, ?_⟩
      have hi' : o = some f.id := hi
      show (if f.id = id then _ else r f.id) < if id = id then _ else _
      rw [if_neg (hne f hf), if_pos rfl, hi']
      exact Nat.lt_succ_self _
  · intro l hl
    rcases List.mem_append.mp hl with hl | hl
    · show 1 ≤ l.path.length ∧ l.path.length ≤ 3 * ((if l.id = id then T else S l.id).length + 1)
      rw [if_neg (hne l hl)]
      exact h.len l hl
    · obtain rfl := List.mem_singleton.mp hl
      show 1 ≤ p.length ∧ p.length ≤ 3 * ((if id = id then T else S id).length + 1)
      rw [if_pos rfl]
      exact hp
  · intro l hl
    rcases List.mem_append.mp hl with hl | hl
    · show (if l.id = id then T else S l.id).Nodup
      rw [if_neg (hne l hl)]
      exact h.snd l hl
    · obtain rfl := List.mem_singleton.mp hl
      show (if id = id then T else S id).Nodup
      rw [if_pos rfl]
      exact hT
  · have all : ∀ x, x ∈ U → (∀ k ∈ ls, k.id ≠ x) → x ∈ id :: U ∧ ∀ k ∈ ls ++ [(⟨id, id, o, p, ct⟩ : Line)], k.id ≠ x := fun x hx hk => ⟨List.mem_cons_of_mem _ hx, fun k hk' => by
      rcases List.mem_append.mp hk' with h1 | h1
      · exact hk k h1
      · rw [List.mem_singleton.mp h1]
        exact fun e => hid (by have e' : id = x := e; rw [e']; exact hx)⟩
    intro l hl x hx
    rcases List.mem_append.mp hl with hl | hl
    · have hx' : x ∈ if l.id = id then T else S l.id := hx
      rw [if_neg (hne l hl)] at hx'
      exact all x (h.gone l hl x hx').1 (h.gone l hl x hx').2
    · obtain rfl := List.mem_singleton.mp hl
      have hx' : x ∈ if id = id then T else S id := hx
      rw [if_pos rfl] at hx'
      exact all x (hg x hx').1 (hg x hx').2
  · intro k hk l hl hn x hx hx'
    have hx1 : x ∈ if k.id = id then T else S k.id := hx
    have hx2 : x ∈ if l.id = id then T else S l.id := hx'
    rcases List.mem_append.mp hk with hk | hk
    · rw [if_neg (hne k hk)] at hx1
      rcases List.mem_append.mp hl with hl | hl
      · rw [if_neg (hne l hl)] at hx2
        exact h.sib k hk l hl hn x hx1 hx2
      · obtain rfl := List.mem_singleton.mp hl
        rw [if_pos rfl] at hx2
        exact hs k hk x hx1 hx2
    · obtain rfl := List.mem_singleton.mp hk
      rw [if_pos rfl] at hx1
      rcases List.mem_append.mp hl with hl | hl
      · rw [if_neg (hne l hl)] at hx2
        exact (hs l hl x hx2 hx1).symm
      · obtain rfl := List.mem_singleton.mp hl
        exact absurd rfl hn
/-! ### a text goes on in its line -/
def textOn (ls : List Line) (c : Line) (id : Id) (ct : Option Ct) : List Line := ls.map fun k => if k.id = c.id then ⟨c.id, id, c.ins, c.path, ct⟩ else k
theorem OkW.text (h : OkW ls U r S) {c : Line} (hc : c ∈ ls) (hct : c.ct ≠ none) {id : Id} (hid : id ∉ U) (ct : Ct) : OkW (textOn ls c id (some ct)) (id :: U) r S := by
  have mem : ∀ {k : Line}, k ∈ textOn ls c id (some ct) → ∃ l ∈ ls, k.id = l.id ∧ k.ins = l.ins ∧ k.path = l.path ∧ ((l = c ∧ k.hd = id ∧ k.ct = some ct) ∨ (l ≠ c ∧ k = l)) := fun {k} hk => by
    obtain ⟨l, hl, rfl⟩ := List.mem_map.mp hk
    by_cases e : l.id = c.id
    · rw [if_pos e]
      have := nodup_inj h.nd l hl c hc e
      subst this
      exact ⟨l, hl, rfl, rfl, rfl, .inl ⟨rfl, rfl, rfl⟩⟩
    · rw [if_neg e]
      exact ⟨l, hl, rfl, rfl, rfl, .inr ⟨fun z => e (by rw [z]), rfl⟩⟩
  have ids : (textOn ls c id (some ct)).map (·.id) = ls.map (·.id) := by
    unfold textOn
    rw [List.map_map]
    refine List.map_congr_left fun l _ => ?_
    show (if l.id = c.id then (⟨c.id, id, c.ins, c.path, some ct⟩ : Line) else l).id = l.id
    split
    · next e => exact e.symm
    · rfl
  refine ⟨by rw [ids]; exact h.nd, ?_, ?_, ?_, ?_, ?_, ?_, ?_, ?_⟩
  · -- heads
    have hnh : ∀ l ∈ ls, l.hd ≠ id := fun l hl e => hid (e ▸ (h.idU l hl).2)
    have key : ∀ m : List Line, (∀ l ∈ m, l ∈ ls) → (m.map (·.id)).Nodup → (m.map (·.hd)).Nodup → ((textOn m c id (some ct)).map (·.hd)).Nodup := by
      intro m
      induction m with
      | nil => intro _ _ _; exact List.nodup_nil
      | cons l m ih =>
        intro hm h1 h2
        rw [List.map_cons, List.nodup_cons] at h1 h2
        unfold textOn
        rw [List.map_cons, List.map_cons, List.nodup_cons]
        refine ⟨fun hx => ?_, ih (fun k hk => hm k (List.mem_cons_of_mem _ hk)) h1.2 h2.2⟩
        obtain ⟨k, hk, e⟩ := List.mem_map.mp hx
        obtain ⟨k0, hk0, rfl⟩ := List.mem_map.mp hk
        have hk0' := hm k0 (List.mem_cons_of_mem _ hk0)
        have hl' := hm l (List.mem_cons_self ..)
        by_cases e1 : k0.id = c.id
        · by_cases e2 : l.id = c.id
          · exact h1.1 (List.mem_map.mpr ⟨k0, hk0, e1.trans e2.symm⟩)
          · rw [if_pos e1, if_neg e2] at e
            exact hnh l hl' e.symm
        · by_cases e2 : l.id = c.id
          · rw [if_neg e1, if_pos e2] at e
            exact hnh k0 hk0' e
          · rw [if_neg e1, if_neg e2] at e
            exact h2.1 (List.mem_map.mpr ⟨k0, hk0, e⟩)
    exact key ls (fun _ hl => hl) h.nd h.hnd
  · intro k hk hk2
    obtain ⟨l, hl, h1, h2, h3, ⟨rfl, h4, h5⟩ | ⟨h4, rfl⟩⟩ := mem hk
    · rw [h5] at hk2
      cases hk2
    · exact h.fol k hl hk2
  · intro k hk
    obtain ⟨l, hl, h1, h2, h3, ⟨rfl, h4, h5⟩ | ⟨h4, rfl⟩⟩ := mem hk
    · rw [h1, h4]
      exact ⟨List.mem_cons_of_mem _ (h.idU l hl).1, List.mem_cons_self ..⟩
    · exact ⟨List.mem_cons_of_mem _ (h.idU k hl).1, List.mem_cons_of_mem _ (h.idU k hl).2⟩
  · intro k hk i hi
    obtain ⟨l, hl, h1, h2, h3, _⟩ := mem hk
    rw [h2] at hi
    obtain ⟨f, hf, rfl, h5, h6⟩ := h.up l hl i hi
    have hfc : f.id ≠ c.id := fun e => hct (by rw [← nodup_inj h.nd f hf c hc e]; exact h5)
    exact ⟨f, List.mem_map.mpr ⟨f, hf, if_neg hfc⟩, rfl, h5, by rw [h1]; exact h6⟩
  · intro k hk
    obtain ⟨l, hl, h1, h2, h3, _⟩ := mem hk
    rw [h1, h3]
    exact h.len l hl
  · intro k hk
    obtain ⟨l, hl, h1, _⟩ := mem hk
    rw [h1]
    exact h.snd l hl
  · intro k hk x hx
    obtain ⟨l, hl, h1, _⟩ := mem hk
    rw [h1] at hx
    refine ⟨List.mem_cons_of_mem _ (h.gone l hl x hx).1, fun m hm => ?_⟩
    obtain ⟨n, hn, h5, _⟩ := mem hm
    rw [h5]
    exact (h.gone l hl x hx).2 n hn
  · intro k hk l hl hne x hx hx'
    obtain ⟨k0, hk0, h1, h2, _⟩ := mem hk
    obtain ⟨l0, hl0, h3, h4, _⟩ := mem hl
    rw [h1] at hx hne
    rw [h3] at hx' hne
    rw [h2, h4]
    exact h.sib k0 hk0 l0 hl0 hne x hx hx'
/-! ### a line is moved -/
theorem OkW.mv (h : OkW ls U r S) {l : Line} (hl : l ∈ ls) {o : Option Id} {p : List Str} (ho : Fol ls o) (hp : 1 ≤ p.length ∧ p.length ≤ 3) {n : Nat} (hs : SIn ls l.id n o false) : ∃ r' S', OkW (mvTo ls l (o, p)) U r' S' := by
  classical
  let De : Id → Prop := fun x => ∃ n, SIn ls l.id n (some x) true
  let up : Nat := upR r o
  have dl : De l.id := ⟨0, .hit⟩
  have mem : ∀ {k : Line}, k ∈ mvTo ls l (o, p) → (k = ⟨l.id, l.hd, o, p, l.ct⟩) ∨ (k ∈ ls ∧ k.id ≠ l.id) := fun {k} hk => by
    obtain ⟨m, hm, rfl⟩ := List.mem_map.mp hk
    by_cases e : m.id = l.id
    · rw [if_pos e]
      exact .inl rfl
    · rw [if_neg e]
      exact .inr ⟨hm, e⟩
  have low : ∀ {k : Line}, k ∈ mvTo ls l (o, p) → ∃ m ∈ ls, k.id = m.id ∧ k.hd = m.hd ∧ k.ct = m.ct := fun {k} hk => by
    rcases mem hk with rfl | ⟨h1, _⟩
    · exact ⟨l, hl, rfl, rfl, rfl⟩
    · exact ⟨k, h1, rfl, rfl, rfl⟩
  have stay : ∀ f ∈ ls, f.ct = none → ∃ g ∈ mvTo ls l (o, p), g.id = f.id ∧ g.ct = none := fun f hf h1 => by
    by_cases e : f.id = l.id
    · refine ⟨⟨l.id, l.hd, o, p, l.ct⟩, List.mem_map.mpr ⟨f, hf, if_pos e⟩, e.symm, ?_⟩
      rw [← nodup_inj h.nd f hf l hl e]
      exact h1
    · exact ⟨f, List.mem_map.mpr ⟨f, hf, if_neg e⟩, rfl, h1⟩
  have eqs : ∀ {β : Type} (g : Line → β), g ⟨l.id, l.hd, o, p, l.ct⟩ = g l → (mvTo ls l (o, p)).map g = ls.map g := fun {β} g hg => by
    unfold mvTo
    rw [List.map_map]
    refine List.map_congr_left fun m hm => ?_
    show g (if m.id = l.id then _ else m) = g m
    by_cases e : m.id = l.id
    · rw [if_pos e, nodup_inj h.nd m hm l hl e]
      exact hg
    · rw [if_neg e]
  refine ⟨fun x => if De x then r x + up else r x, fun x => if x = l.id then [] else S x, ?_, ?_, ?_, ?_, ?_, ?_, ?_, ?_, ?_⟩
  · rw [eqs (·.id) rfl]
    exact h.nd
  · rw [eqs (·.hd) rfl]
    exact h.hnd
  · intro k hk hc
    obtain ⟨m, hm, h1, h2, h3⟩ := low hk
    rw [h1, h2]
    exact h.fol m hm (h3 ▸ hc)
  · intro k hk
    obtain ⟨m, hm, h1, h2, h3⟩ := low hk
    rw [h1, h2]
    exact h.idU m hm
  · intro k hk i hi
    rcases mem hk with rfl | ⟨h1, h2⟩
    · have hi' : o = some i := hi
      obtain ⟨f, hf, rfl, h3⟩ := ho i hi'
      obtain ⟨g, g1, g2, g3⟩ := stay f hf h3
      refine ⟨g, g1, g2, g3, ?_⟩
      have nd : ¬ De f.id := fun ⟨m, hm⟩ => by
        rw [hi'] at hs
        exact absurd (sin_one hs hm) (by decide)
      show (if De f.id then _ else r f.id) < if De l.id then r l.id + up else _
      rw [if_neg nd, if_pos dl]
      have : up = r f.id + 1 := by
        show upR r o = _
        rw [hi']
        rfl
      omega
    · obtain ⟨f, hf, rfl, h3, h4⟩ := h.up k h1 i hi
      obtain ⟨g, g1, g2, g3⟩ := stay f hf h3
      refine ⟨g, g1, g2, g3, ?_⟩
      have go : De f.id → De k.id := fun ⟨m, hm⟩ => ⟨m + 1, .up h2 (h.find h1) (by rw [hi]; exact hm)⟩
      show (if De f.id then r f.id + up else r f.id) < if De k.id then r k.id + up else r k.id
      by_cases d1 : De f.id
      · rw [if_pos d1, if_pos (go d1)]
        omega
      · rw [if_neg d1]
        split <;> omega
  · intro k hk
    rcases mem hk with rfl | ⟨h1, h2⟩
    · show 1 ≤ p.length ∧ p.length ≤ 3 * ((if l.id = l.id then [] else S l.id).length + 1)
      rw [if_pos rfl]
      exact ⟨hp.1, by show p.length ≤ 3 * (0 + 1); omega⟩
    · show 1 ≤ k.path.length ∧ k.path.length ≤ 3 * ((if k.id = l.id then [] else S k.id).length + 1)
      rw [if_neg h2]
      exact h.len k h1
  · intro k hk
    rcases mem hk with rfl | ⟨h1, h2⟩
    · show (if l.id = l.id then [] else S l.id).Nodup
      rw [if_pos rfl]
      exact List.nodup_nil
    · show (if k.id = l.id then [] else S k.id).Nodup
      rw [if_neg h2]
      exact h.snd k h1
  · intro k hk x hx
    rcases mem hk with rfl | ⟨h1, h2⟩
    · have hx' : x ∈ if l.id = l.id then [] else S l.id := hx
      rw [if_pos rfl] at hx'
      cases hx'
    · have hx' : x ∈ if k.id = l.id then [] else S k.id := hx
      rw [if_neg h2] at hx'
      refine ⟨(h.gone k h1 x hx').1, fun m hm => ?_⟩
      obtain ⟨m0, hm0, h3, _⟩ := low hm
      rw [h3]
      exact (h.gone k h1 x hx').2 m0 hm0
  · intro k hk m hm hne x hx hx'
    rcases mem hk with rfl | ⟨h1, h2⟩
    · have hx1 : x ∈ if l.id = l.id then [] else S l.id := hx
      rw [if_pos rfl] at hx1
      cases hx1
    · have hx1 : x ∈ if k.id = l.id then [] else S k.id := hx
      rw [if_neg h2] at hx1
      rcases mem hm with rfl | ⟨h3, h4⟩
      · have hx2 : x ∈ if l.id = l.id then [] else S l.id := hx'
        rw [if_pos rfl] at hx2
        cases hx2
      · have hx2 : x ∈ if m.id = l.id then [] else S m.id := hx'
        rw [if_neg h4] at hx2
        exact h.sib k h1 m h3 hne x hx1 hx2
/-! ### what an edit makes of sound lines -/
def Ok (ls : List Line) (U : List Id) : Prop := ∃ r S, OkW ls U r S
theorem OkW.more (h : OkW ls U r S) {U' : List Id} (hu : ∀ x ∈ U, x ∈ U') : OkW ls U' r S :=
  ⟨h.nd, h.hnd, h.fol, fun l hl => ⟨hu _ (h.idU l hl).1, hu _ (h.idU l hl).2⟩, h.up, h.len, h.snd, fun l hl x hx => ⟨hu x (h.gone l hl x hx).1, (h.gone l hl x hx).2⟩, h.sib⟩
theorem Ok.more (h : Ok ls U) {U' : List Id} (hu : ∀ x ∈ U, x ∈ U') : Ok ls U' := let ⟨r, S, h⟩ := h; ⟨r, S, h.more hu⟩
theorem Ok.short (h : Ok ls U) (hU : U.length ≤ 500) : Short ls := let ⟨_, _, h⟩ := h; h.short hU
theorem ok_nil : Ok [] [] := by
  refine ⟨fun _ => 0, fun _ => [], ⟨by simp, by simp, ?_, ?_, ?_, ?_, ?_, ?_, ?_⟩⟩
  all_goals
    intro l hl
    cases hl
def GoodPl (pl : Place) : Prop := (1 ≤ pl.2.1.length ∧ pl.2.1.length ≤ 3) ∧ 1 ≤ pl.2.2.length ∧ pl.2.2.length ≤ 3
theorem settle_fol (ls : List Line) (pl : Place) : Fol ls (settleF ls pl).1 := fun i hi => by
  unfold settleF at hi
  cases hf : findLine ls pl.1 with
  | none => rw [hf] at hi; cases hi
  | some f =>
    rw [hf] at hi
    obtain ⟨h1, h2⟩ := find_mem hf
    by_cases hc : f.ct = none
    · have hi' : pl.1 = some i := by
        have : (if f.ct = none then (pl.1, pl.2.1) else (none, pl.2.2)).1 = some i := hi
        rw [if_pos hc] at this
        exact this
      rw [h2] at hi'
      exact ⟨f, h1, Option.some.inj hi', hc⟩
    · have : (if f.ct = none then (pl.1, pl.2.1) else (none, pl.2.2)).1 = some i := hi
      rw [if_neg hc] at this
      cases this
theorem settle_len (ls : List Line) {pl : Place} (h : GoodPl pl) : 1 ≤ (settleF ls pl).2.length ∧ (settleF ls pl).2.length ≤ 3 := by
  unfold settleF
  cases findLine ls pl.1 with
  | none => exact h.2
  | some f =>
    show 1 ≤ (if f.ct = none then (pl.1, pl.2.1) else (none, pl.2.2)).2.length ∧ (if f.ct = none then (pl.1, pl.2.1) else (none, pl.2.2)).2.length ≤ 3
    split
    · exact h.1
    · exact h.2
theorem Ok.head (h : Ok ls U) (x : Id) : Ok (woHead ls x) U := by
  unfold woHead
  cases hf : findHead ls (some x) with
  | none => exact h
  | some e =>
    obtain ⟨r, S, h⟩ := h
    obtain ⟨S', h'⟩ := h.wo (findH_mem hf).1
    exact ⟨r, S', h'⟩
theorem Ok.heads : ∀ (hs : List Id) {ls : List Line}, Ok ls U → Ok (woHeads ls hs) U
  | [], _, h => h
  | x :: hs, _, h => Ok.heads hs (h.head x)
theorem Ok.new (h : Ok ls U) {id : Id} (hid : id ∉ U) {pl : Place} (hp : GoodPl pl) (ct : Option Ct) (meant : Option Id) : Ok (withNew ls id pl ct meant) (id :: U) := by
  obtain ⟨r, S, h⟩ := h
  unfold withNew whereF
  cases hf : findLine ls meant with
  | none => exact h.add hid (T := []) ct (settle_fol ls pl) (by have := settle_len ls hp; simpa using this) List.nodup_nil (fun x hx => by cases hx) (fun _ _ x _ hx => by cases hx)
  | some m =>
    obtain ⟨h1, _⟩ := find_mem hf
    refine h.add hid (T := S m.id) ct (fun i hi => let ⟨f, a, b, c, _⟩ := h.up m h1 i hi; ⟨f, a, b, c⟩) (h.len m h1) (h.snd m h1) (h.gone m h1) fun k hk x hx1 hx2 => ?_
    by_cases e : k.id = m.id
    · rw [nodup_inj h.nd k hk m h1 e]
    · exact h.sib k hk m h1 e x hx1 hx2
theorem Ok.textIn (h : Ok ls U) {id : Id} (hid : id ∉ U) {pl : Place} (hp : GoodPl pl) (c : Ct) (meant : Option Id) (hs : List Id) : Ok (textIn ls id pl (some c) meant hs) (id :: U) := by
  unfold Ln.textIn
  cases hf : firstRep ls hs with
  | none => exact h.new hid hp _ _
  | some k =>
    obtain ⟨r, S, h⟩ := h
    unfold firstRep at hf
    have h1 := List.mem_of_find?_eq_some hf
    have h2 := List.find?_some hf
    rw [Bool.and_eq_true] at h2
    exact ⟨r, S, h.text h1 (fun e => by rw [e] at h2; cases h2.1) hid c⟩
theorem Ok.mv (h : Ok ls U) {m : Mv} (hm : GoodPl m.2.2) : ∃ ls', MvR ls m ls' ∧ Ok ls' U := by
  obtain ⟨r, S, h⟩ := h
  cases hf : meantBy ls m with
  | none => exact ⟨ls, .no hf, r, S, h⟩
  | some l =>
    have hl : l ∈ ls := by
      unfold meantBy at hf
      cases hh : findHead ls m.1 with
      | none =>
        rw [hh, Option.none_or] at hf
        exact (find_mem hf).1
      | some k =>
        rw [hh, Option.some_or] at hf
        cases hf
        exact (findH_mem hh).1
    have hfo := settle_fol ls m.2.2
    obtain ⟨n, b, hs⟩ := h.sin_any l.id (o := (settleF ls m.2.2).1) fun i hi => let ⟨f, a, b, _⟩ := hfo i hi; ⟨f, a, b⟩
    cases b with
    | true => exact ⟨ls, .ring hf hs, r, S, h⟩
    | false =>
      obtain ⟨r', S', h'⟩ := h.mv hl hfo (settle_len ls hm) hs
      exact ⟨_, .yes hf hs, r', S', h'⟩
theorem Ok.mvs (hU : U.length ≤ 500) : ∀ (ms : List Mv) {ls : List Line}, Ok ls U → (∀ m ∈ ms, GoodPl m.2.2) → ∃ ls', MvsR ls ms ls' ∧ Ok ls' U
  | [], ls, h, _ => ⟨ls, .nil ls, h⟩
  | m :: ms, ls, h, hm => by
    obtain ⟨l1, h1, h2⟩ := h.mv (hm m (List.mem_cons_self ..))
    obtain ⟨l2, h3, h4⟩ := Ok.mvs hU ms h2 fun k hk => hm k (List.mem_cons_of_mem _ hk)
    exact ⟨l2, .cons (h.short hU) h1 h3, h4⟩
def eId : Edit → Id
  | .write id .. => id
  | .drop id _ => id
  | .move id _ => id
def GoodEd : Edit → Prop
  | .write _ pl _ _ hs => GoodPl pl ∧ hs.length ≤ 1000
  | .drop _ _ => True
  | .move _ ms => ∀ m ∈ ms, GoodPl m.2.2
theorem Ok.edit (h : Ok ls U) (hU : U.length ≤ 400) {e : Edit} (hid : eId e ∉ U) (he : GoodEd e) : ∃ ls', AftR ls e ls' ∧ Ok ls' (eId e :: U) := by
  have hm : ∀ x ∈ U, x ∈ eId e :: U := fun x hx => List.mem_cons_of_mem _ hx
  have hU' : (eId e :: U).length ≤ 500 := by rw [List.length_cons]; omega
  cases e with
  | write id pl ct meant hs =>
    cases ct with
    | none => exact ⟨_, .mark id pl meant hs (h.short (by omega)) fun i => (Ok.heads _ (h.new hid he.1 none meant)).short hU', Ok.heads hs (h.new hid he.1 none meant)⟩
    | some c => exact ⟨_, .text id pl c meant hs (h.short (by omega)) he.2 fun i => (Ok.heads _ (h.textIn hid he.1 c meant hs)).short hU', Ok.heads _ (h.textIn hid he.1 c meant hs)⟩
  | drop id hs => exact ⟨_, .drop id hs fun i => (Ok.heads _ h).short (by omega), (Ok.heads hs h).more hm⟩
  | move id ms =>
    obtain ⟨ls', h1, h2⟩ := Ok.mvs (by omega) ms h he
    exact ⟨ls', .move id h1, h2.more hm⟩
/-- edits with new ids -/
theorem Ok.fold : ∀ (es : List Edit) {ls : List Line} {U : List Id}, Ok ls U → U.length + es.length ≤ 400 → (es.map eId).Nodup → (∀ e ∈ es, eId e ∉ U ∧ GoodEd e) → ∃ ls' U', FoldR ls es ls' ∧ Ok ls' U' ∧ U'.length = U.length + es.length ∧ ∀ x ∈ U', x ∈ U ∨ x ∈ es.map eId
  | [], ls, U, h, _, _, _ => ⟨ls, U, .nil ls, h, rfl, fun x hx => .inl hx⟩
  | e :: es, ls, U, h, hU, hn, hg => by
    rw [List.length_cons] at hU
    rw [List.map_cons, List.nodup_cons] at hn
    obtain ⟨l1, h1, h2⟩ := h.edit (by omega) (hg e (List.mem_cons_self ..)).1 (hg e (List.mem_cons_self ..)).2
    obtain ⟨l2, U2, h3, h4, h5, h6⟩ := Ok.fold es h2 (by rw [List.length_cons]; omega) hn.2 fun k hk => ⟨fun hx => by
      rcases List.mem_cons.mp hx with h | h
      · exact hn.1 (List.mem_map.mpr ⟨k, hk, h⟩)
      · exact (hg k (List.mem_cons_of_mem _ hk)).1 h, (hg k (List.mem_cons_of_mem _ hk)).2⟩
    refine ⟨l2, U2, .cons h1 h3, h4, by rw [h5, List.length_cons, List.length_cons]; omega, fun x hx => ?_⟩
    rcases h6 x hx with h | h
    · rcases List.mem_cons.mp h with h | h
      · exact .inr (by rw [List.map_cons, h]; exact List.mem_cons_self ..)
      · exact .inl h
    · exact .inr (by rw [List.map_cons]; exact List.mem_cons_of_mem _ h)
/-! ### where lines stand -/
theorem OkW.std (h : OkW ls U r S) : ∀ (k : Nat) (o : Option Id) (p : List Str), InLs ls o → (∀ i, o = some i → r i < k) → ∃ n q, Std ls n o p (q ++ p)
  | _, none, p, _, _ => ⟨0, [], .root p⟩
  | 0, some i, _, _, hk => absurd (hk i rfl) (Nat.not_lt_zero _)
  | k + 1, some i, p, ho, hk => by
    obtain ⟨f, hf, rfl⟩ := ho i rfl
    obtain ⟨n, q, hs⟩ := OkW.std h k f.ins (f.path ++ p) (h.ins hf) fun j hj => by
      obtain ⟨g, _, rfl, _, hlt⟩ := h.up f hf j hj
      have := hk f.id rfl
      omega
    exact ⟨n + 1, q ++ f.path, by rw [List.append_assoc]; exact .up (h.find hf) hs⟩
theorem OkW.std_any (h : OkW ls U r S) (p : List Str) {o : Option Id} (ho : InLs ls o) : ∃ n q, Std ls n o p (q ++ p) := by
  cases o with
  | none => exact ⟨0, [], .root p⟩
  | some i => exact h.std (r i + 1) (some i) p ho fun j hj => by cases hj; exact Nat.lt_succ_self _
theorem std_one : ∀ {n : Nat} {o : Option Id} {p q : List Str}, Std ls n o p q → ∀ {m : Nat} {q' : List Str}, Std ls m o p q' → q = q' ∧ n = m := by
  intro n o p q h
  induction h with
  | root p =>
    intro m q' k
    cases k
    exact ⟨rfl, rfl⟩
  | up hf hs ih =>
    intro m q' k
    cases k with
    | up hf' hs' =>
      rw [hf] at hf'
      cases hf'
      obtain ⟨h1, h2⟩ := ih hs'
      exact ⟨h1, by rw [h2]⟩
end
end Ln
/-! the edits that the laws of lines draw -/
namespace Ln
open PySem PySem.Spec PyProof.Rows L2 Evl Lw
def namesD : List Str := [Str.ofString "a", Str.ofString "b", Str.ofString "c.txt", Str.ofString "d"]
def pathF (row most : Int) : List Str := (List.range (1 + row / 5 % most).toNat).map fun (j : Nat) => namesD.getD (row / (11 * (j : Int) + 3) % 4).toNat Str.empty
def pickF (row : Int) (is : List Id) : Option Id := if is = [] ∨ row % 3 = 0 then none else if row / 7 % 2 = 0 then is[(row / 3 % (is.length : Int)).toNat]? else is[((is.length : Int) - 1 - row / 3 % min 3 (is.length : Int)).toNat]?
def placeF (row : Int) (is : List Id) : Place := (pickF (row / 2) is, pathF (row / 13) 2, pathF (row / 101) 3)
def headsF (row : Int) (is : List Id) : Nat → List Id
  | 0 => []
  | j + 1 => headsF row is j ++ (pickF (row / (23 * (j : Int) + 5)) is).toList
def headsA (row : Int) (is : List Id) : List Id := headsF row is (row / 17 % 4).toNat
def mvF (row : Int) (is : List Id) (j : Nat) : Mv := (pickF (1 + 3 * (row / (37 * (j : Int) + 2))) is, pickF (1 + 3 * (row / (41 * (j : Int) + 3))) is, placeF (row / (43 * (j : Int) + 7)) is)
def editF (row : Int) (id : Id) (is : List Id) : Edit :=
  if row % 6 = 0 then .write id (placeF (row / 6) is) none none (headsA row is)
  else if row % 6 ≤ 3 ∨ is.length = 0 then .write id (placeF (row / 6) is) (some (row / 19 % 3, row / 19 % 3, row / 19 % 3 + 1, false)) (pickF (row / 29) is) (headsA row is)
  else if row % 6 = 4 then .drop id (headsA (row / 3) is)
  else .move id ((List.range (1 + row / 31 % 2).toNat).map (mvF row is))
def idAt (k : Nat) : Id := ((k : Int) / 2 + 1, (k : Int) % 2)
def idsTo (n : Nat) : List Id := (List.range n).map idAt
def editsF (rs : List Int) (n : Nat) : List Edit := (List.range n).map fun k => editF (rs.getD k 0) (idAt k) (idsTo k)
theorem pathF_len {row most : Int} (h : 1 ≤ most) : 1 ≤ (pathF row most).length ∧ ((pathF row most).length : Int) ≤ most := by
  unfold pathF
  rw [List.length_map, List.length_range]
  have h1 := Int.emod_nonneg (row / 5) (show most ≠ 0 by omega)
  have h2 := Int.emod_lt_of_pos (row / 5) (show 0 < most by omega)
  omega
theorem placeF_good (row : Int) (is : List Id) : GoodPl (placeF row is) := by
  have h1 := pathF_len (row := row / 13) (most := 2) (by decide)
  have h2 := pathF_len (row := row / 101) (most := 3) (by decide)
  show (1 ≤ (pathF (row / 13) 2).length ∧ (pathF (row / 13) 2).length ≤ 3) ∧ 1 ≤ (pathF (row / 101) 3).length ∧ (pathF (row / 101) 3).length ≤ 3
  omega
theorem headsF_len (row : Int) (is : List Id) : ∀ n, (headsF row is n).length ≤ n
  | 0 => Nat.le_refl 0
  | n + 1 => by
    have ih := headsF_len row is n
    have h : (pickF (row / (23 * (n : Int) + 5)) is).toList.length ≤ 1 := by cases pickF (row / (23 * (n : Int) + 5)) is <;> simp
    show (headsF row is n ++ _).length ≤ n + 1
    rw [List.length_append]
    omega
theorem headsA_len (row : Int) (is : List Id) : (headsA row is).length ≤ 3 := by
  have h1 := headsF_len row is (row / 17 % 4).toNat
  have h2 := mod_bd (row / 17) 4 (by decide)
  unfold headsA
  omega
theorem editF_good (row : Int) (id : Id) (is : List Id) : GoodEd (editF row id is) := by
  unfold editF
  split
  · exact ⟨placeF_good _ _, Nat.le_trans (headsA_len _ _) (by decide)⟩
  · split
    · exact ⟨placeF_good _ _, Nat.le_trans (headsA_len _ _) (by decide)⟩
    · split
      · trivial
      · intro m hm
        obtain ⟨j, _, rfl⟩ := List.mem_map.mp hm
        exact placeF_good _ _
theorem editF_id (row : Int) (id : Id) (is : List Id) : eId (editF row id is) = id := by
  unfold editF
  split
  · rfl
  · split
    · rfl
    · split <;> rfl
theorem idAt_inj {j k : Nat} (h : idAt j = idAt k) : j = k := by
  have h1 : (j : Int) / 2 + 1 = (k : Int) / 2 + 1 := congrArg Prod.fst h
  have h2 : (j : Int) % 2 = (k : Int) % 2 := congrArg Prod.snd h
  omega
/-- the drawn edits can be folded -/
theorem drawn_fold (rs : List Int) (n : Nat) (hn : n ≤ 400) : ∃ ls U, FoldR [] (editsF rs n) ls ∧ Ok ls U ∧ U.length = n ∧ ∀ x ∈ U, x ∈ idsTo n := by
  have hmap : (editsF rs n).map eId = idsTo n := by
    unfold editsF idsTo
    rw [List.map_map]
    exact List.map_congr_left fun k _ => editF_id _ _ _
  obtain ⟨ls, U, h1, h2, h3, h4⟩ := Ok.fold (editsF rs n) ok_nil (by unfold editsF; rw [List.length_map, List.length_range]; show 0 + n ≤ 400; omega) (by
    rw [hmap]
    unfold idsTo
    exact List.Pairwise.map _ (fun a b hab e => hab (idAt_inj e)) (List.nodup_range)) (fun e he => ⟨by simp, by
      obtain ⟨k, _, rfl⟩ := List.mem_map.mp he
      exact editF_good _ _ _⟩)
  refine ⟨ls, U, h1, h2, ?_, fun x hx => ?_⟩
  · rw [h3]
    unfold editsF
    rw [List.length_map, List.length_range]
    exact Nat.zero_add n
  · rcases h4 x hx with h | h
    · cases h
    · rw [hmap] at h
      exact h
/-! ### promises -/
/-- a row and a list of ids (the list itself may still change) -/
def SpI (K : PySem.W.Frag) (f : Int → List Id → PyData) : Sp := fun vs H Q _ => ∃ N row p xs is, vs = [.int row, .ref p] ∧ Live N H ∧ SqL K H p xs ∧ DpAll K (cutN N H) xs (is.map dId) ∧ is.length ≤ 1000 ∧ ∀ v H2, Ex H H2 → Dp K (cutN N H2) v (f row is) → Q v H2
theorem ed_callI {K : PySem.W.Frag} {N : Addr → Prop} {σ : L2.St} {H : Hp} {ta tb : TE} {E : XK} {f : Int → List Id → PyData} {row : Int} {p : Addr} {xs : List V} {is : List Id} (h1 : Ev ta σ H (.int row)) (h2 : Ev tb σ H (.ref p)) (hS : SqL K H p xs) (hD : DpAll K (cutN N H) xs (is.map dId)) (hl : is.length ≤ 1000) :
    EvD K N (tCall (SpI K f) [] E (tCons ta (tCons tb tNil))) σ H (f row is) := fun L H1 e Q q =>
  h1 H1 e _ fun H2 e2 => h2 H2 (e.trans e2) _ fun H3 e3 => ⟨N, row, p, xs, is, rfl, L.ex ((e.trans e2).trans e3), ex_l ((e.trans e2).trans e3) hS, DpAll.ex (cutN_ex ((e.trans e2).trans e3)) _ _ hD, hl, fun v H4 e4 hv => q v H4 ((e2.trans e3).trans e4) hv⟩
def sp_law_path (K : PySem.W.Frag) : Sp := fun vs H Q _ => ∃ (row : Int) (most : Nat), vs = [.int row, .int (most : Int)] ∧ 1 ≤ most ∧ most ≤ 100 ∧ RetU ((pathF row most).map V.str) H Q
abbrev sp_law_pick (K : PySem.W.Frag) : Sp := SpI K fun row is => dOp dId (pickF row is)
abbrev sp_law_place (K : PySem.W.Frag) : Sp := SpI K fun row is => dPl (placeF row is)
abbrev sp_law_heads (K : PySem.W.Frag) : Sp := SpI K fun row is => dIds (headsA row is)
theorem ed_ofU {K : PySem.W.Frag} {N : Addr → Prop} {σ : L2.St} {H : Hp} {te : TE} {ss : List Str} (h : EvU te σ H (ss.map V.str)) : EvD K N te σ H (dPath ss) := fun L H1 e Q q =>
  h H1 e _ fun p H2 hp e2 h2 => q _ H2 e2 (.tup (st_of (by rw [cutN_no ((L.ex e).off hp)]; exact h2)) (dp_strs ss))
theorem sp_pa {K : PySem.W.Frag} {H : Hp} {row : Int} {most : Nat} (h1 : 1 ≤ most) (h2 : most ≤ 100) : SpU (sp_law_path K) [.int row, .int (most : Int)] H ((pathF row most).map V.str) := fun H1 e Q q E => ⟨row, most, rfl, h1, h2, fun p H2 hp e2 h => q p H2 hp e2 h⟩
theorem idsTo_len (n : Nat) : (idsTo n).length = n := by unfold idsTo; rw [List.length_map, List.length_range]
theorem idsTo_up (n : Nat) : idsTo (n + 1) = idsTo n ++ [idAt n] := by unfold idsTo; rw [List.range_succ, List.map_append]; rfl
theorem editsF_up (rs : List Int) (n : Nat) : editsF rs (n + 1) = editsF rs n ++ [editF (rs.getD n 0) (idAt n) (idsTo n)] := by unfold editsF; rw [List.range_succ, List.map_append]; rfl
abbrev sp_law_rows := spRows
/-- a row, the edit's id, a list of ids -/
def sp_law_edit (K : PySem.W.Frag) : Sp := fun vs H Q _ => ∃ N row v1 p xs id is, vs = [.int row, v1, .ref p] ∧ Live N H ∧ Dp K (cutN N H) v1 (dId id) ∧ SqL K H p xs ∧ DpAll K (cutN N H) xs (is.map dId) ∧ is.length ≤ 1000 ∧ ∀ v H2, Ex H H2 → Dp K (cutN N H2) v (dEd (editF row id is)) → Q v H2
def sp_law_edits (K : PySem.W.Frag) : Sp := fun vs H Q _ => ∃ (a : Addr) (ns : List Int) (n : Nat), vs = [.ref a, .int (n : Int)] ∧ SqL K H a (ns.map V.int) ∧ ns.length ≤ 63 ∧ n ≤ 200 ∧ ∀ rs : List Int, rs.length = n → ∀ p H2, H p = none → Ex H H2 → Dp K H2 (.ref p) (.list ((editsF rs n).map dEd)) → Q (.ref p) H2
theorem ed_tupGrw {K : PySem.W.Frag} {N : Addr → Prop} {σ : L2.St} {H H' : Hp} {ta : TE} {p : Addr} {es : List PyData} (L : Live N H) (h : Grw K N H p es H') (ho : Ev ta σ H' (.ref p)) : EvD K N (tCB (rTup K) (tCons ta tNil)) σ H' (.tuple es) := fun _ H2 e2 Q q2 => by
  obtain ⟨g1, g2, acc, g3, g4⟩ := h
  refine (eu_tupOf (K := K) ho (sq_of g3)) H2 e2 _ fun pt H3 hpt e3 h3 => q2 _ H3 e3 (.tup (st_of (by rw [cutN_no ((L.ex (g2.trans e2)).off hpt)]; exact h3)) (DpAll.ex (fun c o hc => ?_) _ _ g4))
  by_cases n : plusN N p c
  · rw [cutN_yes n] at hc
    cases hc
  · rw [cutN_no n] at hc
    rw [cutN_no (fun z => n (.inl z))]
    exact e3 c o (e2 c o hc)
theorem cutN_off {N : Addr → Prop} {H : Hp} {p : Addr} {o : HO} (n : N p) : Ex (cutN N H) (cutN N (upd H p o)) := fun a u h => by
  by_cases m : N a
  · rw [cutN_yes m] at h
    cases h
  · rw [cutN_no m] at h ⊢
    rw [upd_ne (fun z => m (by rw [z]; exact n))]
    exact h
theorem s_appM {K : PySem.W.Frag} {M : Addr → Prop} {σ : L2.St} {H : Hp} {ta te : TE} {D : Ends} {l : Addr} {acc : List V} {d : PyData} (L : Live M H) (hM : M l) (hl : H l = some (.lst acc)) (ho : Ev ta σ H (.ref l)) (h : EvD K M te σ H d) (hz : acc.length < 90000)
    (k : ∀ v H1, Ex (cutN M H) (cutN M H1) → (∀ a o, a ≠ l → H a = some o → H1 a = some o) → H1 l = some (.lst (acc ++ [v])) → Dp K (cutN M H1) v d → D.nx σ H1) : tDrop (tBM K "list" rAppend ta (tCons te tNil)) D σ H :=
  ho H (Ex.refl H) _ fun H2 e2 => ⟨.inl ⟨rfl, acc, sq_of (e2 _ _ hl)⟩, h L H2 e2 _ fun v H3 e3 hv => ⟨l, acc, v, rfl, rfl, e3 _ _ (e2 _ _ hl), sz_lt (by omega),
    k v _ ((cutN_ex (e2.trans e3)).trans (cutN_off hM)) (fun a o ha hb => by rw [upd_ne ha]; exact (e2.trans e3) a o hb) upd_same (Dp.ex (cutN_off hM) _ _ hv)⟩⟩
theorem q_appM {K : PySem.W.Frag} {M : Addr → Prop} {σ : L2.St} {H : Hp} {ta te : TE} {D : Ends} {tz : TS} {l : Addr} {acc : List V} {d : PyData} (L : Live M H) (hM : M l) (hl : H l = some (.lst acc)) (ho : Ev ta σ H (.ref l)) (h : EvD K M te σ H d) (hz : acc.length < 90000)
    (k : ∀ v H1, Ex (cutN M H) (cutN M H1) → (∀ a o, a ≠ l → H a = some o → H1 a = some o) → H1 l = some (.lst (acc ++ [v])) → Dp K (cutN M H1) v d → tz D σ H1) : tSeq (tDrop (tBM K "list" rAppend ta (tCons te tNil))) tz D σ H := s_appM (D := { D with nx := tz D }) L hM hl ho h hz k
theorem ed_callE {K : PySem.W.Frag} {N : Addr → Prop} {σ : L2.St} {H : Hp} {ta tb tc : TE} {E : XK} {row : Int} {v1 : V} {id : Id} {p : Addr} {xs : List V} {is : List Id} (h1 : Ev ta σ H (.int row)) (h2 : Ev tb σ H v1) (hv : Dp K (cutN N H) v1 (dId id)) (h3 : Ev tc σ H (.ref p)) (hS : SqL K H p xs) (hD : DpAll K (cutN N H) xs (is.map dId)) (hl : is.length ≤ 1000) :
    EvD K N (tCall (sp_law_edit K) [] E (tCons ta (tCons tb (tCons tc tNil)))) σ H (dEd (editF row id is)) := fun L H1 e Q q =>
  h1 H1 e _ fun H2 e2 => h2 H2 (e.trans e2) _ fun H3 e3 => h3 H3 ((e.trans e2).trans e3) _ fun H4 e4 =>
    have e' := ((e.trans e2).trans e3).trans e4
    ⟨N, row, v1, p, xs, id, is, rfl, L.ex e', up e' hv, ex_l e' hS, DpAll.ex (cutN_ex e') _ _ hD, hl, fun v H5 e5 hv => q v H5 (((e2.trans e3).trans e4).trans e5) hv⟩
end Ln
/-! paths are kept when lines end -/
namespace Ln
open PySem L2 Lw
section
variable {ls : List Line} {U : List Id} {r : Id → Nat} {S : Id → List Id}
theorem flt_more {α : Type} {p q : α → Bool} : ∀ {l : List α}, (∀ x ∈ l, p x = true → q x = true) → ∀ f ∈ l, q f = true → p f = false → (l.filter p).length + 1 ≤ (l.filter q).length
  | [], _, f, hf, _, _ => by cases hf
  | x :: l, h, f, hf, h1, h2 => by
    have hle : ∀ {l : List α}, (∀ x ∈ l, p x = true → q x = true) → (l.filter p).length ≤ (l.filter q).length := by
      intro l
      induction l with
      | nil => intro _; exact Nat.le_refl _
      | cons y l ih =>
        intro h
        have ih := ih fun z hz => h z (List.mem_cons_of_mem _ hz)
        cases hp : p y with
        | true =>
          rw [List.filter_cons_of_pos hp, List.filter_cons_of_pos (h y (List.mem_cons_self ..) hp), List.length_cons, List.length_cons]
          omega
        | false =>
          rw [List.filter_cons_of_neg (by rw [hp]; decide), List.filter_cons]
          split
          · rw [List.length_cons]
            omega
          · exact ih
    rcases List.mem_cons.mp hf with rfl | hf
    · rw [List.filter_cons_of_neg (by rw [h2]; decide), List.filter_cons_of_pos h1, List.length_cons]
      have := hle fun z hz => h z (List.mem_cons_of_mem _ hz)
      omega
    · have ih := flt_more (fun z hz => h z (List.mem_cons_of_mem _ hz)) f hf h1 h2
      cases hp : p x with
      | true =>
        rw [List.filter_cons_of_pos hp, List.filter_cons_of_pos (h x (List.mem_cons_self ..) hp), List.length_cons, List.length_cons]
        omega
      | false =>
        rw [List.filter_cons_of_neg (by rw [hp]; decide), List.filter_cons]
        split
        · rw [List.length_cons]
          omega
        · exact ih
/-- one goes up at most once to each line -/
theorem OkW.high (h : OkW ls U r S) {n : Nat} {o : Option Id} {p q : List Str} (hs : Std ls n o p q) : ∀ k : Nat, (∀ i, o = some i → r i < k) → n ≤ (ls.filter fun l => decide (r l.id < k)).length := by
  induction hs with
  | root p => intro k _; exact Nat.zero_le _
  | @up i f n p q hf hs ih =>
    intro k hk
    obtain ⟨h1, h2⟩ := find_mem hf
    have h3 : i = f.id := Option.some.inj h2
    have hk' := hk i rfl
    rw [h3] at hk'
    have h4 := ih (r f.id) fun j hj => by
      obtain ⟨g, _, rfl, _, hlt⟩ := h.up f h1 j hj
      exact hlt
    have h5 := flt_more (p := fun l : Line => decide (r l.id < r f.id)) (q := fun l : Line => decide (r l.id < k)) (l := ls) (fun x _ hx => by
      have := of_decide_eq_true hx
      exact decide_eq_true (by omega)) f h1 (decide_eq_true hk') (decide_eq_false (by omega))
    omega
theorem OkW.high_len (h : OkW ls U r S) {n : Nat} {o : Option Id} {p q : List Str} (hs : Std ls n o p q) : n ≤ ls.length := by
  have h1 : n ≤ (ls.filter fun l => decide (r l.id < upR r o)).length := h.high hs (upR r o) fun i hi => by
    rw [hi]
    exact Nat.lt_succ_self _
  exact Nat.le_trans h1 (List.length_filter_le _ _)
/-- where one stands when e ends -/
theorem std_wo (h : OkW ls U r S) {e : Line} (he : e ∈ ls) {n : Nat} {o : Option Id} {p q : List Str} (hs : Std ls n o p q) : ∃ m, Std (woLine ls e) m (if o = some e.id then e.ins else o) (if o = some e.id then e.path ++ p else p) q := by
  obtain ⟨S', h'⟩ := h.wo he
  induction hs with
  | root p => exact ⟨0, .root p⟩
  | @up i f n p q hf hs ih =>
    obtain ⟨h1, h2⟩ := find_mem hf
    have h3 : i = f.id := Option.some.inj h2
    subst h3
    obtain ⟨m, ih⟩ := ih
    by_cases hi : f.id = e.id
    · have hfe := nodup_inj h.nd f h1 e he hi
      subst hfe
      rw [if_pos rfl, if_pos rfl]
      rw [if_neg (h.not_self h1), if_neg (h.not_self h1)] at ih
      exact ⟨m, ih⟩
    · rw [if_neg (fun z => hi (Option.some.inj z)), if_neg (fun z => hi (Option.some.inj z))]
      by_cases hfe : f.ins = some e.id
      · rw [if_pos hfe, if_pos hfe] at ih
        have hm : ({ f with ins := e.ins, path := e.path ++ f.path } : Line) ∈ woLine ls e := mem_wo.mpr ⟨f, h1, .inl ⟨hfe, rfl⟩⟩
        exact ⟨m + 1, Std.up (f := ({ f with ins := e.ins, path := e.path ++ f.path } : Line)) (h'.find hm) (by rw [← List.append_assoc] at ih; exact ih)⟩
      · rw [if_neg hfe, if_neg hfe] at ih
        have hm : f ∈ woLine ls e := mem_wo.mpr ⟨f, h1, .inr ⟨hfe, hi, rfl⟩⟩
        exact ⟨m + 1, .up (h'.find hm) ih⟩
/-- the standing paths, by ids -/
def Stands (ls : List Line) (sp : Id → List Str) : Prop := ∀ l ∈ ls, ∃ n, Std ls n l.ins l.path (sp l.id)
theorem OkW.stands (h : OkW ls U r S) : ∃ sp, Stands ls sp := by
  classical
  refine ⟨fun i => if hx : ∃ q n l, l ∈ ls ∧ l.id = i ∧ Std ls n l.ins l.path q then hx.choose else [], fun l hl => ?_⟩
  obtain ⟨n, q, hs⟩ := h.std_any l.path (h.ins hl)
  have hx : ∃ q n m, m ∈ ls ∧ m.id = l.id ∧ Std ls n m.ins m.path q := ⟨_, n, l, hl, rfl, hs⟩
  show ∃ n, Std ls n l.ins l.path (if hx : ∃ q n m, m ∈ ls ∧ m.id = l.id ∧ Std ls n m.ins m.path q then hx.choose else [])
  rw [dif_pos hx]
  obtain ⟨k, m, hm, hi, hk⟩ := hx.choose_spec
  rw [nodup_inj h.nd m hm l hl hi] at hk
  exact ⟨k, hk⟩
theorem Stands.wo (h : OkW ls U r S) {e : Line} (he : e ∈ ls) {sp : Id → List Str} (hs : Stands ls sp) : Stands (woLine ls e) sp := fun k hk => by
  obtain ⟨l, hl, ⟨h1, rfl⟩ | ⟨h1, h2, rfl⟩⟩ := mem_wo.mp hk
  · obtain ⟨n, hn⟩ := hs l hl
    obtain ⟨m, hm⟩ := std_wo h he hn
    rw [if_pos h1, if_pos h1] at hm
    exact ⟨m, hm⟩
  · obtain ⟨n, hn⟩ := hs k hl
    obtain ⟨m, hm⟩ := std_wo h he hn
    rw [if_neg h1, if_neg h1] at hm
    exact ⟨m, hm⟩
/-- what a drop of heads leaves: the lines without these heads, each with what f asks of it -/
theorem heads_map {β : Type} (f : Line → β) (hf : ∀ (l : Line) (o : Option Id) (p : List Str), f { l with ins := o, path := p } = f l) {sp : Id → List Str} : ∀ (hs : List Id) {ls : List Line}, Ok ls U → Stands ls sp →
    (woHeads ls hs).map f = (ls.filter fun l => !decide (l.hd ∈ hs)).map f ∧ Stands (woHeads ls hs) sp
  | [], ls, _, hS => ⟨by
    show ls.map f = _
    rw [List.filter_eq_self.mpr fun l _ => by simp], hS⟩
  | x :: hs, ls, hO, hS => by
    obtain ⟨r, S, h⟩ := id hO
    show (woHeads (woHead ls x) hs).map f = _ ∧ Stands (woHeads (woHead ls x) hs) sp
    unfold woHead
    cases hx : findHead ls (some x) with
    | none =>
      obtain ⟨i1, i2⟩ := heads_map f hf hs hO hS
      refine ⟨i1.trans (congrArg (List.map f) (List.filter_congr fun l hl => ?_)), i2⟩
      have hne : l.hd ≠ x := fun e => by
        unfold findHead at hx
        have := List.find?_eq_none.mp hx l hl
        rw [e] at this
        simp at this
      simp [hne]
    | some e =>
      obtain ⟨he, h2⟩ := findH_mem hx
      have h3 : x = e.hd := Option.some.inj h2
      obtain ⟨S', h'⟩ := h.wo he
      obtain ⟨i1, i2⟩ := heads_map f hf hs ⟨r, S', h'⟩ (hS.wo h he)
      refine ⟨i1.trans ?_, i2⟩
      have hns : ∀ l ∈ ls, l.ins = some e.id → l.id ≠ e.id := fun l hl h1 h2 => by
        rw [nodup_inj h.nd l hl e he h2] at h1
        exact h.not_self he h1
      -- the heads of what is left are old heads
      have key := wo_map (ls := ls) (fun l => (f l, l.hd)) e (fun l o p => by rw [hf]) hns
      have g : ∀ m : List Line, (m.filter fun l => !decide (l.hd ∈ hs)).map f = ((m.map fun l => (f l, l.hd)).filter fun b => !decide (b.2 ∈ hs)).map Prod.fst := fun m => by
        rw [List.filter_map, List.map_map]
        rfl
      rw [g, key, ← g, List.filter_filter]
      refine congrArg (List.map f) (List.filter_congr fun l hl => ?_)
      have e1 : decide (l.id = e.id) = decide (l.hd = x) := decide_eq_decide.mpr ⟨fun z => by rw [nodup_inj h.nd l hl e he z, h3], fun z => by rw [nodup_inj h.hnd l hl e he (z.trans h3)]⟩
      rw [e1]
      by_cases z : l.hd = x
      · simp [z]
      · simp [z]
theorem std_short (h : OkW ls U r S) (hU : U.length ≤ 200) {n : Nat} {o : Option Id} {p q : List Str} (hs : Std ls n o p q) : q.length ≤ n * 1000 + p.length := by
  induction hs with
  | root p => omega
  | up hf hs ih =>
    rw [List.length_append] at ih
    have h1 := nodup_sub (h.snd _ (find_mem hf).1) fun x hx => (h.gone _ (find_mem hf).1 x hx).1
    have h2 := (h.len _ (find_mem hf).1).2
    omega
end
def pPathOf : List PyData → PyData → Prop := fun ds d => ∃ ls l n q, ds = [dLs ls, dLn l] ∧ Std ls n l.ins l.path q ∧ n ≤ ls.length ∧ ls.length ≤ 1000 ∧ q.length ≤ 90000 ∧ d = dPath q
def dRow (sp : Id → List Str) (l : Line) : PyData := .tuple [dId l.id, dId l.hd, dOp dCt l.ct, dPath (sp l.id)]
def pPaths : List PyData → PyData → Prop := fun ds d => ∃ ls sp, ds = [dLs ls] ∧ Stands ls sp ∧ ls.length ≤ 1000 ∧ (∀ l ∈ ls, (sp l.id).length ≤ 90000) ∧ d = .list (ls.map (dRow sp))
abbrev sp_law_path_of (K : PySem.W.Frag) : Sp := SpD K pPathOf
abbrev sp_law_paths (K : PySem.W.Frag) : Sp := SpD K pPaths
end Ln
/-! objects made with defaults, by keywords -/
namespace Pw
open PySem PySem.Spec PyProof.Rows L2 Evl Lw
section
variable {K : PySem.W.Frag} {cl : Cl} {te ta tv : TE} {pe pa pv : PEx}
theorem rel_take {ρ : List Addr} {H : Hp} : ∀ (n : Nat) {ds : List D} {vs : List V}, RelAll K cl ρ H ds vs → RelAll K cl ρ H (ds.take n) (vs.take n)
  | 0, _, _, _ => by rw [List.take_zero, List.take_zero]; exact .nil
  | _ + 1, [], [], _ => by rw [List.take_nil, List.take_nil]; exact .nil
  | n + 1, _ :: _, _ :: _, .cons h r => by rw [List.take_succ_cons, List.take_succ_cons]; exact .cons h (rel_take n r)
theorem rel_drop {ρ : List Addr} {H : Hp} : ∀ (n : Nat) {ds : List D} {vs : List V}, RelAll K cl ρ H ds vs → RelAll K cl ρ H (ds.drop n) (vs.drop n)
  | 0, _, _, h => h
  | _ + 1, [], [], _ => by rw [List.drop_nil, List.drop_nil]; exact .nil
  | n + 1, _ :: _, _ :: _, .cons h r => by rw [List.drop_succ_cons, List.drop_succ_cons]; exact rel_drop n r
/-- defaults: what they are wherever -/
def Dfl (K : PySem.W.Frag) (cl : Cl) (d : D) (v : V) : Prop := ∀ (ρ : List Addr) (H : Hp), RelD K cl ρ H d v
theorem dfl_tup {t : Addr} {od : Option Addr} {n : Nat} {sl : Array (Option Value)} (h : K.lookup t = some ⟨.type "tuple", od, .seq #[] n, sl⟩) : Dfl K cl (.tup []) (.ref t) := fun ρ H => .tup (.inr ⟨_, _, _, h, rfl, rfl, by show 0 ≤ _; omega, .nil⟩) .nil
theorem dfl_tup1 {t : Addr} {od : Option Addr} {n : Nat} {sl : Array (Option Value)} {x : Str} {tk : Tok} (h : K.lookup t = some ⟨.type "tuple", od, .seq #[.str x tk] n, sl⟩) : Dfl K cl (.tup [.str x]) (.ref t) := fun ρ H => .tup (vs := [.str x]) (.inr ⟨_, _, _, h, rfl, rfl, by show 1 ≤ _; decide, .cons ⟨_, rfl⟩ .nil⟩) (.cons (.str _) .nil)
def makekA (c : Nat) (R : SFn) (S : Sto) (A : List D) (k : D → Sto → Prop) : Prop := R A (S ++ [.obj c [] []]) fun d S' => d = .non ∧ ((∃ ks fs, S' = S ++ [.obj c ks fs] ∧ noRefs fs = true ∧ k (.obj c ks fs) S) ∨ k (.ref S.length) S')
theorem make_runA {c : Nat} {R : SFn} {M : Addr → Prop} {ρ1 : List Addr} {S1 : Sto} {H1 : Hp} {A : List D} {VA : List V} {k : D → Sto → Prop} {Q : VK} {E : XK} (g1 : G K cl M ρ1 S1 H1) (h : makekA c R S1 A k)
    (q : ∀ ρ' H' S' d v, Stp M ρ1 H1 ρ' H' → G K cl M ρ' S' H' → RelD K cl ρ' (cut (NM M ρ') H') d v → k d S' → Q v H') (x dx : Addr) (r1 : ∀ (ρ2 : List Addr) (H2 : Hp), Stp M ρ1 H1 ρ2 H2 → ρ2[S1.length]? = some x → RelAll K cl ρ2 (cut (NM M ρ2) H2) A VA) (hx : H1 x = none) (hdx : H1 dx = none) (hne : dx ≠ x) :
    spS K cl R VA (upd (upd H1 dx (.own x)) x (.ins (cl c) dx [])) (fun v H2 => v = .non ∧ Q (.ref x) H2) E := by
  unfold makekA at h
  obtain ⟨g2, s2, _⟩ := g1.new (.own x) hdx
  have hx2 : upd H1 dx (.own x) x = none := by rw [upd_ne (Ne.symm hne)]; exact hx
  obtain ⟨g3, s3⟩ := g2.alloc (o := .ins (cl c) dx []) (so := .obj c [] []) hx2 (.obj (fs := []) rfl .nil)
  have s23 := s2.trans s3
  have hself : (ρ1 ++ [x])[S1.length]? = some x := by rw [← g1.len, List.getElem?_append_right (Nat.le_refl _), Nat.sub_self]; rfl
  refine ⟨M, ρ1 ++ [x], S1 ++ [.obj c [] []], A, _, g3, r1 _ _ s23 hself, h, fun ρ' H' S' d v s4 g4 rd ⟨hd, alt⟩ => ?_⟩
  subst hd
  cases rd
  refine ⟨rfl, ?_⟩
  have s24 := s23.trans s4
  rcases alt with ⟨ks, fs, hS, hn, hk⟩ | hk
  · subst hS
    obtain ⟨t, ht⟩ := s4.pre
    have hlen := g4.len
    rw [← ht, List.length_append, List.length_append, List.length_append, g1.len] at hlen
    have : t = [] := List.length_eq_zero_iff.mp (by have : [x].length = 1 := rfl; have : [SO.obj c ks fs].length = 1 := rfl; omega)
    subst this
    rw [List.append_nil] at ht
    subst ht
    have g5 := G.pop g1 g4
    obtain ⟨u, hu, r⟩ := g4.sto S1.length (.obj c ks fs) x (by rw [List.getElem?_append_right (Nat.le_refl _), Nat.sub_self]; rfl) hself
    have hxn : ¬ NM M ρ1 x := g1.off hx
    have s5 : Stp M ρ1 H1 ρ1 H' := ⟨List.prefix_refl _, s24.ex.trans (exPre (List.prefix_append _ _)), s24.keep⟩
    cases r with
    | @obj _ dx' fs' _ _ hk2 ra =>
      refine q ρ1 H' S1 _ _ s5 g5 (.obj (dx := dx') (fs := fs') ?_ hk2 ((ra.up (List.prefix_refl _) (exPre (List.prefix_append _ _)) _ _).drop _ _ hn)) hk
      rw [cut_no hxn]
      exact hu
  · exact q ρ' H' S' _ _ s24 g4 (.ref (pre_get s4.pre hself)) hk
/-- .. by keywords: gD puts the values in their places -/
def pMakeK (c n m : Nat) (gD : List D → List D → List D) (R : SFn) (pa pk : PAx) : PEx := fun env S k => pa env S fun ds S1 => pk env S1 fun es S2 => ds.length = n ∧ es.length = m ∧ makekA c R S2 (gD (.ref S2.length :: ds) es) k
theorem sm_makeK {c n m : Nat} {R : SFn} {gD : List D → List D → List D} {gV : List V → List V → List V} {tr tk : TA} {pr pk : PAx} {E : XK} (hg : ∀ (ρ : List Addr) (H : Hp) (ds : List D) (vs : List V) (es : List D) (zs : List V), RelAll K cl ρ H ds vs → RelAll K cl ρ H es zs → RelAll K cl ρ H (gD ds es) (gV vs zs))
    (ha : SmA K cl tr pr) (hk : SmA K cl tk pk) : SmE K cl (tMakeK (cl c) n m (spS K cl R) gV E tr tk) (pMakeK c n m gD R pr pk) := fun M ρ S H env σ g re k Q h q =>
  ha M ρ S H env σ g re _ _ h fun ρ1 H1 S1 ds vs s1 g1 r1 h1 => hk M ρ1 S1 H1 env σ g1 (re.up s1) _ _ h1 fun ρ2 H2 S2 es zs s2 g2 r2 ⟨l1, l2, h2⟩ => by
    have r1' := r1.up s2.pre s2.ex
    refine ⟨by rw [← l1]; exact r1.len, by rw [← l2]; exact r2.len, fun x dx hx hdx hne => ?_⟩
    exact make_runA g2 h2 (fun ρ' H' S' d v s g' rd hk => q ρ' H' S' d v ((s1.trans s2).trans s) g' rd hk) x dx (fun ρ3 H3 s3 hs => hg _ _ _ _ _ _ (.cons (.ref hs) ((r1.up s2.pre s2.ex _ _).up s3.pre s3.ex _ _)) (r2.up s3.pre s3.ex _ _)) hx hdx hne
/-- .. with defaults behind the values -/
def pMakeD (c : Nat) (dD : List D) (R : SFn) (pa : PAx) : PEx := fun env S k => pa env S fun ds S1 => makekA c R S1 (.ref S1.length :: (ds ++ dD)) k
theorem sm_makeD {c : Nat} {R : SFn} {dD : List D} {dvs : List V} {tr : TA} {pr : PAx} {E : XK} (hd : ∀ (ρ : List Addr) (H : Hp), RelAll K cl ρ H dD dvs) (ha : SmA K cl tr pr) : SmE K cl (tMake (cl c) (spS K cl R) dvs E tr) (pMakeD c dD R pr) := fun M ρ S H env σ g re k Q h q =>
  ha M ρ S H env σ g re _ _ h fun ρ1 H1 S1 ds vs s1 g1 r1 h1 => by
    intro x dx hx hdx hne
    exact make_runA g1 h1 (fun ρ' H' S' d v s g' rd hk => q ρ' H' S' d v (s1.trans s) g' rd hk) x dx (fun ρ3 H3 s3 hs => .cons (.ref hs) ((r1.up s3.pre s3.ex _ _).app (hd _ _))) hx hdx hne
end
end Pw
/-! lines and edits as data D -/
namespace Le
open PySem PySem.Spec PyProof.Rows L2 Evl Lw Ln Pw
def eId (i : Id) : D := .tup [.int i.1, .int i.2]
def eOp {α : Type} (f : α → D) : Option α → D
  | none => .non
  | some a => f a
def ePath (p : List Str) : D := .tup (p.map D.str)
def eCt (c : Ct) : D := .tup [.int c.1, .int c.2.1, .int c.2.2.1, .bl c.2.2.2]
def eLn (l : Line) : D := .tup [eId l.id, eId l.hd, eOp eId l.ins, ePath l.path, eOp eCt l.ct]
def eLs (ls : List Line) : D := .lst (ls.map eLn)
def eIds (is : List Id) : D := .tup (is.map eId)
def ePl (p : Ln.Place) : D := .tup [eOp eId p.1, ePath p.2.1, ePath p.2.2]
def eMv (m : Mv) : D := .tup [eOp eId m.1, eOp eId m.2.1, ePl m.2.2]
def eEd : Edit → D
  | .write id pl ct meant heads => .tup [.str (Str.ofString "write"), eId id, ePl pl, eOp eCt ct, eOp eId meant, eIds heads]
  | .drop id heads => .tup [.str (Str.ofString "drop"), eId id, eIds heads]
  | .move id ms => .tup [.str (Str.ofString "move"), eId id, .tup (ms.map eMv)]
theorem py_map {α : Type} {f : α → D} {g : α → PyData} (h : ∀ a, (f a).py = g a) : ∀ l : List α, pyAll (l.map f) = l.map g
  | [] => rfl
  | a :: l => by rw [List.map_cons, List.map_cons, pyAll, h a, py_map h l]
theorem py_id (i : Id) : (eId i).py = dId i := rfl
theorem py_oid (o : Option Id) : (eOp eId o).py = dOp dId o := by cases o <;> rfl
theorem py_oct (o : Option Ct) : (eOp eCt o).py = dOp dCt o := by cases o <;> rfl
theorem py_path (p : List Str) : (ePath p).py = dPath p := by
  show PyData.tuple (pyAll (p.map D.str)) = _
  rw [py_map (g := PyData.str) (fun _ => rfl)]
  rfl
theorem py_ln (l : Line) : (eLn l).py = dLn l := by
  show PyData.tuple [(eId l.id).py, (eId l.hd).py, (eOp eId l.ins).py, (ePath l.path).py, (eOp eCt l.ct).py] = _
  rw [py_id, py_id, py_oid, py_path, py_oct]
  rfl
theorem py_ls (ls : List Line) : (eLs ls).py = dLs ls := by
  show PyData.list (pyAll (ls.map eLn)) = _
  rw [py_map py_ln]
  rfl
theorem pureAll_map {α : Type} {f : α → D} (h : ∀ a, (f a).pure = true) : ∀ l : List α, pureAll (l.map f) = true
  | [] => rfl
  | a :: l => by rw [List.map_cons, pureAll, h a, pureAll_map h l]; rfl
theorem pu_id (i : Id) : (eId i).pure = true := rfl
theorem pu_oid (o : Option Id) : (eOp eId o).pure = true := by cases o <;> rfl
theorem pu_oct (o : Option Ct) : (eOp eCt o).pure = true := by cases o <;> rfl
theorem pu_path (p : List Str) : (ePath p).pure = true := pureAll_map (fun _ => rfl) p
theorem pu_ln (l : Line) : (eLn l).pure = true := by
  show pureAll [eId l.id, eId l.hd, eOp eId l.ins, ePath l.path, eOp eCt l.ct] = true
  simp [pureAll, pu_id, pu_oid, pu_path, pu_oct]
theorem pu_ls (ls : List Line) : (eLs ls).pure = true := pureAll_map pu_ln ls
theorem pu_lsl (ls : List Line) : (D.lst (ls.map eLn)).pure = true := pu_ls ls
theorem pu_ids (is : List Id) : pureAll (is.map eId) = true := pureAll_map pu_id is
theorem de_id (i : Id) : (eId i).dep ≤ 60 := Nat.le_trans (dp_id i) (by decide)
theorem de_oid (o : Option Id) : (eOp eId o).dep ≤ 60 := by
  show (eOp eId o).py.depth ≤ 60
  rw [py_oid]
  exact Nat.le_trans (dp_oid o) (by decide)
theorem de_path (p : List Str) : (ePath p).dep ≤ 60 := by
  show (ePath p).py.depth ≤ 60
  rw [py_path]
  exact Nat.le_trans (dp_path p) (by decide)
theorem de_ln (l : Line) : (eLn l).dep ≤ 60 := by
  show (eLn l).py.depth ≤ 60
  rw [py_ln]
  exact Nat.le_trans (dp_ln l) (by decide)
theorem de_ls (ls : List Line) : (eLs ls).dep ≤ 60 := by
  show (eLs ls).py.depth ≤ 60
  rw [py_ls]
  exact Nat.le_trans (dp_ls ls) (by decide)
theorem ev_id (a b : Id) : D.eqv (eId a) (eId b) = decide (a = b) := eqv_id a b
theorem ev_oid (a b : Option Id) : D.eqv (eOp eId a) (eOp eId b) = decide (a = b) := by
  unfold D.eqv
  rw [py_oid, py_oid, eqv_oid]
theorem ev_ido (a : Id) (b : Option Id) : D.eqv (eId a) (eOp eId b) = decide (some a = b) := ev_oid (some a) b
theorem ev_oi (a : Option Id) (b : Id) : D.eqv (eOp eId a) (eId b) = decide (a = some b) := ev_oid a (some b)
theorem ev_path (a b : List Str) : D.eqv (ePath a) (ePath b) = decide (a = b) := by
  unfold D.eqv
  rw [py_path, py_path, eqv_path]
theorem ev_oct (a b : Option Ct) : D.eqv (eOp eCt a) (eOp eCt b) = decide (a = b) := by
  unfold D.eqv
  rw [py_oct, py_oct, eqv_oct]
theorem ev_ln (a b : Line) : D.eqv (eLn a) (eLn b) = decide (a = b) := by
  unfold D.eqv
  rw [py_ln, py_ln, eqv_ln]
theorem ev_ls (a b : List Line) : D.eqv (eLs a) (eLs b) = decide (a = b) := by
  unfold D.eqv
  rw [py_ls, py_ls, eqv_ls]
theorem ev_lsl (a b : List Line) : D.eqv (.lst (a.map eLn)) (.lst (b.map eLn)) = decide (a = b) := ev_ls a b
theorem any_eid (i : Id) (is : List Id) : ((is.map eId).any fun z => D.eqv z (eId i)) = decide (i ∈ is) := by
  induction is with
  | nil => rfl
  | cons a is ih =>
    rw [List.map_cons, List.any_cons, ih, ev_id]
    simp [Bool.eq_iff_iff, eq_comm]
theorem non_oid (o : Option Id) : isNon (eOp eId o) = o.isNone := by cases o <;> rfl
theorem non_oln (o : Option Line) : isNon (eOp eLn o) = o.isNone := by cases o <;> rfl
theorem non_oct (o : Option Ct) : isNon (eOp eCt o) = o.isNone := by cases o <;> rfl
/-! ### what the operations make of them -/
section
variable {S : Sto} {k : D → Prop}
theorem ln0 {l : Line} : ixk S (eLn l) (.int 0) k = k (eId l.id) := by unfold eLn; rw [ixk_tup, at0]; simp
theorem ln1 {l : Line} : ixk S (eLn l) (.int 1) k = k (eId l.hd) := by unfold eLn; rw [ixk_tup, at1]; simp
theorem ln2 {l : Line} : ixk S (eLn l) (.int 2) k = k (eOp eId l.ins) := by unfold eLn; rw [ixk_tup, at2]; simp
theorem ln3 {l : Line} : ixk S (eLn l) (.int 3) k = k (ePath l.path) := by unfold eLn; rw [ixk_tup, at3]; simp
theorem ln4 {l : Line} : ixk S (eLn l) (.int 4) k = k (eOp eCt l.ct) := by unfold eLn; rw [ixk_tup, at4]; simp
theorem lnS0 {l : Line} : ixk S (eOp eLn (some l)) (.int 0) k = k (eId l.id) := ln0
theorem lnS2 {l : Line} : ixk S (eOp eLn (some l)) (.int 2) k = k (eOp eId l.ins) := ln2
theorem lnS4 {l : Line} : ixk S (eOp eLn (some l)) (.int 4) k = k (eOp eCt l.ct) := ln4
theorem q_id {a b : Id} : Pw.eqk S (eId a) (eId b) k = k (.bl (decide (a = b))) := by rw [eqk_pure (pu_id a) (pu_id b) (de_id a), ev_id]
theorem q_ido {a : Id} {b : Option Id} : Pw.eqk S (eId a) (eOp eId b) k = k (.bl (decide (some a = b))) := by rw [eqk_pure (pu_id a) (pu_oid b) (de_id a), ev_ido]
theorem q_oi {a : Option Id} {b : Id} : Pw.eqk S (eOp eId a) (eId b) k = k (.bl (decide (a = some b))) := by rw [eqk_pure (pu_oid a) (pu_id b) (de_oid a), ev_oi]
theorem q_oid {a b : Option Id} : Pw.eqk S (eOp eId a) (eOp eId b) k = k (.bl (decide (a = b))) := by rw [eqk_pure (pu_oid a) (pu_oid b) (de_oid a), ev_oid]
theorem q_path {a b : List Str} : Pw.eqk S (ePath a) (ePath b) k = k (.bl (decide (a = b))) := by rw [eqk_pure (pu_path a) (pu_path b) (de_path a), ev_path]
theorem q_ln {a b : Line} : Pw.eqk S (eLn a) (eLn b) k = k (.bl (decide (a = b))) := by rw [eqk_pure (pu_ln a) (pu_ln b) (de_ln a), ev_ln]
theorem q_ls {a b : List Line} : Pw.eqk S (eLs a) (eLs b) k = k (.bl (decide (a = b))) := by rw [eqk_pure (pu_ls a) (pu_ls b) (de_ls a), ev_ls]
theorem n_id {a b : Id} : nek S (eId a) (eId b) k = k (.bl (!decide (a = b))) := by rw [nek_pure (pu_id a) (pu_id b) (de_id a), ev_id]
theorem n_path {a b : List Str} : nek S (ePath a) (ePath b) k = k (.bl (!decide (a = b))) := by rw [nek_pure (pu_path a) (pu_path b) (de_path a), ev_path]
theorem n_ln {a b : Line} : nek S (eLn a) (eLn b) k = k (.bl (!decide (a = b))) := by rw [nek_pure (pu_ln a) (pu_ln b) (de_ln a), ev_ln]
theorem n_ls {a b : List Line} : nek S (eLs a) (eLs b) k = k (.bl (!decide (a = b))) := by rw [nek_pure (pu_ls a) (pu_ls b) (de_ls a), ev_ls]
theorem i_id {o : Option Id} : isk S (eOp eId o) .non k = k (.bl o.isNone) := by
  show (D.non = .non ∧ k (.bl (isNon (eOp eId o)))) = _
  rw [non_oid]; simp
theorem i_ln {o : Option Line} : isk S (eOp eLn o) .non k = k (.bl o.isNone) := by
  show (D.non = .non ∧ k (.bl (isNon (eOp eLn o)))) = _
  rw [non_oln]; simp
theorem i_ct {o : Option Ct} : isk S (eOp eCt o) .non k = k (.bl o.isNone) := by
  show (D.non = .non ∧ k (.bl (isNon (eOp eCt o)))) = _
  rw [non_oct]; simp
theorem j_id {o : Option Id} : nsk S (eOp eId o) .non k = k (.bl !o.isNone) := by
  show (D.non = .non ∧ k (.bl !(isNon (eOp eId o)))) = _
  rw [non_oid]; simp
theorem j_ln {o : Option Line} : nsk S (eOp eLn o) .non k = k (.bl !o.isNone) := by
  show (D.non = .non ∧ k (.bl !(isNon (eOp eLn o)))) = _
  rw [non_oln]; simp
theorem j_ct {o : Option Ct} : nsk S (eOp eCt o) .non k = k (.bl !o.isNone) := by
  show (D.non = .non ∧ k (.bl !(isNon (eOp eCt o)))) = _
  rw [non_oct]; simp
theorem ad_path {a b : List Str} : addk S (ePath a) (ePath b) k = (a.length + b.length ≤ 100000 ∧ k (ePath (a ++ b))) := by
  show ((a.map D.str).length + (b.map D.str).length ≤ 100000 ∧ k (.tup (a.map D.str ++ b.map D.str))) = _
  rw [List.length_map, List.length_map, ← List.map_append]
  rfl
theorem in_ids {a : Id} {is : List Id} : ink S (eId a) (eIds is) k = k (.bl (decide (a ∈ is))) := by
  show (∃ es, itemsOf S (eIds is) = some es ∧ pureAll es = true ∧ (eId a).pure = true ∧ (eId a).dep ≤ 60 ∧ k (.bl (es.any fun z => D.eqv z (eId a)))) = _
  simp only [eIds, itemsOf, Option.some.injEq, exists_eq_left', pu_ids, pu_id, de_id, true_and, any_eid]
/-- a line taken apart -/
theorem un_ln {l : Line} {env : Pw.Env} {S : Sto} {k : Pw.Env → Sto → Prop} {gs : PGsx} : pgTup 5 gs (eLn l) env S k = gs [eId l.id, eId l.hd, eOp eId l.ins, ePath l.path, eOp eCt l.ct] env S k := by
  show (5 = 5 ∧ _) = _
  simp
theorem un_pl {p : Ln.Place} {env : Pw.Env} {S : Sto} {k : Pw.Env → Sto → Prop} {gs : PGsx} : pgTup 3 gs (ePl p) env S k = gs [eOp eId p.1, ePath p.2.1, ePath p.2.2] env S k := by
  show (3 = 3 ∧ _) = _
  simp
theorem call_of {F : PFn} {S : Sto} {ds : List D} {k : D → Prop} (hp : pureAll ds = true) (h : F ds k) : callk F S ds k := by
  have hr : ∀ es : List D, pureAll es = true → es.map (rs S) = es ∧ noRefs es = true := by
    intro es
    induction es with
    | nil => exact fun _ => ⟨rfl, rfl⟩
    | cons e es ih =>
      intro h
      have h' : e.pure = true ∧ pureAll es = true := by simpa [pureAll] using h
      obtain ⟨h1, h2⟩ := ih h'.2
      rw [List.map_cons, rs_pure h'.1, h1, noRefs, pure_noRef e h'.1, h2]
      exact ⟨rfl, rfl⟩
  obtain ⟨h1, h2⟩ := hr ds hp
  unfold callk
  rw [h1, h2]
  refine ⟨rfl, ?_⟩
  have : (fun d : D => (true = true ∨ d.noLst = true) ∧ k d) = k := by
    funext d
    simp
  rw [this]
  exact h
end
theorem eOp_s {α : Type} {f : α → D} {a : α} : eOp f (some a) = f a := rfl
theorem eOp_n {α : Type} {f : α → D} : eOp f none = .non := rfl
theorem pu_oln (o : Option Line) : (eOp eLn o).pure = true := by
  cases o with
  | none => rfl
  | some l => exact pu_ln l
theorem pu_idst (is : List Id) : (eIds is).pure = true := pu_ids is
theorem pu_pl (p : Ln.Place) : (ePl p).pure = true := by
  show pureAll [eOp eId p.1, ePath p.2.1, ePath p.2.2] = true
  simp only [pureAll, pu_oid, pu_path, Bool.and_self]
theorem pu_mv (m : Mv) : (eMv m).pure = true := by
  show pureAll [eOp eId m.1, eOp eId m.2.1, ePl m.2.2] = true
  simp only [pureAll, pu_oid, pu_pl, Bool.and_self]
theorem pu_mvs (ms : List Mv) : (D.tup (ms.map eMv)).pure = true := pureAll_map pu_mv ms
theorem pu_str (x : Str) : (D.str x).pure = true := rfl
theorem pu_int (x : Int) : (D.int x).pure = true := rfl
theorem pu_bl (x : Bool) : (D.bl x).pure = true := rfl
theorem pu_non : D.non.pure = true := rfl
theorem pu_ed (e : Edit) : (eEd e).pure = true := by
  cases e with
  | write id pl ct meant hs =>
    show pureAll [.str (Str.ofString "write"), eId id, ePl pl, eOp eCt ct, eOp eId meant, eIds hs] = true
    simp only [pureAll, pu_str, pu_id, pu_pl, pu_oct, pu_oid, pu_idst, Bool.and_self]
  | drop id hs =>
    show pureAll [.str (Str.ofString "drop"), eId id, eIds hs] = true
    simp only [pureAll, pu_str, pu_id, pu_idst, Bool.and_self]
  | move id ms =>
    show pureAll [.str (Str.ofString "move"), eId id, .tup (ms.map eMv)] = true
    simp only [pureAll, pu_str, pu_id, pu_mvs, Bool.and_self]
theorem pu_eds (es : List Edit) : (D.lst (es.map eEd)).pure = true := pureAll_map pu_ed es
theorem it_ls {S : Sto} {ls : List Line} : iterOf S (eLs ls) = some (ls.map eLn) := rfl
theorem lstk_ls {S : Sto} {ls : List Line} {k : D → Prop} : lstk S [eLs ls] k = k (eLs ls) := by
  show (∃ ds, itemsOf S (eLs ls) = some ds ∧ k (.lst ds)) = _
  simp [eLs, itemsOf]
theorem st_ls {S : Sto} {ls : List Line} : itemsOf S (eLs ls) = some (ls.map eLn) := rfl
theorem non_id (i : Id) : isNon (eId i) = false := rfl
theorem non_ln (l : Line) : isNon (eLn l) = false := rfl
theorem non_ct (c : Ct) : isNon (eCt c) = false := rfl
theorem non_path (p : List Str) : isNon (ePath p) = false := rfl
theorem noLsts_map {α : Type} {f : α → D} (h : ∀ a, (f a).noLst = true) : ∀ l : List α, noLsts (l.map f) = true
  | [] => rfl
  | a :: l => by rw [List.map_cons, noLsts, h a, noLsts_map h l]; rfl
theorem nl_id (i : Id) : (eId i).noLst = true := rfl
theorem nl_oid (o : Option Id) : (eOp eId o).noLst = true := by cases o <;> rfl
theorem nl_oct (o : Option Ct) : (eOp eCt o).noLst = true := by cases o <;> rfl
theorem nl_path (p : List Str) : (ePath p).noLst = true := noLsts_map (fun _ => rfl) p
theorem nl_ids (is : List Id) : (eIds is).noLst = true := noLsts_map nl_id is
theorem nl_pl (p : Ln.Place) : (ePl p).noLst = true := by
  show noLsts [eOp eId p.1, ePath p.2.1, ePath p.2.2] = true
  simp only [noLsts, nl_oid, nl_path, Bool.and_self]
theorem nl_mv (m : Mv) : (eMv m).noLst = true := by
  show noLsts [eOp eId m.1, eOp eId m.2.1, ePl m.2.2] = true
  simp only [noLsts, nl_oid, nl_pl, Bool.and_self]
theorem nl_ed (e : Edit) : (eEd e).noLst = true := by
  cases e with
  | write id pl ct meant hs =>
    show noLsts [.str (Str.ofString "write"), eId id, ePl pl, eOp eCt ct, eOp eId meant, eIds hs] = true
    simp only [noLsts, nl_id, nl_pl, nl_oct, nl_oid, nl_ids, Bool.and_self, show (D.str (Str.ofString "write")).noLst = true from rfl]
  | drop id hs =>
    show noLsts [.str (Str.ofString "drop"), eId id, eIds hs] = true
    simp only [noLsts, nl_id, nl_ids, Bool.and_self, show (D.str (Str.ofString "drop")).noLst = true from rfl]
  | move id ms =>
    show noLsts [.str (Str.ofString "move"), eId id, .tup (ms.map eMv)] = true
    simp only [noLsts, nl_id, show (D.tup (ms.map eMv)).noLst = true from noLsts_map nl_mv ms, Bool.and_self, show (D.str (Str.ofString "move")).noLst = true from rfl]
abbrev rs' := Pw.rs
end Le
/-! placed entries as data -/
namespace Le
open PySem PySem.Spec PyProof.Rows L2 Evl Lw Ln Pw
structure Plc where
  path : List Str
  names : List Str
  thing : Int
  count : Int
  cuts : Int
  ct : Option Ct
  ids : List Id
  line : Option Id
  seen : Bool
deriving DecidableEq
def plcKs : List Str := ["path", "names", "thing", "count", "cuts", "content", "ids", "line", "seen"]
def plcVs (e : Plc) : List D := [ePath e.path, ePath e.names, .int e.thing, .int e.count, .int e.cuts, eOp eCt e.ct, eIds e.ids, eOp eId e.line, .bl e.seen]
def ePlc (e : Plc) : D := .obj 0 plcKs (plcVs e)
theorem key_eq (a b : Str) (h : decide (a = b) = true) : (a == b) = true := by simpa using h
theorem key_ne (a b : Str) (h : decide (a = b) = false) : (a == b) = false := by simpa using h
theorem lk_hit {α : Type} {f k : Str} {v : α} {r : List (Str × α)} (h : decide (f = k) = true) : ((k, v) :: r).lookup f = some v := by
  rw [List.lookup_cons, key_eq f k h]
theorem lk_miss {α : Type} {f k : Str} {v : α} {r : List (Str × α)} (h : decide (f = k) = false) : ((k, v) :: r).lookup f = r.lookup f := by
  rw [List.lookup_cons, key_ne f k h]
section
variable {S : Sto} {e : Plc}
theorem f_path : fldOf [0] "path" S (ePlc e) = some (ePath e.path) := by
  show (if 0 ∈ [0] then (plcKs.zip (plcVs e)).lookup (PySem.Str.ofString "path") else none) = _
  rw [if_pos (by decide)]
  exact lk_hit (by decide +kernel)
theorem f_names : fldOf [0] "names" S (ePlc e) = some (ePath e.names) := by
  show (if 0 ∈ [0] then (plcKs.zip (plcVs e)).lookup (PySem.Str.ofString "names") else none) = _
  rw [if_pos (by decide)]
  exact (lk_miss (by decide +kernel)).trans (lk_hit (by decide +kernel))
theorem f_thing : fldOf [0] "thing" S (ePlc e) = some (.int e.thing) := by
  show (if 0 ∈ [0] then (plcKs.zip (plcVs e)).lookup (PySem.Str.ofString "thing") else none) = _
  rw [if_pos (by decide)]
  exact (lk_miss (by decide +kernel)).trans ((lk_miss (by decide +kernel)).trans (lk_hit (by decide +kernel)))
theorem f_count : fldOf [0] "count" S (ePlc e) = some (.int e.count) := by
  show (if 0 ∈ [0] then (plcKs.zip (plcVs e)).lookup (PySem.Str.ofString "count") else none) = _
  rw [if_pos (by decide)]
  exact (lk_miss (by decide +kernel)).trans ((lk_miss (by decide +kernel)).trans ((lk_miss (by decide +kernel)).trans (lk_hit (by decide +kernel))))
theorem f_cuts : fldOf [0] "cuts" S (ePlc e) = some (.int e.cuts) := by
  show (if 0 ∈ [0] then (plcKs.zip (plcVs e)).lookup (PySem.Str.ofString "cuts") else none) = _
  rw [if_pos (by decide)]
  exact (lk_miss (by decide +kernel)).trans ((lk_miss (by decide +kernel)).trans ((lk_miss (by decide +kernel)).trans ((lk_miss (by decide +kernel)).trans (lk_hit (by decide +kernel)))))
theorem f_content : fldOf [0] "content" S (ePlc e) = some (eOp eCt e.ct) := by
  show (if 0 ∈ [0] then (plcKs.zip (plcVs e)).lookup (PySem.Str.ofString "content") else none) = _
  rw [if_pos (by decide)]
  exact (lk_miss (by decide +kernel)).trans ((lk_miss (by decide +kernel)).trans ((lk_miss (by decide +kernel)).trans ((lk_miss (by decide +kernel)).trans ((lk_miss (by decide +kernel)).trans (lk_hit (by decide +kernel))))))
theorem f_ids : fldOf [0] "ids" S (ePlc e) = some (eIds e.ids) := by
  show (if 0 ∈ [0] then (plcKs.zip (plcVs e)).lookup (PySem.Str.ofString "ids") else none) = _
  rw [if_pos (by decide)]
  exact (lk_miss (by decide +kernel)).trans ((lk_miss (by decide +kernel)).trans ((lk_miss (by decide +kernel)).trans ((lk_miss (by decide +kernel)).trans ((lk_miss (by decide +kernel)).trans ((lk_miss (by decide +kernel)).trans (lk_hit (by decide +kernel)))))))
theorem f_line : fldOf [0] "line" S (ePlc e) = some (eOp eId e.line) := by
  show (if 0 ∈ [0] then (plcKs.zip (plcVs e)).lookup (PySem.Str.ofString "line") else none) = _
  rw [if_pos (by decide)]
  exact (lk_miss (by decide +kernel)).trans ((lk_miss (by decide +kernel)).trans ((lk_miss (by decide +kernel)).trans ((lk_miss (by decide +kernel)).trans ((lk_miss (by decide +kernel)).trans ((lk_miss (by decide +kernel)).trans ((lk_miss (by decide +kernel)).trans (lk_hit (by decide +kernel))))))))
theorem f_seen : fldOf [0] "seen" S (ePlc e) = some (.bl e.seen) := by
  show (if 0 ∈ [0] then (plcKs.zip (plcVs e)).lookup (PySem.Str.ofString "seen") else none) = _
  rw [if_pos (by decide)]
  exact (lk_miss (by decide +kernel)).trans ((lk_miss (by decide +kernel)).trans ((lk_miss (by decide +kernel)).trans ((lk_miss (by decide +kernel)).trans ((lk_miss (by decide +kernel)).trans ((lk_miss (by decide +kernel)).trans ((lk_miss (by decide +kernel)).trans ((lk_miss (by decide +kernel)).trans (lk_hit (by decide +kernel)))))))))
end
theorem non_plc (e : Plc) : isNon (ePlc e) = false := rfl
theorem put_new {f : Str} {d : D} : ∀ {ks : List Str} {ds : List D}, ks.length = ds.length → (ks.all fun g => !decide (g = f)) = true → Pw.putK f ks = ks ++ [f] ∧ Pw.putD f d ks ds = ds ++ [d]
  | [], [], _, _ => ⟨rfl, rfl⟩
  | [], _ :: _, h, _ => by simp at h
  | _ :: _, [], h, _ => by simp at h
  | g :: ks, e :: ds, h, a => by
    rw [List.all_cons, Bool.and_eq_true] at a
    have hg : ¬ g = f := by simpa using a.1
    obtain ⟨i1, i2⟩ := put_new (d := d) (ks := ks) (ds := ds) (by simpa using h) a.2
    unfold Pw.putK Pw.putD
    rw [if_neg hg, if_neg hg, i1, i2]
    exact ⟨rfl, rfl⟩
/-- self.f = x in an __init__, f new -/
theorem setF_new {f : Str} {cs : List Nat} {i n c : Nat} {P : PEnds} {q : PSx} {env : Pw.Env} {S : Sto} {ks : List Str} {ds : List D} {d : D} (hs : S[n]? = some (.obj c ks ds)) (h0 : env[0]? = some (some (.ref n))) (hi : env[i]? = some (some d)) (hc : c ∈ cs) (hl : ks.length = ds.length)
    (hn : (ks.all fun g => !decide (g = f)) = true) (hz : ks.length < 1000) (h : (S.set n (.obj c (ks ++ [f]) (ds ++ [d])))[n]? = some (.obj c (ks ++ [f]) (ds ++ [d])) → q P env (S.set n (.obj c (ks ++ [f]) (ds ++ [d])))) : pSeq (pSetF f cs (pVar 0) (pVar i)) q P env S := by
  obtain ⟨i1, i2⟩ := put_new (f := f) (d := d) hl hn
  refine ⟨d, hi, .ref n, h0, n, rfl, c, ks, ds, hs, hc, hz, ?_⟩
  rw [i1, i2]
  exact h (List.getElem?_set_self (List.getElem?_eq_some_iff.mp hs).1)
theorem setF_last {f : Str} {cs : List Nat} {i n c : Nat} {P : PEnds} {env : Pw.Env} {S : Sto} {ks : List Str} {ds : List D} {d : D} (hs : S[n]? = some (.obj c ks ds)) (h0 : env[0]? = some (some (.ref n))) (hi : env[i]? = some (some d)) (hc : c ∈ cs) (hl : ks.length = ds.length)
    (hn : (ks.all fun g => !decide (g = f)) = true) (hz : ks.length < 1000) (h : P.nx env (S.set n (.obj c (ks ++ [f]) (ds ++ [d])))) : pSetF f cs (pVar 0) (pVar i) P env S := by
  obtain ⟨i1, i2⟩ := put_new (f := f) (d := d) hl hn
  refine ⟨d, hi, .ref n, h0, n, rfl, c, ks, ds, hs, hc, hz, ?_⟩
  rw [i1, i2]
  exact h
end Le
/-! isinstance(x, tuple) -/
namespace Pw
open PySem PySem.Spec PyProof.Rows L2 Evl Lw
/-- what isinstance asks of a class of the program, and that it is no tuple -/
structure Isi (K : PySem.W.Frag) (C : Addr) : Prop where
  ha : PySem.W.findIn K (.ref C) "__class__" = some (some (.builtin "object.__class__"))
  hn : PySem.W.specialIn K (.builtin "object.__class__") "__get__" = some (some (.builtin "getset_descriptor.__get__"))
  htk : PySem.W.takesIn K (.builtin "object.__class__") = some true
  hm : PySem.W.mroIn K C (.type "object") = some true
  no : PySem.W.kitOne K (.ref C) (.type "tuple") = some false
def isTk (cs : List Nat) : OpN := fun _ xs k => match xs with
  | [.tup _, .ty n] => n = "tuple" ∧ k (.bl true)
  | [.obj c _ _, .ty n] => n = "tuple" ∧ c ∈ cs ∧ k (.bl false)
  | _ => False
theorem smc_isT {K : PySem.W.Frag} {cl : Cl} {cs : List Nat} (hc : ∀ c ∈ cs, Cls K (cl c) ∧ Isi K (cl c)) : SmC K cl (rIsi K) (isTk cs) := by
  intro M ρ S H xs vs g r k Q h q
  match xs, h with
  | [.tup ds, .ty n], h =>
    obtain ⟨v, w, rfl, r1, r2⟩ := all2 r
    obtain ⟨hn, hk⟩ := h
    subst hn
    cases r2
    cases r1 with
    | @tup a _ _ hs ha =>
      have hs' := ex_t cut_sub hs
      have kt : PySem.W.kitOne K (.type "tuple") (.type "tuple") = some true := by
        unfold PySem.W.kitOne
        rw [if_pos (by decide +kernel)]
      have ty : TyX K H (.ref a) (.type "tuple") := by
        rcases hs' with hs' | ⟨o, its, m, h1, h2, _⟩
        · rcases hs' with e | ⟨o, e⟩
          · exact .base (.tup e)
          · exact .fTuple e
        · exact .kTuple h1 h2
      exact ⟨_, _, _, _, true, rfl, .ty _, ty, kt, q H _ _ .refl g (.bl _) hk⟩
  | [.obj c ks ds, .ty n], h =>
    obtain ⟨v, w, rfl, r1, r2⟩ := all2 r
    obtain ⟨hn, hcs, hk⟩ := h
    subst hn
    cases r2
    cases r1 with
    | @obj a dx _ fs _ _ hs hk2 ra =>
      obtain ⟨h1, h2⟩ := hc c hcs
      exact ⟨_, _, _, _, false, rfl, .ty _, .base (.ins (cut_sub _ _ hs) h1 h2.ha h2.hn h2.htk h2.hm), h2.no, q H _ _ .refl g (.bl _) hk⟩
/-- self.f = e in an __init__, f new: e gives d and leaves the store -/
theorem setG_new {f : Str} {cs : List Nat} {n c : Nat} {pv : PEx} {P : PEnds} {q : PSx} {env : Pw.Env} {S : Sto} {ks : List Str} {ds : List D} {d : D} (hs : S[n]? = some (.obj c ks ds)) (h0 : env[0]? = some (some (.ref n))) (hv : ∀ kk : D → Sto → Prop, kk d S → pv env S kk) (hc : c ∈ cs) (hl : ks.length = ds.length)
    (hn : (ks.all fun g => !decide (g = f)) = true) (hz : ks.length < 1000) (h : (S.set n (.obj c (ks ++ [f]) (ds ++ [d])))[n]? = some (.obj c (ks ++ [f]) (ds ++ [d])) → q P env (S.set n (.obj c (ks ++ [f]) (ds ++ [d])))) : pSeq (pSetF f cs (pVar 0) pv) q P env S := by
  obtain ⟨i1, i2⟩ := Le.put_new (f := f) (d := d) hl hn
  refine hv _ ⟨.ref n, h0, n, rfl, c, ks, ds, hs, hc, hz, ?_⟩
  rw [i1, i2]
  exact h (List.getElem?_set_self (List.getElem?_eq_some_iff.mp hs).1)
theorem setG_last {f : Str} {cs : List Nat} {n c : Nat} {pv : PEx} {P : PEnds} {env : Pw.Env} {S : Sto} {ks : List Str} {ds : List D} {d : D} (hs : S[n]? = some (.obj c ks ds)) (h0 : env[0]? = some (some (.ref n))) (hv : ∀ kk : D → Sto → Prop, kk d S → pv env S kk) (hc : c ∈ cs) (hl : ks.length = ds.length)
    (hn : (ks.all fun g => !decide (g = f)) = true) (hz : ks.length < 1000) (h : P.nx env (S.set n (.obj c (ks ++ [f]) (ds ++ [d])))) : pSetF f cs (pVar 0) pv P env S := by
  obtain ⟨i1, i2⟩ := Le.put_new (f := f) (d := d) hl hn
  refine hv _ ⟨.ref n, h0, n, rfl, c, ks, ds, hs, hc, hz, ?_⟩
  rw [i1, i2]
  exact h
/-- the same, the store's changes so far left aside -/
theorem setH_new {f : Str} {cs : List Nat} {n c : Nat} {pv : PEx} {P : PEnds} {q : PSx} {env : Pw.Env} {S0 S : Sto} {ks : List Str} {ds : List D} {d : D} (hs : S[n]? = some (.obj c ks ds)) (he : ∀ u, S.set n u = S0.set n u) (h0 : env[0]? = some (some (.ref n))) (hv : ∀ kk : D → Sto → Prop, kk d S → pv env S kk) (hc : c ∈ cs) (hl : ks.length = ds.length)
    (hn : (ks.all fun g => !decide (g = f)) = true) (hz : ks.length < 1000) (h : ∀ S', S'[n]? = some (.obj c (ks ++ [f]) (ds ++ [d])) → (∀ u, S'.set n u = S0.set n u) → q P env S') : pSeq (pSetF f cs (pVar 0) pv) q P env S :=
  setG_new hs h0 hv hc hl hn hz fun h1 => h _ h1 fun u => by rw [List.set_set, he]
theorem setH_last {f : Str} {cs : List Nat} {n c : Nat} {pv : PEx} {P : PEnds} {env : Pw.Env} {S0 S : Sto} {ks : List Str} {ds : List D} {d : D} (hs : S[n]? = some (.obj c ks ds)) (he : ∀ u, S.set n u = S0.set n u) (h0 : env[0]? = some (some (.ref n))) (hv : ∀ kk : D → Sto → Prop, kk d S → pv env S kk) (hc : c ∈ cs) (hl : ks.length = ds.length)
    (hn : (ks.all fun g => !decide (g = f)) = true) (hz : ks.length < 1000) (h : P.nx env (S0.set n (.obj c (ks ++ [f]) (ds ++ [d])))) : pSetF f cs (pVar 0) pv P env S :=
  setG_last hs h0 hv hc hl hn hz (by rw [he]; exact h)
end Pw
/-! fields by place -/
namespace Pw
open PySem PySem.Spec PyProof.Rows L2 Evl Lw
def ixS (f : Str) : List Str → Option Nat
  | [] => none
  | k :: r => if f = k then some 0 else (ixS f r).map (· + 1)
theorem lookup_ix {α : Type} {f : Str} : ∀ {ks : List Str} {ds : List α} {i : Nat} {d : α}, ixS f ks = some i → ds[i]? = some d → (ks.zip ds).lookup f = some d
  | [], _, i, _, h, _ => by simp [ixS] at h
  | k :: r, [], i, d, _, hd => by simp at hd
  | k :: r, x :: ds, i, d, h, hd => by
    unfold ixS at h
    rw [List.zip_cons_cons, List.lookup_cons]
    by_cases hk : f = k
    · rw [if_pos hk] at h
      cases h
      have : (f == k) = true := by simpa using hk
      rw [this]
      simpa using hd
    · rw [if_neg hk] at h
      have : (f == k) = false := by simpa using hk
      rw [this]
      cases e : ixS f r with
      | none => rw [e] at h; cases h
      | some j =>
        rw [e] at h
        cases h
        rw [List.getElem?_cons_succ] at hd
        exact lookup_ix e hd
theorem fo {cs : List Nat} {f : Str} {S : Sto} {c i : Nat} {ks : List Str} {ds : List D} {d : D} (hc : cs.contains c = true) (hi : ixS f ks = some i) (hd : ds[i]? = some d) : fldOf cs f S (.obj c ks ds) = some d := by
  show (if c ∈ cs then (ks.zip ds).lookup f else none) = _
  rw [if_pos (by simpa using hc)]
  exact lookup_ix hi hd
theorem fo_ref {cs : List Nat} {f : Str} {S : Sto} {n c i : Nat} {ks : List Str} {ds : List D} {d : D} (hs : S[n]? = some (.obj c ks ds)) (hc : cs.contains c = true) (hi : ixS f ks = some i) (hd : ds[i]? = some d) : fldOf cs f S (.ref n) = some d := by
  unfold fldOf
  simp only [hs]
  rw [if_pos (by simpa using hc)]
  exact lookup_ix hi hd
/-- a call with entries among the arguments, none of them of the store -/
theorem call_nr {F : PFn} {S : Sto} {ds : List D} {k : D → Prop} (hp : noRefs ds = true) (h : F ds k) : callk F S ds k := by
  unfold callk
  rw [rs_id ds hp, hp]
  refine ⟨rfl, ?_⟩
  have : (fun d : D => (true = true ∨ d.noLst = true) ∧ k d) = k := by
    funext d
    simp
  rw [this]
  exact h
theorem q_strs (S : Sto) (a b : Str) (k : D → Prop) : eqk S (.str a) (.str b) k = k (.bl (decide (a = b))) := q_word S a b k
end Pw
namespace Le
open PySem PySem.Spec PyProof.Rows L2 Evl Lw Ln Pw
theorem nr_id (i : Id) : (eId i).noRef = true := rfl
theorem nr_oid (o : Option Id) : (eOp eId o).noRef = true := pure_noRef _ (pu_oid o)
theorem nr_oct (o : Option Ct) : (eOp eCt o).noRef = true := pure_noRef _ (pu_oct o)
theorem nr_path (p : List Str) : (ePath p).noRef = true := pure_noRef _ (pu_path p)
theorem nr_ln (l : Line) : (eLn l).noRef = true := pure_noRef _ (pu_ln l)
theorem nr_oln (l : Option Line) : (eOp eLn l).noRef = true := pure_noRef _ (pu_oln l)
theorem nr_ls (l : List Line) : (eLs l).noRef = true := pure_noRef _ (pu_ls l)
theorem nr_idst (l : List Id) : (eIds l).noRef = true := pure_noRef _ (pu_idst l)
theorem nr_pl (l : Ln.Place) : (ePl l).noRef = true := pure_noRef _ (pu_pl l)
theorem nr_mv (l : Mv) : (eMv l).noRef = true := pure_noRef _ (pu_mv l)
theorem nr_ed (l : Edit) : (eEd l).noRef = true := pure_noRef _ (pu_ed l)
theorem nr_ct (l : Ct) : (eCt l).noRef = true := rfl
theorem nr_all {α : Type} {f : α → D} (h : ∀ a, (f a).noRef = true) : ∀ l : List α, noRefs (l.map f) = true
  | [] => rfl
  | a :: l => by rw [List.map_cons, noRefs, h a, nr_all h l]; rfl
theorem nr_eds (l : List Edit) : (D.lst (l.map eEd)).noRef = true := nr_all nr_ed l
theorem nr_scr (l : List Int) : (D.scr (l.map D.int)).noRef = true := nr_all (fun _ => rfl) l
theorem nr_ints (l : List Int) : (D.lst (l.map D.int)).noRef = true := nr_all (fun _ => rfl) l
theorem dep_idst (is : List Ln.Id) : (eIds is).dep ≤ 60 := by
  have h : (D.tup (is.map Le.eId)).py.depth ≤ 2 := by
    show PyData.depthAll (pyAll (is.map Le.eId)) + 1 ≤ 2
    rw [py_map py_id]
    have := dp_all (n := 1) dp_id is
    omega
  exact Nat.le_trans h (by decide)
theorem q_idst {S : Sto} {a b : List Ln.Id} {k : D → Prop} : Pw.eqk S (eIds a) (eIds b) k = k (.bl (decide (a = b))) := by
  rw [eqk_pure (x := eIds a) (y := eIds b) (pu_idst a) (pu_idst b) (dep_idst a)]
  have : D.eqv (eIds a) (eIds b) = decide (a = b) := by
    show PyData.eqvAll (pyAll (a.map Le.eId)) (pyAll (b.map Le.eId)) = _
    induction a generalizing b with
    | nil => cases b with
      | nil => simp [pyAll, PyData.eqvAll]
      | cons y b => simp [pyAll, PyData.eqvAll]
    | cons x a ih => cases b with
      | nil => simp [pyAll, PyData.eqvAll]
      | cons y b =>
        rw [List.map_cons, List.map_cons, pyAll, pyAll, PyData.eqvAll, ih]
        have h := Ln.eqv_id x y
        have e1 : (Le.eId x).py = Ln.dId x := rfl
        have e2 : (Le.eId y).py = Ln.dId y := rfl
        rw [e1, e2, h]
        simp [Bool.eq_iff_iff]
  rw [this]
theorem tru_bl {S : Sto} {b : Bool} {k : Bool → Prop} : truk S (.bl b) k = k b := rfl
theorem nr_plcVs (e : Plc) : noRefs (plcVs e) = true := by
  show noRefs [ePath e.path, ePath e.names, .int e.thing, .int e.count, .int e.cuts, eOp eCt e.ct, eIds e.ids, eOp eId e.line, .bl e.seen] = true
  simp only [noRefs, nr_path, nr_oct, nr_oid, nr_idst, D.noRef, Bool.and_self]
theorem nr_plc (e : Plc) : (ePlc e).noRef = true := nr_plcVs e
theorem q_none {S : Sto} {is : List Id} {k : D → Prop} : Pw.eqk S (eIds is) (.tup []) k = k (.bl (decide (is = []))) := by
  have hd := dep_idst is
  rw [eqk_pure (x := eIds is) (y := .tup []) (pu_idst is) rfl hd]
  have : D.eqv (eIds is) (.tup []) = decide (is = []) := by
    cases is with
    | nil => rfl
    | cons a is =>
      rw [decide_eq_false (by simp)]
      show PyData.eqvAll ((eId a).py :: pyAll (is.map eId)) [] = false
      rw [PyData.eqvAll]
  rw [this]
end Le
/-! classes made with keyword-only parameters, however many -/
namespace Pw
open PySem PySem.Spec PyProof.Rows L2 Evl Lw
theorem looks_forIn {α σ : Type} {M : Model} {h : Heap} {f : α → σ → Sem (ForInStep σ)} (g : α → σ → σ) (I : List α → σ → Prop) (hf : ∀ x r s, I (x :: r) s → PySem.W.Looks M h (f x s) (.yield (g x s)) ∧ I r (g x s)) : ∀ (l : List α) (s : σ), I l s → PySem.W.Looks M h (forIn l s f) (l.foldl (fun s x => g x s) s)
  | [], s, _ => by
    rw [List.forIn_nil]
    exact .of_pure rfl
  | x :: r, s, hI => by
    obtain ⟨h1, h2⟩ := hf x r s hI
    rw [List.forIn_cons, List.foldl_cons]
    exact h1.andThen (looks_forIn g I hf r _ h2)
theorem look_app {l m : List (Str × Value)} {n : Str} : ((l ++ m).lookup n) = (l.lookup n).or (m.lookup n) := by
  induction l with
  | nil => simp
  | cons a l ih =>
    rw [List.cons_append, List.lookup_cons, List.lookup_cons]
    cases n == a.1 with
    | true => rfl
    | false => exact ih
theorem look_zip {n : Str} : ∀ {ks : List Str} {vs : List Value}, vs.length = ks.length → ((ks.zip vs).lookup n).isSome = ks.contains n
  | [], vs, _ => by simp
  | k :: ks, [], h => by simp at h
  | k :: ks, v :: vs, h => by
    rw [List.zip_cons_cons, List.lookup_cons, List.contains_cons]
    cases e : n == k with
    | true => simp
    | false => simpa using look_zip (by simpa using h)
theorem fold_snoc {r : List (Str × Value)} : ∀ (s : List (Str × Value)) (e : List (Str × Value)), List.foldl (fun (s : List (Str × Value) × List (Str × Value)) (x : Str × Value) => (s.1 ++ [(x.1, x.2)], s.2)) (s, e) r = (s ++ r, e) := by
  induction r with
  | nil => intro s e; simp
  | cons a r ih => intro s e; rw [List.foldl_cons, ih]; simp
theorem foldK {val : Str → Value} {p : Str → Bool} : ∀ (l : List Str) (m : List Str) (s : List (Str × Value)), List.foldl (fun (s : List (Str × Value) × List Str) (x : Str) => if p x = true then (s.1 ++ [(x, val x)], s.2) else (s.1, s.2)) (s, m) l = (s ++ (l.filter p).map fun n => (n, val n), m)
  | [], m, s => by simp
  | a :: l, m, s => by
    rw [List.foldl_cons]
    cases e : p a with
    | true => rw [if_pos rfl, foldK l, List.filter_cons_of_pos e]; simp
    | false => rw [if_neg (by simp), foldK l, List.filter_cons_of_neg (by simp [e])]
theorem looks_kw {K : PySem.W.Frag} {M : Model} {h : Heap} (X : K.In h) {x qual : Str} {params : Arguments} {body : List Stmt} {scope : Scope} {D : Addr} {doc pm cdv ct : Value} {an : Option Addr} {us ws : List Value} {pos kwo gk : List Str} {val : Str → Value}
   (hp0 : params.posonlyargs = []) (hp : params.args.map (·.arg) = pos) (hk : params.kwonlyargs.map (·.arg) = kwo) (hv : params.vararg = none) (hkw : params.kwarg = none)
   (l1 : us.length = pos.length) (l2 : ws.length = gk.length) (hg : ∀ k ∈ gk, kwo.contains k = true) (nd : (pos ++ gk).Nodup) (nk : kwo.Nodup) (dj : ∀ n ∈ kwo, pos.contains n = false)
   (hq : ∀ n ∈ kwo, gk.contains n = false → PySem.W.nsIn K D n = some (some (val n))) :
   PySem.W.Looks M h (bindArgs (PySem.W.fnOf x qual params body scope .none (.ref D) doc pm an cdv ct) ⟨us, gk.zip ws⟩) ((pos ++ kwo).filterMap fun n => ((pos.zip us ++ gk.zip ws ++ (kwo.filter fun n => !gk.contains n).map fun n => (n, val n)).lookup n).map (n, ·)) := by
  unfold bindArgs PySem.W.fnOf
  simp only [hv, hkw, hp0, hp, hk, List.map_nil, List.nil_append]
  refine PySem.W.Looks.andThen (looks_forIn (fun x s => (s.1 ++ [(x.1, x.2)], s.2)) (fun r s => (∀ p ∈ r, kwo.contains p.1 = true ∧ (s.1.lookup p.1).isSome = false) ∧ (r.map (·.1)).Nodup) ?_ _ _ ?_) ?_
  · rintro y r s ⟨h1, h2⟩
    obtain ⟨h3, h4⟩ := h1 y List.mem_cons_self
    constructor
    · simp only [h3, Bool.or_true, if_true, h4, Bool.false_eq_true, if_false, reduceIte]
      exact .of_pure rfl
    · rw [List.map_cons, List.nodup_cons] at h2
      refine ⟨fun p hp => ⟨(h1 p (List.mem_cons_of_mem _ hp)).1, ?_⟩, h2.2⟩
      rw [look_app]
      have := (h1 p (List.mem_cons_of_mem _ hp)).2
      cases e : s.1.lookup p.1 with
      | some _ => rw [e] at this; cases this
      | none =>
        have hne : (p.1 == y.1) = false := by
          apply beq_false_of_ne
          intro z
          exact h2.1 (z ▸ List.mem_map_of_mem hp)
        simp [List.lookup_cons, hne]
  · refine ⟨fun p hp => ?_, ?_⟩
    · have hm := List.of_mem_zip (show (p.1, p.2) ∈ gk.zip ws from hp)
      refine ⟨hg _ hm.1, ?_⟩
      rw [look_zip l1]
      have := (List.nodup_append.mp nd).2.2
      cases e : pos.contains p.1 with
      | false => rfl
      | true => exact absurd rfl (this p.1 (by simpa using e) p.1 hm.1)
    · rw [List.map_fst_zip (by omega)]
      exact (List.nodup_append.mp nd).2.1
  rw [fold_snoc]
  have hno : (pos.filter fun n => ((pos.zip us ++ gk.zip ws).lookup n).isNone) = [] := by
    rw [List.filter_eq_nil_iff]
    intro n hn
    rw [look_app]
    have := look_zip (n := n) l1
    cases e : (pos.zip us).lookup n with
    | some _ => simp
    | none =>
      rw [e] at this
      have hc : pos.contains n = true := by simpa using hn
      rw [hc] at this
      cases this
  have hgt : decide (us.length > pos.length) = false := decide_eq_false (by omega)
  have hsi : seqItems? Value.none = pure none := rfl
  simp only [hsi, pure_bind, hgt, Bool.false_and, Bool.false_eq_true, if_false, reduceIte, Option.getD_none, Array.toList_empty, List.drop_nil, List.length_nil, Nat.sub_zero, List.take_length, hno, List.isEmpty_nil, Bool.not_true, List.drop_length, List.zip_nil_right, List.forIn_nil]
  refine PySem.W.Looks.andThen (looks_forIn (fun x s => if (!gk.contains x) = true then (s.1 ++ [(x, val x)], s.2) else (s.1, s.2)) (fun r s => (∀ n ∈ r, n ∈ kwo ∧ (s.1.lookup n).isNone = !gk.contains n) ∧ r.Nodup) ?_ _ _ ?_) ?_
  · rintro y r s ⟨h1, h2⟩
    obtain ⟨h3, h4⟩ := h1 y List.mem_cons_self
    rw [List.nodup_cons] at h2
    cases hc : gk.contains y with
    | true =>
      rw [hc] at h4
      simp only [h4, Bool.not_true, Bool.false_eq_true, if_false]
      exact ⟨.of_pure rfl, fun n hn => h1 n (List.mem_cons_of_mem _ hn), h2.2⟩
    | false =>
      rw [hc] at h4
      simp only [h4, Bool.not_false, if_true]
      refine ⟨(PySem.W.looks_nsIn X (hq y h3 hc)).andThen (.of_pure rfl), fun n hn => ⟨(h1 n (List.mem_cons_of_mem _ hn)).1, ?_⟩, h2.2⟩
      rw [look_app, ← (h1 n (List.mem_cons_of_mem _ hn)).2]
      cases e : s.1.lookup n with
      | some _ => rfl
      | none =>
        have hne : (n == y) = false := by
          apply beq_false_of_ne
          intro z
          exact h2.1 (z ▸ hn)
        simp [List.lookup_cons, hne]
  · refine ⟨fun n hn => ⟨hn, ?_⟩, nk⟩
    rw [look_app]
    have h1 := look_zip (n := n) l1
    have h2 := look_zip (n := n) l2
    rw [dj n hn] at h1
    cases e : (pos.zip us).lookup n with
    | some _ => rw [e] at h1; cases h1
    | none =>
      rw [← h2]
      cases (gk.zip ws).lookup n <;> rfl
  · rw [foldK]
    exact .of_pure rfl
theorem fm_congr {α β : Type} {f g : α → Option β} : ∀ {l : List α}, (∀ a ∈ l, f a = g a) → l.filterMap f = l.filterMap g
  | [], _ => rfl
  | a :: l, h => by
    rw [List.filterMap_cons, List.filterMap_cons, h a List.mem_cons_self, fm_congr fun b hb => h b (List.mem_cons_of_mem _ hb)]
theorem self_zip : ∀ {ns : List Str} {vs : List Value}, ns.Nodup → vs.length = ns.length → (ns.filterMap fun n => ((ns.zip vs).lookup n).map (n, ·)) = ns.zip vs := by
  have key : ∀ (l : List Str) (L : List (Str × Value)) (vs : List Value), vs.length = l.length → (∀ n ∈ l, L.lookup n = (l.zip vs).lookup n) → l.Nodup → (l.filterMap fun n => (L.lookup n).map (n, ·)) = l.zip vs := by
    intro l
    induction l with
    | nil => intro L vs _ _ _; simp
    | cons a l ih =>
      intro L vs hl hL nd
      cases vs with
      | nil => simp at hl
      | cons v vs =>
        rw [List.nodup_cons] at nd
        have h0 := hL a List.mem_cons_self
        rw [List.zip_cons_cons, List.lookup_cons, beq_self_eq_true] at h0
        rw [List.filterMap_cons, h0, List.zip_cons_cons]
        show (a, v) :: _ = _
        rw [ih L vs (by simpa using hl) (fun n hn => ?_) nd.2]
        rw [hL n (List.mem_cons_of_mem _ hn), List.zip_cons_cons, List.lookup_cons]
        have : (n == a) = false := beq_false_of_ne fun z => nd.1 (z ▸ hn)
        rw [this]
  exact fun {ns vs} nd hl => key ns _ vs hl (fun _ _ => rfl) nd
theorem look_mem {l : List (Str × Value)} {n : Str} {v : Value} (h : l.lookup n = some v) : (n, v) ∈ l := by
  induction l with
  | nil => simp at h
  | cons a l ih =>
    rw [List.lookup_cons] at h
    cases e : n == a.1 with
    | true =>
      rw [e] at h
      cases h
      rw [eq_of_beq e]
      exact List.mem_cons_self
    | false =>
      rw [e] at h
      exact List.mem_cons_of_mem _ (ih h)
theorem zip_app {α β : Type} : ∀ {a b : List α} {c d : List β}, c.length = a.length → (a ++ b).zip (c ++ d) = a.zip c ++ b.zip d
  | [], b, [], d, _ => rfl
  | [], b, _ :: _, d, h => by simp at h
  | x :: a, b, [], d, h => by simp at h
  | x :: a, b, y :: c, d, h => by
    rw [List.cons_append, List.cons_append, List.zip_cons_cons, zip_app (by simpa using h), List.zip_cons_cons, List.cons_append]
theorem zip_val {ks : List Str} {mv : List Value} (nd : ks.Nodup) (hl : mv.length = ks.length) : (ks.map fun n => (n, ((ks.zip mv).lookup n).getD .none)) = ks.zip mv := by
  have h := self_zip nd hl
  have e : (ks.filterMap fun n => ((ks.zip mv).lookup n).map (n, ·)) = ks.filterMap fun n => some (n, ((ks.zip mv).lookup n).getD .none) := fm_congr fun n hn => by
    have := look_zip (n := n) hl
    cases q : (ks.zip mv).lookup n with
    | none =>
      rw [q] at this
      have hc : ks.contains n = true := by simpa using hn
      rw [hc] at this
      cases this
    | some v => rfl
  rw [e] at h
  rw [← List.filterMap_eq_map]
  exact h
section
variable {K : PySem.W.Frag} {x qual : Str} {params : Arguments} {body : List Stmt} {scope : Scope} {kws : List (Str × V)} {f : Addr} {fd : FuncData} {pos kwo : List Str}
/-- what is asked of the parameters -/
structure KwP (params : Arguments) (pos kwo : List Str) : Prop where
  p0 : params.posonlyargs = []
  p : params.args.map (·.arg) = pos
  k : params.kwonlyargs.map (·.arg) = kwo
  v : params.vararg = none
  w : params.kwarg = none
theorem bindsQ (F : FunD K x qual params body scope [] kws f fd) (P : KwP params pos kwo) (hk : kws ≠ []) (hn : kws.map (·.1) = kwo) (nd : (pos ++ kwo).Nodup) : ∃ ds, Vals (kws.map (·.2)) ds ∧ Binds K fd (pos ++ kwo) ds := by
  obtain ⟨oc, od, dV, kV, doc, pm, an, cdv, ct, osl, rfl, lk, hcd, hD, hK⟩ := F.ex
  rcases hD with ⟨_, rfl⟩ | ⟨e, _⟩
  · rcases hK with e | ⟨D, rfl, hq⟩
    · exact absurd e hk
    · obtain ⟨mv, hl, rk, hks⟩ := kwd_vals hq
      refine ⟨mv, rk, fun s us X hlen => ?_⟩
      have hkl : kwo.length = kws.length := by rw [← hn, List.length_map]
      have l1 : us.length = pos.length := by
        rw [List.length_append, List.length_append] at hlen
        omega
      rw [hn] at hks
      have nk := (List.nodup_append.mp nd).2.1
      have lk2 : mv.length = kwo.length := by omega
      refine BindsTo.of_looks fun M => ?_
      have h := looks_kw (M := M) (gk := []) (ws := []) (val := fun n => ((kwo.zip mv).lookup n).getD .none) X (qual := qual) (x := x) (body := body) (scope := scope) (D := D) (doc := doc) (pm := pm) (cdv := cdv) (ct := ct) (an := an) P.p0 P.p P.k P.v P.w l1 rfl (fun k hk => by cases hk) (by rw [List.append_nil]; exact (List.nodup_append.mp nd).1) nk (fun n hn => by
        cases e : pos.contains n with
        | false => rfl
        | true => exact absurd rfl ((List.nodup_append.mp nd).2.2 n (by simpa using e) n hn)) (fun n hn _ => by
        have := look_zip (n := n) lk2
        have hc : kwo.contains n = true := by simpa using hn
        rw [hc] at this
        cases q : (kwo.zip mv).lookup n with
        | none => rw [q] at this; cases this
        | some v => exact hks _ (look_mem q))
      have e1 : (kwo.filter fun n => !([] : List Str).contains n) = kwo := by simp
      rw [e1, zip_val nk lk2] at h
      have e2 : pos.zip us ++ ([] : List Str).zip ([] : List Value) ++ kwo.zip mv = (pos ++ kwo).zip (us ++ mv) := by
        rw [zip_app l1]
        simp
      rw [e2, self_zip nd (by rw [List.length_append, List.length_append]; omega)] at h
      exact h
  · exact absurd rfl e
theorem vals_getD : ∀ {xs : List V} {us : List Value}, Vals xs us → ∀ i, RelV (xs.getD i .non) (us.getD i .none)
  | [], us, h, i => by
    cases h
    simp
    trivial
  | x :: xs, us, h, i => by
    cases h with
    | cons h1 h2 =>
      cases i with
      | zero => exact h1
      | succ i => exact vals_getD h2 i
theorem vals_perm {xs : List V} {us : List Value} (h : Vals xs us) : ∀ perm : List Nat, Vals (perm.map fun i => xs.getD i .non) (perm.map fun i => us.getD i .none)
  | [] => .nil
  | i :: perm => .cons (vals_getD h i) (vals_perm h perm)
theorem perm_zip {ks : List Str} {vs : List Value} (hl : vs.length = ks.length) : ∀ {kwo : List Str} {perm : List Nat}, (kwo.map fun n => ixS n ks) = perm.map some → (kwo.filterMap fun n => ((ks.zip vs).lookup n).map (n, ·)) = kwo.zip (perm.map fun i => vs.getD i .none)
  | [], perm, h => by simp
  | n :: kwo, [], h => by simp at h
  | n :: kwo, i :: perm, h => by
    rw [List.map_cons, List.map_cons] at h
    have h1 := List.cons.inj h
    have hi : i < ks.length := by
      have : ∀ {ks : List Str} {i : Nat}, ixS n ks = some i → i < ks.length := by
        intro ks
        induction ks with
        | nil => intro i h; simp [ixS] at h
        | cons k ks ih =>
          intro i h
          unfold ixS at h
          split at h
          · cases h
            simp
          · cases e : ixS n ks with
            | none => rw [e] at h; cases h
            | some j =>
              rw [e] at h
              cases h
              have := ih e
              simp
              omega
      exact this h1.1
    have hv : vs[i]? = some (vs.getD i .none) := by
      rw [List.getD_eq_getElem?_getD, List.getElem?_eq_getElem (by omega), Option.getD_some]
    rw [List.filterMap_cons, lookup_ix h1.1 hv, List.map_cons, List.zip_cons_cons]
    show (n, vs.getD i .none) :: _ = _
    rw [perm_zip hl h1.2]
theorem kbindsQ (F : FunD K x qual params body scope [] kws f fd) (P : KwP params pos kwo) (hk : kws ≠ []) (ks : List Str) (ms : List (Str × V)) (hms : ∀ q ∈ ms, q ∈ kws) (nd : (pos ++ kwo).Nodup) (ndk : ks.Nodup) (hkk : ks.all (fun k => kwo.contains k) = true) (mn : List Str) (hmn : ms.map (·.1) = mn) (hm : (kwo.filter fun n => !ks.contains n) = mn) (perm : List Nat) (hp : (kwo.map fun n => ixS n (ks ++ mn)) = perm.map some) :
    ∃ g, KBn K fd (pos ++ kwo) pos.length ks g (fun vs zs => vs ++ perm.map fun i => (zs ++ ms.map (·.2)).getD i .non) := by
  subst hmn
  obtain ⟨oc, od, dV, kV, doc, pm, an, cdv, ct, osl, rfl, lk, hcd, hD, hK⟩ := F.ex
  rcases hD with ⟨_, rfl⟩ | ⟨e, _⟩
  · rcases hK with e | ⟨D, rfl, hq⟩
    · exact absurd e hk
    · obtain ⟨mv, hl, rk, hks⟩ := kwd_vals (ms := ms) fun q hm => hq q (hms q hm)
      have nk := (List.nodup_append.mp nd).2.1
      have nm : (ms.map (·.1)).Nodup := by rw [← hm]; exact nk.filter _
      have lm : mv.length = (ms.map (·.1)).length := by rw [hl, List.length_map]
      refine ⟨fun us ws => us ++ perm.map fun i => (ws ++ mv).getD i .none, ⟨fun s us ws X l1 l2 => ?_, fun r1 r2 => r1.append (vals_perm (r2.append rk) perm)⟩⟩
      refine BindsTo.of_looks fun M => ?_
      have hkk' : ∀ k ∈ ks, kwo.contains k = true := fun k h => List.all_eq_true.mp hkk k h
      have h := looks_kw (M := M) (gk := ks) (ws := ws) (val := fun n => (((ms.map (·.1)).zip mv).lookup n).getD .none) X (qual := qual) (x := x) (body := body) (scope := scope) (D := D) (doc := doc) (pm := pm) (cdv := cdv) (ct := ct) (an := an) P.p0 P.p P.k P.v P.w l1 l2 hkk' (by
        refine List.nodup_append.mpr ⟨(List.nodup_append.mp nd).1, ndk, fun a ha b hb => (List.nodup_append.mp nd).2.2 a ha b (by have := hkk' b hb; simpa using this)⟩) nk (fun n hn => by
        cases e : pos.contains n with
        | false => rfl
        | true => exact absurd rfl ((List.nodup_append.mp nd).2.2 n (by simpa using e) n hn)) (fun n hn hc => by
        have hin : n ∈ ms.map (·.1) := by
          rw [← hm]
          exact List.mem_filter.mpr ⟨hn, by rw [hc]; rfl⟩
        have := look_zip (n := n) lm
        have hc : (ms.map (·.1)).contains n = true := by simpa using hin
        rw [hc] at this
        cases q : ((ms.map (·.1)).zip mv).lookup n with
        | none => rw [q] at this; cases this
        | some v => exact hks _ (look_mem q))
      rw [hm, zip_val nm lm] at h
      have lall : (ws ++ mv).length = (ks ++ ms.map (·.1)).length := by rw [List.length_append, List.length_append, l2, lm]
      have e2 : pos.zip us ++ ks.zip ws ++ (ms.map (·.1)).zip mv = pos.zip us ++ (ks ++ ms.map (·.1)).zip (ws ++ mv) := by
        rw [zip_app l2, List.append_assoc]
      rw [e2, List.filterMap_append] at h
      have e3 : (pos.filterMap fun n => ((pos.zip us ++ (ks ++ ms.map (·.1)).zip (ws ++ mv)).lookup n).map (n, ·)) = pos.zip us := by
        refine Eq.trans (fm_congr fun n hn => ?_) (self_zip (List.nodup_append.mp nd).1 l1)
        rw [look_app]
        have := look_zip (n := n) l1
        have hc : pos.contains n = true := by simpa using hn
        rw [hc] at this
        cases q : (pos.zip us).lookup n with
        | none => rw [q] at this; cases this
        | some v => rfl
      have e4 : (kwo.filterMap fun n => ((pos.zip us ++ (ks ++ ms.map (·.1)).zip (ws ++ mv)).lookup n).map (n, ·)) = kwo.zip (perm.map fun i => (ws ++ mv).getD i .none) := by
        refine Eq.trans (fm_congr fun n hn => ?_) (perm_zip lall hp)
        rw [look_app]
        have := look_zip (n := n) l1
        have hc : pos.contains n = false := by
          cases e : pos.contains n with
          | false => rfl
          | true => exact absurd rfl ((List.nodup_append.mp nd).2.2 n (by simpa using e) n hn)
        rw [hc] at this
        cases q : (pos.zip us).lookup n with
        | none => rfl
        | some v => rw [q] at this; cases this
      rw [e3, e4] at h
      rw [zip_app l1]
      exact h
  · exact absurd rfl e
end
theorem pe_mkKp {X : Cx} {k j n : Nat} {C : Addr} {x : Str} {ks : List Str} {sp : Sp} {gV : List V → List V → List V} {p pos : Pos} {e : Expr} {es : List Expr} {kws : List Keyword} {t tk : TA} (M : MkK X.prog X.w X.K X.mg X.base k x C (n + 1) ks sp gV) (hr : Room j X.A) (hk : k + 1 ≤ j) (hg : Gl X x) (ha : PA X (e :: es) t) (hkw : PK X kws tk)
    (hall : (backToKw pos (keywordEach kws X.env)).all (·.1.isSome) = true := by rfl) (hks : (backToKw pos (keywordEach kws X.env)).filterMap (·.1) = ks := by rfl) (hdb : (x == ("__debug__" : Str)) = false := by decide)
    (he : starEach (e :: es) X.env = (false, eval e X.env) :: starEach es X.env := by rfl) (hpl : ((backTo pos (starEach (e :: es) X.env)).any (·.1) || (backToKw pos (keywordEach kws X.env)).any (·.1.isNone)) = false := by rfl) :
    PE X (.Call (.Name x p) (e :: es) kws pos) (tMakeK C n ks.length sp gV E0 t tk) := by
  obtain ⟨f, fd, ps, g, M, F, b, hm⟩ := M
  exact pe_makeK M F (hr.mono hk) hg hm b pass0 ha hkw hall hks hdb he hpl
def permD (perm : List Nat) (xs : List D) : List D := perm.map fun i => xs.getD i .non
theorem rel_getD {K : PySem.W.Frag} {cl : Cl} {ρ : List Addr} {H : Hp} : ∀ {ds : List D} {vs : List V}, RelAll K cl ρ H ds vs → ∀ i, RelD K cl ρ H (ds.getD i .non) (vs.getD i .non)
  | [], vs, h, i => by
    cases h
    exact .non
  | d :: ds, vs, h, i => by
    cases h with
    | cons h1 h2 =>
      cases i with
      | zero => exact h1
      | succ i => exact rel_getD h2 i
theorem rel_perm {K : PySem.W.Frag} {cl : Cl} {ρ : List Addr} {H : Hp} {ds : List D} {vs : List V} (h : RelAll K cl ρ H ds vs) : ∀ perm : List Nat, RelAll K cl ρ H (permD perm ds) (perm.map fun i => vs.getD i .non)
  | [] => .nil
  | i :: perm => .cons (rel_getD h i) (rel_perm h perm)
end Pw
/-! methods, lists in fields that change, == through the store, any -/
namespace Pw
open PySem PySem.Spec PyProof.Rows L2 Evl Lw
theorem call_run {K : PySem.W.Frag} {cl : Cl} {M : Addr → Prop} {ρ1 : List Addr} {S1 : Sto} {H1 : Hp} {F : PFn} {E : XK} {ds : List D} {vs : List V} {k : D → Prop} {Q : VK} (g1 : G K cl M ρ1 S1 H1) (r : RelAll K cl ρ1 (cut (NM M ρ1) H1) ds vs) (h : callk F S1 ds k)
    (q : ∀ H' d v, Stp M ρ1 H1 ρ1 H' → G K cl M ρ1 S1 H' → RelD K cl ρ1 (cut (NM M ρ1) H') d v → k d → Q v H') : spP K cl F vs H1 Q E := by
  obtain ⟨hn, hF⟩ := h
  by_cases hr : noRefs ds = true
  · rw [rs_id ds hr] at hF
    have hset : ∀ a, NM (NM M ρ1) [] a ↔ NM M ρ1 a := fun a => ⟨fun z => z.elim id (fun m => by cases m), .inl⟩
    have e1 : ∀ H2 : Hp, Ex (cut (NM M ρ1) H2) (cut (NM (NM M ρ1) []) H2) := fun H2 => cut_ex fun a o n q => ⟨fun z => n ((hset a).mp z), q⟩
    have e2 : ∀ H2 : Hp, Ex (cut (NM (NM M ρ1) []) H2) (cut (NM M ρ1) H2) := fun H2 => cut_ex fun a o n q => ⟨fun z => n ((hset a).mpr z), q⟩
    refine ⟨NM M ρ1, ds, _, fun a m => m.elim (g1.live a) g1.liveR, (r.up (List.prefix_refl _) (e1 H1) _ _).drop _ _ hr, hF, fun H' d v s rd ⟨_, hk⟩ => ?_⟩
    obtain ⟨g2, s2⟩ := g1.same (H' := H') (fun a n o ho => (cut_ex' s.ex (fun z => n ((hset a).mp z)) ho).2) s.keep
    exact q H' d v s2 g2 (rd.up (List.nil_prefix) (e2 H') _ _) hk
  · let Vw : Addr → Prop := fun a => ∃ (n : Nat) (xs : List D), ρ1[n]? = some a ∧ S1[n]? = some (.lst xs)
    let M' : Addr → Prop := fun a => NM M ρ1 a ∧ ¬ Vw a
    have hset : ∀ a, NM M' [] a → NM M ρ1 a ∧ ¬ Vw a := fun a z => z.elim id (fun m => by cases m)
    have e1 : ∀ H2 : Hp, Ex (cut (NM M ρ1) H2) (cut (NM M' []) H2) := fun H2 => cut_ex fun a o n q => ⟨fun z => n (hset a z).1, q⟩
    have hview : ∀ a, Vw a → ∃ ws, H1 a = some (.lst ws) := fun a ⟨n, xs, hn, hs⟩ => by
      obtain ⟨ws, hw, _⟩ := g1.lstAt hn hs
      exact ⟨ws, hw⟩
    have rels : ∀ (ds : List D) (vs : List V), noRefs (ds.map (rs S1)) = true → RelAll K cl ρ1 (cut (NM M ρ1) H1) ds vs → RelAll K cl [] (cut (NM M' []) H1) (ds.map (rs S1)) vs := by
      intro ds
      induction ds with
      | nil =>
        intro vs _ h
        cases h
        exact .nil
      | cons d ds ih =>
        intro vs p h
        rw [List.map_cons] at p ⊢
        have p' : (rs S1 d).noRef = true ∧ noRefs (ds.map (rs S1)) = true := by simpa [noRefs] using p
        cases h with
        | @cons _ _ v0 _ h1 h2 =>
          refine .cons ?_ (ih _ p'.2 h2)
          have main : RelD K cl ρ1 (cut (NM M' []) H1) (rs S1 d) v0 := by
            cases h1 with
            | @ref n a hn =>
              have pr := p'.1
              unfold rs at pr ⊢
              simp only at pr ⊢
              split at pr
              · rename_i xs he
                obtain ⟨ws, hw, rw'⟩ := g1.lstAt hn he
                refine .lst ?_ (rw'.up (List.prefix_refl _) (e1 H1) _ _)
                rw [cut_no fun z => (hset a z).2 ⟨n, xs, hn, he⟩]
                exact hw
              · simp [D.noRef] at pr
            | non => exact .non
            | bl => exact .bl _
            | int => exact .int _
            | str => exact .str _
            | ty => exact .ty _
            | tup hs ha => exact (RelD.tup hs ha).up (List.prefix_refl _) (e1 H1) _ _
            | lst hs ha => exact (RelD.lst hs ha).up (List.prefix_refl _) (e1 H1) _ _
            | scr hs ha => exact (RelD.scr hs ha).up (List.prefix_refl _) (e1 H1) _ _
            | obj hs hk ha => exact (RelD.obj hs hk ha).up (List.prefix_refl _) (e1 H1) _ _
          exact main.drop _ _ p'.1
    refine ⟨M', ds.map (rs S1), _, fun a m => m.1.elim (g1.live a) g1.liveR, rels ds vs hn r, hF, fun H' d v s rd ⟨hl, hk⟩ => ?_⟩
    have hd : d.noLst = true := hl.elim (fun z => absurd z hr) id
    have keep : ∀ a, NM M ρ1 a → H' a = H1 a := fun a m => by
      by_cases hv : Vw a
      · obtain ⟨ws, hw⟩ := hview a hv
        rw [hw]
        exact (cut_ex' s.ex (fun z => (hset a z).2 hv) hw).2
      · exact s.keep a ⟨m, hv⟩
    obtain ⟨g2, s2⟩ := g1.same (H' := H') (fun a n o ho => (cut_ex' s.ex (fun z => n (hset a z).1) ho).2) keep
    refine q H' d v s2 g2 (RelD.noL (fun a o ho hl => ?_) d v hd rd) hk
    by_cases z : NM M' [] a
    · rw [cut_yes z] at ho
      cases ho
    · rw [cut_no z] at ho
      have n : ¬ NM M ρ1 a := fun m => by
        have hv : Vw a := Classical.byContradiction fun hv => z (.inl ⟨m, hv⟩)
        obtain ⟨ws, hw⟩ := hview a hv
        rw [keep a m, hw] at ho
        cases ho
        exact hl ws rfl
      rw [cut_no n]
      exact ho
section
variable {K : PySem.W.Frag} {cl : Cl} {te ta tv : TE} {pe pa pv : PEx} {tr : TA} {pr : PAx}
/-- list(xs), that will change -/
def pLstC (pa : PAx) : PEx := fun env S k => pa env S fun xs S1 => ∃ x ds, xs = [x] ∧ itemsOf S1 x = some ds ∧ k (.ref S1.length) (S1 ++ [.lst ds])
theorem sm_lstC (ha : SmA K cl tr pr) : SmE K cl (tCB (uLst K) tr) (pLstC pr) := fun M ρ S H env σ g re k Q h q =>
  ha M ρ S H env σ g re _ _ h fun ρ1 H1 S1 xs vs s1 g1 r1 ⟨x, ds, hx, hd, hk⟩ => by
    subst hx
    obtain ⟨v, rfl, rx⟩ := all1 r1
    obtain ⟨a, ws, rfl, hs, r2⟩ := items_sq g1 rx hd
    refine ⟨a, ws, rfl, hs, fun p hp => ?_⟩
    obtain ⟨g2, s2⟩ := g1.alloc (o := .lst ws) hp (.lst r2)
    exact q (ρ1 ++ [p]) _ _ _ _ (s1.trans s2) g2 (.ref (by rw [← g1.len, List.getElem?_append_right (Nat.le_refl _), Nat.sub_self]; rfl)) hk
/-- self.f op= e, of ints -/
def pFldAug (f : Str) (cs : List Nat) (op : Int → Int → Int) (pa pv : PEx) : PSx := fun P env S => pa env S fun x S1 => ∃ n c ks ds i, x = .ref n ∧ S1[n]? = some (.obj c ks ds) ∧ c ∈ cs ∧ (ks.zip ds).lookup f = some (.int i) ∧
  pv env S1 fun d S2 => ∃ j ds', d = .int j ∧ S2[n]? = some (.obj c ks ds') ∧ ks.length < 1000 ∧ P.nx env (S2.set n (.obj c (putK f ks) (putD f (.int (op i j)) ks ds')))
theorem sm_fldAug {f : Str} {cs : List Nat} {op : Int → Int → Int} (hc : ∀ c ∈ cs, Cls K (cl c) ∧ NoAttr K (cl c) f) (ha : SmE K cl ta pa) (hv : SmE K cl tv pv) : SmS K cl (sFldAug K ta tv (ipI op) f) (pFldAug f cs op pa pv) := fun M ρ S H env σ g re P D h e =>
  ha M ρ S H env σ g re _ _ h fun ρ1 H1 S1 x v s1 g1 rx ⟨n, c, ks, ds, i, hx, hs, hcs, hlk, h1⟩ => by
    subst hx
    cases rx with
    | @ref _ a hn =>
      obtain ⟨u, hu, r⟩ := g1.sto n _ a hs hn
      cases r with
      | @obj _ dx fs _ _ hk2 ra =>
        subst hk2
        obtain ⟨w, hw, rw'⟩ := lookup_rel ra hlk
        refine ⟨a, cl c, dx, fs, w, rfl, hu, (hc c hcs).1, (hc c hcs).2, hw, hv M ρ1 S1 H1 env σ g1 (re.up s1) _ _ h1 fun ρ2 H2 S2 d y s2 g2 rd ⟨j, ds', hd, hs2, hl, hk⟩ => ?_⟩
        subst hd
        have hn2 := pre_get s2.pre hn
        obtain ⟨u2, hu2, r2⟩ := g2.sto n _ a hs2 hn2
        cases r2 with
        | @obj _ dx' fs' _ _ hk3 ra2 =>
          rw [rel_int rw', rel_int rd]
          refine ⟨i, j, rfl, rfl, dx', fs', hu2, by rw [← List.length_map (f := fun (p : Str × V) => p.1), hk3]; exact hl, ?_⟩
          rw [← hk3] at hk
          obtain ⟨i1, i2⟩ := put_rel (f := f) (RelD.int (K := K) (cl := cl) (ρ := ρ2) (H := cut (NM M ρ2) H2) (op i j)) ra2
          obtain ⟨g3, s3⟩ := g2.put (o := .ins (cl c) dx' (putF f (.int (op i j)) fs')) hn2 (.obj i1 i2)
          exact e.nx ρ2 _ _ env σ ((s1.trans s2).trans s3) g3 (re.up ((s1.trans s2).trans s3)) hk
theorem lookup_no {f : Str} : ∀ {fs : List (Str × V)}, ixS f (fs.map (·.1)) = none → fs.lookup f = none
  | [], _ => rfl
  | (k, v) :: fs, h => by
    rw [List.map_cons] at h
    unfold ixS at h
    rw [List.lookup_cons]
    by_cases hk : f = k
    · rw [if_pos hk] at h
      cases h
    · rw [if_neg hk] at h
      have : (f == k) = false := by simpa using hk
      rw [this]
      refine lookup_no ?_
      cases e : ixS f (fs.map (·.1)) with
      | none => rfl
      | some j => rw [e] at h; cases h
/-- an instance of the class c, that has no such field -/
def insOf (S : Sto) (c : Nat) (m : Str) : D → Prop
  | .ref n => ∃ ks ds, S[n]? = some (.obj c ks ds) ∧ ixS m ks = none
  | .obj c' ks _ => c' = c ∧ ixS m ks = none
  | _ => False
theorem ins_at {M : Addr → Prop} {ρ : List Addr} {S : Sto} {H : Hp} (g : G K cl M ρ S H) {c : Nat} {m : Str} {x : D} {v : V} (r : RelD K cl ρ (cut (NM M ρ) H) x v) (h : insOf S c m x) : ∃ a dx fs, v = .ref a ∧ H a = some (.ins (cl c) dx fs) ∧ fs.lookup m = none := by
  cases r with
  | @obj a dx c' fs ks ds hs hk ha =>
    obtain ⟨h1, h2⟩ := h
    subst h1 hk
    exact ⟨a, dx, fs, rfl, cut_sub _ _ hs, lookup_no h2⟩
  | @ref n a hn =>
    obtain ⟨ks, ds, hs, h2⟩ := h
    obtain ⟨u, hu, r⟩ := g.sto n _ a hs hn
    cases r with
    | @obj _ dx fs _ _ hk ra =>
      subst hk
      exact ⟨a, dx, fs, rfl, hu, lookup_no h2⟩
  | _ => exact h.elim
/-- o.m(..), the method's promise speaks of the store -/
def pMethS (c : Nat) (m : Str) (R : SFn) (pa : PEx) (pr : PAx) : PEx := fun env S k => pa env S fun x S1 => insOf S1 c m x ∧ pr env S1 fun xs S2 => R (x :: xs) S2 k
theorem sm_methS {c : Nat} {m : Str} {R : SFn} {E : XK} (ha : SmE K cl ta pa) (hr : SmA K cl tr pr) : SmE K cl (tMeth (cl c) m (spS K cl R) [] E ta tr) (pMethS c m R pa pr) := fun M ρ S H env σ g re k Q h q =>
  ha M ρ S H env σ g re _ _ h fun ρ1 H1 S1 x v s1 g1 rx ⟨hi, h1⟩ => by
    obtain ⟨a, dx, fs, rfl, hH, hl⟩ := ins_at g1 rx hi
    refine ⟨a, dx, fs, rfl, hH, hl, hr M ρ1 S1 H1 env σ g1 (re.up s1) _ _ h1 fun ρ2 H2 S2 xs vs s2 g2 rs hk => ?_⟩
    rw [List.append_nil]
    exact ⟨M, ρ2, S2, x :: xs, k, g2, .cons (rx.up s2.pre s2.ex _ _) rs, hk, fun ρ' H' S' d u s3 g3 rd hk' => q ρ' H' S' d u ((s1.trans s2).trans s3) g3 rd hk'⟩
/-- .. that changes nothing -/
def pMeth (c : Nat) (m : Str) (F : PFn) (pa : PEx) (pr : PAx) : PEx := fun env S k => pa env S fun x S1 => insOf S1 c m x ∧ pr env S1 fun xs S2 => callk F S2 (x :: xs) fun d => k d S2
theorem sm_meth {c : Nat} {m : Str} {F : PFn} {E : XK} (ha : SmE K cl ta pa) (hr : SmA K cl tr pr) : SmE K cl (tMeth (cl c) m (spP K cl F) [] E ta tr) (pMeth c m F pa pr) := fun M ρ S H env σ g re k Q h q =>
  ha M ρ S H env σ g re _ _ h fun ρ1 H1 S1 x v s1 g1 rx ⟨hi, h1⟩ => by
    obtain ⟨a, dx, fs, rfl, hH, hl⟩ := ins_at g1 rx hi
    refine ⟨a, dx, fs, rfl, hH, hl, hr M ρ1 S1 H1 env σ g1 (re.up s1) _ _ h1 fun ρ2 H2 S2 xs vs s2 g2 rs hk => ?_⟩
    rw [List.append_nil]
    exact call_run g2 (.cons (rx.up s2.pre s2.ex _ _) rs) hk fun H' d u s3 g3 rd hk' => q ρ2 H' S2 d u ((s1.trans s2).trans s3) g3 rd hk'
/-- == of what rests on the store -/
def eqkF : Op2 := fun S x y k => (x.frz S).pure = true ∧ (y.frz S).pure = true ∧ (x.frz S).dep ≤ 60 ∧ k (.bl (D.eqv (x.frz S) (y.frz S)))
def nekF : Op2 := fun S x y k => (x.frz S).pure = true ∧ (y.frz S).pure = true ∧ (x.frz S).dep ≤ 60 ∧ k (.bl (!D.eqv (x.frz S) (y.frz S)))
theorem smr_eqF : SmR K cl (rEqP K) eqkF := fun M ρ S H x y v w g rx ry k Q ⟨h1, h2, h3, hk⟩ q =>
  ⟨_, _, dp_of _ _ h1 ((frz_rel g _ _ rx).up (List.prefix_refl _) cut_sub _ _), dp_of _ _ h2 ((frz_rel g _ _ ry).up (List.prefix_refl _) cut_sub _ _), plain_py _, plain_py _, h3, q H _ _ .refl g (.bl _) hk⟩
theorem smr_neF : SmR K cl (rNeP K) nekF := fun M ρ S H x y v w g rx ry k Q ⟨h1, h2, h3, hk⟩ q =>
  ⟨_, _, dp_of _ _ h1 ((frz_rel g _ _ rx).up (List.prefix_refl _) cut_sub _ _), dp_of _ _ h2 ((frz_rel g _ _ ry).up (List.prefix_refl _) cut_sub _ _), plain_py _, plain_py _, h3, q H _ _ .refl g (.bl _) hk⟩
/-- any(a list of truths), all(..) -/
def anyk : OpN := fun S xs k => ∃ (x : D) (bs : List Bool), xs = [x] ∧ listOf S x = some (bs.map D.bl) ∧ k (.bl (bs.any id))
def allk : OpN := fun S xs k => ∃ (x : D) (bs : List Bool), xs = [x] ∧ listOf S x = some (bs.map D.bl) ∧ k (.bl (bs.all id))
theorem rel_bls {ρ : List Addr} {H : Hp} : ∀ {bs : List Bool} {vs : List V}, RelAll K cl ρ H (bs.map D.bl) vs → vs = bs.map V.bl
  | [], vs, h => by cases h; rfl
  | b :: bs, vs, h => by
    cases h with
    | cons h1 h2 => rw [rel_bl h1, rel_bls h2]; rfl
theorem smc_any : SmC K cl (rAny K) anyk := by
  rintro M ρ S H xs vs g r k Q ⟨x, bs, rfl, hl, hk⟩ q
  obtain ⟨v, rfl, r1⟩ := all1 r
  obtain ⟨a, ws, rfl, hs, r2⟩ := list_at g r1 hl
  rw [rel_bls r2] at hs
  exact ⟨a, bs, rfl, sq_of hs, q H _ _ .refl g (.bl _) hk⟩
theorem smc_all : SmC K cl (rAll K) allk := by
  rintro M ρ S H xs vs g r k Q ⟨x, bs, rfl, hl, hk⟩ q
  obtain ⟨v, rfl, r1⟩ := all1 r
  obtain ⟨a, ws, rfl, hs, r2⟩ := list_at g r1 hl
  rw [rel_bls r2] at hs
  exact ⟨a, bs, rfl, sq_of hs, q H _ _ .refl g (.bl _) hk⟩
end
end Pw
/-! comprehensions whose list will change; min(xs, default=d) -/
namespace Pw
open PySem PySem.Spec PyProof.Rows L2 Evl Lw
/-- min(l, default=d) of alike data -/
def rMinD (K : PySem.W.Frag) : List V → List V → Hp → VK → Prop := fun xs zs H Q => ∃ (a : Addr) (vs : List V) (ds : List PyData) (dv : V), xs = [.ref a] ∧ zs = [dv] ∧ SqL K H a vs ∧ DpAll K H vs ds ∧ PySem.W.AlikeAll ds ∧ PyData.depthAll ds ≤ 60 ∧ (ds = [] → Q dv H) ∧
  ∀ (i : Nat) (v : V) (y : PyData) (ys : List PyData), ds = y :: ys → vs[i]? = some v → ds[i]? = some (PySem.W.minD y ys) → Q v H
theorem vals_at : ∀ {xs : List V} {us : List Value} {i : Nat} {v : Value}, Vals xs us → us[i]? = some v → ∃ x, xs[i]? = some x ∧ RelV x v
  | [], _, i, v, h, hv => by
    cases h
    simp at hv
  | x :: xs, _, i, v, h, hv => by
    cases h with
    | cons h1 h2 =>
      cases i with
      | zero =>
        cases hv
        exact ⟨x, rfl, h1⟩
      | succ i =>
        have q := vals_at (xs := xs) (i := i) h2 (by simpa using hv)
        simpa using q
theorem reads_at {h : Heap} : ∀ {us : List Value} {ds : List PyData} {as : List Addr} {i : Nat} {v : Value}, ReadsAll h us ds as → us[i]? = some v → ∃ d bs, ds[i]? = some d ∧ Reads h v d bs
  | [], _, _, i, v, r, hv => by simp at hv
  | u :: us, ds, as, i, v, r, hv => by
    cases r with
    | cons h1 h2 =>
      cases i with
      | zero =>
        cases hv
        exact ⟨_, _, rfl, h1⟩
      | succ i =>
        have q := reads_at (us := us) (i := i) h2 (by simpa using hv)
        simpa using q
theorem cr_minD {X : Cx} (hc : X.calm = true) (hu : X.A.units + 64 < cLine) : CallRK X (.builtin "min") [Str.ofString "default"] (rMinD X.K) := by
  intro pins s σ H xs zs us ws Q I r rz h
  obtain ⟨a, vs, ds, dv, rfl, rfl, hs, hd, ha, hdep, h0, h1⟩ := h
  obtain ⟨its, rv, hl, _⟩ := I.list hs
  rw [Vals.ref1 r]
  obtain ⟨w1, rfl, e1⟩ := vals1 rz
  obtain ⟨as, rr⟩ := Dp.readsAll I ds vs its hd rv
  refine PySem.W.min_list_default (vs := its.toArray) (xs := ds) (as := as) (I.ok.hd hc) hl.isList (by rw [List.toList_toArray]; exact rr) ha (by omega) (fun hz h' tk hk => ⟨dv, H, I.kept hk, e1, h0 hz⟩) (fun y ys i v h' tk bs hds hv rd hk => ?_)
  rw [List.getElem?_toArray] at hv
  obtain ⟨x, hx, rx⟩ := vals_at rv hv
  obtain ⟨d, cs, hd, r1⟩ := reads_at rr hv
  obtain ⟨e, _⟩ := PyProof.Rows.reads_det (fun _ _ e _ => hk _ _ e) r1 rd
  exact ⟨x, H, I.kept hk, rx, h1 i x y ys hds hx (by rw [hd, e])⟩
/-- a comprehension whose list will change -/
def pLcM (pi : PIx) (g : PGx) (pt : PTx) (pe : PEx) (ws : List Nat) : PEx := fun env S k => pLc pi g pt pe ws env S fun d S1 => ∃ ds, d = .lst ds ∧ k (.ref S1.length) (S1 ++ [.lst ds])
section
variable {K : PySem.W.Frag} {cl : Cl} {te ta tb : TE} {pe pa pb : PEx} {tt : TT} {pt : PTx} {tg : TG} {pg : PGx}
theorem sm_lcM {wi : TI} {pi : PIx} {ws : List Nat} (hi : SmI K cl wi pi) (hok : GOk tg ws) (hg : SmG K cl tg pg) (ht : SmT K cl tt pt) (he : SmE K cl te pe) : SmE K cl (tLc wi tg tt te ws) (pLcM pi pg pt pe ws) := fun M ρ S H env σ g re k Q h q =>
  hi M ρ S H env σ g re _ _ h fun ρ1 H1 S1 src ds J s1 g1 ok ⟨I, hI0, hIs, hId⟩ => by
    intro Dl hD
    obtain ⟨gD, ex0, k0⟩ := g1.mp (o := .lst []) hD
    have hDn : ¬ NM M ρ1 Dl := g1.off hD
    refine ⟨fun i m H' => m = ds.length - i ∧ i ≤ ds.length ∧ ∃ ρ' S' acc vs, LcSt K cl M ρ1 H1 Dl ρ' S' acc vs H' ∧ I i acc S', ⟨ds.length, by omega, Nat.zero_le _, ρ1, S1, [], [], ⟨List.prefix_refl _, ex0, k0, gD, upd_same, .nil⟩, hI0⟩, ?_⟩
    rintro i m H' ⟨rfl, hi, ρ', S', acc, vs, c, hI⟩
    by_cases hlt : i < ds.length
    · have hd : ds[i]? = some ds[i] := List.getElem?_eq_getElem hlt
      obtain ⟨hal, hit, hb'⟩ := hIs i _ acc S' hd hI
      obtain ⟨o1, _, o3⟩ := ok (MP M Dl) ρ' S' H' c.pre c.ex c.g hit
      refine .inr ⟨o1 i hlt, fun H2 => ∃ ρ' S' acc vs, LcSt K cl M ρ1 H1 Dl ρ' S' acc vs H2 ∧ I (i + 1) acc S', fun H2 p => ⟨ds.length - (i + 1), by omega, rfl, hlt, p⟩, fun y H2 hy => ?_⟩
      obtain ⟨gy, sy, d, hd', r⟩ := o3 i hlt y H2 hy
      have c := c.step sy gy
      rw [hd] at hd'
      cases hd'
      have reW : RE K cl ρ' (cut (NM (MP M Dl) ρ') H2) (wipeE env ws) (wipe σ ws) := by
        refine RE.wipe ?_ ws
        have r1 := re.up s1
        exact ⟨r1.len, fun j d hj => by
          obtain ⟨v, h1, h2⟩ := r1.at' j d hj
          exact ⟨v, h1, h2.up c.pre c.ex d v⟩⟩
      refine hok.mono _ _ _ _ _ (fun σ2 H3 ⟨⟨l1, k1⟩, q1⟩ => ⟨wipe_eq (l1.trans (wipe_length σ ws)) fun j hj => by rw [k1 j hj, wipe_get, if_neg hj], q1⟩) (hok.own _ _ _ _ (hg (MP M Dl) ρ' S' H2 (wipeE env ws) (wipe σ ws) _ y c.g reW r _ _ hb' fun ρ3 H3 S3 env3 σ3 s3 g3 re3 h3 => ?_))
      · refine ht (MP M Dl) ρ3 S3 H3 env3 σ3 g3 re3 _ _ h3 fun ρ4 H4 S4 b s4 g4 h4 => ?_
        have c4 := c.step (s3.trans s4) g4
        cases b with
        | true =>
          rw [if_pos rfl] at h4 ⊢
          refine he (MP M Dl) ρ4 S4 H4 env3 σ3 g4 (re3.up s4) _ _ h4 fun ρ5 H5 S5 d5 v5 s5 g5 r5 h5 => ?_
          have c5 := c4.step s5 g5
          obtain ⟨g6, e6⟩ := g5.setMP (o := .lst (vs ++ [v5]))
          refine ⟨vs, c5.at', sz_lt (by rw [c5.rel.len]; omega), ρ5, S5, acc ++ [d5], vs ++ [v5], ⟨c5.pre, c5.ex.trans e6, fun a m => ?_, g6, upd_same, (c5.rel.snoc r5).up (List.prefix_refl _) e6 _ _⟩, h5⟩
          have ne : a ≠ Dl := fun z => hDn (.inl (z ▸ m))
          rw [upd_ne ne]
          exact c5.keep a m
        | false =>
          rw [if_neg (by decide)] at h4 ⊢
          exact ⟨ρ4, S4, acc, vs, c4, h4⟩
    · have hi' : i = ds.length := by omega
      subst hi'
      obtain ⟨hit, ds0, hds, hk⟩ := hId acc S' hI
      cases hds
      obtain ⟨_, o2, _⟩ := ok (MP M Dl) ρ' S' H' c.pre c.ex c.g hit
      refine .inl ⟨o2 _ (Nat.le_refl _), ?_⟩
      have hnr : Dl ∉ ρ' := fun m => c.g.dis Dl m (.inr rfl)
      have exA : Ex (cut (NM (MP M Dl) ρ') H') (cut (NM M (ρ' ++ [Dl])) H') := cut_ex fun a o n q => ⟨fun z => z.elim (fun m => n (.inl (.inl m))) fun m => (List.mem_append.mp m).elim (fun m => n (.inr m)) fun m => n (.inl (.inr (List.mem_singleton.mp m))), q⟩
      have hpre : ρ' <+: ρ' ++ [Dl] := List.prefix_append _ _
      have g2 : G K cl M (ρ' ++ [Dl]) (S' ++ [.lst acc]) H' := by
        refine ⟨fun a m => c.g.live a (.inl m), fun a ha => ?_, ?_, by rw [List.length_append, List.length_append, c.g.len]; rfl, fun n o a hs ha => ?_⟩
        · rcases List.mem_append.mp ha with ha | ha
          · exact fun m => c.g.dis a ha (.inl m)
          · rw [List.mem_singleton.mp ha]
            exact fun m => hDn (.inl m)
        · refine List.nodup_append.mpr ⟨c.g.nd, by simp, fun a ha b hb z => ?_⟩
          rw [List.mem_singleton.mp hb] at z
          exact hnr (z ▸ ha)
        · by_cases hn : n < S'.length
          · rw [List.getElem?_append_left hn] at hs
            rw [List.getElem?_append_left (by rw [c.g.len]; exact hn)] at ha
            obtain ⟨u, hu, r⟩ := c.g.sto n o a hs ha
            exact ⟨u, hu, r.up hpre exA⟩
          · have hl := (List.getElem?_eq_some_iff.mp hs).1
            rw [List.length_append] at hl
            have hn' : n = S'.length := by
              have : [SO.lst acc].length = 1 := rfl
              omega
            subst hn'
            rw [List.getElem?_append_right (Nat.le_refl _), Nat.sub_self] at hs
            rw [List.getElem?_append_right (by rw [c.g.len]; exact Nat.le_refl _), c.g.len, Nat.sub_self] at ha
            cases hs
            cases ha
            exact ⟨_, c.at', .lst (c.rel.up hpre exA _ _)⟩
      have s2 : Stp M ρ1 H1 (ρ' ++ [Dl]) H' := ⟨c.pre.trans hpre, c.ex.trans exA, c.keep⟩
      exact q (ρ' ++ [Dl]) H' _ _ _ (s1.trans s2) g2 (.ref (by rw [← c.g.len, List.getElem?_append_right (Nat.le_refl _), Nat.sub_self]; rfl)) hk
/-- min(l, default=d) -/
def pMinDef (pa pb : PEx) : PEx := fun env S k => pa env S fun x S1 => pb env S1 fun y S2 => ∃ ds, listOf S2 x = some ds ∧ pureAll ds = true ∧ PySem.W.AlikeAll (pyAll ds) ∧ PyData.depthAll (pyAll ds) ≤ 60 ∧ (ds = [] → k y S2) ∧
  ∀ (i : Nat) (d : D) (z : PyData) (zs : List PyData), pyAll ds = z :: zs → ds[i]? = some d → d.py = PySem.W.minD z zs → k d S2
theorem pyAll_at : ∀ {ds : List D} {i : Nat} {z : PyData}, (pyAll ds)[i]? = some z → ∃ d, ds[i]? = some d ∧ d.py = z
  | [], i, z, h => by simp [pyAll] at h
  | d :: ds, 0, z, h => by
    cases h
    exact ⟨d, rfl, rfl⟩
  | d :: ds, i + 1, z, h => by
    have q := pyAll_at (ds := ds) (i := i) (by simpa [pyAll] using h)
    simpa using q
theorem sm_minDef (ha : SmE K cl ta pa) (hb : SmE K cl tb pb) : SmE K cl (tCKw (rMinD K) (tCons ta tNil) (tCons tb tNil)) (pMinDef pa pb) := fun M ρ S H env σ g re k Q h q =>
  ha M ρ S H env σ g re _ _ h fun ρ1 H1 S1 x v s1 g1 rx h1 => hb M ρ1 S1 H1 env σ g1 (re.up s1) _ _ h1 fun ρ2 H2 S2 y w s2 g2 ry ⟨ds, hd, hp, hal, hdep, hk0, hk1⟩ => by
    obtain ⟨a, vs, rfl, hs, r2⟩ := list_at g2 (rx.up s2.pre s2.ex _ _) hd
    refine ⟨a, vs, pyAll ds, w, rfl, rfl, sq_of hs, dps_of ds vs hp r2.full, hal, hdep, fun h0 => ?_, fun i u z zs hz hu hi => ?_⟩
    · have : ds = [] := by
        cases ds with
        | nil => rfl
        | cons d ds => simp [pyAll] at h0
      exact q ρ2 H2 S2 y w (s1.trans s2) g2 ry (hk0 this)
    · obtain ⟨d, hd1, hd2⟩ := pyAll_at hi
      obtain ⟨u', hu', ru⟩ := r2.get hd1
      rw [hu] at hu'
      cases hu'
      exact q ρ2 H2 S2 d u (s1.trans s2) g2 ru (hk1 i d z zs hz hd1 hd2)
end
end Pw
/-! Pw14: dicts whose keys are data, in the store -/
namespace Pw
open PySem PySem.Spec PyProof.Rows L2 Evl Lw
def getKv (kvs : List (D × D)) (k : NestedKey) : Option D := (kvs.find? fun p => decide (kOf p.1 = some k)).map (·.2)
def hasKv (kvs : List (D × D)) (k : NestedKey) : Bool := kvs.any fun p => decide (kOf p.1 = some k)
def putKv (kvs : List (D × D)) (k : NestedKey) (x y : D) : List (D × D) := if hasKv kvs k = true then kvs.map (fun p => if kOf p.1 = some k then (p.1, y) else p) else kvs ++ [(x, y)]
section
variable {K : PySem.W.Frag} {cl : Cl} {M : Addr → Prop} {ρ : List Addr} {S : Sto} {H : Hp} {n : Nat} {a : Addr} {kvs : List (D × D)} {l : List Dk.EnV} {k : NestedKey}
theorem kv_mem {P : D × D → Dk.EnV → Prop} : ∀ {kvs : List (D × D)} {l : List Dk.EnV}, Paired P kvs l → ∀ e ∈ l, ∃ p ∈ kvs, P p e
  | _, _, .nil, _, h => by cases h
  | _, _, .cons h t, e, he => by
    rcases List.mem_cons.mp he with rfl | he
    · exact ⟨_, List.mem_cons_self, h⟩
    · obtain ⟨p, hp, q⟩ := kv_mem t e he
      exact ⟨p, List.mem_cons_of_mem _ hp, q⟩
theorem G.dctAt (g : G K cl M ρ S H) (hn : ρ[n]? = some a) (hs : S[n]? = some (.dct kvs)) : ∃ l, Paired (RelKv K cl ρ (cut (NM M ρ) H)) kvs l ∧ Dk.IsDk K cl.w H a l := by
  obtain ⟨u, hu, r⟩ := g.sto n _ a hs hn
  cases r with
  | @dct _ l hp nd =>
    refine ⟨l, hp, ⟨hu, fun e he => ?_, nd⟩⟩
    obtain ⟨p, _, h1, h2, h3, _⟩ := kv_mem hp e he
    exact ⟨Dk.KV.up cut_sub _ _ (RelD.kv _ _ _ h3 h1), h2⟩
theorem kv_key {p : D × D} {e : Dk.EnV} (h : RelKv K cl ρ H p e) : (kOf p.1 = some k) ↔ (e.1 = k) := by
  rw [h.1]
  exact ⟨fun z => Option.some.inj z, fun z => by rw [z]⟩
theorem kv_has : ∀ {kvs : List (D × D)} {l : List Dk.EnV}, Paired (RelKv K cl ρ H) kvs l → (hasKv kvs k = true ↔ k ∈ l.map (·.1))
  | _, _, .nil => by simp [hasKv]
  | _, _, .cons (a := p) (b := e) h t => by
    have ih := kv_has t
    unfold hasKv at ih ⊢
    rw [List.any_cons, Bool.or_eq_true, ih, List.map_cons, List.mem_cons, decide_eq_true_eq, kv_key h]
    exact ⟨fun z => z.elim (fun q => .inl q.symm) .inr, fun z => z.elim (fun q => .inl q.symm) .inr⟩
theorem kv_get : ∀ {kvs : List (D × D)} {l : List Dk.EnV}, Paired (RelKv K cl ρ H) kvs l → (getKv kvs k = none ∧ Dk.atL l k = none) ∨ ∃ d v, getKv kvs k = some d ∧ Dk.atL l k = some v ∧ RelD K cl ρ H d v
  | _, _, .nil => .inl ⟨rfl, rfl⟩
  | _, _, .cons (a := p) (b := e) h t => by
    unfold getKv Dk.atL
    by_cases z : e.1 = k
    · rw [List.find?_cons_of_pos (by simpa using (kv_key h).mpr z), List.find?_cons_of_pos (by simpa using z)]
      exact .inr ⟨_, _, rfl, rfl, h.2.2.2⟩
    · rw [List.find?_cons_of_neg (by simpa using fun q => z ((kv_key h).mp q)), List.find?_cons_of_neg (by simpa using z)]
      exact kv_get t
theorem kv_map {y : D} {v : V} (hy : RelD K cl ρ H y v) : ∀ {kvs : List (D × D)} {l : List Dk.EnV}, Paired (RelKv K cl ρ H) kvs l → Paired (RelKv K cl ρ H) (kvs.map fun p => if kOf p.1 = some k then (p.1, y) else p) (l.map fun x => if x.1 = k then (x.1, x.2.1, v) else x)
  | _, _, .nil => .nil
  | _, _, .cons (a := p) (b := e) h t => by
    refine .cons ?_ (kv_map hy t)
    show RelKv K cl ρ H (if kOf p.1 = some k then (p.1, y) else p) (if e.1 = k then (e.1, e.2.1, v) else e)
    by_cases z : e.1 = k
    · rw [if_pos z, if_pos ((kv_key h).mpr z)]
      exact ⟨h.1, h.2.1, h.2.2.1, hy⟩
    · rw [if_neg z, if_neg fun q => z ((kv_key h).mp q)]
      exact h
theorem kv_put {x y : D} {u v : V} (hx : kOf x = some k) (hd : k.depth ≤ 8) (hu : RelD K cl ρ H x u) (hy : RelD K cl ρ H y v) (h : Paired (RelKv K cl ρ H) kvs l) : Paired (RelKv K cl ρ H) (putKv kvs k x y) (Dk.putL l k u v) := by
  unfold putKv Dk.putL
  by_cases z : k ∈ l.map (·.1)
  · rw [if_pos z, if_pos ((kv_has h).mpr z)]
    exact kv_map hy h
  · rw [if_neg z, if_neg fun q => z ((kv_has h).mp q)]
    exact Paired.snoc h ⟨hx, hd, hu, hy⟩
theorem kv_len : ∀ {kvs : List (D × D)} {l : List Dk.EnV}, Paired (RelKv K cl ρ H) kvs l → l.length = kvs.length := fun h => (Paired.length h).symm
theorem putL_nd {u v : V} (h : (l.map (·.1)).Nodup) : ((Dk.putL l k u v).map (·.1)).Nodup := by
  unfold Dk.putL
  by_cases z : k ∈ l.map (·.1)
  · rw [if_pos z, List.map_map]
    have : ((fun x : Dk.EnV => x.1) ∘ fun x => if x.1 = k then (x.1, x.2.1, v) else x) = fun x => x.1 := funext fun x => by
      show (if x.1 = k then (x.1, x.2.1, v) else x).1 = x.1
      split <;> rfl
    rw [this]
    exact h
  · rw [if_neg z, List.map_append, List.nodup_append]
    refine ⟨h, by simp, fun a ha b hb e => z ?_⟩
    rw [List.map_singleton, List.mem_singleton] at hb
    subst e
    rw [hb] at ha
    exact ha
end
/-- k in d, k not in d -/
def inDk (neg : Bool) : Op2 := fun S x y k => ∃ n kvs kk, y = .ref n ∧ S[n]? = some (.dct kvs) ∧ kOf x = some kk ∧ kk.depth ≤ 8 ∧ k (.bl (if neg = true then !hasKv kvs kk else hasKv kvs kk))
/-- d[k] -/
def getDk : Op2 := fun S x y k => ∃ n kvs kk d, x = .ref n ∧ S[n]? = some (.dct kvs) ∧ kOf y = some kk ∧ kk.depth ≤ 8 ∧ getKv kvs kk = some d ∧ k d
def pNewD : PEx := fun _ S k => k (.ref S.length) (S ++ [.dct []])
def pPutD (pd py pv : PEx) : PSx := fun P env S => pv env S fun d S1 => pd env S1 fun x S2 => py env S2 fun y S3 => ∃ n kvs kk, x = .ref n ∧ S3[n]? = some (.dct kvs) ∧ kOf y = some kk ∧ kk.depth ≤ 8 ∧ kvs.length < 90000 ∧ P.nx env (S3.set n (.dct (putKv kvs kk y d)))
/-- d.setdefault(k, z) -/
def pSetdD (pd py pz : PEx) : PEx := fun env S k => pd env S fun x S1 => ∃ n, x = .ref n ∧ (∃ kvs, S1[n]? = some (.dct kvs)) ∧ py env S1 fun y S2 => pz env S2 fun z S3 => ∃ kvs kk, S3[n]? = some (.dct kvs) ∧ kOf y = some kk ∧ kk.depth ≤ 8 ∧ kvs.length < 90000 ∧
  (match getKv kvs kk with | some d => k d S3 | none => k z (S3.set n (.dct (putKv kvs kk y z))))
/-- d.get(k, z) -/
def pGet2D (pd py pz : PEx) : PEx := fun env S k => pd env S fun x S1 => ∃ n, x = .ref n ∧ (∃ kvs, S1[n]? = some (.dct kvs)) ∧ py env S1 fun y S2 => pz env S2 fun z S3 => ∃ kvs kk, S3[n]? = some (.dct kvs) ∧ kOf y = some kk ∧ kk.depth ≤ 8 ∧ k ((getKv kvs kk).getD z) S3
/-- d.get(k) -/
def pGet1D (pd py : PEx) : PEx := fun env S k => pd env S fun x S1 => ∃ n, x = .ref n ∧ (∃ kvs, S1[n]? = some (.dct kvs)) ∧ py env S1 fun y S2 => ∃ kvs kk, S2[n]? = some (.dct kvs) ∧ kOf y = some kk ∧ kk.depth ≤ 8 ∧ k ((getKv kvs kk).getD .non) S2
section
variable {K : PySem.W.Frag} {cl : Cl} {td ty tv tz : TE} {pd py pv pz : PEx} {neg : Bool}
theorem any_has {kvs : List (D × D)} {l : List Dk.EnV} {k : NestedKey} {ρ : List Addr} {H : Hp} (h : Paired (RelKv K cl ρ H) kvs l) : (Dk.atL l k).isSome = hasKv kvs k := by
  have e : (Dk.atL l k).isSome = true ↔ k ∈ l.map (·.1) := by
    unfold Dk.atL
    rw [Option.isSome_map, List.find?_isSome]
    simp only [decide_eq_true_eq, List.mem_map]
  rw [Bool.eq_iff_iff, e]
  exact (kv_has h).symm
theorem smr_inDk : SmR K cl (Dk.rInDk K cl.w neg) (inDk neg) := fun M ρ S H x y v w g rx ry k Q ⟨n, kvs, kk, hy, hs, hk, hd, q⟩ h => by
  subst hy
  cases ry with
  | @ref _ a hn =>
    obtain ⟨l, hp, D⟩ := g.dctAt hn hs
    refine ⟨a, l, kk, rfl, D, Dk.KV.up cut_sub _ _ (RelD.kv _ _ _ rx hk), hd, ?_⟩
    rw [any_has hp]
    exact h H _ _ .refl g (.bl _) q
theorem smr_getDk : SmR K cl (Dk.rGetDk K cl.w) getDk := fun M ρ S H x y v w g rx ry k Q ⟨n, kvs, kk, d, hx, hs, hk, hd, hg, q⟩ h => by
  subst hx
  cases rx with
  | @ref _ a hn =>
    obtain ⟨l, hp, D⟩ := g.dctAt hn hs
    rcases kv_get (k := kk) hp with ⟨h1, _⟩ | ⟨d', v', h1, h2, h3⟩
    · rw [hg] at h1
      cases h1
    · rw [hg] at h1
      cases h1
      exact ⟨a, l, kk, v', rfl, D, Dk.KV.up cut_sub _ _ (RelD.kv _ _ _ ry hk), hd, h2, h H _ _ .refl g h3 q⟩
theorem sm_newD : SmE K cl (Dk.tNewDk K cl.w) pNewD := fun M ρ S H env σ g re k Q h q => fun p hp => by
  obtain ⟨g1, s1⟩ := g.alloc (o := Dk.DHO cl.w p []) (so := .dct []) hp (.dct .nil List.nodup_nil)
  have hself : (ρ ++ [p])[S.length]? = some p := by rw [← g.len, List.getElem?_append_right (Nat.le_refl _), Nat.sub_self]; rfl
  exact q _ _ _ _ _ s1 g1 (.ref hself) h
theorem sm_putD (hd : SmE K cl td pd) (hy : SmE K cl ty py) (hv : SmE K cl tv pv) : SmS K cl (Dk.sPutDk K cl.w td ty tv) (pPutD pd py pv) := fun M ρ S H env σ g re P D h e =>
  hv M ρ S H env σ g re _ _ h fun ρ1 H1 S1 d v s1 g1 rd h1 => hd M ρ1 S1 H1 env σ g1 (re.up s1) _ _ h1 fun ρ2 H2 S2 x u s2 g2 rx h2 => hy M ρ2 S2 H2 env σ g2 ((re.up s1).up s2) _ _ h2 fun ρ3 H3 S3 y w s3 g3 ry ⟨n, kvs, kk, hx, hs, hk, hdp, hl, hq⟩ => by
    subst hx
    cases rx with
    | @ref _ a hn =>
      have hn3 := pre_get s3.pre hn
      obtain ⟨l, hp, D⟩ := g3.dctAt hn3 hs
      refine ⟨a, l, kk, rfl, D, Dk.KV.up cut_sub _ _ (RelD.kv _ _ _ ry hk), hdp, by rw [kv_len hp]; omega, ?_⟩
      have s := (s1.trans s2).trans s3
      obtain ⟨g4, s4⟩ := g3.put (o := Dk.DHO cl.w a (Dk.putL l kk w v)) hn3 (.dct (kv_put hk hdp ry (rd.up (s2.trans s3).pre (s2.trans s3).ex _ _) hp) (putL_nd D.nd))
      exact e.nx ρ3 _ _ env σ (s.trans s4) g4 (re.up (s.trans s4)) hq
theorem sm_setdD (hd : SmE K cl td pd) (hy : SmE K cl ty py) (hz : SmE K cl tz pz) : SmE K cl (Dk.tSetdDk K cl.w td ty tz) (pSetdD pd py pz) := fun M ρ S H env σ g re k Q h q =>
  hd M ρ S H env σ g re _ _ h fun ρ1 H1 S1 x u s1 g1 rx ⟨n, hx, ⟨kvs1, hs1⟩, h1⟩ => by
    subst hx
    cases rx with
    | @ref _ a hn =>
      obtain ⟨l1, _, D1⟩ := g1.dctAt hn hs1
      refine ⟨a, l1, rfl, D1, hy M ρ1 S1 H1 env σ g1 (re.up s1) _ _ h1 fun ρ2 H2 S2 y v s2 g2 ry h2 => hz M ρ2 S2 H2 env σ g2 ((re.up s1).up s2) _ _ h2 fun ρ3 H3 S3 z w s3 g3 rz ⟨kvs, kk, hs, hk, hdp, hl, hq⟩ => ?_⟩
      have hn3 := pre_get (s2.trans s3).pre hn
      obtain ⟨l, hp, D⟩ := g3.dctAt hn3 hs
      have s := (s1.trans s2).trans s3
      have ry3 := ry.up s3.pre s3.ex _ _
      refine ⟨l, kk, D, Dk.KV.up cut_sub _ _ (RelD.kv _ _ _ ry3 hk), hdp, by rw [kv_len hp]; omega, fun v' hv' => ?_, fun hn' => ?_⟩
      · rcases kv_get (k := kk) hp with ⟨_, h2⟩ | ⟨d', v2, e1, e2, e3⟩
        · rw [hv'] at h2
          cases h2
        · rw [hv'] at e2
          cases e2
          rw [e1] at hq
          exact q ρ3 H3 S3 _ _ s g3 e3 hq
      · rcases kv_get (k := kk) hp with ⟨e1, _⟩ | ⟨_, _, _, e2, _⟩
        · rw [e1] at hq
          obtain ⟨g4, s4⟩ := g3.put (o := Dk.DHO cl.w a (Dk.putL l kk v w)) hn3 (.dct (kv_put hk hdp ry3 rz hp) (putL_nd D.nd))
          exact q ρ3 _ _ _ _ (s.trans s4) g4 (rz.up s4.pre s4.ex _ _) hq
        · rw [hn'] at e2
          cases e2
theorem sm_get2D (hd : SmE K cl td pd) (hy : SmE K cl ty py) (hz : SmE K cl tz pz) : SmE K cl (Dk.tGet2Dk K cl.w td ty tz) (pGet2D pd py pz) := fun M ρ S H env σ g re k Q h q =>
  hd M ρ S H env σ g re _ _ h fun ρ1 H1 S1 x u s1 g1 rx ⟨n, hx, ⟨kvs1, hs1⟩, h1⟩ => by
    subst hx
    cases rx with
    | @ref _ a hn =>
      obtain ⟨l1, _, D1⟩ := g1.dctAt hn hs1
      refine ⟨a, l1, rfl, D1, hy M ρ1 S1 H1 env σ g1 (re.up s1) _ _ h1 fun ρ2 H2 S2 y v s2 g2 ry h2 => hz M ρ2 S2 H2 env σ g2 ((re.up s1).up s2) _ _ h2 fun ρ3 H3 S3 z w s3 g3 rz ⟨kvs, kk, hs, hk, hdp, hq⟩ => ?_⟩
      have hn3 := pre_get (s2.trans s3).pre hn
      obtain ⟨l, hp, D⟩ := g3.dctAt hn3 hs
      have s := (s1.trans s2).trans s3
      refine ⟨l, kk, D, Dk.KV.up cut_sub _ _ (RelD.kv _ _ _ (ry.up s3.pre s3.ex _ _) hk), hdp, ?_⟩
      rcases kv_get (k := kk) hp with ⟨e1, e2⟩ | ⟨d', v2, e1, e2, e3⟩
      · rw [e1] at hq
        rw [e2]
        exact q ρ3 H3 S3 _ _ s g3 rz hq
      · rw [e1] at hq
        rw [e2]
        exact q ρ3 H3 S3 _ _ s g3 e3 hq
theorem sm_get1D (hd : SmE K cl td pd) (hy : SmE K cl ty py) : SmE K cl (Dk.tGet1Dk K cl.w td ty) (pGet1D pd py) := fun M ρ S H env σ g re k Q h q =>
  hd M ρ S H env σ g re _ _ h fun ρ1 H1 S1 x u s1 g1 rx ⟨n, hx, ⟨kvs1, hs1⟩, h1⟩ => by
    subst hx
    cases rx with
    | @ref _ a hn =>
      obtain ⟨l1, _, D1⟩ := g1.dctAt hn hs1
      refine ⟨a, l1, rfl, D1, hy M ρ1 S1 H1 env σ g1 (re.up s1) _ _ h1 fun ρ2 H2 S2 y v s2 g2 ry ⟨kvs, kk, hs, hk, hdp, hq⟩ => ?_⟩
      obtain ⟨l, hp, D⟩ := g2.dctAt (pre_get s2.pre hn) hs
      refine ⟨l, kk, D, Dk.KV.up cut_sub _ _ (RelD.kv _ _ _ ry hk), hdp, ?_⟩
      rcases kv_get (k := kk) hp with ⟨e1, e2⟩ | ⟨d', v2, e1, e2, e3⟩
      · rw [e1] at hq
        rw [e2]
        exact q ρ2 H2 S2 _ _ (s1.trans s2) g2 .non hq
      · rw [e1] at hq
        rw [e2]
        exact q ρ2 H2 S2 _ _ (s1.trans s2) g2 e3 hq
end
end Pw
/-! Pw15: lists of the store: pop(), extend(..) -/
namespace Pw
open PySem PySem.Spec PyProof.Rows L2 Evl Lw
/-- l.pop() -/
def pPopL (pa : PEx) : PEx := fun env S k => pa env S fun x S1 => ∃ n ds d, x = .ref n ∧ S1[n]? = some (.lst ds) ∧ ds[ds.length - 1]? = some d ∧ k d (S1.set n (.lst ds.dropLast))
/-- l.extend(m) -/
def pExtL (pa pb : PEx) : PSx := fun P env S => pa env S fun x S1 => ∃ n, x = .ref n ∧ (∃ ds, S1[n]? = some (.lst ds)) ∧ pb env S1 fun y S2 => ∃ ds m es, S2[n]? = some (.lst ds) ∧ y = .ref m ∧ S2[m]? = some (.lst es) ∧ ds.length + es.length < 90000 ∧ P.nx env (S2.set n (.lst (ds ++ es)))
section
variable {K : PySem.W.Frag} {cl : Cl} {ta tb : TE} {pa pb : PEx}
theorem sm_popL (ha : SmE K cl ta pa) : SmE K cl (tBM0 K "list" rPop ta) (pPopL pa) := fun M ρ S H env σ g re k Q h q =>
  ha M ρ S H env σ g re _ _ h fun ρ1 H1 S1 l v s1 g1 rl ⟨n, ds, d, hl, hs, hd, hk⟩ => by
    subst hl
    cases rl with
    | @ref _ a hn =>
      obtain ⟨vs, hv, r⟩ := g1.lstAt hn hs
      obtain ⟨w, hw, rw'⟩ := r.get hd
      refine ⟨.inl ⟨rfl, vs, sq_of hv⟩, a, vs, w, rfl, rfl, hv, by rw [r.len]; exact hw, ?_⟩
      obtain ⟨g2, s2⟩ := g1.put (o := .lst vs.dropLast) (so := .lst ds.dropLast) hn (.lst (by rw [List.dropLast_eq_take, List.dropLast_eq_take, r.len]; exact r.takeN _))
      exact q ρ1 _ _ _ _ (s1.trans s2) g2 (rw'.up s2.pre s2.ex _ _) hk
theorem sm_extL (ha : SmE K cl ta pa) (hb : SmE K cl tb pb) : SmS K cl (tDrop (tBM K "list" rExtend ta (tCons tb tNil))) (pExtL pa pb) := fun M ρ S H env σ g re P D h e =>
  ha M ρ S H env σ g re _ _ h fun ρ1 H1 S1 l v s1 g1 rl ⟨n, hl, ⟨ds0, hs⟩, h1⟩ => by
    subst hl
    cases rl with
    | @ref _ a hn =>
      obtain ⟨vs0, hv0, _⟩ := g1.lstAt hn hs
      refine ⟨.inl ⟨rfl, vs0, sq_of hv0⟩, hb M ρ1 S1 H1 env σ g1 (re.up s1) _ _ h1 fun ρ2 H2 S2 y w s2 g2 ry ⟨ds, m, es, hs2, hy, hm, hl2, hk⟩ => ?_⟩
      subst hy
      cases ry with
      | @ref _ b hb2 =>
        have hn2 := pre_get s2.pre hn
        obtain ⟨vs, hv, r⟩ := g2.lstAt hn2 hs2
        obtain ⟨ws, hw, r'⟩ := g2.lstAt hb2 hm
        refine ⟨a, b, vs, ws, rfl, rfl, hv, hw, Nat.le_of_lt (sz_lt (by rw [r.len, r'.len]; omega)), ?_⟩
        obtain ⟨g3, s3⟩ := g2.put (o := .lst (vs ++ ws)) (so := .lst (ds ++ es)) hn2 (.lst (r.app r'))
        exact e.nx ρ2 _ _ env σ ((s1.trans s2).trans s3) g3 (re.up ((s1.trans s2).trans s3)) hk
end
end Pw
/-! Pw16: isinstance(x, list); lists as data or as references of the store -/
namespace Pw
open PySem PySem.Spec PyProof.Rows L2 Evl Lw
def isLk : OpN := fun S xs k => match xs with
  | [.ref n, .ty t] => t = "list" ∧ (∃ ds, S[n]? = some (.lst ds)) ∧ k (.bl true)
  | [.lst _, .ty t] => t = "list" ∧ k (.bl true)
  | [.tup _, .ty t] => t = "list" ∧ k (.bl false)
  | _ => False
theorem smc_isL {K : PySem.W.Frag} {cl : Cl} : SmC K cl (rIsi K) isLk := by
  intro M ρ S H xs vs g r k Q h q
  have kl : PySem.W.kitOne K (.type "list") (.type "list") = some true := by
    unfold PySem.W.kitOne
    rw [if_pos (by decide +kernel)]
  match xs, h with
  | [.ref n, .ty t], h =>
    obtain ⟨v, w, rfl, r1, r2⟩ := all2 r
    obtain ⟨hn, ⟨ds, hs⟩, hk⟩ := h
    subst hn
    cases r2
    cases r1 with
    | @ref _ a ha =>
      obtain ⟨ws, hw, _⟩ := g.lstAt ha hs
      exact ⟨_, _, _, _, true, rfl, .ty _, .base (.lst hw), kl, q H _ _ .refl g (.bl _) hk⟩
  | [.lst ds, .ty t], h =>
    obtain ⟨v, w, rfl, r1, r2⟩ := all2 r
    obtain ⟨hn, hk⟩ := h
    subst hn
    cases r2
    cases r1 with
    | @lst a _ _ hs ha =>
      exact ⟨_, _, _, _, true, rfl, .ty _, .base (.lst (cut_sub _ _ hs)), kl, q H _ _ .refl g (.bl _) hk⟩
  | [.tup ds, .ty n], h =>
    obtain ⟨v, w, rfl, r1, r2⟩ := all2 r
    obtain ⟨hn, hk⟩ := h
    subst hn
    cases r2
    cases r1 with
    | @tup a _ _ hs ha =>
      have hs' := ex_t cut_sub hs
      have kt : PySem.W.kitOne K (.type "tuple") (.type "list") = some false := by
        unfold PySem.W.kitOne
        rfl
      have ty : TyX K H (.ref a) (.type "tuple") := by
        rcases hs' with hs' | ⟨o, its, m, h1, h2, _⟩
        · rcases hs' with e | ⟨o, e⟩
          · exact .base (.tup e)
          · exact .fTuple e
        · exact .kTuple h1 h2
      exact ⟨_, _, _, _, false, rfl, .ty _, ty, kt, q H _ _ .refl g (.bl _) hk⟩
/-! ### lists as arguments -/
theorem rs_items {S : Sto} {x : D} {ds : List D} (h : rs S x = .lst ds) : itemsOf S x = some ds := by
  cases x with
  | ref n =>
    unfold rs at h
    simp only at h
    split at h
    · rename_i es he
      cases h
      unfold itemsOf
      simp only [he]
    · cases h
  | lst es => cases h; rfl
  | _ => cases h
theorem rs_list {S : Sto} {x : D} {ds : List D} (h : rs S x = .lst ds) : listOf S x = some ds := by
  cases x with
  | ref n =>
    unfold rs at h
    simp only at h
    split at h
    · rename_i es he
      cases h
      unfold listOf
      simp only [he]
    · cases h
  | lst es => cases h; rfl
  | _ => cases h
theorem rs_iter {S : Sto} {x : D} {ds : List D} (h : rs S x = .lst ds) : iterOf S x = some ds := by
  have := rs_items h
  cases x with
  | str z => cases h
  | _ => exact this
theorem rs_len {S : Sto} {x : D} {ds : List D} {k : D → Prop} (h : rs S x = .lst ds) (hk : k (.int ds.length)) : lenk S [x] k := by
  have h1 := rs_items h
  cases x with
  | str z => cases h
  | _ => exact ⟨_, h1, hk⟩
theorem rs_ix {S : Sto} {x : D} {ds : List D} {i : Int} {d : D} {k : D → Prop} (h : rs S x = .lst ds) (hd : atI ds i = some d) (hk : k d) : ixk S x (.int i) k := by
  have h1 := rs_items h
  cases x with
  | str z => cases h
  | _ => exact ⟨_, _, h1, hd, hk⟩
theorem rs_sl {S : Sto} {x : D} {ds : List D} {lo hi : Option Int} {k : D → Prop} (h : rs S x = .lst ds) (hk : k (.lst (cutD ds lo hi))) : slk S x lo hi k := by
  have h1 := rs_list h
  cases x with
  | str z => cases h
  | tup es => cases h
  | _ => exact ⟨_, h1, hk⟩
theorem rs_frz {S : Sto} {x : D} {ds : List D} (h : rs S x = .lst ds) (hp : pureAll ds = true) : x.frz S = .lst ds := by
  cases x with
  | ref n =>
    unfold rs at h
    simp only at h
    split at h
    · rename_i es he
      cases h
      rw [D.frz]
      simp only [he]
    · cases h
  | lst es =>
    have e : es = ds := by cases h; rfl
    subst e
    exact frz_pure S (.lst es) hp
  | _ => cases h
theorem rs_off {S : Sto} {x : D} {ds : List D} (h : rs S x = .lst ds) {o : SO} : rs (S ++ [o]) x = .lst ds := by
  cases x with
  | ref n =>
    unfold rs at h ⊢
    simp only at h ⊢
    split at h
    · rename_i es he
      cases h
      rw [List.getElem?_append_left (List.getElem?_eq_some_iff.mp he).1, he]
    · cases h
  | lst es => exact h
  | _ => cases h
theorem rs_lt {S : Sto} {n : Nat} {ds : List D} (h : rs S (.ref n) = .lst ds) : S[n]? = some (.lst ds) := by
  unfold rs at h
  simp only at h
  split at h
  · rename_i es he
    cases h
    exact he
  · cases h
theorem rs_of {S : Sto} {n : Nat} {ds : List D} (h : S[n]? = some (.lst ds)) : rs S (.ref n) = .lst ds := by
  unfold rs
  simp only [h]
/-- a call whose first argument is a list, as data or of the store -/
theorem call_l {F : PFn} {S : Sto} {x : D} {xs rest : List D} {k : D → Prop} (h : rs S x = .lst xs) (h1 : pureAll xs = true) (hp : pureAll rest = true) (hF : ∀ k' : D → Prop, (∀ d, d.noLst = true → k d → k' d) → F (.lst xs :: rest) k') : callk F S (x :: rest) k := by
  have nr : noRefs rest = true := by
    have := pure_noRef (.tup rest) hp
    simpa [D.noRef] using this
  have nx : noRefs xs = true := by
    have := pure_noRef (.tup xs) h1
    simpa [D.noRef] using this
  cases x with
  | ref n => exact call_v (rs_lt h) nx nr (hF _ fun d h1 h2 => ⟨h1, h2⟩)
  | lst es =>
    cases h
    refine call_nr ?_ (hF k fun d _ h => h)
    rw [noRefs, nr]
    show ((D.lst xs).noRef && true) = true
    rw [D.noRef, nx]
    rfl
  | _ => cases h
end Pw
set_option maxHeartbeats 1000000
/-! Dk5: a comprehension that makes a dict whose keys are data. -/
namespace Dk
open PySem PySem.Spec PyProof.Rows L2 Evl Lw
section
variable {X : Cx} {pins : List (Addr × Obj)} {σ : L2.St} {H : Hp} {s : Shared} {a : Addr}
/-- the step of the comprehension -/
theorem dictSet_Dk {l : List EnV} {k : NestedKey} {x v : V} {u r : Value} {E : Value → Shared → Prop} {Q : Unit → Shared → Prop} (hu : X.A.units + 64 < cLine) (I : Inv X pins σ H s) (D : IsDk X.K X.w H a l) (hk : KV X.K H k x) (hd : k.depth ≤ 8) (hl : l.length ≤ 100000) (ru : RelV x u) (rv : RelV v r)
    (h : ∀ s', Inv X pins σ (upd H a (DHO X.w a (putL l k x v))) s' → Q () s') : wpAny (model X.prog X.w) X.A (dictSet a u r) Q E s := by
  obtain ⟨hs, xs, hp, hD⟩ := D.of I
  have hz : xs.length ≤ sizeLine := by
    rw [← Paired.length hp]
    exact Nat.le_trans hl (by decide)
  refine set_data (by show X.A.units + 8 < cLine; omega) (hk.at_ I hd ru) hD hz fun h' H' sb => h _ ?_
  have he : ∃ q, h'.get? a = some q := let ⟨o, _, _, D⟩ := H'; ⟨o, D.ob⟩
  exact I.write (e := a) (by rw [D.ho]; exact True.intro) (.inl rfl) (fun b q hb hq => (sb.2 b hb).trans hq) he (dho_new hs H' (relN_put ru rv hp))
/-- what a turn asks: the entry is put into the dict at D, or left out -/
def dcTurn (K : PySem.W.Frag) (w : World) (tt : TT) (tk tv : TE) (D : Addr) (Nx : Hp → Prop) (σ2 : L2.St) (H2 : Hp) : Prop := tt σ2 H2 fun b H3 =>
  if b = true then tk σ2 H3 fun y H4 => tv σ2 H4 fun z H5 => ∃ l k, IsDk K w H5 D l ∧ KV K H5 k y ∧ k.depth ≤ 8 ∧ l.length ≤ 100000 ∧ Nx (upd H5 D (DHO w D (putL l k y z))) else Nx H3
def tDcDk (K : PySem.W.Frag) (w : World) (wi : TI) (g : TG) (tt : TT) (tk tv : TE) (vs : List Nat) : TE := fun σ H Q => wi σ H fun J H1 => ∀ D, H1 D = none → ∃ W : Nat → Nat → Hp → Prop, (∃ m, W 0 m (upd H1 D (DHO w D []))) ∧ ∀ i m H, W i m H →
  (J.stop i H ∧ Q (.ref D) H) ∨ (J.go i H ∧ ∃ Nx : Hp → Prop, (∀ H', Nx H' → ∃ m', m' < m ∧ W (i + 1) m' H') ∧ ∀ x H', J.yld i H x H' → g x (wipe σ vs) H' fun σ2 H2 => wipe σ2 vs = wipe σ vs ∧ dcTurn K w tt tk tv D Nx σ2 H2)
/-- the rules of the parts hold in the comprehension's own block -/
abbrev InBlk (X : Cx) (scope : Scope) (P : Cx → Prop) : Prop := ∀ (s : Shared) (H : Hp) (C : Addr) (cl : List (Str × Addr)) (fp : List Addr), P (X.blk s H scope (compEnvC scope cl C X.env) fp)
theorem dcDk_core {use : Option (Value → Sem Unit)} {Qf : Value → Shared → Prop} {pos' : Pos} {Q : VK} {kx vx tg iter : Expr} {ifs : List Expr} {scope : Scope} {own : List (Str × Nat)} {pos : Pos} {wi : TI} {g : TG} {tt : TT} {tk tv : TE} (hu : X.A.units + 64 < cLine) (calm : X.calm = true) (nd : X.N.Nodup) (walk : PI X tg iter wi) (blk : BlkOk X.N X.env.scope scope own)
    (pg : InBlk X scope fun Y => PG Y tg g) (pt : InBlk X scope fun Y => PTs Y ifs tt) (pk : InBlk X scope fun Y => PE Y kx tk) (pv : InBlk X scope fun Y => PE Y vx tv) (fold : ∀ x, foldedSetIterable iter X.env x = pure x := by intro _; rfl) :
    (I : Inv X pins σ H s) → tDcDk X.K X.w wi g tt tk tv (own.map (·.2)) σ H Q → (∀ D C t m Ht, Inv X pins σ Ht t → Q (.ref D) Ht → t.heap.Ns C m → FpOk X pins Ht C → compPost (model X.prog X.w) X.A X.xe use Qf (.ref D) C (.ok .next) t) →
      wpAny (model X.prog X.w) X.A (comprehension (.DictComp kx vx [⟨tg, iter, ifs, 0⟩] scope pos) scope X.env pos' newDict false (eval iter X.env) use) Qf X.xe s := by
  intro I h out
  have clo : ∀ y ∈ scope.names, y.2 = .free → ∃ c, X.env.cells.lookup y.1 = some c := fun y my q => (blk.free y my q).elim (fun z => I.ok.has _ (.inl z)) fun z => I.ok.has _ (.inr z)
  refine wpAny_comprehension_free (use := use) rfl fold (closure_ok clo) blk.kind (fun y my q => by rw [blk.uniq y my, q]) (thn (walk.run pins s σ H _ I h) fun _ t1 w1 => thn w1 fun _ t2 w2 => ?_)
  obtain ⟨ia, fp, tn, J, H2, rfl, I2, T, hst, hfp, todo⟩ := w2
  refine wpAny_newObj_type (newEnv_comp ?_)
  have big := I2.big
  obtain ⟨W, ⟨m0, start⟩, turn⟩ := todo t2.heap.objs.size (I2.hok.fresh (Nat.le_refl _))
  obtain ⟨t3, ht3⟩ : ∃ t3 : Shared, t3 = { t2 with heap := t2.heap.push { cls := .type "dict", data := .dict #[] } } := ⟨_, rfl⟩
  obtain ⟨H3, hH3⟩ : ∃ H3 : Hp, H3 = upd H2 t2.heap.objs.size (DHO X.w t2.heap.objs.size []) := ⟨_, rfl⟩
  have grown : t3.heap = t2.heap.push { cls := .type "dict", data := .dict #[] } := by rw [ht3]
  have I3 : Inv X pins σ H3 t3 := by
    rw [ht3, hH3]
    exact I2.laid (t' := t2.toks) (fun _ _ q => Heap.get?_push_of_some _ q) (Nat.le_refl _) (dho_new (beq_eq_false_iff_ne.mpr (Ne.symm (Nat.ne_of_lt big))) (DOf.new t2.heap) .nil)
  have old : ∀ b ∈ fp, b < t2.heap.objs.size := fun b mb => let ⟨_, q, _⟩ := T.obj _ _ hst b mb; Heap.lt_size q
  have apart : ∀ b ∈ fp, FpOk X pins H3 b ∧ b < t3.heap.objs.size := fun b mb => by
    have lt := old b mb
    refine ⟨⟨?_, (hfp b mb).2⟩, by rw [grown, Heap.size_push]; exact Nat.lt_succ_of_lt lt⟩
    rw [hH3, upd_ne (Nat.ne_of_lt lt)]
    exact (hfp b mb).1
  have none3 : ∀ b ∈ fp, H3 b = none := fun b mb => (apart b mb).1.1
  have st3 : tn 0 t3.heap := T.keep _ _ _ hst fun b _ o q => by rw [grown]; exact Heap.get?_push_of_some _ q
  have I4 := block_start I3 blk nd apart
  have g3 := pg t3 H3 t3.heap.objs.size (cellsFrom (t3.heap.objs.size + 1) scope.names (cloFrom X.env.cells scope.names [])) fp
  have q3 := pt t3 H3 t3.heap.objs.size (cellsFrom (t3.heap.objs.size + 1) scope.names (cloFrom X.env.cells scope.names [])) fp
  have k3 := pk t3 H3 t3.heap.objs.size (cellsFrom (t3.heap.objs.size + 1) scope.names (cloFrom X.env.cells scope.names [])) fp
  have v3 := pv t3 H3 t3.heap.objs.size (cellsFrom (t3.heap.objs.size + 1) scope.names (cloFrom X.env.cells scope.names [])) fp
  rw [← hH3] at start
  rw [← ht3]
  show codeAny _ _ (.compStart (.DictComp kx vx [⟨tg, iter, ifs, 0⟩] scope pos) 0 (.ref ia) (.ref t2.heap.objs.size) (compEnvC scope (cellsFrom (t3.heap.objs.size + 1) scope.names (cloFrom X.env.cells scope.names [])) t3.heap.objs.size X.env)) (compPost (model X.prog X.w) X.A X.xe use Qf (.ref t2.heap.objs.size) t3.heap.objs.size) { t3 with heap := pushCells (t3.heap.push { cls := .type "dict", data := .dict #[] }) scope.names }
  generalize hEnv : compEnvC scope (cellsFrom (t3.heap.objs.size + 1) scope.names (cloFrom X.env.cells scope.names [])) t3.heap.objs.size X.env = ce at I4 g3 q3 k3 v3 ⊢
  have loc : ce.locals = t3.heap.objs.size := by rw [← hEnv]; rfl
  generalize h4 : ({ t3 with heap := pushCells (t3.heap.push { cls := .type "dict", data := .dict #[] }) scope.names } : Shared) = t4 at I4 ⊢
  have st4 : tn 0 t4.heap := T.keep _ _ _ st3 fun b _ o q => by rw [← h4]; exact pushCells_keeps _ _ _ _ (Heap.get?_push_of_some _ q)
  have stay : ∀ {σ' : L2.St} {H' : Hp} {s' : Shared}, Inv (X.blk t3 H3 scope ce fp) [] σ' H' s' → (∀ b ∈ fp, H' b = none) → ∀ b ∈ fp, FpOk (X.blk t3 H3 scope ce fp) [] H' b := fun {σ' H' s'} J' none' b mb =>
    ⟨none' b mb, (J'.ok.exf b mb).1, J'.ok.exfs b mb, .inl mb, fun x c q => (J'.ok.exf b mb).2 x c q, fun p mp => absurd (show p ∈ ([] : List (Addr × Obj)) ++ [] from mp) (by simp)⟩
  refine (fun loop => codeAny_compStart_dict loop (T.self X.A 0 _ _ _ st4 loop)) ?_
  refine compLoop_anyD (fun n t => ∃ i Hi, Inv (X.blk t3 H3 scope ce fp) [] (wipe σ (own.map (·.2))) Hi t ∧ tn i t.heap ∧ (∀ b ∈ fp, Hi b = none) ∧ W i n Hi) ?_ m0 ⟨0, H3, I4, st4, none3, start⟩
  rintro n t5 ⟨i, H5, I5, st5, none5, w5⟩
  rcases turn i n H5 w5 with ⟨ended, fin⟩ | ⟨goes, Nx, less, body⟩
  · refine thnF (T.done (X.blk t3 H3 scope ce fp) rfl rfl rfl calm i [] t5 _ H5 (fun _ _ => False) I5 (stay I5 none5) st5 ended) fun _ t6 ⟨e6, I6⟩ => ?_
    subst e6
    have I7 : Inv X pins σ H5 t6 := I3.call' (ch := fp) I6.os I6.base I6.hok I6.bare fun b mb => let z := (apart b mb).1; ⟨z.2.2.2.1, z.2.1, z.2.2.2.2.1, z.2.2.2.2.2⟩
    have freeL : H5 t3.heap.objs.size = none := loc ▸ (show H5 ce.locals = none from I6.free)
    obtain ⟨ml, hl, _⟩ := I6.loc
    have hl' : t6.heap.Ns t3.heap.objs.size ml := loc ▸ (show t6.heap.Ns ce.locals ml from hl)
    exact out t2.heap.objs.size t3.heap.objs.size t6 ml H5 I7 fin hl' (I3.fpOk (Nat.le_refl _) freeL)
  · refine thnF (T.item (X.blk t3 H3 scope ce fp) rfl rfl rfl calm i [] t5 _ H5 (fun _ _ => False) I5 (stay I5 none5) st5 goes) fun _ t6 ⟨u, e6, w6⟩ => ?_
    subst e6
    refine thnF w6 fun _ t7 ⟨x, H7, I7, r7, y7, st7, none7⟩ => ?_
    have P7 := I7.pinned (stay I7 none7) (T.obj _ _ st7)
    refine thnF (g3.run _ t7 _ H7 x u _ P7 r7 (body x H7 y7)) fun _ t8 ⟨σ8, H8, I8, same8, w8⟩ => ?_
    refine thnF (q3.run _ t8 σ8 H8 _ I8 w8) fun b t9 ⟨H9, I9, w9⟩ => ?_
    have again : ∀ {t : Shared} {Ht : Hp}, Inv (X.blk t3 H3 scope ce fp) ([] ++ pinsAt fp t7.heap) σ8 Ht t → Nx Ht → ∃ m, m < n ∧ ∃ i Hi, Inv (X.blk t3 H3 scope ce fp) [] (wipe σ (own.map (·.2))) Hi t ∧ tn i t.heap ∧ (∀ b ∈ fp, Hi b = none) ∧ W i m Hi := fun {t Ht} It nx => by
      obtain ⟨m, lt, wm⟩ := less Ht nx
      have pinned : ∀ b ∈ fp, ∀ o, t7.heap.get? b = some o → t.heap.get? b = some o ∧ Ht b = none := fun b mb o q => let z := It.pin (b, o) (List.mem_append_right _ (List.mem_append_right _ (mem_pinsAt mb q))); ⟨z.1, z.2.1⟩
      refine ⟨m, lt, i + 1, Ht, (It.unpinned (pins := [])).weak (by rw [← same8, wipe_length]) (fun j v q => ?_), T.keep _ _ _ st7 fun b mb o q => (pinned b mb o q).1, fun b mb => ?_, wm⟩
      · rw [← same8] at q
        exact (wipe_some q).1
      · obtain ⟨o, q, _⟩ := T.obj _ _ st7 b mb
        exact (pinned b mb o q).2
    cases b with
    | false =>
      rw [if_neg (by decide)] at w9 ⊢
      exact again I9 w9
    | true =>
      rw [if_pos rfl] at w9 ⊢
      refine thnF (k3.run _ t9 σ8 H9 _ I9 w9) fun _ t10 ⟨yk, H10, I10, rk, w10⟩ => ?_
      refine thnF (v3.run _ t10 σ8 H10 _ I10 w10) fun _ t11 ⟨yv, H11, I11, rv, l, k, D, hk, hd, hl, nx⟩ => ?_
      exact dictSet_Dk (X := X.blk t3 H3 scope ce fp) hu I11 D hk hd hl rk rv fun t12 I12 => again I12 nx
theorem pe_dcDk {kx vx tg iter : Expr} {ifs : List Expr} {scope : Scope} {own : List (Str × Nat)} {pos : Pos} {wi : TI} {g : TG} {tt : TT} {tk tv : TE} (hu : X.A.units + 64 < cLine) (calm : X.calm = true) (nd : X.N.Nodup) (walk : PI X tg iter wi) (blk : BlkOk X.N X.env.scope scope own)
    (pg : InBlk X scope fun Y => PG Y tg g) (pt : InBlk X scope fun Y => PTs Y ifs tt) (pk : InBlk X scope fun Y => PE Y kx tk) (pv : InBlk X scope fun Y => PE Y vx tv) (fold : ∀ x, foldedSetIterable iter X.env x = pure x := by intro _; rfl) :
    PE X (.DictComp kx vx [⟨tg, iter, ifs, 0⟩] scope pos) (tDcDk X.K X.w wi g tt tk tv (own.map (·.2))) := by
  refine ⟨fun pins s σ H Q I h => ?_⟩
  rw [arm_eval_DictComp]
  refine dcDk_core hu calm nd walk blk pg pt pk pv fold I h fun D C t m Ht It fin hl fp => ⟨m, hl, fun h8 sb => ?_⟩
  obtain ⟨f0, f1, f2, f3, f4, f5⟩ := fp
  exact ⟨.ref D, Ht, It.turned (t' := t.toks) (fun b o nb q => (sb.2 b nb).trans q) f0 f1 f3 f4 f5, rfl, fin⟩
/-- name = {..}, the name a local, on one line -/
theorem ps_setDcDk {i : Nat} {y : Str} {py : Pos} {kx vx tg iter : Expr} {ifs : List Expr} {scope : Scope} {own : List (Str × Nat)} {pos spos : Pos} {wi : TI} {g : TG} {tt : TT} {tk tv : TE} (hu : X.A.units + 64 < cLine) (calm : X.calm = true) (nd : X.N.Nodup) (at' : X.N[i]? = some y) (loc : X.env.scope.names.lookup y = some .local)
    (sw : swapsWith (.DictComp kx vx [⟨tg, iter, ifs, 0⟩] scope pos) (some (.Name y py)) spos.line X.env = pure true) (walk : PI X tg iter wi) (blk : BlkOk X.N X.env.scope scope own)
    (pg : InBlk X scope fun Y => PG Y tg g) (pt : InBlk X scope fun Y => PTs Y ifs tt) (pk : InBlk X scope fun Y => PE Y kx tk) (pv : InBlk X scope fun Y => PE Y vx tv) (fold : ∀ x, foldedSetIterable iter X.env x = pure x := by intro _; rfl) :
    PS X (.Assign [.Name y py] (.DictComp kx vx [⟨tg, iter, ifs, 0⟩] scope pos) spos) (tAsg (tDcDk X.K X.w wi g tt tk tv (own.map (·.2))) (gName i)) := by
  refine ⟨fun pins s σ H D I h => ?_⟩
  rw [exec_Assign_Name_used _ _ _ _ sw]
  refine wpAny_bind (wpAny_standAt (wpAny_bind ?_))
  show wpAny _ X.A (do let _ ← comprehension (.DictComp kx vx [⟨tg, iter, ifs, 0⟩] scope pos) scope X.env (firstIterPos [⟨tg, iter, ifs, 0⟩] pos) newDict false (eval iter X.env) (some (assign (.Name y py) X.env))) _ _ s
  refine wpAny_bind (thn (dcDk_core (Qf := fun _ t => SP X pins D .next t) (Q := fun x H1 => gName i x σ H1 D.nx) hu calm nd walk blk pg pt pk pv fold I h fun d C t m Ht It fin hl fp => ?_) fun _ t q => wpAny_pure (wpAny_pure q))
  show wpAny _ _ (assign (.Name y py) X.env (.ref d)) _ _ _
  refine wpAny_assign_Name (store_ok2 (v := V.ref d) It nd at' (.inl loc) rfl (fun t2 I2 ⟨a, sb, ha⟩ => ?_) (.inr loc))
  obtain ⟨f0, f1, f2, f3, f4, f5⟩ := fp
  have apart : C ≠ a := ha.elim (fun z => by rw [z]; exact f1) fun z e => f4 y a z e.symm
  refine ⟨m, hl.sameBut sb apart, fun h3 sb3 => ?_⟩
  exact ⟨_, Ht, I2.turned (t' := t2.toks) (fun b o nb q => (sb3.2 b nb).trans q) f0 f1 f3 f4 f5, fin⟩
theorem sw_dict {kx vx : Expr} {gs : List Comprehension} {scope : Scope} {pos py : Pos} {y : Str} {l : Nat} {env : PySem.Env} (kind : env.scope.kind = .function) (loc : env.scope.names.lookup y = some .local) (line : (py.line == pos.line) = true)
    (free : (scope.names.any fun (n, k) => n == y && (k == .local || k == .cell)) = false) : swapsWith (.DictComp kx vx gs scope pos) (some (.Name y py)) l env = pure true := by
  have h1 : env.kindOf y = some .local := loc
  have h2 : env.blockKind = .function := by
    unfold PySem.Env.blockKind
    rw [kind]
    rfl
  unfold swapsWith
  simp only [h2, h1, free, Expr.pos, line]
  rfl
end
end Dk
/-! Pw17: zip, order of data, comprehensions that make a dict -/
namespace Pw
open PySem PySem.Spec PyProof.Rows L2 Evl Lw
/-! ### order of data -/
def D.lt (x y : D) : Bool := PySem.W.dataLt x.py y.py
def rOrd (K : PySem.W.Frag) (f : PyData → PyData → Bool) : R2 := fun x y H Q => ∃ d e, Dp K H x d ∧ Dp K H y e ∧ PySem.W.alike d e = true ∧ d ≠ .none ∧ d.depth ≤ 60 ∧ Q (.bl (f d e)) H
section
variable {X : Cx}
theorem op_ltD (hu : X.A.units + 64 < cLine) : OpR X (compareOp .Lt) (rOrd X.K PySem.W.dataLt) := by
  intro pins s σ H x y v u Q I rx ry h
  obtain ⟨d, e, hd, he, al, nn, dd, q⟩ := h
  obtain ⟨as, r1⟩ := Dp.reads I d x v hd rx
  obtain ⟨bs, r2⟩ := Dp.reads I e y u he ry
  exact PySem.W.lt_data r1 r2 al nn (by omega) ⟨.bl _, H, I, rfl, q⟩
theorem op_gtD (hu : X.A.units + 64 < cLine) : OpR X (compareOp .Gt) (rOrd X.K fun d e => PySem.W.dataLt e d) := by
  intro pins s σ H x y v u Q I rx ry h
  obtain ⟨d, e, hd, he, al, nn, dd, q⟩ := h
  obtain ⟨as, r1⟩ := Dp.reads I d x v hd rx
  obtain ⟨bs, r2⟩ := Dp.reads I e y u he ry
  exact PySem.W.gt_data r1 r2 al nn (by omega) ⟨.bl _, H, I, rfl, q⟩
theorem op_leD (hu : X.A.units + 64 < cLine) : OpR X (compareOp .LtE) (rOrd X.K fun d e => !PySem.W.dataLt e d) := by
  intro pins s σ H x y v u Q I rx ry h
  obtain ⟨d, e, hd, he, al, nn, dd, q⟩ := h
  obtain ⟨as, r1⟩ := Dp.reads I d x v hd rx
  obtain ⟨bs, r2⟩ := Dp.reads I e y u he ry
  exact PySem.W.le_data r1 r2 al nn (by omega) ⟨.bl _, H, I, rfl, q⟩
theorem op_geD (hu : X.A.units + 64 < cLine) : OpR X (compareOp .GtE) (rOrd X.K fun d e => !PySem.W.dataLt d e) := by
  intro pins s σ H x y v u Q I rx ry h
  obtain ⟨d, e, hd, he, al, nn, dd, q⟩ := h
  obtain ⟨as, r1⟩ := Dp.reads I d x v hd rx
  obtain ⟨bs, r2⟩ := Dp.reads I e y u he ry
  exact PySem.W.ge_data r1 r2 al nn (by omega) ⟨.bl _, H, I, rfl, q⟩
end
def ordk (f : PyData → PyData → Bool) : Op2 := fun _ x y k => x.pure = true ∧ y.pure = true ∧ PySem.W.alike x.py y.py = true ∧ x.py ≠ .none ∧ x.dep ≤ 60 ∧ k (.bl (f x.py y.py))
theorem smr_ord {K : PySem.W.Frag} {cl : Cl} {f : PyData → PyData → Bool} : SmR K cl (rOrd K f) (ordk f) := fun M ρ S H x y v w g rx ry k Q ⟨h1, h2, h3, h4, h5, hk⟩ q =>
  ⟨_, _, dp_of _ _ h1 rx.full, dp_of _ _ h2 ry.full, h3, h4, h5, q H _ _ .refl g (.bl _) hk⟩
/-! ### zip of two lists -/
def zipD (as bs : List D) : List D := (as.zip bs).map fun p => .tup [p.1, p.2]
def pZip (pa : PAx) : PIx := fun env S k => pa env S fun xs S1 => ∃ as bs, xs = [.lst as, .lst bs] ∧ k (.lst (zipD as bs)) (zipD as bs) S1
theorem zipD_len {as bs : List D} : (zipD as bs).length = min as.length bs.length := by
  unfold zipD
  rw [List.length_map, List.length_zip]
theorem zipD_at {as bs : List D} {i : Nat} {x y : D} (hx : as[i]? = some x) (hy : bs[i]? = some y) : (zipD as bs)[i]? = some (.tup [x, y]) := by
  unfold zipD
  rw [List.getElem?_map, (List.getElem?_zip_eq_some (z := (x, y))).mpr ⟨hx, hy⟩]
  rfl
section
variable {K : PySem.W.Frag} {cl : Cl}
theorem sm_zip {ta : TA} {pa : PAx} (ha : SmA K cl ta pa) : SmI K cl (RZ.iZipA K ta) (pZip pa) := fun M ρ S H env σ g re k R h q =>
  ha M ρ S H env σ g re _ _ h fun ρ1 H1 S1 xs vs s1 g1 rx ⟨as, bs, hx, hk⟩ => by
    subst hx
    obtain ⟨v, w, rfl, r1, r2⟩ := all2 rx
    cases r1 with
    | @lst a us _ hs ra =>
      cases r2 with
      | @lst b ws _ ht rb =>
        refine ⟨a, b, us, ws, rfl, .inl ⟨sq_of (cut_sub _ _ hs), sq_of (cut_sub _ _ ht), q ρ1 H1 S1 _ _ _ s1 g1 (fun M' ρ' S' H' p e g' _ => ?_) hk⟩⟩
        have hs' : SqL K H' a us := sq_of (cut_sub _ _ (e _ _ hs))
        have ht' : SqL K H' b ws := sq_of (cut_sub _ _ (e _ _ ht))
        have ra' := ra.up p e _ _
        have rb' := rb.up p e _ _
        have la := ra.len
        have lb := rb.len
        rw [zipD_len]
        refine ⟨fun i hi => ?_, fun i hi => ⟨us, ws, hs', ht', by omega⟩, fun i hi y H2 hy => ?_⟩
        · exact ⟨us, ws, us[i]'(by omega), ws[i]'(by omega), hs', ht', List.getElem?_eq_getElem _, List.getElem?_eq_getElem _⟩
        · obtain ⟨T, x0, y0, rfl, hT, rfl, f1, f2⟩ := hy
          obtain ⟨d1, e1, q1⟩ := ra'.back (f1 us hs')
          obtain ⟨d2, e2, q2⟩ := rb'.back (f2 ws ht')
          obtain ⟨g2, s2, hc⟩ := g'.new (.tup [x0, y0]) hT
          exact ⟨g2, s2, _, zipD_at e1 e2, .tup (st_of hc) (.cons (q1.up s2.pre s2.ex _ _) (.cons (q2.up s2.pre s2.ex _ _) .nil))⟩
/-! ### {k: v for .. in .. if ..} -/
def pDc (pi : PIx) (g : PGx) (pt : PTx) (pk pv : PEx) (ws : List Nat) : PEx := fun env S k => pi env S fun src ds S1 => ∃ I : Nat → List (D × D) → Sto → Prop, I 0 [] S1 ∧
  (∀ (i : Nat) d acc S, ds[i]? = some d → I i acc S → acc.length < 90000 ∧ iterOf S src = some ds ∧ g d (wipeE env ws) S fun env2 S2 => pt env2 S2 fun b S3 => if b = true then pk env2 S3 fun y S4 => pv env2 S4 fun z S5 => ∃ kk, kOf y = some kk ∧ kk.depth ≤ 8 ∧ I (i + 1) (putKv acc kk y z) S5 else I (i + 1) acc S3) ∧
  ∀ acc S, I ds.length acc S → iterOf S src = some ds ∧ k (.ref S.length) (S ++ [.dct acc])
structure DcSt (K : PySem.W.Frag) (cl : Cl) (M : Addr → Prop) (ρ1 : List Addr) (H1 : Hp) (Dl : Addr) (ρ' : List Addr) (S' : Sto) (acc : List (D × D)) (l : List Dk.EnV) (H : Hp) : Prop where
  pre : ρ1 <+: ρ'
  ex : Ex (cut (NM M ρ1) H1) (cut (NM (MP M Dl) ρ') H)
  keep : ∀ a, M a → H a = H1 a
  g : G K cl (MP M Dl) ρ' S' H
  at' : H Dl = some (Dk.DHO cl.w Dl l)
  rel : Paired (RelKv K cl ρ' (cut (NM (MP M Dl) ρ') H)) acc l
  nd : (l.map (·.1)).Nodup
theorem kv_up {ρ ρ' : List Addr} {H H' : Hp} (p : ρ <+: ρ') (e : Ex H H') {acc : List (D × D)} {l : List Dk.EnV} (h : Paired (RelKv K cl ρ H) acc l) : Paired (RelKv K cl ρ' H') acc l := L2.Paired.mapP h fun x y h => ⟨h.1, h.2.1, RelD.up p e _ _ h.2.2.1, RelD.up p e _ _ h.2.2.2⟩
theorem DcSt.step {M : Addr → Prop} {ρ1 ρ' ρ2 : List Addr} {H1 H H2 : Hp} {Dl : Addr} {S' S2 : Sto} {acc : List (D × D)} {l : List Dk.EnV} (c : DcSt K cl M ρ1 H1 Dl ρ' S' acc l H) (s : Stp (MP M Dl) ρ' H ρ2 H2) (g : G K cl (MP M Dl) ρ2 S2 H2) : DcSt K cl M ρ1 H1 Dl ρ2 S2 acc l H2 :=
  ⟨c.pre.trans s.pre, c.ex.trans s.ex, fun a m => (s.keep a (.inl m)).trans (c.keep a m), g, (s.keep Dl (.inr rfl)).trans c.at', kv_up s.pre s.ex c.rel, c.nd⟩
theorem DcSt.dk {M : Addr → Prop} {ρ1 ρ' : List Addr} {H1 H : Hp} {Dl : Addr} {S' : Sto} {acc : List (D × D)} {l : List Dk.EnV} (c : DcSt K cl M ρ1 H1 Dl ρ' S' acc l H) : Dk.IsDk K cl.w H Dl l := ⟨c.at', fun e he => by
  obtain ⟨p, _, h1, h2, h3, _⟩ := kv_mem c.rel e he
  exact ⟨Dk.KV.up cut_sub _ _ (RelD.kv _ _ _ h3 h1), h2⟩, c.nd⟩
variable {tk tv : TE} {pk pv : PEx} {tt : TT} {pt : PTx} {tg : TG} {pg : PGx}
theorem sm_dc {wi : TI} {pi : PIx} {ws : List Nat} (hi : SmI K cl wi pi) (hok : GOk tg ws) (hg : SmG K cl tg pg) (ht : SmT K cl tt pt) (hk : SmE K cl tk pk) (hv : SmE K cl tv pv) : SmE K cl (Dk.tDcDk K cl.w wi tg tt tk tv ws) (pDc pi pg pt pk pv ws) := fun M ρ S H env σ g re k Q h q =>
  hi M ρ S H env σ g re _ _ h fun ρ1 H1 S1 src ds J s1 g1 ok ⟨I, hI0, hIs, hId⟩ => by
    intro Dl hD
    obtain ⟨gD, ex0, k0⟩ := g1.mp (o := Dk.DHO cl.w Dl []) hD
    have hDn : ¬ NM M ρ1 Dl := g1.off hD
    refine ⟨fun i m H' => m = ds.length - i ∧ i ≤ ds.length ∧ ∃ ρ' S' acc l, DcSt K cl M ρ1 H1 Dl ρ' S' acc l H' ∧ I i acc S', ⟨ds.length, by omega, Nat.zero_le _, ρ1, S1, [], [], ⟨List.prefix_refl _, ex0, k0, gD, upd_same, .nil, List.nodup_nil⟩, hI0⟩, ?_⟩
    rintro i m H' ⟨rfl, hi, ρ', S', acc, l, c, hI⟩
    by_cases hlt : i < ds.length
    · have hd : ds[i]? = some ds[i] := List.getElem?_eq_getElem hlt
      obtain ⟨hal, hit, hb'⟩ := hIs i _ acc S' hd hI
      obtain ⟨o1, _, o3⟩ := ok (MP M Dl) ρ' S' H' c.pre c.ex c.g hit
      refine .inr ⟨o1 i hlt, fun H2 => ∃ ρ' S' acc l, DcSt K cl M ρ1 H1 Dl ρ' S' acc l H2 ∧ I (i + 1) acc S', fun H2 p => ⟨ds.length - (i + 1), by omega, rfl, hlt, p⟩, fun y H2 hy => ?_⟩
      obtain ⟨gy, sy, d, hd', r⟩ := o3 i hlt y H2 hy
      have c := c.step sy gy
      rw [hd] at hd'
      cases hd'
      have reW : RE K cl ρ' (cut (NM (MP M Dl) ρ') H2) (wipeE env ws) (wipe σ ws) := by
        refine RE.wipe ?_ ws
        have r1 := re.up s1
        exact ⟨r1.len, fun j d hj => by
          obtain ⟨v, h1, h2⟩ := r1.at' j d hj
          exact ⟨v, h1, h2.up c.pre c.ex d v⟩⟩
      refine hok.mono _ _ _ _ _ (fun σ2 H3 ⟨⟨l1, k1⟩, q1⟩ => ⟨wipe_eq (l1.trans (wipe_length σ ws)) fun j hj => by rw [k1 j hj, wipe_get, if_neg hj], q1⟩) (hok.own _ _ _ _ (hg (MP M Dl) ρ' S' H2 (wipeE env ws) (wipe σ ws) _ y c.g reW r _ _ hb' fun ρ3 H3 S3 env3 σ3 s3 g3 re3 h3 => ?_))
      · refine ht (MP M Dl) ρ3 S3 H3 env3 σ3 g3 re3 _ _ h3 fun ρ4 H4 S4 b s4 g4 h4 => ?_
        have c4 := c.step (s3.trans s4) g4
        cases b with
        | true =>
          rw [if_pos rfl] at h4 ⊢
          refine hk (MP M Dl) ρ4 S4 H4 env3 σ3 g4 (re3.up s4) _ _ h4 fun ρ5 H5 S5 d5 v5 s5 g5 r5 h5 => hv (MP M Dl) ρ5 S5 H5 env3 σ3 g5 ((re3.up s4).up s5) _ _ h5 fun ρ6 H6 S6 d6 v6 s6 g6 r6 ⟨kk, hkk, hkd, h6⟩ => ?_
          have c6 := (c4.step s5 g5).step s6 g6
          have r5' := r5.up s6.pre s6.ex _ _
          obtain ⟨g7, e7⟩ := g6.setMP (o := Dk.DHO cl.w Dl (Dk.putL l kk v5 v6))
          refine ⟨l, kk, c6.dk, Dk.KV.up cut_sub _ _ (RelD.kv _ _ _ r5' hkk), hkd, by rw [kv_len c6.rel]; omega, ρ6, S6, putKv acc kk d5 d6, Dk.putL l kk v5 v6, ⟨c6.pre, c6.ex.trans e7, fun a m => ?_, g7, upd_same, ?_, putL_nd c6.nd⟩, h6⟩
          · have ne : a ≠ Dl := fun z => hDn (.inl (z ▸ m))
            rw [upd_ne ne]
            exact c6.keep a m
          · exact kv_up (List.prefix_refl _) e7 (kv_put hkk hkd r5' r6 c6.rel)
        | false =>
          rw [if_neg (by decide)] at h4 ⊢
          exact ⟨ρ4, S4, acc, l, c4, h4⟩
    · have hi' : i = ds.length := by omega
      subst hi'
      obtain ⟨hit, hk⟩ := hId acc S' hI
      obtain ⟨_, o2, _⟩ := ok (MP M Dl) ρ' S' H' c.pre c.ex c.g hit
      refine .inl ⟨o2 _ (Nat.le_refl _), ?_⟩
      have hnr : Dl ∉ ρ' := fun m => c.g.dis Dl m (.inr rfl)
      have exA : Ex (cut (NM (MP M Dl) ρ') H') (cut (NM M (ρ' ++ [Dl])) H') := cut_ex fun a o n q => ⟨fun z => z.elim (fun m => n (.inl (.inl m))) fun m => (List.mem_append.mp m).elim (fun m => n (.inr m)) fun m => n (.inl (.inr (List.mem_singleton.mp m))), q⟩
      have hpre : ρ' <+: ρ' ++ [Dl] := List.prefix_append _ _
      have g2 : G K cl M (ρ' ++ [Dl]) (S' ++ [.dct acc]) H' := by
        refine ⟨fun a m => c.g.live a (.inl m), fun a ha => ?_, ?_, by rw [List.length_append, List.length_append, c.g.len]; rfl, fun n o a hs ha => ?_⟩
        · rcases List.mem_append.mp ha with ha | ha
          · exact fun m => c.g.dis a ha (.inl m)
          · rw [List.mem_singleton.mp ha]
            exact fun m => hDn (.inl m)
        · refine List.nodup_append.mpr ⟨c.g.nd, by simp, fun a ha b hb z => ?_⟩
          rw [List.mem_singleton.mp hb] at z
          exact hnr (z ▸ ha)
        · by_cases hn : n < S'.length
          · rw [List.getElem?_append_left hn] at hs
            rw [List.getElem?_append_left (by rw [c.g.len]; exact hn)] at ha
            obtain ⟨u, hu, r⟩ := c.g.sto n o a hs ha
            exact ⟨u, hu, r.up hpre exA⟩
          · have hl := (List.getElem?_eq_some_iff.mp hs).1
            rw [List.length_append] at hl
            have hn' : n = S'.length := by
              have : [SO.dct acc].length = 1 := rfl
              omega
            subst hn'
            rw [List.getElem?_append_right (Nat.le_refl _), Nat.sub_self] at hs
            rw [List.getElem?_append_right (by rw [c.g.len]; exact Nat.le_refl _), c.g.len, Nat.sub_self] at ha
            cases hs
            cases ha
            exact ⟨_, c.at', .dct (kv_up hpre exA c.rel) c.nd⟩
      have s2 : Stp M ρ1 H1 (ρ' ++ [Dl]) H' := ⟨c.pre.trans hpre, c.ex.trans exA, c.keep⟩
      exact q (ρ' ++ [Dl]) H' _ _ _ (s1.trans s2) g2 (.ref (by rw [← c.g.len, List.getElem?_append_right (Nat.le_refl _), Nat.sub_self]; rfl)) hk
end
/-- how a dict comprehension over data is shown -/
theorem dc_go {α : Type} {pi : PIx} {g : PGx} {pt : PTx} {pk pv : PEx} {ws : List Nat} {env : Env} {S : Sto} {k : D → Sto → Prop} {src : D} {as : List α} {enc : α → D} (f : α → Bool) (hk : α → D) (hv : α → D) (kk : α → NestedKey)
    (hpi : ∀ kk : D → List D → Sto → Prop, kk src (as.map enc) S → pi env S kk) (hs : iterOf S src = some (as.map enc)) (hl : as.length < 90000) (hkk : ∀ a, kOf (hk a) = some (kk a) ∧ (kk a).depth ≤ 8)
    (hd : ∀ a ∈ as, ∀ (k2 : D → D → Sto → Prop) (k3 : Sto → Prop), (if f a = true then k2 (hk a) (hv a) S else k3 S) → g (enc a) (wipeE env ws) S fun env2 S2 => pt env2 S2 fun b S3 => if b = true then pk env2 S3 fun y S4 => pv env2 S4 fun z S5 => k2 y z S5 else k3 S3)
    (hfin : k (.ref S.length) (S ++ [.dct ((as.filter f).foldl (fun acc a => putKv acc (kk a) (hk a) (hv a)) [])])) : pDc pi g pt pk pv ws env S k := by
  have plen : ∀ (acc : List (D × D)) (q : NestedKey) (x y : D), (putKv acc q x y).length ≤ acc.length + 1 := fun acc q x y => by
    unfold putKv
    split
    · rw [List.length_map]
      omega
    · rw [List.length_append]
      exact Nat.le_refl _
  have flen : ∀ (l : List α) (acc : List (D × D)), (l.foldl (fun acc a => putKv acc (kk a) (hk a) (hv a)) acc).length ≤ acc.length + l.length := by
    intro l
    induction l with
    | nil => exact fun acc => Nat.le_refl _
    | cons a l ih =>
      intro acc
      have h1 := ih (putKv acc (kk a) (hk a) (hv a))
      have h2 := plen acc (kk a) (hk a) (hv a)
      rw [List.foldl_cons, List.length_cons]
      omega
  refine hpi _ ⟨fun i acc S' => S' = S ∧ acc = ((as.take i).filter f).foldl (fun acc a => putKv acc (kk a) (hk a) (hv a)) [], ⟨rfl, rfl⟩, ?_, ?_⟩
  · rintro i d acc S' hi ⟨rfl, rfl⟩
    rw [List.getElem?_map] at hi
    cases e : as[i]? with
    | none => rw [e] at hi; cases hi
    | some a =>
      rw [e] at hi
      cases hi
      have ht : as.take (i + 1) = as.take i ++ [a] := take_up e
      refine ⟨?_, hs, hd a (List.mem_of_getElem? e) (fun y z S5 => ∃ q, kOf y = some q ∧ q.depth ≤ 8 ∧ _) _ ?_⟩
      · have h1 := flen ((as.take i).filter f) []
        have h2 := List.length_filter_le f (as.take i)
        rw [List.length_take] at h2
        rw [List.length_nil] at h1
        omega
      · dsimp only
        rw [ht, List.filter_append, List.foldl_append]
        cases hf : f a with
        | true =>
          rw [if_pos rfl, List.filter_cons_of_pos hf]
          exact ⟨kk a, (hkk a).1, (hkk a).2, rfl, rfl⟩
        | false =>
          rw [if_neg (by decide), List.filter_cons_of_neg (by rw [hf]; decide)]
          exact ⟨rfl, rfl⟩
  · rintro acc S' ⟨rfl, rfl⟩
    rw [List.length_map, List.take_of_length_le (Nat.le_refl _)]
    exact ⟨hs, hfin⟩
end Pw
/-! Pw18: loops whose source is known only when it is asked -/
namespace Pw
open PySem PySem.Spec PyProof.Rows L2 Evl Lw
def forI (src : D) (ds : List D) (g : PGx) (tb : PSx) (P : PEnds) (env : Env) (S1 : Sto) : Prop := ∃ I : Nat → Env → Sto → Prop, I 0 env S1 ∧
  (∀ (i : Nat) d env S, ds[i]? = some d → I i env S → iterOf S src = some ds ∧ g d env S fun env1 S2 => tb { P with nx := I (i + 1), ct := I (i + 1), bk := P.nx } env1 S2) ∧ ∀ env S, I ds.length env S → iterOf S src = some ds ∧ P.nx env S
theorem pFor_I {pi : PIx} {g : PGx} {tb : PSx} {P : PEnds} {env : Env} {S : Sto} : pFor pi g tb P env S = pi env S fun src ds S1 => forI src ds g tb P env S1 := rfl
theorem forI_go {g : PGx} {tb : PSx} {P : PEnds} {env : Env} {S : Sto} {src : D} {ds : List D} (hs : ∀ S', iterOf S' src = some ds) (h : forG g tb P ds env S) : forI src ds g tb P env S :=
  for_go (pi := fun _ S k => k src ds S) (fun kk h => h) hs h
theorem forI_ref {g : PGx} {tb : PSx} {P : PEnds} {env : Env} {S : Sto} {src : D} {ds : List D} (h : forGR src ds g tb P ds env S) : forI src ds g tb P env S :=
  for_ref (pi := fun _ S k => k src ds S) (fun kk h => h) h
end Pw
/-! the ids on the way up, and what a move does to the paths -/
namespace Ln
open PySem PySem.Spec PyProof.Rows L2 Evl Lw
inductive Up (ls : List Line) : Nat → Option Id → List Id → Prop where
  | root : Up ls 0 none []
  | up {i : Id} {f : Line} {n : Nat} {is : List Id} : findLine ls (some i) = some f → Up ls n f.ins is → Up ls (n + 1) (some i) (i :: is)
section
variable {ls : List Line} {U : List Id} {r : Id → Nat} {S : Id → List Id}
theorem Up.len {n : Nat} {o : Option Id} {is : List Id} (h : Up ls n o is) : is.length = n := by
  induction h with
  | root => rfl
  | up _ _ ih => rw [List.length_cons, ih]
theorem up_of_std {n : Nat} {o : Option Id} {p q : List Str} (h : Std ls n o p q) : ∃ is, Up ls n o is := by
  induction h with
  | root p => exact ⟨[], .root⟩
  | up hf _ ih =>
    obtain ⟨is, h⟩ := ih
    exact ⟨_, .up hf h⟩
theorem Up.rank (h : OkW ls U r S) {n : Nat} {o : Option Id} {is : List Id} (hu : Up ls n o is) : ∀ k : Nat, (∀ i, o = some i → r i < k) → ∀ j ∈ is, r j < k := by
  induction hu with
  | root => exact fun k _ j hj => by cases hj
  | @up i f n is hf hu ih =>
    intro k hk j hj
    have hi := hk i rfl
    obtain ⟨hm, e⟩ := find_mem hf
    have e' := Option.some.inj e
    rcases List.mem_cons.mp hj with rfl | hj
    · exact hi
    · refine ih k (fun i' hi' => ?_) j hj
      obtain ⟨g, _, hg, _, hr⟩ := h.up f hm i' hi'
      rw [← e'] at hr
      omega
theorem Up.nodup (h : OkW ls U r S) {n : Nat} {o : Option Id} {is : List Id} (hu : Up ls n o is) : is.Nodup := by
  induction hu with
  | root => exact List.nodup_nil
  | @up i f n is hf hu ih =>
    refine List.nodup_cons.mpr ⟨fun hi => ?_, ih⟩
    obtain ⟨hm, e⟩ := find_mem hf
    have e' := Option.some.inj e
    have := hu.rank h (r i) (fun i' hi' => by
      obtain ⟨g, _, hg, _, hr⟩ := h.up f hm i' hi'
      rw [← e'] at hr
      exact hr) i hi
    omega
theorem Up.sin {x : Id} {n : Nat} {o : Option Id} {is : List Id} (hu : Up ls n o is) : ∃ m, SIn ls x m o (decide (x ∈ is)) := by
  induction hu with
  | root => exact ⟨0, by simpa using SIn.root⟩
  | @up i f n is hf hu ih =>
    by_cases hx : i = x
    · subst hx
      exact ⟨0, by simpa using SIn.hit⟩
    · obtain ⟨m, hm⟩ := ih
      have e : decide (x ∈ i :: is) = decide (x ∈ is) := decide_eq_decide.mpr ⟨fun h => (List.mem_cons.mp h).resolve_left fun z => hx z.symm, List.mem_cons_of_mem _⟩
      rw [e]
      exact ⟨m + 1, .up hx hf hm⟩
theorem up_one : ∀ {n : Nat} {o : Option Id} {is : List Id}, Up ls n o is → ∀ {m : Nat} {js : List Id}, Up ls m o js → is = js ∧ n = m := by
  intro n o is h
  induction h with
  | root =>
    intro m js h
    cases h
    exact ⟨rfl, rfl⟩
  | up hf _ ih =>
    intro m js h
    cases h with
    | up hf' h' =>
      rw [hf] at hf'
      cases hf'
      obtain ⟨e1, e2⟩ := ih h'
      rw [e1, e2]
      exact ⟨rfl, rfl⟩
/-- what stands above a path does not depend on it -/
theorem std_app {n : Nat} {o : Option Id} {p q : List Str} (h : Std ls n o p q) : ∃ q0, q = q0 ++ p ∧ ∀ p', Std ls n o p' (q0 ++ p') := by
  induction h with
  | root p => exact ⟨[], rfl, fun p' => .root p'⟩
  | @up i f n p q hf hs ih =>
    obtain ⟨q0, h1, h2⟩ := ih
    refine ⟨q0 ++ f.path, by rw [h1, List.append_assoc], fun p' => ?_⟩
    have := h2 (f.path ++ p')
    rw [← List.append_assoc] at this
    exact .up hf this
theorem find_mv {l : Line} {w : Option Id × List Str} (i : Id) : findLine (mvTo ls l w) (some i) = (findLine ls (some i)).map fun k => if k.id = l.id then ⟨l.id, l.hd, w.1, w.2, l.ct⟩ else k := by
  unfold findLine mvTo
  rw [List.find?_map]
  congr 1
  apply congrArg (fun p => List.find? p ls)
  funext k
  show decide (some (if k.id = l.id then (⟨l.id, l.hd, w.1, w.2, l.ct⟩ : Line) else k).id = some i) = decide (some k.id = some i)
  split
  · rename_i e
    rw [e]
  · rfl
/-- a way that does not pass the moved line -/
theorem std_mv_off {l : Line} {w : Option Id × List Str} {n : Nat} {o : Option Id} {p q : List Str} (hs : Std ls n o p q) : ∀ {is : List Id}, Up ls n o is → l.id ∉ is → Std (mvTo ls l w) n o p q := by
  induction hs with
  | root p => exact fun _ _ => .root p
  | @up i f n p q hf hs ih =>
    intro is hu hn
    cases hu with
    | @up _ f' _ is' hf' hu =>
      rw [hf] at hf'
      cases hf'
      have e := Option.some.inj (find_mem hf).2
      have hne : ¬ f.id = l.id := fun z => hn (by rw [e, z]; exact List.mem_cons_self)
      refine .up (f := f) ?_ (ih hu fun z => hn (List.mem_cons_of_mem _ z))
      rw [find_mv, hf]
      show some (if f.id = l.id then _ else f) = some f
      rw [if_neg hne]
/-- one that passes it -/
theorem std_mv_on {l : Line} {w : Option Id × List Str} (h : OkW ls U r S) (hl : l ∈ ls) {nl : Nat} {pl : List Str} (hpl : Std ls nl l.ins l.path pl) {nf : Nat} {pf : List Str} (hpf : Std (mvTo ls l w) nf w.1 w.2 (pf ++ w.2)) (happ : ∀ p', Std (mvTo ls l w) nf w.1 p' (pf ++ p'))
    {n : Nat} {o : Option Id} {p q : List Str} (hs : Std ls n o p q) : ∀ {is : List Id}, Up ls n o is → l.id ∈ is → ∃ m rest, q = pl ++ rest ∧ Std (mvTo ls l w) m o p (pf ++ w.2 ++ rest) := by
  induction hs with
  | root p =>
    intro is hu hn
    cases hu
    cases hn
  | @up i f n p q hf hs ih =>
    intro is hu hn
    cases hu with
    | @up _ f' _ is' hf' hu =>
      rw [hf] at hf'
      cases hf'
      obtain ⟨hm, e0⟩ := find_mem hf
      have e := Option.some.inj e0
      by_cases hi : f.id = l.id
      · have efl : f = l := nodup_inj h.nd f hm l hl hi
        subst efl
        obtain ⟨q0, h1, h2⟩ := std_app hpl
        obtain ⟨h3, _⟩ := std_one (h2 (f.path ++ p)) hs
        refine ⟨nf + 1, p, by rw [h1, List.append_assoc, h3], ?_⟩
        refine .up (f := ⟨f.id, f.hd, w.1, w.2, f.ct⟩) ?_ ?_
        · rw [find_mv, hf]
          show some (if f.id = f.id then _ else f) = _
          rw [if_pos rfl]
        · have := happ (w.2 ++ p)
          rw [List.append_assoc]
          exact this
      · have hn' : l.id ∈ is' := (List.mem_cons.mp hn).resolve_left fun z => hi (by rw [z, e])
        obtain ⟨m, rest, h1, h2⟩ := ih hu hn'
        refine ⟨m + 1, rest, h1, .up (f := f) ?_ h2⟩
        rw [find_mv, hf]
        show some (if f.id = l.id then _ else f) = some f
        rw [if_neg hi]
/-- a path is not long -/
theorem OkW.ln (h : OkW ls U r S) : ls.length ≤ U.length := by
  have := nodup_sub h.nd fun x hx => by
    obtain ⟨k, hk, rfl⟩ := List.mem_map.mp hx
    exact (h.idU k hk).1
  rw [List.length_map] at this
  exact this
theorem OkW.pathLen (h : OkW ls U r S) (hU : U.length ≤ 80) {n : Nat} {o : Option Id} {p q : List Str} (hs : Std ls n o p q) (hp : p.length ≤ 1000) : q.length ≤ 90000 := by
  have h1 := std_short h (by omega) hs
  have h2 := h.high_len hs
  have h3 := h.ln
  omega
theorem OkW.path1 (h : OkW ls U r S) (hU : U.length ≤ 80) {l : Line} (hl : l ∈ ls) : l.path.length ≤ 1000 := by
  have h4 := (h.len l hl).2
  have h5 := nodup_sub (h.snd l hl) fun x hx => (h.gone l hl x hx).1
  omega
theorem OkW.stdL (h : OkW ls U r S) (hU : U.length ≤ 80) {l : Line} (hl : l ∈ ls) : ∃ n q is, Std ls n l.ins l.path q ∧ Up ls n l.ins is ∧ is.Nodup ∧ n ≤ ls.length ∧ q.length ≤ 90000 := by
  obtain ⟨n, q0, hs⟩ := h.std_any l.path (h.ins hl)
  obtain ⟨is, hu⟩ := up_of_std hs
  exact ⟨n, _, is, hs, hu, hu.nodup h, h.high_len hs, h.pathLen hU hs (h.path1 hU hl)⟩
end
end Ln
/-! lines by their places in the list: the rules of edits, told by indices -/
namespace Ln
open PySem PySem.Spec PyProof.Rows L2 Evl Lw
def fixP (p : Line → Bool) : List Line → Option Nat
  | [] => none
  | l :: ls => if p l = true then some 0 else (fixP p ls).map (· + 1)
theorem fixP_cases (p : Line → Bool) : ∀ ls : List Line, (fixP p ls = none ∧ ls.find? p = none) ∨ ∃ i l, fixP p ls = some i ∧ ls[i]? = some l ∧ ls.find? p = some l
  | [] => .inl ⟨rfl, rfl⟩
  | a :: ls => by
    unfold fixP
    by_cases h : p a = true
    · rw [if_pos h]
      exact .inr ⟨0, a, rfl, rfl, List.find?_cons_of_pos h⟩
    · rw [if_neg h, List.find?_cons_of_neg h]
      rcases fixP_cases p ls with ⟨h1, h2⟩ | ⟨i, l, h1, h2, h3⟩
      · rw [h1]
        exact .inl ⟨rfl, h2⟩
      · rw [h1]
        exact .inr ⟨i + 1, l, rfl, by rw [List.getElem?_cons_succ]; exact h2, h3⟩
theorem fixP_up (p : Line → Bool) : ∀ (ls : List Line) (a : Line), fixP p (ls ++ [a]) = match fixP p ls with
    | some i => some i
    | none => if p a = true then some ls.length else none
  | [], a => by
    show (if p a = true then some 0 else none) = _
    rfl
  | l :: ls, a => by
    rw [List.cons_append]
    unfold fixP
    by_cases h : p l = true
    · rw [if_pos h, if_pos h]
    · rw [if_neg h, if_neg h, fixP_up p ls a]
      cases fixP p ls with
      | some i => rfl
      | none =>
        show Option.map _ (if p a = true then some ls.length else none) = _
        by_cases h2 : p a = true
        · rw [if_pos h2]
          show some (ls.length + 1) = if p a = true then some (ls.length + 1) else none
          rw [if_pos h2]
        · rw [if_neg h2]
          show none = if p a = true then some (ls.length + 1) else none
          rw [if_neg h2]
def ixI : Option Nat → Int
  | some i => (i : Int)
  | none => -1
theorem two_parts {ls : List Line} {i : Nat} {e : Line} (h : ls[i]? = some e) : ls = ls.take i ++ e :: ls.drop (i + 1) := by
  have h1 := List.getElem?_eq_some_iff.mp h
  obtain ⟨h2, h3⟩ := h1
  have h4 := List.drop_eq_getElem_cons h2
  rw [h3] at h4
  have h5 := (List.take_append_drop i ls).symm
  rw [h4] at h5
  exact h5
/-- beside e no line has its id -/
theorem two_other {ls : List Line} (nd : (ls.map (·.id)).Nodup) {i : Nat} {e : Line} (h : ls[i]? = some e) : (∀ l ∈ ls.take i, l.id ≠ e.id) ∧ ∀ l ∈ ls.drop (i + 1), l.id ≠ e.id := by
  have h2 := two_parts h
  rw [h2, List.map_append, List.map_cons] at nd
  obtain ⟨n1, n2, n3⟩ := List.nodup_append.mp nd
  refine ⟨fun l hl => n3 _ (List.mem_map_of_mem hl) _ List.mem_cons_self, fun l hl z => ?_⟩
  exact (List.nodup_cons.mp n2).1 (z ▸ List.mem_map_of_mem hl)
def endL (e l : Line) : Line := if l.ins = some e.id then { l with ins := e.ins, path := e.path ++ l.path } else l
theorem wo_part {e : Line} : ∀ {ls : List Line}, (∀ l ∈ ls, l.id ≠ e.id) → woLine ls e = ls.map (endL e)
  | [], _ => rfl
  | a :: ls, h => by
    have ih := wo_part (e := e) (ls := ls) fun l hl => h l (List.mem_cons_of_mem _ hl)
    unfold woLine at ih ⊢
    rw [List.flatMap_cons, ih, List.map_cons]
    unfold endL
    by_cases c : a.ins = some e.id
    · rw [if_pos c, if_pos c]
      rfl
    · rw [if_neg c, if_neg c, if_pos (h a List.mem_cons_self)]
      rfl
theorem wo_ix {ls : List Line} {U : List Id} {r : Id → Nat} {S : Id → List Id} (h : OkW ls U r S) {i : Nat} {e : Line} (hi : ls[i]? = some e) : (ls.take i ++ ls.drop (i + 1)).map (endL e) = woLine ls e := by
  obtain ⟨h1, h2⟩ := two_other h.nd hi
  have hs : e.ins ≠ some e.id := h.not_self (List.mem_of_getElem? hi)
  have e2 : woLine ls e = woLine (ls.take i ++ e :: ls.drop (i + 1)) e := by rw [← two_parts hi]
  have e3 : woLine (ls.take i ++ e :: ls.drop (i + 1)) e = woLine (ls.take i) e ++ woLine (ls.drop (i + 1)) e := by
    unfold woLine
    rw [List.flatMap_append, List.flatMap_cons, if_neg hs, if_neg (fun z => z rfl)]
    rfl
  rw [e2, e3, List.map_append, wo_part h1, wo_part h2]
theorem put_part {c n : Line} : ∀ {ls : List Line}, (∀ l ∈ ls, l.id ≠ c.id) → ls.map (fun k => if k.id = c.id then n else k) = ls
  | [], _ => rfl
  | a :: ls, h => by
    rw [List.map_cons, if_neg (h a List.mem_cons_self), put_part fun l hl => h l (List.mem_cons_of_mem _ hl)]
theorem put_ix {ls : List Line} (nd : (ls.map (·.id)).Nodup) {i : Nat} {c : Line} (hi : ls[i]? = some c) (n : Line) : ls.take i ++ n :: ls.drop (i + 1) = ls.map (fun k => if k.id = c.id then n else k) := by
  obtain ⟨h1, h2⟩ := two_other nd hi
  have e2 : ls.map (fun k => if k.id = c.id then n else k) = (ls.take i ++ c :: ls.drop (i + 1)).map (fun k => if k.id = c.id then n else k) := by rw [← two_parts hi]
  rw [e2, List.map_append, List.map_cons, put_part h1, put_part h2, if_pos rfl]
theorem flt_no {id : Id} {hs : List Id} (h : id ∉ hs) : hs.filter (fun x => !decide (x = id)) = hs := by
  refine List.filter_eq_self.mpr fun x hx => ?_
  have e : ¬ x = id := fun z => h (z ▸ hx)
  rw [decide_eq_false e]
  rfl
theorem FoldR.split : ∀ {x y : List Edit} {a c : List Line}, FoldR a (x ++ y) c → ∃ b, FoldR a x b ∧ FoldR b y c
  | [], y, a, c, h => ⟨a, .nil a, h⟩
  | e :: x, y, a, c, h => by
    cases h with
    | cons h1 h2 =>
      obtain ⟨b, h3, h4⟩ := FoldR.split h2
      exact ⟨b, .cons h1 h3, h4⟩
theorem FoldR.snoc {ls l1 l2 : List Line} {es : List Edit} {e : Edit} (h : FoldR ls es l1) (h2 : AftR l1 e l2) : FoldR ls (es ++ [e]) l2 := by
  induction h with
  | nil ls => exact .cons h2 (.nil _)
  | cons h1 _ ih => exact .cons h1 (ih h2)
theorem pickF_mem {row : Int} {is : List Id} {i : Id} (h : pickF row is = some i) : i ∈ is := by
  unfold pickF at h
  split at h
  · cases h
  · split at h <;> exact List.mem_of_getElem? h
theorem headsF_mem {row : Int} {is : List Id} {i : Id} : ∀ n, i ∈ headsF row is n → i ∈ is
  | 0, h => by cases h
  | n + 1, h => by
    rcases List.mem_append.mp h with h | h
    · exact headsF_mem n h
    · exact pickF_mem (Option.mem_toList.mp h)
/-- what a write replaces is not itself -/
def HdOk : Edit → Prop
  | .write id _ _ _ hs => id ∉ hs
  | _ => True
theorem editF_hd {row : Int} {id : Id} {is : List Id} (h : id ∉ is) : HdOk (editF row id is) := by
  have hh : ∀ r, id ∉ headsA r is := fun r z => h (headsF_mem _ z)
  unfold editF
  split
  · exact hh row
  · split
    · exact hh row
    · split
      · trivial
      · trivial
theorem idAt_not (k : Nat) : idAt k ∉ idsTo k := fun h => by
  obtain ⟨j, hj, e⟩ := List.mem_map.mp h
  have := idAt_inj e
  rw [List.mem_range] at hj
  omega
theorem meant_cases {ls : List Line} {m : Mv} {l : Line} (h : meantBy ls m = some l) : findHead ls m.1 = some l ∨ (findHead ls m.1 = none ∧ findLine ls m.2.1 = some l) := by
  unfold meantBy at h
  cases hh : findHead ls m.1 with
  | some x =>
    rw [hh] at h
    exact .inl h
  | none =>
    rw [hh, Option.none_or] at h
    exact .inr ⟨rfl, h⟩
theorem settle_in {ls : List Line} {pl : Place} : InLs ls (settleF ls pl).1 := by
  unfold settleF
  split
  · rename_i f hf
    split
    · intro i hi
      obtain ⟨h1, h2⟩ := find_mem hf
      rw [h2] at hi
      exact ⟨f, h1, Option.some.inj hi⟩
    · intro i hi
      cases hi
  · intro i hi
    cases hi
end Ln
/-! sound lists of lines: in order, heads apart, each standing somewhere -/
namespace Ln
open PySem PySem.Spec PyProof.Rows L2 Evl Lw
/-! ### the order of ids -/
def idLt (a b : Id) : Bool := PySem.W.dataLt (dId a) (dId b)
theorem idLt_iff (a b : Id) : idLt a b = true ↔ a.1 < b.1 ∨ a.1 = b.1 ∧ a.2 < b.2 := by
  obtain ⟨a1, a2⟩ := a
  obtain ⟨b1, b2⟩ := b
  have h1 : PySem.W.keyToks (dId (a1, a2)) = [.inl 1, .inl a1, .inl 1, .inl a2, .inl 0] := by simp [dId, PySem.W.keyToks, PySem.W.keyToksAll]
  have h2 : PySem.W.keyToks (dId (b1, b2)) = [.inl 1, .inl b1, .inl 1, .inl b2, .inl 0] := by simp [dId, PySem.W.keyToks, PySem.W.keyToksAll]
  unfold idLt PySem.W.dataLt
  rw [h1, h2]
  have lt : ∀ x y : Int, PyProof.Rows.itemLt (.inl x) (.inl y) = decide (x < y) := fun x y => rfl
  simp only [PyProof.Rows.lex_cons, PyProof.Rows.lexLt]
  simp only [lt, Bool.false_eq_true, and_false, or_false, Bool.or_eq_true, Bool.and_eq_true, Bool.not_eq_true', decide_eq_true_eq, decide_eq_false_iff_not]
  omega
def ascB (is : List Id) : Bool := (is.zip (is.drop 1)).all fun p => idLt p.1 p.2
theorem ascB_cons {a b : Id} {r : List Id} : ascB (a :: b :: r) = (idLt a b && ascB (b :: r)) := rfl
theorem asc_of : ∀ {is : List Id}, is.Pairwise (fun a b => idLt a b = true) → ascB is = true
  | [], _ => rfl
  | [_], _ => rfl
  | a :: b :: r, h => by
    rw [List.pairwise_cons] at h
    rw [ascB_cons, h.1 b List.mem_cons_self, asc_of h.2]
    rfl
theorem idLt_trans {a b c : Id} (h1 : idLt a b = true) (h2 : idLt b c = true) : idLt a c = true := by
  rw [idLt_iff] at *
  omega
theorem idLt_irr {a : Id} : ¬ idLt a a = true := by
  rw [idLt_iff]
  omega
theorem asc_pw : ∀ {is : List Id}, ascB is = true → is.Pairwise fun a b => idLt a b = true
  | [], _ => .nil
  | [_], _ => by simp
  | a :: b :: r, h => by
    rw [ascB_cons, Bool.and_eq_true] at h
    have ih := asc_pw h.2
    rw [List.pairwise_cons]
    refine ⟨fun x hx => ?_, ih⟩
    rcases List.mem_cons.mp hx with rfl | hx
    · exact h.1
    · exact idLt_trans h.1 ((List.pairwise_cons.mp ih).1 x hx)
theorem asc_nd {is : List Id} (h : ascB is = true) : is.Nodup := List.Pairwise.imp (S := fun a b => a ≠ b) (fun h e => by subst e; exact idLt_irr h) (asc_pw h)
theorem idAt_lt {j k : Nat} (h : j < k) : idLt (idAt j) (idAt k) = true := by
  rw [idLt_iff]
  show (j : Int) / 2 + 1 < (k : Int) / 2 + 1 ∨ (j : Int) / 2 + 1 = (k : Int) / 2 + 1 ∧ (j : Int) % 2 < (k : Int) % 2
  omega
theorem idsTo_pw (n : Nat) : (idsTo n).Pairwise fun a b => idLt a b = true := by
  unfold idsTo
  rw [List.pairwise_map]
  exact List.pairwise_lt_range.imp fun h => idAt_lt h
/-! ### ids stay in order -/
theorem wo_sub (ls : List Line) (e : Line) : ((woLine ls e).map (·.id)).Sublist (ls.map (·.id)) := by
  unfold woLine
  induction ls with
  | nil => exact List.Sublist.refl _
  | cons a ls ih =>
    rw [List.flatMap_cons, List.map_append, List.map_cons]
    split
    · exact ih.cons₂ _
    · split
      · exact ih.cons₂ _
      · exact ih.cons _
theorem head_sub (ls : List Line) (h : Id) : ((woHead ls h).map (·.id)).Sublist (ls.map (·.id)) := by
  unfold woHead
  split
  · exact wo_sub _ _
  · exact List.Sublist.refl _
theorem heads_sub : ∀ (hs : List Id) (ls : List Line), ((woHeads ls hs).map (·.id)).Sublist (ls.map (·.id))
  | [], _ => List.Sublist.refl _
  | h :: hs, ls => (heads_sub hs (woHead ls h)).trans (head_sub ls h)
theorem put_ids {ls : List Line} {c n : Line} (h : n.id = c.id) : (ls.map fun k => if k.id = c.id then n else k).map (·.id) = ls.map (·.id) := by
  rw [List.map_map]
  refine List.map_congr_left fun k _ => ?_
  show (if k.id = c.id then n else k).id = k.id
  split
  · rename_i e
    rw [h, e]
  · rfl
theorem mv_ids {ls ls' : List Line} {m : Mv} (h : MvR ls m ls') : ls'.map (·.id) = ls.map (·.id) := by
  cases h with
  | no _ => rfl
  | ring _ _ => rfl
  | @yes l n h1 h2 => exact put_ids (c := l) (n := ⟨l.id, l.hd, _, _, l.ct⟩) rfl
theorem mvs_ids {ls ls' : List Line} {ms : List Mv} (h : MvsR ls ms ls') : ls'.map (·.id) = ls.map (·.id) := by
  induction h with
  | nil => rfl
  | cons _ h1 _ ih => rw [ih, mv_ids h1]
theorem text_sub {ls : List Line} {id : Id} {pl : Place} {ct : Option Ct} {meant : Option Id} {hs : List Id} : ((textIn ls id pl ct meant hs).map (·.id)).Sublist (ls.map (·.id) ++ [id]) := by
  unfold textIn
  split
  · unfold withNew
    rw [List.map_append]
    exact List.Sublist.refl _
  · rename_i c _
    rw [put_ids (c := c) (n := ⟨c.id, id, c.ins, c.path, ct⟩) rfl]
    exact List.sublist_append_left _ _
theorem aft_sub {ls ls' : List Line} {e : Edit} (h : AftR ls e ls') : (ls'.map (·.id)).Sublist (ls.map (·.id) ++ [eId e]) := by
  cases h with
  | drop id hs _ => exact (heads_sub hs ls).trans (List.sublist_append_left _ _)
  | move id hm =>
    rw [mvs_ids hm]
    exact List.sublist_append_left _ _
  | mark id pl meant hs _ _ =>
    refine (heads_sub hs _).trans ?_
    unfold withNew
    rw [List.map_append]
    exact List.Sublist.refl _
  | text id pl c meant hs _ _ _ => exact (heads_sub _ _).trans text_sub
/-! ### heads that are gone, and the one that is there -/
theorem wo_hds {ls : List Line} {e k : Line} (h : k ∈ woLine ls e) : ∃ l ∈ ls, l.hd = k.hd ∧ l.id = k.id ∧ l.ct = k.ct := by
  obtain ⟨l, hl, ⟨_, rfl⟩ | ⟨_, _, rfl⟩⟩ := mem_wo.mp h
  · exact ⟨l, hl, rfl, rfl, rfl⟩
  · exact ⟨k, hl, rfl, rfl, rfl⟩
theorem head_hds {ls : List Line} {h : Id} {k : Line} (hk : k ∈ woHead ls h) : ∃ l ∈ ls, l.hd = k.hd ∧ l.id = k.id ∧ l.ct = k.ct := by
  unfold woHead at hk
  split at hk
  · exact wo_hds hk
  · exact ⟨k, hk, rfl, rfl, rfl⟩
theorem heads_hds : ∀ {hs : List Id} {ls : List Line} {k : Line}, k ∈ woHeads ls hs → ∃ l ∈ ls, l.hd = k.hd
  | [], _, k, h => ⟨k, h, rfl⟩
  | x :: hs, ls, k, h => by
    obtain ⟨l, hl, e⟩ := heads_hds (hs := hs) (ls := woHead ls x) h
    obtain ⟨l', hl', e', _⟩ := head_hds hl
    exact ⟨l', hl', e'.trans e⟩
section
variable {ls : List Line} {U : List Id}
theorem head_gone (h : Ok ls U) (x : Id) : ∀ k ∈ woHead ls x, k.hd ≠ x := by
  obtain ⟨r, S, hW⟩ := h
  intro k hk e
  unfold woHead at hk
  split at hk
  · rename_i f hf
    obtain ⟨h1, h2⟩ := findH_mem hf
    have h2 := Option.some.inj h2
    obtain ⟨l, hl, ⟨q, rfl⟩ | ⟨_, q, rfl⟩⟩ := mem_wo.mp hk
    · have : l = f := nodup_inj hW.hnd l hl f h1 (by rw [← h2]; exact e)
      rw [this] at q
      exact hW.not_self h1 q
    · have : k = f := nodup_inj hW.hnd k hl f h1 (by rw [← h2]; exact e)
      exact q (by rw [this])
  · rename_i hf
    have := List.find?_eq_none.mp hf k hk
    simp [e] at this
theorem heads_gone : ∀ (hs : List Id) {ls : List Line}, Ok ls U → ∀ x ∈ hs, ∀ k ∈ woHeads ls hs, k.hd ≠ x
  | [], _, _, x, hx, _, _ => by cases hx
  | y :: hs, ls, h, x, hx, k, hk => by
    rcases List.mem_cons.mp hx with rfl | hx
    · obtain ⟨l, hl, e⟩ := heads_hds (hs := hs) (ls := woHead ls x) hk
      rw [← e]
      exact head_gone h x l hl
    · exact heads_gone hs (h.head y) x hx k hk
theorem head_stay (h : Ok ls U) {x : Id} {i : Id} (hi : i ∈ ls.map (·.hd)) (hx : i ≠ x) : i ∈ (woHead ls x).map (·.hd) := by
  obtain ⟨r, S, hW⟩ := h
  unfold woHead
  split
  · rename_i f hf
    obtain ⟨h1, h2⟩ := findH_mem hf
    obtain ⟨l, hl, rfl⟩ := List.mem_map.mp hi
    have hne : l.id ≠ f.id := fun z => hx (by rw [nodup_inj hW.nd l hl f h1 z]; exact (Option.some.inj h2).symm)
    by_cases q : l.ins = some f.id
    · exact List.mem_map.mpr ⟨_, mem_wo.mpr ⟨l, hl, .inl ⟨q, rfl⟩⟩, rfl⟩
    · exact List.mem_map.mpr ⟨l, mem_wo.mpr ⟨l, hl, .inr ⟨q, hne, rfl⟩⟩, rfl⟩
  · exact hi
theorem heads_stay : ∀ (hs : List Id) {ls : List Line}, Ok ls U → ∀ {i : Id}, i ∈ ls.map (·.hd) → i ∉ hs → i ∈ (woHeads ls hs).map (·.hd)
  | [], _, _, _, hi, _ => hi
  | y :: hs, ls, h, i, hi, hn => heads_stay hs (h.head y) (head_stay h hi fun z => hn (z ▸ List.mem_cons_self)) fun z => hn (List.mem_cons_of_mem _ z)
/-- what an edit replaces or drops -/
def repl : Edit → List Id
  | .write _ _ _ _ hs => hs
  | .drop _ hs => hs
  | .move _ _ => []
theorem text_hd {id : Id} {pl : Place} {ct : Option Ct} {meant : Option Id} {hs : List Id} : id ∈ (textIn ls id pl ct meant hs).map (·.hd) := by
  unfold textIn
  split
  · unfold withNew
    rw [List.map_append]
    exact List.mem_append_right _ (List.mem_singleton_self _)
  · rename_i c hc
    have := List.mem_of_find?_eq_some hc
    refine List.mem_map.mpr ⟨_, List.mem_map.mpr ⟨c, this, if_pos rfl⟩, rfl⟩
/-- after an edit no head is there that it replaces, and a write's own head is -/
theorem aft_hds (h : Ok ls U) {e : Edit} {ls' : List Line} (hid : eId e ∉ U) (hg : GoodEd e) (hh : HdOk e) (ha : AftR ls e ls') : (∀ x ∈ repl e, x ∉ ls'.map (·.hd)) ∧ ∀ id pl ct meant hs, e = .write id pl ct meant hs → id ∈ ls'.map (·.hd) := by
  have gone : ∀ {U : List Id} {l : List Line} {hs : List Id}, Ok l U → ∀ x ∈ hs, x ∉ (woHeads l hs).map (·.hd) := fun {U l hs} ho x hx hm => by
    obtain ⟨k, hk, q⟩ := List.mem_map.mp hm
    exact heads_gone hs ho x hx k hk q
  cases ha with
  | drop id hs _ => exact ⟨fun x hx => gone h x hx, fun _ _ _ _ _ z => by cases z⟩
  | move id hm => exact ⟨fun x hx => (by cases hx), fun _ _ _ _ _ z => by cases z⟩
  | mark id pl meant hs _ _ =>
    have ho := h.new (id := id) hid hg.1 none meant
    refine ⟨fun x hx => gone ho x hx, fun _ _ _ _ _ z => ?_⟩
    cases z
    refine heads_stay hs ho ?_ hh
    unfold withNew
    rw [List.map_append]
    exact List.mem_append_right _ (List.mem_singleton_self _)
  | text id pl c meant hs _ _ _ =>
    have ho := h.textIn (id := id) hid hg.1 c meant hs
    unfold afterText
    rw [flt_no hh]
    refine ⟨fun x hx => gone ho x hx, fun _ _ _ _ _ z => ?_⟩
    cases z
    exact heads_stay hs ho text_hd hh
end
/-! ### reached from the root -/
inductive Reach (ls : List Line) : Option Id → Prop where
  | root : Reach ls none
  | step {l : Line} : l ∈ ls → Reach ls l.ins → Reach ls (some l.id)
def kids (ls : List Line) (o : Option Id) : List Id := (ls.filter fun l => decide (l.ins = o)).map (·.id)
theorem mem_kids {ls : List Line} {o : Option Id} {i : Id} : i ∈ kids ls o ↔ ∃ l ∈ ls, l.ins = o ∧ l.id = i := by
  unfold kids
  rw [List.mem_map]
  constructor
  · rintro ⟨l, hl, e⟩
    rw [List.mem_filter] at hl
    exact ⟨l, hl.1, of_decide_eq_true hl.2, e⟩
  · rintro ⟨l, hl, h, e⟩
    exact ⟨l, List.mem_filter.mpr ⟨hl, decide_eq_true h⟩, e⟩
theorem kids_nd {ls : List Line} (h : (ls.map (·.id)).Nodup) (o : Option Id) : (kids ls o).Nodup := (List.filter_sublist.map _).nodup h
theorem kids_len (ls : List Line) (o : Option Id) : (kids ls o).length ≤ ls.length := by
  unfold kids
  rw [List.length_map]
  exact List.length_filter_le _ _
theorem kids_up {ls : List Line} {a : Line} {o : Option Id} : kids (ls ++ [a]) o = kids ls o ++ if a.ins = o then [a.id] else [] := by
  unfold kids
  rw [List.filter_append, List.map_append]
  congr 1
  by_cases h : a.ins = o
  · rw [if_pos h, List.filter_cons_of_pos (by simpa using h)]
    rfl
  · rw [if_neg h, List.filter_cons_of_neg (by simpa using h)]
    rfl
structure Bfs (ls : List Line) (dn W : List (Option Id)) (r : Int) : Prop where
  nd : (dn ++ W).Nodup
  rt : none ∈ dn ++ W
  re : ∀ o ∈ dn ++ W, Reach ls o
  par : ∀ i, some i ∈ dn ++ W → ∃ l ∈ ls, l.id = i ∧ l.ins ∈ dn
  kid : ∀ o ∈ dn, ∀ l ∈ ls, l.ins = o → some l.id ∈ dn ++ W
  cnt : r + 1 = ((dn ++ W).length : Int)
theorem Bfs.start (ls : List Line) : Bfs ls [] [none] 0 := by
  refine ⟨by simp, by simp, fun o ho => ?_, fun i hi => by simp at hi, fun o ho => (by cases ho), rfl⟩
  rw [List.nil_append, List.mem_singleton] at ho
  rw [ho]
  exact .root
def allK (ls : List Line) : List (Option Id) := none :: ls.map fun l => some l.id
theorem Bfs.sub {ls : List Line} {dn W : List (Option Id)} {r : Int} (b : Bfs ls dn W r) : ∀ o ∈ dn ++ W, o ∈ allK ls := fun o ho => by
  cases o with
  | none => exact List.mem_cons_self
  | some i =>
    obtain ⟨l, hl, rfl, _⟩ := b.par i ho
    exact List.mem_cons_of_mem _ (List.mem_map.mpr ⟨l, hl, rfl⟩)
theorem Bfs.le {ls : List Line} {dn W : List (Option Id)} {r : Int} (b : Bfs ls dn W r) : (dn ++ W).length ≤ ls.length + 1 := by
  have := nodup_sub b.nd b.sub
  unfold allK at this
  rw [List.length_cons, List.length_map] at this
  exact this
theorem Bfs.next {ls : List Line} (nd : (ls.map (·.id)).Nodup) {dn W : List (Option Id)} {o : Option Id} {r : Int} (b : Bfs ls dn (W ++ [o]) r) : Bfs ls (o :: dn) (W ++ (kids ls o).map some) (r + ((kids ls o).length : Int)) := by
  have hmem : ∀ x, x ∈ o :: dn ++ (W ++ (kids ls o).map some) ↔ x ∈ dn ++ (W ++ [o]) ∨ x ∈ (kids ls o).map some := fun x => by
    simp only [List.mem_append, List.mem_cons, List.mem_singleton, List.not_mem_nil, or_false]
    constructor
    · rintro ((h | h) | h | h)
      · exact .inl (.inr (.inr h))
      · exact .inl (.inl h)
      · exact .inl (.inr (.inl h))
      · exact .inr h
    · rintro ((h | h | h) | h)
      · exact .inl (.inr h)
      · exact .inr (.inl h)
      · exact .inl (.inl h)
      · exact .inr (.inr h)
  obtain ⟨n1, n2, n3⟩ := List.nodup_append.mp b.nd
  obtain ⟨n4, n5, n6⟩ := List.nodup_append.mp n2
  have od : o ∉ dn := fun h => n3 o h o (List.mem_append_right _ (List.mem_singleton_self _)) rfl
  have ow : o ∉ W := fun h => n6 o h o (List.mem_singleton_self _) rfl
  have fresh : ∀ x ∈ (kids ls o).map some, x ∉ dn ++ (W ++ [o]) := fun x hx hm => by
    obtain ⟨i, hi, rfl⟩ := List.mem_map.mp hx
    obtain ⟨l, hl, h1, h2⟩ := mem_kids.mp hi
    obtain ⟨l', hl', h3, h4⟩ := b.par i hm
    have : l' = l := nodup_inj nd l' hl' l hl (h3.trans h2.symm)
    rw [this, h1] at h4
    exact od h4
  have kn : ((kids ls o).map some).Nodup := List.Pairwise.map _ (fun a b h e => h (Option.some.inj e)) (kids_nd nd o)
  refine ⟨?_, ?_, fun x hx => ?_, fun i hi => ?_, fun x hx l hl e => ?_, ?_⟩
  · rw [List.cons_append, List.nodup_cons]
    refine ⟨fun h => ?_, ?_⟩
    · rcases List.mem_append.mp h with h | h
      · exact od h
      · rcases List.mem_append.mp h with h | h
        · exact ow h
        · exact fresh o h (List.mem_append_right _ (List.mem_append_right _ (List.mem_singleton_self _)))
    · refine List.nodup_append.mpr ⟨n1, List.nodup_append.mpr ⟨n4, kn, fun x hx y hy e => ?_⟩, fun x hx y hy e => ?_⟩
      · subst e
        exact fresh x hy (List.mem_append_right _ (List.mem_append_left _ hx))
      · subst e
        rcases List.mem_append.mp hy with hy | hy
        · exact n3 x hx x (List.mem_append_left _ hy) rfl
        · exact fresh x hy (List.mem_append_left _ hx)
  · exact (hmem none).mpr (.inl b.rt)
  · rcases (hmem x).mp hx with h | h
    · exact b.re x h
    · obtain ⟨i, hi, rfl⟩ := List.mem_map.mp h
      obtain ⟨l, hl, h1, rfl⟩ := mem_kids.mp hi
      refine .step hl ?_
      rw [h1]
      exact b.re o (List.mem_append_right _ (List.mem_append_right _ (List.mem_singleton_self _)))
  · rcases (hmem _).mp hi with h | h
    · obtain ⟨l, hl, h1, h2⟩ := b.par i h
      exact ⟨l, hl, h1, List.mem_cons_of_mem _ h2⟩
    · obtain ⟨j, hj, e⟩ := List.mem_map.mp h
      obtain ⟨l, hl, h1, h2⟩ := mem_kids.mp hj
      exact ⟨l, hl, h2.trans (Option.some.inj e), by rw [h1]; exact List.mem_cons_self⟩
  · rw [hmem]
    rcases List.mem_cons.mp hx with h | h
    · exact .inr (List.mem_map.mpr ⟨l.id, mem_kids.mpr ⟨l, hl, e.trans h, rfl⟩, rfl⟩)
    · exact .inl (b.kid x h l hl e)
  · have := b.cnt
    simp only [List.length_append, List.length_cons, List.length_map, List.length_nil] at this ⊢
    omega
theorem Bfs.fin {ls : List Line} (nd : (ls.map (·.id)).Nodup) {dn : List (Option Id)} {r : Int} (b : Bfs ls dn [] r) : r = (ls.length : Int) ↔ ∀ l ∈ ls, Reach ls (some l.id) := by
  have hc := b.cnt
  have hs := b.sub
  have hn := b.nd
  rw [List.append_nil] at hc hs hn
  have hle := b.le
  rw [List.append_nil] at hle
  constructor
  · intro h l hl
    refine Classical.byContradiction fun q => ?_
    have hx : some l.id ∉ dn := fun m => q (b.re _ (List.mem_append_left _ m))
    have h1 : some l.id ∈ allK ls := List.mem_cons_of_mem _ (List.mem_map.mpr ⟨l, hl, rfl⟩)
    have h2 := nodup_sub (u := (allK ls).erase (some l.id)) hn fun o ho => (List.mem_erase_of_ne fun e => hx (by rw [← e]; exact ho)).mpr (hs o ho)
    rw [List.length_erase_of_mem h1] at h2
    unfold allK at h2
    rw [List.length_cons, List.length_map] at h2
    omega
  · intro h
    have hd : ∀ o, Reach ls o → o ∈ dn := by
      intro o ho
      induction ho with
      | root =>
        have := b.rt
        rw [List.append_nil] at this
        exact this
      | step hl _ ih =>
        have := b.kid _ ih _ hl rfl
        rw [List.append_nil] at this
        exact this
    have hk : (allK ls).Nodup := by
      unfold allK
      rw [List.nodup_cons]
      refine ⟨fun m => ?_, ?_⟩
      · obtain ⟨l, _, e⟩ := List.mem_map.mp m
        cases e
      · have : (ls.map fun l => some l.id) = (ls.map (·.id)).map some := by rw [List.map_map]; rfl
        rw [this]
        exact List.Pairwise.map _ (fun a b h e => h (Option.some.inj e)) nd
    have h3 := nodup_sub hk fun o ho => by
      unfold allK at ho
      rcases List.mem_cons.mp ho with rfl | ho
      · exact hd _ .root
      · obtain ⟨l, hl, rfl⟩ := List.mem_map.mp ho
        exact hd _ (h l hl)
    unfold allK at h3
    rw [List.length_cons, List.length_map] at h3
    omega
/-! ### sound -/
def SdP (fs : List Id) (l : Line) : Prop := l.path ≠ [] ∧ (l.ct = none → l.hd = l.id) ∧ ∀ i, l.ins = some i → i ∈ fs
def folds (ls : List Line) : List Id := (ls.filter fun l => l.ct.isNone).map (·.id)
structure SoundP (ls : List Line) : Prop where
  asc : ascB (ls.map (·.id)) = true
  hnd : (ls.map (·.hd)).Nodup
  sd : ∀ l ∈ ls, SdP (folds ls) l
  re : ∀ l ∈ ls, Reach ls (some l.id)
theorem mem_folds {ls : List Line} {i : Id} : i ∈ folds ls ↔ ∃ l ∈ ls, l.ct = none ∧ l.id = i := by
  unfold folds
  rw [List.mem_map]
  constructor
  · rintro ⟨l, hl, e⟩
    rw [List.mem_filter] at hl
    exact ⟨l, hl.1, Option.isNone_iff_eq_none.mp hl.2, e⟩
  · rintro ⟨l, hl, h, e⟩
    exact ⟨l, List.mem_filter.mpr ⟨hl, Option.isNone_iff_eq_none.mpr h⟩, e⟩
theorem OkW.reach {ls : List Line} {U : List Id} {r : Id → Nat} {S : Id → List Id} (h : OkW ls U r S) : ∀ (k : Nat) (l : Line), l ∈ ls → r l.id < k → Reach ls (some l.id)
  | 0, _, _, hk => absurd hk (Nat.not_lt_zero _)
  | k + 1, l, hl, hk => by
    refine .step hl ?_
    cases hi : l.ins with
    | none => exact .root
    | some i =>
      obtain ⟨f, hf, rfl, _, hr⟩ := h.up l hl i hi
      exact OkW.reach h k f hf (by omega)
theorem Ok.sound {ls : List Line} {U : List Id} {n : Nat} (h : Ok ls U) (hs : (ls.map (·.id)).Sublist (idsTo n)) : SoundP ls := by
  obtain ⟨r, S, hW⟩ := h
  refine ⟨asc_of ((idsTo_pw n).sublist hs), hW.hnd, fun l hl => ⟨fun e => ?_, hW.fol l hl, fun i hi => ?_⟩, fun l hl => hW.reach _ l hl (Nat.lt_succ_self _)⟩
  · have := (hW.len l hl).1
    rw [e] at this
    exact absurd this (by decide)
  · obtain ⟨f, hf, e, hc, _⟩ := hW.up l hl i hi
    exact mem_folds.mpr ⟨f, hf, hc, e⟩
/-! ### one thing wrong -/
inductive Wrong (ls : List Line) (k : Nat) : List Line → Prop where
  | path {l : Line} : ls[k]? = some l → Wrong ls k (ls.set k { l with path := [] })
  | far {l : Line} : ls[k]? = some l → Wrong ls k (ls.set k { l with ins := some (77, 7) })
  | self {l : Line} : ls[k]? = some l → Wrong ls k (ls.set k { l with ins := some l.id })
  | head {l : Line} : ls[k]? = some l → l.ct = none → Wrong ls k (ls.set k { l with hd := (78, 0) })
  | swap {l b : Line} : 0 < k → ls[k]? = some l → ls[k - 1]? = some b → Wrong ls k (ls.take (k - 1) ++ ([l, b] ++ ls.drop (k + 1)))
  | twice {l b : Line} : 0 < k → ls[k]? = some l → ls[k - 1]? = some b → Wrong ls k (ls.set k { l with hd := b.hd })
  | file {l b : Line} : 0 < k → ls[k]? = some l → ls[k - 1]? = some b → b.ct ≠ none → Wrong ls k (ls.set k { l with ins := some b.id })
theorem Wrong.len {ls w : List Line} {k : Nat} (h : Wrong ls k w) : w.length = ls.length := by
  cases h with
  | swap h1 h2 h3 =>
    have := (List.getElem?_eq_some_iff.mp h2).1
    rw [List.length_append, List.length_append, List.length_take, List.length_drop]
    show min (k - 1) ls.length + (2 + (ls.length - (k + 1))) = ls.length
    omega
  | _ => exact List.length_set
theorem folds_set {ls : List Line} {k : Nat} {l n : Line} (h : ls[k]? = some l) (hi : n.id = l.id) (hc : n.ct = l.ct) : folds (ls.set k n) = folds ls := by
  unfold folds
  have hlt := (List.getElem?_eq_some_iff.mp h).1
  have e := two_parts h
  have e2 : ls.set k n = ls.take k ++ n :: ls.drop (k + 1) := List.set_eq_take_append_cons_drop.trans (if_pos hlt)
  rw [e2]
  conv => rhs; rw [e]
  rw [List.filter_append, List.filter_append, List.map_append, List.map_append]
  congr 1
  by_cases z : l.ct.isNone = true
  · rw [List.filter_cons_of_pos (p := fun l : Line => l.ct.isNone) (by rw [hc]; exact z), List.filter_cons_of_pos (p := fun l : Line => l.ct.isNone) z, List.map_cons, List.map_cons, hi]
  · rw [List.filter_cons_of_neg (p := fun l : Line => l.ct.isNone) (by rw [hc]; exact z), List.filter_cons_of_neg (p := fun l : Line => l.ct.isNone) z]
theorem Wrong.not {ls w : List Line} {U : List Id} {k n : Nat} (hO : Ok ls U) (hs : (ls.map (·.id)).Sublist (idsTo n)) (hn : n ≤ 100) (h : Wrong ls k w) : ¬ SoundP w := by
  obtain ⟨r, S, hW⟩ := hO
  intro p
  have here : ∀ {m : Line}, k < ls.length → m ∈ ls.set k m := fun {m} hlt => List.mem_of_getElem? (List.getElem?_set_self hlt)
  have inIds : ∀ i ∈ folds ls, i ∈ idsTo n := fun i hi => by
    obtain ⟨f, hf, _, rfl⟩ := mem_folds.mp hi
    exact hs.subset (List.mem_map_of_mem hf)
  cases h with
  | @path l hl => exact (p.sd _ (here (List.getElem?_eq_some_iff.mp hl).1)).1 rfl
  | @far l hl =>
    have h1 := (p.sd _ (here (List.getElem?_eq_some_iff.mp hl).1)).2.2 _ rfl
    rw [folds_set (n := { l with ins := some (77, 7) }) hl rfl rfl] at h1
    obtain ⟨j, hj, e⟩ := List.mem_map.mp (inIds _ h1)
    have e1 : (j : Int) / 2 + 1 = 77 := congrArg Prod.fst e
    rw [List.mem_range] at hj
    omega
  | @self l hl =>
    have hlt := (List.getElem?_eq_some_iff.mp hl).1
    have hm : ({ l with ins := some l.id } : Line) ∈ ls.set k { l with ins := some l.id } := here hlt
    have nd : ((ls.set k { l with ins := some l.id }).map (·.id)).Nodup := asc_nd p.asc
    have no : ∀ o, Reach (ls.set k { l with ins := some l.id }) o → o ≠ some l.id := by
      intro o ho
      induction ho with
      | root => exact nofun
      | @step m hmm _ ih =>
        intro e
        have e' : m.id = l.id := Option.some.inj e
        have : m = { l with ins := some l.id } := nodup_inj nd m hmm _ hm e'
        rw [this] at ih
        exact ih rfl
    exact no _ (p.re _ hm) rfl
  | @head l hl hc =>
    have h1 := (p.sd _ (here (List.getElem?_eq_some_iff.mp hl).1)).2.1 hc
    have h2 : l.id ∈ idsTo n := hs.subset (List.mem_map_of_mem (List.mem_of_getElem? hl))
    have h1 : ((78, 0) : Id) = l.id := h1
    obtain ⟨j, hj, e⟩ := List.mem_map.mp h2
    rw [← h1] at e
    have e1 : (j : Int) / 2 + 1 = 78 := congrArg Prod.fst e
    rw [List.mem_range] at hj
    omega
  | @swap l b hk hl hb =>
    have hb' := two_parts hb
    have e1 : k - 1 + 1 = k := by omega
    have hd : ls.drop k = l :: ls.drop (k + 1) := by
      have hlt := List.getElem?_eq_some_iff.mp hl
      rw [List.drop_eq_getElem_cons hlt.1, hlt.2]
    rw [e1, hd] at hb'
    have pw : (ls.map (·.id)).Pairwise fun a b => idLt a b = true := (idsTo_pw n).sublist hs
    rw [hb', List.map_append] at pw
    have q1 : idLt b.id l.id = true := (List.pairwise_cons.mp (List.pairwise_append.mp pw).2.1).1 _ List.mem_cons_self
    have pw2 := asc_pw p.asc
    rw [List.map_append] at pw2
    have q2 : idLt l.id b.id = true := (List.pairwise_cons.mp (List.pairwise_append.mp pw2).2.1).1 _ List.mem_cons_self
    exact idLt_irr (idLt_trans q1 q2)
  | @twice l b hk hl hb =>
    have hlt := (List.getElem?_eq_some_iff.mp hl).1
    have h1 : (ls.set k { l with hd := b.hd })[k]? = some { l with hd := b.hd } := List.getElem?_set_self hlt
    have h2 : (ls.set k { l with hd := b.hd })[k - 1]? = some b := by rw [List.getElem?_set_ne (by omega)]; exact hb
    have g1 : ((ls.set k { l with hd := b.hd }).map (·.hd))[k]? = some b.hd := by rw [List.getElem?_map, h1]; rfl
    have g2 : ((ls.set k { l with hd := b.hd }).map (·.hd))[k - 1]? = some b.hd := by rw [List.getElem?_map, h2]; rfl
    have := (List.getElem?_inj (by rw [List.length_map, List.length_set]; exact hlt) p.hnd).mp (g1.trans g2.symm)
    omega
  | @file l b hk hl hb hc =>
    have h1 := (p.sd _ (here (List.getElem?_eq_some_iff.mp hl).1)).2.2 _ rfl
    rw [folds_set (n := { l with ins := some b.id }) hl rfl rfl] at h1
    obtain ⟨f, hf, hfc, e⟩ := mem_folds.mp h1
    have : f = b := nodup_inj hW.nd f hf b (List.mem_of_getElem? hb) e
    rw [this] at hfc
    exact hc hfc
theorem sound_nil : SoundP [] := ⟨rfl, List.nodup_nil, fun _ h => (by cases h), fun _ h => by cases h⟩
end Ln
namespace K14
open PySem PySem.Spec PyProof.Rows L2 Evl Lw Pw Ln Le
def top (i : Nat) : Stmt := PySem.Challenge.pw_foldkeep_k14_lines_stay_sound.main.body.getD i (.Pass ⟨0, 0, 0, 0⟩)
abbrev s_find_line : Stmt := top 1
abbrev s_find_head : Stmt := top 2
abbrev s_settle : Stmt := top 3
abbrev s_stands_in : Stmt := top 4
abbrev s_move_line : Stmt := top 5
abbrev s_without_line : Stmt := top 6
abbrev s_without_heads : Stmt := top 7
abbrev s_with_new_line : Stmt := top 8
abbrev s_first_replaced : Stmt := top 9
abbrev s_after_text : Stmt := top 10
abbrev s_after_move : Stmt := top 11
abbrev s_lines_after : Stmt := top 12
abbrev s_are_ascending : Stmt := top 14
abbrev s_heads_differ : Stmt := top 15
abbrev s_stands_soundly : Stmt := top 16
abbrev s_all_are_reached : Stmt := top 17
abbrev s_lines_sound : Stmt := top 18
abbrev s_law_rows : Stmt := top 20
abbrev s_law_path : Stmt := top 21
abbrev s_law_pick : Stmt := top 22
abbrev s_law_place : Stmt := top 23
abbrev s_law_heads : Stmt := top 24
abbrev s_law_edit : Stmt := top 25
abbrev s_law_edits : Stmt := top 26
abbrev s_law_with : Stmt := top 27
abbrev s_law_wrong : Stmt := top 28
abbrev s_law_replaced : Stmt := top 29
abbrev s_law : Stmt := top 30
theorem sc_find_line : FnScope ["lines", "line_id", "line"] ["lines", "line_id"] (defScope s_find_line) := ⟨rfl, rfl, rfl, by decide +kernel, rfl, by decide +kernel, by decide +kernel⟩
theorem sc_find_head : FnScope ["lines", "head", "line"] ["lines", "head"] (defScope s_find_head) := ⟨rfl, rfl, rfl, by decide +kernel, rfl, by decide +kernel, by decide +kernel⟩
theorem sc_settle : FnScope ["lines", "place", "inside", "below", "seen", "folder"] ["lines", "place"] (defScope s_settle) := ⟨rfl, rfl, rfl, by decide +kernel, rfl, by decide +kernel, by decide +kernel⟩
theorem sc_stands_in : FnScope ["lines", "inside", "line_id"] ["lines", "inside", "line_id"] (defScope s_stands_in) := ⟨rfl, rfl, rfl, by decide +kernel, rfl, by decide +kernel, by decide +kernel⟩
theorem sc_move_line : FnScope ["lines", "head", "line_id", "place", "line", "inside", "below", "moved", "known"] ["lines", "head", "line_id", "place"] (defScope s_move_line) := ⟨rfl, rfl, rfl, by decide +kernel, rfl, by decide +kernel, by decide +kernel⟩
theorem sc_without_line : FnScope ["lines", "ended", "left", "known", "line_id", "head", "inside", "below", "content"] ["lines", "ended"] (defScope s_without_line) := ⟨rfl, rfl, rfl, by decide +kernel, rfl, by decide +kernel, by decide +kernel⟩
theorem sc_without_heads : FnScope ["lines", "heads", "head", "ended"] ["lines", "heads"] (defScope s_without_heads) := ⟨rfl, rfl, rfl, by decide +kernel, rfl, by decide +kernel, by decide +kernel⟩
theorem sc_with_new_line : FnScope ["lines", "edit", "_", "edit_id", "place", "content", "meant_id", "meant", "inside", "below"] ["lines", "edit"] (defScope s_with_new_line) := ⟨rfl, rfl, rfl, by decide +kernel, rfl, by decide +kernel, by decide +kernel⟩
theorem sc_first_replaced : FnScope ["lines", "replaces", "line"] ["lines", "replaces"] (defScope s_first_replaced) := ⟨rfl, rfl, rfl, by decide +kernel, rfl, by decide +kernel, by decide +kernel⟩
theorem sc_after_text : FnScope ["lines", "edit", "_", "edit_id", "content", "replaces", "continued", "line_id", "inside", "below", "row", "known", "head"] ["lines", "edit"] (defScope s_after_text) := ⟨rfl, rfl, rfl, by decide +kernel, rfl, by decide +kernel, by decide +kernel⟩
theorem sc_after_move : FnScope ["lines", "edit", "head", "line_id", "place"] ["lines", "edit"] (defScope s_after_move) := ⟨rfl, rfl, rfl, by decide +kernel, rfl, by decide +kernel, by decide +kernel⟩
theorem sc_lines_after : FnScope ["lines", "edit"] ["lines", "edit"] (defScope s_lines_after) := ⟨rfl, rfl, rfl, by decide +kernel, rfl, by decide +kernel, by decide +kernel⟩
theorem sc_are_ascending : FnScope ["ids", "before", "after"] ["ids"] (defScope s_are_ascending) := ⟨rfl, rfl, rfl, by decide +kernel, rfl, by decide +kernel, by decide +kernel⟩
theorem sc_heads_differ : FnScope ["lines", "seen", "line"] ["lines"] (defScope s_heads_differ) := ⟨rfl, rfl, rfl, by decide +kernel, rfl, by decide +kernel, by decide +kernel⟩
theorem sc_stands_soundly : FnScope ["line", "folders", "line_id", "head", "inside", "below", "content"] ["line", "folders"] (defScope s_stands_soundly) := ⟨rfl, rfl, rfl, by decide +kernel, rfl, by decide +kernel, by decide +kernel⟩
theorem sc_all_are_reached : FnScope ["lines", "inside", "line", "waiting", "reached", "found"] ["lines"] (defScope s_all_are_reached) := ⟨rfl, rfl, rfl, by decide +kernel, rfl, by decide +kernel, by decide +kernel⟩
theorem sc_lines_sound : FnScope ["lines", "line", "folders"] ["lines"] (defScope s_lines_sound) := ⟨rfl, rfl, rfl, by decide +kernel, rfl, by decide +kernel, by decide +kernel⟩
theorem sc_law_rows : FnScope ["script", "count", "rows", "mixed", "k", "cell"] ["script", "count"] (defScope s_law_rows) := ⟨rfl, rfl, rfl, by decide +kernel, rfl, by decide +kernel, by decide +kernel⟩
theorem sc_law_path : FnScope ["row", "most", "names", "j"] ["row", "most"] (defScope s_law_path) := ⟨rfl, rfl, rfl, by decide +kernel, rfl, by decide +kernel, by decide +kernel⟩
theorem sc_law_pick : FnScope ["row", "ids"] ["row", "ids"] (defScope s_law_pick) := ⟨rfl, rfl, rfl, by decide +kernel, rfl, by decide +kernel, by decide +kernel⟩
theorem sc_law_place : FnScope ["row", "ids"] ["row", "ids"] (defScope s_law_place) := ⟨rfl, rfl, rfl, by decide +kernel, rfl, by decide +kernel, by decide +kernel⟩
theorem sc_law_heads : FnScope ["row", "ids", "heads", "j", "head"] ["row", "ids"] (defScope s_law_heads) := ⟨rfl, rfl, rfl, by decide +kernel, rfl, by decide +kernel, by decide +kernel⟩
theorem sc_law_edit : FnScope ["row", "edit_id", "ids", "place", "kind", "size", "moved", "j", "head", "line"] ["row", "edit_id", "ids"] (defScope s_law_edit) := ⟨rfl, rfl, rfl, by decide +kernel, rfl, by decide +kernel, by decide +kernel⟩
theorem sc_law_edits : FnScope ["script", "count", "rows", "edits", "ids", "k", "edit_id"] ["script", "count"] (defScope s_law_edits) := ⟨rfl, rfl, rfl, by decide +kernel, rfl, by decide +kernel, by decide +kernel⟩
theorem sc_law_with : FnScope ["lines", "k", "line"] ["lines", "k", "line"] (defScope s_law_with) := ⟨rfl, rfl, rfl, by decide +kernel, rfl, by decide +kernel, by decide +kernel⟩
theorem sc_law_wrong : FnScope ["lines", "k", "line", "wrong", "before"] ["lines", "k"] (defScope s_law_wrong) := ⟨rfl, rfl, rfl, by decide +kernel, rfl, by decide +kernel, by decide +kernel⟩
theorem sc_law_replaced : FnScope ["edit"] ["edit"] (defScope s_law_replaced) := ⟨rfl, rfl, rfl, by decide +kernel, rfl, by decide +kernel, by decide +kernel⟩
theorem sc_law : FnScope ["script", "lines", "edit", "heads", "k", "wrong", "line", "head"] ["script"] (defScope s_law) := ⟨rfl, rfl, rfl, by decide +kernel, rfl, by decide +kernel, by decide +kernel⟩
/-- the names of the top that are asked for -/
structure Txt (K : PySem.W.Frag) (cl : Cl) (mg : Str → Option Value) : Prop where
  n_any : mg "any" = none
  n_int : mg "int" = none
  n_len : mg "len" = none
  n_list : mg "list" = none
  n_min : mg "min" = none
  n_range : mg "range" = none
  n_tuple : mg "tuple" = none
  n_zip : mg "zip" = none
theorem ls_len {S : Sto} {ls : List Line} {k : D → Prop} : lenk S [eLs ls] k = k (.int (ls.length : Int)) := by
  show lenk S [.lst (ls.map eLn)] k = _
  rw [o_lenl, List.length_map]
theorem in_lst {S : Sto} {a : Ln.Id} {is : List Ln.Id} {k : D → Prop} : ink S (Le.eId a) (.lst (is.map Le.eId)) k = k (.bl (decide (a ∈ is))) := by
  show (∃ es, itemsOf S (.lst (is.map Le.eId)) = some es ∧ pureAll es = true ∧ (Le.eId a).pure = true ∧ (Le.eId a).dep ≤ 60 ∧ k (.bl (es.any fun z => D.eqv z (Le.eId a)))) = _
  simp only [itemsOf, Option.some.injEq, exists_eq_left', pu_ids, pu_id, de_id, true_and, any_eid]
theorem ni_lst {S : Sto} {a : Ln.Id} {is : List Ln.Id} {k : D → Prop} : nik S (Le.eId a) (.lst (is.map Le.eId)) k = k (.bl (!decide (a ∈ is))) := by
  show (∃ es, itemsOf S (.lst (is.map Le.eId)) = some es ∧ pureAll es = true ∧ (Le.eId a).pure = true ∧ (Le.eId a).dep ≤ 60 ∧ k (.bl (!es.any fun z => D.eqv z (Le.eId a)))) = _
  simp only [itemsOf, Option.some.injEq, exists_eq_left', pu_ids, pu_id, de_id, true_and, any_eid]
theorem o_addl {S : Sto} {a b : List D} {k : D → Prop} : addk S (.lst a) (.lst b) k = (a.length + b.length ≤ 100000 ∧ k (.lst (a ++ b))) := by
  show (∃ x y, Pw.listOf S (.lst a) = some x ∧ Pw.listOf S (.lst b) = some y ∧ x.length + y.length ≤ 100000 ∧ k (.lst (x ++ y))) = _
  simp [Pw.listOf]
theorem cut_l {l : List D} {j : Nat} (h : j ≤ l.length) : Pw.cutD l none (some (j : Int)) = l.take j := by
  unfold Pw.cutD
  have h1 : HT.sIx l.length 0 none = 0 := rfl
  have h2 : HT.sIx l.length l.length (some (j : Int)) = j := by
    unfold HT.sIx
    have hz : ¬ ((j : Int) < 0) := by omega
    simp [hz]
    omega
  rw [h1, h2, List.drop_zero, Nat.sub_zero]
theorem cut_r {l : List D} {j : Nat} (h : j ≤ l.length) : Pw.cutD l (some (j : Int)) none = l.drop j := by
  unfold Pw.cutD
  have h1 : HT.sIx l.length l.length none = l.length := rfl
  have h2 : HT.sIx l.length 0 (some (j : Int)) = j := by
    unfold HT.sIx
    have hz : ¬ ((j : Int) < 0) := by omega
    simp [hz]
    omega
  rw [h1, h2]
  exact List.take_of_length_le (by rw [List.length_drop]; omega)
theorem ix_ls {S : Sto} {ls : List Line} {j : Nat} {a : Line} {k : D → Prop} (h : ls[j]? = some a) : ixk S (eLs ls) (.int (j : Int)) k = k (eLn a) := by
  have hm := at_map (f := eLn) h
  refine propext ⟨fun ⟨ds, d, h1, h2, h3⟩ => ?_, fun hk => ⟨_, _, rfl, hm, hk⟩⟩
  have h1' : some (ls.map eLn) = some ds := h1
  cases h1'
  rw [hm] at h2
  cases h2
  exact h3
def kId (i : Ln.Id) : NestedKey := .tup [.num i.1, .num i.2]
theorem kOf_id (i : Ln.Id) : kOf (Le.eId i) = some (kId i) := by
  obtain ⟨a, b⟩ := i
  rfl
theorem kId_inj {i j : Ln.Id} (h : kId i = kId j) : i = j := by
  obtain ⟨a, b⟩ := i
  obtain ⟨c, d⟩ := j
  unfold kId at h
  cases h
  rfl
theorem kId_dp (i : Ln.Id) : (kId i).depth ≤ 8 := by
  show max (0 : Nat) (max 0 0) + 1 ≤ 8
  decide
def kO : Option Ln.Id → NestedKey
  | none => .none
  | some i => kId i
theorem kOf_o (o : Option Ln.Id) : kOf (eOp Le.eId o) = some (kO o) := by
  cases o with
  | none => rfl
  | some i => exact kOf_id i
theorem kO_dp (o : Option Ln.Id) : (kO o).depth ≤ 8 := by
  cases o with
  | none => decide
  | some i => exact kId_dp i
theorem kO_inj {o p : Option Ln.Id} (h : kO o = kO p) : o = p := by
  cases o with
  | none => cases p with
    | none => rfl
    | some i => cases h
  | some i => cases p with
    | none => cases h
    | some j => rw [kId_inj h]
theorem getKv_put {kvs : List (D × D)} {k k' : NestedKey} {x y : D} (hx : kOf x = some k) : getKv (putKv kvs k x y) k' = if k = k' then some y else getKv kvs k' := by
  unfold putKv
  by_cases h : hasKv kvs k = true
  · rw [if_pos h]
    clear hx
    induction kvs with
    | nil => cases h
    | cons p kvs ih =>
      unfold getKv at ih ⊢
      rw [List.map_cons]
      by_cases e : kOf p.1 = some k
      · rw [if_pos e]
        by_cases e2 : k = k'
        · subst e2
          rw [if_pos rfl, List.find?_cons_of_pos (by simpa using e)]
          rfl
        · have n1 : ¬ kOf p.1 = some k' := fun z => e2 (Option.some.inj (e.symm.trans z))
          rw [if_neg e2, List.find?_cons_of_neg (by simpa using n1), List.find?_cons_of_neg (by simpa using n1)]
          by_cases h2 : hasKv kvs k = true
          · have := ih h2
            rw [if_neg e2] at this
            exact this
          · have e3 : kvs.map (fun p => if kOf p.1 = some k then (p.1, y) else p) = kvs := by
              have : ∀ q ∈ kvs, (if kOf q.1 = some k then (q.1, y) else q) = q := fun q hq => if_neg fun z => h2 (List.any_eq_true.mpr ⟨q, hq, by simpa using z⟩)
              exact (List.map_congr_left this).trans (List.map_id _)
            rw [e3]
      · rw [if_neg e]
        have h2 : hasKv kvs k = true := by
          unfold hasKv at h
          rw [List.any_cons, decide_eq_false e, Bool.false_or] at h
          exact h
        by_cases e2 : kOf p.1 = some k'
        · have n1 : ¬ k = k' := fun z => e (by rw [z]; exact e2)
          rw [if_neg n1, List.find?_cons_of_pos (by simpa using e2), List.find?_cons_of_pos (by simpa using e2)]
        · rw [List.find?_cons_of_neg (by simpa using e2), List.find?_cons_of_neg (by simpa using e2)]
          exact ih h2
  · rw [if_neg h]
    unfold getKv
    rw [List.find?_append]
    by_cases e : k = k'
    · subst e
      rw [if_pos rfl]
      have : kvs.find? (fun p => decide (kOf p.1 = some k)) = none := by
        rw [List.find?_eq_none]
        intro q hq z
        exact h (List.any_eq_true.mpr ⟨q, hq, z⟩)
      rw [this, Option.none_or, List.find?_cons_of_pos (by simpa using hx)]
      rfl
    · rw [if_neg e, List.find?_cons_of_neg (by simpa [hx] using e)]
      simp
theorem putKv_len {acc : List (D × D)} {q : NestedKey} {x y : D} : (putKv acc q x y).length ≤ acc.length + 1 := by
  unfold putKv
  split
  · rw [List.length_map]
    omega
  · rw [List.length_append]
    exact Nat.le_refl _
/-- a list or a tuple of lines -/
def Sq (x : D) (ls : List Line) : Prop := x = eLs ls ∨ x = .tup (ls.map eLn)
theorem Sq.it {x : D} {ls : List Line} (h : Sq x ls) (S : Sto) : iterOf S x = some (ls.map eLn) := by
  rcases h with rfl | rfl <;> rfl
theorem Sq.pu {x : D} {ls : List Line} (h : Sq x ls) : x.pure = true := by
  rcases h with rfl | rfl
  · exact pu_ls ls
  · exact pureAll_map pu_ln ls
theorem Sq.len {x : D} {ls : List Line} (h : Sq x ls) {S : Sto} {k : D → Prop} : lenk S [x] k = k (.int (ls.length : Int)) := by
  rcases h with rfl | rfl
  · exact ls_len
  · rw [o_lent, List.length_map]
theorem Sq.it' {x : D} {ls : List Line} (h : Sq x ls) {S : Sto} {k : D → Prop} (hk : ∀ ds, ds = ls.map eLn → k x) : ∃ ds, iterOf S x = some ds ∧ k x := ⟨_, h.it S, hk _ rfl⟩
theorem at_new' {S : Sto} {o : SO} : (S ++ [o])[S.length]? = some o := by
  rw [List.getElem?_append_right (Nat.le_refl _), Nat.sub_self]
  rfl
theorem pu1 {x : D} (h : x.pure = true) : pureAll [x] = true := by
  simp only [pureAll, h, Bool.and_self]
/-! ### find_line -/
theorem fl_yes {a : Line} {ls : List Line} {o : Option Ln.Id} (h : some a.id = o) : findLine (a :: ls) o = some a := by
  unfold findLine
  rw [List.find?_cons_of_pos (by simp [h])]
theorem fl_no {a : Line} {ls : List Line} {o : Option Ln.Id} (h : ¬ some a.id = o) : findLine (a :: ls) o = findLine ls o := by
  unfold findLine
  rw [List.find?_cons_of_neg (by simp [h])]
theorem fh_yes {a : Line} {ls : List Line} {o : Option Ln.Id} (h : some a.hd = o) : findHead (a :: ls) o = some a := by
  unfold findHead
  rw [List.find?_cons_of_pos (by simp [h])]
theorem fh_no {a : Line} {ls : List Line} {o : Option Ln.Id} (h : ¬ some a.hd = o) : findHead (a :: ls) o = findHead ls o := by
  unfold findHead
  rw [List.find?_cons_of_neg (by simp [h])]
def pl_find_line_1 : PSx :=
      ((pIfS (pB (pOp eqk (pOp ixk (pVar 2) (pC (.int 0))) (pVar 1)))
        ((pRet (pVar 2)))
        pNext))
theorem pl_find_line_1_d (P : PEnds) (env : Pw.Env) (S : Sto) : pl_find_line_1 P env S = (
      ((pIfS (pB (pOp eqk (pOp ixk (pVar 2) (pC (.int 0))) (pVar 1)))
        ((pRet (pVar 2)))
        pNext))) P env S := rfl
def ps_find_line : PSx :=
    (pSeq (pIfS (pB (pOp isk (pVar 1) (pC .non)))
      ((pRet (pC .non)))
      pNext)
    (pSeq (pFor (pIt (pVar 0)) (pgName 2) pl_find_line_1)
    ((pRet (pC .non)))))
theorem start_find_line : ∀ a0 a1 : D, startE 3 [a0, a1] = [some a0, some a1, none] := fun _ _ => rfl
theorem fl_none (ls : List Line) : findLine ls none = none := by
  unfold findLine
  rw [List.find?_eq_none]
  intro x _
  simp
def F_find_line : PFn := fun ds k => ∃ ls o, ds = [eLs ls, eOp eId o] ∧ k (eOp eLn (findLine ls o))
theorem len_find_line : ∀ ds k, F_find_line ds k → ds.length = 2 := by
  rintro _ _ ⟨_, _, rfl, _⟩
  rfl
theorem body_find_line : ∀ ds k, F_find_line ds k → ps_find_line { nx := fun _ _ => k .non, rt := fun d S => (d.frz S).noRef = true ∧ k (d.frz S) } (startE 3 ds) [] := by
  rintro _ k ⟨ls, o, rfl, hk⟩
  rw [start_find_line]
  unfold ps_find_line
  cases o with
  | none =>
    rw [fl_none] at hk
    simp only [pSeq, pAsg, pVar, pC, pOp, pNil, pCons, pTup, pLst, pLstM, pNot, pAndV, pOrV, pIf, pB, pAnd, pOr, pNotT, pNoPart, pPart, pCB, pUnN, pSl, pNext, pBreak, pCont, pRet, pRetN, pDrop, pIfS, pgName, pgNil, pgCons, pgTup_t, pAug, pApp, pYes, isk_non, nsk_non, isN_non, isN_bl, isN_int, isN_str, isN_tup, isN_lst, isN_ref, isN_obj, pTru, pFld, pStar, pMake, pSetF, pIt, pRng1, pRng2, forG, List.map_cons, List.map_nil, List.getElem?_cons_zero, List.getElem?_cons_succ, List.set_cons_zero, List.set_cons_succ, Option.some.injEq, exists_eq_left, exists_eq_left', true_and, and_true, wipeE, D.bl.injEq, D.int.injEq, D.str.injEq, D.tup.injEq, D.lst.injEq, Bool.not_true, decide_eq_true_eq, if_true, if_false, reduceIte, Bool.false_eq_true, Option.isNone_none, Option.isNone_some, Bool.not_false, List.length_nil, List.length_cons, List.nil_append, List.cons_append, D.ref.injEq, SO.lst.injEq, pCall, exists_const, and_self, Nat.zero_add, Nat.zero_le, Nat.reduceLeDiff, Nat.reduceAdd, eq_self, o_add, o_sub, o_mul, o_div, o_mod, o_cmp, o_int, o_lenl, o_lent, o_lens, o_tupl, o_tupt, o_min, o_max, q_int, ixk_tup, ixk_lst, ixk_scr, at0, at1, at2, at3, at4, at5, List.length_map, ln0, ln1, ln2, ln3, ln4, lnS0, lnS2, lnS4, q_id, q_ido, q_oi, q_oid, q_path, q_ln, q_ls, n_id, n_path, n_ln, n_ls, non_oid, non_oln, non_oct, non_id, non_ln, non_ct, non_path, un_ln, un_pl, in_ids, ad_path, eOp_s, eOp_n, lstk_ls, st_ls]
    exact rt_pure rfl hk
  | some o =>
    simp only [pSeq, pAsg, pVar, pC, pOp, pNil, pCons, pTup, pLst, pLstM, pNot, pAndV, pOrV, pIf, pB, pAnd, pOr, pNotT, pNoPart, pPart, pCB, pUnN, pSl, pNext, pBreak, pCont, pRet, pRetN, pDrop, pIfS, pgName, pgNil, pgCons, pgTup_t, pAug, pApp, pYes, isk_non, nsk_non, isN_non, isN_bl, isN_int, isN_str, isN_tup, isN_lst, isN_ref, isN_obj, pTru, pFld, pStar, pMake, pSetF, pIt, pRng1, pRng2, forG, List.map_cons, List.map_nil, List.getElem?_cons_zero, List.getElem?_cons_succ, List.set_cons_zero, List.set_cons_succ, Option.some.injEq, exists_eq_left, exists_eq_left', true_and, and_true, wipeE, D.bl.injEq, D.int.injEq, D.str.injEq, D.tup.injEq, D.lst.injEq, Bool.not_true, decide_eq_true_eq, if_true, if_false, reduceIte, Bool.false_eq_true, Option.isNone_none, Option.isNone_some, Bool.not_false, List.length_nil, List.length_cons, List.nil_append, List.cons_append, D.ref.injEq, SO.lst.injEq, pCall, exists_const, and_self, Nat.zero_add, Nat.zero_le, Nat.reduceLeDiff, Nat.reduceAdd, eq_self, o_add, o_sub, o_mul, o_div, o_mod, o_cmp, o_int, o_lenl, o_lent, o_lens, o_tupl, o_tupt, o_min, o_max, q_int, ixk_tup, ixk_lst, ixk_scr, at0, at1, at2, at3, at4, at5, List.length_map, ln0, ln1, ln2, ln3, ln4, lnS0, lnS2, lnS4, q_id, q_ido, q_oi, q_oid, q_path, q_ln, q_ls, n_id, n_path, n_ln, n_ls, non_oid, non_oln, non_oct, non_id, non_ln, non_ct, non_path, un_ln, un_pl, in_ids, ad_path, eOp_s, eOp_n, lstk_ls, st_ls]
    refine for_go (src := eLs ls) (ds := ls.map eLn) (fun kk h => ⟨_, rfl, _, rfl, h⟩) (fun _ => rfl) ?_
    generalize eLs ls = l0
    generalize (none : Option D) = x
    induction ls generalizing x with
    | nil =>
      simp only [pSeq, pAsg, pVar, pC, pOp, pNil, pCons, pTup, pLst, pLstM, pNot, pAndV, pOrV, pIf, pB, pAnd, pOr, pNotT, pNoPart, pPart, pCB, pUnN, pSl, pNext, pBreak, pCont, pRet, pRetN, pDrop, pIfS, pgName, pgNil, pgCons, pgTup_t, pAug, pApp, pYes, isk_non, nsk_non, isN_non, isN_bl, isN_int, isN_str, isN_tup, isN_lst, isN_ref, isN_obj, pTru, pFld, pStar, pMake, pSetF, pIt, pRng1, pRng2, forG, List.map_cons, List.map_nil, List.getElem?_cons_zero, List.getElem?_cons_succ, List.set_cons_zero, List.set_cons_succ, Option.some.injEq, exists_eq_left, exists_eq_left', true_and, and_true, wipeE, D.bl.injEq, D.int.injEq, D.str.injEq, D.tup.injEq, D.lst.injEq, Bool.not_true, decide_eq_true_eq, if_true, if_false, reduceIte, Bool.false_eq_true, Option.isNone_none, Option.isNone_some, Bool.not_false, List.length_nil, List.length_cons, List.nil_append, List.cons_append, D.ref.injEq, SO.lst.injEq, pCall, exists_const, and_self, Nat.zero_add, Nat.zero_le, Nat.reduceLeDiff, Nat.reduceAdd, eq_self, o_add, o_sub, o_mul, o_div, o_mod, o_cmp, o_int, o_lenl, o_lent, o_lens, o_tupl, o_tupt, o_min, o_max, q_int, ixk_tup, ixk_lst, ixk_scr, at0, at1, at2, at3, at4, at5, List.length_map, ln0, ln1, ln2, ln3, ln4, lnS0, lnS2, lnS4, q_id, q_ido, q_oi, q_oid, q_path, q_ln, q_ls, n_id, n_path, n_ln, n_ls, non_oid, non_oln, non_oct, non_id, non_ln, non_ct, non_path, un_ln, un_pl, in_ids, ad_path, eOp_s, eOp_n, lstk_ls, st_ls]
      exact rt_pure rfl hk
    | cons a ls ih =>
      simp only [pSeq, pAsg, pVar, pC, pOp, pNil, pCons, pTup, pLst, pLstM, pNot, pAndV, pOrV, pIf, pB, pAnd, pOr, pNotT, pNoPart, pPart, pCB, pUnN, pSl, pNext, pBreak, pCont, pRet, pRetN, pDrop, pIfS, pgName, pgNil, pgCons, pgTup_t, pAug, pApp, pYes, isk_non, nsk_non, isN_non, isN_bl, isN_int, isN_str, isN_tup, isN_lst, isN_ref, isN_obj, pTru, pFld, pStar, pMake, pSetF, pIt, pRng1, pRng2, forG, List.map_cons, List.map_nil, List.getElem?_cons_zero, List.getElem?_cons_succ, List.set_cons_zero, List.set_cons_succ, Option.some.injEq, exists_eq_left, exists_eq_left', true_and, and_true, wipeE, D.bl.injEq, D.int.injEq, D.str.injEq, D.tup.injEq, D.lst.injEq, Bool.not_true, decide_eq_true_eq, if_true, if_false, reduceIte, Bool.false_eq_true, Option.isNone_none, Option.isNone_some, Bool.not_false, List.length_nil, List.length_cons, List.nil_append, List.cons_append, D.ref.injEq, SO.lst.injEq, pCall, exists_const, and_self, Nat.zero_add, Nat.zero_le, Nat.reduceLeDiff, Nat.reduceAdd, eq_self, o_add, o_sub, o_mul, o_div, o_mod, o_cmp, o_int, o_lenl, o_lent, o_lens, o_tupl, o_tupt, o_min, o_max, q_int, ixk_tup, ixk_lst, ixk_scr, at0, at1, at2, at3, at4, at5, List.length_map, ln0, ln1, ln2, ln3, ln4, lnS0, lnS2, lnS4, q_id, q_ido, q_oi, q_oid, q_path, q_ln, q_ls, n_id, n_path, n_ln, n_ls, non_oid, non_oln, non_oct, non_id, non_ln, non_ct, non_path, un_ln, un_pl, in_ids, ad_path, eOp_s, eOp_n, lstk_ls, st_ls, pl_find_line_1_d]
      by_cases h : a.id = o
      · rw [if_pos h]
        rw [fl_yes (congrArg some h)] at hk
        exact rt_pure (pu_ln a) hk
      · rw [if_neg h]
        rw [fl_no fun z => h (Option.some.inj z)] at hk
        exact ih hk _
theorem ok_find_line {P : Program} {w : World} {K : PySem.W.Frag} {cl : Cl} {mg : Str → Option Value} {base : Heap} (D : Df K mg "find_line" s_find_line ["lines", "line_id"]) (T : Txt K cl mg) (hw : cl.w = w)  : C8.Cal P w K mg base 1 "find_line" (spP K cl F_find_line) [] := by
  subst hw
  refine D.cal sc_find_line (spP_len (n := 2) len_find_line) (fun f cdv A outer s H vs Q E hr h => ?_)
  refine ⟨_,
    (pss_cons (ps_if (pt_cmpR op_isN (pv 1) pe_non (nomark _))
      (pss_one (ps_ret pe_non))
      pss_nil)
    (pss_cons (ps_for PassesOwn.never rfl (show PI _ _ _ (uIt K _) from upi (pv 0)) (pg_name (i := 2) sc_find_line.nd rfl (Or.inl rfl))
      (pss_one (ps_if (pt_cmpR (show OpR _ _ (rEqP K) from op_eqP hr.units) (pe_ix (show IxR _ (uIx K) from uix) (pv 2) pe_int (fun _ _ => rfl)) (pv 1) (nomark _))
        (pss_one (ps_ret (pv 2)))
        pss_nil)))
    (pss_one (ps_ret pe_non)))), ?_⟩
  exact fn_ok (N := ["lines", "line_id", "line"]) (show SmS K cl _ ps_find_line from
    (sm_seq (sm_ifS (sm_test (sm_op smr_is sm_var sm_non))
      ((sm_ret sm_non))
      sm_next)
    (sm_seq (sm_for (sm_it sm_var) sm_gname
      ((sm_ifS (sm_test (sm_op smr_eq (sm_op smr_ix sm_var sm_int) sm_var))
        ((sm_ret sm_var))
        sm_next)))
    ((sm_ret sm_non))))) body_find_line h
/-! ### find_head -/
def pl_find_head_1 : PSx :=
      ((pIfS (pB (pOp eqk (pOp ixk (pVar 2) (pC (.int 1))) (pVar 1)))
        ((pRet (pVar 2)))
        pNext))
theorem pl_find_head_1_d (P : PEnds) (env : Pw.Env) (S : Sto) : pl_find_head_1 P env S = (
      ((pIfS (pB (pOp eqk (pOp ixk (pVar 2) (pC (.int 1))) (pVar 1)))
        ((pRet (pVar 2)))
        pNext))) P env S := rfl
def ps_find_head : PSx :=
    (pSeq (pFor (pIt (pVar 0)) (pgName 2) pl_find_head_1)
    ((pRet (pC .non))))
theorem start_find_head : ∀ a0 a1 : D, startE 3 [a0, a1] = [some a0, some a1, none] := fun _ _ => rfl
def F_find_head : PFn := fun ds k => ∃ ls o, ds = [eLs ls, eOp eId o] ∧ k (eOp eLn (findHead ls o))
theorem len_find_head : ∀ ds k, F_find_head ds k → ds.length = 2 := by
  rintro _ _ ⟨_, _, rfl, _⟩
  rfl
theorem body_find_head : ∀ ds k, F_find_head ds k → ps_find_head { nx := fun _ _ => k .non, rt := fun d S => (d.frz S).noRef = true ∧ k (d.frz S) } (startE 3 ds) [] := by
  rintro _ k ⟨ls, o, rfl, hk⟩
  rw [start_find_head]
  unfold ps_find_head pl_find_head_1
  refine for_go (src := eLs ls) (ds := ls.map eLn) (fun kk h => ⟨_, rfl, _, rfl, h⟩) (fun _ => rfl) ?_
  generalize eLs ls = l0
  generalize (none : Option D) = x
  induction ls generalizing x with
  | nil =>
    simp only [pSeq, pAsg, pVar, pC, pOp, pNil, pCons, pTup, pLst, pLstM, pNot, pAndV, pOrV, pIf, pB, pAnd, pOr, pNotT, pNoPart, pPart, pCB, pUnN, pSl, pNext, pBreak, pCont, pRet, pRetN, pDrop, pIfS, pgName, pgNil, pgCons, pgTup_t, pAug, pApp, pYes, isk_non, nsk_non, isN_non, isN_bl, isN_int, isN_str, isN_tup, isN_lst, isN_ref, isN_obj, pTru, pFld, pStar, pMake, pSetF, pIt, pRng1, pRng2, forG, List.map_cons, List.map_nil, List.getElem?_cons_zero, List.getElem?_cons_succ, List.set_cons_zero, List.set_cons_succ, Option.some.injEq, exists_eq_left, exists_eq_left', true_and, and_true, wipeE, D.bl.injEq, D.int.injEq, D.str.injEq, D.tup.injEq, D.lst.injEq, Bool.not_true, decide_eq_true_eq, if_true, if_false, reduceIte, Bool.false_eq_true, Option.isNone_none, Option.isNone_some, Bool.not_false, List.length_nil, List.length_cons, List.nil_append, List.cons_append, D.ref.injEq, SO.lst.injEq, pCall, exists_const, and_self, Nat.zero_add, Nat.zero_le, Nat.reduceLeDiff, Nat.reduceAdd, eq_self, o_add, o_sub, o_mul, o_div, o_mod, o_cmp, o_int, o_lenl, o_lent, o_lens, o_tupl, o_tupt, o_min, o_max, q_int, ixk_tup, ixk_lst, ixk_scr, at0, at1, at2, at3, at4, at5, List.length_map, ln0, ln1, ln2, ln3, ln4, lnS0, lnS2, lnS4, q_id, q_ido, q_oi, q_oid, q_path, q_ln, q_ls, n_id, n_path, n_ln, n_ls, non_oid, non_oln, non_oct, non_id, non_ln, non_ct, non_path, un_ln, un_pl, in_ids, ad_path, eOp_s, eOp_n, lstk_ls, st_ls]
    exact rt_pure rfl hk
  | cons a ls ih =>
    simp only [pSeq, pAsg, pVar, pC, pOp, pNil, pCons, pTup, pLst, pLstM, pNot, pAndV, pOrV, pIf, pB, pAnd, pOr, pNotT, pNoPart, pPart, pCB, pUnN, pSl, pNext, pBreak, pCont, pRet, pRetN, pDrop, pIfS, pgName, pgNil, pgCons, pgTup_t, pAug, pApp, pYes, isk_non, nsk_non, isN_non, isN_bl, isN_int, isN_str, isN_tup, isN_lst, isN_ref, isN_obj, pTru, pFld, pStar, pMake, pSetF, pIt, pRng1, pRng2, forG, List.map_cons, List.map_nil, List.getElem?_cons_zero, List.getElem?_cons_succ, List.set_cons_zero, List.set_cons_succ, Option.some.injEq, exists_eq_left, exists_eq_left', true_and, and_true, wipeE, D.bl.injEq, D.int.injEq, D.str.injEq, D.tup.injEq, D.lst.injEq, Bool.not_true, decide_eq_true_eq, if_true, if_false, reduceIte, Bool.false_eq_true, Option.isNone_none, Option.isNone_some, Bool.not_false, List.length_nil, List.length_cons, List.nil_append, List.cons_append, D.ref.injEq, SO.lst.injEq, pCall, exists_const, and_self, Nat.zero_add, Nat.zero_le, Nat.reduceLeDiff, Nat.reduceAdd, eq_self, o_add, o_sub, o_mul, o_div, o_mod, o_cmp, o_int, o_lenl, o_lent, o_lens, o_tupl, o_tupt, o_min, o_max, q_int, ixk_tup, ixk_lst, ixk_scr, at0, at1, at2, at3, at4, at5, List.length_map, ln0, ln1, ln2, ln3, ln4, lnS0, lnS2, lnS4, q_id, q_ido, q_oi, q_oid, q_path, q_ln, q_ls, n_id, n_path, n_ln, n_ls, non_oid, non_oln, non_oct, non_id, non_ln, non_ct, non_path, un_ln, un_pl, in_ids, ad_path, eOp_s, eOp_n, lstk_ls, st_ls]
    by_cases h : some a.hd = o
    · rw [if_pos h]
      rw [fh_yes h] at hk
      exact rt_pure (pu_ln a) hk
    · rw [if_neg h]
      rw [fh_no h] at hk
      exact ih hk _
theorem ok_find_head {P : Program} {w : World} {K : PySem.W.Frag} {cl : Cl} {mg : Str → Option Value} {base : Heap} (D : Df K mg "find_head" s_find_head ["lines", "head"]) (T : Txt K cl mg) (hw : cl.w = w)  : C8.Cal P w K mg base 1 "find_head" (spP K cl F_find_head) [] := by
  subst hw
  refine D.cal sc_find_head (spP_len (n := 2) len_find_head) (fun f cdv A outer s H vs Q E hr h => ?_)
  refine ⟨_,
    (pss_cons (ps_for PassesOwn.never rfl (show PI _ _ _ (uIt K _) from upi (pv 0)) (pg_name (i := 2) sc_find_head.nd rfl (Or.inl rfl))
      (pss_one (ps_if (pt_cmpR (show OpR _ _ (rEqP K) from op_eqP hr.units) (pe_ix (show IxR _ (uIx K) from uix) (pv 2) pe_int (fun _ _ => rfl)) (pv 1) (nomark _))
        (pss_one (ps_ret (pv 2)))
        pss_nil)))
    (pss_one (ps_ret pe_non))), ?_⟩
  exact fn_ok (N := ["lines", "head", "line"]) (show SmS K cl _ ps_find_head from
    (sm_seq (sm_for (sm_it sm_var) sm_gname
      ((sm_ifS (sm_test (sm_op smr_eq (sm_op smr_ix sm_var sm_int) sm_var))
        ((sm_ret sm_var))
        sm_next)))
    ((sm_ret sm_non)))) body_find_head h
/-! ### settle -/
def ps_settle : PSx :=
    (pSeq (pAsg (pVar 1) (pgTup 3 (pgCons (pgName 2) (pgCons (pgName 3) (pgCons (pgName 4) pgNil)))))
    (pSeq (pAsg (pCall F_find_line (pCons (pVar 0) (pCons (pVar 2) pNil))) (pgName 5))
    (pSeq (pIfS (pOr (pB (pOp isk (pVar 5) (pC .non))) (pB (pOp nsk (pOp ixk (pVar 5) (pC (.int 4))) (pC .non))))
      ((pRet (pTup (pCons (pC .non) (pCons (pVar 4) pNil)))))
      pNext)
    ((pRet (pTup (pCons (pVar 2) (pCons (pVar 3) pNil))))))))
theorem start_settle : ∀ a0 a1 : D, startE 6 [a0, a1] = [some a0, some a1, none, none, none, none] := fun _ _ => rfl
def eTwo (w : Option Ln.Id × List Str) : D := .tup [eOp eId w.1, ePath w.2]
theorem pu_two (w : Option Ln.Id × List Str) : (eTwo w).pure = true := by
  show pureAll [eOp eId w.1, ePath w.2] = true
  simp only [pureAll, pu_oid, pu_path, Bool.and_self]
def F_settle : PFn := fun ds k => ∃ ls pl, ds = [eLs ls, ePl pl] ∧ k (eTwo (settleF ls pl))
theorem len_settle : ∀ ds k, F_settle ds k → ds.length = 2 := by
  rintro _ _ ⟨_, _, rfl, _⟩
  rfl
theorem body_settle : ∀ ds k, F_settle ds k → ps_settle { nx := fun _ _ => k .non, rt := fun d S => (d.frz S).noRef = true ∧ k (d.frz S) } (startE 6 ds) [] := by
  rintro _ k ⟨ls, pl, rfl, hk⟩
  rw [start_settle]
  unfold ps_settle
  simp only [pSeq, pAsg, pVar, pC, pOp, pNil, pCons, pTup, pLst, pLstM, pNot, pAndV, pOrV, pIf, pB, pAnd, pOr, pNotT, pNoPart, pPart, pCB, pUnN, pSl, pNext, pBreak, pCont, pRet, pRetN, pDrop, pIfS, pgName, pgNil, pgCons, pgTup_t, pAug, pApp, pYes, isk_non, nsk_non, isN_non, isN_bl, isN_int, isN_str, isN_tup, isN_lst, isN_ref, isN_obj, pTru, pFld, pStar, pMake, pSetF, pIt, pRng1, pRng2, forG, List.map_cons, List.map_nil, List.getElem?_cons_zero, List.getElem?_cons_succ, List.set_cons_zero, List.set_cons_succ, Option.some.injEq, exists_eq_left, exists_eq_left', true_and, and_true, wipeE, D.bl.injEq, D.int.injEq, D.str.injEq, D.tup.injEq, D.lst.injEq, Bool.not_true, decide_eq_true_eq, if_true, if_false, reduceIte, Bool.false_eq_true, Option.isNone_none, Option.isNone_some, Bool.not_false, List.length_nil, List.length_cons, List.nil_append, List.cons_append, D.ref.injEq, SO.lst.injEq, pCall, exists_const, and_self, Nat.zero_add, Nat.zero_le, Nat.reduceLeDiff, Nat.reduceAdd, eq_self, o_add, o_sub, o_mul, o_div, o_mod, o_cmp, o_int, o_lenl, o_lent, o_lens, o_tupl, o_tupt, o_min, o_max, q_int, ixk_tup, ixk_lst, ixk_scr, at0, at1, at2, at3, at4, at5, List.length_map, ln0, ln1, ln2, ln3, ln4, lnS0, lnS2, lnS4, q_id, q_ido, q_oi, q_oid, q_path, q_ln, q_ls, n_id, n_path, n_ln, n_ls, non_oid, non_oln, non_oct, non_id, non_ln, non_ct, non_path, un_ln, un_pl, in_ids, ad_path, eOp_s, eOp_n, lstk_ls, st_ls]
  refine call_of (by simp only [pureAll, pu_ls, pu_lsl, pu_oid, pu_id, pu_ln, pu_oln, pu_pl, pu_ed, pu_eds, pu_idst, pu_path, pu_oct, pu_mv, pu_mvs, pu_str, pu_int, pu_bl, pu_non, eOp_s, eOp_n, Bool.and_self]) ⟨ls, pl.1, rfl, ?_⟩
  cases hf : findLine ls pl.1 with
  | none =>
    have hs : settleF ls pl = (none, pl.2.2) := by
      unfold settleF
      rw [hf]
    rw [hs] at hk
    simp only [pSeq, pAsg, pVar, pC, pOp, pNil, pCons, pTup, pLst, pLstM, pNot, pAndV, pOrV, pIf, pB, pAnd, pOr, pNotT, pNoPart, pPart, pCB, pUnN, pSl, pNext, pBreak, pCont, pRet, pRetN, pDrop, pIfS, pgName, pgNil, pgCons, pgTup_t, pAug, pApp, pYes, isk_non, nsk_non, isN_non, isN_bl, isN_int, isN_str, isN_tup, isN_lst, isN_ref, isN_obj, pTru, pFld, pStar, pMake, pSetF, pIt, pRng1, pRng2, forG, List.map_cons, List.map_nil, List.getElem?_cons_zero, List.getElem?_cons_succ, List.set_cons_zero, List.set_cons_succ, Option.some.injEq, exists_eq_left, exists_eq_left', true_and, and_true, wipeE, D.bl.injEq, D.int.injEq, D.str.injEq, D.tup.injEq, D.lst.injEq, Bool.not_true, decide_eq_true_eq, if_true, if_false, reduceIte, Bool.false_eq_true, Option.isNone_none, Option.isNone_some, Bool.not_false, List.length_nil, List.length_cons, List.nil_append, List.cons_append, D.ref.injEq, SO.lst.injEq, pCall, exists_const, and_self, Nat.zero_add, Nat.zero_le, Nat.reduceLeDiff, Nat.reduceAdd, eq_self, o_add, o_sub, o_mul, o_div, o_mod, o_cmp, o_int, o_lenl, o_lent, o_lens, o_tupl, o_tupt, o_min, o_max, q_int, ixk_tup, ixk_lst, ixk_scr, at0, at1, at2, at3, at4, at5, List.length_map, ln0, ln1, ln2, ln3, ln4, lnS0, lnS2, lnS4, q_id, q_ido, q_oi, q_oid, q_path, q_ln, q_ls, n_id, n_path, n_ln, n_ls, non_oid, non_oln, non_oct, non_id, non_ln, non_ct, non_path, un_ln, un_pl, in_ids, ad_path, eOp_s, eOp_n, lstk_ls, st_ls]
    exact rt_pure (pu_two (none, pl.2.2)) hk
  | some f =>
    simp only [pSeq, pAsg, pVar, pC, pOp, pNil, pCons, pTup, pLst, pLstM, pNot, pAndV, pOrV, pIf, pB, pAnd, pOr, pNotT, pNoPart, pPart, pCB, pUnN, pSl, pNext, pBreak, pCont, pRet, pRetN, pDrop, pIfS, pgName, pgNil, pgCons, pgTup_t, pAug, pApp, pYes, isk_non, nsk_non, isN_non, isN_bl, isN_int, isN_str, isN_tup, isN_lst, isN_ref, isN_obj, pTru, pFld, pStar, pMake, pSetF, pIt, pRng1, pRng2, forG, List.map_cons, List.map_nil, List.getElem?_cons_zero, List.getElem?_cons_succ, List.set_cons_zero, List.set_cons_succ, Option.some.injEq, exists_eq_left, exists_eq_left', true_and, and_true, wipeE, D.bl.injEq, D.int.injEq, D.str.injEq, D.tup.injEq, D.lst.injEq, Bool.not_true, decide_eq_true_eq, if_true, if_false, reduceIte, Bool.false_eq_true, Option.isNone_none, Option.isNone_some, Bool.not_false, List.length_nil, List.length_cons, List.nil_append, List.cons_append, D.ref.injEq, SO.lst.injEq, pCall, exists_const, and_self, Nat.zero_add, Nat.zero_le, Nat.reduceLeDiff, Nat.reduceAdd, eq_self, o_add, o_sub, o_mul, o_div, o_mod, o_cmp, o_int, o_lenl, o_lent, o_lens, o_tupl, o_tupt, o_min, o_max, q_int, ixk_tup, ixk_lst, ixk_scr, at0, at1, at2, at3, at4, at5, List.length_map, ln0, ln1, ln2, ln3, ln4, lnS0, lnS2, lnS4, q_id, q_ido, q_oi, q_oid, q_path, q_ln, q_ls, n_id, n_path, n_ln, n_ls, non_oid, non_oln, non_oct, non_id, non_ln, non_ct, non_path, un_ln, un_pl, in_ids, ad_path, eOp_s, eOp_n, lstk_ls, st_ls]
    cases hc : f.ct with
    | none =>
      have hs : settleF ls pl = (pl.1, pl.2.1) := by
        unfold settleF
        rw [hf]
        exact if_pos hc
      rw [hs] at hk
      simp only [pSeq, pAsg, pVar, pC, pOp, pNil, pCons, pTup, pLst, pLstM, pNot, pAndV, pOrV, pIf, pB, pAnd, pOr, pNotT, pNoPart, pPart, pCB, pUnN, pSl, pNext, pBreak, pCont, pRet, pRetN, pDrop, pIfS, pgName, pgNil, pgCons, pgTup_t, pAug, pApp, pYes, isk_non, nsk_non, isN_non, isN_bl, isN_int, isN_str, isN_tup, isN_lst, isN_ref, isN_obj, pTru, pFld, pStar, pMake, pSetF, pIt, pRng1, pRng2, forG, List.map_cons, List.map_nil, List.getElem?_cons_zero, List.getElem?_cons_succ, List.set_cons_zero, List.set_cons_succ, Option.some.injEq, exists_eq_left, exists_eq_left', true_and, and_true, wipeE, D.bl.injEq, D.int.injEq, D.str.injEq, D.tup.injEq, D.lst.injEq, Bool.not_true, decide_eq_true_eq, if_true, if_false, reduceIte, Bool.false_eq_true, Option.isNone_none, Option.isNone_some, Bool.not_false, List.length_nil, List.length_cons, List.nil_append, List.cons_append, D.ref.injEq, SO.lst.injEq, pCall, exists_const, and_self, Nat.zero_add, Nat.zero_le, Nat.reduceLeDiff, Nat.reduceAdd, eq_self, o_add, o_sub, o_mul, o_div, o_mod, o_cmp, o_int, o_lenl, o_lent, o_lens, o_tupl, o_tupt, o_min, o_max, q_int, ixk_tup, ixk_lst, ixk_scr, at0, at1, at2, at3, at4, at5, List.length_map, ln0, ln1, ln2, ln3, ln4, lnS0, lnS2, lnS4, q_id, q_ido, q_oi, q_oid, q_path, q_ln, q_ls, n_id, n_path, n_ln, n_ls, non_oid, non_oln, non_oct, non_id, non_ln, non_ct, non_path, un_ln, un_pl, in_ids, ad_path, eOp_s, eOp_n, lstk_ls, st_ls]
      exact rt_pure (pu_two (pl.1, pl.2.1)) hk
    | some c =>
      have hs : settleF ls pl = (none, pl.2.2) := by
        unfold settleF
        rw [hf]
        exact if_neg (by rw [hc]; simp)
      rw [hs] at hk
      simp only [pSeq, pAsg, pVar, pC, pOp, pNil, pCons, pTup, pLst, pLstM, pNot, pAndV, pOrV, pIf, pB, pAnd, pOr, pNotT, pNoPart, pPart, pCB, pUnN, pSl, pNext, pBreak, pCont, pRet, pRetN, pDrop, pIfS, pgName, pgNil, pgCons, pgTup_t, pAug, pApp, pYes, isk_non, nsk_non, isN_non, isN_bl, isN_int, isN_str, isN_tup, isN_lst, isN_ref, isN_obj, pTru, pFld, pStar, pMake, pSetF, pIt, pRng1, pRng2, forG, List.map_cons, List.map_nil, List.getElem?_cons_zero, List.getElem?_cons_succ, List.set_cons_zero, List.set_cons_succ, Option.some.injEq, exists_eq_left, exists_eq_left', true_and, and_true, wipeE, D.bl.injEq, D.int.injEq, D.str.injEq, D.tup.injEq, D.lst.injEq, Bool.not_true, decide_eq_true_eq, if_true, if_false, reduceIte, Bool.false_eq_true, Option.isNone_none, Option.isNone_some, Bool.not_false, List.length_nil, List.length_cons, List.nil_append, List.cons_append, D.ref.injEq, SO.lst.injEq, pCall, exists_const, and_self, Nat.zero_add, Nat.zero_le, Nat.reduceLeDiff, Nat.reduceAdd, eq_self, o_add, o_sub, o_mul, o_div, o_mod, o_cmp, o_int, o_lenl, o_lent, o_lens, o_tupl, o_tupt, o_min, o_max, q_int, ixk_tup, ixk_lst, ixk_scr, at0, at1, at2, at3, at4, at5, List.length_map, ln0, ln1, ln2, ln3, ln4, lnS0, lnS2, lnS4, q_id, q_ido, q_oi, q_oid, q_path, q_ln, q_ls, n_id, n_path, n_ln, n_ls, non_oid, non_oln, non_oct, non_id, non_ln, non_ct, non_path, un_ln, un_pl, in_ids, ad_path, eOp_s, eOp_n, lstk_ls, st_ls]
      exact rt_pure (pu_two (none, pl.2.2)) hk
theorem ok_settle {P : Program} {w : World} {K : PySem.W.Frag} {cl : Cl} {mg : Str → Option Value} {base : Heap} (D : Df K mg "settle" s_settle ["lines", "place"]) (T : Txt K cl mg) (hw : cl.w = w) (G_find_line : C8.Cal P w K mg base 1 "find_line" (spP K cl F_find_line) []) : C8.Cal P w K mg base 2 "settle" (spP K cl F_settle) [] := by
  subst hw
  refine D.cal sc_settle (spP_len (n := 2) len_settle) (fun f cdv A outer s H vs Q E hr h => ?_)
  refine ⟨_,
    (pss_cons (ps_asg (pv 1) (pg_tup rfl (pgs_cons (pg_name (i := 2) sc_settle.nd rfl (Or.inl rfl)) (pgs_cons (pg_name (i := 3) sc_settle.nd rfl (Or.inl rfl)) (pgs_cons (pg_name (i := 4) sc_settle.nd rfl (Or.inl rfl)) pgs_nil)))))
    (pss_cons (ps_set (i := 5) sc_settle.nd rfl (.inl rfl) (C8.pe_c G_find_line hr (by decide) (by rfl) (pa_cons (pv 0) (pa_cons (pv 2) pa_nil))))
    (pss_cons (ps_if (PW.pt (pw_or (pt_cmpR op_isN (pv 5) pe_non (nomark _)) (pw_or1 (pt_cmpR op_notN (pe_ix (show IxR _ (uIx K) from uix) (pv 5) pe_int (fun _ _ => rfl)) pe_non (nomark _)))))
      (pss_one (ps_ret (pe_tup (pa_cons pe_non (pa_cons (pv 4) pa_nil)))))
      pss_nil)
    (pss_one (ps_ret (pe_tup (pa_cons (pv 2) (pa_cons (pv 3) pa_nil)))))))), ?_⟩
  exact fn_ok (N := ["lines", "place", "inside", "below", "seen", "folder"]) (show SmS K cl _ ps_settle from
    (sm_seq (sm_asg sm_var (sm_gtup (sm_gcons sm_gname (sm_gcons sm_gname (sm_gcons sm_gname sm_gnil)))))
    (sm_seq (sm_asg (sm_call (sm_cons sm_var (sm_cons sm_var sm_nil))) sm_gname)
    (sm_seq (sm_ifS (sm_or (sm_test (sm_op smr_is sm_var sm_non)) (sm_test (sm_op smr_ns (sm_op smr_ix sm_var sm_int) sm_non)))
      ((sm_ret (sm_tup (sm_cons sm_non (sm_cons sm_var sm_nil)))))
      sm_next)
    ((sm_ret (sm_tup (sm_cons sm_var (sm_cons sm_var sm_nil))))))))) body_settle h
/-! ### stands_in -/
def pl_stands_in_1 : PSx :=
      (pSeq (pIfS (pB (pOp eqk (pVar 1) (pVar 2)))
        ((pRet (pC (.bl true))))
        pNext)
      ((pAsg (pOp ixk (pCall F_find_line (pCons (pVar 0) (pCons (pVar 1) pNil))) (pC (.int 2))) (pgName 1))))
theorem pl_stands_in_1_d (P : PEnds) (env : Pw.Env) (S : Sto) : pl_stands_in_1 P env S = (
      (pSeq (pIfS (pB (pOp eqk (pVar 1) (pVar 2)))
        ((pRet (pC (.bl true))))
        pNext)
      ((pAsg (pOp ixk (pCall F_find_line (pCons (pVar 0) (pCons (pVar 1) pNil))) (pC (.int 2))) (pgName 1))))) P env S := rfl
def ps_stands_in : PSx :=
    (pSeq (pWhile (pB (pOp nsk (pVar 1) (pC .non))) pl_stands_in_1)
    ((pRet (pC (.bl false)))))
theorem start_stands_in : ∀ a0 a1 a2 : D, startE 3 [a0, a1, a2] = [some a0, some a1, some a2] := fun _ _ _ => rfl
def F_stands_in : PFn := fun ds k => ∃ ls o x n b, ds = [eLs ls, eOp eId o, eId x] ∧ SIn ls x n o b ∧ k (.bl b)
theorem len_stands_in : ∀ ds k, F_stands_in ds k → ds.length = 3 := by
  rintro _ _ ⟨_, _, _, _, _, rfl, _⟩
  rfl
theorem body_stands_in : ∀ ds k, F_stands_in ds k → ps_stands_in { nx := fun _ _ => k .non, rt := fun d S => (d.frz S).noRef = true ∧ k (d.frz S) } (startE 3 ds) [] := by
  rintro _ k ⟨ls, o, x, n, b, rfl, hsi, hk⟩
  rw [start_stands_in]
  unfold ps_stands_in
  simp only [pSeq, pAsg, pVar, pC, pOp, pNil, pCons, pTup, pLst, pLstM, pNot, pAndV, pOrV, pIf, pB, pAnd, pOr, pNotT, pNoPart, pPart, pCB, pUnN, pSl, pNext, pBreak, pCont, pRet, pRetN, pDrop, pIfS, pgName, pgNil, pgCons, pgTup_t, pAug, pApp, pYes, isk_non, nsk_non, isN_non, isN_bl, isN_int, isN_str, isN_tup, isN_lst, isN_ref, isN_obj, pTru, pFld, pStar, pMake, pSetF, pIt, pRng1, pRng2, forG, List.map_cons, List.map_nil, List.getElem?_cons_zero, List.getElem?_cons_succ, List.set_cons_zero, List.set_cons_succ, Option.some.injEq, exists_eq_left, exists_eq_left', true_and, and_true, wipeE, D.bl.injEq, D.int.injEq, D.str.injEq, D.tup.injEq, D.lst.injEq, Bool.not_true, decide_eq_true_eq, if_true, if_false, reduceIte, Bool.false_eq_true, Option.isNone_none, Option.isNone_some, Bool.not_false, List.length_nil, List.length_cons, List.nil_append, List.cons_append, D.ref.injEq, SO.lst.injEq, pCall, exists_const, and_self, Nat.zero_add, Nat.zero_le, Nat.reduceLeDiff, Nat.reduceAdd, eq_self, o_add, o_sub, o_mul, o_div, o_mod, o_cmp, o_int, o_lenl, o_lent, o_lens, o_tupl, o_tupt, o_min, o_max, q_int, ixk_tup, ixk_lst, ixk_scr, at0, at1, at2, at3, at4, at5, List.length_map, ln0, ln1, ln2, ln3, ln4, lnS0, lnS2, lnS4, q_id, q_ido, q_oi, q_oid, q_path, q_ln, q_ls, n_id, n_path, n_ln, n_ls, non_oid, non_oln, non_oct, non_id, non_ln, non_ct, non_path, un_ln, un_pl, in_ids, ad_path, eOp_s, eOp_n, lstk_ls, st_ls, pl_stands_in_1]
  refine ⟨fun m env S => ∃ o, env = [some (eLs ls), some (eOp eId o), some (eId x)] ∧ S = [] ∧ SIn ls x m o b, ⟨n, o, rfl, rfl, hsi⟩, ?_⟩
  rintro m env S ⟨o, rfl, rfl, hs⟩
  cases hs with
  | root =>
    simp only [pSeq, pAsg, pVar, pC, pOp, pNil, pCons, pTup, pLst, pLstM, pNot, pAndV, pOrV, pIf, pB, pAnd, pOr, pNotT, pNoPart, pPart, pCB, pUnN, pSl, pNext, pBreak, pCont, pRet, pRetN, pDrop, pIfS, pgName, pgNil, pgCons, pgTup_t, pAug, pApp, pYes, isk_non, nsk_non, isN_non, isN_bl, isN_int, isN_str, isN_tup, isN_lst, isN_ref, isN_obj, pTru, pFld, pStar, pMake, pSetF, pIt, pRng1, pRng2, forG, List.map_cons, List.map_nil, List.getElem?_cons_zero, List.getElem?_cons_succ, List.set_cons_zero, List.set_cons_succ, Option.some.injEq, exists_eq_left, exists_eq_left', true_and, and_true, wipeE, D.bl.injEq, D.int.injEq, D.str.injEq, D.tup.injEq, D.lst.injEq, Bool.not_true, decide_eq_true_eq, if_true, if_false, reduceIte, Bool.false_eq_true, Option.isNone_none, Option.isNone_some, Bool.not_false, List.length_nil, List.length_cons, List.nil_append, List.cons_append, D.ref.injEq, SO.lst.injEq, pCall, exists_const, and_self, Nat.zero_add, Nat.zero_le, Nat.reduceLeDiff, Nat.reduceAdd, eq_self, o_add, o_sub, o_mul, o_div, o_mod, o_cmp, o_int, o_lenl, o_lent, o_lens, o_tupl, o_tupt, o_min, o_max, q_int, ixk_tup, ixk_lst, ixk_scr, at0, at1, at2, at3, at4, at5, List.length_map, ln0, ln1, ln2, ln3, ln4, lnS0, lnS2, lnS4, q_id, q_ido, q_oi, q_oid, q_path, q_ln, q_ls, n_id, n_path, n_ln, n_ls, non_oid, non_oln, non_oct, non_id, non_ln, non_ct, non_path, un_ln, un_pl, in_ids, ad_path, eOp_s, eOp_n, lstk_ls, st_ls]
    exact rt_pure rfl hk
  | hit =>
    simp only [pSeq, pAsg, pVar, pC, pOp, pNil, pCons, pTup, pLst, pLstM, pNot, pAndV, pOrV, pIf, pB, pAnd, pOr, pNotT, pNoPart, pPart, pCB, pUnN, pSl, pNext, pBreak, pCont, pRet, pRetN, pDrop, pIfS, pgName, pgNil, pgCons, pgTup_t, pAug, pApp, pYes, isk_non, nsk_non, isN_non, isN_bl, isN_int, isN_str, isN_tup, isN_lst, isN_ref, isN_obj, pTru, pFld, pStar, pMake, pSetF, pIt, pRng1, pRng2, forG, List.map_cons, List.map_nil, List.getElem?_cons_zero, List.getElem?_cons_succ, List.set_cons_zero, List.set_cons_succ, Option.some.injEq, exists_eq_left, exists_eq_left', true_and, and_true, wipeE, D.bl.injEq, D.int.injEq, D.str.injEq, D.tup.injEq, D.lst.injEq, Bool.not_true, decide_eq_true_eq, if_true, if_false, reduceIte, Bool.false_eq_true, Option.isNone_none, Option.isNone_some, Bool.not_false, List.length_nil, List.length_cons, List.nil_append, List.cons_append, D.ref.injEq, SO.lst.injEq, pCall, exists_const, and_self, Nat.zero_add, Nat.zero_le, Nat.reduceLeDiff, Nat.reduceAdd, eq_self, o_add, o_sub, o_mul, o_div, o_mod, o_cmp, o_int, o_lenl, o_lent, o_lens, o_tupl, o_tupt, o_min, o_max, q_int, ixk_tup, ixk_lst, ixk_scr, at0, at1, at2, at3, at4, at5, List.length_map, ln0, ln1, ln2, ln3, ln4, lnS0, lnS2, lnS4, q_id, q_ido, q_oi, q_oid, q_path, q_ln, q_ls, n_id, n_path, n_ln, n_ls, non_oid, non_oln, non_oct, non_id, non_ln, non_ct, non_path, un_ln, un_pl, in_ids, ad_path, eOp_s, eOp_n, lstk_ls, st_ls]
    exact ⟨fun _ _ => False, fun _ _ h => h.elim, rt_pure rfl hk⟩
  | @up i f m b hne hf hs =>
    simp only [pSeq, pAsg, pVar, pC, pOp, pNil, pCons, pTup, pLst, pLstM, pNot, pAndV, pOrV, pIf, pB, pAnd, pOr, pNotT, pNoPart, pPart, pCB, pUnN, pSl, pNext, pBreak, pCont, pRet, pRetN, pDrop, pIfS, pgName, pgNil, pgCons, pgTup_t, pAug, pApp, pYes, isk_non, nsk_non, isN_non, isN_bl, isN_int, isN_str, isN_tup, isN_lst, isN_ref, isN_obj, pTru, pFld, pStar, pMake, pSetF, pIt, pRng1, pRng2, forG, List.map_cons, List.map_nil, List.getElem?_cons_zero, List.getElem?_cons_succ, List.set_cons_zero, List.set_cons_succ, Option.some.injEq, exists_eq_left, exists_eq_left', true_and, and_true, wipeE, D.bl.injEq, D.int.injEq, D.str.injEq, D.tup.injEq, D.lst.injEq, Bool.not_true, decide_eq_true_eq, if_true, if_false, reduceIte, Bool.false_eq_true, Option.isNone_none, Option.isNone_some, Bool.not_false, List.length_nil, List.length_cons, List.nil_append, List.cons_append, D.ref.injEq, SO.lst.injEq, pCall, exists_const, and_self, Nat.zero_add, Nat.zero_le, Nat.reduceLeDiff, Nat.reduceAdd, eq_self, o_add, o_sub, o_mul, o_div, o_mod, o_cmp, o_int, o_lenl, o_lent, o_lens, o_tupl, o_tupt, o_min, o_max, q_int, ixk_tup, ixk_lst, ixk_scr, at0, at1, at2, at3, at4, at5, List.length_map, ln0, ln1, ln2, ln3, ln4, lnS0, lnS2, lnS4, q_id, q_ido, q_oi, q_oid, q_path, q_ln, q_ls, n_id, n_path, n_ln, n_ls, non_oid, non_oln, non_oct, non_id, non_ln, non_ct, non_path, un_ln, un_pl, in_ids, ad_path, eOp_s, eOp_n, lstk_ls, st_ls]
    refine ⟨fun env S => ∃ o, env = [some (eLs ls), some (eOp eId o), some (eId x)] ∧ S = [] ∧ SIn ls x m o b, fun env S h => ⟨m, Nat.lt_succ_self m, h⟩, ?_⟩
    rw [if_neg hne]
    refine call_of (by simp only [pureAll, pu_ls, pu_lsl, pu_oid, pu_id, pu_ln, pu_oln, pu_pl, pu_ed, pu_eds, pu_idst, pu_path, pu_oct, pu_mv, pu_mvs, pu_str, pu_int, pu_bl, pu_non, eOp_s, eOp_n, Bool.and_self]) ⟨ls, some i, rfl, ?_⟩
    rw [hf]
    simp only [pSeq, pAsg, pVar, pC, pOp, pNil, pCons, pTup, pLst, pLstM, pNot, pAndV, pOrV, pIf, pB, pAnd, pOr, pNotT, pNoPart, pPart, pCB, pUnN, pSl, pNext, pBreak, pCont, pRet, pRetN, pDrop, pIfS, pgName, pgNil, pgCons, pgTup_t, pAug, pApp, pYes, isk_non, nsk_non, isN_non, isN_bl, isN_int, isN_str, isN_tup, isN_lst, isN_ref, isN_obj, pTru, pFld, pStar, pMake, pSetF, pIt, pRng1, pRng2, forG, List.map_cons, List.map_nil, List.getElem?_cons_zero, List.getElem?_cons_succ, List.set_cons_zero, List.set_cons_succ, Option.some.injEq, exists_eq_left, exists_eq_left', true_and, and_true, wipeE, D.bl.injEq, D.int.injEq, D.str.injEq, D.tup.injEq, D.lst.injEq, Bool.not_true, decide_eq_true_eq, if_true, if_false, reduceIte, Bool.false_eq_true, Option.isNone_none, Option.isNone_some, Bool.not_false, List.length_nil, List.length_cons, List.nil_append, List.cons_append, D.ref.injEq, SO.lst.injEq, pCall, exists_const, and_self, Nat.zero_add, Nat.zero_le, Nat.reduceLeDiff, Nat.reduceAdd, eq_self, o_add, o_sub, o_mul, o_div, o_mod, o_cmp, o_int, o_lenl, o_lent, o_lens, o_tupl, o_tupt, o_min, o_max, q_int, ixk_tup, ixk_lst, ixk_scr, at0, at1, at2, at3, at4, at5, List.length_map, ln0, ln1, ln2, ln3, ln4, lnS0, lnS2, lnS4, q_id, q_ido, q_oi, q_oid, q_path, q_ln, q_ls, n_id, n_path, n_ln, n_ls, non_oid, non_oln, non_oct, non_id, non_ln, non_ct, non_path, un_ln, un_pl, in_ids, ad_path, eOp_s, eOp_n, lstk_ls, st_ls]
    exact ⟨f.ins, rfl, hs⟩
theorem ok_stands_in {P : Program} {w : World} {K : PySem.W.Frag} {cl : Cl} {mg : Str → Option Value} {base : Heap} (D : Df K mg "stands_in" s_stands_in ["lines", "inside", "line_id"]) (T : Txt K cl mg) (hw : cl.w = w) (G_find_line : C8.Cal P w K mg base 1 "find_line" (spP K cl F_find_line) []) : C8.Cal P w K mg base 2 "stands_in" (spP K cl F_stands_in) [] := by
  subst hw
  refine D.cal sc_stands_in (spP_len (n := 3) len_stands_in) (fun f cdv A outer s H vs Q E hr h => ?_)
  refine ⟨_,
    (pss_cons (ps_while PassesOwn.never (pt_cmpR op_notN (pv 1) pe_non (nomark _))
      (pss_cons (ps_if (pt_cmpR (show OpR _ _ (rEqP K) from op_eqP hr.units) (pv 1) (pv 2) (nomark _))
        (pss_one (ps_ret pe_bl))
        pss_nil)
      (pss_one (ps_set (i := 1) sc_stands_in.nd rfl (.inl rfl) (pe_ix (show IxR _ (uIx K) from uix) (C8.pe_c G_find_line hr (by decide) (by rfl) (pa_cons (pv 0) (pa_cons (pv 1) pa_nil))) pe_int (fun _ _ => rfl))))))
    (pss_one (ps_ret pe_bl))), ?_⟩
  exact fn_ok (N := ["lines", "inside", "line_id"]) (show SmS K cl _ ps_stands_in from
    (sm_seq (sm_while (sm_test (sm_op smr_ns sm_var sm_non))
      (sm_seq (sm_ifS (sm_test (sm_op smr_eq sm_var sm_var))
        ((sm_ret sm_bl))
        sm_next)
      ((sm_asg (sm_op smr_ix (sm_call (sm_cons sm_var (sm_cons sm_var sm_nil))) sm_int) sm_gname))))
    ((sm_ret sm_bl)))) body_stands_in h
/-! ### move_line -/
def pr_move_line_1 : PSx :=
    (pSeq (pIfS (pB (pOp isk (pVar 4) (pC .non)))
      ((pRet (pCB lstk (pCons (pVar 0) pNil))))
      pNext)
    (pSeq (pAsg (pCall F_settle (pCons (pVar 0) (pCons (pVar 3) pNil))) (pgTup 2 (pgCons (pgName 5) (pgCons (pgName 6) pgNil))))
    (pSeq (pIfS (pB (pCall F_stands_in (pCons (pVar 0) (pCons (pVar 5) (pCons (pOp ixk (pVar 4) (pC (.int 0))) pNil)))))
      ((pRet (pCB lstk (pCons (pVar 0) pNil))))
      pNext)
    (pSeq (pAsg (pTup (pCons (pOp ixk (pVar 4) (pC (.int 0))) (pCons (pOp ixk (pVar 4) (pC (.int 1))) (pCons (pVar 5) (pCons (pVar 6) (pCons (pOp ixk (pVar 4) (pC (.int 4))) pNil)))))) (pgName 7))
    ((pRet (pLc (pIt (pVar 0)) (pgName 8) pYes (pIf (pB (pOp eqk (pOp ixk (pVar 8) (pC (.int 0))) (pOp ixk (pVar 4) (pC (.int 0))))) (pVar 7) (pVar 8)) [8])))))))
theorem pr_move_line_1_d (P : PEnds) (env : Pw.Env) (S : Sto) : pr_move_line_1 P env S = (
    (pSeq (pIfS (pB (pOp isk (pVar 4) (pC .non)))
      ((pRet (pCB lstk (pCons (pVar 0) pNil))))
      pNext)
    (pSeq (pAsg (pCall F_settle (pCons (pVar 0) (pCons (pVar 3) pNil))) (pgTup 2 (pgCons (pgName 5) (pgCons (pgName 6) pgNil))))
    (pSeq (pIfS (pB (pCall F_stands_in (pCons (pVar 0) (pCons (pVar 5) (pCons (pOp ixk (pVar 4) (pC (.int 0))) pNil)))))
      ((pRet (pCB lstk (pCons (pVar 0) pNil))))
      pNext)
    (pSeq (pAsg (pTup (pCons (pOp ixk (pVar 4) (pC (.int 0))) (pCons (pOp ixk (pVar 4) (pC (.int 1))) (pCons (pVar 5) (pCons (pVar 6) (pCons (pOp ixk (pVar 4) (pC (.int 4))) pNil)))))) (pgName 7))
    ((pRet (pLc (pIt (pVar 0)) (pgName 8) pYes (pIf (pB (pOp eqk (pOp ixk (pVar 8) (pC (.int 0))) (pOp ixk (pVar 4) (pC (.int 0))))) (pVar 7) (pVar 8)) [8])))))))) P env S := rfl
def ps_move_line : PSx :=
    (pSeq (pAsg (pCall F_find_head (pCons (pVar 0) (pCons (pVar 1) pNil))) (pgName 4))
    (pSeq (pIfS (pB (pOp isk (pVar 4) (pC .non)))
      ((pAsg (pCall F_find_line (pCons (pVar 0) (pCons (pVar 2) pNil))) (pgName 4)))
      pNext)
    pr_move_line_1))
theorem start_move_line : ∀ a0 a1 a2 a3 : D, startE 9 [a0, a1, a2, a3] = [some a0, some a1, some a2, some a3, none, none, none, none, none] := fun _ _ _ _ => rfl
def F_move_line : PFn := fun ds k => ∃ ls m ls', ds = [eLs ls, eOp eId m.1, eOp eId m.2.1, ePl m.2.2] ∧ ls.length ≤ 1000 ∧ MvR ls m ls' ∧ k (eLs ls')
theorem len_move_line : ∀ ds k, F_move_line ds k → ds.length = 4 := by
  rintro _ _ ⟨_, _, _, rfl, _⟩
  rfl
theorem body_move_line : ∀ ds k, F_move_line ds k → ps_move_line { nx := fun _ _ => k .non, rt := fun d S => (d.frz S).noRef = true ∧ k (d.frz S) } (startE 9 ds) [] := by
  rintro _ k ⟨ls, m, ls', rfl, hl, hm, hk⟩
  rw [start_move_line]
  unfold ps_move_line
  simp only [pSeq, pAsg, pVar, pC, pOp, pNil, pCons, pTup, pLst, pLstM, pNot, pAndV, pOrV, pIf, pB, pAnd, pOr, pNotT, pNoPart, pPart, pCB, pUnN, pSl, pNext, pBreak, pCont, pRet, pRetN, pDrop, pIfS, pgName, pgNil, pgCons, pgTup_t, pAug, pApp, pYes, isk_non, nsk_non, isN_non, isN_bl, isN_int, isN_str, isN_tup, isN_lst, isN_ref, isN_obj, pTru, pFld, pStar, pMake, pSetF, pIt, pRng1, pRng2, forG, List.map_cons, List.map_nil, List.getElem?_cons_zero, List.getElem?_cons_succ, List.set_cons_zero, List.set_cons_succ, Option.some.injEq, exists_eq_left, exists_eq_left', true_and, and_true, wipeE, D.bl.injEq, D.int.injEq, D.str.injEq, D.tup.injEq, D.lst.injEq, Bool.not_true, decide_eq_true_eq, if_true, if_false, reduceIte, Bool.false_eq_true, Option.isNone_none, Option.isNone_some, Bool.not_false, List.length_nil, List.length_cons, List.nil_append, List.cons_append, D.ref.injEq, SO.lst.injEq, pCall, exists_const, and_self, Nat.zero_add, Nat.zero_le, Nat.reduceLeDiff, Nat.reduceAdd, eq_self, o_add, o_sub, o_mul, o_div, o_mod, o_cmp, o_int, o_lenl, o_lent, o_lens, o_tupl, o_tupt, o_min, o_max, q_int, ixk_tup, ixk_lst, ixk_scr, at0, at1, at2, at3, at4, at5, List.length_map, ln0, ln1, ln2, ln3, ln4, lnS0, lnS2, lnS4, q_id, q_ido, q_oi, q_oid, q_path, q_ln, q_ls, n_id, n_path, n_ln, n_ls, non_oid, non_oln, non_oct, non_id, non_ln, non_ct, non_path, un_ln, un_pl, in_ids, ad_path, eOp_s, eOp_n, lstk_ls, st_ls]
  refine call_of (by simp only [pureAll, pu_ls, pu_lsl, pu_oid, pu_id, pu_ln, pu_oln, pu_pl, pu_ed, pu_eds, pu_idst, pu_path, pu_oct, pu_mv, pu_mvs, pu_str, pu_int, pu_bl, pu_non, eOp_s, eOp_n, Bool.and_self]) ⟨ls, m.1, rfl, ?_⟩
  have main : ∀ o, meantBy ls m = o → pr_move_line_1 { nx := fun _ _ => k .non, rt := fun d S => (d.frz S).noRef = true ∧ k (d.frz S) } [some (eLs ls), some (eOp eId m.1), some (eOp eId m.2.1), some (ePl m.2.2), some (eOp eLn o), none, none, none, none] [] := by
    intro o ho
    unfold pr_move_line_1
    rcases mv_cases hm with ⟨h1, h2⟩ | ⟨l, n, b, h1, h2, h3⟩
    · rw [h1] at ho
      subst ho
      rw [h2] at hk
      simp only [pSeq, pAsg, pVar, pC, pOp, pNil, pCons, pTup, pLst, pLstM, pNot, pAndV, pOrV, pIf, pB, pAnd, pOr, pNotT, pNoPart, pPart, pCB, pUnN, pSl, pNext, pBreak, pCont, pRet, pRetN, pDrop, pIfS, pgName, pgNil, pgCons, pgTup_t, pAug, pApp, pYes, isk_non, nsk_non, isN_non, isN_bl, isN_int, isN_str, isN_tup, isN_lst, isN_ref, isN_obj, pTru, pFld, pStar, pMake, pSetF, pIt, pRng1, pRng2, forG, List.map_cons, List.map_nil, List.getElem?_cons_zero, List.getElem?_cons_succ, List.set_cons_zero, List.set_cons_succ, Option.some.injEq, exists_eq_left, exists_eq_left', true_and, and_true, wipeE, D.bl.injEq, D.int.injEq, D.str.injEq, D.tup.injEq, D.lst.injEq, Bool.not_true, decide_eq_true_eq, if_true, if_false, reduceIte, Bool.false_eq_true, Option.isNone_none, Option.isNone_some, Bool.not_false, List.length_nil, List.length_cons, List.nil_append, List.cons_append, D.ref.injEq, SO.lst.injEq, pCall, exists_const, and_self, Nat.zero_add, Nat.zero_le, Nat.reduceLeDiff, Nat.reduceAdd, eq_self, o_add, o_sub, o_mul, o_div, o_mod, o_cmp, o_int, o_lenl, o_lent, o_lens, o_tupl, o_tupt, o_min, o_max, q_int, ixk_tup, ixk_lst, ixk_scr, at0, at1, at2, at3, at4, at5, List.length_map, ln0, ln1, ln2, ln3, ln4, lnS0, lnS2, lnS4, q_id, q_ido, q_oi, q_oid, q_path, q_ln, q_ls, n_id, n_path, n_ln, n_ls, non_oid, non_oln, non_oct, non_id, non_ln, non_ct, non_path, un_ln, un_pl, in_ids, ad_path, eOp_s, eOp_n, lstk_ls, st_ls]
      exact rt_pure (pu_ls ls) hk
    · rw [h1] at ho
      subst ho
      simp only [pSeq, pAsg, pVar, pC, pOp, pNil, pCons, pTup, pLst, pLstM, pNot, pAndV, pOrV, pIf, pB, pAnd, pOr, pNotT, pNoPart, pPart, pCB, pUnN, pSl, pNext, pBreak, pCont, pRet, pRetN, pDrop, pIfS, pgName, pgNil, pgCons, pgTup_t, pAug, pApp, pYes, isk_non, nsk_non, isN_non, isN_bl, isN_int, isN_str, isN_tup, isN_lst, isN_ref, isN_obj, pTru, pFld, pStar, pMake, pSetF, pIt, pRng1, pRng2, forG, List.map_cons, List.map_nil, List.getElem?_cons_zero, List.getElem?_cons_succ, List.set_cons_zero, List.set_cons_succ, Option.some.injEq, exists_eq_left, exists_eq_left', true_and, and_true, wipeE, D.bl.injEq, D.int.injEq, D.str.injEq, D.tup.injEq, D.lst.injEq, Bool.not_true, decide_eq_true_eq, if_true, if_false, reduceIte, Bool.false_eq_true, Option.isNone_none, Option.isNone_some, Bool.not_false, List.length_nil, List.length_cons, List.nil_append, List.cons_append, D.ref.injEq, SO.lst.injEq, pCall, exists_const, and_self, Nat.zero_add, Nat.zero_le, Nat.reduceLeDiff, Nat.reduceAdd, eq_self, o_add, o_sub, o_mul, o_div, o_mod, o_cmp, o_int, o_lenl, o_lent, o_lens, o_tupl, o_tupt, o_min, o_max, q_int, ixk_tup, ixk_lst, ixk_scr, at0, at1, at2, at3, at4, at5, List.length_map, ln0, ln1, ln2, ln3, ln4, lnS0, lnS2, lnS4, q_id, q_ido, q_oi, q_oid, q_path, q_ln, q_ls, n_id, n_path, n_ln, n_ls, non_oid, non_oln, non_oct, non_id, non_ln, non_ct, non_path, un_ln, un_pl, in_ids, ad_path, eOp_s, eOp_n, lstk_ls, st_ls]
      refine call_of (by simp only [pureAll, pu_ls, pu_lsl, pu_oid, pu_id, pu_ln, pu_oln, pu_pl, pu_ed, pu_eds, pu_idst, pu_path, pu_oct, pu_mv, pu_mvs, pu_str, pu_int, pu_bl, pu_non, eOp_s, eOp_n, Bool.and_self]) ⟨ls, m.2.2, rfl, ?_⟩
      unfold eTwo
      simp only [pSeq, pAsg, pVar, pC, pOp, pNil, pCons, pTup, pLst, pLstM, pNot, pAndV, pOrV, pIf, pB, pAnd, pOr, pNotT, pNoPart, pPart, pCB, pUnN, pSl, pNext, pBreak, pCont, pRet, pRetN, pDrop, pIfS, pgName, pgNil, pgCons, pgTup_t, pAug, pApp, pYes, isk_non, nsk_non, isN_non, isN_bl, isN_int, isN_str, isN_tup, isN_lst, isN_ref, isN_obj, pTru, pFld, pStar, pMake, pSetF, pIt, pRng1, pRng2, forG, List.map_cons, List.map_nil, List.getElem?_cons_zero, List.getElem?_cons_succ, List.set_cons_zero, List.set_cons_succ, Option.some.injEq, exists_eq_left, exists_eq_left', true_and, and_true, wipeE, D.bl.injEq, D.int.injEq, D.str.injEq, D.tup.injEq, D.lst.injEq, Bool.not_true, decide_eq_true_eq, if_true, if_false, reduceIte, Bool.false_eq_true, Option.isNone_none, Option.isNone_some, Bool.not_false, List.length_nil, List.length_cons, List.nil_append, List.cons_append, D.ref.injEq, SO.lst.injEq, pCall, exists_const, and_self, Nat.zero_add, Nat.zero_le, Nat.reduceLeDiff, Nat.reduceAdd, eq_self, o_add, o_sub, o_mul, o_div, o_mod, o_cmp, o_int, o_lenl, o_lent, o_lens, o_tupl, o_tupt, o_min, o_max, q_int, ixk_tup, ixk_lst, ixk_scr, at0, at1, at2, at3, at4, at5, List.length_map, ln0, ln1, ln2, ln3, ln4, lnS0, lnS2, lnS4, q_id, q_ido, q_oi, q_oid, q_path, q_ln, q_ls, n_id, n_path, n_ln, n_ls, non_oid, non_oln, non_oct, non_id, non_ln, non_ct, non_path, un_ln, un_pl, in_ids, ad_path, eOp_s, eOp_n, lstk_ls, st_ls]
      refine call_of (by simp only [pureAll, pu_ls, pu_lsl, pu_oid, pu_id, pu_ln, pu_oln, pu_pl, pu_ed, pu_eds, pu_idst, pu_path, pu_oct, pu_mv, pu_mvs, pu_str, pu_int, pu_bl, pu_non, eOp_s, eOp_n, Bool.and_self]) ⟨ls, (settleF ls m.2.2).1, l.id, n, b, rfl, h2, ?_⟩
      cases b with
      | true =>
        rw [if_pos rfl] at h3
        rw [h3] at hk
        simp only [pSeq, pAsg, pVar, pC, pOp, pNil, pCons, pTup, pLst, pLstM, pNot, pAndV, pOrV, pIf, pB, pAnd, pOr, pNotT, pNoPart, pPart, pCB, pUnN, pSl, pNext, pBreak, pCont, pRet, pRetN, pDrop, pIfS, pgName, pgNil, pgCons, pgTup_t, pAug, pApp, pYes, isk_non, nsk_non, isN_non, isN_bl, isN_int, isN_str, isN_tup, isN_lst, isN_ref, isN_obj, pTru, pFld, pStar, pMake, pSetF, pIt, pRng1, pRng2, forG, List.map_cons, List.map_nil, List.getElem?_cons_zero, List.getElem?_cons_succ, List.set_cons_zero, List.set_cons_succ, Option.some.injEq, exists_eq_left, exists_eq_left', true_and, and_true, wipeE, D.bl.injEq, D.int.injEq, D.str.injEq, D.tup.injEq, D.lst.injEq, Bool.not_true, decide_eq_true_eq, if_true, if_false, reduceIte, Bool.false_eq_true, Option.isNone_none, Option.isNone_some, Bool.not_false, List.length_nil, List.length_cons, List.nil_append, List.cons_append, D.ref.injEq, SO.lst.injEq, pCall, exists_const, and_self, Nat.zero_add, Nat.zero_le, Nat.reduceLeDiff, Nat.reduceAdd, eq_self, o_add, o_sub, o_mul, o_div, o_mod, o_cmp, o_int, o_lenl, o_lent, o_lens, o_tupl, o_tupt, o_min, o_max, q_int, ixk_tup, ixk_lst, ixk_scr, at0, at1, at2, at3, at4, at5, List.length_map, ln0, ln1, ln2, ln3, ln4, lnS0, lnS2, lnS4, q_id, q_ido, q_oi, q_oid, q_path, q_ln, q_ls, n_id, n_path, n_ln, n_ls, non_oid, non_oln, non_oct, non_id, non_ln, non_ct, non_path, un_ln, un_pl, in_ids, ad_path, eOp_s, eOp_n, lstk_ls, st_ls]
        exact rt_pure (pu_ls ls) hk
      | false =>
        rw [if_neg (by decide)] at h3
        rw [h3] at hk
        simp only [pSeq, pAsg, pVar, pC, pOp, pNil, pCons, pTup, pLst, pLstM, pNot, pAndV, pOrV, pIf, pB, pAnd, pOr, pNotT, pNoPart, pPart, pCB, pUnN, pSl, pNext, pBreak, pCont, pRet, pRetN, pDrop, pIfS, pgName, pgNil, pgCons, pgTup_t, pAug, pApp, pYes, isk_non, nsk_non, isN_non, isN_bl, isN_int, isN_str, isN_tup, isN_lst, isN_ref, isN_obj, pTru, pFld, pStar, pMake, pSetF, pIt, pRng1, pRng2, forG, List.map_cons, List.map_nil, List.getElem?_cons_zero, List.getElem?_cons_succ, List.set_cons_zero, List.set_cons_succ, Option.some.injEq, exists_eq_left, exists_eq_left', true_and, and_true, wipeE, D.bl.injEq, D.int.injEq, D.str.injEq, D.tup.injEq, D.lst.injEq, Bool.not_true, decide_eq_true_eq, if_true, if_false, reduceIte, Bool.false_eq_true, Option.isNone_none, Option.isNone_some, Bool.not_false, List.length_nil, List.length_cons, List.nil_append, List.cons_append, D.ref.injEq, SO.lst.injEq, pCall, exists_const, and_self, Nat.zero_add, Nat.zero_le, Nat.reduceLeDiff, Nat.reduceAdd, eq_self, o_add, o_sub, o_mul, o_div, o_mod, o_cmp, o_int, o_lenl, o_lent, o_lens, o_tupl, o_tupt, o_min, o_max, q_int, ixk_tup, ixk_lst, ixk_scr, at0, at1, at2, at3, at4, at5, List.length_map, ln0, ln1, ln2, ln3, ln4, lnS0, lnS2, lnS4, q_id, q_ido, q_oi, q_oid, q_path, q_ln, q_ls, n_id, n_path, n_ln, n_ls, non_oid, non_oln, non_oct, non_id, non_ln, non_ct, non_path, un_ln, un_pl, in_ids, ad_path, eOp_s, eOp_n, lstk_ls, st_ls]
        refine lc_go (src := eLs ls) (as := ls) (enc := eLn) (fun _ => true) (fun k => eLn (if k.id = l.id then ⟨l.id, l.hd, (settleF ls m.2.2).1, (settleF ls m.2.2).2, l.ct⟩ else k)) (fun kk h => ⟨_, rfl, _, rfl, h⟩) (fun _ => rfl) (by omega) (fun a ha k2 k3 h => ?_) ?_
        · rw [if_pos rfl] at h
          simp only [pSeq, pAsg, pVar, pC, pOp, pNil, pCons, pTup, pLst, pLstM, pNot, pAndV, pOrV, pIf, pB, pAnd, pOr, pNotT, pNoPart, pPart, pCB, pUnN, pSl, pNext, pBreak, pCont, pRet, pRetN, pDrop, pIfS, pgName, pgNil, pgCons, pgTup_t, pAug, pApp, pYes, isk_non, nsk_non, isN_non, isN_bl, isN_int, isN_str, isN_tup, isN_lst, isN_ref, isN_obj, pTru, pFld, pStar, pMake, pSetF, pIt, pRng1, pRng2, forG, List.map_cons, List.map_nil, List.getElem?_cons_zero, List.getElem?_cons_succ, List.set_cons_zero, List.set_cons_succ, Option.some.injEq, exists_eq_left, exists_eq_left', true_and, and_true, wipeE, D.bl.injEq, D.int.injEq, D.str.injEq, D.tup.injEq, D.lst.injEq, Bool.not_true, decide_eq_true_eq, if_true, if_false, reduceIte, Bool.false_eq_true, Option.isNone_none, Option.isNone_some, Bool.not_false, List.length_nil, List.length_cons, List.nil_append, List.cons_append, D.ref.injEq, SO.lst.injEq, pCall, exists_const, and_self, Nat.zero_add, Nat.zero_le, Nat.reduceLeDiff, Nat.reduceAdd, eq_self, o_add, o_sub, o_mul, o_div, o_mod, o_cmp, o_int, o_lenl, o_lent, o_lens, o_tupl, o_tupt, o_min, o_max, q_int, ixk_tup, ixk_lst, ixk_scr, at0, at1, at2, at3, at4, at5, List.length_map, ln0, ln1, ln2, ln3, ln4, lnS0, lnS2, lnS4, q_id, q_ido, q_oi, q_oid, q_path, q_ln, q_ls, n_id, n_path, n_ln, n_ls, non_oid, non_oln, non_oct, non_id, non_ln, non_ct, non_path, un_ln, un_pl, in_ids, ad_path, eOp_s, eOp_n, lstk_ls, st_ls]
          by_cases e : a.id = l.id
          · rw [if_pos e] at h ⊢
            exact h
          · rw [if_neg e] at h ⊢
            exact h
        · rw [flt_all]
          refine rt_pure (d := .lst (ls.map fun k => eLn _)) ?_ ?_
          · exact pureAll_map (fun k => pu_ln _) ls
          · have : (ls.map fun k => eLn (if k.id = l.id then ⟨l.id, l.hd, (settleF ls m.2.2).1, (settleF ls m.2.2).2, l.ct⟩ else k)) = (mvTo ls l (settleF ls m.2.2)).map eLn := by
              unfold mvTo
              rw [List.map_map]
              rfl
            rw [this]
            exact hk
  cases hh : findHead ls m.1 with
  | none =>
    simp only [pSeq, pAsg, pVar, pC, pOp, pNil, pCons, pTup, pLst, pLstM, pNot, pAndV, pOrV, pIf, pB, pAnd, pOr, pNotT, pNoPart, pPart, pCB, pUnN, pSl, pNext, pBreak, pCont, pRet, pRetN, pDrop, pIfS, pgName, pgNil, pgCons, pgTup_t, pAug, pApp, pYes, isk_non, nsk_non, isN_non, isN_bl, isN_int, isN_str, isN_tup, isN_lst, isN_ref, isN_obj, pTru, pFld, pStar, pMake, pSetF, pIt, pRng1, pRng2, forG, List.map_cons, List.map_nil, List.getElem?_cons_zero, List.getElem?_cons_succ, List.set_cons_zero, List.set_cons_succ, Option.some.injEq, exists_eq_left, exists_eq_left', true_and, and_true, wipeE, D.bl.injEq, D.int.injEq, D.str.injEq, D.tup.injEq, D.lst.injEq, Bool.not_true, decide_eq_true_eq, if_true, if_false, reduceIte, Bool.false_eq_true, Option.isNone_none, Option.isNone_some, Bool.not_false, List.length_nil, List.length_cons, List.nil_append, List.cons_append, D.ref.injEq, SO.lst.injEq, pCall, exists_const, and_self, Nat.zero_add, Nat.zero_le, Nat.reduceLeDiff, Nat.reduceAdd, eq_self, o_add, o_sub, o_mul, o_div, o_mod, o_cmp, o_int, o_lenl, o_lent, o_lens, o_tupl, o_tupt, o_min, o_max, q_int, ixk_tup, ixk_lst, ixk_scr, at0, at1, at2, at3, at4, at5, List.length_map, ln0, ln1, ln2, ln3, ln4, lnS0, lnS2, lnS4, q_id, q_ido, q_oi, q_oid, q_path, q_ln, q_ls, n_id, n_path, n_ln, n_ls, non_oid, non_oln, non_oct, non_id, non_ln, non_ct, non_path, un_ln, un_pl, in_ids, ad_path, eOp_s, eOp_n, lstk_ls, st_ls]
    refine call_of (by simp only [pureAll, pu_ls, pu_lsl, pu_oid, pu_id, pu_ln, pu_oln, pu_pl, pu_ed, pu_eds, pu_idst, pu_path, pu_oct, pu_mv, pu_mvs, pu_str, pu_int, pu_bl, pu_non, eOp_s, eOp_n, Bool.and_self]) ⟨ls, m.2.1, rfl, ?_⟩
    simp only [pSeq, pAsg, pVar, pC, pOp, pNil, pCons, pTup, pLst, pLstM, pNot, pAndV, pOrV, pIf, pB, pAnd, pOr, pNotT, pNoPart, pPart, pCB, pUnN, pSl, pNext, pBreak, pCont, pRet, pRetN, pDrop, pIfS, pgName, pgNil, pgCons, pgTup_t, pAug, pApp, pYes, isk_non, nsk_non, isN_non, isN_bl, isN_int, isN_str, isN_tup, isN_lst, isN_ref, isN_obj, pTru, pFld, pStar, pMake, pSetF, pIt, pRng1, pRng2, forG, List.map_cons, List.map_nil, List.getElem?_cons_zero, List.getElem?_cons_succ, List.set_cons_zero, List.set_cons_succ, Option.some.injEq, exists_eq_left, exists_eq_left', true_and, and_true, wipeE, D.bl.injEq, D.int.injEq, D.str.injEq, D.tup.injEq, D.lst.injEq, Bool.not_true, decide_eq_true_eq, if_true, if_false, reduceIte, Bool.false_eq_true, Option.isNone_none, Option.isNone_some, Bool.not_false, List.length_nil, List.length_cons, List.nil_append, List.cons_append, D.ref.injEq, SO.lst.injEq, pCall, exists_const, and_self, Nat.zero_add, Nat.zero_le, Nat.reduceLeDiff, Nat.reduceAdd, eq_self, o_add, o_sub, o_mul, o_div, o_mod, o_cmp, o_int, o_lenl, o_lent, o_lens, o_tupl, o_tupt, o_min, o_max, q_int, ixk_tup, ixk_lst, ixk_scr, at0, at1, at2, at3, at4, at5, List.length_map, ln0, ln1, ln2, ln3, ln4, lnS0, lnS2, lnS4, q_id, q_ido, q_oi, q_oid, q_path, q_ln, q_ls, n_id, n_path, n_ln, n_ls, non_oid, non_oln, non_oct, non_id, non_ln, non_ct, non_path, un_ln, un_pl, in_ids, ad_path, eOp_s, eOp_n, lstk_ls, st_ls]
    exact main (findLine ls m.2.1) (by unfold meantBy; rw [hh, Option.none_or])
  | some l =>
    simp only [pSeq, pAsg, pVar, pC, pOp, pNil, pCons, pTup, pLst, pLstM, pNot, pAndV, pOrV, pIf, pB, pAnd, pOr, pNotT, pNoPart, pPart, pCB, pUnN, pSl, pNext, pBreak, pCont, pRet, pRetN, pDrop, pIfS, pgName, pgNil, pgCons, pgTup_t, pAug, pApp, pYes, isk_non, nsk_non, isN_non, isN_bl, isN_int, isN_str, isN_tup, isN_lst, isN_ref, isN_obj, pTru, pFld, pStar, pMake, pSetF, pIt, pRng1, pRng2, forG, List.map_cons, List.map_nil, List.getElem?_cons_zero, List.getElem?_cons_succ, List.set_cons_zero, List.set_cons_succ, Option.some.injEq, exists_eq_left, exists_eq_left', true_and, and_true, wipeE, D.bl.injEq, D.int.injEq, D.str.injEq, D.tup.injEq, D.lst.injEq, Bool.not_true, decide_eq_true_eq, if_true, if_false, reduceIte, Bool.false_eq_true, Option.isNone_none, Option.isNone_some, Bool.not_false, List.length_nil, List.length_cons, List.nil_append, List.cons_append, D.ref.injEq, SO.lst.injEq, pCall, exists_const, and_self, Nat.zero_add, Nat.zero_le, Nat.reduceLeDiff, Nat.reduceAdd, eq_self, o_add, o_sub, o_mul, o_div, o_mod, o_cmp, o_int, o_lenl, o_lent, o_lens, o_tupl, o_tupt, o_min, o_max, q_int, ixk_tup, ixk_lst, ixk_scr, at0, at1, at2, at3, at4, at5, List.length_map, ln0, ln1, ln2, ln3, ln4, lnS0, lnS2, lnS4, q_id, q_ido, q_oi, q_oid, q_path, q_ln, q_ls, n_id, n_path, n_ln, n_ls, non_oid, non_oln, non_oct, non_id, non_ln, non_ct, non_path, un_ln, un_pl, in_ids, ad_path, eOp_s, eOp_n, lstk_ls, st_ls]
    exact main (some l) (by unfold meantBy; rw [hh, Option.some_or])
theorem ok_move_line {P : Program} {w : World} {K : PySem.W.Frag} {cl : Cl} {mg : Str → Option Value} {base : Heap} (D : Df K mg "move_line" s_move_line ["lines", "head", "line_id", "place"]) (T : Txt K cl mg) (hw : cl.w = w) (G_find_line : C8.Cal P w K mg base 1 "find_line" (spP K cl F_find_line) []) (G_find_head : C8.Cal P w K mg base 1 "find_head" (spP K cl F_find_head) []) (G_settle : C8.Cal P w K mg base 2 "settle" (spP K cl F_settle) []) (G_stands_in : C8.Cal P w K mg base 2 "stands_in" (spP K cl F_stands_in) []) : C8.Cal P w K mg base 3 "move_line" (spP K cl F_move_line) [] := by
  subst hw
  refine D.cal sc_move_line (spP_len (n := 4) len_move_line) (fun f cdv A outer s H vs Q E hr h => ?_)
  refine ⟨_,
    (pss_cons (ps_set (i := 4) sc_move_line.nd rfl (.inr rfl) (C8.pe_c G_find_head hr (by decide) (by rfl) (pa_cons (pv 0) (pa_cons (pv 1) pa_nil))))
    (pss_cons (ps_if (pt_cmpR op_isN (pv 4) pe_non (nomark _))
      (pss_one (ps_set (i := 4) sc_move_line.nd rfl (.inr rfl) (C8.pe_c G_find_line hr (by decide) (by rfl) (pa_cons (pv 0) (pa_cons (pv 2) pa_nil)))))
      pss_nil)
    (pss_cons (ps_if (pt_cmpR op_isN (pv 4) pe_non (nomark _))
      (pss_one (ps_ret (pe_callTy (show CallR _ (.type "list") (uLst K) from call_list_of) (by rfl) T.n_list (by decide +kernel) (pa_cons (pv 0) pa_nil))))
      pss_nil)
    (pss_cons (ps_asg (C8.pe_c G_settle hr (by decide) (by rfl) (pa_cons (pv 0) (pa_cons (pv 3) pa_nil))) (pg_tup rfl (pgs_cons (pg_name (i := 5) sc_move_line.nd rfl (Or.inl rfl)) (pgs_cons (pg_name (i := 6) sc_move_line.nd rfl (Or.inl rfl)) pgs_nil))))
    (pss_cons (ps_if (pt_val (C8.pe_c G_stands_in hr (by decide) (by rfl) (pa_cons (pv 0) (pa_cons (pv 5) (pa_cons (pe_ix (show IxR _ (uIx K) from uix) (pv 4) pe_int (fun _ _ => rfl)) pa_nil)))))
      (pss_one (ps_ret (pe_callTy (show CallR _ (.type "list") (uLst K) from call_list_of) (by rfl) T.n_list (by decide +kernel) (pa_cons (pv 0) pa_nil))))
      pss_nil)
    (pss_cons (ps_set (i := 7) sc_move_line.nd rfl (.inr rfl) (pe_tup (pa_cons (pe_ix (show IxR _ (uIx K) from uix) (pv 4) pe_int (fun _ _ => rfl)) (pa_cons (pe_ix (show IxR _ (uIx K) from uix) (pv 4) pe_int (fun _ _ => rfl)) (pa_cons (pv 5) (pa_cons (pv 6) (pa_cons (pe_ix (show IxR _ (uIx K) from uix) (pv 4) pe_int (fun _ _ => rfl)) pa_nil)))))))
    (pss_one (ps_ret (pe_lc (own := [("known", 8)]) (g := gName 8) (tt := tYes) rfl sc_move_line.nd (show PI _ _ _ (uIt K _) from upi (pv 0)) (blkOk_by (own := [("known", 8)]) (N := ["lines", "head", "line_id", "place", "line", "inside", "below", "moved", "known"]) (sc := defScope s_move_line) (by decide +kernel)) (fun _ _ _ _ _ => (pg_name (i := 8) sc_move_line.nd rfl (Or.inl rfl))) (fun _ _ _ _ _ => pts_nil) (fun _ _ _ _ _ => (pe_ifExp (pt_cmpR (show OpR _ _ (rEqP K) from op_eqP hr.units) (pe_ix (show IxR _ (uIx K) from uix) (pv 8) pe_int (fun _ _ => rfl)) (pe_ix (show IxR _ (uIx K) from uix) (pv 4) pe_int (fun _ _ => rfl)) (nomark _)) (pv 7) (pv 8)))))))))))), ?_⟩
  exact fn_ok (N := ["lines", "head", "line_id", "place", "line", "inside", "below", "moved", "known"]) (show SmS K cl _ ps_move_line from
    (sm_seq (sm_asg (sm_call (sm_cons sm_var (sm_cons sm_var sm_nil))) sm_gname)
    (sm_seq (sm_ifS (sm_test (sm_op smr_is sm_var sm_non))
      ((sm_asg (sm_call (sm_cons sm_var (sm_cons sm_var sm_nil))) sm_gname))
      sm_next)
    (sm_seq (sm_ifS (sm_test (sm_op smr_is sm_var sm_non))
      ((sm_ret (sm_cb smc_lst (sm_cons sm_var sm_nil))))
      sm_next)
    (sm_seq (sm_asg (sm_call (sm_cons sm_var (sm_cons sm_var sm_nil))) (sm_gtup (sm_gcons sm_gname (sm_gcons sm_gname sm_gnil))))
    (sm_seq (sm_ifS (sm_B (sm_call (sm_cons sm_var (sm_cons sm_var (sm_cons (sm_op smr_ix sm_var sm_int) sm_nil)))))
      ((sm_ret (sm_cb smc_lst (sm_cons sm_var sm_nil))))
      sm_next)
    (sm_seq (sm_asg (sm_tup (sm_cons (sm_op smr_ix sm_var sm_int) (sm_cons (sm_op smr_ix sm_var sm_int) (sm_cons sm_var (sm_cons sm_var (sm_cons (sm_op smr_ix sm_var sm_int) sm_nil)))))) sm_gname)
    ((sm_ret (sm_lc (sm_it sm_var) (gok_name (by decide)) sm_gname sm_yes (sm_if (sm_test (sm_op smr_eq (sm_op smr_ix sm_var sm_int) (sm_op smr_ix sm_var sm_int))) sm_var sm_var))))))))))) body_move_line h
/-! ### without_line -/
def pl_without_line_1 : PSx :=
      (pSeq (pAsg (pVar 3) (pgTup 5 (pgCons (pgName 4) (pgCons (pgName 5) (pgCons (pgName 6) (pgCons (pgName 7) (pgCons (pgName 8) pgNil)))))))
      ((pIfS (pB (pOp eqk (pVar 6) (pOp ixk (pVar 1) (pC (.int 0)))))
        ((pApp (pVar 2) (pTup (pCons (pVar 4) (pCons (pVar 5) (pCons (pOp ixk (pVar 1) (pC (.int 2))) (pCons (pOp addk (pOp ixk (pVar 1) (pC (.int 3))) (pVar 7)) (pCons (pVar 8) pNil))))))))
        ((pIfS (pB (pOp nek (pVar 4) (pOp ixk (pVar 1) (pC (.int 0)))))
          ((pApp (pVar 2) (pVar 3)))
          pNext)))))
theorem pl_without_line_1_d (P : PEnds) (env : Pw.Env) (S : Sto) : pl_without_line_1 P env S = (
      (pSeq (pAsg (pVar 3) (pgTup 5 (pgCons (pgName 4) (pgCons (pgName 5) (pgCons (pgName 6) (pgCons (pgName 7) (pgCons (pgName 8) pgNil)))))))
      ((pIfS (pB (pOp eqk (pVar 6) (pOp ixk (pVar 1) (pC (.int 0)))))
        ((pApp (pVar 2) (pTup (pCons (pVar 4) (pCons (pVar 5) (pCons (pOp ixk (pVar 1) (pC (.int 2))) (pCons (pOp addk (pOp ixk (pVar 1) (pC (.int 3))) (pVar 7)) (pCons (pVar 8) pNil))))))))
        ((pIfS (pB (pOp nek (pVar 4) (pOp ixk (pVar 1) (pC (.int 0)))))
          ((pApp (pVar 2) (pVar 3)))
          pNext)))))) P env S := rfl
def ps_without_line : PSx :=
    (pSeq (pAsg (pLstM pNil) (pgName 2))
    (pSeq (pFor (pIt (pVar 0)) (pgName 3) pl_without_line_1)
    ((pRet (pVar 2)))))
theorem start_without_line : ∀ a0 a1 : D, startE 9 [a0, a1] = [some a0, some a1, none, none, none, none, none, none, none] := fun _ _ => rfl
theorem loop_without_line (e : Line) (l0 : D) (P : PEnds) (he : e.path.length ≤ 10000) : ∀ (ls acc : List Line) (x1 x2 x3 x4 x5 x6 : Option D), (∀ l ∈ ls, l.path.length ≤ 10000) → acc.length + ls.length ≤ 1000 →
    (∀ x1 x2 x3 x4 x5 x6, P.nx [some l0, some (eLn e), some (.ref 0), x1, x2, x3, x4, x5, x6] [.lst ((acc ++ woLine ls e).map eLn)]) → forG (pgName 3) pl_without_line_1 P (ls.map eLn) [some l0, some (eLn e), some (.ref 0), x1, x2, x3, x4, x5, x6] [.lst (acc.map eLn)] := by
  intro ls
  induction ls with
  | nil =>
    intro acc x1 x2 x3 x4 x5 x6 _ _ h
    have := h x1 x2 x3 x4 x5 x6
    rw [show woLine [] e = [] from rfl, List.append_nil] at this
    exact this
  | cons a ls ih =>
    intro acc x1 x2 x3 x4 x5 x6 hp hl h
    have hw : woLine (a :: ls) e = woLine [a] e ++ woLine ls e := by
      unfold woLine
      rw [← List.flatMap_append]
      rfl
    have h1 : woLine [a] e = if a.ins = some e.id then [{ a with ins := e.ins, path := e.path ++ a.path }] else if a.id ≠ e.id then [a] else [] := by
      unfold woLine
      rw [List.flatMap_cons, List.flatMap_nil, List.append_nil]
    rw [hw, h1] at h
    have ha := hp a List.mem_cons_self
    have hp' := fun l hl => hp l (List.mem_cons_of_mem _ hl)
    rw [List.length_cons] at hl
    have lacc : acc.length < 90000 := by omega
    unfold pl_without_line_1
    simp only [pSeq, pAsg, pVar, pC, pOp, pNil, pCons, pTup, pLst, pLstM, pNot, pAndV, pOrV, pIf, pB, pAnd, pOr, pNotT, pNoPart, pPart, pCB, pUnN, pSl, pNext, pBreak, pCont, pRet, pRetN, pDrop, pIfS, pgName, pgNil, pgCons, pgTup_t, pAug, pApp, pYes, isk_non, nsk_non, isN_non, isN_bl, isN_int, isN_str, isN_tup, isN_lst, isN_ref, isN_obj, pTru, pFld, pStar, pMake, pSetF, pIt, pRng1, pRng2, forG, List.map_cons, List.map_nil, List.getElem?_cons_zero, List.getElem?_cons_succ, List.set_cons_zero, List.set_cons_succ, Option.some.injEq, exists_eq_left, exists_eq_left', true_and, and_true, wipeE, D.bl.injEq, D.int.injEq, D.str.injEq, D.tup.injEq, D.lst.injEq, Bool.not_true, decide_eq_true_eq, if_true, if_false, reduceIte, Bool.false_eq_true, Option.isNone_none, Option.isNone_some, Bool.not_false, List.length_nil, List.length_cons, List.nil_append, List.cons_append, D.ref.injEq, SO.lst.injEq, pCall, exists_const, and_self, Nat.zero_add, Nat.zero_le, Nat.reduceLeDiff, Nat.reduceAdd, eq_self, o_add, o_sub, o_mul, o_div, o_mod, o_cmp, o_int, o_lenl, o_lent, o_lens, o_tupl, o_tupt, o_min, o_max, q_int, ixk_tup, ixk_lst, ixk_scr, at0, at1, at2, at3, at4, at5, List.length_map, ln0, ln1, ln2, ln3, ln4, lnS0, lnS2, lnS4, q_id, q_ido, q_oi, q_oid, q_path, q_ln, q_ls, n_id, n_path, n_ln, n_ls, non_oid, non_oln, non_oct, non_id, non_ln, non_ct, non_path, un_ln, un_pl, in_ids, ad_path, eOp_s, eOp_n, lstk_ls, st_ls]
    by_cases c1 : a.ins = some e.id
    · rw [if_pos c1] at h ⊢
      refine ⟨by omega, lacc, ?_⟩
      have := ih (acc ++ [{ a with ins := e.ins, path := e.path ++ a.path }]) (some (eLn a)) (some (eId a.id)) (some (eId a.hd)) (some (eOp eId a.ins)) (some (ePath a.path)) (some (eOp eCt a.ct)) hp' (by rw [List.length_append, List.length_singleton]; omega) (by rw [List.append_assoc]; exact h)
      rw [List.map_append] at this
      exact this
    · rw [if_neg c1] at h ⊢
      by_cases c2 : a.id = e.id
      · rw [if_neg (fun z => z c2)] at h
        rw [decide_eq_true c2]
        simp only [pSeq, pAsg, pVar, pC, pOp, pNil, pCons, pTup, pLst, pLstM, pNot, pAndV, pOrV, pIf, pB, pAnd, pOr, pNotT, pNoPart, pPart, pCB, pUnN, pSl, pNext, pBreak, pCont, pRet, pRetN, pDrop, pIfS, pgName, pgNil, pgCons, pgTup_t, pAug, pApp, pYes, isk_non, nsk_non, isN_non, isN_bl, isN_int, isN_str, isN_tup, isN_lst, isN_ref, isN_obj, pTru, pFld, pStar, pMake, pSetF, pIt, pRng1, pRng2, forG, List.map_cons, List.map_nil, List.getElem?_cons_zero, List.getElem?_cons_succ, List.set_cons_zero, List.set_cons_succ, Option.some.injEq, exists_eq_left, exists_eq_left', true_and, and_true, wipeE, D.bl.injEq, D.int.injEq, D.str.injEq, D.tup.injEq, D.lst.injEq, Bool.not_true, decide_eq_true_eq, if_true, if_false, reduceIte, Bool.false_eq_true, Option.isNone_none, Option.isNone_some, Bool.not_false, List.length_nil, List.length_cons, List.nil_append, List.cons_append, D.ref.injEq, SO.lst.injEq, pCall, exists_const, and_self, Nat.zero_add, Nat.zero_le, Nat.reduceLeDiff, Nat.reduceAdd, eq_self, o_add, o_sub, o_mul, o_div, o_mod, o_cmp, o_int, o_lenl, o_lent, o_lens, o_tupl, o_tupt, o_min, o_max, q_int, ixk_tup, ixk_lst, ixk_scr, at0, at1, at2, at3, at4, at5, List.length_map, ln0, ln1, ln2, ln3, ln4, lnS0, lnS2, lnS4, q_id, q_ido, q_oi, q_oid, q_path, q_ln, q_ls, n_id, n_path, n_ln, n_ls, non_oid, non_oln, non_oct, non_id, non_ln, non_ct, non_path, un_ln, un_pl, in_ids, ad_path, eOp_s, eOp_n, lstk_ls, st_ls]
        exact ih acc _ _ _ _ _ _ hp' (by omega) h
      · rw [if_pos c2] at h
        rw [decide_eq_false c2]
        simp only [pSeq, pAsg, pVar, pC, pOp, pNil, pCons, pTup, pLst, pLstM, pNot, pAndV, pOrV, pIf, pB, pAnd, pOr, pNotT, pNoPart, pPart, pCB, pUnN, pSl, pNext, pBreak, pCont, pRet, pRetN, pDrop, pIfS, pgName, pgNil, pgCons, pgTup_t, pAug, pApp, pYes, isk_non, nsk_non, isN_non, isN_bl, isN_int, isN_str, isN_tup, isN_lst, isN_ref, isN_obj, pTru, pFld, pStar, pMake, pSetF, pIt, pRng1, pRng2, forG, List.map_cons, List.map_nil, List.getElem?_cons_zero, List.getElem?_cons_succ, List.set_cons_zero, List.set_cons_succ, Option.some.injEq, exists_eq_left, exists_eq_left', true_and, and_true, wipeE, D.bl.injEq, D.int.injEq, D.str.injEq, D.tup.injEq, D.lst.injEq, Bool.not_true, decide_eq_true_eq, if_true, if_false, reduceIte, Bool.false_eq_true, Option.isNone_none, Option.isNone_some, Bool.not_false, List.length_nil, List.length_cons, List.nil_append, List.cons_append, D.ref.injEq, SO.lst.injEq, pCall, exists_const, and_self, Nat.zero_add, Nat.zero_le, Nat.reduceLeDiff, Nat.reduceAdd, eq_self, o_add, o_sub, o_mul, o_div, o_mod, o_cmp, o_int, o_lenl, o_lent, o_lens, o_tupl, o_tupt, o_min, o_max, q_int, ixk_tup, ixk_lst, ixk_scr, at0, at1, at2, at3, at4, at5, List.length_map, ln0, ln1, ln2, ln3, ln4, lnS0, lnS2, lnS4, q_id, q_ido, q_oi, q_oid, q_path, q_ln, q_ls, n_id, n_path, n_ln, n_ls, non_oid, non_oln, non_oct, non_id, non_ln, non_ct, non_path, un_ln, un_pl, in_ids, ad_path, eOp_s, eOp_n, lstk_ls, st_ls]
        refine ⟨lacc, ?_⟩
        have := ih (acc ++ [a]) (some (eLn a)) (some (eId a.id)) (some (eId a.hd)) (some (eOp eId a.ins)) (some (ePath a.path)) (some (eOp eCt a.ct)) hp' (by rw [List.length_append, List.length_singleton]; omega) (by rw [List.append_assoc]; exact h)
        rw [List.map_append] at this
        exact this
def F_without_line : PFn := fun ds k => ∃ ls e, ds = [eLs ls, eLn e] ∧ Short ls ∧ e.path.length ≤ 10000 ∧ k (eLs (woLine ls e))
theorem len_without_line : ∀ ds k, F_without_line ds k → ds.length = 2 := by
  rintro _ _ ⟨_, _, rfl, _⟩
  rfl
theorem body_without_line : ∀ ds k, F_without_line ds k → ps_without_line { nx := fun _ _ => k .non, rt := fun d S => (d.frz S).noRef = true ∧ k (d.frz S) } (startE 9 ds) [] := by
  rintro _ k ⟨ls, e, rfl, hs, he, hk⟩
  rw [start_without_line]
  unfold ps_without_line
  simp only [pSeq, pAsg, pVar, pC, pOp, pNil, pCons, pTup, pLst, pLstM, pNot, pAndV, pOrV, pIf, pB, pAnd, pOr, pNotT, pNoPart, pPart, pCB, pUnN, pSl, pNext, pBreak, pCont, pRet, pRetN, pDrop, pIfS, pgName, pgNil, pgCons, pgTup_t, pAug, pApp, pYes, isk_non, nsk_non, isN_non, isN_bl, isN_int, isN_str, isN_tup, isN_lst, isN_ref, isN_obj, pTru, pFld, pStar, pMake, pSetF, pIt, pRng1, pRng2, forG, List.map_cons, List.map_nil, List.getElem?_cons_zero, List.getElem?_cons_succ, List.set_cons_zero, List.set_cons_succ, Option.some.injEq, exists_eq_left, exists_eq_left', true_and, and_true, wipeE, D.bl.injEq, D.int.injEq, D.str.injEq, D.tup.injEq, D.lst.injEq, Bool.not_true, decide_eq_true_eq, if_true, if_false, reduceIte, Bool.false_eq_true, Option.isNone_none, Option.isNone_some, Bool.not_false, List.length_nil, List.length_cons, List.nil_append, List.cons_append, D.ref.injEq, SO.lst.injEq, pCall, exists_const, and_self, Nat.zero_add, Nat.zero_le, Nat.reduceLeDiff, Nat.reduceAdd, eq_self, o_add, o_sub, o_mul, o_div, o_mod, o_cmp, o_int, o_lenl, o_lent, o_lens, o_tupl, o_tupt, o_min, o_max, q_int, ixk_tup, ixk_lst, ixk_scr, at0, at1, at2, at3, at4, at5, List.length_map, ln0, ln1, ln2, ln3, ln4, lnS0, lnS2, lnS4, q_id, q_ido, q_oi, q_oid, q_path, q_ln, q_ls, n_id, n_path, n_ln, n_ls, non_oid, non_oln, non_oct, non_id, non_ln, non_ct, non_path, un_ln, un_pl, in_ids, ad_path, eOp_s, eOp_n, lstk_ls, st_ls]
  refine for_go (src := eLs ls) (ds := ls.map eLn) (fun kk h => ⟨_, rfl, _, rfl, h⟩) (fun _ => rfl) ?_
  refine loop_without_line e (eLs ls) _ he ls [] _ _ _ _ _ _ hs.2 (by rw [List.length_nil]; have := hs.1; omega) (fun x1 x2 x3 x4 x5 x6 => ?_)
  simp only [pSeq, pAsg, pVar, pC, pOp, pNil, pCons, pTup, pLst, pLstM, pNot, pAndV, pOrV, pIf, pB, pAnd, pOr, pNotT, pNoPart, pPart, pCB, pUnN, pSl, pNext, pBreak, pCont, pRet, pRetN, pDrop, pIfS, pgName, pgNil, pgCons, pgTup_t, pAug, pApp, pYes, isk_non, nsk_non, isN_non, isN_bl, isN_int, isN_str, isN_tup, isN_lst, isN_ref, isN_obj, pTru, pFld, pStar, pMake, pSetF, pIt, pRng1, pRng2, forG, List.map_cons, List.map_nil, List.getElem?_cons_zero, List.getElem?_cons_succ, List.set_cons_zero, List.set_cons_succ, Option.some.injEq, exists_eq_left, exists_eq_left', true_and, and_true, wipeE, D.bl.injEq, D.int.injEq, D.str.injEq, D.tup.injEq, D.lst.injEq, Bool.not_true, decide_eq_true_eq, if_true, if_false, reduceIte, Bool.false_eq_true, Option.isNone_none, Option.isNone_some, Bool.not_false, List.length_nil, List.length_cons, List.nil_append, List.cons_append, D.ref.injEq, SO.lst.injEq, pCall, exists_const, and_self, Nat.zero_add, Nat.zero_le, Nat.reduceLeDiff, Nat.reduceAdd, eq_self, o_add, o_sub, o_mul, o_div, o_mod, o_cmp, o_int, o_lenl, o_lent, o_lens, o_tupl, o_tupt, o_min, o_max, q_int, ixk_tup, ixk_lst, ixk_scr, at0, at1, at2, at3, at4, at5, List.length_map, ln0, ln1, ln2, ln3, ln4, lnS0, lnS2, lnS4, q_id, q_ido, q_oi, q_oid, q_path, q_ln, q_ls, n_id, n_path, n_ln, n_ls, non_oid, non_oln, non_oct, non_id, non_ln, non_ct, non_path, un_ln, un_pl, in_ids, ad_path, eOp_s, eOp_n, lstk_ls, st_ls]
  exact ⟨pure_noRef _ (pu_ls (woLine ls e)), hk⟩
theorem ok_without_line {P : Program} {w : World} {K : PySem.W.Frag} {cl : Cl} {mg : Str → Option Value} {base : Heap} (D : Df K mg "without_line" s_without_line ["lines", "ended"]) (T : Txt K cl mg) (hw : cl.w = w)  : C8.Cal P w K mg base 1 "without_line" (spP K cl F_without_line) [] := by
  subst hw
  refine D.cal sc_without_line (spP_len (n := 2) len_without_line) (fun f cdv A outer s H vs Q E hr h => ?_)
  refine ⟨_,
    (pss_cons (ps_set (i := 2) sc_without_line.nd rfl (.inl rfl) (pe_lst pa_nil))
    (pss_cons (ps_for PassesOwn.never rfl (show PI _ _ _ (uIt K _) from upi (pv 0)) (pg_name (i := 3) sc_without_line.nd rfl (Or.inl rfl))
      (pss_cons (ps_asg (pv 3) (pg_tup rfl (pgs_cons (pg_name (i := 4) sc_without_line.nd rfl (Or.inl rfl)) (pgs_cons (pg_name (i := 5) sc_without_line.nd rfl (Or.inl rfl)) (pgs_cons (pg_name (i := 6) sc_without_line.nd rfl (Or.inl rfl)) (pgs_cons (pg_name (i := 7) sc_without_line.nd rfl (Or.inl rfl)) (pgs_cons (pg_name (i := 8) sc_without_line.nd rfl (Or.inl rfl)) pgs_nil)))))))
      (pss_one (ps_if (pt_cmpR (show OpR _ _ (rEqP K) from op_eqP hr.units) (pv 6) (pe_ix (show IxR _ (uIx K) from uix) (pv 1) pe_int (fun _ _ => rfl)) (nomark _))
        (pss_one (ps_expr (pe_bm PySem.F.plainAttrs_list PySem.F.slot_list_append PySem.F.type_list_append mt_append (pv 2) (pa_cons (pe_tup (pa_cons (pv 4) (pa_cons (pv 5) (pa_cons (pe_ix (show IxR _ (uIx K) from uix) (pv 1) pe_int (fun _ _ => rfl)) (pa_cons (pe_op (show OpR _ _ (uAdd K) from uop_add) (pe_ix (show IxR _ (uIx K) from uix) (pv 1) pe_int (fun _ _ => rfl)) (pv 7)) (pa_cons (pv 8) pa_nil)))))) pa_nil))))
        (pss_one (ps_if (pt_cmpR (show OpR _ _ (rNeP K) from op_neP hr.units) (pv 4) (pe_ix (show IxR _ (uIx K) from uix) (pv 1) pe_int (fun _ _ => rfl)) (nomark _))
          (pss_one (ps_expr (pe_bm PySem.F.plainAttrs_list PySem.F.slot_list_append PySem.F.type_list_append mt_append (pv 2) (pa_cons (pv 3) pa_nil))))
          pss_nil))))))
    (pss_one (ps_ret (pv 2))))), ?_⟩
  exact fn_ok (N := ["lines", "ended", "left", "known", "line_id", "head", "inside", "below", "content"]) (show SmS K cl _ ps_without_line from
    (sm_seq (sm_asg (sm_lstM sm_nil) sm_gname)
    (sm_seq (sm_for (sm_it sm_var) sm_gname
      (sm_seq (sm_asg sm_var (sm_gtup (sm_gcons sm_gname (sm_gcons sm_gname (sm_gcons sm_gname (sm_gcons sm_gname (sm_gcons sm_gname sm_gnil)))))))
      ((sm_ifS (sm_test (sm_op smr_eq sm_var (sm_op smr_ix sm_var sm_int)))
        ((sm_app sm_var (sm_tup (sm_cons sm_var (sm_cons sm_var (sm_cons (sm_op smr_ix sm_var sm_int) (sm_cons (sm_op smr_add (sm_op smr_ix sm_var sm_int) sm_var) (sm_cons sm_var sm_nil))))))))
        ((sm_ifS (sm_test (sm_op smr_ne sm_var (sm_op smr_ix sm_var sm_int)))
          ((sm_app sm_var sm_var))
          sm_next))))))
    ((sm_ret sm_var))))) body_without_line h
/-! ### without_heads -/
def pl_without_heads_1 : PSx :=
      (pSeq (pAsg (pCall F_find_head (pCons (pVar 0) (pCons (pVar 2) pNil))) (pgName 3))
      ((pIfS (pB (pOp nsk (pVar 3) (pC .non)))
        ((pAsg (pCall F_without_line (pCons (pVar 0) (pCons (pVar 3) pNil))) (pgName 0)))
        pNext)))
theorem pl_without_heads_1_d (P : PEnds) (env : Pw.Env) (S : Sto) : pl_without_heads_1 P env S = (
      (pSeq (pAsg (pCall F_find_head (pCons (pVar 0) (pCons (pVar 2) pNil))) (pgName 3))
      ((pIfS (pB (pOp nsk (pVar 3) (pC .non)))
        ((pAsg (pCall F_without_line (pCons (pVar 0) (pCons (pVar 3) pNil))) (pgName 0)))
        pNext)))) P env S := rfl
def ps_without_heads : PSx :=
    (pSeq (pFor (pIt (pVar 1)) (pgName 2) pl_without_heads_1)
    ((pRet (pVar 0))))
theorem start_without_heads : ∀ a0 a1 : D, startE 4 [a0, a1] = [some a0, some a1, none, none] := fun _ _ => rfl
theorem loop_without_heads (d1 : D) (P : PEnds) : ∀ (hs : List Ln.Id) (ls : List Line) (x1 x2 : Option D), (∀ i, Short (woHeads ls (hs.take i))) →
    (∀ x1 x2, P.nx [some (eLs (woHeads ls hs)), some d1, x1, x2] []) → forG (pgName 2) pl_without_heads_1 P (hs.map eId) [some (eLs ls), some d1, x1, x2] [] := by
  intro hs
  induction hs with
  | nil => exact fun ls x1 x2 _ h => h x1 x2
  | cons a hs ih =>
    intro ls x1 x2 hsh h
    have h1 : woHeads ls (a :: hs) = woHeads (woHead ls a) hs := rfl
    have hsh' : ∀ i, Short (woHeads (woHead ls a) (hs.take i)) := fun i => hsh (i + 1)
    have h0 := hsh 0
    unfold pl_without_heads_1
    simp only [pSeq, pAsg, pVar, pC, pOp, pNil, pCons, pTup, pLst, pLstM, pNot, pAndV, pOrV, pIf, pB, pAnd, pOr, pNotT, pNoPart, pPart, pCB, pUnN, pSl, pNext, pBreak, pCont, pRet, pRetN, pDrop, pIfS, pgName, pgNil, pgCons, pgTup_t, pAug, pApp, pYes, isk_non, nsk_non, isN_non, isN_bl, isN_int, isN_str, isN_tup, isN_lst, isN_ref, isN_obj, pTru, pFld, pStar, pMake, pSetF, pIt, pRng1, pRng2, forG, List.map_cons, List.map_nil, List.getElem?_cons_zero, List.getElem?_cons_succ, List.set_cons_zero, List.set_cons_succ, Option.some.injEq, exists_eq_left, exists_eq_left', true_and, and_true, wipeE, D.bl.injEq, D.int.injEq, D.str.injEq, D.tup.injEq, D.lst.injEq, Bool.not_true, decide_eq_true_eq, if_true, if_false, reduceIte, Bool.false_eq_true, Option.isNone_none, Option.isNone_some, Bool.not_false, List.length_nil, List.length_cons, List.nil_append, List.cons_append, D.ref.injEq, SO.lst.injEq, pCall, exists_const, and_self, Nat.zero_add, Nat.zero_le, Nat.reduceLeDiff, Nat.reduceAdd, eq_self, o_add, o_sub, o_mul, o_div, o_mod, o_cmp, o_int, o_lenl, o_lent, o_lens, o_tupl, o_tupt, o_min, o_max, q_int, ixk_tup, ixk_lst, ixk_scr, at0, at1, at2, at3, at4, at5, List.length_map, ln0, ln1, ln2, ln3, ln4, lnS0, lnS2, lnS4, q_id, q_ido, q_oi, q_oid, q_path, q_ln, q_ls, n_id, n_path, n_ln, n_ls, non_oid, non_oln, non_oct, non_id, non_ln, non_ct, non_path, un_ln, un_pl, in_ids, ad_path, eOp_s, eOp_n, lstk_ls, st_ls]
    refine call_of (by simp only [pureAll, pu_ls, pu_lsl, pu_oid, pu_id, pu_ln, pu_oln, pu_pl, pu_ed, pu_eds, pu_idst, pu_path, pu_oct, pu_mv, pu_mvs, pu_str, pu_int, pu_bl, pu_non, eOp_s, eOp_n, Bool.and_self]) ⟨ls, some a, rfl, ?_⟩
    rw [h1] at h
    cases hf : findHead ls (some a) with
    | none =>
      have e : woHead ls a = ls := by
        unfold woHead
        rw [hf]
      rw [e] at h hsh'
      simp only [pSeq, pAsg, pVar, pC, pOp, pNil, pCons, pTup, pLst, pLstM, pNot, pAndV, pOrV, pIf, pB, pAnd, pOr, pNotT, pNoPart, pPart, pCB, pUnN, pSl, pNext, pBreak, pCont, pRet, pRetN, pDrop, pIfS, pgName, pgNil, pgCons, pgTup_t, pAug, pApp, pYes, isk_non, nsk_non, isN_non, isN_bl, isN_int, isN_str, isN_tup, isN_lst, isN_ref, isN_obj, pTru, pFld, pStar, pMake, pSetF, pIt, pRng1, pRng2, forG, List.map_cons, List.map_nil, List.getElem?_cons_zero, List.getElem?_cons_succ, List.set_cons_zero, List.set_cons_succ, Option.some.injEq, exists_eq_left, exists_eq_left', true_and, and_true, wipeE, D.bl.injEq, D.int.injEq, D.str.injEq, D.tup.injEq, D.lst.injEq, Bool.not_true, decide_eq_true_eq, if_true, if_false, reduceIte, Bool.false_eq_true, Option.isNone_none, Option.isNone_some, Bool.not_false, List.length_nil, List.length_cons, List.nil_append, List.cons_append, D.ref.injEq, SO.lst.injEq, pCall, exists_const, and_self, Nat.zero_add, Nat.zero_le, Nat.reduceLeDiff, Nat.reduceAdd, eq_self, o_add, o_sub, o_mul, o_div, o_mod, o_cmp, o_int, o_lenl, o_lent, o_lens, o_tupl, o_tupt, o_min, o_max, q_int, ixk_tup, ixk_lst, ixk_scr, at0, at1, at2, at3, at4, at5, List.length_map, ln0, ln1, ln2, ln3, ln4, lnS0, lnS2, lnS4, q_id, q_ido, q_oi, q_oid, q_path, q_ln, q_ls, n_id, n_path, n_ln, n_ls, non_oid, non_oln, non_oct, non_id, non_ln, non_ct, non_path, un_ln, un_pl, in_ids, ad_path, eOp_s, eOp_n, lstk_ls, st_ls]
      exact ih ls _ _ hsh' h
    | some e =>
      have e' : woHead ls a = woLine ls e := by
        unfold woHead
        rw [hf]
      rw [e'] at h hsh'
      simp only [pSeq, pAsg, pVar, pC, pOp, pNil, pCons, pTup, pLst, pLstM, pNot, pAndV, pOrV, pIf, pB, pAnd, pOr, pNotT, pNoPart, pPart, pCB, pUnN, pSl, pNext, pBreak, pCont, pRet, pRetN, pDrop, pIfS, pgName, pgNil, pgCons, pgTup_t, pAug, pApp, pYes, isk_non, nsk_non, isN_non, isN_bl, isN_int, isN_str, isN_tup, isN_lst, isN_ref, isN_obj, pTru, pFld, pStar, pMake, pSetF, pIt, pRng1, pRng2, forG, List.map_cons, List.map_nil, List.getElem?_cons_zero, List.getElem?_cons_succ, List.set_cons_zero, List.set_cons_succ, Option.some.injEq, exists_eq_left, exists_eq_left', true_and, and_true, wipeE, D.bl.injEq, D.int.injEq, D.str.injEq, D.tup.injEq, D.lst.injEq, Bool.not_true, decide_eq_true_eq, if_true, if_false, reduceIte, Bool.false_eq_true, Option.isNone_none, Option.isNone_some, Bool.not_false, List.length_nil, List.length_cons, List.nil_append, List.cons_append, D.ref.injEq, SO.lst.injEq, pCall, exists_const, and_self, Nat.zero_add, Nat.zero_le, Nat.reduceLeDiff, Nat.reduceAdd, eq_self, o_add, o_sub, o_mul, o_div, o_mod, o_cmp, o_int, o_lenl, o_lent, o_lens, o_tupl, o_tupt, o_min, o_max, q_int, ixk_tup, ixk_lst, ixk_scr, at0, at1, at2, at3, at4, at5, List.length_map, ln0, ln1, ln2, ln3, ln4, lnS0, lnS2, lnS4, q_id, q_ido, q_oi, q_oid, q_path, q_ln, q_ls, n_id, n_path, n_ln, n_ls, non_oid, non_oln, non_oct, non_id, non_ln, non_ct, non_path, un_ln, un_pl, in_ids, ad_path, eOp_s, eOp_n, lstk_ls, st_ls]
      exact call_of (by simp only [pureAll, pu_ls, pu_lsl, pu_oid, pu_id, pu_ln, pu_oln, pu_pl, pu_ed, pu_eds, pu_idst, pu_path, pu_oct, pu_mv, pu_mvs, pu_str, pu_int, pu_bl, pu_non, eOp_s, eOp_n, Bool.and_self]) ⟨ls, e, rfl, h0, h0.2 e (List.mem_of_find?_eq_some hf), ih _ _ _ hsh' h⟩
def F_without_heads : PFn := fun ds k => ∃ ls hs d1, ds = [eLs ls, d1] ∧ (d1 = .lst (hs.map eId) ∨ d1 = eIds hs) ∧ (∀ i, Short (woHeads ls (hs.take i))) ∧ k (eLs (woHeads ls hs))
theorem len_without_heads : ∀ ds k, F_without_heads ds k → ds.length = 2 := by
  rintro _ _ ⟨_, _, _, rfl, _⟩
  rfl
theorem body_without_heads : ∀ ds k, F_without_heads ds k → ps_without_heads { nx := fun _ _ => k .non, rt := fun d S => (d.frz S).noRef = true ∧ k (d.frz S) } (startE 4 ds) [] := by
  rintro _ k ⟨ls, hs, d1, rfl, hd, hsh, hk⟩
  rw [start_without_heads]
  unfold ps_without_heads
  refine for_go (src := d1) (ds := hs.map eId) (fun kk h => ⟨d1, rfl, _, ?_, h⟩) (fun S => ?_) (loop_without_heads d1 _ hs ls _ _ hsh fun x1 x2 => ?_)
  · rcases hd with rfl | rfl <;> rfl
  · rcases hd with rfl | rfl <;> rfl
  · simp only [pSeq, pAsg, pVar, pC, pOp, pNil, pCons, pTup, pLst, pLstM, pNot, pAndV, pOrV, pIf, pB, pAnd, pOr, pNotT, pNoPart, pPart, pCB, pUnN, pSl, pNext, pBreak, pCont, pRet, pRetN, pDrop, pIfS, pgName, pgNil, pgCons, pgTup_t, pAug, pApp, pYes, isk_non, nsk_non, isN_non, isN_bl, isN_int, isN_str, isN_tup, isN_lst, isN_ref, isN_obj, pTru, pFld, pStar, pMake, pSetF, pIt, pRng1, pRng2, forG, List.map_cons, List.map_nil, List.getElem?_cons_zero, List.getElem?_cons_succ, List.set_cons_zero, List.set_cons_succ, Option.some.injEq, exists_eq_left, exists_eq_left', true_and, and_true, wipeE, D.bl.injEq, D.int.injEq, D.str.injEq, D.tup.injEq, D.lst.injEq, Bool.not_true, decide_eq_true_eq, if_true, if_false, reduceIte, Bool.false_eq_true, Option.isNone_none, Option.isNone_some, Bool.not_false, List.length_nil, List.length_cons, List.nil_append, List.cons_append, D.ref.injEq, SO.lst.injEq, pCall, exists_const, and_self, Nat.zero_add, Nat.zero_le, Nat.reduceLeDiff, Nat.reduceAdd, eq_self, o_add, o_sub, o_mul, o_div, o_mod, o_cmp, o_int, o_lenl, o_lent, o_lens, o_tupl, o_tupt, o_min, o_max, q_int, ixk_tup, ixk_lst, ixk_scr, at0, at1, at2, at3, at4, at5, List.length_map, ln0, ln1, ln2, ln3, ln4, lnS0, lnS2, lnS4, q_id, q_ido, q_oi, q_oid, q_path, q_ln, q_ls, n_id, n_path, n_ln, n_ls, non_oid, non_oln, non_oct, non_id, non_ln, non_ct, non_path, un_ln, un_pl, in_ids, ad_path, eOp_s, eOp_n, lstk_ls, st_ls]
    exact rt_pure (pu_ls _) hk
theorem ok_without_heads {P : Program} {w : World} {K : PySem.W.Frag} {cl : Cl} {mg : Str → Option Value} {base : Heap} (D : Df K mg "without_heads" s_without_heads ["lines", "heads"]) (T : Txt K cl mg) (hw : cl.w = w) (G_find_head : C8.Cal P w K mg base 1 "find_head" (spP K cl F_find_head) []) (G_without_line : C8.Cal P w K mg base 1 "without_line" (spP K cl F_without_line) []) : C8.Cal P w K mg base 2 "without_heads" (spP K cl F_without_heads) [] := by
  subst hw
  refine D.cal sc_without_heads (spP_len (n := 2) len_without_heads) (fun f cdv A outer s H vs Q E hr h => ?_)
  refine ⟨_,
    (pss_cons (ps_for PassesOwn.never rfl (show PI _ _ _ (uIt K _) from upi (pv 1)) (pg_name (i := 2) sc_without_heads.nd rfl (Or.inl rfl))
      (pss_cons (ps_set (i := 3) sc_without_heads.nd rfl (.inl rfl) (C8.pe_c G_find_head hr (by decide) (by rfl) (pa_cons (pv 0) (pa_cons (pv 2) pa_nil))))
      (pss_one (ps_if (pt_cmpR op_notN (pv 3) pe_non (nomark _))
        (pss_one (ps_set (i := 0) sc_without_heads.nd rfl (.inl rfl) (C8.pe_c G_without_line hr (by decide) (by rfl) (pa_cons (pv 0) (pa_cons (pv 3) pa_nil)))))
        pss_nil))))
    (pss_one (ps_ret (pv 0)))), ?_⟩
  exact fn_ok (N := ["lines", "heads", "head", "ended"]) (show SmS K cl _ ps_without_heads from
    (sm_seq (sm_for (sm_it sm_var) sm_gname
      (sm_seq (sm_asg (sm_call (sm_cons sm_var (sm_cons sm_var sm_nil))) sm_gname)
      ((sm_ifS (sm_test (sm_op smr_ns sm_var sm_non))
        ((sm_asg (sm_call (sm_cons sm_var (sm_cons sm_var sm_nil))) sm_gname))
        sm_next))))
    ((sm_ret sm_var)))) body_without_heads h
/-! ### with_new_line -/
def pr_with_new_line_1 : PSx :=
    ((pRet (pLst (pStar (pVar 0) (pCons (pTup (pCons (pVar 3) (pCons (pVar 3) (pCons (pVar 8) (pCons (pVar 9) (pCons (pVar 5) pNil)))))) pNil)))))
theorem pr_with_new_line_1_d (P : PEnds) (env : Pw.Env) (S : Sto) : pr_with_new_line_1 P env S = (
    ((pRet (pLst (pStar (pVar 0) (pCons (pTup (pCons (pVar 3) (pCons (pVar 3) (pCons (pVar 8) (pCons (pVar 9) (pCons (pVar 5) pNil)))))) pNil)))))) P env S := rfl
def ps_with_new_line : PSx :=
    (pSeq (pAsg (pVar 1) (pgTup 6 (pgCons (pgName 2) (pgCons (pgName 3) (pgCons (pgName 4) (pgCons (pgName 5) (pgCons (pgName 6) (pgCons (pgName 2) pgNil))))))))
    (pSeq (pAsg (pCall F_find_line (pCons (pVar 0) (pCons (pVar 6) pNil))) (pgName 7))
    (pSeq (pIfS (pB (pOp isk (pVar 7) (pC .non)))
      ((pAsg (pCall F_settle (pCons (pVar 0) (pCons (pVar 4) pNil))) (pgTup 2 (pgCons (pgName 8) (pgCons (pgName 9) pgNil)))))
      ((pAsg (pVar 7) (pgTup 5 (pgCons (pgName 2) (pgCons (pgName 2) (pgCons (pgName 8) (pgCons (pgName 9) (pgCons (pgName 2) pgNil)))))))))
    pr_with_new_line_1)))
theorem start_with_new_line : ∀ a0 a1 : D, startE 10 [a0, a1] = [some a0, some a1, none, none, none, none, none, none, none, none] := fun _ _ => rfl
def F_with_new_line : PFn := fun ds k => ∃ ls id pl ct meant hs, ds = [eLs ls, eEd (.write id pl ct meant hs)] ∧ ls.length ≤ 1000 ∧ k (eLs (withNew ls id pl ct meant))
theorem len_with_new_line : ∀ ds k, F_with_new_line ds k → ds.length = 2 := by
  rintro _ _ ⟨_, _, _, _, _, _, rfl, _⟩
  rfl
theorem un_wr {id : Ln.Id} {pl : Ln.Place} {ct : Option Ct} {meant : Option Ln.Id} {hs : List Ln.Id} {env : Pw.Env} {S : Sto} {k : Pw.Env → Sto → Prop} {gs : PGsx} : pgTup 6 gs (eEd (.write id pl ct meant hs)) env S k = gs [.str (Str.ofString "write"), eId id, ePl pl, eOp eCt ct, eOp eId meant, eIds hs] env S k := by
  show (6 = 6 ∧ _) = _
  simp
theorem body_with_new_line : ∀ ds k, F_with_new_line ds k → ps_with_new_line { nx := fun _ _ => k .non, rt := fun d S => (d.frz S).noRef = true ∧ k (d.frz S) } (startE 10 ds) [] := by
  rintro _ k ⟨ls, id, pl, ct, meant, hs, rfl, hl, hk⟩
  rw [start_with_new_line]
  unfold ps_with_new_line
  simp only [pSeq, pAsg, pVar, pC, pOp, pNil, pCons, pTup, pLst, pLstM, pNot, pAndV, pOrV, pIf, pB, pAnd, pOr, pNotT, pNoPart, pPart, pCB, pUnN, pSl, pNext, pBreak, pCont, pRet, pRetN, pDrop, pIfS, pgName, pgNil, pgCons, pgTup_t, pAug, pApp, pYes, isk_non, nsk_non, isN_non, isN_bl, isN_int, isN_str, isN_tup, isN_lst, isN_ref, isN_obj, pTru, pFld, pStar, pMake, pSetF, pIt, pRng1, pRng2, forG, List.map_cons, List.map_nil, List.getElem?_cons_zero, List.getElem?_cons_succ, List.set_cons_zero, List.set_cons_succ, Option.some.injEq, exists_eq_left, exists_eq_left', true_and, and_true, wipeE, D.bl.injEq, D.int.injEq, D.str.injEq, D.tup.injEq, D.lst.injEq, Bool.not_true, decide_eq_true_eq, if_true, if_false, reduceIte, Bool.false_eq_true, Option.isNone_none, Option.isNone_some, Bool.not_false, List.length_nil, List.length_cons, List.nil_append, List.cons_append, D.ref.injEq, SO.lst.injEq, pCall, exists_const, and_self, Nat.zero_add, Nat.zero_le, Nat.reduceLeDiff, Nat.reduceAdd, eq_self, o_add, o_sub, o_mul, o_div, o_mod, o_cmp, o_int, o_lenl, o_lent, o_lens, o_tupl, o_tupt, o_min, o_max, q_int, ixk_tup, ixk_lst, ixk_scr, at0, at1, at2, at3, at4, at5, List.length_map, ln0, ln1, ln2, ln3, ln4, lnS0, lnS2, lnS4, q_id, q_ido, q_oi, q_oid, q_path, q_ln, q_ls, n_id, n_path, n_ln, n_ls, non_oid, non_oln, non_oct, non_id, non_ln, non_ct, non_path, un_ln, un_pl, in_ids, ad_path, eOp_s, eOp_n, lstk_ls, st_ls, un_wr]
  refine call_of (by simp only [pureAll, pu_ls, pu_lsl, pu_oid, pu_id, pu_ln, pu_oln, pu_pl, pu_ed, pu_eds, pu_idst, pu_path, pu_oct, pu_mv, pu_mvs, pu_str, pu_int, pu_bl, pu_non, eOp_s, eOp_n, Bool.and_self]) ⟨ls, meant, rfl, ?_⟩
  have fin : ∀ w, whereF ls pl meant = w → ls.length + 1 ≤ 100000 ∧ (D.frz [] (.lst (ls.map eLn ++ [.tup [eId id, eId id, eOp eId w.1, ePath w.2, eOp eCt ct]]))).noRef = true ∧ k (D.frz [] (.lst (ls.map eLn ++ [.tup [eId id, eId id, eOp eId w.1, ePath w.2, eOp eCt ct]]))) := by
    rintro w rfl
    have e : D.lst (ls.map eLn ++ [.tup [eId id, eId id, eOp eId (whereF ls pl meant).1, ePath (whereF ls pl meant).2, eOp eCt ct]]) = eLs (withNew ls id pl ct meant) := by
      unfold withNew eLs
      rw [List.map_append]
      rfl
    rw [e]
    exact ⟨by omega, rt_pure (pu_ls _) hk⟩
  cases hm : findLine ls meant with
  | none =>
    simp only [pSeq, pAsg, pVar, pC, pOp, pNil, pCons, pTup, pLst, pLstM, pNot, pAndV, pOrV, pIf, pB, pAnd, pOr, pNotT, pNoPart, pPart, pCB, pUnN, pSl, pNext, pBreak, pCont, pRet, pRetN, pDrop, pIfS, pgName, pgNil, pgCons, pgTup_t, pAug, pApp, pYes, isk_non, nsk_non, isN_non, isN_bl, isN_int, isN_str, isN_tup, isN_lst, isN_ref, isN_obj, pTru, pFld, pStar, pMake, pSetF, pIt, pRng1, pRng2, forG, List.map_cons, List.map_nil, List.getElem?_cons_zero, List.getElem?_cons_succ, List.set_cons_zero, List.set_cons_succ, Option.some.injEq, exists_eq_left, exists_eq_left', true_and, and_true, wipeE, D.bl.injEq, D.int.injEq, D.str.injEq, D.tup.injEq, D.lst.injEq, Bool.not_true, decide_eq_true_eq, if_true, if_false, reduceIte, Bool.false_eq_true, Option.isNone_none, Option.isNone_some, Bool.not_false, List.length_nil, List.length_cons, List.nil_append, List.cons_append, D.ref.injEq, SO.lst.injEq, pCall, exists_const, and_self, Nat.zero_add, Nat.zero_le, Nat.reduceLeDiff, Nat.reduceAdd, eq_self, o_add, o_sub, o_mul, o_div, o_mod, o_cmp, o_int, o_lenl, o_lent, o_lens, o_tupl, o_tupt, o_min, o_max, q_int, ixk_tup, ixk_lst, ixk_scr, at0, at1, at2, at3, at4, at5, List.length_map, ln0, ln1, ln2, ln3, ln4, lnS0, lnS2, lnS4, q_id, q_ido, q_oi, q_oid, q_path, q_ln, q_ls, n_id, n_path, n_ln, n_ls, non_oid, non_oln, non_oct, non_id, non_ln, non_ct, non_path, un_ln, un_pl, in_ids, ad_path, eOp_s, eOp_n, lstk_ls, st_ls]
    refine call_of (by simp only [pureAll, pu_ls, pu_lsl, pu_oid, pu_id, pu_ln, pu_oln, pu_pl, pu_ed, pu_eds, pu_idst, pu_path, pu_oct, pu_mv, pu_mvs, pu_str, pu_int, pu_bl, pu_non, eOp_s, eOp_n, Bool.and_self]) ⟨ls, pl, rfl, ?_⟩
    unfold eTwo
    simp only [pSeq, pAsg, pVar, pC, pOp, pNil, pCons, pTup, pLst, pLstM, pNot, pAndV, pOrV, pIf, pB, pAnd, pOr, pNotT, pNoPart, pPart, pCB, pUnN, pSl, pNext, pBreak, pCont, pRet, pRetN, pDrop, pIfS, pgName, pgNil, pgCons, pgTup_t, pAug, pApp, pYes, isk_non, nsk_non, isN_non, isN_bl, isN_int, isN_str, isN_tup, isN_lst, isN_ref, isN_obj, pTru, pFld, pStar, pMake, pSetF, pIt, pRng1, pRng2, forG, List.map_cons, List.map_nil, List.getElem?_cons_zero, List.getElem?_cons_succ, List.set_cons_zero, List.set_cons_succ, Option.some.injEq, exists_eq_left, exists_eq_left', true_and, and_true, wipeE, D.bl.injEq, D.int.injEq, D.str.injEq, D.tup.injEq, D.lst.injEq, Bool.not_true, decide_eq_true_eq, if_true, if_false, reduceIte, Bool.false_eq_true, Option.isNone_none, Option.isNone_some, Bool.not_false, List.length_nil, List.length_cons, List.nil_append, List.cons_append, D.ref.injEq, SO.lst.injEq, pCall, exists_const, and_self, Nat.zero_add, Nat.zero_le, Nat.reduceLeDiff, Nat.reduceAdd, eq_self, o_add, o_sub, o_mul, o_div, o_mod, o_cmp, o_int, o_lenl, o_lent, o_lens, o_tupl, o_tupt, o_min, o_max, q_int, ixk_tup, ixk_lst, ixk_scr, at0, at1, at2, at3, at4, at5, List.length_map, ln0, ln1, ln2, ln3, ln4, lnS0, lnS2, lnS4, q_id, q_ido, q_oi, q_oid, q_path, q_ln, q_ls, n_id, n_path, n_ln, n_ls, non_oid, non_oln, non_oct, non_id, non_ln, non_ct, non_path, un_ln, un_pl, in_ids, ad_path, eOp_s, eOp_n, lstk_ls, st_ls]
    have := fin (settleF ls pl) (by unfold whereF; rw [hm])
    unfold pr_with_new_line_1
    simp only [pSeq, pAsg, pVar, pC, pOp, pNil, pCons, pTup, pLst, pLstM, pNot, pAndV, pOrV, pIf, pB, pAnd, pOr, pNotT, pNoPart, pPart, pCB, pUnN, pSl, pNext, pBreak, pCont, pRet, pRetN, pDrop, pIfS, pgName, pgNil, pgCons, pgTup_t, pAug, pApp, pYes, isk_non, nsk_non, isN_non, isN_bl, isN_int, isN_str, isN_tup, isN_lst, isN_ref, isN_obj, pTru, pFld, pStar, pMake, pSetF, pIt, pRng1, pRng2, forG, List.map_cons, List.map_nil, List.getElem?_cons_zero, List.getElem?_cons_succ, List.set_cons_zero, List.set_cons_succ, Option.some.injEq, exists_eq_left, exists_eq_left', true_and, and_true, wipeE, D.bl.injEq, D.int.injEq, D.str.injEq, D.tup.injEq, D.lst.injEq, Bool.not_true, decide_eq_true_eq, if_true, if_false, reduceIte, Bool.false_eq_true, Option.isNone_none, Option.isNone_some, Bool.not_false, List.length_nil, List.length_cons, List.nil_append, List.cons_append, D.ref.injEq, SO.lst.injEq, pCall, exists_const, and_self, Nat.zero_add, Nat.zero_le, Nat.reduceLeDiff, Nat.reduceAdd, eq_self, o_add, o_sub, o_mul, o_div, o_mod, o_cmp, o_int, o_lenl, o_lent, o_lens, o_tupl, o_tupt, o_min, o_max, q_int, ixk_tup, ixk_lst, ixk_scr, at0, at1, at2, at3, at4, at5, List.length_map, ln0, ln1, ln2, ln3, ln4, lnS0, lnS2, lnS4, q_id, q_ido, q_oi, q_oid, q_path, q_ln, q_ls, n_id, n_path, n_ln, n_ls, non_oid, non_oln, non_oct, non_id, non_ln, non_ct, non_path, un_ln, un_pl, in_ids, ad_path, eOp_s, eOp_n, lstk_ls, st_ls]
    rw [List.length_append, List.length_map]
    exact this
  | some m =>
    simp only [pSeq, pAsg, pVar, pC, pOp, pNil, pCons, pTup, pLst, pLstM, pNot, pAndV, pOrV, pIf, pB, pAnd, pOr, pNotT, pNoPart, pPart, pCB, pUnN, pSl, pNext, pBreak, pCont, pRet, pRetN, pDrop, pIfS, pgName, pgNil, pgCons, pgTup_t, pAug, pApp, pYes, isk_non, nsk_non, isN_non, isN_bl, isN_int, isN_str, isN_tup, isN_lst, isN_ref, isN_obj, pTru, pFld, pStar, pMake, pSetF, pIt, pRng1, pRng2, forG, List.map_cons, List.map_nil, List.getElem?_cons_zero, List.getElem?_cons_succ, List.set_cons_zero, List.set_cons_succ, Option.some.injEq, exists_eq_left, exists_eq_left', true_and, and_true, wipeE, D.bl.injEq, D.int.injEq, D.str.injEq, D.tup.injEq, D.lst.injEq, Bool.not_true, decide_eq_true_eq, if_true, if_false, reduceIte, Bool.false_eq_true, Option.isNone_none, Option.isNone_some, Bool.not_false, List.length_nil, List.length_cons, List.nil_append, List.cons_append, D.ref.injEq, SO.lst.injEq, pCall, exists_const, and_self, Nat.zero_add, Nat.zero_le, Nat.reduceLeDiff, Nat.reduceAdd, eq_self, o_add, o_sub, o_mul, o_div, o_mod, o_cmp, o_int, o_lenl, o_lent, o_lens, o_tupl, o_tupt, o_min, o_max, q_int, ixk_tup, ixk_lst, ixk_scr, at0, at1, at2, at3, at4, at5, List.length_map, ln0, ln1, ln2, ln3, ln4, lnS0, lnS2, lnS4, q_id, q_ido, q_oi, q_oid, q_path, q_ln, q_ls, n_id, n_path, n_ln, n_ls, non_oid, non_oln, non_oct, non_id, non_ln, non_ct, non_path, un_ln, un_pl, in_ids, ad_path, eOp_s, eOp_n, lstk_ls, st_ls]
    have := fin (m.ins, m.path) (by unfold whereF; rw [hm])
    unfold pr_with_new_line_1
    simp only [pSeq, pAsg, pVar, pC, pOp, pNil, pCons, pTup, pLst, pLstM, pNot, pAndV, pOrV, pIf, pB, pAnd, pOr, pNotT, pNoPart, pPart, pCB, pUnN, pSl, pNext, pBreak, pCont, pRet, pRetN, pDrop, pIfS, pgName, pgNil, pgCons, pgTup_t, pAug, pApp, pYes, isk_non, nsk_non, isN_non, isN_bl, isN_int, isN_str, isN_tup, isN_lst, isN_ref, isN_obj, pTru, pFld, pStar, pMake, pSetF, pIt, pRng1, pRng2, forG, List.map_cons, List.map_nil, List.getElem?_cons_zero, List.getElem?_cons_succ, List.set_cons_zero, List.set_cons_succ, Option.some.injEq, exists_eq_left, exists_eq_left', true_and, and_true, wipeE, D.bl.injEq, D.int.injEq, D.str.injEq, D.tup.injEq, D.lst.injEq, Bool.not_true, decide_eq_true_eq, if_true, if_false, reduceIte, Bool.false_eq_true, Option.isNone_none, Option.isNone_some, Bool.not_false, List.length_nil, List.length_cons, List.nil_append, List.cons_append, D.ref.injEq, SO.lst.injEq, pCall, exists_const, and_self, Nat.zero_add, Nat.zero_le, Nat.reduceLeDiff, Nat.reduceAdd, eq_self, o_add, o_sub, o_mul, o_div, o_mod, o_cmp, o_int, o_lenl, o_lent, o_lens, o_tupl, o_tupt, o_min, o_max, q_int, ixk_tup, ixk_lst, ixk_scr, at0, at1, at2, at3, at4, at5, List.length_map, ln0, ln1, ln2, ln3, ln4, lnS0, lnS2, lnS4, q_id, q_ido, q_oi, q_oid, q_path, q_ln, q_ls, n_id, n_path, n_ln, n_ls, non_oid, non_oln, non_oct, non_id, non_ln, non_ct, non_path, un_ln, un_pl, in_ids, ad_path, eOp_s, eOp_n, lstk_ls, st_ls]
    rw [List.length_append, List.length_map]
    exact this
theorem ok_with_new_line {P : Program} {w : World} {K : PySem.W.Frag} {cl : Cl} {mg : Str → Option Value} {base : Heap} (D : Df K mg "with_new_line" s_with_new_line ["lines", "edit"]) (T : Txt K cl mg) (hw : cl.w = w) (G_find_line : C8.Cal P w K mg base 1 "find_line" (spP K cl F_find_line) []) (G_settle : C8.Cal P w K mg base 2 "settle" (spP K cl F_settle) []) : C8.Cal P w K mg base 3 "with_new_line" (spP K cl F_with_new_line) [] := by
  subst hw
  refine D.cal sc_with_new_line (spP_len (n := 2) len_with_new_line) (fun f cdv A outer s H vs Q E hr h => ?_)
  refine ⟨_,
    (pss_cons (ps_asg (pv 1) (pg_tup rfl (pgs_cons (pg_name (i := 2) sc_with_new_line.nd rfl (Or.inl rfl)) (pgs_cons (pg_name (i := 3) sc_with_new_line.nd rfl (Or.inl rfl)) (pgs_cons (pg_name (i := 4) sc_with_new_line.nd rfl (Or.inl rfl)) (pgs_cons (pg_name (i := 5) sc_with_new_line.nd rfl (Or.inl rfl)) (pgs_cons (pg_name (i := 6) sc_with_new_line.nd rfl (Or.inl rfl)) (pgs_cons (pg_name (i := 2) sc_with_new_line.nd rfl (Or.inl rfl)) pgs_nil))))))))
    (pss_cons (ps_set (i := 7) sc_with_new_line.nd rfl (.inl rfl) (C8.pe_c G_find_line hr (by decide) (by rfl) (pa_cons (pv 0) (pa_cons (pv 6) pa_nil))))
    (pss_cons (ps_if (pt_cmpR op_isN (pv 7) pe_non (nomark _))
      (pss_one (ps_asg (C8.pe_c G_settle hr (by decide) (by rfl) (pa_cons (pv 0) (pa_cons (pv 4) pa_nil))) (pg_tup rfl (pgs_cons (pg_name (i := 8) sc_with_new_line.nd rfl (Or.inl rfl)) (pgs_cons (pg_name (i := 9) sc_with_new_line.nd rfl (Or.inl rfl)) pgs_nil)))))
      (pss_one (ps_asg (pv 7) (pg_tup rfl (pgs_cons (pg_name (i := 2) sc_with_new_line.nd rfl (Or.inl rfl)) (pgs_cons (pg_name (i := 2) sc_with_new_line.nd rfl (Or.inl rfl)) (pgs_cons (pg_name (i := 8) sc_with_new_line.nd rfl (Or.inl rfl)) (pgs_cons (pg_name (i := 9) sc_with_new_line.nd rfl (Or.inl rfl)) (pgs_cons (pg_name (i := 2) sc_with_new_line.nd rfl (Or.inl rfl)) pgs_nil)))))))))
    (pss_one (ps_ret (pe_lst (StX.pa_star (pv 0) (pa_cons (pe_tup (pa_cons (pv 3) (pa_cons (pv 3) (pa_cons (pv 8) (pa_cons (pv 9) (pa_cons (pv 5) pa_nil)))))) pa_nil)))))))), ?_⟩
  exact fn_ok (N := ["lines", "edit", "_", "edit_id", "place", "content", "meant_id", "meant", "inside", "below"]) (show SmS K cl _ ps_with_new_line from
    (sm_seq (sm_asg sm_var (sm_gtup (sm_gcons sm_gname (sm_gcons sm_gname (sm_gcons sm_gname (sm_gcons sm_gname (sm_gcons sm_gname (sm_gcons sm_gname sm_gnil))))))))
    (sm_seq (sm_asg (sm_call (sm_cons sm_var (sm_cons sm_var sm_nil))) sm_gname)
    (sm_seq (sm_ifS (sm_test (sm_op smr_is sm_var sm_non))
      ((sm_asg (sm_call (sm_cons sm_var (sm_cons sm_var sm_nil))) (sm_gtup (sm_gcons sm_gname (sm_gcons sm_gname sm_gnil)))))
      ((sm_asg sm_var (sm_gtup (sm_gcons sm_gname (sm_gcons sm_gname (sm_gcons sm_gname (sm_gcons sm_gname (sm_gcons sm_gname sm_gnil)))))))))
    ((sm_ret (sm_lst (sm_star sm_var (sm_cons (sm_tup (sm_cons sm_var (sm_cons sm_var (sm_cons sm_var (sm_cons sm_var (sm_cons sm_var sm_nil)))))) sm_nil))))))))) body_with_new_line h
/-! ### first_replaced -/
def pl_first_replaced_1 : PSx :=
      ((pIfS (pAnd (pB (pOp nsk (pOp ixk (pVar 2) (pC (.int 4))) (pC .non))) (pB (pOp ink (pOp ixk (pVar 2) (pC (.int 1))) (pVar 1))))
        ((pRet (pVar 2)))
        pNext))
theorem pl_first_replaced_1_d (P : PEnds) (env : Pw.Env) (S : Sto) : pl_first_replaced_1 P env S = (
      ((pIfS (pAnd (pB (pOp nsk (pOp ixk (pVar 2) (pC (.int 4))) (pC .non))) (pB (pOp ink (pOp ixk (pVar 2) (pC (.int 1))) (pVar 1))))
        ((pRet (pVar 2)))
        pNext))) P env S := rfl
def ps_first_replaced : PSx :=
    (pSeq (pIfS (pB (pOp eqk (pVar 1) (pTup pNil)))
      ((pRet (pC .non)))
      pNext)
    (pSeq (pFor (pIt (pVar 0)) (pgName 2) pl_first_replaced_1)
    ((pRet (pC .non)))))
theorem start_first_replaced : ∀ a0 a1 : D, startE 3 [a0, a1] = [some a0, some a1, none] := fun _ _ => rfl
def F_first_replaced : PFn := fun ds k => ∃ ls hs, ds = [eLs ls, eIds hs] ∧ k (eOp eLn (firstRep ls hs))
theorem len_first_replaced : ∀ ds k, F_first_replaced ds k → ds.length = 2 := by
  rintro _ _ ⟨_, _, rfl, _⟩
  rfl
theorem body_first_replaced : ∀ ds k, F_first_replaced ds k → ps_first_replaced { nx := fun _ _ => k .non, rt := fun d S => (d.frz S).noRef = true ∧ k (d.frz S) } (startE 3 ds) [] := by
  rintro _ k ⟨ls, hs, rfl, hk⟩
  rw [start_first_replaced]
  unfold ps_first_replaced
  simp only [pSeq, pAsg, pVar, pC, pOp, pNil, pCons, pTup, pLst, pLstM, pNot, pAndV, pOrV, pIf, pB, pAnd, pOr, pNotT, pNoPart, pPart, pCB, pUnN, pSl, pNext, pBreak, pCont, pRet, pRetN, pDrop, pIfS, pgName, pgNil, pgCons, pgTup_t, pAug, pApp, pYes, isk_non, nsk_non, isN_non, isN_bl, isN_int, isN_str, isN_tup, isN_lst, isN_ref, isN_obj, pTru, pFld, pStar, pMake, pSetF, pIt, pRng1, pRng2, forG, List.map_cons, List.map_nil, List.getElem?_cons_zero, List.getElem?_cons_succ, List.set_cons_zero, List.set_cons_succ, Option.some.injEq, exists_eq_left, exists_eq_left', true_and, and_true, wipeE, D.bl.injEq, D.int.injEq, D.str.injEq, D.tup.injEq, D.lst.injEq, Bool.not_true, decide_eq_true_eq, if_true, if_false, reduceIte, Bool.false_eq_true, Option.isNone_none, Option.isNone_some, Bool.not_false, List.length_nil, List.length_cons, List.nil_append, List.cons_append, D.ref.injEq, SO.lst.injEq, pCall, exists_const, and_self, Nat.zero_add, Nat.zero_le, Nat.reduceLeDiff, Nat.reduceAdd, eq_self, o_add, o_sub, o_mul, o_div, o_mod, o_cmp, o_int, o_lenl, o_lent, o_lens, o_tupl, o_tupt, o_min, o_max, q_int, ixk_tup, ixk_lst, ixk_scr, at0, at1, at2, at3, at4, at5, List.length_map, ln0, ln1, ln2, ln3, ln4, lnS0, lnS2, lnS4, q_id, q_ido, q_oi, q_oid, q_path, q_ln, q_ls, n_id, n_path, n_ln, n_ls, non_oid, non_oln, non_oct, non_id, non_ln, non_ct, non_path, un_ln, un_pl, in_ids, ad_path, eOp_s, eOp_n, lstk_ls, st_ls, q_none]
  by_cases he : hs = []
  · rw [if_pos he]
    have hf : firstRep ls hs = none := by
      rw [he]
      unfold firstRep
      rw [List.find?_eq_none]
      intro x _
      simp
    rw [hf] at hk
    exact rt_pure rfl hk
  rw [if_neg he]
  refine for_go (src := eLs ls) (ds := ls.map eLn) (fun kk h => ⟨_, rfl, _, rfl, h⟩) (fun _ => rfl) ?_
  generalize eLs ls = l0
  generalize (none : Option D) = x
  induction ls generalizing x with
  | nil =>
    simp only [pSeq, pAsg, pVar, pC, pOp, pNil, pCons, pTup, pLst, pLstM, pNot, pAndV, pOrV, pIf, pB, pAnd, pOr, pNotT, pNoPart, pPart, pCB, pUnN, pSl, pNext, pBreak, pCont, pRet, pRetN, pDrop, pIfS, pgName, pgNil, pgCons, pgTup_t, pAug, pApp, pYes, isk_non, nsk_non, isN_non, isN_bl, isN_int, isN_str, isN_tup, isN_lst, isN_ref, isN_obj, pTru, pFld, pStar, pMake, pSetF, pIt, pRng1, pRng2, forG, List.map_cons, List.map_nil, List.getElem?_cons_zero, List.getElem?_cons_succ, List.set_cons_zero, List.set_cons_succ, Option.some.injEq, exists_eq_left, exists_eq_left', true_and, and_true, wipeE, D.bl.injEq, D.int.injEq, D.str.injEq, D.tup.injEq, D.lst.injEq, Bool.not_true, decide_eq_true_eq, if_true, if_false, reduceIte, Bool.false_eq_true, Option.isNone_none, Option.isNone_some, Bool.not_false, List.length_nil, List.length_cons, List.nil_append, List.cons_append, D.ref.injEq, SO.lst.injEq, pCall, exists_const, and_self, Nat.zero_add, Nat.zero_le, Nat.reduceLeDiff, Nat.reduceAdd, eq_self, o_add, o_sub, o_mul, o_div, o_mod, o_cmp, o_int, o_lenl, o_lent, o_lens, o_tupl, o_tupt, o_min, o_max, q_int, ixk_tup, ixk_lst, ixk_scr, at0, at1, at2, at3, at4, at5, List.length_map, ln0, ln1, ln2, ln3, ln4, lnS0, lnS2, lnS4, q_id, q_ido, q_oi, q_oid, q_path, q_ln, q_ls, n_id, n_path, n_ln, n_ls, non_oid, non_oln, non_oct, non_id, non_ln, non_ct, non_path, un_ln, un_pl, in_ids, ad_path, eOp_s, eOp_n, lstk_ls, st_ls]
    exact rt_pure rfl hk
  | cons a ls ih =>
    simp only [pSeq, pAsg, pVar, pC, pOp, pNil, pCons, pTup, pLst, pLstM, pNot, pAndV, pOrV, pIf, pB, pAnd, pOr, pNotT, pNoPart, pPart, pCB, pUnN, pSl, pNext, pBreak, pCont, pRet, pRetN, pDrop, pIfS, pgName, pgNil, pgCons, pgTup_t, pAug, pApp, pYes, isk_non, nsk_non, isN_non, isN_bl, isN_int, isN_str, isN_tup, isN_lst, isN_ref, isN_obj, pTru, pFld, pStar, pMake, pSetF, pIt, pRng1, pRng2, forG, List.map_cons, List.map_nil, List.getElem?_cons_zero, List.getElem?_cons_succ, List.set_cons_zero, List.set_cons_succ, Option.some.injEq, exists_eq_left, exists_eq_left', true_and, and_true, wipeE, D.bl.injEq, D.int.injEq, D.str.injEq, D.tup.injEq, D.lst.injEq, Bool.not_true, decide_eq_true_eq, if_true, if_false, reduceIte, Bool.false_eq_true, Option.isNone_none, Option.isNone_some, Bool.not_false, List.length_nil, List.length_cons, List.nil_append, List.cons_append, D.ref.injEq, SO.lst.injEq, pCall, exists_const, and_self, Nat.zero_add, Nat.zero_le, Nat.reduceLeDiff, Nat.reduceAdd, eq_self, o_add, o_sub, o_mul, o_div, o_mod, o_cmp, o_int, o_lenl, o_lent, o_lens, o_tupl, o_tupt, o_min, o_max, q_int, ixk_tup, ixk_lst, ixk_scr, at0, at1, at2, at3, at4, at5, List.length_map, ln0, ln1, ln2, ln3, ln4, lnS0, lnS2, lnS4, q_id, q_ido, q_oi, q_oid, q_path, q_ln, q_ls, n_id, n_path, n_ln, n_ls, non_oid, non_oln, non_oct, non_id, non_ln, non_ct, non_path, un_ln, un_pl, in_ids, ad_path, eOp_s, eOp_n, lstk_ls, st_ls, pl_first_replaced_1_d]
    have hk' : ∀ b, (a.ct.isSome && decide (a.hd ∈ hs)) = b → k (eOp eLn (if b = true then some a else firstRep ls hs)) := by
      rintro b rfl
      have e : firstRep (a :: ls) hs = if (a.ct.isSome && decide (a.hd ∈ hs)) = true then some a else firstRep ls hs := by
        unfold firstRep
        rw [List.find?_cons]
        cases (a.ct.isSome && decide (a.hd ∈ hs)) <;> rfl
      rw [← e]
      exact hk
    cases hc : a.ct with
    | none =>
      rw [hc] at hk'
      simp only [pSeq, pAsg, pVar, pC, pOp, pNil, pCons, pTup, pLst, pLstM, pNot, pAndV, pOrV, pIf, pB, pAnd, pOr, pNotT, pNoPart, pPart, pCB, pUnN, pSl, pNext, pBreak, pCont, pRet, pRetN, pDrop, pIfS, pgName, pgNil, pgCons, pgTup_t, pAug, pApp, pYes, isk_non, nsk_non, isN_non, isN_bl, isN_int, isN_str, isN_tup, isN_lst, isN_ref, isN_obj, pTru, pFld, pStar, pMake, pSetF, pIt, pRng1, pRng2, forG, List.map_cons, List.map_nil, List.getElem?_cons_zero, List.getElem?_cons_succ, List.set_cons_zero, List.set_cons_succ, Option.some.injEq, exists_eq_left, exists_eq_left', true_and, and_true, wipeE, D.bl.injEq, D.int.injEq, D.str.injEq, D.tup.injEq, D.lst.injEq, Bool.not_true, decide_eq_true_eq, if_true, if_false, reduceIte, Bool.false_eq_true, Option.isNone_none, Option.isNone_some, Bool.not_false, List.length_nil, List.length_cons, List.nil_append, List.cons_append, D.ref.injEq, SO.lst.injEq, pCall, exists_const, and_self, Nat.zero_add, Nat.zero_le, Nat.reduceLeDiff, Nat.reduceAdd, eq_self, o_add, o_sub, o_mul, o_div, o_mod, o_cmp, o_int, o_lenl, o_lent, o_lens, o_tupl, o_tupt, o_min, o_max, q_int, ixk_tup, ixk_lst, ixk_scr, at0, at1, at2, at3, at4, at5, List.length_map, ln0, ln1, ln2, ln3, ln4, lnS0, lnS2, lnS4, q_id, q_ido, q_oi, q_oid, q_path, q_ln, q_ls, n_id, n_path, n_ln, n_ls, non_oid, non_oln, non_oct, non_id, non_ln, non_ct, non_path, un_ln, un_pl, in_ids, ad_path, eOp_s, eOp_n, lstk_ls, st_ls]
      exact ih (hk' false rfl) _
    | some c =>
      rw [hc] at hk'
      simp only [pSeq, pAsg, pVar, pC, pOp, pNil, pCons, pTup, pLst, pLstM, pNot, pAndV, pOrV, pIf, pB, pAnd, pOr, pNotT, pNoPart, pPart, pCB, pUnN, pSl, pNext, pBreak, pCont, pRet, pRetN, pDrop, pIfS, pgName, pgNil, pgCons, pgTup_t, pAug, pApp, pYes, isk_non, nsk_non, isN_non, isN_bl, isN_int, isN_str, isN_tup, isN_lst, isN_ref, isN_obj, pTru, pFld, pStar, pMake, pSetF, pIt, pRng1, pRng2, forG, List.map_cons, List.map_nil, List.getElem?_cons_zero, List.getElem?_cons_succ, List.set_cons_zero, List.set_cons_succ, Option.some.injEq, exists_eq_left, exists_eq_left', true_and, and_true, wipeE, D.bl.injEq, D.int.injEq, D.str.injEq, D.tup.injEq, D.lst.injEq, Bool.not_true, decide_eq_true_eq, if_true, if_false, reduceIte, Bool.false_eq_true, Option.isNone_none, Option.isNone_some, Bool.not_false, List.length_nil, List.length_cons, List.nil_append, List.cons_append, D.ref.injEq, SO.lst.injEq, pCall, exists_const, and_self, Nat.zero_add, Nat.zero_le, Nat.reduceLeDiff, Nat.reduceAdd, eq_self, o_add, o_sub, o_mul, o_div, o_mod, o_cmp, o_int, o_lenl, o_lent, o_lens, o_tupl, o_tupt, o_min, o_max, q_int, ixk_tup, ixk_lst, ixk_scr, at0, at1, at2, at3, at4, at5, List.length_map, ln0, ln1, ln2, ln3, ln4, lnS0, lnS2, lnS4, q_id, q_ido, q_oi, q_oid, q_path, q_ln, q_ls, n_id, n_path, n_ln, n_ls, non_oid, non_oln, non_oct, non_id, non_ln, non_ct, non_path, un_ln, un_pl, in_ids, ad_path, eOp_s, eOp_n, lstk_ls, st_ls]
      by_cases hm : a.hd ∈ hs
      · rw [if_pos hm]
        exact rt_pure (pu_ln a) (hk' true (by simp [hm]))
      · rw [if_neg hm]
        exact ih (hk' false (by simp [hm])) _
theorem ok_first_replaced {P : Program} {w : World} {K : PySem.W.Frag} {cl : Cl} {mg : Str → Option Value} {base : Heap} (D : Df K mg "first_replaced" s_first_replaced ["lines", "replaces"]) (T : Txt K cl mg) (hw : cl.w = w)  : C8.Cal P w K mg base 1 "first_replaced" (spP K cl F_first_replaced) [] := by
  subst hw
  refine D.cal sc_first_replaced (spP_len (n := 2) len_first_replaced) (fun f cdv A outer s H vs Q E hr h => ?_)
  refine ⟨_,
    (pss_cons (ps_if (pt_cmpR (show OpR _ _ (rEqP K) from op_eqP hr.units) (pv 1) (pe_tup pa_nil) (nomark _))
      (pss_one (ps_ret pe_non))
      pss_nil)
    (pss_cons (ps_for PassesOwn.never rfl (show PI _ _ _ (uIt K _) from upi (pv 0)) (pg_name (i := 2) sc_first_replaced.nd rfl (Or.inl rfl))
      (pss_one (ps_if (PW.pt (pw_and (pt_cmpR op_notN (pe_ix (show IxR _ (uIx K) from uix) (pv 2) pe_int (fun _ _ => rfl)) pe_non (nomark _)) (pw_and1 (pt_cmpR (show OpR _ _ (uIn K) from uop_in hr.units) (pe_ix (show IxR _ (uIx K) from uix) (pv 2) pe_int (fun _ _ => rfl)) (pv 1) (by with_unfolding_all rfl)))))
        (pss_one (ps_ret (pv 2)))
        pss_nil)))
    (pss_one (ps_ret pe_non)))), ?_⟩
  exact fn_ok (N := ["lines", "replaces", "line"]) (show SmS K cl _ ps_first_replaced from
    (sm_seq (sm_ifS (sm_test (sm_op smr_eq sm_var (sm_tup sm_nil)))
      ((sm_ret sm_non))
      sm_next)
    (sm_seq (sm_for (sm_it sm_var) sm_gname
      ((sm_ifS (sm_and (sm_test (sm_op smr_ns (sm_op smr_ix sm_var sm_int) sm_non)) (sm_test (sm_op smr_in (sm_op smr_ix sm_var sm_int) sm_var)))
        ((sm_ret sm_var))
        sm_next)))
    ((sm_ret sm_non))))) body_first_replaced h
/-! ### after_text -/
def pr_after_text_1 : PSx :=
    ((pRet (pCall F_without_heads (pCons (pVar 0) (pCons (pLc (pIt (pVar 5)) (pgName 12) (pB (pOp nek (pVar 12) (pVar 3))) (pVar 12) [12]) pNil)))))
theorem pr_after_text_1_d (P : PEnds) (env : Pw.Env) (S : Sto) : pr_after_text_1 P env S = (
    ((pRet (pCall F_without_heads (pCons (pVar 0) (pCons (pLc (pIt (pVar 5)) (pgName 12) (pB (pOp nek (pVar 12) (pVar 3))) (pVar 12) [12]) pNil)))))) P env S := rfl
def ps_after_text : PSx :=
    (pSeq (pAsg (pVar 1) (pgTup 6 (pgCons (pgName 2) (pgCons (pgName 3) (pgCons (pgName 2) (pgCons (pgName 4) (pgCons (pgName 2) (pgCons (pgName 5) pgNil))))))))
    (pSeq (pAsg (pCall F_first_replaced (pCons (pVar 0) (pCons (pVar 5) pNil))) (pgName 6))
    (pSeq (pIfS (pB (pOp isk (pVar 6) (pC .non)))
      ((pAsg (pCall F_with_new_line (pCons (pVar 0) (pCons (pVar 1) pNil))) (pgName 0)))
      (pSeq (pAsg (pVar 6) (pgTup 5 (pgCons (pgName 7) (pgCons (pgName 2) (pgCons (pgName 8) (pgCons (pgName 9) (pgCons (pgName 2) pgNil)))))))
      (pSeq (pAsg (pTup (pCons (pVar 7) (pCons (pVar 3) (pCons (pVar 8) (pCons (pVar 9) (pCons (pVar 4) pNil)))))) (pgName 10))
      ((pAsg (pLc (pIt (pVar 0)) (pgName 11) pYes (pIf (pB (pOp eqk (pOp ixk (pVar 11) (pC (.int 0))) (pVar 7))) (pVar 10) (pVar 11)) [11]) (pgName 0))))))
    pr_after_text_1)))
theorem start_after_text : ∀ a0 a1 : D, startE 13 [a0, a1] = [some a0, some a1, none, none, none, none, none, none, none, none, none, none, none] := fun _ _ => rfl
def F_after_text : PFn := fun ds k => ∃ ls id pl ct meant hs, ds = [eLs ls, eEd (.write id pl ct meant hs)] ∧ ls.length ≤ 1000 ∧ hs.length ≤ 1000 ∧ (∀ i, Short (woHeads (textIn ls id pl ct meant hs) ((hs.filter fun h => !decide (h = id)).take i))) ∧ k (eLs (afterText ls id pl ct meant hs))
theorem len_after_text : ∀ ds k, F_after_text ds k → ds.length = 2 := by
  rintro _ _ ⟨_, _, _, _, _, _, rfl, _⟩
  rfl
theorem body_after_text : ∀ ds k, F_after_text ds k → ps_after_text { nx := fun _ _ => k .non, rt := fun d S => (d.frz S).noRef = true ∧ k (d.frz S) } (startE 13 ds) [] := by
  rintro _ k ⟨ls, id, pl, ct, meant, hs, rfl, hl, hhs, hsh, hk⟩
  rw [start_after_text]
  unfold ps_after_text
  simp only [pSeq, pAsg, pVar, pC, pOp, pNil, pCons, pTup, pLst, pLstM, pNot, pAndV, pOrV, pIf, pB, pAnd, pOr, pNotT, pNoPart, pPart, pCB, pUnN, pSl, pNext, pBreak, pCont, pRet, pRetN, pDrop, pIfS, pgName, pgNil, pgCons, pgTup_t, pAug, pApp, pYes, isk_non, nsk_non, isN_non, isN_bl, isN_int, isN_str, isN_tup, isN_lst, isN_ref, isN_obj, pTru, pFld, pStar, pMake, pSetF, pIt, pRng1, pRng2, forG, List.map_cons, List.map_nil, List.getElem?_cons_zero, List.getElem?_cons_succ, List.set_cons_zero, List.set_cons_succ, Option.some.injEq, exists_eq_left, exists_eq_left', true_and, and_true, wipeE, D.bl.injEq, D.int.injEq, D.str.injEq, D.tup.injEq, D.lst.injEq, Bool.not_true, decide_eq_true_eq, if_true, if_false, reduceIte, Bool.false_eq_true, Option.isNone_none, Option.isNone_some, Bool.not_false, List.length_nil, List.length_cons, List.nil_append, List.cons_append, D.ref.injEq, SO.lst.injEq, pCall, exists_const, and_self, Nat.zero_add, Nat.zero_le, Nat.reduceLeDiff, Nat.reduceAdd, eq_self, o_add, o_sub, o_mul, o_div, o_mod, o_cmp, o_int, o_lenl, o_lent, o_lens, o_tupl, o_tupt, o_min, o_max, q_int, ixk_tup, ixk_lst, ixk_scr, at0, at1, at2, at3, at4, at5, List.length_map, ln0, ln1, ln2, ln3, ln4, lnS0, lnS2, lnS4, q_id, q_ido, q_oi, q_oid, q_path, q_ln, q_ls, n_id, n_path, n_ln, n_ls, non_oid, non_oln, non_oct, non_id, non_ln, non_ct, non_path, un_ln, un_pl, in_ids, ad_path, eOp_s, eOp_n, lstk_ls, st_ls, un_wr]
  refine call_of (by simp only [pureAll, pu_ls, pu_lsl, pu_oid, pu_id, pu_ln, pu_oln, pu_pl, pu_ed, pu_eds, pu_idst, pu_path, pu_oct, pu_mv, pu_mvs, pu_str, pu_int, pu_bl, pu_non, eOp_s, eOp_n, Bool.and_self]) ⟨ls, hs, rfl, ?_⟩
  have fin : ∀ (env : Pw.Env) (k2 : D → Sto → Prop), env[3]? = some (some (eId id)) → env[5]? = some (some (eIds hs)) → env.length = 13 → k2 (.lst ((hs.filter fun h => !decide (h = id)).map eId)) [] → pLc (pIt (pVar 5)) (pgName 12) (pB (pOp nek (pVar 12) (pVar 3))) (pVar 12) [12] env [] k2 := by
    intro env k2 h3 h5 hlen h
    refine lc_go (src := eIds hs) (as := hs) (enc := eId) (fun h => !decide (h = id)) eId (fun kk h => ⟨_, h5, _, rfl, h⟩) (fun _ => rfl) (by omega) (fun a ha k2 k3 h => ?_) h
    have e3 : ((env.set 12 none).set 12 (some (eId a)))[3]? = some (some (eId id)) := by
      rw [List.getElem?_set_ne (by decide), List.getElem?_set_ne (by decide)]
      exact h3
    have e12 : ((env.set 12 none).set 12 (some (eId a)))[12]? = some (some (eId a)) := List.getElem?_set_self (by rw [List.length_set]; omega)
    simp only [pSeq, pAsg, pVar, pC, pOp, pNil, pCons, pTup, pLst, pLstM, pNot, pAndV, pOrV, pIf, pB, pAnd, pOr, pNotT, pNoPart, pPart, pCB, pUnN, pSl, pNext, pBreak, pCont, pRet, pRetN, pDrop, pIfS, pgName, pgNil, pgCons, pgTup_t, pAug, pApp, pYes, isk_non, nsk_non, isN_non, isN_bl, isN_int, isN_str, isN_tup, isN_lst, isN_ref, isN_obj, pTru, pFld, pStar, pMake, pSetF, pIt, pRng1, pRng2, forG, List.map_cons, List.map_nil, List.getElem?_cons_zero, List.getElem?_cons_succ, List.set_cons_zero, List.set_cons_succ, Option.some.injEq, exists_eq_left, exists_eq_left', true_and, and_true, wipeE, D.bl.injEq, D.int.injEq, D.str.injEq, D.tup.injEq, D.lst.injEq, Bool.not_true, decide_eq_true_eq, if_true, if_false, reduceIte, Bool.false_eq_true, Option.isNone_none, Option.isNone_some, Bool.not_false, List.length_nil, List.length_cons, List.nil_append, List.cons_append, D.ref.injEq, SO.lst.injEq, pCall, exists_const, and_self, Nat.zero_add, Nat.zero_le, Nat.reduceLeDiff, Nat.reduceAdd, eq_self, o_add, o_sub, o_mul, o_div, o_mod, o_cmp, o_int, o_lenl, o_lent, o_lens, o_tupl, o_tupt, o_min, o_max, q_int, ixk_tup, ixk_lst, ixk_scr, at0, at1, at2, at3, at4, at5, List.length_map, ln0, ln1, ln2, ln3, ln4, lnS0, lnS2, lnS4, q_id, q_ido, q_oi, q_oid, q_path, q_ln, q_ls, n_id, n_path, n_ln, n_ls, non_oid, non_oln, non_oct, non_id, non_ln, non_ct, non_path, un_ln, un_pl, in_ids, ad_path, eOp_s, eOp_n, lstk_ls, st_ls, e3, e12]
    cases hb : decide (a = id) with
    | true =>
      rw [hb] at h
      simp only [pSeq, pAsg, pVar, pC, pOp, pNil, pCons, pTup, pLst, pLstM, pNot, pAndV, pOrV, pIf, pB, pAnd, pOr, pNotT, pNoPart, pPart, pCB, pUnN, pSl, pNext, pBreak, pCont, pRet, pRetN, pDrop, pIfS, pgName, pgNil, pgCons, pgTup_t, pAug, pApp, pYes, isk_non, nsk_non, isN_non, isN_bl, isN_int, isN_str, isN_tup, isN_lst, isN_ref, isN_obj, pTru, pFld, pStar, pMake, pSetF, pIt, pRng1, pRng2, forG, List.map_cons, List.map_nil, List.getElem?_cons_zero, List.getElem?_cons_succ, List.set_cons_zero, List.set_cons_succ, Option.some.injEq, exists_eq_left, exists_eq_left', true_and, and_true, wipeE, D.bl.injEq, D.int.injEq, D.str.injEq, D.tup.injEq, D.lst.injEq, Bool.not_true, decide_eq_true_eq, if_true, if_false, reduceIte, Bool.false_eq_true, Option.isNone_none, Option.isNone_some, Bool.not_false, List.length_nil, List.length_cons, List.nil_append, List.cons_append, D.ref.injEq, SO.lst.injEq, pCall, exists_const, and_self, Nat.zero_add, Nat.zero_le, Nat.reduceLeDiff, Nat.reduceAdd, eq_self, o_add, o_sub, o_mul, o_div, o_mod, o_cmp, o_int, o_lenl, o_lent, o_lens, o_tupl, o_tupt, o_min, o_max, q_int, ixk_tup, ixk_lst, ixk_scr, at0, at1, at2, at3, at4, at5, List.length_map, ln0, ln1, ln2, ln3, ln4, lnS0, lnS2, lnS4, q_id, q_ido, q_oi, q_oid, q_path, q_ln, q_ls, n_id, n_path, n_ln, n_ls, non_oid, non_oln, non_oct, non_id, non_ln, non_ct, non_path, un_ln, un_pl, in_ids, ad_path, eOp_s, eOp_n, lstk_ls, st_ls]
      exact h
    | false =>
      rw [hb] at h
      simp only [pSeq, pAsg, pVar, pC, pOp, pNil, pCons, pTup, pLst, pLstM, pNot, pAndV, pOrV, pIf, pB, pAnd, pOr, pNotT, pNoPart, pPart, pCB, pUnN, pSl, pNext, pBreak, pCont, pRet, pRetN, pDrop, pIfS, pgName, pgNil, pgCons, pgTup_t, pAug, pApp, pYes, isk_non, nsk_non, isN_non, isN_bl, isN_int, isN_str, isN_tup, isN_lst, isN_ref, isN_obj, pTru, pFld, pStar, pMake, pSetF, pIt, pRng1, pRng2, forG, List.map_cons, List.map_nil, List.getElem?_cons_zero, List.getElem?_cons_succ, List.set_cons_zero, List.set_cons_succ, Option.some.injEq, exists_eq_left, exists_eq_left', true_and, and_true, wipeE, D.bl.injEq, D.int.injEq, D.str.injEq, D.tup.injEq, D.lst.injEq, Bool.not_true, decide_eq_true_eq, if_true, if_false, reduceIte, Bool.false_eq_true, Option.isNone_none, Option.isNone_some, Bool.not_false, List.length_nil, List.length_cons, List.nil_append, List.cons_append, D.ref.injEq, SO.lst.injEq, pCall, exists_const, and_self, Nat.zero_add, Nat.zero_le, Nat.reduceLeDiff, Nat.reduceAdd, eq_self, o_add, o_sub, o_mul, o_div, o_mod, o_cmp, o_int, o_lenl, o_lent, o_lens, o_tupl, o_tupt, o_min, o_max, q_int, ixk_tup, ixk_lst, ixk_scr, at0, at1, at2, at3, at4, at5, List.length_map, ln0, ln1, ln2, ln3, ln4, lnS0, lnS2, lnS4, q_id, q_ido, q_oi, q_oid, q_path, q_ln, q_ls, n_id, n_path, n_ln, n_ls, non_oid, non_oln, non_oct, non_id, non_ln, non_ct, non_path, un_ln, un_pl, in_ids, ad_path, eOp_s, eOp_n, lstk_ls, st_ls]
      exact h
  cases hr : firstRep ls hs with
  | none =>
    have ht : textIn ls id pl ct meant hs = withNew ls id pl ct meant := by
      unfold textIn
      rw [hr]
    simp only [pSeq, pAsg, pVar, pC, pOp, pNil, pCons, pTup, pLst, pLstM, pNot, pAndV, pOrV, pIf, pB, pAnd, pOr, pNotT, pNoPart, pPart, pCB, pUnN, pSl, pNext, pBreak, pCont, pRet, pRetN, pDrop, pIfS, pgName, pgNil, pgCons, pgTup_t, pAug, pApp, pYes, isk_non, nsk_non, isN_non, isN_bl, isN_int, isN_str, isN_tup, isN_lst, isN_ref, isN_obj, pTru, pFld, pStar, pMake, pSetF, pIt, pRng1, pRng2, forG, List.map_cons, List.map_nil, List.getElem?_cons_zero, List.getElem?_cons_succ, List.set_cons_zero, List.set_cons_succ, Option.some.injEq, exists_eq_left, exists_eq_left', true_and, and_true, wipeE, D.bl.injEq, D.int.injEq, D.str.injEq, D.tup.injEq, D.lst.injEq, Bool.not_true, decide_eq_true_eq, if_true, if_false, reduceIte, Bool.false_eq_true, Option.isNone_none, Option.isNone_some, Bool.not_false, List.length_nil, List.length_cons, List.nil_append, List.cons_append, D.ref.injEq, SO.lst.injEq, pCall, exists_const, and_self, Nat.zero_add, Nat.zero_le, Nat.reduceLeDiff, Nat.reduceAdd, eq_self, o_add, o_sub, o_mul, o_div, o_mod, o_cmp, o_int, o_lenl, o_lent, o_lens, o_tupl, o_tupt, o_min, o_max, q_int, ixk_tup, ixk_lst, ixk_scr, at0, at1, at2, at3, at4, at5, List.length_map, ln0, ln1, ln2, ln3, ln4, lnS0, lnS2, lnS4, q_id, q_ido, q_oi, q_oid, q_path, q_ln, q_ls, n_id, n_path, n_ln, n_ls, non_oid, non_oln, non_oct, non_id, non_ln, non_ct, non_path, un_ln, un_pl, in_ids, ad_path, eOp_s, eOp_n, lstk_ls, st_ls]
    refine call_of (by simp only [pureAll, pu_ls, pu_lsl, pu_oid, pu_id, pu_ln, pu_oln, pu_pl, pu_ed, pu_eds, pu_idst, pu_path, pu_oct, pu_mv, pu_mvs, pu_str, pu_int, pu_bl, pu_non, eOp_s, eOp_n, Bool.and_self]) ⟨ls, id, pl, ct, meant, hs, rfl, hl, ?_⟩
    unfold pr_after_text_1
    simp only [pSeq, pAsg, pVar, pC, pOp, pNil, pCons, pTup, pLst, pLstM, pNot, pAndV, pOrV, pIf, pB, pAnd, pOr, pNotT, pNoPart, pPart, pCB, pUnN, pSl, pNext, pBreak, pCont, pRet, pRetN, pDrop, pIfS, pgName, pgNil, pgCons, pgTup_t, pAug, pApp, pYes, isk_non, nsk_non, isN_non, isN_bl, isN_int, isN_str, isN_tup, isN_lst, isN_ref, isN_obj, pTru, pFld, pStar, pMake, pSetF, pIt, pRng1, pRng2, forG, List.map_cons, List.map_nil, List.getElem?_cons_zero, List.getElem?_cons_succ, List.set_cons_zero, List.set_cons_succ, Option.some.injEq, exists_eq_left, exists_eq_left', true_and, and_true, wipeE, D.bl.injEq, D.int.injEq, D.str.injEq, D.tup.injEq, D.lst.injEq, Bool.not_true, decide_eq_true_eq, if_true, if_false, reduceIte, Bool.false_eq_true, Option.isNone_none, Option.isNone_some, Bool.not_false, List.length_nil, List.length_cons, List.nil_append, List.cons_append, D.ref.injEq, SO.lst.injEq, pCall, exists_const, and_self, Nat.zero_add, Nat.zero_le, Nat.reduceLeDiff, Nat.reduceAdd, eq_self, o_add, o_sub, o_mul, o_div, o_mod, o_cmp, o_int, o_lenl, o_lent, o_lens, o_tupl, o_tupt, o_min, o_max, q_int, ixk_tup, ixk_lst, ixk_scr, at0, at1, at2, at3, at4, at5, List.length_map, ln0, ln1, ln2, ln3, ln4, lnS0, lnS2, lnS4, q_id, q_ido, q_oi, q_oid, q_path, q_ln, q_ls, n_id, n_path, n_ln, n_ls, non_oid, non_oln, non_oct, non_id, non_ln, non_ct, non_path, un_ln, un_pl, in_ids, ad_path, eOp_s, eOp_n, lstk_ls, st_ls]
    refine fin _ _ rfl rfl rfl ?_
    have p2 : pureAll [eLs (withNew ls id pl ct meant), .lst ((hs.filter fun h => !decide (h = id)).map eId)] = true := by
      have : (D.lst ((hs.filter fun h => !decide (h = id)).map eId)).pure = true := pu_ids _
      simp only [pureAll, pu_ls, this, Bool.and_self]
    refine call_of p2 ⟨_, hs.filter fun h => !decide (h = id), _, rfl, .inl rfl, ?_, ?_⟩
    · rw [← ht]
      exact hsh
    · unfold afterText at hk
      rw [ht] at hk
      exact rt_pure (pu_ls _) hk
  | some c =>
    have ht : textIn ls id pl ct meant hs = ls.map fun k => if k.id = c.id then ⟨c.id, id, c.ins, c.path, ct⟩ else k := by
      unfold textIn
      rw [hr]
    simp only [pSeq, pAsg, pVar, pC, pOp, pNil, pCons, pTup, pLst, pLstM, pNot, pAndV, pOrV, pIf, pB, pAnd, pOr, pNotT, pNoPart, pPart, pCB, pUnN, pSl, pNext, pBreak, pCont, pRet, pRetN, pDrop, pIfS, pgName, pgNil, pgCons, pgTup_t, pAug, pApp, pYes, isk_non, nsk_non, isN_non, isN_bl, isN_int, isN_str, isN_tup, isN_lst, isN_ref, isN_obj, pTru, pFld, pStar, pMake, pSetF, pIt, pRng1, pRng2, forG, List.map_cons, List.map_nil, List.getElem?_cons_zero, List.getElem?_cons_succ, List.set_cons_zero, List.set_cons_succ, Option.some.injEq, exists_eq_left, exists_eq_left', true_and, and_true, wipeE, D.bl.injEq, D.int.injEq, D.str.injEq, D.tup.injEq, D.lst.injEq, Bool.not_true, decide_eq_true_eq, if_true, if_false, reduceIte, Bool.false_eq_true, Option.isNone_none, Option.isNone_some, Bool.not_false, List.length_nil, List.length_cons, List.nil_append, List.cons_append, D.ref.injEq, SO.lst.injEq, pCall, exists_const, and_self, Nat.zero_add, Nat.zero_le, Nat.reduceLeDiff, Nat.reduceAdd, eq_self, o_add, o_sub, o_mul, o_div, o_mod, o_cmp, o_int, o_lenl, o_lent, o_lens, o_tupl, o_tupt, o_min, o_max, q_int, ixk_tup, ixk_lst, ixk_scr, at0, at1, at2, at3, at4, at5, List.length_map, ln0, ln1, ln2, ln3, ln4, lnS0, lnS2, lnS4, q_id, q_ido, q_oi, q_oid, q_path, q_ln, q_ls, n_id, n_path, n_ln, n_ls, non_oid, non_oln, non_oct, non_id, non_ln, non_ct, non_path, un_ln, un_pl, in_ids, ad_path, eOp_s, eOp_n, lstk_ls, st_ls]
    refine lc_go (src := eLs ls) (as := ls) (enc := eLn) (fun _ => true) (fun k => eLn (if k.id = c.id then ⟨c.id, id, c.ins, c.path, ct⟩ else k)) (fun kk h => ⟨_, rfl, _, rfl, h⟩) (fun _ => rfl) (by omega) (fun a ha k2 k3 h => ?_) ?_
    · rw [if_pos rfl] at h
      simp only [pSeq, pAsg, pVar, pC, pOp, pNil, pCons, pTup, pLst, pLstM, pNot, pAndV, pOrV, pIf, pB, pAnd, pOr, pNotT, pNoPart, pPart, pCB, pUnN, pSl, pNext, pBreak, pCont, pRet, pRetN, pDrop, pIfS, pgName, pgNil, pgCons, pgTup_t, pAug, pApp, pYes, isk_non, nsk_non, isN_non, isN_bl, isN_int, isN_str, isN_tup, isN_lst, isN_ref, isN_obj, pTru, pFld, pStar, pMake, pSetF, pIt, pRng1, pRng2, forG, List.map_cons, List.map_nil, List.getElem?_cons_zero, List.getElem?_cons_succ, List.set_cons_zero, List.set_cons_succ, Option.some.injEq, exists_eq_left, exists_eq_left', true_and, and_true, wipeE, D.bl.injEq, D.int.injEq, D.str.injEq, D.tup.injEq, D.lst.injEq, Bool.not_true, decide_eq_true_eq, if_true, if_false, reduceIte, Bool.false_eq_true, Option.isNone_none, Option.isNone_some, Bool.not_false, List.length_nil, List.length_cons, List.nil_append, List.cons_append, D.ref.injEq, SO.lst.injEq, pCall, exists_const, and_self, Nat.zero_add, Nat.zero_le, Nat.reduceLeDiff, Nat.reduceAdd, eq_self, o_add, o_sub, o_mul, o_div, o_mod, o_cmp, o_int, o_lenl, o_lent, o_lens, o_tupl, o_tupt, o_min, o_max, q_int, ixk_tup, ixk_lst, ixk_scr, at0, at1, at2, at3, at4, at5, List.length_map, ln0, ln1, ln2, ln3, ln4, lnS0, lnS2, lnS4, q_id, q_ido, q_oi, q_oid, q_path, q_ln, q_ls, n_id, n_path, n_ln, n_ls, non_oid, non_oln, non_oct, non_id, non_ln, non_ct, non_path, un_ln, un_pl, in_ids, ad_path, eOp_s, eOp_n, lstk_ls, st_ls]
      by_cases e : a.id = c.id
      · rw [if_pos e] at h ⊢
        exact h
      · rw [if_neg e] at h ⊢
        exact h
    · rw [flt_all]
      have e : (ls.map fun k => eLn (if k.id = c.id then ⟨c.id, id, c.ins, c.path, ct⟩ else k)) = (textIn ls id pl ct meant hs).map eLn := by
        rw [ht, List.map_map]
        rfl
      rw [e]
      unfold pr_after_text_1
      simp only [pSeq, pAsg, pVar, pC, pOp, pNil, pCons, pTup, pLst, pLstM, pNot, pAndV, pOrV, pIf, pB, pAnd, pOr, pNotT, pNoPart, pPart, pCB, pUnN, pSl, pNext, pBreak, pCont, pRet, pRetN, pDrop, pIfS, pgName, pgNil, pgCons, pgTup_t, pAug, pApp, pYes, isk_non, nsk_non, isN_non, isN_bl, isN_int, isN_str, isN_tup, isN_lst, isN_ref, isN_obj, pTru, pFld, pStar, pMake, pSetF, pIt, pRng1, pRng2, forG, List.map_cons, List.map_nil, List.getElem?_cons_zero, List.getElem?_cons_succ, List.set_cons_zero, List.set_cons_succ, Option.some.injEq, exists_eq_left, exists_eq_left', true_and, and_true, wipeE, D.bl.injEq, D.int.injEq, D.str.injEq, D.tup.injEq, D.lst.injEq, Bool.not_true, decide_eq_true_eq, if_true, if_false, reduceIte, Bool.false_eq_true, Option.isNone_none, Option.isNone_some, Bool.not_false, List.length_nil, List.length_cons, List.nil_append, List.cons_append, D.ref.injEq, SO.lst.injEq, pCall, exists_const, and_self, Nat.zero_add, Nat.zero_le, Nat.reduceLeDiff, Nat.reduceAdd, eq_self, o_add, o_sub, o_mul, o_div, o_mod, o_cmp, o_int, o_lenl, o_lent, o_lens, o_tupl, o_tupt, o_min, o_max, q_int, ixk_tup, ixk_lst, ixk_scr, at0, at1, at2, at3, at4, at5, List.length_map, ln0, ln1, ln2, ln3, ln4, lnS0, lnS2, lnS4, q_id, q_ido, q_oi, q_oid, q_path, q_ln, q_ls, n_id, n_path, n_ln, n_ls, non_oid, non_oln, non_oct, non_id, non_ln, non_ct, non_path, un_ln, un_pl, in_ids, ad_path, eOp_s, eOp_n, lstk_ls, st_ls]
      refine fin _ _ rfl rfl rfl ?_
      have p2 : pureAll [eLs (textIn ls id pl ct meant hs), .lst ((hs.filter fun h => !decide (h = id)).map eId)] = true := by
        have : (D.lst ((hs.filter fun h => !decide (h = id)).map eId)).pure = true := pu_ids _
        simp only [pureAll, pu_ls, this, Bool.and_self]
      exact call_of p2 ⟨_, hs.filter fun h => !decide (h = id), _, rfl, .inl rfl, hsh, rt_pure (pu_ls _) hk⟩
theorem ok_after_text {P : Program} {w : World} {K : PySem.W.Frag} {cl : Cl} {mg : Str → Option Value} {base : Heap} (D : Df K mg "after_text" s_after_text ["lines", "edit"]) (T : Txt K cl mg) (hw : cl.w = w) (G_without_heads : C8.Cal P w K mg base 2 "without_heads" (spP K cl F_without_heads) []) (G_with_new_line : C8.Cal P w K mg base 3 "with_new_line" (spP K cl F_with_new_line) []) (G_first_replaced : C8.Cal P w K mg base 1 "first_replaced" (spP K cl F_first_replaced) []) : C8.Cal P w K mg base 4 "after_text" (spP K cl F_after_text) [] := by
  subst hw
  refine D.cal sc_after_text (spP_len (n := 2) len_after_text) (fun f cdv A outer s H vs Q E hr h => ?_)
  refine ⟨_,
    (pss_cons (ps_asg (pv 1) (pg_tup rfl (pgs_cons (pg_name (i := 2) sc_after_text.nd rfl (Or.inl rfl)) (pgs_cons (pg_name (i := 3) sc_after_text.nd rfl (Or.inr rfl)) (pgs_cons (pg_name (i := 2) sc_after_text.nd rfl (Or.inl rfl)) (pgs_cons (pg_name (i := 4) sc_after_text.nd rfl (Or.inl rfl)) (pgs_cons (pg_name (i := 2) sc_after_text.nd rfl (Or.inl rfl)) (pgs_cons (pg_name (i := 5) sc_after_text.nd rfl (Or.inl rfl)) pgs_nil))))))))
    (pss_cons (ps_set (i := 6) sc_after_text.nd rfl (.inl rfl) (C8.pe_c G_first_replaced hr (by decide) (by rfl) (pa_cons (pv 0) (pa_cons (pv 5) pa_nil))))
    (pss_cons (ps_if (pt_cmpR op_isN (pv 6) pe_non (nomark _))
      (pss_one (ps_set (i := 0) sc_after_text.nd rfl (.inl rfl) (C8.pe_c G_with_new_line hr (by decide) (by rfl) (pa_cons (pv 0) (pa_cons (pv 1) pa_nil)))))
      (pss_cons (ps_asg (pv 6) (pg_tup rfl (pgs_cons (pg_name (i := 7) sc_after_text.nd rfl (Or.inr rfl)) (pgs_cons (pg_name (i := 2) sc_after_text.nd rfl (Or.inl rfl)) (pgs_cons (pg_name (i := 8) sc_after_text.nd rfl (Or.inl rfl)) (pgs_cons (pg_name (i := 9) sc_after_text.nd rfl (Or.inl rfl)) (pgs_cons (pg_name (i := 2) sc_after_text.nd rfl (Or.inl rfl)) pgs_nil)))))))
      (pss_cons (ps_set (i := 10) sc_after_text.nd rfl (.inr rfl) (pe_tup (pa_cons (pv 7) (pa_cons (pv 3) (pa_cons (pv 8) (pa_cons (pv 9) (pa_cons (pv 4) pa_nil)))))))
      (pss_one (ps_setLc (i := 0) (own := [("known", 11)]) (g := gName 11) (tt := tYes) rfl sc_after_text.nd rfl rfl (sw_true rfl rfl rfl (by decide +kernel)) (show PI _ _ _ (uIt K _) from upi (pv 0)) (blkOk_by (own := [("known", 11)]) (N := ["lines", "edit", "_", "edit_id", "content", "replaces", "continued", "line_id", "inside", "below", "row", "known", "head"]) (sc := defScope s_after_text) (by decide +kernel)) (fun _ _ _ _ _ => (pg_name (i := 11) sc_after_text.nd rfl (Or.inl rfl))) (fun _ _ _ _ _ => pts_nil) (fun _ _ _ _ _ => (pe_ifExp (pt_cmpR (show OpR _ _ (rEqP K) from op_eqP hr.units) (pe_ix (show IxR _ (uIx K) from uix) (pv 11) pe_int (fun _ _ => rfl)) (pv 7) (nomark _)) (pv 10) (pv 11))))))))
    (pss_one (ps_ret (C8.pe_c G_without_heads hr (by decide) (by rfl) (pa_cons (pv 0) (pa_cons (pe_lc (own := [("head", 12)]) (g := gName 12) rfl sc_after_text.nd (show PI _ _ _ (uIt K _) from upi (pv 5)) (blkOk_by (own := [("head", 12)]) (N := ["lines", "edit", "_", "edit_id", "content", "replaces", "continued", "line_id", "inside", "below", "row", "known", "head"]) (sc := defScope s_after_text) (by decide +kernel)) (fun _ _ _ _ _ => (pg_name (i := 12) sc_after_text.nd rfl (Or.inl rfl))) (fun _ _ _ _ _ => (pts_one (pt_cmpR (show OpR _ _ (rNeP K) from op_neP hr.units) (pv 12) (pv 3) (nomark _)))) (fun _ _ _ _ _ => (pv 12))) pa_nil)))))))), ?_⟩
  exact fn_ok (N := ["lines", "edit", "_", "edit_id", "content", "replaces", "continued", "line_id", "inside", "below", "row", "known", "head"]) (show SmS K cl _ ps_after_text from
    (sm_seq (sm_asg sm_var (sm_gtup (sm_gcons sm_gname (sm_gcons sm_gname (sm_gcons sm_gname (sm_gcons sm_gname (sm_gcons sm_gname (sm_gcons sm_gname sm_gnil))))))))
    (sm_seq (sm_asg (sm_call (sm_cons sm_var (sm_cons sm_var sm_nil))) sm_gname)
    (sm_seq (sm_ifS (sm_test (sm_op smr_is sm_var sm_non))
      ((sm_asg (sm_call (sm_cons sm_var (sm_cons sm_var sm_nil))) sm_gname))
      (sm_seq (sm_asg sm_var (sm_gtup (sm_gcons sm_gname (sm_gcons sm_gname (sm_gcons sm_gname (sm_gcons sm_gname (sm_gcons sm_gname sm_gnil)))))))
      (sm_seq (sm_asg (sm_tup (sm_cons sm_var (sm_cons sm_var (sm_cons sm_var (sm_cons sm_var (sm_cons sm_var sm_nil)))))) sm_gname)
      ((sm_asg (sm_lc (sm_it sm_var) (gok_name (by decide)) sm_gname sm_yes (sm_if (sm_test (sm_op smr_eq (sm_op smr_ix sm_var sm_int) sm_var)) sm_var sm_var)) sm_gname)))))
    ((sm_ret (sm_call (sm_cons sm_var (sm_cons (sm_lc (sm_it sm_var) (gok_name (by decide)) sm_gname (sm_test (sm_op smr_ne sm_var sm_var)) sm_var) sm_nil))))))))) body_after_text h
/-! ### after_move -/
def pl_after_move_1 : PSx :=
      ((pAsg (pCall F_move_line (pCons (pVar 0) (pCons (pVar 2) (pCons (pVar 3) (pCons (pVar 4) pNil))))) (pgName 0)))
theorem pl_after_move_1_d (P : PEnds) (env : Pw.Env) (S : Sto) : pl_after_move_1 P env S = (
      ((pAsg (pCall F_move_line (pCons (pVar 0) (pCons (pVar 2) (pCons (pVar 3) (pCons (pVar 4) pNil))))) (pgName 0)))) P env S := rfl
def ps_after_move : PSx :=
    (pSeq (pFor (pIt (pOp ixk (pVar 1) (pC (.int 2)))) (pgTup 3 (pgCons (pgName 2) (pgCons (pgName 3) (pgCons (pgName 4) pgNil)))) pl_after_move_1)
    ((pRet (pVar 0))))
theorem start_after_move : ∀ a0 a1 : D, startE 5 [a0, a1] = [some a0, some a1, none, none, none] := fun _ _ => rfl
theorem loop_after_move (e : D) (P : PEnds) : ∀ (ms : List Mv) (ls ls' : List Line) (x1 x2 x3 : Option D), MvsR ls ms ls' →
    (∀ x1 x2 x3, P.nx [some (eLs ls'), some e, x1, x2, x3] []) → forG (pgTup 3 (pgCons (pgName 2) (pgCons (pgName 3) (pgCons (pgName 4) pgNil)))) pl_after_move_1 P (ms.map eMv) [some (eLs ls), some e, x1, x2, x3] [] := by
  intro ms
  induction ms with
  | nil =>
    intro ls ls' x1 x2 x3 hm h
    cases hm
    exact h x1 x2 x3
  | cons a ms ih =>
    intro ls ls' x1 x2 x3 hm h
    cases hm with
    | @cons _ ls1 _ _ _ hs h1 h2 =>
      unfold pl_after_move_1
      simp only [pSeq, pAsg, pVar, pC, pOp, pNil, pCons, pTup, pLst, pLstM, pNot, pAndV, pOrV, pIf, pB, pAnd, pOr, pNotT, pNoPart, pPart, pCB, pUnN, pSl, pNext, pBreak, pCont, pRet, pRetN, pDrop, pIfS, pgName, pgNil, pgCons, pgTup_t, pAug, pApp, pYes, isk_non, nsk_non, isN_non, isN_bl, isN_int, isN_str, isN_tup, isN_lst, isN_ref, isN_obj, pTru, pFld, pStar, pMake, pSetF, pIt, pRng1, pRng2, forG, List.map_cons, List.map_nil, List.getElem?_cons_zero, List.getElem?_cons_succ, List.set_cons_zero, List.set_cons_succ, Option.some.injEq, exists_eq_left, exists_eq_left', true_and, and_true, wipeE, D.bl.injEq, D.int.injEq, D.str.injEq, D.tup.injEq, D.lst.injEq, Bool.not_true, decide_eq_true_eq, if_true, if_false, reduceIte, Bool.false_eq_true, Option.isNone_none, Option.isNone_some, Bool.not_false, List.length_nil, List.length_cons, List.nil_append, List.cons_append, D.ref.injEq, SO.lst.injEq, pCall, exists_const, and_self, Nat.zero_add, Nat.zero_le, Nat.reduceLeDiff, Nat.reduceAdd, eq_self, o_add, o_sub, o_mul, o_div, o_mod, o_cmp, o_int, o_lenl, o_lent, o_lens, o_tupl, o_tupt, o_min, o_max, q_int, ixk_tup, ixk_lst, ixk_scr, at0, at1, at2, at3, at4, at5, List.length_map, ln0, ln1, ln2, ln3, ln4, lnS0, lnS2, lnS4, q_id, q_ido, q_oi, q_oid, q_path, q_ln, q_ls, n_id, n_path, n_ln, n_ls, non_oid, non_oln, non_oct, non_id, non_ln, non_ct, non_path, un_ln, un_pl, in_ids, ad_path, eOp_s, eOp_n, lstk_ls, st_ls, eMv]
      exact call_of (by simp only [pureAll, pu_ls, pu_lsl, pu_oid, pu_id, pu_ln, pu_oln, pu_pl, pu_ed, pu_eds, pu_idst, pu_path, pu_oct, pu_mv, pu_mvs, pu_str, pu_int, pu_bl, pu_non, eOp_s, eOp_n, Bool.and_self]) ⟨ls, a, ls1, rfl, hs.1, h1, ih ls1 ls' _ _ _ h2 h⟩
def F_after_move : PFn := fun ds k => ∃ ls id ms ls', ds = [eLs ls, eEd (.move id ms)] ∧ MvsR ls ms ls' ∧ k (eLs ls')
theorem len_after_move : ∀ ds k, F_after_move ds k → ds.length = 2 := by
  rintro _ _ ⟨_, _, _, _, rfl, _⟩
  rfl
theorem body_after_move : ∀ ds k, F_after_move ds k → ps_after_move { nx := fun _ _ => k .non, rt := fun d S => (d.frz S).noRef = true ∧ k (d.frz S) } (startE 5 ds) [] := by
  rintro _ k ⟨ls, id, ms, ls', rfl, hm, hk⟩
  rw [start_after_move]
  unfold ps_after_move
  refine for_go (src := .tup (ms.map eMv)) (ds := ms.map eMv) (fun kk h => ?_) (fun S => rfl) (loop_after_move _ _ ms ls ls' _ _ _ hm fun x1 x2 x3 => ?_)
  · simp only [pSeq, pAsg, pVar, pC, pOp, pNil, pCons, pTup, pLst, pLstM, pNot, pAndV, pOrV, pIf, pB, pAnd, pOr, pNotT, pNoPart, pPart, pCB, pUnN, pSl, pNext, pBreak, pCont, pRet, pRetN, pDrop, pIfS, pgName, pgNil, pgCons, pgTup_t, pAug, pApp, pYes, isk_non, nsk_non, isN_non, isN_bl, isN_int, isN_str, isN_tup, isN_lst, isN_ref, isN_obj, pTru, pFld, pStar, pMake, pSetF, pIt, pRng1, pRng2, forG, List.map_cons, List.map_nil, List.getElem?_cons_zero, List.getElem?_cons_succ, List.set_cons_zero, List.set_cons_succ, Option.some.injEq, exists_eq_left, exists_eq_left', true_and, and_true, wipeE, D.bl.injEq, D.int.injEq, D.str.injEq, D.tup.injEq, D.lst.injEq, Bool.not_true, decide_eq_true_eq, if_true, if_false, reduceIte, Bool.false_eq_true, Option.isNone_none, Option.isNone_some, Bool.not_false, List.length_nil, List.length_cons, List.nil_append, List.cons_append, D.ref.injEq, SO.lst.injEq, pCall, exists_const, and_self, Nat.zero_add, Nat.zero_le, Nat.reduceLeDiff, Nat.reduceAdd, eq_self, o_add, o_sub, o_mul, o_div, o_mod, o_cmp, o_int, o_lenl, o_lent, o_lens, o_tupl, o_tupt, o_min, o_max, q_int, ixk_tup, ixk_lst, ixk_scr, at0, at1, at2, at3, at4, at5, List.length_map, ln0, ln1, ln2, ln3, ln4, lnS0, lnS2, lnS4, q_id, q_ido, q_oi, q_oid, q_path, q_ln, q_ls, n_id, n_path, n_ln, n_ls, non_oid, non_oln, non_oct, non_id, non_ln, non_ct, non_path, un_ln, un_pl, in_ids, ad_path, eOp_s, eOp_n, lstk_ls, st_ls, eEd, ixk_tup, at2]
    exact ⟨_, rfl, h⟩
  · simp only [pSeq, pAsg, pVar, pC, pOp, pNil, pCons, pTup, pLst, pLstM, pNot, pAndV, pOrV, pIf, pB, pAnd, pOr, pNotT, pNoPart, pPart, pCB, pUnN, pSl, pNext, pBreak, pCont, pRet, pRetN, pDrop, pIfS, pgName, pgNil, pgCons, pgTup_t, pAug, pApp, pYes, isk_non, nsk_non, isN_non, isN_bl, isN_int, isN_str, isN_tup, isN_lst, isN_ref, isN_obj, pTru, pFld, pStar, pMake, pSetF, pIt, pRng1, pRng2, forG, List.map_cons, List.map_nil, List.getElem?_cons_zero, List.getElem?_cons_succ, List.set_cons_zero, List.set_cons_succ, Option.some.injEq, exists_eq_left, exists_eq_left', true_and, and_true, wipeE, D.bl.injEq, D.int.injEq, D.str.injEq, D.tup.injEq, D.lst.injEq, Bool.not_true, decide_eq_true_eq, if_true, if_false, reduceIte, Bool.false_eq_true, Option.isNone_none, Option.isNone_some, Bool.not_false, List.length_nil, List.length_cons, List.nil_append, List.cons_append, D.ref.injEq, SO.lst.injEq, pCall, exists_const, and_self, Nat.zero_add, Nat.zero_le, Nat.reduceLeDiff, Nat.reduceAdd, eq_self, o_add, o_sub, o_mul, o_div, o_mod, o_cmp, o_int, o_lenl, o_lent, o_lens, o_tupl, o_tupt, o_min, o_max, q_int, ixk_tup, ixk_lst, ixk_scr, at0, at1, at2, at3, at4, at5, List.length_map, ln0, ln1, ln2, ln3, ln4, lnS0, lnS2, lnS4, q_id, q_ido, q_oi, q_oid, q_path, q_ln, q_ls, n_id, n_path, n_ln, n_ls, non_oid, non_oln, non_oct, non_id, non_ln, non_ct, non_path, un_ln, un_pl, in_ids, ad_path, eOp_s, eOp_n, lstk_ls, st_ls]
    exact rt_pure (pu_ls _) hk
theorem ok_after_move {P : Program} {w : World} {K : PySem.W.Frag} {cl : Cl} {mg : Str → Option Value} {base : Heap} (D : Df K mg "after_move" s_after_move ["lines", "edit"]) (T : Txt K cl mg) (hw : cl.w = w) (G_move_line : C8.Cal P w K mg base 3 "move_line" (spP K cl F_move_line) []) : C8.Cal P w K mg base 4 "after_move" (spP K cl F_after_move) [] := by
  subst hw
  refine D.cal sc_after_move (spP_len (n := 2) len_after_move) (fun f cdv A outer s H vs Q E hr h => ?_)
  refine ⟨_,
    (pss_cons (ps_for PassesOwn.never rfl (show PI _ _ _ (uIt K _) from upi (pe_ix (show IxR _ (uIx K) from uix) (pv 1) pe_int (fun _ _ => rfl))) (pg_tup rfl (pgs_cons (pg_name (i := 2) sc_after_move.nd rfl (Or.inl rfl)) (pgs_cons (pg_name (i := 3) sc_after_move.nd rfl (Or.inl rfl)) (pgs_cons (pg_name (i := 4) sc_after_move.nd rfl (Or.inl rfl)) pgs_nil))))
      (pss_one (ps_set (i := 0) sc_after_move.nd rfl (.inl rfl) (C8.pe_c G_move_line hr (by decide) (by rfl) (pa_cons (pv 0) (pa_cons (pv 2) (pa_cons (pv 3) (pa_cons (pv 4) pa_nil))))))))
    (pss_one (ps_ret (pv 0)))), ?_⟩
  exact fn_ok (N := ["lines", "edit", "head", "line_id", "place"]) (show SmS K cl _ ps_after_move from
    (sm_seq (sm_for (sm_it (sm_op smr_ix sm_var sm_int)) (sm_gtup (sm_gcons sm_gname (sm_gcons sm_gname (sm_gcons sm_gname sm_gnil))))
      ((sm_asg (sm_call (sm_cons sm_var (sm_cons sm_var (sm_cons sm_var (sm_cons sm_var sm_nil))))) sm_gname)))
    ((sm_ret sm_var)))) body_after_move h
/-! ### lines_after -/
def ps_lines_after : PSx :=
    (pSeq (pAsg (pCB lstk (pCons (pVar 0) pNil)) (pgName 0))
    (pSeq (pIfS (pB (pOp eqk (pOp ixk (pVar 1) (pC (.int 0))) (pC (.str (Str.ofString "drop")))))
      ((pRet (pCall F_without_heads (pCons (pVar 0) (pCons (pOp ixk (pVar 1) (pC (.int 2))) pNil)))))
      pNext)
    (pSeq (pIfS (pB (pOp eqk (pOp ixk (pVar 1) (pC (.int 0))) (pC (.str (Str.ofString "move")))))
      ((pRet (pCall F_after_move (pCons (pVar 0) (pCons (pVar 1) pNil)))))
      pNext)
    (pSeq (pIfS (pB (pOp isk (pOp ixk (pVar 1) (pC (.int 3))) (pC .non)))
      ((pRet (pCall F_without_heads (pCons (pCall F_with_new_line (pCons (pVar 0) (pCons (pVar 1) pNil))) (pCons (pOp ixk (pVar 1) (pC (.int 5))) pNil)))))
      pNext)
    ((pRet (pCall F_after_text (pCons (pVar 0) (pCons (pVar 1) pNil)))))))))
theorem start_lines_after : ∀ a0 a1 : D, startE 2 [a0, a1] = [some a0, some a1] := fun _ _ => rfl
def F_lines_after : PFn := fun ds k => ∃ ls e ls', ds = [eLs ls, eEd e] ∧ AftR ls e ls' ∧ k (eLs ls')
theorem len_lines_after : ∀ ds k, F_lines_after ds k → ds.length = 2 := by
  rintro _ _ ⟨_, _, _, rfl, _⟩
  rfl
theorem w_dd : (Str.ofString "drop" = Str.ofString "drop") = True := by simp
theorem w_mm : (Str.ofString "move" = Str.ofString "move") = True := by simp
theorem w_md : (Str.ofString "move" = Str.ofString "drop") = False := by simp only [eq_iff_iff, iff_false]; decide +kernel
theorem w_wd : (Str.ofString "write" = Str.ofString "drop") = False := by simp only [eq_iff_iff, iff_false]; decide +kernel
theorem w_wm : (Str.ofString "write" = Str.ofString "move") = False := by simp only [eq_iff_iff, iff_false]; decide +kernel
theorem ed0 {e : Edit} {S : Sto} {k : D → Prop} : ixk S (eEd e) (.int 0) k = k (.str (match e with | .write .. => Str.ofString "write" | .drop .. => Str.ofString "drop" | .move .. => Str.ofString "move")) := by
  cases e <;> simp [eEd, ixk_tup, at0]
theorem ed2d {id : Ln.Id} {hs : List Ln.Id} {S : Sto} {k : D → Prop} : ixk S (eEd (.drop id hs)) (.int 2) k = k (eIds hs) := by simp [eEd, ixk_tup, at2]
theorem ed3 {id : Ln.Id} {pl : Ln.Place} {ct : Option Ct} {meant : Option Ln.Id} {hs : List Ln.Id} {S : Sto} {k : D → Prop} : ixk S (eEd (.write id pl ct meant hs)) (.int 3) k = k (eOp eCt ct) := by simp [eEd, ixk_tup, at3]
theorem ed5 {id : Ln.Id} {pl : Ln.Place} {ct : Option Ct} {meant : Option Ln.Id} {hs : List Ln.Id} {S : Sto} {k : D → Prop} : ixk S (eEd (.write id pl ct meant hs)) (.int 5) k = k (eIds hs) := by simp [eEd, ixk_tup, at5]
theorem body_lines_after : ∀ ds k, F_lines_after ds k → ps_lines_after { nx := fun _ _ => k .non, rt := fun d S => (d.frz S).noRef = true ∧ k (d.frz S) } (startE 2 ds) [] := by
  rintro _ k ⟨ls, e, ls', rfl, ha, hk⟩
  rw [start_lines_after]
  unfold ps_lines_after
  simp only [pSeq, pAsg, pVar, pC, pOp, pNil, pCons, pTup, pLst, pLstM, pNot, pAndV, pOrV, pIf, pB, pAnd, pOr, pNotT, pNoPart, pPart, pCB, pUnN, pSl, pNext, pBreak, pCont, pRet, pRetN, pDrop, pIfS, pgName, pgNil, pgCons, pgTup_t, pAug, pApp, pYes, isk_non, nsk_non, isN_non, isN_bl, isN_int, isN_str, isN_tup, isN_lst, isN_ref, isN_obj, pTru, pFld, pStar, pMake, pSetF, pIt, pRng1, pRng2, forG, List.map_cons, List.map_nil, List.getElem?_cons_zero, List.getElem?_cons_succ, List.set_cons_zero, List.set_cons_succ, Option.some.injEq, exists_eq_left, exists_eq_left', true_and, and_true, wipeE, D.bl.injEq, D.int.injEq, D.str.injEq, D.tup.injEq, D.lst.injEq, Bool.not_true, decide_eq_true_eq, if_true, if_false, reduceIte, Bool.false_eq_true, Option.isNone_none, Option.isNone_some, Bool.not_false, List.length_nil, List.length_cons, List.nil_append, List.cons_append, D.ref.injEq, SO.lst.injEq, pCall, exists_const, and_self, Nat.zero_add, Nat.zero_le, Nat.reduceLeDiff, Nat.reduceAdd, eq_self, o_add, o_sub, o_mul, o_div, o_mod, o_cmp, o_int, o_lenl, o_lent, o_lens, o_tupl, o_tupt, o_min, o_max, q_int, ixk_tup, ixk_lst, ixk_scr, at0, at1, at2, at3, at4, at5, List.length_map, ln0, ln1, ln2, ln3, ln4, lnS0, lnS2, lnS4, q_id, q_ido, q_oi, q_oid, q_path, q_ln, q_ls, n_id, n_path, n_ln, n_ls, non_oid, non_oln, non_oct, non_id, non_ln, non_ct, non_path, un_ln, un_pl, in_ids, ad_path, eOp_s, eOp_n, lstk_ls, st_ls, ed0, q_word]
  cases ha with
  | drop id hs hsh =>
    simp only [pSeq, pAsg, pVar, pC, pOp, pNil, pCons, pTup, pLst, pLstM, pNot, pAndV, pOrV, pIf, pB, pAnd, pOr, pNotT, pNoPart, pPart, pCB, pUnN, pSl, pNext, pBreak, pCont, pRet, pRetN, pDrop, pIfS, pgName, pgNil, pgCons, pgTup_t, pAug, pApp, pYes, isk_non, nsk_non, isN_non, isN_bl, isN_int, isN_str, isN_tup, isN_lst, isN_ref, isN_obj, pTru, pFld, pStar, pMake, pSetF, pIt, pRng1, pRng2, forG, List.map_cons, List.map_nil, List.getElem?_cons_zero, List.getElem?_cons_succ, List.set_cons_zero, List.set_cons_succ, Option.some.injEq, exists_eq_left, exists_eq_left', true_and, and_true, wipeE, D.bl.injEq, D.int.injEq, D.str.injEq, D.tup.injEq, D.lst.injEq, Bool.not_true, decide_eq_true_eq, if_true, if_false, reduceIte, Bool.false_eq_true, Option.isNone_none, Option.isNone_some, Bool.not_false, List.length_nil, List.length_cons, List.nil_append, List.cons_append, D.ref.injEq, SO.lst.injEq, pCall, exists_const, and_self, Nat.zero_add, Nat.zero_le, Nat.reduceLeDiff, Nat.reduceAdd, eq_self, o_add, o_sub, o_mul, o_div, o_mod, o_cmp, o_int, o_lenl, o_lent, o_lens, o_tupl, o_tupt, o_min, o_max, q_int, ixk_tup, ixk_lst, ixk_scr, at0, at1, at2, at3, at4, at5, List.length_map, ln0, ln1, ln2, ln3, ln4, lnS0, lnS2, lnS4, q_id, q_ido, q_oi, q_oid, q_path, q_ln, q_ls, n_id, n_path, n_ln, n_ls, non_oid, non_oln, non_oct, non_id, non_ln, non_ct, non_path, un_ln, un_pl, in_ids, ad_path, eOp_s, eOp_n, lstk_ls, st_ls, w_dd, ed2d]
    exact call_of (by simp only [pureAll, pu_ls, pu_lsl, pu_oid, pu_id, pu_ln, pu_oln, pu_pl, pu_ed, pu_eds, pu_idst, pu_path, pu_oct, pu_mv, pu_mvs, pu_str, pu_int, pu_bl, pu_non, eOp_s, eOp_n, Bool.and_self]) ⟨ls, hs, _, rfl, .inr rfl, hsh, rt_pure (pu_ls _) hk⟩
  | move id hm =>
    simp only [pSeq, pAsg, pVar, pC, pOp, pNil, pCons, pTup, pLst, pLstM, pNot, pAndV, pOrV, pIf, pB, pAnd, pOr, pNotT, pNoPart, pPart, pCB, pUnN, pSl, pNext, pBreak, pCont, pRet, pRetN, pDrop, pIfS, pgName, pgNil, pgCons, pgTup_t, pAug, pApp, pYes, isk_non, nsk_non, isN_non, isN_bl, isN_int, isN_str, isN_tup, isN_lst, isN_ref, isN_obj, pTru, pFld, pStar, pMake, pSetF, pIt, pRng1, pRng2, forG, List.map_cons, List.map_nil, List.getElem?_cons_zero, List.getElem?_cons_succ, List.set_cons_zero, List.set_cons_succ, Option.some.injEq, exists_eq_left, exists_eq_left', true_and, and_true, wipeE, D.bl.injEq, D.int.injEq, D.str.injEq, D.tup.injEq, D.lst.injEq, Bool.not_true, decide_eq_true_eq, if_true, if_false, reduceIte, Bool.false_eq_true, Option.isNone_none, Option.isNone_some, Bool.not_false, List.length_nil, List.length_cons, List.nil_append, List.cons_append, D.ref.injEq, SO.lst.injEq, pCall, exists_const, and_self, Nat.zero_add, Nat.zero_le, Nat.reduceLeDiff, Nat.reduceAdd, eq_self, o_add, o_sub, o_mul, o_div, o_mod, o_cmp, o_int, o_lenl, o_lent, o_lens, o_tupl, o_tupt, o_min, o_max, q_int, ixk_tup, ixk_lst, ixk_scr, at0, at1, at2, at3, at4, at5, List.length_map, ln0, ln1, ln2, ln3, ln4, lnS0, lnS2, lnS4, q_id, q_ido, q_oi, q_oid, q_path, q_ln, q_ls, n_id, n_path, n_ln, n_ls, non_oid, non_oln, non_oct, non_id, non_ln, non_ct, non_path, un_ln, un_pl, in_ids, ad_path, eOp_s, eOp_n, lstk_ls, st_ls, w_md, w_mm]
    exact call_of (by simp only [pureAll, pu_ls, pu_lsl, pu_oid, pu_id, pu_ln, pu_oln, pu_pl, pu_ed, pu_eds, pu_idst, pu_path, pu_oct, pu_mv, pu_mvs, pu_str, pu_int, pu_bl, pu_non, eOp_s, eOp_n, Bool.and_self]) ⟨ls, id, _, ls', rfl, hm, rt_pure (pu_ls _) hk⟩
  | mark id pl meant hs hl hsh =>
    simp only [pSeq, pAsg, pVar, pC, pOp, pNil, pCons, pTup, pLst, pLstM, pNot, pAndV, pOrV, pIf, pB, pAnd, pOr, pNotT, pNoPart, pPart, pCB, pUnN, pSl, pNext, pBreak, pCont, pRet, pRetN, pDrop, pIfS, pgName, pgNil, pgCons, pgTup_t, pAug, pApp, pYes, isk_non, nsk_non, isN_non, isN_bl, isN_int, isN_str, isN_tup, isN_lst, isN_ref, isN_obj, pTru, pFld, pStar, pMake, pSetF, pIt, pRng1, pRng2, forG, List.map_cons, List.map_nil, List.getElem?_cons_zero, List.getElem?_cons_succ, List.set_cons_zero, List.set_cons_succ, Option.some.injEq, exists_eq_left, exists_eq_left', true_and, and_true, wipeE, D.bl.injEq, D.int.injEq, D.str.injEq, D.tup.injEq, D.lst.injEq, Bool.not_true, decide_eq_true_eq, if_true, if_false, reduceIte, Bool.false_eq_true, Option.isNone_none, Option.isNone_some, Bool.not_false, List.length_nil, List.length_cons, List.nil_append, List.cons_append, D.ref.injEq, SO.lst.injEq, pCall, exists_const, and_self, Nat.zero_add, Nat.zero_le, Nat.reduceLeDiff, Nat.reduceAdd, eq_self, o_add, o_sub, o_mul, o_div, o_mod, o_cmp, o_int, o_lenl, o_lent, o_lens, o_tupl, o_tupt, o_min, o_max, q_int, ixk_tup, ixk_lst, ixk_scr, at0, at1, at2, at3, at4, at5, List.length_map, ln0, ln1, ln2, ln3, ln4, lnS0, lnS2, lnS4, q_id, q_ido, q_oi, q_oid, q_path, q_ln, q_ls, n_id, n_path, n_ln, n_ls, non_oid, non_oln, non_oct, non_id, non_ln, non_ct, non_path, un_ln, un_pl, in_ids, ad_path, eOp_s, eOp_n, lstk_ls, st_ls, w_wd, w_wm, ed3, ed5]
    refine call_of (by simp only [pureAll, pu_ls, pu_lsl, pu_oid, pu_id, pu_ln, pu_oln, pu_pl, pu_ed, pu_eds, pu_idst, pu_path, pu_oct, pu_mv, pu_mvs, pu_str, pu_int, pu_bl, pu_non, eOp_s, eOp_n, Bool.and_self]) ⟨ls, id, pl, none, meant, hs, rfl, hl.1, ?_⟩
    exact call_of (by simp only [pureAll, pu_ls, pu_lsl, pu_oid, pu_id, pu_ln, pu_oln, pu_pl, pu_ed, pu_eds, pu_idst, pu_path, pu_oct, pu_mv, pu_mvs, pu_str, pu_int, pu_bl, pu_non, eOp_s, eOp_n, Bool.and_self]) ⟨_, hs, _, rfl, .inr rfl, hsh, rt_pure (pu_ls _) hk⟩
  | text id pl c meant hs hl hhs hsh =>
    simp only [pSeq, pAsg, pVar, pC, pOp, pNil, pCons, pTup, pLst, pLstM, pNot, pAndV, pOrV, pIf, pB, pAnd, pOr, pNotT, pNoPart, pPart, pCB, pUnN, pSl, pNext, pBreak, pCont, pRet, pRetN, pDrop, pIfS, pgName, pgNil, pgCons, pgTup_t, pAug, pApp, pYes, isk_non, nsk_non, isN_non, isN_bl, isN_int, isN_str, isN_tup, isN_lst, isN_ref, isN_obj, pTru, pFld, pStar, pMake, pSetF, pIt, pRng1, pRng2, forG, List.map_cons, List.map_nil, List.getElem?_cons_zero, List.getElem?_cons_succ, List.set_cons_zero, List.set_cons_succ, Option.some.injEq, exists_eq_left, exists_eq_left', true_and, and_true, wipeE, D.bl.injEq, D.int.injEq, D.str.injEq, D.tup.injEq, D.lst.injEq, Bool.not_true, decide_eq_true_eq, if_true, if_false, reduceIte, Bool.false_eq_true, Option.isNone_none, Option.isNone_some, Bool.not_false, List.length_nil, List.length_cons, List.nil_append, List.cons_append, D.ref.injEq, SO.lst.injEq, pCall, exists_const, and_self, Nat.zero_add, Nat.zero_le, Nat.reduceLeDiff, Nat.reduceAdd, eq_self, o_add, o_sub, o_mul, o_div, o_mod, o_cmp, o_int, o_lenl, o_lent, o_lens, o_tupl, o_tupt, o_min, o_max, q_int, ixk_tup, ixk_lst, ixk_scr, at0, at1, at2, at3, at4, at5, List.length_map, ln0, ln1, ln2, ln3, ln4, lnS0, lnS2, lnS4, q_id, q_ido, q_oi, q_oid, q_path, q_ln, q_ls, n_id, n_path, n_ln, n_ls, non_oid, non_oln, non_oct, non_id, non_ln, non_ct, non_path, un_ln, un_pl, in_ids, ad_path, eOp_s, eOp_n, lstk_ls, st_ls, w_wd, w_wm, ed3, ed5]
    exact call_of (by simp only [pureAll, pu_ls, pu_lsl, pu_oid, pu_id, pu_ln, pu_oln, pu_pl, pu_ed, pu_eds, pu_idst, pu_path, pu_oct, pu_mv, pu_mvs, pu_str, pu_int, pu_bl, pu_non, eOp_s, eOp_n, Bool.and_self]) ⟨ls, id, pl, some c, meant, hs, rfl, hl.1, hhs, hsh, rt_pure (pu_ls _) hk⟩
theorem ok_lines_after {P : Program} {w : World} {K : PySem.W.Frag} {cl : Cl} {mg : Str → Option Value} {base : Heap} (D : Df K mg "lines_after" s_lines_after ["lines", "edit"]) (T : Txt K cl mg) (hw : cl.w = w) (G_without_heads : C8.Cal P w K mg base 2 "without_heads" (spP K cl F_without_heads) []) (G_with_new_line : C8.Cal P w K mg base 3 "with_new_line" (spP K cl F_with_new_line) []) (G_after_text : C8.Cal P w K mg base 4 "after_text" (spP K cl F_after_text) []) (G_after_move : C8.Cal P w K mg base 4 "after_move" (spP K cl F_after_move) []) : C8.Cal P w K mg base 5 "lines_after" (spP K cl F_lines_after) [] := by
  subst hw
  refine D.cal sc_lines_after (spP_len (n := 2) len_lines_after) (fun f cdv A outer s H vs Q E hr h => ?_)
  refine ⟨_,
    (pss_cons (ps_set (i := 0) sc_lines_after.nd rfl (.inl rfl) (pe_callTy (show CallR _ (.type "list") (uLst K) from call_list_of) (by rfl) T.n_list (by decide +kernel) (pa_cons (pv 0) pa_nil)))
    (pss_cons (ps_if (pt_cmpR (show OpR _ _ (rEqP K) from op_eqP hr.units) (pe_ix (show IxR _ (uIx K) from uix) (pv 1) pe_int (fun _ _ => rfl)) pe_str (nomark _))
      (pss_one (ps_ret (C8.pe_c G_without_heads hr (by decide) (by rfl) (pa_cons (pv 0) (pa_cons (pe_ix (show IxR _ (uIx K) from uix) (pv 1) pe_int (fun _ _ => rfl)) pa_nil)))))
      pss_nil)
    (pss_cons (ps_if (pt_cmpR (show OpR _ _ (rEqP K) from op_eqP hr.units) (pe_ix (show IxR _ (uIx K) from uix) (pv 1) pe_int (fun _ _ => rfl)) pe_str (nomark _))
      (pss_one (ps_ret (C8.pe_c G_after_move hr (by decide) (by rfl) (pa_cons (pv 0) (pa_cons (pv 1) pa_nil)))))
      pss_nil)
    (pss_cons (ps_if (pt_cmpR op_isN (pe_ix (show IxR _ (uIx K) from uix) (pv 1) pe_int (fun _ _ => rfl)) pe_non (nomark _))
      (pss_one (ps_ret (C8.pe_c G_without_heads hr (by decide) (by rfl) (pa_cons (C8.pe_c G_with_new_line hr (by decide) (by rfl) (pa_cons (pv 0) (pa_cons (pv 1) pa_nil))) (pa_cons (pe_ix (show IxR _ (uIx K) from uix) (pv 1) pe_int (fun _ _ => rfl)) pa_nil)))))
      pss_nil)
    (pss_one (ps_ret (C8.pe_c G_after_text hr (by decide) (by rfl) (pa_cons (pv 0) (pa_cons (pv 1) pa_nil))))))))), ?_⟩
  exact fn_ok (N := ["lines", "edit"]) (show SmS K cl _ ps_lines_after from
    (sm_seq (sm_asg (sm_cb smc_lst (sm_cons sm_var sm_nil)) sm_gname)
    (sm_seq (sm_ifS (sm_test (sm_op smr_eq (sm_op smr_ix sm_var sm_int) sm_str))
      ((sm_ret (sm_call (sm_cons sm_var (sm_cons (sm_op smr_ix sm_var sm_int) sm_nil)))))
      sm_next)
    (sm_seq (sm_ifS (sm_test (sm_op smr_eq (sm_op smr_ix sm_var sm_int) sm_str))
      ((sm_ret (sm_call (sm_cons sm_var (sm_cons sm_var sm_nil)))))
      sm_next)
    (sm_seq (sm_ifS (sm_test (sm_op smr_is (sm_op smr_ix sm_var sm_int) sm_non))
      ((sm_ret (sm_call (sm_cons (sm_call (sm_cons sm_var (sm_cons sm_var sm_nil))) (sm_cons (sm_op smr_ix sm_var sm_int) sm_nil)))))
      sm_next)
    ((sm_ret (sm_call (sm_cons sm_var (sm_cons sm_var sm_nil)))))))))) body_lines_after h
/-! ### are_ascending -/
def pl_are_ascending_1 : PSx :=
      ((pIfS (pB (pOp (ordk (fun d e => !PySem.W.dataLt d e)) (pVar 1) (pVar 2)))
        ((pRet (pC (.bl false))))
        pNext))
theorem pl_are_ascending_1_d (P : PEnds) (env : Pw.Env) (S : Sto) : pl_are_ascending_1 P env S = (
      ((pIfS (pB (pOp (ordk (fun d e => !PySem.W.dataLt d e)) (pVar 1) (pVar 2)))
        ((pRet (pC (.bl false))))
        pNext))) P env S := rfl
def ps_are_ascending : PSx :=
    (pSeq (pFor (pZip (pCons (pVar 0) (pCons (pSl (pVar 0) (pPart (pC (.int 1))) pNoPart) pNil))) (pgTup 2 (pgCons (pgName 1) (pgCons (pgName 2) pgNil))) pl_are_ascending_1)
    ((pRet (pC (.bl true)))))
theorem start_are_ascending : ∀ a0 : D, startE 3 [a0] = [some a0, none, none] := fun _ => rfl
theorem o_ge {S : Sto} {a b : Ln.Id} {k : D → Prop} : ordk (fun d e => !PySem.W.dataLt d e) S (Le.eId a) (Le.eId b) k = k (.bl (!idLt a b)) := by
  show ((Le.eId a).pure = true ∧ (Le.eId b).pure = true ∧ PySem.W.alike (Ln.dId a) (Ln.dId b) = true ∧ Ln.dId a ≠ .none ∧ (Le.eId a).dep ≤ 60 ∧ k (.bl (!idLt a b))) = _
  have h1 : PySem.W.alike (Ln.dId a) (Ln.dId b) = true := rfl
  have h2 : Ln.dId a ≠ .none := nofun
  have h3 : (Le.eId a).dep ≤ 60 := Nat.le_trans (dp_id a) (by decide)
  simp only [pu_id, h1, h3, ne_eq, true_and]
  exact propext ⟨fun h => h.2, fun h => ⟨h2, h⟩⟩
theorem loop_are_ascending (l0 : D) (S : Sto) (P : PEnds) : ∀ (ps : List (Ln.Id × Ln.Id)) (x y : Option D), ((ps.all fun p => idLt p.1 p.2) = true → ∀ x y, P.nx [some l0, x, y] S) → ((ps.all fun p => idLt p.1 p.2) = false → P.rt (.bl false) S) →
    forG (pgTup 2 (pgCons (pgName 1) (pgCons (pgName 2) pgNil))) pl_are_ascending_1 P (ps.map fun p => .tup [Le.eId p.1, Le.eId p.2]) [some l0, x, y] S := by
  intro ps
  induction ps with
  | nil => exact fun x y h _ => h rfl x y
  | cons a ps ih =>
    intro x y h1 h2
    rw [List.all_cons] at h1 h2
    simp only [pSeq, pAsg, pVar, pC, pOp, pNil, pCons, pTup, pLst, pLstM, pNot, pAndV, pOrV, pIf, pB, pAnd, pOr, pNotT, pNoPart, pPart, pCB, pUnN, pSl, pNext, pBreak, pCont, pRet, pRetN, pDrop, pIfS, pgName, pgNil, pgCons, pgTup_t, pAug, pApp, pYes, isk_non, nsk_non, isN_non, isN_bl, isN_int, isN_str, isN_tup, isN_lst, isN_ref, isN_obj, pTru, pFld, pStar, pMake, pSetF, pIt, pRng1, pRng2, forG, List.map_cons, List.map_nil, List.getElem?_cons_zero, List.getElem?_cons_succ, List.set_cons_zero, List.set_cons_succ, Option.some.injEq, exists_eq_left, exists_eq_left', true_and, and_true, wipeE, D.bl.injEq, D.int.injEq, D.str.injEq, D.tup.injEq, D.lst.injEq, Bool.not_true, decide_eq_true_eq, if_true, if_false, reduceIte, Bool.false_eq_true, Option.isNone_none, Option.isNone_some, Bool.not_false, List.length_nil, List.length_cons, List.nil_append, List.cons_append, D.ref.injEq, SO.lst.injEq, pCall, exists_const, and_self, Nat.zero_add, Nat.zero_le, Nat.reduceLeDiff, Nat.reduceAdd, eq_self, o_add, o_sub, o_mul, o_div, o_mod, o_cmp, o_int, o_lenl, o_lent, o_lens, o_tupl, o_tupt, o_min, o_max, q_int, ixk_tup, ixk_lst, ixk_scr, at0, at1, at2, at3, at4, at5, List.length_map, ln0, ln1, ln2, ln3, ln4, lnS0, lnS2, lnS4, q_id, q_ido, q_oi, q_oid, q_path, q_ln, q_ls, n_id, n_path, n_ln, n_ls, non_oid, non_oln, non_oct, non_id, non_ln, non_ct, non_path, un_ln, un_pl, in_ids, ad_path, eOp_s, eOp_n, lstk_ls, st_ls, pl_are_ascending_1_d, o_ge]
    cases c : idLt a.1 a.2 with
    | true =>
      rw [c, Bool.true_and] at h1 h2
      simp only [pSeq, pAsg, pVar, pC, pOp, pNil, pCons, pTup, pLst, pLstM, pNot, pAndV, pOrV, pIf, pB, pAnd, pOr, pNotT, pNoPart, pPart, pCB, pUnN, pSl, pNext, pBreak, pCont, pRet, pRetN, pDrop, pIfS, pgName, pgNil, pgCons, pgTup_t, pAug, pApp, pYes, isk_non, nsk_non, isN_non, isN_bl, isN_int, isN_str, isN_tup, isN_lst, isN_ref, isN_obj, pTru, pFld, pStar, pMake, pSetF, pIt, pRng1, pRng2, forG, List.map_cons, List.map_nil, List.getElem?_cons_zero, List.getElem?_cons_succ, List.set_cons_zero, List.set_cons_succ, Option.some.injEq, exists_eq_left, exists_eq_left', true_and, and_true, wipeE, D.bl.injEq, D.int.injEq, D.str.injEq, D.tup.injEq, D.lst.injEq, Bool.not_true, decide_eq_true_eq, if_true, if_false, reduceIte, Bool.false_eq_true, Option.isNone_none, Option.isNone_some, Bool.not_false, List.length_nil, List.length_cons, List.nil_append, List.cons_append, D.ref.injEq, SO.lst.injEq, pCall, exists_const, and_self, Nat.zero_add, Nat.zero_le, Nat.reduceLeDiff, Nat.reduceAdd, eq_self, o_add, o_sub, o_mul, o_div, o_mod, o_cmp, o_int, o_lenl, o_lent, o_lens, o_tupl, o_tupt, o_min, o_max, q_int, ixk_tup, ixk_lst, ixk_scr, at0, at1, at2, at3, at4, at5, List.length_map, ln0, ln1, ln2, ln3, ln4, lnS0, lnS2, lnS4, q_id, q_ido, q_oi, q_oid, q_path, q_ln, q_ls, n_id, n_path, n_ln, n_ls, non_oid, non_oln, non_oct, non_id, non_ln, non_ct, non_path, un_ln, un_pl, in_ids, ad_path, eOp_s, eOp_n, lstk_ls, st_ls]
      exact ih _ _ h1 h2
    | false =>
      rw [c, Bool.false_and] at h2
      simp only [pSeq, pAsg, pVar, pC, pOp, pNil, pCons, pTup, pLst, pLstM, pNot, pAndV, pOrV, pIf, pB, pAnd, pOr, pNotT, pNoPart, pPart, pCB, pUnN, pSl, pNext, pBreak, pCont, pRet, pRetN, pDrop, pIfS, pgName, pgNil, pgCons, pgTup_t, pAug, pApp, pYes, isk_non, nsk_non, isN_non, isN_bl, isN_int, isN_str, isN_tup, isN_lst, isN_ref, isN_obj, pTru, pFld, pStar, pMake, pSetF, pIt, pRng1, pRng2, forG, List.map_cons, List.map_nil, List.getElem?_cons_zero, List.getElem?_cons_succ, List.set_cons_zero, List.set_cons_succ, Option.some.injEq, exists_eq_left, exists_eq_left', true_and, and_true, wipeE, D.bl.injEq, D.int.injEq, D.str.injEq, D.tup.injEq, D.lst.injEq, Bool.not_true, decide_eq_true_eq, if_true, if_false, reduceIte, Bool.false_eq_true, Option.isNone_none, Option.isNone_some, Bool.not_false, List.length_nil, List.length_cons, List.nil_append, List.cons_append, D.ref.injEq, SO.lst.injEq, pCall, exists_const, and_self, Nat.zero_add, Nat.zero_le, Nat.reduceLeDiff, Nat.reduceAdd, eq_self, o_add, o_sub, o_mul, o_div, o_mod, o_cmp, o_int, o_lenl, o_lent, o_lens, o_tupl, o_tupt, o_min, o_max, q_int, ixk_tup, ixk_lst, ixk_scr, at0, at1, at2, at3, at4, at5, List.length_map, ln0, ln1, ln2, ln3, ln4, lnS0, lnS2, lnS4, q_id, q_ido, q_oi, q_oid, q_path, q_ln, q_ls, n_id, n_path, n_ln, n_ls, non_oid, non_oln, non_oct, non_id, non_ln, non_ct, non_path, un_ln, un_pl, in_ids, ad_path, eOp_s, eOp_n, lstk_ls, st_ls]
      exact h2 rfl
def F_are_ascending : PFn := fun ds k => ∃ is : List Ln.Id, ds = [.lst (is.map Le.eId)] ∧ is.length ≤ 1000 ∧ k (.bl (ascB is))
theorem len_are_ascending : ∀ ds k, F_are_ascending ds k → ds.length = 1 := by
  rintro _ k ⟨is, rfl, _⟩
  rfl
theorem zip_ids (is : List Ln.Id) : zipD (is.map Le.eId) ((is.drop 1).map Le.eId) = (is.zip (is.drop 1)).map fun p => .tup [Le.eId p.1, Le.eId p.2] := by
  unfold zipD
  rw [List.zip_map, List.map_map]
  rfl
theorem body_are_ascending : ∀ ds k, F_are_ascending ds k → ps_are_ascending { nx := fun _ _ => k .non, rt := fun d S => (d.frz S).noRef = true ∧ k (d.frz S) } (startE 3 ds) [] := by
  rintro _ k ⟨is, rfl, hl, hk⟩
  rw [start_are_ascending]
  unfold ps_are_ascending
  refine for_go (src := .lst (zipD (is.map Le.eId) ((is.drop 1).map Le.eId))) (ds := zipD (is.map Le.eId) ((is.drop 1).map Le.eId)) (fun kk h => ?_) (fun S => rfl) ?_
  · simp only [pSeq, pAsg, pVar, pC, pOp, pNil, pCons, pTup, pLst, pLstM, pNot, pAndV, pOrV, pIf, pB, pAnd, pOr, pNotT, pNoPart, pPart, pCB, pUnN, pSl, pNext, pBreak, pCont, pRet, pRetN, pDrop, pIfS, pgName, pgNil, pgCons, pgTup_t, pAug, pApp, pYes, isk_non, nsk_non, isN_non, isN_bl, isN_int, isN_str, isN_tup, isN_lst, isN_ref, isN_obj, pTru, pFld, pStar, pMake, pSetF, pIt, pRng1, pRng2, forG, List.map_cons, List.map_nil, List.getElem?_cons_zero, List.getElem?_cons_succ, List.set_cons_zero, List.set_cons_succ, Option.some.injEq, exists_eq_left, exists_eq_left', true_and, and_true, wipeE, D.bl.injEq, D.int.injEq, D.str.injEq, D.tup.injEq, D.lst.injEq, Bool.not_true, decide_eq_true_eq, if_true, if_false, reduceIte, Bool.false_eq_true, Option.isNone_none, Option.isNone_some, Bool.not_false, List.length_nil, List.length_cons, List.nil_append, List.cons_append, D.ref.injEq, SO.lst.injEq, pCall, exists_const, and_self, Nat.zero_add, Nat.zero_le, Nat.reduceLeDiff, Nat.reduceAdd, eq_self, o_add, o_sub, o_mul, o_div, o_mod, o_cmp, o_int, o_lenl, o_lent, o_lens, o_tupl, o_tupt, o_min, o_max, q_int, ixk_tup, ixk_lst, ixk_scr, at0, at1, at2, at3, at4, at5, List.length_map, ln0, ln1, ln2, ln3, ln4, lnS0, lnS2, lnS4, q_id, q_ido, q_oi, q_oid, q_path, q_ln, q_ls, n_id, n_path, n_ln, n_ls, non_oid, non_oln, non_oct, non_id, non_ln, non_ct, non_path, un_ln, un_pl, in_ids, ad_path, eOp_s, eOp_n, lstk_ls, st_ls, pZip]
    refine rs_sl (x := .lst (is.map Le.eId)) rfl ?_
    have hc : Pw.cutD (is.map Le.eId) (some 1) none = (is.drop 1).map Le.eId := by
      cases is with
      | nil => rfl
      | cons a is =>
        have := cut_r (l := (a :: is).map Le.eId) (j := 1) (by simp)
        rw [List.map_drop]
        exact this
    rw [hc]
    exact ⟨_, _, rfl, h⟩
  · rw [zip_ids]
    refine loop_are_ascending _ _ _ _ _ _ (fun h x y => ?_) (fun h => ?_)
    · have e : ascB is = true := h
      rw [e] at hk
      simp only [pSeq, pAsg, pVar, pC, pOp, pNil, pCons, pTup, pLst, pLstM, pNot, pAndV, pOrV, pIf, pB, pAnd, pOr, pNotT, pNoPart, pPart, pCB, pUnN, pSl, pNext, pBreak, pCont, pRet, pRetN, pDrop, pIfS, pgName, pgNil, pgCons, pgTup_t, pAug, pApp, pYes, isk_non, nsk_non, isN_non, isN_bl, isN_int, isN_str, isN_tup, isN_lst, isN_ref, isN_obj, pTru, pFld, pStar, pMake, pSetF, pIt, pRng1, pRng2, forG, List.map_cons, List.map_nil, List.getElem?_cons_zero, List.getElem?_cons_succ, List.set_cons_zero, List.set_cons_succ, Option.some.injEq, exists_eq_left, exists_eq_left', true_and, and_true, wipeE, D.bl.injEq, D.int.injEq, D.str.injEq, D.tup.injEq, D.lst.injEq, Bool.not_true, decide_eq_true_eq, if_true, if_false, reduceIte, Bool.false_eq_true, Option.isNone_none, Option.isNone_some, Bool.not_false, List.length_nil, List.length_cons, List.nil_append, List.cons_append, D.ref.injEq, SO.lst.injEq, pCall, exists_const, and_self, Nat.zero_add, Nat.zero_le, Nat.reduceLeDiff, Nat.reduceAdd, eq_self, o_add, o_sub, o_mul, o_div, o_mod, o_cmp, o_int, o_lenl, o_lent, o_lens, o_tupl, o_tupt, o_min, o_max, q_int, ixk_tup, ixk_lst, ixk_scr, at0, at1, at2, at3, at4, at5, List.length_map, ln0, ln1, ln2, ln3, ln4, lnS0, lnS2, lnS4, q_id, q_ido, q_oi, q_oid, q_path, q_ln, q_ls, n_id, n_path, n_ln, n_ls, non_oid, non_oln, non_oct, non_id, non_ln, non_ct, non_path, un_ln, un_pl, in_ids, ad_path, eOp_s, eOp_n, lstk_ls, st_ls]
      exact rt_pure rfl hk
    · have e : ascB is = false := h
      rw [e] at hk
      exact rt_pure rfl hk
theorem ok_are_ascending {P : Program} {w : World} {K : PySem.W.Frag} {cl : Cl} {mg : Str → Option Value} {base : Heap} (D : Df K mg "are_ascending" s_are_ascending ["ids"]) (T : Txt K cl mg) (hw : cl.w = w)  : C8.Cal P w K mg base 1 "are_ascending" (spP K cl F_are_ascending) [] := by
  subst hw
  refine D.cal sc_are_ascending (spP_len (n := 1) len_are_ascending) (fun f cdv A outer s H vs Q E hr h => ?_)
  refine ⟨_,
    (pss_cons (ps_for PassesOwn.never rfl (show PI _ _ _ (RZ.iZipA K _) from RZ.pi_zipA (by rfl) T.n_zip (pa_cons (pv 0) (pa_cons (pe_slice (show SlR _ (uSl K) from usl) (pv 0) (po_some pe_int) po_none) pa_nil))) (pg_tup rfl (pgs_cons (pg_name (i := 1) sc_are_ascending.nd rfl (Or.inl rfl)) (pgs_cons (pg_name (i := 2) sc_are_ascending.nd rfl (Or.inl rfl)) pgs_nil)))
      (pss_one (ps_if (pt_cmpR (show OpR _ _ (rOrd K (fun d e => !PySem.W.dataLt d e)) from op_geD hr.units) (pv 1) (pv 2) (nomark _))
        (pss_one (ps_ret pe_bl))
        pss_nil)))
    (pss_one (ps_ret pe_bl))), ?_⟩
  exact fn_ok (N := ["ids", "before", "after"]) (show SmS K cl _ ps_are_ascending from
    (sm_seq (sm_for (sm_zip (sm_cons sm_var (sm_cons (sm_sl sm_var (sm_part sm_int) sm_noPart) sm_nil))) (sm_gtup (sm_gcons sm_gname (sm_gcons sm_gname sm_gnil)))
      ((sm_ifS (sm_test (sm_op smr_ord sm_var sm_var))
        ((sm_ret sm_bl))
        sm_next)))
    ((sm_ret sm_bl)))) body_are_ascending h
/-! ### heads_differ -/
def pl_heads_differ_1 : PSx :=
      (pSeq (pIfS (pB (pOp (inDk false) (pOp ixk (pVar 2) (pC (.int 1))) (pVar 1)))
        ((pRet (pC (.bl false))))
        pNext)
      ((pPutD (pVar 1) (pOp ixk (pVar 2) (pC (.int 1))) (pC (.bl true)))))
theorem pl_heads_differ_1_d (P : PEnds) (env : Pw.Env) (S : Sto) : pl_heads_differ_1 P env S = (
      (pSeq (pIfS (pB (pOp (inDk false) (pOp ixk (pVar 2) (pC (.int 1))) (pVar 1)))
        ((pRet (pC (.bl false))))
        pNext)
      ((pPutD (pVar 1) (pOp ixk (pVar 2) (pC (.int 1))) (pC (.bl true)))))) P env S := rfl
def ps_heads_differ : PSx :=
    (pSeq (pAsg pNewD (pgName 1))
    (pSeq (pFor (pIt (pVar 0)) (pgName 2) pl_heads_differ_1)
    ((pRet (pC (.bl true))))))
theorem start_heads_differ : ∀ a0 : D, startE 3 [a0] = [some a0, none, none] := fun _ => rfl
def kvI (acc : List Ln.Id) : List (D × D) := acc.map fun i => (Le.eId i, D.bl true)
theorem hasKv_ids (acc : List Ln.Id) (j : Ln.Id) : hasKv (kvI acc) (kId j) = decide (j ∈ acc) := by
  unfold hasKv kvI
  rw [Bool.eq_iff_iff, List.any_map, List.any_eq_true, decide_eq_true_eq]
  constructor
  · rintro ⟨i, hi, h⟩
    have h' : kOf (Le.eId i) = some (kId j) := by simpa using h
    rw [kOf_id] at h'
    rw [← kId_inj (Option.some.inj h')]
    exact hi
  · intro h
    exact ⟨j, h, by simp [kOf_id]⟩
theorem inD_ids {S : Sto} {n : Nat} {acc : List Ln.Id} {j : Ln.Id} {neg : Bool} {k : D → Prop} (h : S[n]? = some (.dct (kvI acc))) : inDk neg S (Le.eId j) (.ref n) k = k (.bl (if neg = true then !decide (j ∈ acc) else decide (j ∈ acc))) := by
  refine propext ⟨fun ⟨n', kvs, kk, h1, h2, h3, _, h5⟩ => ?_, fun h5 => ⟨n, _, kId j, rfl, h, kOf_id j, kId_dp j, ?_⟩⟩
  · cases h1
    rw [h] at h2
    cases h2
    rw [kOf_id] at h3
    cases h3
    rw [hasKv_ids] at h5
    exact h5
  · rw [hasKv_ids]
    exact h5
theorem putKv_ids {acc : List Ln.Id} {j : Ln.Id} (h : j ∉ acc) : putKv (kvI acc) (kId j) (Le.eId j) (.bl true) = kvI (acc ++ [j]) := by
  unfold putKv
  rw [hasKv_ids, decide_eq_false h]
  unfold kvI
  rw [List.map_append]
  rfl
theorem loop_heads_differ (l0 : D) (P : PEnds) : ∀ (ls : List Line) (acc : List Ln.Id) (x : Option D), acc.length + ls.length ≤ 1000 →
    (((acc ++ ls.map (·.hd)).Nodup → ∀ x S, P.nx [some l0, some (.ref 0), x] S) ∧ (¬ (acc ++ ls.map (·.hd)).Nodup → ∀ S, P.rt (.bl false) S)) → acc.Nodup →
    forG (pgName 2) pl_heads_differ_1 P (ls.map eLn) [some l0, some (.ref 0), x] [.dct (kvI acc)] := by
  intro ls
  induction ls with
  | nil =>
    intro acc x _ h hn
    exact h.1 (by rw [List.map_nil, List.append_nil]; exact hn) x _
  | cons a ls ih =>
    intro acc x hl h hn
    rw [List.length_cons] at hl
    unfold pl_heads_differ_1
    simp only [pSeq, pAsg, pVar, pC, pOp, pNil, pCons, pTup, pLst, pLstM, pNot, pAndV, pOrV, pIf, pB, pAnd, pOr, pNotT, pNoPart, pPart, pCB, pUnN, pSl, pNext, pBreak, pCont, pRet, pRetN, pDrop, pIfS, pgName, pgNil, pgCons, pgTup_t, pAug, pApp, pYes, isk_non, nsk_non, isN_non, isN_bl, isN_int, isN_str, isN_tup, isN_lst, isN_ref, isN_obj, pTru, pFld, pStar, pMake, pSetF, pIt, pRng1, pRng2, forG, List.map_cons, List.map_nil, List.getElem?_cons_zero, List.getElem?_cons_succ, List.set_cons_zero, List.set_cons_succ, Option.some.injEq, exists_eq_left, exists_eq_left', true_and, and_true, wipeE, D.bl.injEq, D.int.injEq, D.str.injEq, D.tup.injEq, D.lst.injEq, Bool.not_true, decide_eq_true_eq, if_true, if_false, reduceIte, Bool.false_eq_true, Option.isNone_none, Option.isNone_some, Bool.not_false, List.length_nil, List.length_cons, List.nil_append, List.cons_append, D.ref.injEq, SO.lst.injEq, pCall, exists_const, and_self, Nat.zero_add, Nat.zero_le, Nat.reduceLeDiff, Nat.reduceAdd, eq_self, o_add, o_sub, o_mul, o_div, o_mod, o_cmp, o_int, o_lenl, o_lent, o_lens, o_tupl, o_tupt, o_min, o_max, q_int, ixk_tup, ixk_lst, ixk_scr, at0, at1, at2, at3, at4, at5, List.length_map, ln0, ln1, ln2, ln3, ln4, lnS0, lnS2, lnS4, q_id, q_ido, q_oi, q_oid, q_path, q_ln, q_ls, n_id, n_path, n_ln, n_ls, non_oid, non_oln, non_oct, non_id, non_ln, non_ct, non_path, un_ln, un_pl, in_ids, ad_path, eOp_s, eOp_n, lstk_ls, st_ls, inD_ids (S := [.dct (kvI acc)]) (n := 0) rfl]
    by_cases c : a.hd ∈ acc
    · rw [if_pos c]
      refine h.2 (fun z => ?_) _
      rw [List.map_cons] at z
      exact (List.nodup_append.mp z).2.2 _ c _ List.mem_cons_self rfl
    · rw [if_neg c]
      simp only [pSeq, pAsg, pVar, pC, pOp, pNil, pCons, pTup, pLst, pLstM, pNot, pAndV, pOrV, pIf, pB, pAnd, pOr, pNotT, pNoPart, pPart, pCB, pUnN, pSl, pNext, pBreak, pCont, pRet, pRetN, pDrop, pIfS, pgName, pgNil, pgCons, pgTup_t, pAug, pApp, pYes, isk_non, nsk_non, isN_non, isN_bl, isN_int, isN_str, isN_tup, isN_lst, isN_ref, isN_obj, pTru, pFld, pStar, pMake, pSetF, pIt, pRng1, pRng2, forG, List.map_cons, List.map_nil, List.getElem?_cons_zero, List.getElem?_cons_succ, List.set_cons_zero, List.set_cons_succ, Option.some.injEq, exists_eq_left, exists_eq_left', true_and, and_true, wipeE, D.bl.injEq, D.int.injEq, D.str.injEq, D.tup.injEq, D.lst.injEq, Bool.not_true, decide_eq_true_eq, if_true, if_false, reduceIte, Bool.false_eq_true, Option.isNone_none, Option.isNone_some, Bool.not_false, List.length_nil, List.length_cons, List.nil_append, List.cons_append, D.ref.injEq, SO.lst.injEq, pCall, exists_const, and_self, Nat.zero_add, Nat.zero_le, Nat.reduceLeDiff, Nat.reduceAdd, eq_self, o_add, o_sub, o_mul, o_div, o_mod, o_cmp, o_int, o_lenl, o_lent, o_lens, o_tupl, o_tupt, o_min, o_max, q_int, ixk_tup, ixk_lst, ixk_scr, at0, at1, at2, at3, at4, at5, List.length_map, ln0, ln1, ln2, ln3, ln4, lnS0, lnS2, lnS4, q_id, q_ido, q_oi, q_oid, q_path, q_ln, q_ls, n_id, n_path, n_ln, n_ls, non_oid, non_oln, non_oct, non_id, non_ln, non_ct, non_path, un_ln, un_pl, in_ids, ad_path, eOp_s, eOp_n, lstk_ls, st_ls, pPutD]
      refine ⟨0, kvI acc, kId a.hd, rfl, rfl, kOf_id _, kId_dp _, by unfold kvI; rw [List.length_map]; omega, ?_⟩
      rw [putKv_ids c]
      refine ih (acc ++ [a.hd]) _ (by rw [List.length_append, List.length_singleton]; omega) ?_ ?_
      · rw [List.append_assoc]
        exact h
      · refine List.nodup_append.mpr ⟨hn, by simp, fun x hx y hy e => ?_⟩
        rw [List.mem_singleton.mp hy] at e
        exact c (e ▸ hx)
def F_heads_differ : PFn := fun ds k => ∃ (x : D) (ls : List Line), ds = [x] ∧ Sq x ls ∧ ls.length ≤ 1000 ∧ k (.bl (decide ((ls.map (·.hd)).Nodup)))
theorem len_heads_differ : ∀ ds k, F_heads_differ ds k → ds.length = 1 := by
  rintro _ k ⟨x, ls, rfl, _⟩
  rfl
theorem body_heads_differ : ∀ ds k, F_heads_differ ds k → ps_heads_differ { nx := fun _ _ => k .non, rt := fun d S => (d.frz S).noRef = true ∧ k (d.frz S) } (startE 3 ds) [] := by
  rintro _ k ⟨x, ls, rfl, hx, hl, hk⟩
  rw [start_heads_differ]
  unfold ps_heads_differ
  simp only [pSeq, pAsg, pVar, pC, pOp, pNil, pCons, pTup, pLst, pLstM, pNot, pAndV, pOrV, pIf, pB, pAnd, pOr, pNotT, pNoPart, pPart, pCB, pUnN, pSl, pNext, pBreak, pCont, pRet, pRetN, pDrop, pIfS, pgName, pgNil, pgCons, pgTup_t, pAug, pApp, pYes, isk_non, nsk_non, isN_non, isN_bl, isN_int, isN_str, isN_tup, isN_lst, isN_ref, isN_obj, pTru, pFld, pStar, pMake, pSetF, pIt, pRng1, pRng2, forG, List.map_cons, List.map_nil, List.getElem?_cons_zero, List.getElem?_cons_succ, List.set_cons_zero, List.set_cons_succ, Option.some.injEq, exists_eq_left, exists_eq_left', true_and, and_true, wipeE, D.bl.injEq, D.int.injEq, D.str.injEq, D.tup.injEq, D.lst.injEq, Bool.not_true, decide_eq_true_eq, if_true, if_false, reduceIte, Bool.false_eq_true, Option.isNone_none, Option.isNone_some, Bool.not_false, List.length_nil, List.length_cons, List.nil_append, List.cons_append, D.ref.injEq, SO.lst.injEq, pCall, exists_const, and_self, Nat.zero_add, Nat.zero_le, Nat.reduceLeDiff, Nat.reduceAdd, eq_self, o_add, o_sub, o_mul, o_div, o_mod, o_cmp, o_int, o_lenl, o_lent, o_lens, o_tupl, o_tupt, o_min, o_max, q_int, ixk_tup, ixk_lst, ixk_scr, at0, at1, at2, at3, at4, at5, List.length_map, ln0, ln1, ln2, ln3, ln4, lnS0, lnS2, lnS4, q_id, q_ido, q_oi, q_oid, q_path, q_ln, q_ls, n_id, n_path, n_ln, n_ls, non_oid, non_oln, non_oct, non_id, non_ln, non_ct, non_path, un_ln, un_pl, in_ids, ad_path, eOp_s, eOp_n, lstk_ls, st_ls, pNewD]
  refine for_go (src := x) (ds := ls.map eLn) (fun kk h => ⟨_, rfl, _, hx.it _, h⟩) (fun S => hx.it S) ?_
  refine loop_heads_differ x _ ls [] _ (by simpa using hl) ⟨fun h x S => ?_, fun h S => ?_⟩ List.nodup_nil
  · simp only [pSeq, pAsg, pVar, pC, pOp, pNil, pCons, pTup, pLst, pLstM, pNot, pAndV, pOrV, pIf, pB, pAnd, pOr, pNotT, pNoPart, pPart, pCB, pUnN, pSl, pNext, pBreak, pCont, pRet, pRetN, pDrop, pIfS, pgName, pgNil, pgCons, pgTup_t, pAug, pApp, pYes, isk_non, nsk_non, isN_non, isN_bl, isN_int, isN_str, isN_tup, isN_lst, isN_ref, isN_obj, pTru, pFld, pStar, pMake, pSetF, pIt, pRng1, pRng2, forG, List.map_cons, List.map_nil, List.getElem?_cons_zero, List.getElem?_cons_succ, List.set_cons_zero, List.set_cons_succ, Option.some.injEq, exists_eq_left, exists_eq_left', true_and, and_true, wipeE, D.bl.injEq, D.int.injEq, D.str.injEq, D.tup.injEq, D.lst.injEq, Bool.not_true, decide_eq_true_eq, if_true, if_false, reduceIte, Bool.false_eq_true, Option.isNone_none, Option.isNone_some, Bool.not_false, List.length_nil, List.length_cons, List.nil_append, List.cons_append, D.ref.injEq, SO.lst.injEq, pCall, exists_const, and_self, Nat.zero_add, Nat.zero_le, Nat.reduceLeDiff, Nat.reduceAdd, eq_self, o_add, o_sub, o_mul, o_div, o_mod, o_cmp, o_int, o_lenl, o_lent, o_lens, o_tupl, o_tupt, o_min, o_max, q_int, ixk_tup, ixk_lst, ixk_scr, at0, at1, at2, at3, at4, at5, List.length_map, ln0, ln1, ln2, ln3, ln4, lnS0, lnS2, lnS4, q_id, q_ido, q_oi, q_oid, q_path, q_ln, q_ls, n_id, n_path, n_ln, n_ls, non_oid, non_oln, non_oct, non_id, non_ln, non_ct, non_path, un_ln, un_pl, in_ids, ad_path, eOp_s, eOp_n, lstk_ls, st_ls]
    rw [List.nil_append] at h
    rw [decide_eq_true h] at hk
    exact ⟨rfl, hk⟩
  · rw [List.nil_append] at h
    rw [decide_eq_false h] at hk
    exact ⟨rfl, hk⟩
theorem ok_heads_differ {P : Program} {w : World} {K : PySem.W.Frag} {cl : Cl} {mg : Str → Option Value} {base : Heap} (D : Df K mg "heads_differ" s_heads_differ ["lines"]) (T : Txt K cl mg) (hw : cl.w = w)  : C8.Cal P w K mg base 1 "heads_differ" (spP K cl F_heads_differ) [] := by
  subst hw
  refine D.cal sc_heads_differ (spP_len (n := 1) len_heads_differ) (fun f cdv A outer s H vs Q E hr h => ?_)
  refine ⟨_,
    (pss_cons (ps_set (i := 1) sc_heads_differ.nd rfl (.inl rfl) Dk.pe_newDk)
    (pss_cons (ps_for PassesOwn.never rfl (show PI _ _ _ (uIt K _) from upi (pv 0)) (pg_name (i := 2) sc_heads_differ.nd rfl (Or.inl rfl))
      (pss_cons (ps_if (pt_cmpR (show OpR _ _ (Dk.rInDk K cl.w false) from Dk.or_inDk hr.units) (pe_ix (show IxR _ (uIx K) from uix) (pv 2) pe_int (fun _ _ => rfl)) (pv 1) (by with_unfolding_all rfl))
        (pss_one (ps_ret pe_bl))
        pss_nil)
      (pss_one (Dk.ps_putDk hr.units (pv 1) (pe_ix (show IxR _ (uIx K) from uix) (pv 2) pe_int (fun _ _ => rfl)) pe_bl (by rfl)))))
    (pss_one (ps_ret pe_bl)))), ?_⟩
  exact fn_ok (N := ["lines", "seen", "line"]) (show SmS K cl _ ps_heads_differ from
    (sm_seq (sm_asg sm_newD sm_gname)
    (sm_seq (sm_for (sm_it sm_var) sm_gname
      (sm_seq (sm_ifS (sm_test (sm_op smr_inDk (sm_op smr_ix sm_var sm_int) sm_var))
        ((sm_ret sm_bl))
        sm_next)
      ((sm_putD sm_var (sm_op smr_ix sm_var sm_int) sm_bl))))
    ((sm_ret sm_bl))))) body_heads_differ h
/-! ### stands_soundly -/
def ps_stands_soundly : PSx :=
    (pSeq (pAsg (pVar 0) (pgTup 5 (pgCons (pgName 2) (pgCons (pgName 3) (pgCons (pgName 4) (pgCons (pgName 5) (pgCons (pgName 6) pgNil)))))))
    (pSeq (pIfS (pOr (pB (pOp eqk (pVar 5) (pTup pNil))) (pAnd (pB (pOp isk (pVar 6) (pC .non))) (pB (pOp nek (pVar 3) (pVar 2)))))
      ((pRet (pC (.bl false))))
      pNext)
    ((pRet (pOrV (pOp isk (pVar 4) (pC .non)) (pOp (inDk false) (pVar 4) (pVar 1)))))))
theorem start_stands_soundly : ∀ a0 a1 : D, startE 7 [a0, a1] = [some a0, some a1, none, none, none, none, none] := fun _ _ => rfl
def sdB (l : Line) (fs : List Ln.Id) : Bool := !(decide (l.path = []) || l.ct.isNone && !decide (l.hd = l.id)) && (match l.ins with | none => true | some i => decide (i ∈ fs))
theorem sdB_iff {l : Line} {fs : List Ln.Id} : sdB l fs = true ↔ SdP fs l := by
  obtain ⟨a, b, c, d, e⟩ := l
  unfold sdB SdP
  cases e <;> cases c <;> simp [and_assoc]
def F_stands_soundly : SFn := fun ds S k => ∃ (l : Line) (n : Nat) (fs : List Ln.Id), ds = [eLn l, .ref n] ∧ S[n]? = some (.dct (kvI fs)) ∧ k (.bl (sdB l fs)) S
theorem len_stands_soundly : ∀ ds S k, F_stands_soundly ds S k → ds.length = 2 := by
  rintro _ _ _ ⟨_, _, _, rfl, _⟩
  rfl
theorem q_path0 {S : Sto} {p : List Str} {k : D → Prop} : Pw.eqk S (ePath p) (.tup []) k = k (.bl (decide (p = []))) := q_path (b := [])
theorem body_stands_soundly : ∀ ds S k, F_stands_soundly ds S k → ps_stands_soundly { nx := fun _ S' => k .non S', rt := k } (startE 7 ds) S := by
  rintro _ S k ⟨l, n, fs, rfl, hn, hk⟩
  rw [start_stands_soundly]
  unfold ps_stands_soundly
  simp only [pSeq, pAsg, pVar, pC, pOp, pNil, pCons, pTup, pLst, pLstM, pNot, pAndV, pOrV, pIf, pB, pAnd, pOr, pNotT, pNoPart, pPart, pCB, pUnN, pSl, pNext, pBreak, pCont, pRet, pRetN, pDrop, pIfS, pgName, pgNil, pgCons, pgTup_t, pAug, pApp, pYes, isk_non, nsk_non, isN_non, isN_bl, isN_int, isN_str, isN_tup, isN_lst, isN_ref, isN_obj, pTru, pFld, pStar, pMake, pSetF, pIt, pRng1, pRng2, forG, List.map_cons, List.map_nil, List.getElem?_cons_zero, List.getElem?_cons_succ, List.set_cons_zero, List.set_cons_succ, Option.some.injEq, exists_eq_left, exists_eq_left', true_and, and_true, wipeE, D.bl.injEq, D.int.injEq, D.str.injEq, D.tup.injEq, D.lst.injEq, Bool.not_true, decide_eq_true_eq, if_true, if_false, reduceIte, Bool.false_eq_true, Option.isNone_none, Option.isNone_some, Bool.not_false, List.length_nil, List.length_cons, List.nil_append, List.cons_append, D.ref.injEq, SO.lst.injEq, pCall, exists_const, and_self, Nat.zero_add, Nat.zero_le, Nat.reduceLeDiff, Nat.reduceAdd, eq_self, o_add, o_sub, o_mul, o_div, o_mod, o_cmp, o_int, o_lenl, o_lent, o_lens, o_tupl, o_tupt, o_min, o_max, q_int, ixk_tup, ixk_lst, ixk_scr, at0, at1, at2, at3, at4, at5, List.length_map, ln0, ln1, ln2, ln3, ln4, lnS0, lnS2, lnS4, q_id, q_ido, q_oi, q_oid, q_path, q_ln, q_ls, n_id, n_path, n_ln, n_ls, non_oid, non_oln, non_oct, non_id, non_ln, non_ct, non_path, un_ln, un_pl, in_ids, ad_path, eOp_s, eOp_n, lstk_ls, st_ls, q_path0]
  unfold sdB at hk
  by_cases h1 : l.path = []
  · rw [if_pos h1]
    rw [decide_eq_true h1] at hk
    exact hk
  rw [if_neg h1]
  rw [decide_eq_false h1, Bool.false_or] at hk
  have fin : (l.ct.isNone && !decide (l.hd = l.id)) = false → (if l.ins.isNone = true then k (.bl true) S else inDk false S (eOp Le.eId l.ins) (.ref n) fun d => k d S) := by
    intro h2
    rw [h2] at hk
    cases hi : l.ins with
    | none =>
      rw [hi] at hk
      exact hk
    | some i =>
      rw [hi] at hk
      show inDk false S (Le.eId i) (.ref n) fun d => k d S
      rw [inD_ids hn]
      exact hk
  cases hc : l.ct with
  | none =>
    rw [hc] at hk fin
    simp only [pSeq, pAsg, pVar, pC, pOp, pNil, pCons, pTup, pLst, pLstM, pNot, pAndV, pOrV, pIf, pB, pAnd, pOr, pNotT, pNoPart, pPart, pCB, pUnN, pSl, pNext, pBreak, pCont, pRet, pRetN, pDrop, pIfS, pgName, pgNil, pgCons, pgTup_t, pAug, pApp, pYes, isk_non, nsk_non, isN_non, isN_bl, isN_int, isN_str, isN_tup, isN_lst, isN_ref, isN_obj, pTru, pFld, pStar, pMake, pSetF, pIt, pRng1, pRng2, forG, List.map_cons, List.map_nil, List.getElem?_cons_zero, List.getElem?_cons_succ, List.set_cons_zero, List.set_cons_succ, Option.some.injEq, exists_eq_left, exists_eq_left', true_and, and_true, wipeE, D.bl.injEq, D.int.injEq, D.str.injEq, D.tup.injEq, D.lst.injEq, Bool.not_true, decide_eq_true_eq, if_true, if_false, reduceIte, Bool.false_eq_true, Option.isNone_none, Option.isNone_some, Bool.not_false, List.length_nil, List.length_cons, List.nil_append, List.cons_append, D.ref.injEq, SO.lst.injEq, pCall, exists_const, and_self, Nat.zero_add, Nat.zero_le, Nat.reduceLeDiff, Nat.reduceAdd, eq_self, o_add, o_sub, o_mul, o_div, o_mod, o_cmp, o_int, o_lenl, o_lent, o_lens, o_tupl, o_tupt, o_min, o_max, q_int, ixk_tup, ixk_lst, ixk_scr, at0, at1, at2, at3, at4, at5, List.length_map, ln0, ln1, ln2, ln3, ln4, lnS0, lnS2, lnS4, q_id, q_ido, q_oi, q_oid, q_path, q_ln, q_ls, n_id, n_path, n_ln, n_ls, non_oid, non_oln, non_oct, non_id, non_ln, non_ct, non_path, un_ln, un_pl, in_ids, ad_path, eOp_s, eOp_n, lstk_ls, st_ls]
    by_cases h2 : l.hd = l.id
    · rw [decide_eq_true h2] at hk fin
      simp only [pSeq, pAsg, pVar, pC, pOp, pNil, pCons, pTup, pLst, pLstM, pNot, pAndV, pOrV, pIf, pB, pAnd, pOr, pNotT, pNoPart, pPart, pCB, pUnN, pSl, pNext, pBreak, pCont, pRet, pRetN, pDrop, pIfS, pgName, pgNil, pgCons, pgTup_t, pAug, pApp, pYes, isk_non, nsk_non, isN_non, isN_bl, isN_int, isN_str, isN_tup, isN_lst, isN_ref, isN_obj, pTru, pFld, pStar, pMake, pSetF, pIt, pRng1, pRng2, forG, List.map_cons, List.map_nil, List.getElem?_cons_zero, List.getElem?_cons_succ, List.set_cons_zero, List.set_cons_succ, Option.some.injEq, exists_eq_left, exists_eq_left', true_and, and_true, wipeE, D.bl.injEq, D.int.injEq, D.str.injEq, D.tup.injEq, D.lst.injEq, Bool.not_true, decide_eq_true_eq, if_true, if_false, reduceIte, Bool.false_eq_true, Option.isNone_none, Option.isNone_some, Bool.not_false, List.length_nil, List.length_cons, List.nil_append, List.cons_append, D.ref.injEq, SO.lst.injEq, pCall, exists_const, and_self, Nat.zero_add, Nat.zero_le, Nat.reduceLeDiff, Nat.reduceAdd, eq_self, o_add, o_sub, o_mul, o_div, o_mod, o_cmp, o_int, o_lenl, o_lent, o_lens, o_tupl, o_tupt, o_min, o_max, q_int, ixk_tup, ixk_lst, ixk_scr, at0, at1, at2, at3, at4, at5, List.length_map, ln0, ln1, ln2, ln3, ln4, lnS0, lnS2, lnS4, q_id, q_ido, q_oi, q_oid, q_path, q_ln, q_ls, n_id, n_path, n_ln, n_ls, non_oid, non_oln, non_oct, non_id, non_ln, non_ct, non_path, un_ln, un_pl, in_ids, ad_path, eOp_s, eOp_n, lstk_ls, st_ls, h2, decide_true]
      exact fin rfl
    · rw [decide_eq_false h2] at hk
      simp only [pSeq, pAsg, pVar, pC, pOp, pNil, pCons, pTup, pLst, pLstM, pNot, pAndV, pOrV, pIf, pB, pAnd, pOr, pNotT, pNoPart, pPart, pCB, pUnN, pSl, pNext, pBreak, pCont, pRet, pRetN, pDrop, pIfS, pgName, pgNil, pgCons, pgTup_t, pAug, pApp, pYes, isk_non, nsk_non, isN_non, isN_bl, isN_int, isN_str, isN_tup, isN_lst, isN_ref, isN_obj, pTru, pFld, pStar, pMake, pSetF, pIt, pRng1, pRng2, forG, List.map_cons, List.map_nil, List.getElem?_cons_zero, List.getElem?_cons_succ, List.set_cons_zero, List.set_cons_succ, Option.some.injEq, exists_eq_left, exists_eq_left', true_and, and_true, wipeE, D.bl.injEq, D.int.injEq, D.str.injEq, D.tup.injEq, D.lst.injEq, Bool.not_true, decide_eq_true_eq, if_true, if_false, reduceIte, Bool.false_eq_true, Option.isNone_none, Option.isNone_some, Bool.not_false, List.length_nil, List.length_cons, List.nil_append, List.cons_append, D.ref.injEq, SO.lst.injEq, pCall, exists_const, and_self, Nat.zero_add, Nat.zero_le, Nat.reduceLeDiff, Nat.reduceAdd, eq_self, o_add, o_sub, o_mul, o_div, o_mod, o_cmp, o_int, o_lenl, o_lent, o_lens, o_tupl, o_tupt, o_min, o_max, q_int, ixk_tup, ixk_lst, ixk_scr, at0, at1, at2, at3, at4, at5, List.length_map, ln0, ln1, ln2, ln3, ln4, lnS0, lnS2, lnS4, q_id, q_ido, q_oi, q_oid, q_path, q_ln, q_ls, n_id, n_path, n_ln, n_ls, non_oid, non_oln, non_oct, non_id, non_ln, non_ct, non_path, un_ln, un_pl, in_ids, ad_path, eOp_s, eOp_n, lstk_ls, st_ls, decide_eq_false h2]
      exact hk
  | some c =>
    rw [hc] at hk fin
    simp only [pSeq, pAsg, pVar, pC, pOp, pNil, pCons, pTup, pLst, pLstM, pNot, pAndV, pOrV, pIf, pB, pAnd, pOr, pNotT, pNoPart, pPart, pCB, pUnN, pSl, pNext, pBreak, pCont, pRet, pRetN, pDrop, pIfS, pgName, pgNil, pgCons, pgTup_t, pAug, pApp, pYes, isk_non, nsk_non, isN_non, isN_bl, isN_int, isN_str, isN_tup, isN_lst, isN_ref, isN_obj, pTru, pFld, pStar, pMake, pSetF, pIt, pRng1, pRng2, forG, List.map_cons, List.map_nil, List.getElem?_cons_zero, List.getElem?_cons_succ, List.set_cons_zero, List.set_cons_succ, Option.some.injEq, exists_eq_left, exists_eq_left', true_and, and_true, wipeE, D.bl.injEq, D.int.injEq, D.str.injEq, D.tup.injEq, D.lst.injEq, Bool.not_true, decide_eq_true_eq, if_true, if_false, reduceIte, Bool.false_eq_true, Option.isNone_none, Option.isNone_some, Bool.not_false, List.length_nil, List.length_cons, List.nil_append, List.cons_append, D.ref.injEq, SO.lst.injEq, pCall, exists_const, and_self, Nat.zero_add, Nat.zero_le, Nat.reduceLeDiff, Nat.reduceAdd, eq_self, o_add, o_sub, o_mul, o_div, o_mod, o_cmp, o_int, o_lenl, o_lent, o_lens, o_tupl, o_tupt, o_min, o_max, q_int, ixk_tup, ixk_lst, ixk_scr, at0, at1, at2, at3, at4, at5, List.length_map, ln0, ln1, ln2, ln3, ln4, lnS0, lnS2, lnS4, q_id, q_ido, q_oi, q_oid, q_path, q_ln, q_ls, n_id, n_path, n_ln, n_ls, non_oid, non_oln, non_oct, non_id, non_ln, non_ct, non_path, un_ln, un_pl, in_ids, ad_path, eOp_s, eOp_n, lstk_ls, st_ls]
    exact fin rfl
theorem ok_stands_soundly {P : Program} {w : World} {K : PySem.W.Frag} {cl : Cl} {mg : Str → Option Value} {base : Heap} (D : Df K mg "stands_soundly" s_stands_soundly ["line", "folders"]) (T : Txt K cl mg) (hw : cl.w = w)  : C8.Cal P w K mg base 1 "stands_soundly" (spS K cl F_stands_soundly) [] := by
  subst hw
  refine D.cal sc_stands_soundly (spS_len (n := 2) len_stands_soundly) (fun f cdv A outer s H vs Q E hr h => ?_)
  refine ⟨_,
    (pss_cons (ps_asg (pv 0) (pg_tup rfl (pgs_cons (pg_name (i := 2) sc_stands_soundly.nd rfl (Or.inl rfl)) (pgs_cons (pg_name (i := 3) sc_stands_soundly.nd rfl (Or.inl rfl)) (pgs_cons (pg_name (i := 4) sc_stands_soundly.nd rfl (Or.inl rfl)) (pgs_cons (pg_name (i := 5) sc_stands_soundly.nd rfl (Or.inl rfl)) (pgs_cons (pg_name (i := 6) sc_stands_soundly.nd rfl (Or.inl rfl)) pgs_nil)))))))
    (pss_cons (ps_if (PW.pt (pw_or (pt_cmpR (show OpR _ _ (rEqP K) from op_eqP hr.units) (pv 5) (pe_tup pa_nil) (nomark _)) (pw_or1 (PW.pt (pw_and (pt_cmpR op_isN (pv 6) pe_non (nomark _)) (pw_and1 (pt_cmpR (show OpR _ _ (rNeP K) from op_neP hr.units) (pv 3) (pv 2) (nomark _))))))))
      (pss_one (ps_ret pe_bl))
      pss_nil)
    (pss_one (ps_ret (pe_or (pe_cmpR op_isN (pv 4) pe_non (nomark _)) (pe_one (pe_cmpR (show OpR _ _ (Dk.rInDk K cl.w false) from Dk.or_inDk hr.units) (pv 4) (pv 1) (by with_unfolding_all rfl)))))))), ?_⟩
  exact fnS_ok (N := ["line", "folders", "line_id", "head", "inside", "below", "content"]) (show SmS K cl _ ps_stands_soundly from
    (sm_seq (sm_asg sm_var (sm_gtup (sm_gcons sm_gname (sm_gcons sm_gname (sm_gcons sm_gname (sm_gcons sm_gname (sm_gcons sm_gname sm_gnil)))))))
    (sm_seq (sm_ifS (sm_or (sm_test (sm_op smr_eq sm_var (sm_tup sm_nil))) (sm_and (sm_test (sm_op smr_is sm_var sm_non)) (sm_test (sm_op smr_ne sm_var sm_var))))
      ((sm_ret sm_bl))
      sm_next)
    ((sm_ret (sm_orV (sm_op smr_is sm_var sm_non) (sm_op smr_inDk sm_var sm_var))))))) body_stands_soundly h
/-! ### all_are_reached -/
def pl_all_are_reached_1 : PSx :=
      ((pApp (pSetdD (pVar 1) (pOp ixk (pVar 2) (pC (.int 2))) (pLstM pNil)) (pOp ixk (pVar 2) (pC (.int 0)))))
theorem pl_all_are_reached_1_d (P : PEnds) (env : Pw.Env) (S : Sto) : pl_all_are_reached_1 P env S = (
      ((pApp (pSetdD (pVar 1) (pOp ixk (pVar 2) (pC (.int 2))) (pLstM pNil)) (pOp ixk (pVar 2) (pC (.int 0)))))) P env S := rfl
def pl_all_are_reached_2 : PSx :=
      (pSeq (pAsg (pGet2D (pVar 1) (pPopL (pVar 3)) (pLstM pNil)) (pgName 5))
      (pSeq (pAug 4 (fun i j => i + j) (pCB lenk (pCons (pVar 5) pNil)))
      ((pExtL (pVar 3) (pVar 5)))))
theorem pl_all_are_reached_2_d (P : PEnds) (env : Pw.Env) (S : Sto) : pl_all_are_reached_2 P env S = (
      (pSeq (pAsg (pGet2D (pVar 1) (pPopL (pVar 3)) (pLstM pNil)) (pgName 5))
      (pSeq (pAug 4 (fun i j => i + j) (pCB lenk (pCons (pVar 5) pNil)))
      ((pExtL (pVar 3) (pVar 5)))))) P env S := rfl
def ps_all_are_reached : PSx :=
    (pSeq (pAsg pNewD (pgName 1))
    (pSeq (pFor (pIt (pVar 0)) (pgName 2) pl_all_are_reached_1)
    (pSeq (pAsg (pLstM (pCons (pC .non) pNil)) (pgName 3))
    (pSeq (pAsg (pC (.int 0)) (pgName 4))
    (pSeq (pWhile (pTru (pVar 3)) pl_all_are_reached_2)
    ((pRet (pOp eqk (pVar 4) (pCB lenk (pCons (pVar 0) pNil))))))))))
theorem start_all_are_reached : ∀ a0 : D, startE 6 [a0] = [some a0, none, none, none, none, none] := fun _ => rfl
structure Ins (S : Sto) (kvs : List (D × D)) (p : List Line) : Prop where
  d : S[0]? = some (.dct kvs)
  n : kvs.length ≤ p.length
  at' : ∀ o, (getKv kvs (kO o) = none ∧ kids p o = []) ∨ ∃ m, getKv kvs (kO o) = some (.ref m) ∧ 0 < m ∧ S[m]? = some (.lst ((kids p o).map Le.eId))
  inj : ∀ o o' m, getKv kvs (kO o) = some (.ref m) → getKv kvs (kO o') = some (.ref m) → o = o'
theorem Ins.next {S : Sto} {kvs : List (D × D)} {p : List Line} {a : Line} (h : Ins S kvs p) : (getKv kvs (kO a.ins) = none ∧ Ins (((S ++ [SO.lst []]).set 0 (SO.dct (putKv kvs (kO a.ins) (eOp Le.eId a.ins) (.ref S.length)))).set S.length (SO.lst [Le.eId a.id])) (putKv kvs (kO a.ins) (eOp Le.eId a.ins) (.ref S.length)) (p ++ [a])) ∨
    ∃ m, getKv kvs (kO a.ins) = some (.ref m) ∧ 0 < m ∧ S[m]? = some (.lst ((kids p a.ins).map Le.eId)) ∧ Ins ((S ++ [SO.lst []]).set m (SO.lst ((kids p a.ins).map Le.eId ++ [Le.eId a.id]))) kvs (p ++ [a]) := by
  have hlt : 0 < S.length := (List.getElem?_eq_some_iff.mp h.d).1
  rcases h.at' a.ins with ⟨h1, h2⟩ | ⟨m, h1, h2, h3⟩
  · refine .inl ⟨h1, ⟨?_, ?_, fun o => ?_, fun o o' m e e' => ?_⟩⟩
    · rw [List.getElem?_set_ne (by omega), List.getElem?_set_self (by rw [List.length_append]; omega)]
    · have := putKv_len (acc := kvs) (q := kO a.ins) (x := eOp Le.eId a.ins) (y := .ref S.length)
      have := h.n
      rw [List.length_append, List.length_singleton]
      omega
    · rw [getKv_put (kOf_o _), kids_up]
      by_cases c : a.ins = o
      · subst c
        rw [if_pos rfl, if_pos rfl, h2]
        exact .inr ⟨S.length, rfl, hlt, List.getElem?_set_self (by rw [List.length_set, List.length_append]; exact Nat.lt_succ_self _)⟩
      · rw [if_neg fun z => c (kO_inj z), if_neg c, List.append_nil]
        rcases h.at' o with q | ⟨m, q1, q2, q3⟩
        · exact .inl q
        · have hm := (List.getElem?_eq_some_iff.mp q3).1
          refine .inr ⟨m, q1, q2, ?_⟩
          rw [List.getElem?_set_ne (by omega), List.getElem?_set_ne (by omega), List.getElem?_append_left hm]
          exact q3
    · rw [getKv_put (kOf_o _)] at e e'
      have old : ∀ o m, getKv kvs (kO o) = some (.ref m) → m < S.length := fun o m q => by
        rcases h.at' o with ⟨q1, _⟩ | ⟨m', q1, _, q3⟩
        · rw [q1] at q
          cases q
        · rw [q1] at q
          cases q
          exact (List.getElem?_eq_some_iff.mp q3).1
      by_cases c : kO a.ins = kO o
      · by_cases c' : kO a.ins = kO o'
        · exact kO_inj (c.symm.trans c')
        · rw [if_pos c] at e
          rw [if_neg c'] at e'
          cases e
          have := old _ _ e'
          omega
      · rw [if_neg c] at e
        by_cases c' : kO a.ins = kO o'
        · rw [if_pos c'] at e'
          cases e'
          have := old _ _ e
          omega
        · rw [if_neg c'] at e'
          exact h.inj o o' m e e'
  · have hm := (List.getElem?_eq_some_iff.mp h3).1
    refine .inr ⟨m, h1, h2, h3, ⟨?_, ?_, fun o => ?_, h.inj⟩⟩
    · rw [List.getElem?_set_ne (by omega), List.getElem?_append_left hlt]
      exact h.d
    · have := h.n
      rw [List.length_append, List.length_singleton]
      omega
    · rw [kids_up]
      by_cases c : a.ins = o
      · subst c
        rw [if_pos rfl]
        refine .inr ⟨m, h1, h2, ?_⟩
        rw [List.getElem?_set_self (by rw [List.length_append]; omega), List.map_append]
        rfl
      · rw [if_neg c, List.append_nil]
        rcases h.at' o with q | ⟨m', q1, q2, q3⟩
        · exact .inl q
        · have hm' := (List.getElem?_eq_some_iff.mp q3).1
          have ne : m ≠ m' := fun z => c (h.inj _ _ m h1 (z ▸ q1))
          refine .inr ⟨m', q1, q2, ?_⟩
          rw [List.getElem?_set_ne ne, List.getElem?_append_left hm']
          exact q3
theorem loop_inside (x : D) (P : PEnds) : ∀ (ls p : List Line) (S : Sto) (kvs : List (D × D)) (x2 : Option D), Ins S kvs p → p.length + ls.length ≤ 1000 →
    (∀ S kvs x2, Ins S kvs (p ++ ls) → P.nx [some x, some (.ref 0), x2, none, none, none] S) →
    forG (pgName 2) pl_all_are_reached_1 P (ls.map eLn) [some x, some (.ref 0), x2, none, none, none] S := by
  intro ls
  induction ls with
  | nil =>
    intro p S kvs x2 h _ hk
    rw [List.append_nil] at hk
    exact hk S kvs x2 h
  | cons a ls ih =>
    intro p S kvs x2 h hl hk
    rw [List.length_cons] at hl
    have hlt : 0 < S.length := (List.getElem?_eq_some_iff.mp h.d).1
    have hn := h.n
    have hp : p.length ≤ 1000 := by omega
    have d3 : (S ++ [SO.lst []])[0]? = some (.dct kvs) := by rw [List.getElem?_append_left hlt]; exact h.d
    have go : ∀ S kvs x2, Ins S kvs (p ++ [a]) → forG (pgName 2) pl_all_are_reached_1 P (ls.map eLn) [some x, some (.ref 0), x2, none, none, none] S := fun S kvs x2 h' => ih (p ++ [a]) S kvs x2 h' (by rw [List.length_append, List.length_singleton]; omega) (by rw [List.append_assoc]; exact hk)
    simp only [pSeq, pAsg, pVar, pC, pOp, pNil, pCons, pTup, pLst, pLstM, pNot, pAndV, pOrV, pIf, pB, pAnd, pOr, pNotT, pNoPart, pPart, pCB, pUnN, pSl, pNext, pBreak, pCont, pRet, pRetN, pDrop, pIfS, pgName, pgNil, pgCons, pgTup_t, pAug, pApp, pYes, isk_non, nsk_non, isN_non, isN_bl, isN_int, isN_str, isN_tup, isN_lst, isN_ref, isN_obj, pTru, pFld, pStar, pMake, pSetF, pIt, pRng1, pRng2, forG, List.map_cons, List.map_nil, List.getElem?_cons_zero, List.getElem?_cons_succ, List.set_cons_zero, List.set_cons_succ, Option.some.injEq, exists_eq_left, exists_eq_left', true_and, and_true, wipeE, D.bl.injEq, D.int.injEq, D.str.injEq, D.tup.injEq, D.lst.injEq, Bool.not_true, decide_eq_true_eq, if_true, if_false, reduceIte, Bool.false_eq_true, Option.isNone_none, Option.isNone_some, Bool.not_false, List.length_nil, List.length_cons, List.nil_append, List.cons_append, D.ref.injEq, SO.lst.injEq, pCall, exists_const, and_self, Nat.zero_add, Nat.zero_le, Nat.reduceLeDiff, Nat.reduceAdd, eq_self, o_add, o_sub, o_mul, o_div, o_mod, o_cmp, o_int, o_lenl, o_lent, o_lens, o_tupl, o_tupt, o_min, o_max, q_int, ixk_tup, ixk_lst, ixk_scr, at0, at1, at2, at3, at4, at5, List.length_map, ln0, ln1, ln2, ln3, ln4, lnS0, lnS2, lnS4, q_id, q_ido, q_oi, q_oid, q_path, q_ln, q_ls, n_id, n_path, n_ln, n_ls, non_oid, non_oln, non_oct, non_id, non_ln, non_ct, non_path, un_ln, un_pl, in_ids, ad_path, eOp_s, eOp_n, lstk_ls, st_ls, pl_all_are_reached_1_d, pSetdD]
    refine ⟨⟨_, h.d⟩, ?_⟩
    refine ⟨kvs, kO a.ins, d3, kOf_o _, kO_dp _, by omega, ?_⟩
    rcases h.next (a := a) with ⟨h1, h2⟩ | ⟨m, h1, h2, h3, h4⟩
    · rw [h1]
      refine ⟨[], ?_, [], ?_, by decide, ?_⟩
      · rw [List.getElem?_set_ne (by omega)]
        exact at_new'
      · rw [List.getElem?_set_ne (by omega)]
        exact at_new'
      · exact go _ _ _ h2
    · rw [h1]
      have hm := (List.getElem?_eq_some_iff.mp h3).1
      have g3 : (S ++ [SO.lst []])[m]? = some (.lst ((kids p a.ins).map Le.eId)) := by rw [List.getElem?_append_left hm]; exact h3
      have hk2 := kids_len p a.ins
      refine ⟨m, rfl, _, g3, _, g3, by rw [List.length_map]; omega, ?_⟩
      exact go _ _ _ h4
structure Wl (S : Sto) (kvs : List (D × D)) (ls : List Line) (nw : Nat) (W : List (Option Ln.Id)) : Prop where
  d : S[0]? = some (.dct kvs)
  at' : ∀ o, (getKv kvs (kO o) = none ∧ kids ls o = []) ∨ ∃ m, getKv kvs (kO o) = some (.ref m) ∧ m ≠ nw ∧ S[m]? = some (.lst ((kids ls o).map Le.eId))
  w : S[nw]? = some (.lst (W.map (eOp Le.eId)))
  nz : nw ≠ 0
theorem eOp_ids (is : List Ln.Id) : is.map Le.eId = (is.map some).map (eOp Le.eId) := by
  rw [List.map_map]
  rfl
theorem Wl.next {S : Sto} {kvs : List (D × D)} {ls : List Line} {nw : Nat} {W : List (Option Ln.Id)} {o : Option Ln.Id} (h : Wl S kvs ls nw (W ++ [o])) : ∃ m, (getKv kvs (kO o)).getD (.ref S.length) = .ref m ∧ (S.set nw (SO.lst (W.map (eOp Le.eId))) ++ [SO.lst []])[m]? = some (.lst ((kids ls o).map Le.eId)) ∧
    Wl ((S.set nw (SO.lst (W.map (eOp Le.eId))) ++ [SO.lst []]).set nw (SO.lst (W.map (eOp Le.eId) ++ (kids ls o).map Le.eId))) kvs ls nw (W ++ (kids ls o).map some) := by
  have hlt := (List.getElem?_eq_some_iff.mp h.w).1
  have h0 := (List.getElem?_eq_some_iff.mp h.d).1
  have hz := h.nz
  have keep : ∀ m, m ≠ nw → m < S.length → (S.set nw (SO.lst (W.map (eOp Le.eId))) ++ [SO.lst []])[m]? = S[m]? := fun m hm hl => by
    rw [List.getElem?_append_left (by rw [List.length_set]; exact hl), List.getElem?_set_ne (Ne.symm hm)]
  have wl : Wl ((S.set nw (SO.lst (W.map (eOp Le.eId))) ++ [SO.lst []]).set nw (SO.lst (W.map (eOp Le.eId) ++ (kids ls o).map Le.eId))) kvs ls nw (W ++ (kids ls o).map some) := by
    refine ⟨?_, fun o' => ?_, ?_, hz⟩
    · rw [List.getElem?_set_ne hz, keep 0 (Ne.symm hz) h0]
      exact h.d
    · rcases h.at' o' with q | ⟨m, q1, q2, q3⟩
      · exact .inl q
      · refine .inr ⟨m, q1, q2, ?_⟩
        rw [List.getElem?_set_ne (Ne.symm q2), keep m q2 (List.getElem?_eq_some_iff.mp q3).1]
        exact q3
    · rw [List.getElem?_set_self (by rw [List.length_append, List.length_set]; omega), List.map_append, ← eOp_ids]
  rcases h.at' o with ⟨q1, q2⟩ | ⟨m, q1, q2, q3⟩
  · rw [q1]
    refine ⟨S.length, rfl, ?_, wl⟩
    rw [q2]
    have := at_new' (S := S.set nw (SO.lst (W.map (eOp Le.eId)))) (o := SO.lst [])
    rw [List.length_set] at this
    exact this
  · rw [q1]
    refine ⟨m, rfl, ?_, wl⟩
    rw [keep m q2 (List.getElem?_eq_some_iff.mp q3).1]
    exact q3
def F_all_are_reached : PFn := fun ds k => ∃ (x : D) (ls : List Line), ds = [x] ∧ Sq x ls ∧ ls.length ≤ 1000 ∧ (ls.map (·.id)).Nodup ∧ ∀ b, (b = true ↔ ∀ l ∈ ls, Reach ls (some l.id)) → k (.bl b)
theorem len_all_are_reached : ∀ ds k, F_all_are_reached ds k → ds.length = 1 := by
  rintro _ k ⟨_, _, rfl, _⟩
  rfl
theorem body_all_are_reached : ∀ ds k, F_all_are_reached ds k → ps_all_are_reached { nx := fun _ _ => k .non, rt := fun d S => (d.frz S).noRef = true ∧ k (d.frz S) } (startE 6 ds) [] := by
  rintro _ k ⟨x, ls, rfl, hx, hl, hnd, hk⟩
  rw [start_all_are_reached]
  unfold ps_all_are_reached
  simp only [pSeq, pAsg, pVar, pC, pOp, pNil, pCons, pTup, pLst, pLstM, pNot, pAndV, pOrV, pIf, pB, pAnd, pOr, pNotT, pNoPart, pPart, pCB, pUnN, pSl, pNext, pBreak, pCont, pRet, pRetN, pDrop, pIfS, pgName, pgNil, pgCons, pgTup_t, pAug, pApp, pYes, isk_non, nsk_non, isN_non, isN_bl, isN_int, isN_str, isN_tup, isN_lst, isN_ref, isN_obj, pTru, pFld, pStar, pMake, pSetF, pIt, pRng1, pRng2, forG, List.map_cons, List.map_nil, List.getElem?_cons_zero, List.getElem?_cons_succ, List.set_cons_zero, List.set_cons_succ, Option.some.injEq, exists_eq_left, exists_eq_left', true_and, and_true, wipeE, D.bl.injEq, D.int.injEq, D.str.injEq, D.tup.injEq, D.lst.injEq, Bool.not_true, decide_eq_true_eq, if_true, if_false, reduceIte, Bool.false_eq_true, Option.isNone_none, Option.isNone_some, Bool.not_false, List.length_nil, List.length_cons, List.nil_append, List.cons_append, D.ref.injEq, SO.lst.injEq, pCall, exists_const, and_self, Nat.zero_add, Nat.zero_le, Nat.reduceLeDiff, Nat.reduceAdd, eq_self, o_add, o_sub, o_mul, o_div, o_mod, o_cmp, o_int, o_lenl, o_lent, o_lens, o_tupl, o_tupt, o_min, o_max, q_int, ixk_tup, ixk_lst, ixk_scr, at0, at1, at2, at3, at4, at5, List.length_map, ln0, ln1, ln2, ln3, ln4, lnS0, lnS2, lnS4, q_id, q_ido, q_oi, q_oid, q_path, q_ln, q_ls, n_id, n_path, n_ln, n_ls, non_oid, non_oln, non_oct, non_id, non_ln, non_ct, non_path, un_ln, un_pl, in_ids, ad_path, eOp_s, eOp_n, lstk_ls, st_ls, pNewD]
  refine for_go (src := x) (ds := ls.map eLn) (fun kk h => ⟨_, rfl, _, hx.it _, h⟩) (fun S => hx.it S) ?_
  refine loop_inside x _ ls [] [.dct []] [] _ ⟨rfl, Nat.le_refl _, fun o => .inl ⟨rfl, rfl⟩, fun o o' m e => by cases e⟩ (by rw [List.length_nil]; omega) fun S kvs x2 hI => ?_
  rw [List.nil_append] at hI
  simp only [pSeq, pAsg, pVar, pC, pOp, pNil, pCons, pTup, pLst, pLstM, pNot, pAndV, pOrV, pIf, pB, pAnd, pOr, pNotT, pNoPart, pPart, pCB, pUnN, pSl, pNext, pBreak, pCont, pRet, pRetN, pDrop, pIfS, pgName, pgNil, pgCons, pgTup_t, pAug, pApp, pYes, isk_non, nsk_non, isN_non, isN_bl, isN_int, isN_str, isN_tup, isN_lst, isN_ref, isN_obj, pTru, pFld, pStar, pMake, pSetF, pIt, pRng1, pRng2, forG, List.map_cons, List.map_nil, List.getElem?_cons_zero, List.getElem?_cons_succ, List.set_cons_zero, List.set_cons_succ, Option.some.injEq, exists_eq_left, exists_eq_left', true_and, and_true, wipeE, D.bl.injEq, D.int.injEq, D.str.injEq, D.tup.injEq, D.lst.injEq, Bool.not_true, decide_eq_true_eq, if_true, if_false, reduceIte, Bool.false_eq_true, Option.isNone_none, Option.isNone_some, Bool.not_false, List.length_nil, List.length_cons, List.nil_append, List.cons_append, D.ref.injEq, SO.lst.injEq, pCall, exists_const, and_self, Nat.zero_add, Nat.zero_le, Nat.reduceLeDiff, Nat.reduceAdd, eq_self, o_add, o_sub, o_mul, o_div, o_mod, o_cmp, o_int, o_lenl, o_lent, o_lens, o_tupl, o_tupt, o_min, o_max, q_int, ixk_tup, ixk_lst, ixk_scr, at0, at1, at2, at3, at4, at5, List.length_map, ln0, ln1, ln2, ln3, ln4, lnS0, lnS2, lnS4, q_id, q_ido, q_oi, q_oid, q_path, q_ln, q_ls, n_id, n_path, n_ln, n_ls, non_oid, non_oln, non_oct, non_id, non_ln, non_ct, non_path, un_ln, un_pl, in_ids, ad_path, eOp_s, eOp_n, lstk_ls, st_ls]
  refine ⟨fun m env S' => ∃ x2 x5 r dn W, env = [some x, some (.ref 0), x2, some (.ref S.length), some (.int r), x5] ∧ Wl S' kvs ls S.length W ∧ Bfs ls dn W r ∧ m + dn.length = ls.length + 1, ⟨ls.length + 1, x2, none, 0, [], [none], rfl, ⟨?_, fun o => ?_, at_new', ?_⟩, .start ls, rfl⟩, ?_⟩
  · rw [List.getElem?_append_left (List.getElem?_eq_some_iff.mp hI.d).1]
    exact hI.d
  · rcases hI.at' o with q | ⟨m, q1, q2, q3⟩
    · exact .inl q
    · have hm := (List.getElem?_eq_some_iff.mp q3).1
      refine .inr ⟨m, q1, by omega, ?_⟩
      rw [List.getElem?_append_left hm]
      exact q3
  · have := (List.getElem?_eq_some_iff.mp hI.d).1
    omega
  rintro m env S' ⟨x2, x5, r, dn, W, rfl, hW, hB, hm⟩
  have hit : itemsOf S' (.ref S.length) = some (W.map (eOp Le.eId)) := io_ref hW.w
  simp only [pSeq, pAsg, pVar, pC, pOp, pNil, pCons, pTup, pLst, pLstM, pNot, pAndV, pOrV, pIf, pB, pAnd, pOr, pNotT, pNoPart, pPart, pCB, pUnN, pSl, pNext, pBreak, pCont, pRet, pRetN, pDrop, pIfS, pgName, pgNil, pgCons, pgTup_t, pAug, pApp, pYes, isk_non, nsk_non, isN_non, isN_bl, isN_int, isN_str, isN_tup, isN_lst, isN_ref, isN_obj, pTru, pFld, pStar, pMake, pSetF, pIt, pRng1, pRng2, forG, List.map_cons, List.map_nil, List.getElem?_cons_zero, List.getElem?_cons_succ, List.set_cons_zero, List.set_cons_succ, Option.some.injEq, exists_eq_left, exists_eq_left', true_and, and_true, wipeE, D.bl.injEq, D.int.injEq, D.str.injEq, D.tup.injEq, D.lst.injEq, Bool.not_true, decide_eq_true_eq, if_true, if_false, reduceIte, Bool.false_eq_true, Option.isNone_none, Option.isNone_some, Bool.not_false, List.length_nil, List.length_cons, List.nil_append, List.cons_append, D.ref.injEq, SO.lst.injEq, pCall, exists_const, and_self, Nat.zero_add, Nat.zero_le, Nat.reduceLeDiff, Nat.reduceAdd, eq_self, o_add, o_sub, o_mul, o_div, o_mod, o_cmp, o_int, o_lenl, o_lent, o_lens, o_tupl, o_tupt, o_min, o_max, q_int, ixk_tup, ixk_lst, ixk_scr, at0, at1, at2, at3, at4, at5, List.length_map, ln0, ln1, ln2, ln3, ln4, lnS0, lnS2, lnS4, q_id, q_ido, q_oi, q_oid, q_path, q_ln, q_ls, n_id, n_path, n_ln, n_ls, non_oid, non_oln, non_oct, non_id, non_ln, non_ct, non_path, un_ln, un_pl, in_ids, ad_path, eOp_s, eOp_n, lstk_ls, st_ls]
  refine ⟨_, hit, ?_⟩
  rcases List.eq_nil_or_concat W with rfl | ⟨W', o, rfl⟩
  · refine Eq.mpr (if_neg (by simp)) ?_
    have hfin := hB.fin hnd
    rw [hx.len]
    simp only [pSeq, pAsg, pVar, pC, pOp, pNil, pCons, pTup, pLst, pLstM, pNot, pAndV, pOrV, pIf, pB, pAnd, pOr, pNotT, pNoPart, pPart, pCB, pUnN, pSl, pNext, pBreak, pCont, pRet, pRetN, pDrop, pIfS, pgName, pgNil, pgCons, pgTup_t, pAug, pApp, pYes, isk_non, nsk_non, isN_non, isN_bl, isN_int, isN_str, isN_tup, isN_lst, isN_ref, isN_obj, pTru, pFld, pStar, pMake, pSetF, pIt, pRng1, pRng2, forG, List.map_cons, List.map_nil, List.getElem?_cons_zero, List.getElem?_cons_succ, List.set_cons_zero, List.set_cons_succ, Option.some.injEq, exists_eq_left, exists_eq_left', true_and, and_true, wipeE, D.bl.injEq, D.int.injEq, D.str.injEq, D.tup.injEq, D.lst.injEq, Bool.not_true, decide_eq_true_eq, if_true, if_false, reduceIte, Bool.false_eq_true, Option.isNone_none, Option.isNone_some, Bool.not_false, List.length_nil, List.length_cons, List.nil_append, List.cons_append, D.ref.injEq, SO.lst.injEq, pCall, exists_const, and_self, Nat.zero_add, Nat.zero_le, Nat.reduceLeDiff, Nat.reduceAdd, eq_self, o_add, o_sub, o_mul, o_div, o_mod, o_cmp, o_int, o_lenl, o_lent, o_lens, o_tupl, o_tupt, o_min, o_max, q_int, ixk_tup, ixk_lst, ixk_scr, at0, at1, at2, at3, at4, at5, List.length_map, ln0, ln1, ln2, ln3, ln4, lnS0, lnS2, lnS4, q_id, q_ido, q_oi, q_oid, q_path, q_ln, q_ls, n_id, n_path, n_ln, n_ls, non_oid, non_oln, non_oct, non_id, non_ln, non_ct, non_path, un_ln, un_pl, in_ids, ad_path, eOp_s, eOp_n, lstk_ls, st_ls]
    refine ⟨rfl, hk _ ?_⟩
    rw [decide_eq_true_eq]
    exact hfin
  · refine Eq.mpr (if_pos (by simp)) ?_
    rw [List.concat_eq_append] at hW hB
    have hle := hB.le
    have hB' := hB.next hnd
    have hle' := hB'.le
    obtain ⟨f, h1, h2, h3⟩ := hW.next
    refine ⟨fun env S2 => ∃ x2 x5 r dn W, env = [some x, some (.ref 0), x2, some (.ref S.length), some (.int r), x5] ∧ Wl S2 kvs ls S.length W ∧ Bfs ls dn W r ∧ (m - 1) + dn.length = ls.length + 1 ∧ 0 < m, fun env S2 ⟨x2, x5, r, dn, W, e1, e2, e3, e4, e5⟩ => ⟨m - 1, by omega, x2, x5, r, dn, W, e1, e2, e3, e4⟩, ?_⟩
    have hdl : dn.length ≤ ls.length := by
      rw [List.length_append, List.length_append] at hle
      simp only [List.length_singleton] at hle
      omega
    simp only [pSeq, pAsg, pVar, pC, pOp, pNil, pCons, pTup, pLst, pLstM, pNot, pAndV, pOrV, pIf, pB, pAnd, pOr, pNotT, pNoPart, pPart, pCB, pUnN, pSl, pNext, pBreak, pCont, pRet, pRetN, pDrop, pIfS, pgName, pgNil, pgCons, pgTup_t, pAug, pApp, pYes, isk_non, nsk_non, isN_non, isN_bl, isN_int, isN_str, isN_tup, isN_lst, isN_ref, isN_obj, pTru, pFld, pStar, pMake, pSetF, pIt, pRng1, pRng2, forG, List.map_cons, List.map_nil, List.getElem?_cons_zero, List.getElem?_cons_succ, List.set_cons_zero, List.set_cons_succ, Option.some.injEq, exists_eq_left, exists_eq_left', true_and, and_true, wipeE, D.bl.injEq, D.int.injEq, D.str.injEq, D.tup.injEq, D.lst.injEq, Bool.not_true, decide_eq_true_eq, if_true, if_false, reduceIte, Bool.false_eq_true, Option.isNone_none, Option.isNone_some, Bool.not_false, List.length_nil, List.length_cons, List.nil_append, List.cons_append, D.ref.injEq, SO.lst.injEq, pCall, exists_const, and_self, Nat.zero_add, Nat.zero_le, Nat.reduceLeDiff, Nat.reduceAdd, eq_self, o_add, o_sub, o_mul, o_div, o_mod, o_cmp, o_int, o_lenl, o_lent, o_lens, o_tupl, o_tupt, o_min, o_max, q_int, ixk_tup, ixk_lst, ixk_scr, at0, at1, at2, at3, at4, at5, List.length_map, ln0, ln1, ln2, ln3, ln4, lnS0, lnS2, lnS4, q_id, q_ido, q_oi, q_oid, q_path, q_ln, q_ls, n_id, n_path, n_ln, n_ls, non_oid, non_oln, non_oct, non_id, non_ln, non_ct, non_path, un_ln, un_pl, in_ids, ad_path, eOp_s, eOp_n, lstk_ls, st_ls, pl_all_are_reached_2_d, pGet2D, pPopL]
    refine ⟨⟨_, hW.d⟩, ?_⟩
    refine ⟨S.length, (W' ++ [o]).map (eOp Le.eId), eOp Le.eId o, rfl, hW.w, ?_, ?_⟩
    · rw [List.map_append, List.length_append]
      simp
    rw [List.map_append, show [o].map (eOp Le.eId) = [eOp Le.eId o] from rfl, List.dropLast_concat]
    have hlen : (S'.set S.length (SO.lst (W'.map (eOp Le.eId)))).length = S'.length := List.length_set
    refine ⟨kvs, kO o, ?_, kOf_o _, kO_dp _, ?_⟩
    · have h0 := (List.getElem?_eq_some_iff.mp hW.d).1
      rw [List.getElem?_append_left (by rw [hlen]; exact h0), List.getElem?_set_ne (hW.nz)]
      exact hW.d
    rw [hlen, h1]
    refine ⟨_, io_ref h2, ?_⟩
    rw [List.length_map]
    simp only [pSeq, pAsg, pVar, pC, pOp, pNil, pCons, pTup, pLst, pLstM, pNot, pAndV, pOrV, pIf, pB, pAnd, pOr, pNotT, pNoPart, pPart, pCB, pUnN, pSl, pNext, pBreak, pCont, pRet, pRetN, pDrop, pIfS, pgName, pgNil, pgCons, pgTup_t, pAug, pApp, pYes, isk_non, nsk_non, isN_non, isN_bl, isN_int, isN_str, isN_tup, isN_lst, isN_ref, isN_obj, pTru, pFld, pStar, pMake, pSetF, pIt, pRng1, pRng2, forG, List.map_cons, List.map_nil, List.getElem?_cons_zero, List.getElem?_cons_succ, List.set_cons_zero, List.set_cons_succ, Option.some.injEq, exists_eq_left, exists_eq_left', true_and, and_true, wipeE, D.bl.injEq, D.int.injEq, D.str.injEq, D.tup.injEq, D.lst.injEq, Bool.not_true, decide_eq_true_eq, if_true, if_false, reduceIte, Bool.false_eq_true, Option.isNone_none, Option.isNone_some, Bool.not_false, List.length_nil, List.length_cons, List.nil_append, List.cons_append, D.ref.injEq, SO.lst.injEq, pCall, exists_const, and_self, Nat.zero_add, Nat.zero_le, Nat.reduceLeDiff, Nat.reduceAdd, eq_self, o_add, o_sub, o_mul, o_div, o_mod, o_cmp, o_int, o_lenl, o_lent, o_lens, o_tupl, o_tupt, o_min, o_max, q_int, ixk_tup, ixk_lst, ixk_scr, at0, at1, at2, at3, at4, at5, List.length_map, ln0, ln1, ln2, ln3, ln4, lnS0, lnS2, lnS4, q_id, q_ido, q_oi, q_oid, q_path, q_ln, q_ls, n_id, n_path, n_ln, n_ls, non_oid, non_oln, non_oct, non_id, non_ln, non_ct, non_path, un_ln, un_pl, in_ids, ad_path, eOp_s, eOp_n, lstk_ls, st_ls, pExtL]
    have hw2 : (S'.set S.length (SO.lst (W'.map (eOp Le.eId))) ++ [SO.lst []])[S.length]? = some (.lst (W'.map (eOp Le.eId))) := by
      have hlw := (List.getElem?_eq_some_iff.mp hW.w).1
      rw [List.getElem?_append_left (by rw [hlen]; exact hlw), List.getElem?_set_self hlw]
    refine ⟨⟨_, hw2⟩, _, _, _, hw2, rfl, h2, ?_, ?_⟩
    · rw [List.length_append, List.length_append, List.length_map, List.length_cons] at hle'
      rw [List.length_map, List.length_map]
      omega
    · exact ⟨_, _, _, _, _, rfl, h3, hB', by rw [List.length_cons]; omega, by omega⟩
theorem ok_all_are_reached {P : Program} {w : World} {K : PySem.W.Frag} {cl : Cl} {mg : Str → Option Value} {base : Heap} (D : Df K mg "all_are_reached" s_all_are_reached ["lines"]) (T : Txt K cl mg) (hw : cl.w = w)  : C8.Cal P w K mg base 1 "all_are_reached" (spP K cl F_all_are_reached) [] := by
  subst hw
  refine D.cal sc_all_are_reached (spP_len (n := 1) len_all_are_reached) (fun f cdv A outer s H vs Q E hr h => ?_)
  refine ⟨_,
    (pss_cons (ps_set (i := 1) sc_all_are_reached.nd rfl (.inl rfl) Dk.pe_newDk)
    (pss_cons (ps_for PassesOwn.never rfl (show PI _ _ _ (uIt K _) from upi (pv 0)) (pg_name (i := 2) sc_all_are_reached.nd rfl (Or.inl rfl))
      (pss_one (ps_expr (pe_bm PySem.F.plainAttrs_list PySem.F.slot_list_append PySem.F.type_list_append mt_append (Dk.pe_setdDk hr.units (pv 1) (pe_ix (show IxR _ (uIx K) from uix) (pv 2) pe_int (fun _ _ => rfl)) (pe_lst pa_nil) ⟨rfl, rfl, rfl, rfl⟩) (pa_cons (pe_ix (show IxR _ (uIx K) from uix) (pv 2) pe_int (fun _ _ => rfl)) pa_nil)))))
    (pss_cons (ps_set (i := 3) sc_all_are_reached.nd rfl (.inl rfl) (pe_lst (pa_cons pe_non pa_nil)))
    (pss_cons (ps_set (i := 4) sc_all_are_reached.nd rfl (.inl rfl) pe_int)
    (pss_cons (ps_while PassesOwn.never (pt_truth (pv 3) (by intro _; rfl))
      (pss_cons (ps_set (i := 5) sc_all_are_reached.nd rfl (.inl rfl) (Dk.pe_get2Dk hr.units (pv 1) (pe_bm0 PySem.F.plainAttrs_list PySem.F.slot_list_pop PySem.F.type_list_pop mt_pop (pv 3)) (pe_lst pa_nil) ⟨rfl, rfl, rfl, rfl⟩))
      (pss_cons (ps_aug (i := 4) sc_all_are_reached.nd rfl (.inl rfl) (pe_callB (show CallR _ (.builtin "len") (uLen K) from ucall_len) (by rfl) T.n_len PySem.boot_len (pa_cons (pv 5) pa_nil)) ip_add)
      (pss_one (ps_expr (pe_bm PySem.F.plainAttrs_list PySem.F.slot_list_extend PySem.F.type_list_extend mt_extend (pv 3) (pa_cons (pv 5) pa_nil)))))))
    (pss_one (ps_ret (pe_cmpR (show OpR _ _ (rEqP K) from op_eqP hr.units) (pv 4) (pe_callB (show CallR _ (.builtin "len") (uLen K) from ucall_len) (by rfl) T.n_len PySem.boot_len (pa_cons (pv 0) pa_nil)) (nomark _))))))))), ?_⟩
  exact fn_ok (N := ["lines", "inside", "line", "waiting", "reached", "found"]) (show SmS K cl _ ps_all_are_reached from
    (sm_seq (sm_asg sm_newD sm_gname)
    (sm_seq (sm_for (sm_it sm_var) sm_gname
      ((sm_app (sm_setdD sm_var (sm_op smr_ix sm_var sm_int) (sm_lstM sm_nil)) (sm_op smr_ix sm_var sm_int))))
    (sm_seq (sm_asg (sm_lstM (sm_cons sm_non sm_nil)) sm_gname)
    (sm_seq (sm_asg sm_int sm_gname)
    (sm_seq (sm_while (sm_tru sm_var)
      (sm_seq (sm_asg (sm_get2D sm_var (sm_popL sm_var) (sm_lstM sm_nil)) sm_gname)
      (sm_seq (sm_aug (sm_cb smc_len (sm_cons sm_var sm_nil)))
      ((sm_extL sm_var sm_var)))))
    ((sm_ret (sm_op smr_eq sm_var (sm_cb smc_len (sm_cons sm_var sm_nil))))))))))) body_all_are_reached h
/-! ### lines_sound -/
def pl_lines_sound_1 : PSx :=
      ((pIfS (pNotT (pB (pCallS F_stands_soundly (pCons (pVar 1) (pCons (pVar 2) pNil)))))
        ((pRet (pC (.bl false))))
        pNext))
theorem pl_lines_sound_1_d (P : PEnds) (env : Pw.Env) (S : Sto) : pl_lines_sound_1 P env S = (
      ((pIfS (pNotT (pB (pCallS F_stands_soundly (pCons (pVar 1) (pCons (pVar 2) pNil)))))
        ((pRet (pC (.bl false))))
        pNext))) P env S := rfl
def ps_lines_sound : PSx :=
    (pSeq (pIfS (pOr (pNotT (pB (pCall F_are_ascending (pCons (pLc (pIt (pVar 0)) (pgName 1) pYes (pOp ixk (pVar 1) (pC (.int 0))) [1]) pNil)))) (pNotT (pB (pCall F_heads_differ (pCons (pVar 0) pNil)))))
      ((pRet (pC (.bl false))))
      pNext)
    (pSeq (pAsg (pDc (pIt (pVar 0)) (pgName 1) (pB (pOp isk (pOp ixk (pVar 1) (pC (.int 4))) (pC .non))) (pOp ixk (pVar 1) (pC (.int 0))) (pC (.bl true)) [1]) (pgName 2))
    (pSeq (pFor (pIt (pVar 0)) (pgName 1) pl_lines_sound_1)
    ((pRet (pCall F_all_are_reached (pCons (pVar 0) pNil)))))))
theorem start_lines_sound : ∀ a0 : D, startE 3 [a0] = [some a0, none, none] := fun _ => rfl
theorem fold_ids : ∀ (is acc : List Ln.Id), (acc ++ is).Nodup → is.foldl (fun a i => putKv a (kId i) (Le.eId i) (.bl true)) (kvI acc) = kvI (acc ++ is)
  | [], acc, _ => by rw [List.append_nil]; rfl
  | i :: is, acc, h => by
    have hi : i ∉ acc := fun z => (List.nodup_append.mp h).2.2 _ z _ List.mem_cons_self rfl
    rw [List.foldl_cons, putKv_ids hi, fold_ids is (acc ++ [i]) (by rw [List.append_assoc]; exact h), List.append_assoc]
    rfl
theorem loop_lines_sound (x : D) (fs : List Ln.Id) (n : Nat) (S : Sto) (hn : S[n]? = some (.dct (kvI fs))) (P : PEnds) : ∀ (ls : List Line) (x1 : Option D), ((∀ l ∈ ls, sdB l fs = true) → ∀ x1, P.nx [some x, x1, some (.ref n)] S) → ((¬ ∀ l ∈ ls, sdB l fs = true) → P.rt (.bl false) S) →
    forG (pgName 1) pl_lines_sound_1 P (ls.map eLn) [some x, x1, some (.ref n)] S := by
  intro ls
  induction ls with
  | nil => exact fun x1 h _ => h (fun l hl => by cases hl) x1
  | cons a ls ih =>
    intro x1 h1 h2
    simp only [pSeq, pAsg, pVar, pC, pOp, pNil, pCons, pTup, pLst, pLstM, pNot, pAndV, pOrV, pIf, pB, pAnd, pOr, pNotT, pNoPart, pPart, pCB, pUnN, pSl, pNext, pBreak, pCont, pRet, pRetN, pDrop, pIfS, pgName, pgNil, pgCons, pgTup_t, pAug, pApp, pYes, isk_non, nsk_non, isN_non, isN_bl, isN_int, isN_str, isN_tup, isN_lst, isN_ref, isN_obj, pTru, pFld, pStar, pMake, pSetF, pIt, pRng1, pRng2, forG, List.map_cons, List.map_nil, List.getElem?_cons_zero, List.getElem?_cons_succ, List.set_cons_zero, List.set_cons_succ, Option.some.injEq, exists_eq_left, exists_eq_left', true_and, and_true, wipeE, D.bl.injEq, D.int.injEq, D.str.injEq, D.tup.injEq, D.lst.injEq, Bool.not_true, decide_eq_true_eq, if_true, if_false, reduceIte, Bool.false_eq_true, Option.isNone_none, Option.isNone_some, Bool.not_false, List.length_nil, List.length_cons, List.nil_append, List.cons_append, D.ref.injEq, SO.lst.injEq, pCall, exists_const, and_self, Nat.zero_add, Nat.zero_le, Nat.reduceLeDiff, Nat.reduceAdd, eq_self, o_add, o_sub, o_mul, o_div, o_mod, o_cmp, o_int, o_lenl, o_lent, o_lens, o_tupl, o_tupt, o_min, o_max, q_int, ixk_tup, ixk_lst, ixk_scr, at0, at1, at2, at3, at4, at5, List.length_map, ln0, ln1, ln2, ln3, ln4, lnS0, lnS2, lnS4, q_id, q_ido, q_oi, q_oid, q_path, q_ln, q_ls, n_id, n_path, n_ln, n_ls, non_oid, non_oln, non_oct, non_id, non_ln, non_ct, non_path, un_ln, un_pl, in_ids, ad_path, eOp_s, eOp_n, lstk_ls, st_ls, pl_lines_sound_1_d, pCallS]
    refine ⟨a, n, fs, rfl, hn, ?_⟩
    cases c : sdB a fs with
    | true =>
      simp only [pSeq, pAsg, pVar, pC, pOp, pNil, pCons, pTup, pLst, pLstM, pNot, pAndV, pOrV, pIf, pB, pAnd, pOr, pNotT, pNoPart, pPart, pCB, pUnN, pSl, pNext, pBreak, pCont, pRet, pRetN, pDrop, pIfS, pgName, pgNil, pgCons, pgTup_t, pAug, pApp, pYes, isk_non, nsk_non, isN_non, isN_bl, isN_int, isN_str, isN_tup, isN_lst, isN_ref, isN_obj, pTru, pFld, pStar, pMake, pSetF, pIt, pRng1, pRng2, forG, List.map_cons, List.map_nil, List.getElem?_cons_zero, List.getElem?_cons_succ, List.set_cons_zero, List.set_cons_succ, Option.some.injEq, exists_eq_left, exists_eq_left', true_and, and_true, wipeE, D.bl.injEq, D.int.injEq, D.str.injEq, D.tup.injEq, D.lst.injEq, Bool.not_true, decide_eq_true_eq, if_true, if_false, reduceIte, Bool.false_eq_true, Option.isNone_none, Option.isNone_some, Bool.not_false, List.length_nil, List.length_cons, List.nil_append, List.cons_append, D.ref.injEq, SO.lst.injEq, pCall, exists_const, and_self, Nat.zero_add, Nat.zero_le, Nat.reduceLeDiff, Nat.reduceAdd, eq_self, o_add, o_sub, o_mul, o_div, o_mod, o_cmp, o_int, o_lenl, o_lent, o_lens, o_tupl, o_tupt, o_min, o_max, q_int, ixk_tup, ixk_lst, ixk_scr, at0, at1, at2, at3, at4, at5, List.length_map, ln0, ln1, ln2, ln3, ln4, lnS0, lnS2, lnS4, q_id, q_ido, q_oi, q_oid, q_path, q_ln, q_ls, n_id, n_path, n_ln, n_ls, non_oid, non_oln, non_oct, non_id, non_ln, non_ct, non_path, un_ln, un_pl, in_ids, ad_path, eOp_s, eOp_n, lstk_ls, st_ls]
      refine ih _ (fun h => h1 fun l hl => ?_) (fun h => h2 fun q => h fun l hl => q l (List.mem_cons_of_mem _ hl))
      rcases List.mem_cons.mp hl with rfl | hl
      · exact c
      · exact h l hl
    | false =>
      simp only [pSeq, pAsg, pVar, pC, pOp, pNil, pCons, pTup, pLst, pLstM, pNot, pAndV, pOrV, pIf, pB, pAnd, pOr, pNotT, pNoPart, pPart, pCB, pUnN, pSl, pNext, pBreak, pCont, pRet, pRetN, pDrop, pIfS, pgName, pgNil, pgCons, pgTup_t, pAug, pApp, pYes, isk_non, nsk_non, isN_non, isN_bl, isN_int, isN_str, isN_tup, isN_lst, isN_ref, isN_obj, pTru, pFld, pStar, pMake, pSetF, pIt, pRng1, pRng2, forG, List.map_cons, List.map_nil, List.getElem?_cons_zero, List.getElem?_cons_succ, List.set_cons_zero, List.set_cons_succ, Option.some.injEq, exists_eq_left, exists_eq_left', true_and, and_true, wipeE, D.bl.injEq, D.int.injEq, D.str.injEq, D.tup.injEq, D.lst.injEq, Bool.not_true, decide_eq_true_eq, if_true, if_false, reduceIte, Bool.false_eq_true, Option.isNone_none, Option.isNone_some, Bool.not_false, List.length_nil, List.length_cons, List.nil_append, List.cons_append, D.ref.injEq, SO.lst.injEq, pCall, exists_const, and_self, Nat.zero_add, Nat.zero_le, Nat.reduceLeDiff, Nat.reduceAdd, eq_self, o_add, o_sub, o_mul, o_div, o_mod, o_cmp, o_int, o_lenl, o_lent, o_lens, o_tupl, o_tupt, o_min, o_max, q_int, ixk_tup, ixk_lst, ixk_scr, at0, at1, at2, at3, at4, at5, List.length_map, ln0, ln1, ln2, ln3, ln4, lnS0, lnS2, lnS4, q_id, q_ido, q_oi, q_oid, q_path, q_ln, q_ls, n_id, n_path, n_ln, n_ls, non_oid, non_oln, non_oct, non_id, non_ln, non_ct, non_path, un_ln, un_pl, in_ids, ad_path, eOp_s, eOp_n, lstk_ls, st_ls]
      refine h2 fun q => ?_
      rw [q a List.mem_cons_self] at c
      cases c
def F_lines_sound : PFn := fun ds k => ∃ (x : D) (ls : List Line), ds = [x] ∧ Sq x ls ∧ ls.length ≤ 1000 ∧ ∀ b, (b = true ↔ SoundP ls) → k (.bl b)
theorem len_lines_sound : ∀ ds k, F_lines_sound ds k → ds.length = 1 := by
  rintro _ k ⟨_, _, rfl, _⟩
  rfl
theorem body_lines_sound : ∀ ds k, F_lines_sound ds k → ps_lines_sound { nx := fun _ _ => k .non, rt := fun d S => (d.frz S).noRef = true ∧ k (d.frz S) } (startE 3 ds) [] := by
  rintro _ k ⟨x, ls, rfl, hx, hl, hk⟩
  rw [start_lines_sound]
  unfold ps_lines_sound
  have no : ¬ SoundP ls → (D.frz [] (.bl false)).noRef = true ∧ k (D.frz [] (.bl false)) := fun h => ⟨rfl, hk false ⟨fun z => (by cases z), fun z => absurd z h⟩⟩
  simp only [pSeq, pAsg, pVar, pC, pOp, pNil, pCons, pTup, pLst, pLstM, pNot, pAndV, pOrV, pIf, pB, pAnd, pOr, pNotT, pNoPart, pPart, pCB, pUnN, pSl, pNext, pBreak, pCont, pRet, pRetN, pDrop, pIfS, pgName, pgNil, pgCons, pgTup_t, pAug, pApp, pYes, isk_non, nsk_non, isN_non, isN_bl, isN_int, isN_str, isN_tup, isN_lst, isN_ref, isN_obj, pTru, pFld, pStar, pMake, pSetF, pIt, pRng1, pRng2, forG, List.map_cons, List.map_nil, List.getElem?_cons_zero, List.getElem?_cons_succ, List.set_cons_zero, List.set_cons_succ, Option.some.injEq, exists_eq_left, exists_eq_left', true_and, and_true, wipeE, D.bl.injEq, D.int.injEq, D.str.injEq, D.tup.injEq, D.lst.injEq, Bool.not_true, decide_eq_true_eq, if_true, if_false, reduceIte, Bool.false_eq_true, Option.isNone_none, Option.isNone_some, Bool.not_false, List.length_nil, List.length_cons, List.nil_append, List.cons_append, D.ref.injEq, SO.lst.injEq, pCall, exists_const, and_self, Nat.zero_add, Nat.zero_le, Nat.reduceLeDiff, Nat.reduceAdd, eq_self, o_add, o_sub, o_mul, o_div, o_mod, o_cmp, o_int, o_lenl, o_lent, o_lens, o_tupl, o_tupt, o_min, o_max, q_int, ixk_tup, ixk_lst, ixk_scr, at0, at1, at2, at3, at4, at5, List.length_map, ln0, ln1, ln2, ln3, ln4, lnS0, lnS2, lnS4, q_id, q_ido, q_oi, q_oid, q_path, q_ln, q_ls, n_id, n_path, n_ln, n_ls, non_oid, non_oln, non_oct, non_id, non_ln, non_ct, non_path, un_ln, un_pl, in_ids, ad_path, eOp_s, eOp_n, lstk_ls, st_ls]
  refine lc_go (src := x) (as := ls) (enc := eLn) (fun _ => true) (fun l => Le.eId l.id) (fun kk h => ⟨_, rfl, _, hx.it _, h⟩) (fun S => hx.it S) (by omega) (fun a ha k2 k3 h => ?_) ?_
  · rw [if_pos rfl] at h
    simp only [pSeq, pAsg, pVar, pC, pOp, pNil, pCons, pTup, pLst, pLstM, pNot, pAndV, pOrV, pIf, pB, pAnd, pOr, pNotT, pNoPart, pPart, pCB, pUnN, pSl, pNext, pBreak, pCont, pRet, pRetN, pDrop, pIfS, pgName, pgNil, pgCons, pgTup_t, pAug, pApp, pYes, isk_non, nsk_non, isN_non, isN_bl, isN_int, isN_str, isN_tup, isN_lst, isN_ref, isN_obj, pTru, pFld, pStar, pMake, pSetF, pIt, pRng1, pRng2, forG, List.map_cons, List.map_nil, List.getElem?_cons_zero, List.getElem?_cons_succ, List.set_cons_zero, List.set_cons_succ, Option.some.injEq, exists_eq_left, exists_eq_left', true_and, and_true, wipeE, D.bl.injEq, D.int.injEq, D.str.injEq, D.tup.injEq, D.lst.injEq, Bool.not_true, decide_eq_true_eq, if_true, if_false, reduceIte, Bool.false_eq_true, Option.isNone_none, Option.isNone_some, Bool.not_false, List.length_nil, List.length_cons, List.nil_append, List.cons_append, D.ref.injEq, SO.lst.injEq, pCall, exists_const, and_self, Nat.zero_add, Nat.zero_le, Nat.reduceLeDiff, Nat.reduceAdd, eq_self, o_add, o_sub, o_mul, o_div, o_mod, o_cmp, o_int, o_lenl, o_lent, o_lens, o_tupl, o_tupt, o_min, o_max, q_int, ixk_tup, ixk_lst, ixk_scr, at0, at1, at2, at3, at4, at5, List.length_map, ln0, ln1, ln2, ln3, ln4, lnS0, lnS2, lnS4, q_id, q_ido, q_oi, q_oid, q_path, q_ln, q_ls, n_id, n_path, n_ln, n_ls, non_oid, non_oln, non_oct, non_id, non_ln, non_ct, non_path, un_ln, un_pl, in_ids, ad_path, eOp_s, eOp_n, lstk_ls, st_ls]
    exact h
  rw [flt_all]
  have e1 : ls.map (fun l => Le.eId l.id) = (ls.map (·.id)).map Le.eId := by rw [List.map_map]; rfl
  rw [e1]
  refine call_of (pu1 (pu_ids _)) ⟨_, rfl, by rw [List.length_map]; omega, ?_⟩
  cases ha : ascB (ls.map (·.id)) with
  | false =>
    simp only [pSeq, pAsg, pVar, pC, pOp, pNil, pCons, pTup, pLst, pLstM, pNot, pAndV, pOrV, pIf, pB, pAnd, pOr, pNotT, pNoPart, pPart, pCB, pUnN, pSl, pNext, pBreak, pCont, pRet, pRetN, pDrop, pIfS, pgName, pgNil, pgCons, pgTup_t, pAug, pApp, pYes, isk_non, nsk_non, isN_non, isN_bl, isN_int, isN_str, isN_tup, isN_lst, isN_ref, isN_obj, pTru, pFld, pStar, pMake, pSetF, pIt, pRng1, pRng2, forG, List.map_cons, List.map_nil, List.getElem?_cons_zero, List.getElem?_cons_succ, List.set_cons_zero, List.set_cons_succ, Option.some.injEq, exists_eq_left, exists_eq_left', true_and, and_true, wipeE, D.bl.injEq, D.int.injEq, D.str.injEq, D.tup.injEq, D.lst.injEq, Bool.not_true, decide_eq_true_eq, if_true, if_false, reduceIte, Bool.false_eq_true, Option.isNone_none, Option.isNone_some, Bool.not_false, List.length_nil, List.length_cons, List.nil_append, List.cons_append, D.ref.injEq, SO.lst.injEq, pCall, exists_const, and_self, Nat.zero_add, Nat.zero_le, Nat.reduceLeDiff, Nat.reduceAdd, eq_self, o_add, o_sub, o_mul, o_div, o_mod, o_cmp, o_int, o_lenl, o_lent, o_lens, o_tupl, o_tupt, o_min, o_max, q_int, ixk_tup, ixk_lst, ixk_scr, at0, at1, at2, at3, at4, at5, List.length_map, ln0, ln1, ln2, ln3, ln4, lnS0, lnS2, lnS4, q_id, q_ido, q_oi, q_oid, q_path, q_ln, q_ls, n_id, n_path, n_ln, n_ls, non_oid, non_oln, non_oct, non_id, non_ln, non_ct, non_path, un_ln, un_pl, in_ids, ad_path, eOp_s, eOp_n, lstk_ls, st_ls]
    refine no fun h => ?_
    rw [h.asc] at ha
    cases ha
  | true =>
    have nd := asc_nd ha
    simp only [pSeq, pAsg, pVar, pC, pOp, pNil, pCons, pTup, pLst, pLstM, pNot, pAndV, pOrV, pIf, pB, pAnd, pOr, pNotT, pNoPart, pPart, pCB, pUnN, pSl, pNext, pBreak, pCont, pRet, pRetN, pDrop, pIfS, pgName, pgNil, pgCons, pgTup_t, pAug, pApp, pYes, isk_non, nsk_non, isN_non, isN_bl, isN_int, isN_str, isN_tup, isN_lst, isN_ref, isN_obj, pTru, pFld, pStar, pMake, pSetF, pIt, pRng1, pRng2, forG, List.map_cons, List.map_nil, List.getElem?_cons_zero, List.getElem?_cons_succ, List.set_cons_zero, List.set_cons_succ, Option.some.injEq, exists_eq_left, exists_eq_left', true_and, and_true, wipeE, D.bl.injEq, D.int.injEq, D.str.injEq, D.tup.injEq, D.lst.injEq, Bool.not_true, decide_eq_true_eq, if_true, if_false, reduceIte, Bool.false_eq_true, Option.isNone_none, Option.isNone_some, Bool.not_false, List.length_nil, List.length_cons, List.nil_append, List.cons_append, D.ref.injEq, SO.lst.injEq, pCall, exists_const, and_self, Nat.zero_add, Nat.zero_le, Nat.reduceLeDiff, Nat.reduceAdd, eq_self, o_add, o_sub, o_mul, o_div, o_mod, o_cmp, o_int, o_lenl, o_lent, o_lens, o_tupl, o_tupt, o_min, o_max, q_int, ixk_tup, ixk_lst, ixk_scr, at0, at1, at2, at3, at4, at5, List.length_map, ln0, ln1, ln2, ln3, ln4, lnS0, lnS2, lnS4, q_id, q_ido, q_oi, q_oid, q_path, q_ln, q_ls, n_id, n_path, n_ln, n_ls, non_oid, non_oln, non_oct, non_id, non_ln, non_ct, non_path, un_ln, un_pl, in_ids, ad_path, eOp_s, eOp_n, lstk_ls, st_ls]
    refine call_of (pu1 hx.pu) ⟨x, ls, rfl, hx, hl, ?_⟩
    by_cases hh : (ls.map (·.hd)).Nodup
    · rw [decide_eq_true hh]
      simp only [pSeq, pAsg, pVar, pC, pOp, pNil, pCons, pTup, pLst, pLstM, pNot, pAndV, pOrV, pIf, pB, pAnd, pOr, pNotT, pNoPart, pPart, pCB, pUnN, pSl, pNext, pBreak, pCont, pRet, pRetN, pDrop, pIfS, pgName, pgNil, pgCons, pgTup_t, pAug, pApp, pYes, isk_non, nsk_non, isN_non, isN_bl, isN_int, isN_str, isN_tup, isN_lst, isN_ref, isN_obj, pTru, pFld, pStar, pMake, pSetF, pIt, pRng1, pRng2, forG, List.map_cons, List.map_nil, List.getElem?_cons_zero, List.getElem?_cons_succ, List.set_cons_zero, List.set_cons_succ, Option.some.injEq, exists_eq_left, exists_eq_left', true_and, and_true, wipeE, D.bl.injEq, D.int.injEq, D.str.injEq, D.tup.injEq, D.lst.injEq, Bool.not_true, decide_eq_true_eq, if_true, if_false, reduceIte, Bool.false_eq_true, Option.isNone_none, Option.isNone_some, Bool.not_false, List.length_nil, List.length_cons, List.nil_append, List.cons_append, D.ref.injEq, SO.lst.injEq, pCall, exists_const, and_self, Nat.zero_add, Nat.zero_le, Nat.reduceLeDiff, Nat.reduceAdd, eq_self, o_add, o_sub, o_mul, o_div, o_mod, o_cmp, o_int, o_lenl, o_lent, o_lens, o_tupl, o_tupt, o_min, o_max, q_int, ixk_tup, ixk_lst, ixk_scr, at0, at1, at2, at3, at4, at5, List.length_map, ln0, ln1, ln2, ln3, ln4, lnS0, lnS2, lnS4, q_id, q_ido, q_oi, q_oid, q_path, q_ln, q_ls, n_id, n_path, n_ln, n_ls, non_oid, non_oln, non_oct, non_id, non_ln, non_ct, non_path, un_ln, un_pl, in_ids, ad_path, eOp_s, eOp_n, lstk_ls, st_ls]
      refine dc_go (src := x) (as := ls) (enc := eLn) (fun l => l.ct.isNone) (fun l => Le.eId l.id) (fun _ => .bl true) (fun l => kId l.id) (fun kk h => ⟨_, rfl, _, hx.it _, h⟩) (hx.it _) (by omega) (fun a => ⟨kOf_id _, kId_dp _⟩) (fun a ha k2 k3 h => ?_) ?_
      · simp only [pSeq, pAsg, pVar, pC, pOp, pNil, pCons, pTup, pLst, pLstM, pNot, pAndV, pOrV, pIf, pB, pAnd, pOr, pNotT, pNoPart, pPart, pCB, pUnN, pSl, pNext, pBreak, pCont, pRet, pRetN, pDrop, pIfS, pgName, pgNil, pgCons, pgTup_t, pAug, pApp, pYes, isk_non, nsk_non, isN_non, isN_bl, isN_int, isN_str, isN_tup, isN_lst, isN_ref, isN_obj, pTru, pFld, pStar, pMake, pSetF, pIt, pRng1, pRng2, forG, List.map_cons, List.map_nil, List.getElem?_cons_zero, List.getElem?_cons_succ, List.set_cons_zero, List.set_cons_succ, Option.some.injEq, exists_eq_left, exists_eq_left', true_and, and_true, wipeE, D.bl.injEq, D.int.injEq, D.str.injEq, D.tup.injEq, D.lst.injEq, Bool.not_true, decide_eq_true_eq, if_true, if_false, reduceIte, Bool.false_eq_true, Option.isNone_none, Option.isNone_some, Bool.not_false, List.length_nil, List.length_cons, List.nil_append, List.cons_append, D.ref.injEq, SO.lst.injEq, pCall, exists_const, and_self, Nat.zero_add, Nat.zero_le, Nat.reduceLeDiff, Nat.reduceAdd, eq_self, o_add, o_sub, o_mul, o_div, o_mod, o_cmp, o_int, o_lenl, o_lent, o_lens, o_tupl, o_tupt, o_min, o_max, q_int, ixk_tup, ixk_lst, ixk_scr, at0, at1, at2, at3, at4, at5, List.length_map, ln0, ln1, ln2, ln3, ln4, lnS0, lnS2, lnS4, q_id, q_ido, q_oi, q_oid, q_path, q_ln, q_ls, n_id, n_path, n_ln, n_ls, non_oid, non_oln, non_oct, non_id, non_ln, non_ct, non_path, un_ln, un_pl, in_ids, ad_path, eOp_s, eOp_n, lstk_ls, st_ls]
        exact h
      have e2 : (ls.filter fun l => l.ct.isNone).foldl (fun acc l => putKv acc (kId l.id) (Le.eId l.id) (.bl true)) [] = kvI (folds ls) := by
        have := fold_ids (folds ls) [] (by rw [List.nil_append]; unfold folds; exact (List.filter_sublist.map _).nodup nd)
        rw [List.nil_append] at this
        rw [← this]
        unfold folds
        rw [List.foldl_map]
        rfl
      rw [e2]
      refine for_go (src := x) (ds := ls.map eLn) (fun kk h => ⟨_, rfl, _, hx.it _, h⟩) (fun S => hx.it S) ?_
      refine loop_lines_sound x (folds ls) 0 _ rfl _ ls _ (fun h x1 => ?_) (fun h => ?_)
      · simp only [pSeq, pAsg, pVar, pC, pOp, pNil, pCons, pTup, pLst, pLstM, pNot, pAndV, pOrV, pIf, pB, pAnd, pOr, pNotT, pNoPart, pPart, pCB, pUnN, pSl, pNext, pBreak, pCont, pRet, pRetN, pDrop, pIfS, pgName, pgNil, pgCons, pgTup_t, pAug, pApp, pYes, isk_non, nsk_non, isN_non, isN_bl, isN_int, isN_str, isN_tup, isN_lst, isN_ref, isN_obj, pTru, pFld, pStar, pMake, pSetF, pIt, pRng1, pRng2, forG, List.map_cons, List.map_nil, List.getElem?_cons_zero, List.getElem?_cons_succ, List.set_cons_zero, List.set_cons_succ, Option.some.injEq, exists_eq_left, exists_eq_left', true_and, and_true, wipeE, D.bl.injEq, D.int.injEq, D.str.injEq, D.tup.injEq, D.lst.injEq, Bool.not_true, decide_eq_true_eq, if_true, if_false, reduceIte, Bool.false_eq_true, Option.isNone_none, Option.isNone_some, Bool.not_false, List.length_nil, List.length_cons, List.nil_append, List.cons_append, D.ref.injEq, SO.lst.injEq, pCall, exists_const, and_self, Nat.zero_add, Nat.zero_le, Nat.reduceLeDiff, Nat.reduceAdd, eq_self, o_add, o_sub, o_mul, o_div, o_mod, o_cmp, o_int, o_lenl, o_lent, o_lens, o_tupl, o_tupt, o_min, o_max, q_int, ixk_tup, ixk_lst, ixk_scr, at0, at1, at2, at3, at4, at5, List.length_map, ln0, ln1, ln2, ln3, ln4, lnS0, lnS2, lnS4, q_id, q_ido, q_oi, q_oid, q_path, q_ln, q_ls, n_id, n_path, n_ln, n_ls, non_oid, non_oln, non_oct, non_id, non_ln, non_ct, non_path, un_ln, un_pl, in_ids, ad_path, eOp_s, eOp_n, lstk_ls, st_ls]
        refine call_of (pu1 hx.pu) ⟨x, ls, rfl, hx, hl, nd, fun b hb => ?_⟩
        refine ⟨rfl, hk b ?_⟩
        rw [hb]
        exact ⟨fun q => ⟨ha, hh, fun l hl => sdB_iff.mp (h l hl), q⟩, fun q => q.re⟩
      · exact no fun q => h fun l hl => sdB_iff.mpr (q.sd l hl)
    · rw [decide_eq_false hh]
      simp only [pSeq, pAsg, pVar, pC, pOp, pNil, pCons, pTup, pLst, pLstM, pNot, pAndV, pOrV, pIf, pB, pAnd, pOr, pNotT, pNoPart, pPart, pCB, pUnN, pSl, pNext, pBreak, pCont, pRet, pRetN, pDrop, pIfS, pgName, pgNil, pgCons, pgTup_t, pAug, pApp, pYes, isk_non, nsk_non, isN_non, isN_bl, isN_int, isN_str, isN_tup, isN_lst, isN_ref, isN_obj, pTru, pFld, pStar, pMake, pSetF, pIt, pRng1, pRng2, forG, List.map_cons, List.map_nil, List.getElem?_cons_zero, List.getElem?_cons_succ, List.set_cons_zero, List.set_cons_succ, Option.some.injEq, exists_eq_left, exists_eq_left', true_and, and_true, wipeE, D.bl.injEq, D.int.injEq, D.str.injEq, D.tup.injEq, D.lst.injEq, Bool.not_true, decide_eq_true_eq, if_true, if_false, reduceIte, Bool.false_eq_true, Option.isNone_none, Option.isNone_some, Bool.not_false, List.length_nil, List.length_cons, List.nil_append, List.cons_append, D.ref.injEq, SO.lst.injEq, pCall, exists_const, and_self, Nat.zero_add, Nat.zero_le, Nat.reduceLeDiff, Nat.reduceAdd, eq_self, o_add, o_sub, o_mul, o_div, o_mod, o_cmp, o_int, o_lenl, o_lent, o_lens, o_tupl, o_tupt, o_min, o_max, q_int, ixk_tup, ixk_lst, ixk_scr, at0, at1, at2, at3, at4, at5, List.length_map, ln0, ln1, ln2, ln3, ln4, lnS0, lnS2, lnS4, q_id, q_ido, q_oi, q_oid, q_path, q_ln, q_ls, n_id, n_path, n_ln, n_ls, non_oid, non_oln, non_oct, non_id, non_ln, non_ct, non_path, un_ln, un_pl, in_ids, ad_path, eOp_s, eOp_n, lstk_ls, st_ls]
      exact no fun h => hh h.hnd
theorem ok_lines_sound {P : Program} {w : World} {K : PySem.W.Frag} {cl : Cl} {mg : Str → Option Value} {base : Heap} (D : Df K mg "lines_sound" s_lines_sound ["lines"]) (T : Txt K cl mg) (hw : cl.w = w) (G_are_ascending : C8.Cal P w K mg base 1 "are_ascending" (spP K cl F_are_ascending) []) (G_heads_differ : C8.Cal P w K mg base 1 "heads_differ" (spP K cl F_heads_differ) []) (G_stands_soundly : C8.Cal P w K mg base 1 "stands_soundly" (spS K cl F_stands_soundly) []) (G_all_are_reached : C8.Cal P w K mg base 1 "all_are_reached" (spP K cl F_all_are_reached) []) : C8.Cal P w K mg base 2 "lines_sound" (spP K cl F_lines_sound) [] := by
  subst hw
  refine D.cal sc_lines_sound (spP_len (n := 1) len_lines_sound) (fun f cdv A outer s H vs Q E hr h => ?_)
  refine ⟨_,
    (pss_cons (ps_if (PW.pt (pw_or (pt_not (pt_val (C8.pe_c G_are_ascending hr (by decide) (by rfl) (pa_cons (pe_lc (own := [("line", 1)]) (g := gName 1) (tt := tYes) rfl sc_lines_sound.nd (show PI _ _ _ (uIt K _) from upi (pv 0)) (blkOk_by (own := [("line", 1)]) (N := ["lines", "line", "folders"]) (sc := defScope s_lines_sound) (by decide +kernel)) (fun _ _ _ _ _ => (pg_name (i := 1) sc_lines_sound.nd rfl (Or.inl rfl))) (fun _ _ _ _ _ => pts_nil) (fun _ _ _ _ _ => (pe_ix (show IxR _ (uIx K) from uix) (pv 1) pe_int (fun _ _ => rfl)))) pa_nil)))) (pw_or1 (pt_not (pt_val (C8.pe_c G_heads_differ hr (by decide) (by rfl) (pa_cons (pv 0) pa_nil)))))))
      (pss_one (ps_ret pe_bl))
      pss_nil)
    (pss_cons (Dk.ps_setDcDk (i := 2) (own := [("line", 1)]) (g := gName 1) hr.units rfl sc_lines_sound.nd rfl rfl (Dk.sw_dict rfl rfl rfl (by decide +kernel)) (show PI _ _ _ (uIt K _) from upi (pv 0)) (blkOk_by (own := [("line", 1)]) (N := ["lines", "line", "folders"]) (sc := defScope s_lines_sound) (by decide +kernel)) (fun _ _ _ _ _ => (pg_name (i := 1) sc_lines_sound.nd rfl (Or.inl rfl))) (fun _ _ _ _ _ => (pts_one (pt_cmpR op_isN (pe_ix (show IxR _ (uIx K) from uix) (pv 1) pe_int (fun _ _ => rfl)) pe_non (nomark _)))) (fun _ _ _ _ _ => (pe_ix (show IxR _ (uIx K) from uix) (pv 1) pe_int (fun _ _ => rfl))) (fun _ _ _ _ _ => pe_bl))
    (pss_cons (ps_for PassesOwn.never rfl (show PI _ _ _ (uIt K _) from upi (pv 0)) (pg_name (i := 1) sc_lines_sound.nd rfl (Or.inl rfl))
      (pss_one (ps_if (pt_not (pt_val (C8.pe_c G_stands_soundly hr (by decide) (by rfl) (pa_cons (pv 1) (pa_cons (pv 2) pa_nil)))))
        (pss_one (ps_ret pe_bl))
        pss_nil)))
    (pss_one (ps_ret (C8.pe_c G_all_are_reached hr (by decide) (by rfl) (pa_cons (pv 0) pa_nil))))))), ?_⟩
  exact fn_ok (N := ["lines", "line", "folders"]) (show SmS K cl _ ps_lines_sound from
    (sm_seq (sm_ifS (sm_or (sm_notT (sm_B (sm_call (sm_cons (sm_lc (sm_it sm_var) (gok_name (by decide)) sm_gname sm_yes (sm_op smr_ix sm_var sm_int)) sm_nil)))) (sm_notT (sm_B (sm_call (sm_cons sm_var sm_nil)))))
      ((sm_ret sm_bl))
      sm_next)
    (sm_seq (sm_asg (sm_dc (sm_it sm_var) (gok_name (by decide)) sm_gname (sm_test (sm_op smr_is (sm_op smr_ix sm_var sm_int) sm_non)) (sm_op smr_ix sm_var sm_int) sm_bl) sm_gname)
    (sm_seq (sm_for (sm_it sm_var) sm_gname
      ((sm_ifS (sm_notT (sm_B (sm_callS (sm_cons sm_var (sm_cons sm_var sm_nil)))))
        ((sm_ret sm_bl))
        sm_next)))
    ((sm_ret (sm_call (sm_cons sm_var sm_nil)))))))) body_lines_sound h
/-! ### law_rows -/
def pr_law_rows_1 : PSx :=
      (pSeq (pAsg (pOp modk (pCB int1k (pCons (pOp addk (pOp addk (pOp addk (pOp mulk (pVar 3) (pC (.int 48271))) (pOp mulk (pVar 5) (pC (.int 69621)))) (pOp mulk (pC (.int 2)) (pVar 4))) (pC (.int 1))) pNil)) (pC (.int 1000000007))) (pgName 3))
      ((pIfS (pB (pOp (cmpk fun i j => decide (j ≤ i)) (pVar 5) (pC (.int 1000000000))))
        ((pApp (pVar 2) (pVar 5)))
        ((pApp (pVar 2) (pOp modk (pCB int1k (pCons (pOp addk (pOp mulk (pVar 3) (pC (.int 2862933555777941757))) (pC (.int 3037000493))) pNil)) (pC (.int 18446744073709551557))))))))
theorem pr_law_rows_1_d (P : PEnds) (env : Pw.Env) (S : Sto) : pr_law_rows_1 P env S = (
      (pSeq (pAsg (pOp modk (pCB int1k (pCons (pOp addk (pOp addk (pOp addk (pOp mulk (pVar 3) (pC (.int 48271))) (pOp mulk (pVar 5) (pC (.int 69621)))) (pOp mulk (pC (.int 2)) (pVar 4))) (pC (.int 1))) pNil)) (pC (.int 1000000007))) (pgName 3))
      ((pIfS (pB (pOp (cmpk fun i j => decide (j ≤ i)) (pVar 5) (pC (.int 1000000000))))
        ((pApp (pVar 2) (pVar 5)))
        ((pApp (pVar 2) (pOp modk (pCB int1k (pCons (pOp addk (pOp mulk (pVar 3) (pC (.int 2862933555777941757))) (pC (.int 3037000493))) pNil)) (pC (.int 18446744073709551557))))))))) P env S := rfl
def pr_law_rows_2 : PSx :=
      (pSeq (pIfS (pB (pOp (cmpk fun i j => decide (i < j)) (pVar 5) (pC (.int 0))))
        ((pAsg (pOp subk (pC (.int 1)) (pOp mulk (pC (.int 2)) (pVar 5))) (pgName 5)))
        pNext)
      pr_law_rows_1)
theorem pr_law_rows_2_d (P : PEnds) (env : Pw.Env) (S : Sto) : pr_law_rows_2 P env S = (
      (pSeq (pIfS (pB (pOp (cmpk fun i j => decide (i < j)) (pVar 5) (pC (.int 0))))
        ((pAsg (pOp subk (pC (.int 1)) (pOp mulk (pC (.int 2)) (pVar 5))) (pgName 5)))
        pNext)
      pr_law_rows_1)) P env S := rfl
def pl_law_rows_1 : PSx :=
      (pSeq (pAsg (pC (.int 0)) (pgName 5))
      (pSeq (pIfS (pB (pOp (cmpk fun i j => decide (i < j)) (pVar 4) (pCB lenk (pCons (pVar 0) pNil))))
        ((pAsg (pCB int1k (pCons (pOp ixk (pVar 0) (pVar 4)) pNil)) (pgName 5)))
        pNext)
      pr_law_rows_2))
theorem pl_law_rows_1_d (P : PEnds) (env : Pw.Env) (S : Sto) : pl_law_rows_1 P env S = (
      (pSeq (pAsg (pC (.int 0)) (pgName 5))
      (pSeq (pIfS (pB (pOp (cmpk fun i j => decide (i < j)) (pVar 4) (pCB lenk (pCons (pVar 0) pNil))))
        ((pAsg (pCB int1k (pCons (pOp ixk (pVar 0) (pVar 4)) pNil)) (pgName 5)))
        pNext)
      pr_law_rows_2))) P env S := rfl
def ps_law_rows : PSx :=
    (pSeq (pAsg (pLstM pNil) (pgName 2))
    (pSeq (pAsg (pC (.int 1)) (pgName 3))
    (pSeq (pFor (pRng1 (pCons (pVar 1) pNil)) (pgName 4) pl_law_rows_1)
    ((pRet (pVar 2))))))
theorem start_law_rows : ∀ a0 a1 : D, startE 6 [a0, a1] = [some a0, some a1, none, none, none, none] := fun _ _ => rfl
theorem loop_law_rows (ns : List Int) (c0 : D) (P : PEnds) : ∀ (is : List Nat) (acc : List Int) (m : Int) (x1 x2 : Option D), acc.length + is.length ≤ 1000 → (∀ c ∈ acc, 0 ≤ c) →
    (∀ (rs : List Int) (m : Int) (x1 x2 : Option D), rs.length = acc.length + is.length → (∀ c ∈ rs, 0 ≤ c) → P.nx [some (.scr (ns.map D.int)), some c0, some (.ref 0), some (.int m), x1, x2] [.lst (rs.map D.int)]) →
    forG (pgName 4) pl_law_rows_1 P (is.map fun (i : Nat) => D.int (i : Int)) [some (.scr (ns.map D.int)), some c0, some (.ref 0), some (.int m), x1, x2] [.lst (acc.map D.int)] := by
  intro is
  induction is with
  | nil => exact fun acc m x1 x2 _ ha h => h acc m x1 x2 (by simp) ha
  | cons i is ih =>
    intro acc m x1 x2 hl ha h
    rw [List.length_cons] at hl h
    unfold pl_law_rows_1
    simp only [pSeq, pAsg, pVar, pC, pOp, pNil, pCons, pTup, pLst, pLstM, pNot, pAndV, pOrV, pIf, pB, pAnd, pOr, pNotT, pNoPart, pPart, pCB, pUnN, pSl, pNext, pBreak, pCont, pRet, pRetN, pDrop, pIfS, pgName, pgNil, pgCons, pgTup_t, pAug, pApp, pYes, isk_non, nsk_non, isN_non, isN_bl, isN_int, isN_str, isN_tup, isN_lst, isN_ref, isN_obj, pTru, pFld, pStar, pMake, pSetF, pIt, pRng1, pRng2, forG, List.map_cons, List.map_nil, List.getElem?_cons_zero, List.getElem?_cons_succ, List.set_cons_zero, List.set_cons_succ, Option.some.injEq, exists_eq_left, exists_eq_left', true_and, and_true, wipeE, D.bl.injEq, D.int.injEq, D.str.injEq, D.tup.injEq, D.lst.injEq, Bool.not_true, decide_eq_true_eq, if_true, if_false, reduceIte, Bool.false_eq_true, Option.isNone_none, Option.isNone_some, Bool.not_false, List.length_nil, List.length_cons, List.nil_append, List.cons_append, D.ref.injEq, SO.lst.injEq, pCall, exists_const, and_self, Nat.zero_add, Nat.zero_le, Nat.reduceLeDiff, Nat.reduceAdd, eq_self, o_add, o_sub, o_mul, o_div, o_mod, o_cmp, o_int, o_lenl, o_lent, o_lens, o_tupl, o_tupt, o_min, o_max, q_int, ixk_tup, ixk_lst, ixk_scr, at0, at1, at2, at3, at4, at5, List.length_map]
    have fin : ∀ (v m : Int) (x2 : Option D), 0 ≤ v → forG (pgName 4) pl_law_rows_1 P (is.map fun (i : Nat) => D.int (i : Int)) [some (.scr (ns.map D.int)), some c0, some (.ref 0), some (.int m), some (.int i), x2] [.lst (acc.map D.int ++ [.int v])] := fun v m x2 hv => by
      have := ih (acc ++ [v]) m (some (.int i)) x2 (by rw [List.length_append, List.length_singleton]; omega) (fun c hc => by
        rcases List.mem_append.mp hc with hc | hc
        · exact ha c hc
        · rw [List.mem_singleton.mp hc]
          exact hv) (fun rs m x1 x2 hr h0 => h rs m x1 x2 (by rw [hr, List.length_append, List.length_singleton]; omega) h0)
      rw [List.map_append] at this
      exact this
    have r1 : ∀ c : Int, 0 ≤ c → pr_law_rows_1 { P with nx := forG (pgName 4) pl_law_rows_1 P (is.map fun (i : Nat) => D.int (i : Int)), ct := forG (pgName 4) pl_law_rows_1 P (is.map fun (i : Nat) => D.int (i : Int)), bk := P.nx } [some (.scr (ns.map D.int)), some c0, some (.ref 0), some (.int m), some (.int i), some (.int c)] [.lst (acc.map D.int)] := by
      intro c hc
      unfold pr_law_rows_1
      simp only [pSeq, pAsg, pVar, pC, pOp, pNil, pCons, pTup, pLst, pLstM, pNot, pAndV, pOrV, pIf, pB, pAnd, pOr, pNotT, pNoPart, pPart, pCB, pUnN, pSl, pNext, pBreak, pCont, pRet, pRetN, pDrop, pIfS, pgName, pgNil, pgCons, pgTup_t, pAug, pApp, pYes, isk_non, nsk_non, isN_non, isN_bl, isN_int, isN_str, isN_tup, isN_lst, isN_ref, isN_obj, pTru, pFld, pStar, pMake, pSetF, pIt, pRng1, pRng2, forG, List.map_cons, List.map_nil, List.getElem?_cons_zero, List.getElem?_cons_succ, List.set_cons_zero, List.set_cons_succ, Option.some.injEq, exists_eq_left, exists_eq_left', true_and, and_true, wipeE, D.bl.injEq, D.int.injEq, D.str.injEq, D.tup.injEq, D.lst.injEq, Bool.not_true, decide_eq_true_eq, if_true, if_false, reduceIte, Bool.false_eq_true, Option.isNone_none, Option.isNone_some, Bool.not_false, List.length_nil, List.length_cons, List.nil_append, List.cons_append, D.ref.injEq, SO.lst.injEq, pCall, exists_const, and_self, Nat.zero_add, Nat.zero_le, Nat.reduceLeDiff, Nat.reduceAdd, eq_self, o_add, o_sub, o_mul, o_div, o_mod, o_cmp, o_int, o_lenl, o_lent, o_lens, o_tupl, o_tupt, o_min, o_max, q_int, ixk_tup, ixk_lst, ixk_scr, at0, at1, at2, at3, at4, at5, List.length_map]
      refine ⟨.inr (by decide), .inr (by decide), .inl (by decide), by decide, ?_⟩
      by_cases hb : (1000000000 : Int) ≤ c
      · rw [if_pos hb]
        exact ⟨by omega, fin _ _ _ hc⟩
      · rw [if_neg hb]
        exact ⟨.inr (by decide), by decide, by omega, fin _ _ _ (Int.emod_nonneg _ (by decide))⟩
    have r2 : ∀ c : Int, pr_law_rows_2 { P with nx := forG (pgName 4) pl_law_rows_1 P (is.map fun (i : Nat) => D.int (i : Int)), ct := forG (pgName 4) pl_law_rows_1 P (is.map fun (i : Nat) => D.int (i : Int)), bk := P.nx } [some (.scr (ns.map D.int)), some c0, some (.ref 0), some (.int m), some (.int i), some (.int c)] [.lst (acc.map D.int)] := by
      intro c
      unfold pr_law_rows_2
      simp only [pSeq, pAsg, pVar, pC, pOp, pNil, pCons, pTup, pLst, pLstM, pNot, pAndV, pOrV, pIf, pB, pAnd, pOr, pNotT, pNoPart, pPart, pCB, pUnN, pSl, pNext, pBreak, pCont, pRet, pRetN, pDrop, pIfS, pgName, pgNil, pgCons, pgTup_t, pAug, pApp, pYes, isk_non, nsk_non, isN_non, isN_bl, isN_int, isN_str, isN_tup, isN_lst, isN_ref, isN_obj, pTru, pFld, pStar, pMake, pSetF, pIt, pRng1, pRng2, forG, List.map_cons, List.map_nil, List.getElem?_cons_zero, List.getElem?_cons_succ, List.set_cons_zero, List.set_cons_succ, Option.some.injEq, exists_eq_left, exists_eq_left', true_and, and_true, wipeE, D.bl.injEq, D.int.injEq, D.str.injEq, D.tup.injEq, D.lst.injEq, Bool.not_true, decide_eq_true_eq, if_true, if_false, reduceIte, Bool.false_eq_true, Option.isNone_none, Option.isNone_some, Bool.not_false, List.length_nil, List.length_cons, List.nil_append, List.cons_append, D.ref.injEq, SO.lst.injEq, pCall, exists_const, and_self, Nat.zero_add, Nat.zero_le, Nat.reduceLeDiff, Nat.reduceAdd, eq_self, o_add, o_sub, o_mul, o_div, o_mod, o_cmp, o_int, o_lenl, o_lent, o_lens, o_tupl, o_tupt, o_min, o_max, q_int, ixk_tup, ixk_lst, ixk_scr, at0, at1, at2, at3, at4, at5, List.length_map]
      by_cases hb : c < 0
      · rw [if_pos hb]
        exact ⟨.inl (by decide), r1 _ (by omega)⟩
      · rw [if_neg hb]
        exact r1 _ (by omega)
    by_cases hb : (i : Int) < (ns.length : Int)
    · rw [if_pos hb]
      have hi : i < ns.length := by omega
      refine ⟨.int ns[i], at_map (List.getElem?_eq_getElem hi), ?_⟩
      simp only [pSeq, pAsg, pVar, pC, pOp, pNil, pCons, pTup, pLst, pLstM, pNot, pAndV, pOrV, pIf, pB, pAnd, pOr, pNotT, pNoPart, pPart, pCB, pUnN, pSl, pNext, pBreak, pCont, pRet, pRetN, pDrop, pIfS, pgName, pgNil, pgCons, pgTup_t, pAug, pApp, pYes, isk_non, nsk_non, isN_non, isN_bl, isN_int, isN_str, isN_tup, isN_lst, isN_ref, isN_obj, pTru, pFld, pStar, pMake, pSetF, pIt, pRng1, pRng2, forG, List.map_cons, List.map_nil, List.getElem?_cons_zero, List.getElem?_cons_succ, List.set_cons_zero, List.set_cons_succ, Option.some.injEq, exists_eq_left, exists_eq_left', true_and, and_true, wipeE, D.bl.injEq, D.int.injEq, D.str.injEq, D.tup.injEq, D.lst.injEq, Bool.not_true, decide_eq_true_eq, if_true, if_false, reduceIte, Bool.false_eq_true, Option.isNone_none, Option.isNone_some, Bool.not_false, List.length_nil, List.length_cons, List.nil_append, List.cons_append, D.ref.injEq, SO.lst.injEq, pCall, exists_const, and_self, Nat.zero_add, Nat.zero_le, Nat.reduceLeDiff, Nat.reduceAdd, eq_self, o_add, o_sub, o_mul, o_div, o_mod, o_cmp, o_int, o_lenl, o_lent, o_lens, o_tupl, o_tupt, o_min, o_max, q_int, ixk_tup, ixk_lst, ixk_scr, at0, at1, at2, at3, at4, at5, List.length_map]
      exact r2 _
    · rw [if_neg hb]
      exact r2 _
def F_law_rows : PFn := fun ds k => ∃ (ns : List Int) (n : Nat), ds = [.scr (ns.map D.int), .int (n : Int)] ∧ ns.length ≤ 63 ∧ n ≤ 1000 ∧ ∀ rs : List Int, rs.length = n → (∀ c ∈ rs, 0 ≤ c) → k (.lst (rs.map D.int))
theorem len_law_rows : ∀ ds k, F_law_rows ds k → ds.length = 2 := by
  rintro _ _ ⟨_, _, rfl, _⟩
  rfl
theorem pu_intsL : ∀ rs : List Int, pureAll (rs.map D.int) = true
  | [] => rfl
  | r :: rs => by rw [List.map_cons, pureAll, pu_intsL rs]; rfl
theorem body_law_rows : ∀ ds k, F_law_rows ds k → ps_law_rows { nx := fun _ _ => k .non, rt := fun d S => (d.frz S).noRef = true ∧ k (d.frz S) } (startE 6 ds) [] := by
  rintro _ k ⟨ns, n, rfl, hl, hn, hk⟩
  rw [start_law_rows]
  unfold ps_law_rows
  simp only [pSeq, pAsg, pVar, pC, pOp, pNil, pCons, pTup, pLst, pLstM, pNot, pAndV, pOrV, pIf, pB, pAnd, pOr, pNotT, pNoPart, pPart, pCB, pUnN, pSl, pNext, pBreak, pCont, pRet, pRetN, pDrop, pIfS, pgName, pgNil, pgCons, pgTup_t, pAug, pApp, pYes, isk_non, nsk_non, isN_non, isN_bl, isN_int, isN_str, isN_tup, isN_lst, isN_ref, isN_obj, pTru, pFld, pStar, pMake, pSetF, pIt, pRng1, pRng2, forG, List.map_cons, List.map_nil, List.getElem?_cons_zero, List.getElem?_cons_succ, List.set_cons_zero, List.set_cons_succ, Option.some.injEq, exists_eq_left, exists_eq_left', true_and, and_true, wipeE, D.bl.injEq, D.int.injEq, D.str.injEq, D.tup.injEq, D.lst.injEq, Bool.not_true, decide_eq_true_eq, if_true, if_false, reduceIte, Bool.false_eq_true, Option.isNone_none, Option.isNone_some, Bool.not_false, List.length_nil, List.length_cons, List.nil_append, List.cons_append, D.ref.injEq, SO.lst.injEq, pCall, exists_const, and_self, Nat.zero_add, Nat.zero_le, Nat.reduceLeDiff, Nat.reduceAdd, eq_self, o_add, o_sub, o_mul, o_div, o_mod, o_cmp, o_int, o_lenl, o_lent, o_lens, o_tupl, o_tupt, o_min, o_max, q_int, ixk_tup, ixk_lst, ixk_scr, at0, at1, at2, at3, at4, at5, List.length_map]
  refine for_go (src := .lst (rngD n)) (ds := rngD n) (fun kk h => ⟨_, rfl, _, rfl, ⟨by omega, by omega⟩, h⟩) (fun S => rfl) ?_
  refine loop_law_rows ns _ _ (List.range n) [] 1 _ _ (by rw [List.length_range, List.length_nil]; omega) (fun c hc => by cases hc) (fun rs m x1 x2 hr h0 => ?_)
  simp only [pSeq, pAsg, pVar, pC, pOp, pNil, pCons, pTup, pLst, pLstM, pNot, pAndV, pOrV, pIf, pB, pAnd, pOr, pNotT, pNoPart, pPart, pCB, pUnN, pSl, pNext, pBreak, pCont, pRet, pRetN, pDrop, pIfS, pgName, pgNil, pgCons, pgTup_t, pAug, pApp, pYes, isk_non, nsk_non, isN_non, isN_bl, isN_int, isN_str, isN_tup, isN_lst, isN_ref, isN_obj, pTru, pFld, pStar, pMake, pSetF, pIt, pRng1, pRng2, forG, List.map_cons, List.map_nil, List.getElem?_cons_zero, List.getElem?_cons_succ, List.set_cons_zero, List.set_cons_succ, Option.some.injEq, exists_eq_left, exists_eq_left', true_and, and_true, wipeE, D.bl.injEq, D.int.injEq, D.str.injEq, D.tup.injEq, D.lst.injEq, Bool.not_true, decide_eq_true_eq, if_true, if_false, reduceIte, Bool.false_eq_true, Option.isNone_none, Option.isNone_some, Bool.not_false, List.length_nil, List.length_cons, List.nil_append, List.cons_append, D.ref.injEq, SO.lst.injEq, pCall, exists_const, and_self, Nat.zero_add, Nat.zero_le, Nat.reduceLeDiff, Nat.reduceAdd, eq_self, o_add, o_sub, o_mul, o_div, o_mod, o_cmp, o_int, o_lenl, o_lent, o_lens, o_tupl, o_tupt, o_min, o_max, q_int, ixk_tup, ixk_lst, ixk_scr, at0, at1, at2, at3, at4, at5, List.length_map]
  rw [List.length_range, List.length_nil, Nat.zero_add] at hr
  exact ⟨pure_noRef _ (show (D.lst (rs.map D.int)).pure = true from pu_intsL rs), hk rs hr h0⟩
theorem ok_law_rows {P : Program} {w : World} {K : PySem.W.Frag} {cl : Cl} {mg : Str → Option Value} {base : Heap} (D : Df K mg "_law_rows" s_law_rows ["script", "count"]) (T : Txt K cl mg) (hw : cl.w = w)  : C8.Cal P w K mg base 1 "_law_rows" (spP K cl F_law_rows) [] := by
  subst hw
  refine D.cal sc_law_rows (spP_len (n := 2) len_law_rows) (fun f cdv A outer s H vs Q E hr h => ?_)
  refine ⟨_,
    (pss_cons (ps_set (i := 2) sc_law_rows.nd rfl (.inl rfl) (pe_lst pa_nil))
    (pss_cons (ps_set (i := 3) sc_law_rows.nd rfl (.inl rfl) pe_int)
    (pss_cons (ps_for PassesOwn.never rfl (pi_range1 (by rfl) T.n_range (pa_cons (pv 1) pa_nil)) (pg_name (i := 4) sc_law_rows.nd rfl (Or.inl rfl))
      (pss_cons (ps_set (i := 5) sc_law_rows.nd rfl (.inl rfl) pe_int)
      (pss_cons (ps_if (pt_cmpR op_lt (pv 4) (pe_callB (show CallR _ (.builtin "len") (uLen K) from ucall_len) (by rfl) T.n_len PySem.boot_len (pa_cons (pv 0) pa_nil)) (nomark _))
        (pss_one (ps_set (i := 5) sc_law_rows.nd rfl (.inl rfl) (pe_callTy call_int1 (by rfl) T.n_int (by decide +kernel) (pa_cons (pe_ix (show IxR _ (uIx K) from uix) (pv 0) (pv 4) (fun _ _ => rfl)) pa_nil))))
        pss_nil)
      (pss_cons (ps_if (pt_cmpR op_lt (pv 5) pe_int (nomark _))
        (pss_one (ps_set (i := 5) sc_law_rows.nd rfl (.inl rfl) (pe_op op_sub pe_int (pe_op uop_mul pe_int (pv 5)))))
        pss_nil)
      (pss_cons (ps_set (i := 3) sc_law_rows.nd rfl (.inl rfl) (pe_op op_mod (pe_callTy call_int1 (by rfl) T.n_int (by decide +kernel) (pa_cons (pe_op (show OpR _ _ (uAdd K) from uop_add) (pe_op (show OpR _ _ (uAdd K) from uop_add) (pe_op (show OpR _ _ (uAdd K) from uop_add) (pe_op uop_mul (pv 3) pe_int) (pe_op uop_mul (pv 5) pe_int)) (pe_op uop_mul pe_int (pv 4))) pe_int) pa_nil)) pe_int))
      (pss_one (ps_if (pt_cmpR op_ge (pv 5) pe_int (nomark _))
        (pss_one (ps_expr (pe_bm PySem.F.plainAttrs_list PySem.F.slot_list_append PySem.F.type_list_append mt_append (pv 2) (pa_cons (pv 5) pa_nil))))
        (pss_one (ps_expr (pe_bm PySem.F.plainAttrs_list PySem.F.slot_list_append PySem.F.type_list_append mt_append (pv 2) (pa_cons (pe_op op_mod (pe_callTy call_int1 (by rfl) T.n_int (by decide +kernel) (pa_cons (pe_op (show OpR _ _ (uAdd K) from uop_add) (pe_op uop_mul (pv 3) pe_int) pe_int) pa_nil)) pe_int) pa_nil)))))))))))
    (pss_one (ps_ret (pv 2)))))), ?_⟩
  exact fn_ok (N := ["script", "count", "rows", "mixed", "k", "cell"]) (show SmS K cl _ ps_law_rows from
    (sm_seq (sm_asg (sm_lstM sm_nil) sm_gname)
    (sm_seq (sm_asg sm_int sm_gname)
    (sm_seq (sm_for (sm_rng1 (sm_cons sm_var sm_nil)) sm_gname
      (sm_seq (sm_asg sm_int sm_gname)
      (sm_seq (sm_ifS (sm_test (sm_op smr_cmp sm_var (sm_cb smc_len (sm_cons sm_var sm_nil))))
        ((sm_asg (sm_cb smc_int (sm_cons (sm_op smr_ix sm_var sm_var) sm_nil)) sm_gname))
        sm_next)
      (sm_seq (sm_ifS (sm_test (sm_op smr_cmp sm_var sm_int))
        ((sm_asg (sm_op smr_sub sm_int (sm_op smr_mul sm_int sm_var)) sm_gname))
        sm_next)
      (sm_seq (sm_asg (sm_op smr_mod (sm_cb smc_int (sm_cons (sm_op smr_add (sm_op smr_add (sm_op smr_add (sm_op smr_mul sm_var sm_int) (sm_op smr_mul sm_var sm_int)) (sm_op smr_mul sm_int sm_var)) sm_int) sm_nil)) sm_int) sm_gname)
      ((sm_ifS (sm_test (sm_op smr_cmp sm_var sm_int))
        ((sm_app sm_var sm_var))
        ((sm_app sm_var (sm_op smr_mod (sm_cb smc_int (sm_cons (sm_op smr_add (sm_op smr_mul sm_var sm_int) sm_int) sm_nil)) sm_int))))))))))
    ((sm_ret sm_var)))))) body_law_rows h
/-! ### law_path -/
def ps_law_path : PSx :=
    (pSeq (pAsg (pLst (pCons (pC (.str (Str.ofString "a"))) (pCons (pC (.str (Str.ofString "b"))) (pCons (pC (.str (Str.ofString "c.txt"))) (pCons (pC (.str (Str.ofString "d"))) pNil))))) (pgName 2))
    ((pRet (pCB tupk (pCons (pLc (pRng1 (pCons (pOp addk (pC (.int 1)) (pOp modk (pCB int1k (pCons (pOp divk (pVar 0) (pC (.int 5))) pNil)) (pVar 1))) pNil)) (pgName 3) pYes (pOp ixk (pVar 2) (pOp modk (pCB int1k (pCons (pOp divk (pVar 0) (pOp addk (pOp mulk (pC (.int 11)) (pVar 3)) (pC (.int 3)))) pNil)) (pC (.int 4)))) [3]) pNil)))))
theorem start_law_path : ∀ a0 a1 : D, startE 4 [a0, a1] = [some a0, some a1, none, none] := fun _ _ => rfl
def F_law_path : PFn := fun ds k => ∃ (row : Int) (most : Nat), ds = [.int row, .int (most : Int)] ∧ 1 ≤ most ∧ most ≤ 100 ∧ k (ePath (pathF row most))
theorem len_law_path : ∀ ds k, F_law_path ds k → ds.length = 2 := by
  rintro _ _ ⟨_, _, rfl, _⟩
  rfl
theorem names_at (i : Int) (h0 : 0 ≤ i) (h : i < 4) : atI [D.str (Str.ofString "a"), .str (Str.ofString "b"), .str (Str.ofString "c.txt"), .str (Str.ofString "d")] i = some (.str (namesD.getD i.toNat Str.empty)) := by
  have : i = 0 ∨ i = 1 ∨ i = 2 ∨ i = 3 := by omega
  rcases this with rfl | rfl | rfl | rfl <;> rfl
theorem body_law_path : ∀ ds k, F_law_path ds k → ps_law_path { nx := fun _ _ => k .non, rt := fun d S => (d.frz S).noRef = true ∧ k (d.frz S) } (startE 4 ds) [] := by
  rintro _ k ⟨row, most, rfl, h1, h2, hk⟩
  rw [start_law_path]
  unfold ps_law_path
  have hm := mod_bd (row / 5) most (by omega)
  simp only [pSeq, pAsg, pVar, pC, pOp, pNil, pCons, pTup, pLst, pLstM, pNot, pAndV, pOrV, pIf, pB, pAnd, pOr, pNotT, pNoPart, pPart, pCB, pUnN, pSl, pNext, pBreak, pCont, pRet, pRetN, pDrop, pIfS, pgName, pgNil, pgCons, pgTup_t, pAug, pApp, pYes, isk_non, nsk_non, isN_non, isN_bl, isN_int, isN_str, isN_tup, isN_lst, isN_ref, isN_obj, pTru, pFld, pStar, pMake, pSetF, pIt, pRng1, pRng2, forG, List.map_cons, List.map_nil, List.getElem?_cons_zero, List.getElem?_cons_succ, List.set_cons_zero, List.set_cons_succ, Option.some.injEq, exists_eq_left, exists_eq_left', true_and, and_true, wipeE, D.bl.injEq, D.int.injEq, D.str.injEq, D.tup.injEq, D.lst.injEq, Bool.not_true, decide_eq_true_eq, if_true, if_false, reduceIte, Bool.false_eq_true, Option.isNone_none, Option.isNone_some, Bool.not_false, List.length_nil, List.length_cons, List.nil_append, List.cons_append, D.ref.injEq, SO.lst.injEq, pCall, exists_const, and_self, Nat.zero_add, Nat.zero_le, Nat.reduceLeDiff, Nat.reduceAdd, eq_self, o_add, o_sub, o_mul, o_div, o_mod, o_cmp, o_int, o_lenl, o_lent, o_lens, o_tupl, o_tupt, o_min, o_max, q_int, ixk_tup, ixk_lst, ixk_scr, at0, at1, at2, at3, at4, at5, List.length_map]
  refine lc_go (src := .lst (rngD (1 + row / 5 % most).toNat)) (as := List.range (1 + row / 5 % most).toNat) (enc := fun (i : Nat) => .int (i : Int)) (fun _ => true) (fun (j : Nat) => .str (namesD.getD (row / (11 * (j : Int) + 3) % 4).toNat Str.empty)) (fun kk h => ?_) (fun S => rfl) (by rw [List.length_range]; omega) (fun j hj k2 k3 h => ?_) ?_
  · simp only [pSeq, pAsg, pVar, pC, pOp, pNil, pCons, pTup, pLst, pLstM, pNot, pAndV, pOrV, pIf, pB, pAnd, pOr, pNotT, pNoPart, pPart, pCB, pUnN, pSl, pNext, pBreak, pCont, pRet, pRetN, pDrop, pIfS, pgName, pgNil, pgCons, pgTup_t, pAug, pApp, pYes, isk_non, nsk_non, isN_non, isN_bl, isN_int, isN_str, isN_tup, isN_lst, isN_ref, isN_obj, pTru, pFld, pStar, pMake, pSetF, pIt, pRng1, pRng2, forG, List.map_cons, List.map_nil, List.getElem?_cons_zero, List.getElem?_cons_succ, List.set_cons_zero, List.set_cons_succ, Option.some.injEq, exists_eq_left, exists_eq_left', true_and, and_true, wipeE, D.bl.injEq, D.int.injEq, D.str.injEq, D.tup.injEq, D.lst.injEq, Bool.not_true, decide_eq_true_eq, if_true, if_false, reduceIte, Bool.false_eq_true, Option.isNone_none, Option.isNone_some, Bool.not_false, List.length_nil, List.length_cons, List.nil_append, List.cons_append, D.ref.injEq, SO.lst.injEq, pCall, exists_const, and_self, Nat.zero_add, Nat.zero_le, Nat.reduceLeDiff, Nat.reduceAdd, eq_self, o_add, o_sub, o_mul, o_div, o_mod, o_cmp, o_int, o_lenl, o_lent, o_lens, o_tupl, o_tupt, o_min, o_max, q_int, ixk_tup, ixk_lst, ixk_scr, at0, at1, at2, at3, at4, at5, List.length_map]
    exact ⟨⟨by decide, by decide⟩, by omega, _, rfl, ⟨by omega, by omega⟩, h⟩
  · rw [if_pos rfl] at h
    have hj' := List.mem_range.mp hj
    have hm4 := mod_bd (row / (11 * (j : Int) + 3)) 4 (by decide)
    simp only [pSeq, pAsg, pVar, pC, pOp, pNil, pCons, pTup, pLst, pLstM, pNot, pAndV, pOrV, pIf, pB, pAnd, pOr, pNotT, pNoPart, pPart, pCB, pUnN, pSl, pNext, pBreak, pCont, pRet, pRetN, pDrop, pIfS, pgName, pgNil, pgCons, pgTup_t, pAug, pApp, pYes, isk_non, nsk_non, isN_non, isN_bl, isN_int, isN_str, isN_tup, isN_lst, isN_ref, isN_obj, pTru, pFld, pStar, pMake, pSetF, pIt, pRng1, pRng2, forG, List.map_cons, List.map_nil, List.getElem?_cons_zero, List.getElem?_cons_succ, List.set_cons_zero, List.set_cons_succ, Option.some.injEq, exists_eq_left, exists_eq_left', true_and, and_true, wipeE, D.bl.injEq, D.int.injEq, D.str.injEq, D.tup.injEq, D.lst.injEq, Bool.not_true, decide_eq_true_eq, if_true, if_false, reduceIte, Bool.false_eq_true, Option.isNone_none, Option.isNone_some, Bool.not_false, List.length_nil, List.length_cons, List.nil_append, List.cons_append, D.ref.injEq, SO.lst.injEq, pCall, exists_const, and_self, Nat.zero_add, Nat.zero_le, Nat.reduceLeDiff, Nat.reduceAdd, eq_self, o_add, o_sub, o_mul, o_div, o_mod, o_cmp, o_int, o_lenl, o_lent, o_lens, o_tupl, o_tupt, o_min, o_max, q_int, ixk_tup, ixk_lst, ixk_scr, at0, at1, at2, at3, at4, at5, List.length_map]
    exact ⟨.inl (by decide), ⟨by omega, by omega⟩, by decide, _, names_at _ hm4.1 hm4.2, h⟩
  · rw [flt_all]
    simp only [pSeq, pAsg, pVar, pC, pOp, pNil, pCons, pTup, pLst, pLstM, pNot, pAndV, pOrV, pIf, pB, pAnd, pOr, pNotT, pNoPart, pPart, pCB, pUnN, pSl, pNext, pBreak, pCont, pRet, pRetN, pDrop, pIfS, pgName, pgNil, pgCons, pgTup_t, pAug, pApp, pYes, isk_non, nsk_non, isN_non, isN_bl, isN_int, isN_str, isN_tup, isN_lst, isN_ref, isN_obj, pTru, pFld, pStar, pMake, pSetF, pIt, pRng1, pRng2, forG, List.map_cons, List.map_nil, List.getElem?_cons_zero, List.getElem?_cons_succ, List.set_cons_zero, List.set_cons_succ, Option.some.injEq, exists_eq_left, exists_eq_left', true_and, and_true, wipeE, D.bl.injEq, D.int.injEq, D.str.injEq, D.tup.injEq, D.lst.injEq, Bool.not_true, decide_eq_true_eq, if_true, if_false, reduceIte, Bool.false_eq_true, Option.isNone_none, Option.isNone_some, Bool.not_false, List.length_nil, List.length_cons, List.nil_append, List.cons_append, D.ref.injEq, SO.lst.injEq, pCall, exists_const, and_self, Nat.zero_add, Nat.zero_le, Nat.reduceLeDiff, Nat.reduceAdd, eq_self, o_add, o_sub, o_mul, o_div, o_mod, o_cmp, o_int, o_lenl, o_lent, o_lens, o_tupl, o_tupt, o_min, o_max, q_int, ixk_tup, ixk_lst, ixk_scr, at0, at1, at2, at3, at4, at5, List.length_map]
    have e : D.tup ((List.range (1 + row / 5 % most).toNat).map fun (j : Nat) => D.str (namesD.getD (row / (11 * (j : Int) + 3) % 4).toNat Str.empty)) = ePath (pathF row most) := by
      unfold ePath pathF
      rw [List.map_map]
      rfl
    rw [e]
    exact rt_pure (pu_path _) hk
theorem ok_law_path {P : Program} {w : World} {K : PySem.W.Frag} {cl : Cl} {mg : Str → Option Value} {base : Heap} (D : Df K mg "_law_path" s_law_path ["row", "most"]) (T : Txt K cl mg) (hw : cl.w = w)  : C8.Cal P w K mg base 1 "_law_path" (spP K cl F_law_path) [] := by
  subst hw
  refine D.cal sc_law_path (spP_len (n := 2) len_law_path) (fun f cdv A outer s H vs Q E hr h => ?_)
  refine ⟨_,
    (pss_cons (ps_set (i := 2) sc_law_path.nd rfl (.inr rfl) (pe_lst (pa_cons pe_str (pa_cons pe_str (pa_cons pe_str (pa_cons pe_str pa_nil))))))
    (pss_one (ps_ret (pe_callTy (show CallR _ (.type "tuple") (uTup K) from call_tuple_of) (by rfl) T.n_tuple (by decide +kernel) (pa_cons (pe_lc (own := [("j", 3)]) (g := gName 3) (tt := tYes) rfl sc_law_path.nd (pi_range1 (by rfl) T.n_range (pa_cons (pe_op (show OpR _ _ (uAdd K) from uop_add) pe_int (pe_op op_mod (pe_callTy call_int1 (by rfl) T.n_int (by decide +kernel) (pa_cons (pe_op op_fdiv (pv 0) pe_int) pa_nil)) (pv 1))) pa_nil)) (blkOk_by (own := [("j", 3)]) (N := ["row", "most", "names", "j"]) (sc := defScope s_law_path) (by decide +kernel)) (fun _ _ _ _ _ => (pg_name (i := 3) sc_law_path.nd rfl (Or.inl rfl))) (fun _ _ _ _ _ => pts_nil) (fun _ _ _ _ _ => (pe_ix (show IxR _ (uIx K) from uix) (pv 2) (pe_op op_mod (pe_callTy call_int1 (by rfl) T.n_int (by decide +kernel) (pa_cons (pe_op op_fdiv (pv 0) (pe_op (show OpR _ _ (uAdd K) from uop_add) (pe_op uop_mul pe_int (pv 3)) pe_int)) pa_nil)) pe_int) (fun _ _ => rfl)))) pa_nil))))), ?_⟩
  exact fn_ok (N := ["row", "most", "names", "j"]) (show SmS K cl _ ps_law_path from
    (sm_seq (sm_asg (sm_lst (sm_cons sm_str (sm_cons sm_str (sm_cons sm_str (sm_cons sm_str sm_nil))))) sm_gname)
    ((sm_ret (sm_cb smc_tup (sm_cons (sm_lc (sm_rng1 (sm_cons (sm_op smr_add sm_int (sm_op smr_mod (sm_cb smc_int (sm_cons (sm_op smr_div sm_var sm_int) sm_nil)) sm_var)) sm_nil)) (gok_name (by decide)) sm_gname sm_yes (sm_op smr_ix sm_var (sm_op smr_mod (sm_cb smc_int (sm_cons (sm_op smr_div sm_var (sm_op smr_add (sm_op smr_mul sm_int sm_var) sm_int)) sm_nil)) sm_int))) sm_nil)))))) body_law_path h
/-! ### law_pick -/
def ps_law_pick : PSx :=
    (pSeq (pIfS (pOr (pB (pOp eqk (pCB lenk (pCons (pVar 1) pNil)) (pC (.int 0)))) (pB (pOp eqk (pOp modk (pCB int1k (pCons (pVar 0) pNil)) (pC (.int 3))) (pC (.int 0)))))
      ((pRet (pC .non)))
      pNext)
    (pSeq (pIfS (pB (pOp eqk (pOp modk (pCB int1k (pCons (pOp divk (pVar 0) (pC (.int 7))) pNil)) (pC (.int 2))) (pC (.int 0))))
      ((pRet (pOp ixk (pVar 1) (pOp modk (pCB int1k (pCons (pOp divk (pVar 0) (pC (.int 3))) pNil)) (pCB lenk (pCons (pVar 1) pNil))))))
      pNext)
    ((pRet (pOp ixk (pVar 1) (pOp subk (pOp subk (pCB lenk (pCons (pVar 1) pNil)) (pC (.int 1))) (pOp modk (pCB int1k (pCons (pOp divk (pVar 0) (pC (.int 3))) pNil)) (pCB min2k (pCons (pC (.int 3)) (pCons (pCB lenk (pCons (pVar 1) pNil)) pNil))))))))))
theorem start_law_pick : ∀ a0 a1 : D, startE 2 [a0, a1] = [some a0, some a1] := fun _ _ => rfl
def F_law_pick : PFn := fun ds k => ∃ (row : Int) (is : List Ln.Id), ds = [.int row, .lst (is.map eId)] ∧ is.length ≤ 1000 ∧ k (eOp eId (pickF row is))
theorem len_law_pick : ∀ ds k, F_law_pick ds k → ds.length = 2 := by
  rintro _ _ ⟨_, _, rfl, _⟩
  rfl
theorem body_law_pick : ∀ ds k, F_law_pick ds k → ps_law_pick { nx := fun _ _ => k .non, rt := fun d S => (d.frz S).noRef = true ∧ k (d.frz S) } (startE 2 ds) [] := by
  rintro _ k ⟨row, is, rfl, hl, hk⟩
  rw [start_law_pick]
  unfold ps_law_pick
  simp only [pSeq, pAsg, pVar, pC, pOp, pNil, pCons, pTup, pLst, pLstM, pNot, pAndV, pOrV, pIf, pB, pAnd, pOr, pNotT, pNoPart, pPart, pCB, pUnN, pSl, pNext, pBreak, pCont, pRet, pRetN, pDrop, pIfS, pgName, pgNil, pgCons, pgTup_t, pAug, pApp, pYes, isk_non, nsk_non, isN_non, isN_bl, isN_int, isN_str, isN_tup, isN_lst, isN_ref, isN_obj, pTru, pFld, pStar, pMake, pSetF, pIt, pRng1, pRng2, forG, List.map_cons, List.map_nil, List.getElem?_cons_zero, List.getElem?_cons_succ, List.set_cons_zero, List.set_cons_succ, Option.some.injEq, exists_eq_left, exists_eq_left', true_and, and_true, wipeE, D.bl.injEq, D.int.injEq, D.str.injEq, D.tup.injEq, D.lst.injEq, Bool.not_true, decide_eq_true_eq, if_true, if_false, reduceIte, Bool.false_eq_true, Option.isNone_none, Option.isNone_some, Bool.not_false, List.length_nil, List.length_cons, List.nil_append, List.cons_append, D.ref.injEq, SO.lst.injEq, pCall, exists_const, and_self, Nat.zero_add, Nat.zero_le, Nat.reduceLeDiff, Nat.reduceAdd, eq_self, o_add, o_sub, o_mul, o_div, o_mod, o_cmp, o_int, o_lenl, o_lent, o_lens, o_tupl, o_tupt, o_min, o_max, q_int, ixk_tup, ixk_lst, ixk_scr, at0, at1, at2, at3, at4, at5, List.length_map]
  by_cases h0 : is = []
  · subst h0
    rw [if_pos (show ((([] : List Ln.Id).length : Nat) : Int) = 0 from rfl)]
    exact rt_pure rfl hk
  have hpos : 0 < is.length := List.length_pos_iff.mpr h0
  rw [if_neg (show ¬ ((is.length : Nat) : Int) = 0 by omega)]
  refine ⟨by decide, ?_⟩
  unfold pickF at hk
  by_cases h3 : row % 3 = 0
  · rw [if_pos h3]
    rw [if_pos (.inr h3)] at hk
    exact rt_pure rfl hk
  rw [if_neg h3]
  rw [if_neg (fun z => z.elim h0 h3)] at hk
  refine ⟨⟨by decide, by decide⟩, by decide, ?_⟩
  have fin : ∀ j : Int, 0 ≤ j → j < (is.length : Int) → k (eOp Le.eId is[j.toNat]?) → ∃ d : D, atI (is.map Le.eId) j = some d ∧ (d.frz []).noRef = true ∧ k (d.frz []) := by
    intro j hj0 hj1 hk
    have hn : j.toNat < is.length := by omega
    rw [List.getElem?_eq_getElem hn] at hk
    have := at_map (f := Le.eId) (List.getElem?_eq_getElem hn)
    rw [Int.toNat_of_nonneg hj0] at this
    exact ⟨_, this, rt_pure (pu_id _) hk⟩
  by_cases h2 : row / 7 % 2 = 0
  · rw [if_pos h2]
    rw [if_pos h2] at hk
    have := mod_bd (row / 3) is.length (by omega)
    exact ⟨⟨by decide, by decide⟩, by omega, fin _ this.1 this.2 hk⟩
  · rw [if_neg h2]
    rw [if_neg h2] at hk
    have e : (if (is.length : Int) < 3 then (is.length : Int) else 3) = min 3 (is.length : Int) := by split <;> omega
    rw [e]
    have := mod_bd (row / 3) (min 3 (is.length : Int)) (by omega)
    exact ⟨⟨by decide, by decide⟩, by omega, fin _ (by omega) (by omega) hk⟩
theorem ok_law_pick {P : Program} {w : World} {K : PySem.W.Frag} {cl : Cl} {mg : Str → Option Value} {base : Heap} (D : Df K mg "_law_pick" s_law_pick ["row", "ids"]) (T : Txt K cl mg) (hw : cl.w = w)  : C8.Cal P w K mg base 1 "_law_pick" (spP K cl F_law_pick) [] := by
  subst hw
  refine D.cal sc_law_pick (spP_len (n := 2) len_law_pick) (fun f cdv A outer s H vs Q E hr h => ?_)
  refine ⟨_,
    (pss_cons (ps_if (PW.pt (pw_or (pt_cmpR (show OpR _ _ (rEqP K) from op_eqP hr.units) (pe_callB (show CallR _ (.builtin "len") (uLen K) from ucall_len) (by rfl) T.n_len PySem.boot_len (pa_cons (pv 1) pa_nil)) pe_int (nomark _)) (pw_or1 (pt_cmpR (show OpR _ _ (rEqP K) from op_eqP hr.units) (pe_op op_mod (pe_callTy call_int1 (by rfl) T.n_int (by decide +kernel) (pa_cons (pv 0) pa_nil)) pe_int) pe_int (nomark _)))))
      (pss_one (ps_ret pe_non))
      pss_nil)
    (pss_cons (ps_if (pt_cmpR (show OpR _ _ (rEqP K) from op_eqP hr.units) (pe_op op_mod (pe_callTy call_int1 (by rfl) T.n_int (by decide +kernel) (pa_cons (pe_op op_fdiv (pv 0) pe_int) pa_nil)) pe_int) pe_int (nomark _))
      (pss_one (ps_ret (pe_ix (show IxR _ (uIx K) from uix) (pv 1) (pe_op op_mod (pe_callTy call_int1 (by rfl) T.n_int (by decide +kernel) (pa_cons (pe_op op_fdiv (pv 0) pe_int) pa_nil)) (pe_callB (show CallR _ (.builtin "len") (uLen K) from ucall_len) (by rfl) T.n_len PySem.boot_len (pa_cons (pv 1) pa_nil))) (fun _ _ => rfl))))
      pss_nil)
    (pss_one (ps_ret (pe_ix (show IxR _ (uIx K) from uix) (pv 1) (pe_op op_sub (pe_op op_sub (pe_callB (show CallR _ (.builtin "len") (uLen K) from ucall_len) (by rfl) T.n_len PySem.boot_len (pa_cons (pv 1) pa_nil)) pe_int) (pe_op op_mod (pe_callTy call_int1 (by rfl) T.n_int (by decide +kernel) (pa_cons (pe_op op_fdiv (pv 0) pe_int) pa_nil)) (pe_callB (call_min2 rfl) (by rfl) T.n_min (by decide +kernel) (pa_cons pe_int (pa_cons (pe_callB (show CallR _ (.builtin "len") (uLen K) from ucall_len) (by rfl) T.n_len PySem.boot_len (pa_cons (pv 1) pa_nil)) pa_nil))))) (fun _ _ => rfl)))))), ?_⟩
  exact fn_ok (N := ["row", "ids"]) (show SmS K cl _ ps_law_pick from
    (sm_seq (sm_ifS (sm_or (sm_test (sm_op smr_eq (sm_cb smc_len (sm_cons sm_var sm_nil)) sm_int)) (sm_test (sm_op smr_eq (sm_op smr_mod (sm_cb smc_int (sm_cons sm_var sm_nil)) sm_int) sm_int)))
      ((sm_ret sm_non))
      sm_next)
    (sm_seq (sm_ifS (sm_test (sm_op smr_eq (sm_op smr_mod (sm_cb smc_int (sm_cons (sm_op smr_div sm_var sm_int) sm_nil)) sm_int) sm_int))
      ((sm_ret (sm_op smr_ix sm_var (sm_op smr_mod (sm_cb smc_int (sm_cons (sm_op smr_div sm_var sm_int) sm_nil)) (sm_cb smc_len (sm_cons sm_var sm_nil))))))
      sm_next)
    ((sm_ret (sm_op smr_ix sm_var (sm_op smr_sub (sm_op smr_sub (sm_cb smc_len (sm_cons sm_var sm_nil)) sm_int) (sm_op smr_mod (sm_cb smc_int (sm_cons (sm_op smr_div sm_var sm_int) sm_nil)) (sm_cb smc_min2 (sm_cons sm_int (sm_cons (sm_cb smc_len (sm_cons sm_var sm_nil)) sm_nil))))))))))) body_law_pick h
/-! ### law_place -/
def ps_law_place : PSx :=
    ((pRet (pTup (pCons (pCall F_law_pick (pCons (pOp divk (pVar 0) (pC (.int 2))) (pCons (pVar 1) pNil))) (pCons (pCall F_law_path (pCons (pOp divk (pVar 0) (pC (.int 13))) (pCons (pC (.int 2)) pNil))) (pCons (pCall F_law_path (pCons (pOp divk (pVar 0) (pC (.int 101))) (pCons (pC (.int 3)) pNil))) pNil))))))
theorem start_law_place : ∀ a0 a1 : D, startE 2 [a0, a1] = [some a0, some a1] := fun _ _ => rfl
def F_law_place : PFn := fun ds k => ∃ (row : Int) (is : List Ln.Id), ds = [.int row, .lst (is.map eId)] ∧ is.length ≤ 1000 ∧ k (ePl (placeF row is))
theorem len_law_place : ∀ ds k, F_law_place ds k → ds.length = 2 := by
  rintro _ _ ⟨_, _, rfl, _⟩
  rfl
theorem body_law_place : ∀ ds k, F_law_place ds k → ps_law_place { nx := fun _ _ => k .non, rt := fun d S => (d.frz S).noRef = true ∧ k (d.frz S) } (startE 2 ds) [] := by
  rintro _ k ⟨row, is, rfl, hl, hk⟩
  rw [start_law_place]
  unfold ps_law_place
  simp only [pSeq, pAsg, pVar, pC, pOp, pNil, pCons, pTup, pLst, pLstM, pNot, pAndV, pOrV, pIf, pB, pAnd, pOr, pNotT, pNoPart, pPart, pCB, pUnN, pSl, pNext, pBreak, pCont, pRet, pRetN, pDrop, pIfS, pgName, pgNil, pgCons, pgTup_t, pAug, pApp, pYes, isk_non, nsk_non, isN_non, isN_bl, isN_int, isN_str, isN_tup, isN_lst, isN_ref, isN_obj, pTru, pFld, pStar, pMake, pSetF, pIt, pRng1, pRng2, forG, List.map_cons, List.map_nil, List.getElem?_cons_zero, List.getElem?_cons_succ, List.set_cons_zero, List.set_cons_succ, Option.some.injEq, exists_eq_left, exists_eq_left', true_and, and_true, wipeE, D.bl.injEq, D.int.injEq, D.str.injEq, D.tup.injEq, D.lst.injEq, Bool.not_true, decide_eq_true_eq, if_true, if_false, reduceIte, Bool.false_eq_true, Option.isNone_none, Option.isNone_some, Bool.not_false, List.length_nil, List.length_cons, List.nil_append, List.cons_append, D.ref.injEq, SO.lst.injEq, pCall, exists_const, and_self, Nat.zero_add, Nat.zero_le, Nat.reduceLeDiff, Nat.reduceAdd, eq_self, o_add, o_sub, o_mul, o_div, o_mod, o_cmp, o_int, o_lenl, o_lent, o_lens, o_tupl, o_tupt, o_min, o_max, q_int, ixk_tup, ixk_lst, ixk_scr, at0, at1, at2, at3, at4, at5, List.length_map]
  have p : ∀ r : Int, pureAll [.int r, .lst (is.map eId)] = true := fun r => by
    simp only [pureAll, show (D.lst (is.map eId)).pure = true from pu_ids is, pu_int, Bool.and_self]
  refine ⟨⟨by decide, by decide⟩, call_of (p _) ⟨_, is, rfl, hl, ⟨by decide, by decide⟩, ?_⟩⟩
  refine call_of rfl ⟨row / 13, 2, rfl, by decide, by decide, ⟨by decide, by decide⟩, ?_⟩
  exact call_of rfl ⟨row / 101, 3, rfl, by decide, by decide, rt_pure (pu_pl (placeF row is)) hk⟩
theorem ok_law_place {P : Program} {w : World} {K : PySem.W.Frag} {cl : Cl} {mg : Str → Option Value} {base : Heap} (D : Df K mg "_law_place" s_law_place ["row", "ids"]) (T : Txt K cl mg) (hw : cl.w = w) (G_law_path : C8.Cal P w K mg base 1 "_law_path" (spP K cl F_law_path) []) (G_law_pick : C8.Cal P w K mg base 1 "_law_pick" (spP K cl F_law_pick) []) : C8.Cal P w K mg base 2 "_law_place" (spP K cl F_law_place) [] := by
  subst hw
  refine D.cal sc_law_place (spP_len (n := 2) len_law_place) (fun f cdv A outer s H vs Q E hr h => ?_)
  refine ⟨_,
    (pss_one (ps_ret (pe_tup (pa_cons (C8.pe_c G_law_pick hr (by decide) (by rfl) (pa_cons (pe_op op_fdiv (pv 0) pe_int) (pa_cons (pv 1) pa_nil))) (pa_cons (C8.pe_c G_law_path hr (by decide) (by rfl) (pa_cons (pe_op op_fdiv (pv 0) pe_int) (pa_cons pe_int pa_nil))) (pa_cons (C8.pe_c G_law_path hr (by decide) (by rfl) (pa_cons (pe_op op_fdiv (pv 0) pe_int) (pa_cons pe_int pa_nil))) pa_nil)))))), ?_⟩
  exact fn_ok (N := ["row", "ids"]) (show SmS K cl _ ps_law_place from
    ((sm_ret (sm_tup (sm_cons (sm_call (sm_cons (sm_op smr_div sm_var sm_int) (sm_cons sm_var sm_nil))) (sm_cons (sm_call (sm_cons (sm_op smr_div sm_var sm_int) (sm_cons sm_int sm_nil))) (sm_cons (sm_call (sm_cons (sm_op smr_div sm_var sm_int) (sm_cons sm_int sm_nil))) sm_nil))))))) body_law_place h
/-! ### law_heads -/
def pl_law_heads_1 : PSx :=
      (pSeq (pAsg (pCall F_law_pick (pCons (pOp divk (pVar 0) (pOp addk (pOp mulk (pC (.int 23)) (pVar 3)) (pC (.int 5)))) (pCons (pVar 1) pNil))) (pgName 4))
      ((pIfS (pB (pOp nsk (pVar 4) (pC .non)))
        ((pApp (pVar 2) (pVar 4)))
        pNext)))
theorem pl_law_heads_1_d (P : PEnds) (env : Pw.Env) (S : Sto) : pl_law_heads_1 P env S = (
      (pSeq (pAsg (pCall F_law_pick (pCons (pOp divk (pVar 0) (pOp addk (pOp mulk (pC (.int 23)) (pVar 3)) (pC (.int 5)))) (pCons (pVar 1) pNil))) (pgName 4))
      ((pIfS (pB (pOp nsk (pVar 4) (pC .non)))
        ((pApp (pVar 2) (pVar 4)))
        pNext)))) P env S := rfl
def ps_law_heads : PSx :=
    (pSeq (pAsg (pLstM pNil) (pgName 2))
    (pSeq (pFor (pRng1 (pCons (pOp modk (pCB int1k (pCons (pOp divk (pVar 0) (pC (.int 17))) pNil)) (pC (.int 4))) pNil)) (pgName 3) pl_law_heads_1)
    ((pRet (pCB tupk (pCons (pVar 2) pNil))))))
theorem start_law_heads : ∀ a0 a1 : D, startE 5 [a0, a1] = [some a0, some a1, none, none, none] := fun _ _ => rfl
theorem loop_law_heads (row : Int) (is : List Ln.Id) (hl : is.length ≤ 1000) (P : PEnds) : ∀ (n j : Nat) (x1 x2 : Option D), j + n ≤ 4 →
    (∀ x1 x2, P.nx [some (.int row), some (.lst (is.map eId)), some (.ref 0), x1, x2] [.lst ((headsF row is (j + n)).map eId)]) →
    forG (pgName 3) pl_law_heads_1 P ((List.range' j n).map fun (i : Nat) => D.int (i : Int)) [some (.int row), some (.lst (is.map eId)), some (.ref 0), x1, x2] [.lst ((headsF row is j).map eId)] := by
  intro n
  induction n with
  | zero => exact fun j x1 x2 _ h => h x1 x2
  | succ n ih =>
    intro j x1 x2 hj h
    rw [List.range'_succ]
    unfold pl_law_heads_1
    simp only [pSeq, pAsg, pVar, pC, pOp, pNil, pCons, pTup, pLst, pLstM, pNot, pAndV, pOrV, pIf, pB, pAnd, pOr, pNotT, pNoPart, pPart, pCB, pUnN, pSl, pNext, pBreak, pCont, pRet, pRetN, pDrop, pIfS, pgName, pgNil, pgCons, pgTup_t, pAug, pApp, pYes, isk_non, nsk_non, isN_non, isN_bl, isN_int, isN_str, isN_tup, isN_lst, isN_ref, isN_obj, pTru, pFld, pStar, pMake, pSetF, pIt, pRng1, pRng2, forG, List.map_cons, List.map_nil, List.getElem?_cons_zero, List.getElem?_cons_succ, List.set_cons_zero, List.set_cons_succ, Option.some.injEq, exists_eq_left, exists_eq_left', true_and, and_true, wipeE, D.bl.injEq, D.int.injEq, D.str.injEq, D.tup.injEq, D.lst.injEq, Bool.not_true, decide_eq_true_eq, if_true, if_false, reduceIte, Bool.false_eq_true, Option.isNone_none, Option.isNone_some, Bool.not_false, List.length_nil, List.length_cons, List.nil_append, List.cons_append, D.ref.injEq, SO.lst.injEq, pCall, exists_const, and_self, Nat.zero_add, Nat.zero_le, Nat.reduceLeDiff, Nat.reduceAdd, eq_self, o_add, o_sub, o_mul, o_div, o_mod, o_cmp, o_int, o_lenl, o_lent, o_lens, o_tupl, o_tupt, o_min, o_max, q_int, ixk_tup, ixk_lst, ixk_scr, at0, at1, at2, at3, at4, at5, List.length_map]
    have p : ∀ r : Int, pureAll [.int r, .lst (is.map eId)] = true := fun r => by
      simp only [pureAll, show (D.lst (is.map eId)).pure = true from pu_ids is, pu_int, Bool.and_self]
    refine ⟨.inl (by decide), ⟨by omega, by omega⟩, call_of (p _) ⟨_, is, rfl, hl, ?_⟩⟩
    have h' : ∀ x1 x2, P.nx [some (.int row), some (.lst (is.map eId)), some (.ref 0), x1, x2] [.lst ((headsF row is ((j + 1) + n)).map eId)] := fun x1 x2 => by
      rw [show j + 1 + n = j + (n + 1) by omega]
      exact h x1 x2
    have up : headsF row is (j + 1) = headsF row is j ++ (pickF (row / (23 * (j : Int) + 5)) is).toList := rfl
    cases hp : pickF (row / (23 * (j : Int) + 5)) is with
    | none =>
      rw [hp] at up
      simp only [pSeq, pAsg, pVar, pC, pOp, pNil, pCons, pTup, pLst, pLstM, pNot, pAndV, pOrV, pIf, pB, pAnd, pOr, pNotT, pNoPart, pPart, pCB, pUnN, pSl, pNext, pBreak, pCont, pRet, pRetN, pDrop, pIfS, pgName, pgNil, pgCons, pgTup_t, pAug, pApp, pYes, isk_non, nsk_non, isN_non, isN_bl, isN_int, isN_str, isN_tup, isN_lst, isN_ref, isN_obj, pTru, pFld, pStar, pMake, pSetF, pIt, pRng1, pRng2, forG, List.map_cons, List.map_nil, List.getElem?_cons_zero, List.getElem?_cons_succ, List.set_cons_zero, List.set_cons_succ, Option.some.injEq, exists_eq_left, exists_eq_left', true_and, and_true, wipeE, D.bl.injEq, D.int.injEq, D.str.injEq, D.tup.injEq, D.lst.injEq, Bool.not_true, decide_eq_true_eq, if_true, if_false, reduceIte, Bool.false_eq_true, Option.isNone_none, Option.isNone_some, Bool.not_false, List.length_nil, List.length_cons, List.nil_append, List.cons_append, D.ref.injEq, SO.lst.injEq, pCall, exists_const, and_self, Nat.zero_add, Nat.zero_le, Nat.reduceLeDiff, Nat.reduceAdd, eq_self, o_add, o_sub, o_mul, o_div, o_mod, o_cmp, o_int, o_lenl, o_lent, o_lens, o_tupl, o_tupt, o_min, o_max, q_int, ixk_tup, ixk_lst, ixk_scr, at0, at1, at2, at3, at4, at5, List.length_map, ln0, ln1, ln2, ln3, ln4, lnS0, lnS2, lnS4, q_id, q_ido, q_oi, q_oid, q_path, q_ln, q_ls, n_id, n_path, n_ln, n_ls, non_oid, non_oln, non_oct, non_id, non_ln, non_ct, non_path, un_ln, un_pl, in_ids, ad_path, eOp_s, eOp_n, lstk_ls, st_ls]
      have := ih (j + 1) (some (.int (j : Int))) (some .non) (by omega) h'
      rw [up, Option.toList_none, List.append_nil] at this
      exact this
    | some i =>
      rw [hp] at up
      have hlen := headsF_len row is j
      simp only [pSeq, pAsg, pVar, pC, pOp, pNil, pCons, pTup, pLst, pLstM, pNot, pAndV, pOrV, pIf, pB, pAnd, pOr, pNotT, pNoPart, pPart, pCB, pUnN, pSl, pNext, pBreak, pCont, pRet, pRetN, pDrop, pIfS, pgName, pgNil, pgCons, pgTup_t, pAug, pApp, pYes, isk_non, nsk_non, isN_non, isN_bl, isN_int, isN_str, isN_tup, isN_lst, isN_ref, isN_obj, pTru, pFld, pStar, pMake, pSetF, pIt, pRng1, pRng2, forG, List.map_cons, List.map_nil, List.getElem?_cons_zero, List.getElem?_cons_succ, List.set_cons_zero, List.set_cons_succ, Option.some.injEq, exists_eq_left, exists_eq_left', true_and, and_true, wipeE, D.bl.injEq, D.int.injEq, D.str.injEq, D.tup.injEq, D.lst.injEq, Bool.not_true, decide_eq_true_eq, if_true, if_false, reduceIte, Bool.false_eq_true, Option.isNone_none, Option.isNone_some, Bool.not_false, List.length_nil, List.length_cons, List.nil_append, List.cons_append, D.ref.injEq, SO.lst.injEq, pCall, exists_const, and_self, Nat.zero_add, Nat.zero_le, Nat.reduceLeDiff, Nat.reduceAdd, eq_self, o_add, o_sub, o_mul, o_div, o_mod, o_cmp, o_int, o_lenl, o_lent, o_lens, o_tupl, o_tupt, o_min, o_max, q_int, ixk_tup, ixk_lst, ixk_scr, at0, at1, at2, at3, at4, at5, List.length_map, ln0, ln1, ln2, ln3, ln4, lnS0, lnS2, lnS4, q_id, q_ido, q_oi, q_oid, q_path, q_ln, q_ls, n_id, n_path, n_ln, n_ls, non_oid, non_oln, non_oct, non_id, non_ln, non_ct, non_path, un_ln, un_pl, in_ids, ad_path, eOp_s, eOp_n, lstk_ls, st_ls]
      refine ⟨by omega, ?_⟩
      have := ih (j + 1) (some (.int (j : Int))) (some (eId i)) (by omega) h'
      rw [up, List.map_append] at this
      exact this
def F_law_heads : PFn := fun ds k => ∃ (row : Int) (is : List Ln.Id), ds = [.int row, .lst (is.map eId)] ∧ is.length ≤ 1000 ∧ k (eIds (headsA row is))
theorem len_law_heads : ∀ ds k, F_law_heads ds k → ds.length = 2 := by
  rintro _ _ ⟨_, _, rfl, _⟩
  rfl
theorem body_law_heads : ∀ ds k, F_law_heads ds k → ps_law_heads { nx := fun _ _ => k .non, rt := fun d S => (d.frz S).noRef = true ∧ k (d.frz S) } (startE 5 ds) [] := by
  rintro _ k ⟨row, is, rfl, hl, hk⟩
  rw [start_law_heads]
  unfold ps_law_heads
  have hm := mod_bd (row / 17) 4 (by decide)
  simp only [pSeq, pAsg, pVar, pC, pOp, pNil, pCons, pTup, pLst, pLstM, pNot, pAndV, pOrV, pIf, pB, pAnd, pOr, pNotT, pNoPart, pPart, pCB, pUnN, pSl, pNext, pBreak, pCont, pRet, pRetN, pDrop, pIfS, pgName, pgNil, pgCons, pgTup_t, pAug, pApp, pYes, isk_non, nsk_non, isN_non, isN_bl, isN_int, isN_str, isN_tup, isN_lst, isN_ref, isN_obj, pTru, pFld, pStar, pMake, pSetF, pIt, pRng1, pRng2, forG, List.map_cons, List.map_nil, List.getElem?_cons_zero, List.getElem?_cons_succ, List.set_cons_zero, List.set_cons_succ, Option.some.injEq, exists_eq_left, exists_eq_left', true_and, and_true, wipeE, D.bl.injEq, D.int.injEq, D.str.injEq, D.tup.injEq, D.lst.injEq, Bool.not_true, decide_eq_true_eq, if_true, if_false, reduceIte, Bool.false_eq_true, Option.isNone_none, Option.isNone_some, Bool.not_false, List.length_nil, List.length_cons, List.nil_append, List.cons_append, D.ref.injEq, SO.lst.injEq, pCall, exists_const, and_self, Nat.zero_add, Nat.zero_le, Nat.reduceLeDiff, Nat.reduceAdd, eq_self, o_add, o_sub, o_mul, o_div, o_mod, o_cmp, o_int, o_lenl, o_lent, o_lens, o_tupl, o_tupt, o_min, o_max, q_int, ixk_tup, ixk_lst, ixk_scr, at0, at1, at2, at3, at4, at5, List.length_map]
  refine for_go (src := .lst (rngD (row / 17 % 4).toNat)) (ds := rngD (row / 17 % 4).toNat) (fun kk h => ?_) (fun S => rfl) ?_
  · simp only [pSeq, pAsg, pVar, pC, pOp, pNil, pCons, pTup, pLst, pLstM, pNot, pAndV, pOrV, pIf, pB, pAnd, pOr, pNotT, pNoPart, pPart, pCB, pUnN, pSl, pNext, pBreak, pCont, pRet, pRetN, pDrop, pIfS, pgName, pgNil, pgCons, pgTup_t, pAug, pApp, pYes, isk_non, nsk_non, isN_non, isN_bl, isN_int, isN_str, isN_tup, isN_lst, isN_ref, isN_obj, pTru, pFld, pStar, pMake, pSetF, pIt, pRng1, pRng2, forG, List.map_cons, List.map_nil, List.getElem?_cons_zero, List.getElem?_cons_succ, List.set_cons_zero, List.set_cons_succ, Option.some.injEq, exists_eq_left, exists_eq_left', true_and, and_true, wipeE, D.bl.injEq, D.int.injEq, D.str.injEq, D.tup.injEq, D.lst.injEq, Bool.not_true, decide_eq_true_eq, if_true, if_false, reduceIte, Bool.false_eq_true, Option.isNone_none, Option.isNone_some, Bool.not_false, List.length_nil, List.length_cons, List.nil_append, List.cons_append, D.ref.injEq, SO.lst.injEq, pCall, exists_const, and_self, Nat.zero_add, Nat.zero_le, Nat.reduceLeDiff, Nat.reduceAdd, eq_self, o_add, o_sub, o_mul, o_div, o_mod, o_cmp, o_int, o_lenl, o_lent, o_lens, o_tupl, o_tupt, o_min, o_max, q_int, ixk_tup, ixk_lst, ixk_scr, at0, at1, at2, at3, at4, at5, List.length_map]
    exact ⟨⟨by decide, by decide⟩, by decide, _, rfl, ⟨by omega, by omega⟩, h⟩
  · have := loop_law_heads row is hl
    unfold rngD
    rw [List.range_eq_range']
    refine loop_law_heads row is hl _ (row / 17 % 4).toNat 0 _ _ (by omega) (fun x1 x2 => ?_)
    rw [Nat.zero_add]
    simp only [pSeq, pAsg, pVar, pC, pOp, pNil, pCons, pTup, pLst, pLstM, pNot, pAndV, pOrV, pIf, pB, pAnd, pOr, pNotT, pNoPart, pPart, pCB, pUnN, pSl, pNext, pBreak, pCont, pRet, pRetN, pDrop, pIfS, pgName, pgNil, pgCons, pgTup_t, pAug, pApp, pYes, isk_non, nsk_non, isN_non, isN_bl, isN_int, isN_str, isN_tup, isN_lst, isN_ref, isN_obj, pTru, pFld, pStar, pMake, pSetF, pIt, pRng1, pRng2, forG, List.map_cons, List.map_nil, List.getElem?_cons_zero, List.getElem?_cons_succ, List.set_cons_zero, List.set_cons_succ, Option.some.injEq, exists_eq_left, exists_eq_left', true_and, and_true, wipeE, D.bl.injEq, D.int.injEq, D.str.injEq, D.tup.injEq, D.lst.injEq, Bool.not_true, decide_eq_true_eq, if_true, if_false, reduceIte, Bool.false_eq_true, Option.isNone_none, Option.isNone_some, Bool.not_false, List.length_nil, List.length_cons, List.nil_append, List.cons_append, D.ref.injEq, SO.lst.injEq, pCall, exists_const, and_self, Nat.zero_add, Nat.zero_le, Nat.reduceLeDiff, Nat.reduceAdd, eq_self, o_add, o_sub, o_mul, o_div, o_mod, o_cmp, o_int, o_lenl, o_lent, o_lens, o_tupl, o_tupt, o_min, o_max, q_int, ixk_tup, ixk_lst, ixk_scr, at0, at1, at2, at3, at4, at5, List.length_map, o_tupr]
    refine ⟨_, lo_ref rfl, ?_⟩
    exact rt_pure (d := eIds (headsA row is)) (pu_idst _) hk
theorem ok_law_heads {P : Program} {w : World} {K : PySem.W.Frag} {cl : Cl} {mg : Str → Option Value} {base : Heap} (D : Df K mg "_law_heads" s_law_heads ["row", "ids"]) (T : Txt K cl mg) (hw : cl.w = w) (G_law_pick : C8.Cal P w K mg base 1 "_law_pick" (spP K cl F_law_pick) []) : C8.Cal P w K mg base 2 "_law_heads" (spP K cl F_law_heads) [] := by
  subst hw
  refine D.cal sc_law_heads (spP_len (n := 2) len_law_heads) (fun f cdv A outer s H vs Q E hr h => ?_)
  refine ⟨_,
    (pss_cons (ps_set (i := 2) sc_law_heads.nd rfl (.inl rfl) (pe_lst pa_nil))
    (pss_cons (ps_for PassesOwn.never rfl (pi_range1 (by rfl) T.n_range (pa_cons (pe_op op_mod (pe_callTy call_int1 (by rfl) T.n_int (by decide +kernel) (pa_cons (pe_op op_fdiv (pv 0) pe_int) pa_nil)) pe_int) pa_nil)) (pg_name (i := 3) sc_law_heads.nd rfl (Or.inl rfl))
      (pss_cons (ps_set (i := 4) sc_law_heads.nd rfl (.inl rfl) (C8.pe_c G_law_pick hr (by decide) (by rfl) (pa_cons (pe_op op_fdiv (pv 0) (pe_op (show OpR _ _ (uAdd K) from uop_add) (pe_op uop_mul pe_int (pv 3)) pe_int)) (pa_cons (pv 1) pa_nil))))
      (pss_one (ps_if (pt_cmpR op_notN (pv 4) pe_non (nomark _))
        (pss_one (ps_expr (pe_bm PySem.F.plainAttrs_list PySem.F.slot_list_append PySem.F.type_list_append mt_append (pv 2) (pa_cons (pv 4) pa_nil))))
        pss_nil))))
    (pss_one (ps_ret (pe_callTy (show CallR _ (.type "tuple") (uTup K) from call_tuple_of) (by rfl) T.n_tuple (by decide +kernel) (pa_cons (pv 2) pa_nil)))))), ?_⟩
  exact fn_ok (N := ["row", "ids", "heads", "j", "head"]) (show SmS K cl _ ps_law_heads from
    (sm_seq (sm_asg (sm_lstM sm_nil) sm_gname)
    (sm_seq (sm_for (sm_rng1 (sm_cons (sm_op smr_mod (sm_cb smc_int (sm_cons (sm_op smr_div sm_var sm_int) sm_nil)) sm_int) sm_nil)) sm_gname
      (sm_seq (sm_asg (sm_call (sm_cons (sm_op smr_div sm_var (sm_op smr_add (sm_op smr_mul sm_int sm_var) sm_int)) (sm_cons sm_var sm_nil))) sm_gname)
      ((sm_ifS (sm_test (sm_op smr_ns sm_var sm_non))
        ((sm_app sm_var sm_var))
        sm_next))))
    ((sm_ret (sm_cb smc_tup (sm_cons sm_var sm_nil))))))) body_law_heads h
/-! ### law_edit -/
def pl_law_edit_1 : PSx :=
      (pSeq (pAsg (pCall F_law_pick (pCons (pOp addk (pC (.int 1)) (pOp mulk (pC (.int 3)) (pOp divk (pVar 0) (pOp addk (pOp mulk (pC (.int 37)) (pVar 7)) (pC (.int 2)))))) (pCons (pVar 2) pNil))) (pgName 8))
      (pSeq (pAsg (pCall F_law_pick (pCons (pOp addk (pC (.int 1)) (pOp mulk (pC (.int 3)) (pOp divk (pVar 0) (pOp addk (pOp mulk (pC (.int 41)) (pVar 7)) (pC (.int 3)))))) (pCons (pVar 2) pNil))) (pgName 9))
      ((pApp (pVar 6) (pTup (pCons (pVar 8) (pCons (pVar 9) (pCons (pCall F_law_place (pCons (pOp divk (pVar 0) (pOp addk (pOp mulk (pC (.int 43)) (pVar 7)) (pC (.int 7)))) (pCons (pVar 2) pNil))) pNil))))))))
theorem pl_law_edit_1_d (P : PEnds) (env : Pw.Env) (S : Sto) : pl_law_edit_1 P env S = (
      (pSeq (pAsg (pCall F_law_pick (pCons (pOp addk (pC (.int 1)) (pOp mulk (pC (.int 3)) (pOp divk (pVar 0) (pOp addk (pOp mulk (pC (.int 37)) (pVar 7)) (pC (.int 2)))))) (pCons (pVar 2) pNil))) (pgName 8))
      (pSeq (pAsg (pCall F_law_pick (pCons (pOp addk (pC (.int 1)) (pOp mulk (pC (.int 3)) (pOp divk (pVar 0) (pOp addk (pOp mulk (pC (.int 41)) (pVar 7)) (pC (.int 3)))))) (pCons (pVar 2) pNil))) (pgName 9))
      ((pApp (pVar 6) (pTup (pCons (pVar 8) (pCons (pVar 9) (pCons (pCall F_law_place (pCons (pOp divk (pVar 0) (pOp addk (pOp mulk (pC (.int 43)) (pVar 7)) (pC (.int 7)))) (pCons (pVar 2) pNil))) pNil))))))))) P env S := rfl
def ps_law_edit : PSx :=
    (pSeq (pAsg (pCall F_law_place (pCons (pOp divk (pVar 0) (pC (.int 6))) (pCons (pVar 2) pNil))) (pgName 3))
    (pSeq (pAsg (pOp modk (pCB int1k (pCons (pVar 0) pNil)) (pC (.int 6))) (pgName 4))
    (pSeq (pIfS (pB (pOp eqk (pVar 4) (pC (.int 0))))
      ((pRet (pTup (pCons (pC (.str (Str.ofString "write"))) (pCons (pVar 1) (pCons (pVar 3) (pCons (pC .non) (pCons (pC .non) (pCons (pCall F_law_heads (pCons (pVar 0) (pCons (pVar 2) pNil))) pNil)))))))))
      pNext)
    (pSeq (pIfS (pOr (pB (pOp (cmpk fun i j => decide (i ≤ j)) (pVar 4) (pC (.int 3)))) (pB (pOp eqk (pCB lenk (pCons (pVar 2) pNil)) (pC (.int 0)))))
      (pSeq (pAsg (pOp modk (pCB int1k (pCons (pOp divk (pVar 0) (pC (.int 19))) pNil)) (pC (.int 3))) (pgName 5))
      ((pRet (pTup (pCons (pC (.str (Str.ofString "write"))) (pCons (pVar 1) (pCons (pVar 3) (pCons (pTup (pCons (pVar 5) (pCons (pVar 5) (pCons (pOp addk (pVar 5) (pC (.int 1))) (pCons (pC (.bl false)) pNil))))) (pCons (pCall F_law_pick (pCons (pOp divk (pVar 0) (pC (.int 29))) (pCons (pVar 2) pNil))) (pCons (pCall F_law_heads (pCons (pVar 0) (pCons (pVar 2) pNil))) pNil))))))))))
      pNext)
    (pSeq (pIfS (pB (pOp eqk (pVar 4) (pC (.int 4))))
      ((pRet (pTup (pCons (pC (.str (Str.ofString "drop"))) (pCons (pVar 1) (pCons (pCall F_law_heads (pCons (pOp divk (pVar 0) (pC (.int 3))) (pCons (pVar 2) pNil))) pNil))))))
      pNext)
    (pSeq (pAsg (pLstM pNil) (pgName 6))
    (pSeq (pFor (pRng1 (pCons (pOp addk (pC (.int 1)) (pOp modk (pCB int1k (pCons (pOp divk (pVar 0) (pC (.int 31))) pNil)) (pC (.int 2)))) pNil)) (pgName 7) pl_law_edit_1)
    ((pRet (pTup (pCons (pC (.str (Str.ofString "move"))) (pCons (pVar 1) (pCons (pCB tupk (pCons (pVar 6) pNil)) pNil)))))))))))))
theorem start_law_edit : ∀ a0 a1 a2 : D, startE 10 [a0, a1, a2] = [some a0, some a1, some a2, none, none, none, none, none, none, none] := fun _ _ _ => rfl
theorem loop_law_edit (row : Int) (id : Ln.Id) (is : List Ln.Id) (hl : is.length ≤ 1000) (x3 x4 x5 : Option D) (P : PEnds) : ∀ (n j : Nat) (x7 x8 x9 : Option D), j + n ≤ 2 →
    (∀ x7 x8 x9, P.nx [some (.int row), some (eId id), some (.lst (is.map eId)), x3, x4, x5, some (.ref 0), x7, x8, x9] [.lst (((List.range (j + n)).map (mvF row is)).map eMv)]) →
    forG (pgName 7) pl_law_edit_1 P ((List.range' j n).map fun (i : Nat) => D.int (i : Int)) [some (.int row), some (eId id), some (.lst (is.map eId)), x3, x4, x5, some (.ref 0), x7, x8, x9] [.lst (((List.range j).map (mvF row is)).map eMv)] := by
  intro n
  induction n with
  | zero => exact fun j x7 x8 x9 _ h => h x7 x8 x9
  | succ n ih =>
    intro j x7 x8 x9 hj h
    rw [List.range'_succ]
    unfold pl_law_edit_1
    have p : ∀ r : Int, pureAll [.int r, .lst (is.map eId)] = true := fun r => by
      simp only [pureAll, show (D.lst (is.map eId)).pure = true from pu_ids is, pu_int, Bool.and_self]
    simp only [pSeq, pAsg, pVar, pC, pOp, pNil, pCons, pTup, pLst, pLstM, pNot, pAndV, pOrV, pIf, pB, pAnd, pOr, pNotT, pNoPart, pPart, pCB, pUnN, pSl, pNext, pBreak, pCont, pRet, pRetN, pDrop, pIfS, pgName, pgNil, pgCons, pgTup_t, pAug, pApp, pYes, isk_non, nsk_non, isN_non, isN_bl, isN_int, isN_str, isN_tup, isN_lst, isN_ref, isN_obj, pTru, pFld, pStar, pMake, pSetF, pIt, pRng1, pRng2, forG, List.map_cons, List.map_nil, List.getElem?_cons_zero, List.getElem?_cons_succ, List.set_cons_zero, List.set_cons_succ, Option.some.injEq, exists_eq_left, exists_eq_left', true_and, and_true, wipeE, D.bl.injEq, D.int.injEq, D.str.injEq, D.tup.injEq, D.lst.injEq, Bool.not_true, decide_eq_true_eq, if_true, if_false, reduceIte, Bool.false_eq_true, Option.isNone_none, Option.isNone_some, Bool.not_false, List.length_nil, List.length_cons, List.nil_append, List.cons_append, D.ref.injEq, SO.lst.injEq, pCall, exists_const, and_self, Nat.zero_add, Nat.zero_le, Nat.reduceLeDiff, Nat.reduceAdd, eq_self, o_add, o_sub, o_mul, o_div, o_mod, o_cmp, o_int, o_lenl, o_lent, o_lens, o_tupl, o_tupt, o_min, o_max, q_int, ixk_tup, ixk_lst, ixk_scr, at0, at1, at2, at3, at4, at5, List.length_map]
    refine ⟨.inl (by decide), ⟨by omega, by omega⟩, .inl (by decide), call_of (p _) ⟨_, is, rfl, hl, .inl (by decide), ⟨by omega, by omega⟩, .inl (by decide), ?_⟩⟩
    refine call_of (p _) ⟨_, is, rfl, hl, ?_⟩
    refine ⟨.inl (by decide), ⟨by omega, by omega⟩, call_of (p _) ⟨_, is, rfl, hl, by rw [List.length_range]; omega, ?_⟩⟩
    have := ih (j + 1) (some (.int (j : Int))) (some (eOp eId (mvF row is j).1)) (some (eOp eId (mvF row is j).2.1)) (by omega) (fun x7 x8 x9 => by
      rw [show j + 1 + n = j + (n + 1) by omega]
      exact h x7 x8 x9)
    rw [List.range_succ, List.map_append, List.map_append] at this
    exact this
def F_law_edit : PFn := fun ds k => ∃ (row : Int) (id : Ln.Id) (is : List Ln.Id), ds = [.int row, eId id, .lst (is.map eId)] ∧ is.length ≤ 1000 ∧ k (eEd (editF row id is))
theorem len_law_edit : ∀ ds k, F_law_edit ds k → ds.length = 3 := by
  rintro _ _ ⟨_, _, _, rfl, _⟩
  rfl
theorem body_law_edit : ∀ ds k, F_law_edit ds k → ps_law_edit { nx := fun _ _ => k .non, rt := fun d S => (d.frz S).noRef = true ∧ k (d.frz S) } (startE 10 ds) [] := by
  rintro _ k ⟨row, id, is, rfl, hl, hk⟩
  rw [start_law_edit]
  unfold ps_law_edit
  have p : ∀ r : Int, pureAll [.int r, .lst (is.map eId)] = true := fun r => by
    simp only [pureAll, show (D.lst (is.map eId)).pure = true from pu_ids is, pu_int, Bool.and_self]
  simp only [pSeq, pAsg, pVar, pC, pOp, pNil, pCons, pTup, pLst, pLstM, pNot, pAndV, pOrV, pIf, pB, pAnd, pOr, pNotT, pNoPart, pPart, pCB, pUnN, pSl, pNext, pBreak, pCont, pRet, pRetN, pDrop, pIfS, pgName, pgNil, pgCons, pgTup_t, pAug, pApp, pYes, isk_non, nsk_non, isN_non, isN_bl, isN_int, isN_str, isN_tup, isN_lst, isN_ref, isN_obj, pTru, pFld, pStar, pMake, pSetF, pIt, pRng1, pRng2, forG, List.map_cons, List.map_nil, List.getElem?_cons_zero, List.getElem?_cons_succ, List.set_cons_zero, List.set_cons_succ, Option.some.injEq, exists_eq_left, exists_eq_left', true_and, and_true, wipeE, D.bl.injEq, D.int.injEq, D.str.injEq, D.tup.injEq, D.lst.injEq, Bool.not_true, decide_eq_true_eq, if_true, if_false, reduceIte, Bool.false_eq_true, Option.isNone_none, Option.isNone_some, Bool.not_false, List.length_nil, List.length_cons, List.nil_append, List.cons_append, D.ref.injEq, SO.lst.injEq, pCall, exists_const, and_self, Nat.zero_add, Nat.zero_le, Nat.reduceLeDiff, Nat.reduceAdd, eq_self, o_add, o_sub, o_mul, o_div, o_mod, o_cmp, o_int, o_lenl, o_lent, o_lens, o_tupl, o_tupt, o_min, o_max, q_int, ixk_tup, ixk_lst, ixk_scr, at0, at1, at2, at3, at4, at5, List.length_map]
  refine ⟨⟨by decide, by decide⟩, call_of (p _) ⟨_, is, rfl, hl, by decide, ?_⟩⟩
  unfold editF at hk
  by_cases h0 : row % 6 = 0
  · rw [if_pos h0] at hk ⊢
    refine call_of (p _) ⟨_, is, rfl, hl, ?_⟩
    exact rt_pure (pu_ed (.write id (placeF (row / 6) is) none none (headsA row is))) hk
  rw [if_neg h0] at hk ⊢
  have wr : row % 6 ≤ 3 ∨ is.length = 0 → 0 < (19 : Int) → callk F_law_pick [] [.int (row / 29), .lst (is.map eId)] fun d => callk F_law_heads [] [.int row, .lst (is.map eId)] fun d2 => (D.frz [] (.tup [.str (Str.ofString "write"), eId id, ePl (placeF (row / 6) is), .tup [.int (row / 19 % 3), .int (row / 19 % 3), .int (row / 19 % 3 + 1), .bl false], d, d2])).noRef = true ∧ k (D.frz [] (.tup [.str (Str.ofString "write"), eId id, ePl (placeF (row / 6) is), .tup [.int (row / 19 % 3), .int (row / 19 % 3), .int (row / 19 % 3 + 1), .bl false], d, d2])) := by
    intro hc _
    rw [if_pos hc] at hk
    refine call_of (p _) ⟨_, is, rfl, hl, ?_⟩
    refine call_of (p _) ⟨_, is, rfl, hl, ?_⟩
    exact rt_pure (pu_ed (.write id (placeF (row / 6) is) (some (row / 19 % 3, row / 19 % 3, row / 19 % 3 + 1, false)) (pickF (row / 29) is) (headsA row is))) hk
  by_cases h3 : row % 6 ≤ 3
  · rw [if_pos h3]
    exact ⟨⟨by decide, by decide⟩, by decide, ⟨by decide, by decide⟩, wr (.inl h3) (by decide)⟩
  rw [if_neg h3]
  by_cases he : is.length = 0
  · rw [if_pos (show ((is.length : Nat) : Int) = 0 by omega)]
    exact ⟨⟨by decide, by decide⟩, by decide, ⟨by decide, by decide⟩, wr (.inr he) (by decide)⟩
  rw [if_neg (show ¬ ((is.length : Nat) : Int) = 0 by omega)]
  rw [if_neg (show ¬ (row % 6 ≤ 3 ∨ is.length = 0) from fun z => z.elim h3 he)] at hk
  by_cases h4 : row % 6 = 4
  · rw [if_pos h4] at hk ⊢
    refine ⟨⟨by decide, by decide⟩, call_of (p _) ⟨_, is, rfl, hl, ?_⟩⟩
    exact rt_pure (pu_ed (.drop id (headsA (row / 3) is))) hk
  rw [if_neg h4] at hk ⊢
  have hm := mod_bd (row / 31) 2 (by decide)
  refine for_go (src := .lst (rngD (1 + row / 31 % 2).toNat)) (ds := rngD (1 + row / 31 % 2).toNat) (fun kk h => ?_) (fun S => rfl) ?_
  · simp only [pSeq, pAsg, pVar, pC, pOp, pNil, pCons, pTup, pLst, pLstM, pNot, pAndV, pOrV, pIf, pB, pAnd, pOr, pNotT, pNoPart, pPart, pCB, pUnN, pSl, pNext, pBreak, pCont, pRet, pRetN, pDrop, pIfS, pgName, pgNil, pgCons, pgTup_t, pAug, pApp, pYes, isk_non, nsk_non, isN_non, isN_bl, isN_int, isN_str, isN_tup, isN_lst, isN_ref, isN_obj, pTru, pFld, pStar, pMake, pSetF, pIt, pRng1, pRng2, forG, List.map_cons, List.map_nil, List.getElem?_cons_zero, List.getElem?_cons_succ, List.set_cons_zero, List.set_cons_succ, Option.some.injEq, exists_eq_left, exists_eq_left', true_and, and_true, wipeE, D.bl.injEq, D.int.injEq, D.str.injEq, D.tup.injEq, D.lst.injEq, Bool.not_true, decide_eq_true_eq, if_true, if_false, reduceIte, Bool.false_eq_true, Option.isNone_none, Option.isNone_some, Bool.not_false, List.length_nil, List.length_cons, List.nil_append, List.cons_append, D.ref.injEq, SO.lst.injEq, pCall, exists_const, and_self, Nat.zero_add, Nat.zero_le, Nat.reduceLeDiff, Nat.reduceAdd, eq_self, o_add, o_sub, o_mul, o_div, o_mod, o_cmp, o_int, o_lenl, o_lent, o_lens, o_tupl, o_tupt, o_min, o_max, q_int, ixk_tup, ixk_lst, ixk_scr, at0, at1, at2, at3, at4, at5, List.length_map]
    exact ⟨⟨by decide, by decide⟩, by decide, _, rfl, ⟨by omega, by omega⟩, h⟩
  · unfold rngD
    rw [List.range_eq_range']
    refine loop_law_edit row id is hl _ _ _ _ (1 + row / 31 % 2).toNat 0 _ _ _ (by omega) (fun x7 x8 x9 => ?_)
    rw [Nat.zero_add]
    simp only [pSeq, pAsg, pVar, pC, pOp, pNil, pCons, pTup, pLst, pLstM, pNot, pAndV, pOrV, pIf, pB, pAnd, pOr, pNotT, pNoPart, pPart, pCB, pUnN, pSl, pNext, pBreak, pCont, pRet, pRetN, pDrop, pIfS, pgName, pgNil, pgCons, pgTup_t, pAug, pApp, pYes, isk_non, nsk_non, isN_non, isN_bl, isN_int, isN_str, isN_tup, isN_lst, isN_ref, isN_obj, pTru, pFld, pStar, pMake, pSetF, pIt, pRng1, pRng2, forG, List.map_cons, List.map_nil, List.getElem?_cons_zero, List.getElem?_cons_succ, List.set_cons_zero, List.set_cons_succ, Option.some.injEq, exists_eq_left, exists_eq_left', true_and, and_true, wipeE, D.bl.injEq, D.int.injEq, D.str.injEq, D.tup.injEq, D.lst.injEq, Bool.not_true, decide_eq_true_eq, if_true, if_false, reduceIte, Bool.false_eq_true, Option.isNone_none, Option.isNone_some, Bool.not_false, List.length_nil, List.length_cons, List.nil_append, List.cons_append, D.ref.injEq, SO.lst.injEq, pCall, exists_const, and_self, Nat.zero_add, Nat.zero_le, Nat.reduceLeDiff, Nat.reduceAdd, eq_self, o_add, o_sub, o_mul, o_div, o_mod, o_cmp, o_int, o_lenl, o_lent, o_lens, o_tupl, o_tupt, o_min, o_max, q_int, ixk_tup, ixk_lst, ixk_scr, at0, at1, at2, at3, at4, at5, List.length_map, o_tupr]
    refine ⟨_, lo_ref rfl, ?_⟩
    exact rt_pure (pu_ed (.move id ((List.range (1 + row / 31 % 2).toNat).map (mvF row is)))) hk
theorem ok_law_edit {P : Program} {w : World} {K : PySem.W.Frag} {cl : Cl} {mg : Str → Option Value} {base : Heap} (D : Df K mg "_law_edit" s_law_edit ["row", "edit_id", "ids"]) (T : Txt K cl mg) (hw : cl.w = w) (G_law_pick : C8.Cal P w K mg base 1 "_law_pick" (spP K cl F_law_pick) []) (G_law_place : C8.Cal P w K mg base 2 "_law_place" (spP K cl F_law_place) []) (G_law_heads : C8.Cal P w K mg base 2 "_law_heads" (spP K cl F_law_heads) []) : C8.Cal P w K mg base 3 "_law_edit" (spP K cl F_law_edit) [] := by
  subst hw
  refine D.cal sc_law_edit (spP_len (n := 3) len_law_edit) (fun f cdv A outer s H vs Q E hr h => ?_)
  refine ⟨_,
    (pss_cons (ps_set (i := 3) sc_law_edit.nd rfl (.inl rfl) (C8.pe_c G_law_place hr (by decide) (by rfl) (pa_cons (pe_op op_fdiv (pv 0) pe_int) (pa_cons (pv 2) pa_nil))))
    (pss_cons (ps_set (i := 4) sc_law_edit.nd rfl (.inl rfl) (pe_op op_mod (pe_callTy call_int1 (by rfl) T.n_int (by decide +kernel) (pa_cons (pv 0) pa_nil)) pe_int))
    (pss_cons (ps_if (pt_cmpR (show OpR _ _ (rEqP K) from op_eqP hr.units) (pv 4) pe_int (nomark _))
      (pss_one (ps_ret (pe_tup (pa_cons pe_str (pa_cons (pv 1) (pa_cons (pv 3) (pa_cons pe_non (pa_cons pe_non (pa_cons (C8.pe_c G_law_heads hr (by decide) (by rfl) (pa_cons (pv 0) (pa_cons (pv 2) pa_nil))) pa_nil)))))))))
      pss_nil)
    (pss_cons (ps_if (PW.pt (pw_or (pt_cmpR op_le (pv 4) pe_int (nomark _)) (pw_or1 (pt_cmpR (show OpR _ _ (rEqP K) from op_eqP hr.units) (pe_callB (show CallR _ (.builtin "len") (uLen K) from ucall_len) (by rfl) T.n_len PySem.boot_len (pa_cons (pv 2) pa_nil)) pe_int (nomark _)))))
      (pss_cons (ps_set (i := 5) sc_law_edit.nd rfl (.inl rfl) (pe_op op_mod (pe_callTy call_int1 (by rfl) T.n_int (by decide +kernel) (pa_cons (pe_op op_fdiv (pv 0) pe_int) pa_nil)) pe_int))
      (pss_one (ps_ret (pe_tup (pa_cons pe_str (pa_cons (pv 1) (pa_cons (pv 3) (pa_cons (pe_tup (pa_cons (pv 5) (pa_cons (pv 5) (pa_cons (pe_op (show OpR _ _ (uAdd K) from uop_add) (pv 5) pe_int) (pa_cons pe_bl pa_nil))))) (pa_cons (C8.pe_c G_law_pick hr (by decide) (by rfl) (pa_cons (pe_op op_fdiv (pv 0) pe_int) (pa_cons (pv 2) pa_nil))) (pa_cons (C8.pe_c G_law_heads hr (by decide) (by rfl) (pa_cons (pv 0) (pa_cons (pv 2) pa_nil))) pa_nil))))))))))
      pss_nil)
    (pss_cons (ps_if (pt_cmpR (show OpR _ _ (rEqP K) from op_eqP hr.units) (pv 4) pe_int (nomark _))
      (pss_one (ps_ret (pe_tup (pa_cons pe_str (pa_cons (pv 1) (pa_cons (C8.pe_c G_law_heads hr (by decide) (by rfl) (pa_cons (pe_op op_fdiv (pv 0) pe_int) (pa_cons (pv 2) pa_nil))) pa_nil))))))
      pss_nil)
    (pss_cons (ps_set (i := 6) sc_law_edit.nd rfl (.inl rfl) (pe_lst pa_nil))
    (pss_cons (ps_for PassesOwn.never rfl (pi_range1 (by rfl) T.n_range (pa_cons (pe_op (show OpR _ _ (uAdd K) from uop_add) pe_int (pe_op op_mod (pe_callTy call_int1 (by rfl) T.n_int (by decide +kernel) (pa_cons (pe_op op_fdiv (pv 0) pe_int) pa_nil)) pe_int)) pa_nil)) (pg_name (i := 7) sc_law_edit.nd rfl (Or.inl rfl))
      (pss_cons (ps_set (i := 8) sc_law_edit.nd rfl (.inl rfl) (C8.pe_c G_law_pick hr (by decide) (by rfl) (pa_cons (pe_op (show OpR _ _ (uAdd K) from uop_add) pe_int (pe_op uop_mul pe_int (pe_op op_fdiv (pv 0) (pe_op (show OpR _ _ (uAdd K) from uop_add) (pe_op uop_mul pe_int (pv 7)) pe_int)))) (pa_cons (pv 2) pa_nil))))
      (pss_cons (ps_set (i := 9) sc_law_edit.nd rfl (.inl rfl) (C8.pe_c G_law_pick hr (by decide) (by rfl) (pa_cons (pe_op (show OpR _ _ (uAdd K) from uop_add) pe_int (pe_op uop_mul pe_int (pe_op op_fdiv (pv 0) (pe_op (show OpR _ _ (uAdd K) from uop_add) (pe_op uop_mul pe_int (pv 7)) pe_int)))) (pa_cons (pv 2) pa_nil))))
      (pss_one (ps_expr (pe_bm PySem.F.plainAttrs_list PySem.F.slot_list_append PySem.F.type_list_append mt_append (pv 6) (pa_cons (pe_tup (pa_cons (pv 8) (pa_cons (pv 9) (pa_cons (C8.pe_c G_law_place hr (by decide) (by rfl) (pa_cons (pe_op op_fdiv (pv 0) (pe_op (show OpR _ _ (uAdd K) from uop_add) (pe_op uop_mul pe_int (pv 7)) pe_int)) (pa_cons (pv 2) pa_nil))) pa_nil)))) pa_nil)))))))
    (pss_one (ps_ret (pe_tup (pa_cons pe_str (pa_cons (pv 1) (pa_cons (pe_callTy (show CallR _ (.type "tuple") (uTup K) from call_tuple_of) (by rfl) T.n_tuple (by decide +kernel) (pa_cons (pv 6) pa_nil)) pa_nil))))))))))))), ?_⟩
  exact fn_ok (N := ["row", "edit_id", "ids", "place", "kind", "size", "moved", "j", "head", "line"]) (show SmS K cl _ ps_law_edit from
    (sm_seq (sm_asg (sm_call (sm_cons (sm_op smr_div sm_var sm_int) (sm_cons sm_var sm_nil))) sm_gname)
    (sm_seq (sm_asg (sm_op smr_mod (sm_cb smc_int (sm_cons sm_var sm_nil)) sm_int) sm_gname)
    (sm_seq (sm_ifS (sm_test (sm_op smr_eq sm_var sm_int))
      ((sm_ret (sm_tup (sm_cons sm_str (sm_cons sm_var (sm_cons sm_var (sm_cons sm_non (sm_cons sm_non (sm_cons (sm_call (sm_cons sm_var (sm_cons sm_var sm_nil))) sm_nil)))))))))
      sm_next)
    (sm_seq (sm_ifS (sm_or (sm_test (sm_op smr_cmp sm_var sm_int)) (sm_test (sm_op smr_eq (sm_cb smc_len (sm_cons sm_var sm_nil)) sm_int)))
      (sm_seq (sm_asg (sm_op smr_mod (sm_cb smc_int (sm_cons (sm_op smr_div sm_var sm_int) sm_nil)) sm_int) sm_gname)
      ((sm_ret (sm_tup (sm_cons sm_str (sm_cons sm_var (sm_cons sm_var (sm_cons (sm_tup (sm_cons sm_var (sm_cons sm_var (sm_cons (sm_op smr_add sm_var sm_int) (sm_cons sm_bl sm_nil))))) (sm_cons (sm_call (sm_cons (sm_op smr_div sm_var sm_int) (sm_cons sm_var sm_nil))) (sm_cons (sm_call (sm_cons sm_var (sm_cons sm_var sm_nil))) sm_nil))))))))))
      sm_next)
    (sm_seq (sm_ifS (sm_test (sm_op smr_eq sm_var sm_int))
      ((sm_ret (sm_tup (sm_cons sm_str (sm_cons sm_var (sm_cons (sm_call (sm_cons (sm_op smr_div sm_var sm_int) (sm_cons sm_var sm_nil))) sm_nil))))))
      sm_next)
    (sm_seq (sm_asg (sm_lstM sm_nil) sm_gname)
    (sm_seq (sm_for (sm_rng1 (sm_cons (sm_op smr_add sm_int (sm_op smr_mod (sm_cb smc_int (sm_cons (sm_op smr_div sm_var sm_int) sm_nil)) sm_int)) sm_nil)) sm_gname
      (sm_seq (sm_asg (sm_call (sm_cons (sm_op smr_add sm_int (sm_op smr_mul sm_int (sm_op smr_div sm_var (sm_op smr_add (sm_op smr_mul sm_int sm_var) sm_int)))) (sm_cons sm_var sm_nil))) sm_gname)
      (sm_seq (sm_asg (sm_call (sm_cons (sm_op smr_add sm_int (sm_op smr_mul sm_int (sm_op smr_div sm_var (sm_op smr_add (sm_op smr_mul sm_int sm_var) sm_int)))) (sm_cons sm_var sm_nil))) sm_gname)
      ((sm_app sm_var (sm_tup (sm_cons sm_var (sm_cons sm_var (sm_cons (sm_call (sm_cons (sm_op smr_div sm_var (sm_op smr_add (sm_op smr_mul sm_int sm_var) sm_int)) (sm_cons sm_var sm_nil))) sm_nil)))))))))
    ((sm_ret (sm_tup (sm_cons sm_str (sm_cons sm_var (sm_cons (sm_cb smc_tup (sm_cons sm_var sm_nil)) sm_nil)))))))))))))) body_law_edit h
/-! ### law_edits -/
def pl_law_edits_1 : PSx :=
      (pSeq (pAsg (pTup (pCons (pOp addk (pOp divk (pCB int1k (pCons (pVar 5) pNil)) (pC (.int 2))) (pC (.int 1))) (pCons (pOp modk (pCB int1k (pCons (pVar 5) pNil)) (pC (.int 2))) pNil))) (pgName 6))
      (pSeq (pApp (pVar 3) (pCall F_law_edit (pCons (pOp ixk (pVar 2) (pVar 5)) (pCons (pVar 6) (pCons (pVar 4) pNil)))))
      ((pApp (pVar 4) (pVar 6)))))
theorem pl_law_edits_1_d (P : PEnds) (env : Pw.Env) (S : Sto) : pl_law_edits_1 P env S = (
      (pSeq (pAsg (pTup (pCons (pOp addk (pOp divk (pCB int1k (pCons (pVar 5) pNil)) (pC (.int 2))) (pC (.int 1))) (pCons (pOp modk (pCB int1k (pCons (pVar 5) pNil)) (pC (.int 2))) pNil))) (pgName 6))
      (pSeq (pApp (pVar 3) (pCall F_law_edit (pCons (pOp ixk (pVar 2) (pVar 5)) (pCons (pVar 6) (pCons (pVar 4) pNil)))))
      ((pApp (pVar 4) (pVar 6)))))) P env S := rfl
def ps_law_edits : PSx :=
    (pSeq (pAsg (pCall F_law_rows (pCons (pVar 0) (pCons (pVar 1) pNil))) (pgName 2))
    (pSeq (pAsg (pLstM pNil) (pgName 3))
    (pSeq (pAsg (pLstM pNil) (pgName 4))
    (pSeq (pFor (pRng1 (pCons (pVar 1) pNil)) (pgName 5) pl_law_edits_1)
    ((pRet (pVar 3)))))))
theorem start_law_edits : ∀ a0 a1 : D, startE 7 [a0, a1] = [some a0, some a1, none, none, none, none, none] := fun _ _ => rfl
theorem loop_law_edits (c0 c1 : D) (rs : List Int) (P : PEnds) : ∀ (n j : Nat) (x1 x2 : Option D), j + n ≤ rs.length → rs.length ≤ 200 →
    (∀ x1 x2, P.nx [some c0, some c1, some (.lst (rs.map D.int)), some (.ref 0), some (.ref 1), x1, x2] [.lst ((editsF rs (j + n)).map eEd), .lst ((idsTo (j + n)).map eId)]) →
    forG (pgName 5) pl_law_edits_1 P ((List.range' j n).map fun (i : Nat) => D.int (i : Int)) [some c0, some c1, some (.lst (rs.map D.int)), some (.ref 0), some (.ref 1), x1, x2] [.lst ((editsF rs j).map eEd), .lst ((idsTo j).map eId)] := by
  intro n
  induction n with
  | zero => exact fun j x1 x2 _ _ h => h x1 x2
  | succ n ih =>
    intro j x1 x2 hj hr h
    rw [List.range'_succ]
    unfold pl_law_edits_1
    have hjl : j < rs.length := by omega
    have lE : (editsF rs j).length = j := by unfold editsF; rw [List.length_map, List.length_range]
    simp only [pSeq, pAsg, pVar, pC, pOp, pNil, pCons, pTup, pLst, pLstM, pNot, pAndV, pOrV, pIf, pB, pAnd, pOr, pNotT, pNoPart, pPart, pCB, pUnN, pSl, pNext, pBreak, pCont, pRet, pRetN, pDrop, pIfS, pgName, pgNil, pgCons, pgTup_t, pAug, pApp, pYes, isk_non, nsk_non, isN_non, isN_bl, isN_int, isN_str, isN_tup, isN_lst, isN_ref, isN_obj, pTru, pFld, pStar, pMake, pSetF, pIt, pRng1, pRng2, forG, List.map_cons, List.map_nil, List.getElem?_cons_zero, List.getElem?_cons_succ, List.set_cons_zero, List.set_cons_succ, Option.some.injEq, exists_eq_left, exists_eq_left', true_and, and_true, wipeE, D.bl.injEq, D.int.injEq, D.str.injEq, D.tup.injEq, D.lst.injEq, Bool.not_true, decide_eq_true_eq, if_true, if_false, reduceIte, Bool.false_eq_true, Option.isNone_none, Option.isNone_some, Bool.not_false, List.length_nil, List.length_cons, List.nil_append, List.cons_append, D.ref.injEq, SO.lst.injEq, pCall, exists_const, and_self, Nat.zero_add, Nat.zero_le, Nat.reduceLeDiff, Nat.reduceAdd, eq_self, o_add, o_sub, o_mul, o_div, o_mod, o_cmp, o_int, o_lenl, o_lent, o_lens, o_tupl, o_tupt, o_min, o_max, q_int, ixk_tup, ixk_lst, ixk_scr, at0, at1, at2, at3, at4, at5, List.length_map]
    refine ⟨⟨by decide, by decide⟩, by decide, _, at_map (List.getElem?_eq_getElem hjl), ?_⟩
    have hn : noRefs ([.int rs[j], .tup [.int ((j : Int) / 2 + 1), .int ((j : Int) % 2)], .ref 1].map (rs' [.lst ((editsF rs j).map eEd), .lst ((idsTo j).map eId)])) = true := by
      show noRefs [.int rs[j], .tup [.int ((j : Int) / 2 + 1), .int ((j : Int) % 2)], .lst ((idsTo j).map eId)] = true
      simp only [noRefs, pure_noRef _ (show (D.lst ((idsTo j).map Le.eId)).pure = true from pu_ids _), show (D.int rs[j]).noRef = true from rfl, show (D.tup [.int ((j : Int) / 2 + 1), .int ((j : Int) % 2)]).noRef = true from rfl, Bool.and_self]
    refine ⟨hn, rs[j], idAt j, idsTo j, rfl, by rw [idsTo_len]; omega, .inr (nl_ed _), ?_⟩
    rw [lE, idsTo_len]
    refine ⟨by omega, ?_⟩
    have := ih (j + 1) (some (.int (j : Int))) (some (eId (idAt j))) (by omega) hr (fun x1 x2 => by
      rw [show j + 1 + n = j + (n + 1) by omega]
      exact h x1 x2)
    rw [editsF_up, idsTo_up, List.map_append, List.map_append, List.getD_eq_getElem?_getD, List.getElem?_eq_getElem hjl] at this
    exact ⟨by omega, this⟩
def F_law_edits : PFn := fun ds k => ∃ (ns : List Int) (n : Nat), ds = [.scr (ns.map D.int), .int (n : Int)] ∧ ns.length ≤ 63 ∧ n ≤ 200 ∧ ∀ rs : List Int, rs.length = n → k (.lst ((editsF rs n).map eEd))
theorem len_law_edits : ∀ ds k, F_law_edits ds k → ds.length = 2 := by
  rintro _ _ ⟨_, _, rfl, _⟩
  rfl
theorem body_law_edits : ∀ ds k, F_law_edits ds k → ps_law_edits { nx := fun _ _ => k .non, rt := fun d S => (d.frz S).noRef = true ∧ k (d.frz S) } (startE 7 ds) [] := by
  rintro _ k ⟨ns, n, rfl, hl, hn, hk⟩
  rw [start_law_edits]
  unfold ps_law_edits
  simp only [pSeq, pAsg, pVar, pC, pOp, pNil, pCons, pTup, pLst, pLstM, pNot, pAndV, pOrV, pIf, pB, pAnd, pOr, pNotT, pNoPart, pPart, pCB, pUnN, pSl, pNext, pBreak, pCont, pRet, pRetN, pDrop, pIfS, pgName, pgNil, pgCons, pgTup_t, pAug, pApp, pYes, isk_non, nsk_non, isN_non, isN_bl, isN_int, isN_str, isN_tup, isN_lst, isN_ref, isN_obj, pTru, pFld, pStar, pMake, pSetF, pIt, pRng1, pRng2, forG, List.map_cons, List.map_nil, List.getElem?_cons_zero, List.getElem?_cons_succ, List.set_cons_zero, List.set_cons_succ, Option.some.injEq, exists_eq_left, exists_eq_left', true_and, and_true, wipeE, D.bl.injEq, D.int.injEq, D.str.injEq, D.tup.injEq, D.lst.injEq, Bool.not_true, decide_eq_true_eq, if_true, if_false, reduceIte, Bool.false_eq_true, Option.isNone_none, Option.isNone_some, Bool.not_false, List.length_nil, List.length_cons, List.nil_append, List.cons_append, D.ref.injEq, SO.lst.injEq, pCall, exists_const, and_self, Nat.zero_add, Nat.zero_le, Nat.reduceLeDiff, Nat.reduceAdd, eq_self, o_add, o_sub, o_mul, o_div, o_mod, o_cmp, o_int, o_lenl, o_lent, o_lens, o_tupl, o_tupt, o_min, o_max, q_int, ixk_tup, ixk_lst, ixk_scr, at0, at1, at2, at3, at4, at5, List.length_map]
  have p : pureAll [.scr (ns.map D.int), .int (n : Int)] = true := by
    simp only [pureAll, show (D.scr (ns.map D.int)).pure = true from pu_intsL ns, pu_int, Bool.and_self]
  refine call_of p ⟨ns, n, rfl, hl, by omega, fun rs hr h0 => ?_⟩
  refine for_go (src := .lst (rngD n)) (ds := rngD n) (fun kk h => ⟨_, rfl, _, rfl, ⟨by omega, by omega⟩, h⟩) (fun S => rfl) ?_
  unfold rngD
  rw [List.range_eq_range']
  refine loop_law_edits _ _ rs _ n 0 _ _ (by omega) (by omega) (fun x1 x2 => ?_)
  rw [Nat.zero_add]
  simp only [pSeq, pAsg, pVar, pC, pOp, pNil, pCons, pTup, pLst, pLstM, pNot, pAndV, pOrV, pIf, pB, pAnd, pOr, pNotT, pNoPart, pPart, pCB, pUnN, pSl, pNext, pBreak, pCont, pRet, pRetN, pDrop, pIfS, pgName, pgNil, pgCons, pgTup_t, pAug, pApp, pYes, isk_non, nsk_non, isN_non, isN_bl, isN_int, isN_str, isN_tup, isN_lst, isN_ref, isN_obj, pTru, pFld, pStar, pMake, pSetF, pIt, pRng1, pRng2, forG, List.map_cons, List.map_nil, List.getElem?_cons_zero, List.getElem?_cons_succ, List.set_cons_zero, List.set_cons_succ, Option.some.injEq, exists_eq_left, exists_eq_left', true_and, and_true, wipeE, D.bl.injEq, D.int.injEq, D.str.injEq, D.tup.injEq, D.lst.injEq, Bool.not_true, decide_eq_true_eq, if_true, if_false, reduceIte, Bool.false_eq_true, Option.isNone_none, Option.isNone_some, Bool.not_false, List.length_nil, List.length_cons, List.nil_append, List.cons_append, D.ref.injEq, SO.lst.injEq, pCall, exists_const, and_self, Nat.zero_add, Nat.zero_le, Nat.reduceLeDiff, Nat.reduceAdd, eq_self, o_add, o_sub, o_mul, o_div, o_mod, o_cmp, o_int, o_lenl, o_lent, o_lens, o_tupl, o_tupt, o_min, o_max, q_int, ixk_tup, ixk_lst, ixk_scr, at0, at1, at2, at3, at4, at5, List.length_map]
  have e : D.frz [.lst ((editsF rs n).map eEd), .lst ((idsTo n).map eId)] (.ref 0) = .lst ((editsF rs n).map eEd) := rfl
  rw [e]
  exact ⟨pure_noRef _ (pu_eds _), hk rs hr⟩
theorem ok_law_edits {P : Program} {w : World} {K : PySem.W.Frag} {cl : Cl} {mg : Str → Option Value} {base : Heap} (D : Df K mg "_law_edits" s_law_edits ["script", "count"]) (T : Txt K cl mg) (hw : cl.w = w) (G_law_rows : C8.Cal P w K mg base 1 "_law_rows" (spP K cl F_law_rows) []) (G_law_edit : C8.Cal P w K mg base 3 "_law_edit" (spP K cl F_law_edit) []) : C8.Cal P w K mg base 4 "_law_edits" (spP K cl F_law_edits) [] := by
  subst hw
  refine D.cal sc_law_edits (spP_len (n := 2) len_law_edits) (fun f cdv A outer s H vs Q E hr h => ?_)
  refine ⟨_,
    (pss_cons (ps_set (i := 2) sc_law_edits.nd rfl (.inl rfl) (C8.pe_c G_law_rows hr (by decide) (by rfl) (pa_cons (pv 0) (pa_cons (pv 1) pa_nil))))
    (pss_cons (ps_set (i := 3) sc_law_edits.nd rfl (.inl rfl) (pe_lst pa_nil))
    (pss_cons (ps_set (i := 4) sc_law_edits.nd rfl (.inl rfl) (pe_lst pa_nil))
    (pss_cons (ps_for PassesOwn.never rfl (pi_range1 (by rfl) T.n_range (pa_cons (pv 1) pa_nil)) (pg_name (i := 5) sc_law_edits.nd rfl (Or.inl rfl))
      (pss_cons (ps_set (i := 6) sc_law_edits.nd rfl (.inl rfl) (pe_tup (pa_cons (pe_op (show OpR _ _ (uAdd K) from uop_add) (pe_op op_fdiv (pe_callTy call_int1 (by rfl) T.n_int (by decide +kernel) (pa_cons (pv 5) pa_nil)) pe_int) pe_int) (pa_cons (pe_op op_mod (pe_callTy call_int1 (by rfl) T.n_int (by decide +kernel) (pa_cons (pv 5) pa_nil)) pe_int) pa_nil))))
      (pss_cons (ps_expr (pe_bm PySem.F.plainAttrs_list PySem.F.slot_list_append PySem.F.type_list_append mt_append (pv 3) (pa_cons (C8.pe_c G_law_edit hr (by decide) (by rfl) (pa_cons (pe_ix (show IxR _ (uIx K) from uix) (pv 2) (pv 5) (fun _ _ => rfl)) (pa_cons (pv 6) (pa_cons (pv 4) pa_nil)))) pa_nil)))
      (pss_one (ps_expr (pe_bm PySem.F.plainAttrs_list PySem.F.slot_list_append PySem.F.type_list_append mt_append (pv 4) (pa_cons (pv 6) pa_nil)))))))
    (pss_one (ps_ret (pv 3))))))), ?_⟩
  exact fn_ok (N := ["script", "count", "rows", "edits", "ids", "k", "edit_id"]) (show SmS K cl _ ps_law_edits from
    (sm_seq (sm_asg (sm_call (sm_cons sm_var (sm_cons sm_var sm_nil))) sm_gname)
    (sm_seq (sm_asg (sm_lstM sm_nil) sm_gname)
    (sm_seq (sm_asg (sm_lstM sm_nil) sm_gname)
    (sm_seq (sm_for (sm_rng1 (sm_cons sm_var sm_nil)) sm_gname
      (sm_seq (sm_asg (sm_tup (sm_cons (sm_op smr_add (sm_op smr_div (sm_cb smc_int (sm_cons sm_var sm_nil)) sm_int) sm_int) (sm_cons (sm_op smr_mod (sm_cb smc_int (sm_cons sm_var sm_nil)) sm_int) sm_nil))) sm_gname)
      (sm_seq (sm_app sm_var (sm_call (sm_cons (sm_op smr_ix sm_var sm_var) (sm_cons sm_var (sm_cons sm_var sm_nil)))))
      ((sm_app sm_var sm_var)))))
    ((sm_ret sm_var))))))) body_law_edits h
/-! ### law_with -/
def ps_law_with : PSx :=
    ((pRet (pOp addk (pOp addk (pSl (pVar 0) pNoPart (pPart (pVar 1))) (pLst (pCons (pVar 2) pNil))) (pSl (pVar 0) (pPart (pOp addk (pVar 1) (pC (.int 1)))) pNoPart))))
theorem start_law_with : ∀ a0 a1 a2 : D, startE 3 [a0, a1, a2] = [some a0, some a1, some a2] := fun _ _ _ => rfl
def F_law_with : PFn := fun ds k => ∃ (ls : List Line) (j : Nat) (l : Line), ds = [eLs ls, .int (j : Int), eLn l] ∧ j < ls.length ∧ ls.length ≤ 1000 ∧ k (eLs (ls.set j l))
theorem len_law_with : ∀ ds k, F_law_with ds k → ds.length = 3 := by
  rintro _ k ⟨_, _, _, rfl, _⟩
  rfl
theorem sl_l {S : Sto} {ls : List Line} {j : Nat} {i : Int} {k : D → Prop} (hi : i = (j : Int)) (h : j ≤ ls.length) (hk : k (.lst ((ls.take j).map eLn))) : slk S (eLs ls) none (some i) k := by
  subst hi
  refine rs_sl (x := eLs ls) rfl ?_
  rw [cut_l (by rw [List.length_map]; exact h), ← List.map_take]
  exact hk
theorem sl_r {S : Sto} {ls : List Line} {j : Nat} {i : Int} {k : D → Prop} (hi : i = (j : Int)) (h : j ≤ ls.length) (hk : k (.lst ((ls.drop j).map eLn))) : slk S (eLs ls) (some i) none k := by
  subst hi
  refine rs_sl (x := eLs ls) rfl ?_
  rw [cut_r (by rw [List.length_map]; exact h), ← List.map_drop]
  exact hk
theorem body_law_with : ∀ ds k, F_law_with ds k → ps_law_with { nx := fun _ _ => k .non, rt := fun d S => (d.frz S).noRef = true ∧ k (d.frz S) } (startE 3 ds) [] := by
  rintro _ k ⟨ls, j, l, rfl, hj, hl, hk⟩
  rw [start_law_with]
  unfold ps_law_with
  simp only [pSeq, pAsg, pVar, pC, pOp, pNil, pCons, pTup, pLst, pLstM, pNot, pAndV, pOrV, pIf, pB, pAnd, pOr, pNotT, pNoPart, pPart, pCB, pUnN, pSl, pNext, pBreak, pCont, pRet, pRetN, pDrop, pIfS, pgName, pgNil, pgCons, pgTup_t, pAug, pApp, pYes, isk_non, nsk_non, isN_non, isN_bl, isN_int, isN_str, isN_tup, isN_lst, isN_ref, isN_obj, pTru, pFld, pStar, pMake, pSetF, pIt, pRng1, pRng2, forG, List.map_cons, List.map_nil, List.getElem?_cons_zero, List.getElem?_cons_succ, List.set_cons_zero, List.set_cons_succ, Option.some.injEq, exists_eq_left, exists_eq_left', true_and, and_true, wipeE, D.bl.injEq, D.int.injEq, D.str.injEq, D.tup.injEq, D.lst.injEq, Bool.not_true, decide_eq_true_eq, if_true, if_false, reduceIte, Bool.false_eq_true, Option.isNone_none, Option.isNone_some, Bool.not_false, List.length_nil, List.length_cons, List.nil_append, List.cons_append, D.ref.injEq, SO.lst.injEq, pCall, exists_const, and_self, Nat.zero_add, Nat.zero_le, Nat.reduceLeDiff, Nat.reduceAdd, eq_self, o_add, o_sub, o_mul, o_div, o_mod, o_cmp, o_int, o_lenl, o_lent, o_lens, o_tupl, o_tupt, o_min, o_max, q_int, ixk_tup, ixk_lst, ixk_scr, at0, at1, at2, at3, at4, at5, List.length_map, ln0, ln1, ln2, ln3, ln4, lnS0, lnS2, lnS4, q_id, q_ido, q_oi, q_oid, q_path, q_ln, q_ls, n_id, n_path, n_ln, n_ls, non_oid, non_oln, non_oct, non_id, non_ln, non_ct, non_path, un_ln, un_pl, in_ids, ad_path, eOp_s, eOp_n, lstk_ls, st_ls]
  refine sl_l rfl (by omega) ?_
  rw [o_addl]
  refine ⟨by rw [List.length_map, List.length_take, List.length_singleton]; omega, ?_⟩
  refine sl_r (j := j + 1) (by omega) hj ?_
  rw [o_addl]
  refine ⟨by rw [List.length_append, List.length_map, List.length_take, List.length_singleton, List.length_map, List.length_drop]; omega, ?_⟩
  have e : D.lst (((ls.take j).map eLn ++ [eLn l]) ++ (ls.drop (j + 1)).map eLn) = eLs (ls.set j l) := by
    have e2 : ls.set j l = ls.take j ++ l :: ls.drop (j + 1) := List.set_eq_take_append_cons_drop.trans (if_pos hj)
    rw [e2]
    unfold eLs
    rw [List.map_append, List.map_cons, List.append_assoc]
    rfl
  rw [e]
  exact rt_pure (pu_ls _) hk
theorem ok_law_with {P : Program} {w : World} {K : PySem.W.Frag} {cl : Cl} {mg : Str → Option Value} {base : Heap} (D : Df K mg "_law_with" s_law_with ["lines", "k", "line"]) (T : Txt K cl mg) (hw : cl.w = w)  : C8.Cal P w K mg base 1 "_law_with" (spP K cl F_law_with) [] := by
  subst hw
  refine D.cal sc_law_with (spP_len (n := 3) len_law_with) (fun f cdv A outer s H vs Q E hr h => ?_)
  refine ⟨_,
    (pss_one (ps_ret (pe_op (show OpR _ _ (uAdd K) from uop_add) (pe_op (show OpR _ _ (uAdd K) from uop_add) (pe_slice (show SlR _ (uSl K) from usl) (pv 0) po_none (po_some (pv 1))) (pe_lst (pa_cons (pv 2) pa_nil))) (pe_slice (show SlR _ (uSl K) from usl) (pv 0) (po_some (pe_op (show OpR _ _ (uAdd K) from uop_add) (pv 1) pe_int)) po_none)))), ?_⟩
  exact fn_ok (N := ["lines", "k", "line"]) (show SmS K cl _ ps_law_with from
    ((sm_ret (sm_op smr_add (sm_op smr_add (sm_sl sm_var sm_noPart (sm_part sm_var)) (sm_lst (sm_cons sm_var sm_nil))) (sm_sl sm_var (sm_part (sm_op smr_add sm_var sm_int)) sm_noPart))))) body_law_with h
/-! ### law_wrong -/
def pr_law_wrong_1 : PSx :=
    ((pRet (pVar 3)))
theorem pr_law_wrong_1_d (P : PEnds) (env : Pw.Env) (S : Sto) : pr_law_wrong_1 P env S = (
    ((pRet (pVar 3)))) P env S := rfl
def pr_law_wrong_2 : PSx :=
    (pSeq (pIfS (pB (pOp (cmpk fun i j => decide (j < i)) (pVar 1) (pC (.int 0))))
      (pSeq (pAsg (pOp ixk (pVar 0) (pOp subk (pVar 1) (pC (.int 1)))) (pgName 4))
      (pSeq (pApp (pVar 3) (pOp addk (pOp addk (pSl (pVar 0) pNoPart (pPart (pOp subk (pVar 1) (pC (.int 1))))) (pLst (pCons (pVar 2) (pCons (pVar 4) pNil)))) (pSl (pVar 0) (pPart (pOp addk (pVar 1) (pC (.int 1)))) pNoPart)))
      (pSeq (pApp (pVar 3) (pCall F_law_with (pCons (pVar 0) (pCons (pVar 1) (pCons (pTup (pCons (pOp ixk (pVar 2) (pC (.int 0))) (pCons (pOp ixk (pVar 4) (pC (.int 1))) (pCons (pOp ixk (pVar 2) (pC (.int 2))) (pCons (pOp ixk (pVar 2) (pC (.int 3))) (pCons (pOp ixk (pVar 2) (pC (.int 4))) pNil)))))) pNil)))))
      ((pIfS (pB (pOp nsk (pOp ixk (pVar 4) (pC (.int 4))) (pC .non)))
        ((pApp (pVar 3) (pCall F_law_with (pCons (pVar 0) (pCons (pVar 1) (pCons (pTup (pCons (pOp ixk (pVar 2) (pC (.int 0))) (pCons (pOp ixk (pVar 2) (pC (.int 1))) (pCons (pOp ixk (pVar 4) (pC (.int 0))) (pCons (pOp ixk (pVar 2) (pC (.int 3))) (pCons (pOp ixk (pVar 2) (pC (.int 4))) pNil)))))) pNil))))))
        pNext)))))
      pNext)
    pr_law_wrong_1)
theorem pr_law_wrong_2_d (P : PEnds) (env : Pw.Env) (S : Sto) : pr_law_wrong_2 P env S = (
    (pSeq (pIfS (pB (pOp (cmpk fun i j => decide (j < i)) (pVar 1) (pC (.int 0))))
      (pSeq (pAsg (pOp ixk (pVar 0) (pOp subk (pVar 1) (pC (.int 1)))) (pgName 4))
      (pSeq (pApp (pVar 3) (pOp addk (pOp addk (pSl (pVar 0) pNoPart (pPart (pOp subk (pVar 1) (pC (.int 1))))) (pLst (pCons (pVar 2) (pCons (pVar 4) pNil)))) (pSl (pVar 0) (pPart (pOp addk (pVar 1) (pC (.int 1)))) pNoPart)))
      (pSeq (pApp (pVar 3) (pCall F_law_with (pCons (pVar 0) (pCons (pVar 1) (pCons (pTup (pCons (pOp ixk (pVar 2) (pC (.int 0))) (pCons (pOp ixk (pVar 4) (pC (.int 1))) (pCons (pOp ixk (pVar 2) (pC (.int 2))) (pCons (pOp ixk (pVar 2) (pC (.int 3))) (pCons (pOp ixk (pVar 2) (pC (.int 4))) pNil)))))) pNil)))))
      ((pIfS (pB (pOp nsk (pOp ixk (pVar 4) (pC (.int 4))) (pC .non)))
        ((pApp (pVar 3) (pCall F_law_with (pCons (pVar 0) (pCons (pVar 1) (pCons (pTup (pCons (pOp ixk (pVar 2) (pC (.int 0))) (pCons (pOp ixk (pVar 2) (pC (.int 1))) (pCons (pOp ixk (pVar 4) (pC (.int 0))) (pCons (pOp ixk (pVar 2) (pC (.int 3))) (pCons (pOp ixk (pVar 2) (pC (.int 4))) pNil)))))) pNil))))))
        pNext)))))
      pNext)
    pr_law_wrong_1)) P env S := rfl
def ps_law_wrong : PSx :=
    (pSeq (pAsg (pOp ixk (pVar 0) (pVar 1)) (pgName 2))
    (pSeq (pAsg (pLstM (pCons (pCall F_law_with (pCons (pVar 0) (pCons (pVar 1) (pCons (pTup (pCons (pOp ixk (pVar 2) (pC (.int 0))) (pCons (pOp ixk (pVar 2) (pC (.int 1))) (pCons (pOp ixk (pVar 2) (pC (.int 2))) (pCons (pTup pNil) (pCons (pOp ixk (pVar 2) (pC (.int 4))) pNil)))))) pNil)))) pNil)) (pgName 3))
    (pSeq (pApp (pVar 3) (pCall F_law_with (pCons (pVar 0) (pCons (pVar 1) (pCons (pTup (pCons (pOp ixk (pVar 2) (pC (.int 0))) (pCons (pOp ixk (pVar 2) (pC (.int 1))) (pCons (pTup (pCons (pC (.int 77)) (pCons (pC (.int 7)) pNil))) (pCons (pOp ixk (pVar 2) (pC (.int 3))) (pCons (pOp ixk (pVar 2) (pC (.int 4))) pNil)))))) pNil)))))
    (pSeq (pApp (pVar 3) (pCall F_law_with (pCons (pVar 0) (pCons (pVar 1) (pCons (pTup (pCons (pOp ixk (pVar 2) (pC (.int 0))) (pCons (pOp ixk (pVar 2) (pC (.int 1))) (pCons (pOp ixk (pVar 2) (pC (.int 0))) (pCons (pOp ixk (pVar 2) (pC (.int 3))) (pCons (pOp ixk (pVar 2) (pC (.int 4))) pNil)))))) pNil)))))
    (pSeq (pIfS (pB (pOp isk (pOp ixk (pVar 2) (pC (.int 4))) (pC .non)))
      ((pApp (pVar 3) (pCall F_law_with (pCons (pVar 0) (pCons (pVar 1) (pCons (pTup (pCons (pOp ixk (pVar 2) (pC (.int 0))) (pCons (pTup (pCons (pC (.int 78)) (pCons (pC (.int 0)) pNil))) (pCons (pOp ixk (pVar 2) (pC (.int 2))) (pCons (pOp ixk (pVar 2) (pC (.int 3))) (pCons (pC .non) pNil)))))) pNil))))))
      pNext)
    pr_law_wrong_2)))))
theorem start_law_wrong : ∀ a0 a1 : D, startE 5 [a0, a1] = [some a0, some a1, none, none, none] := fun _ _ => rfl
def F_law_wrong : PFn := fun ds k => ∃ (ls : List Line) (j : Nat), ds = [eLs ls, .int (j : Int)] ∧ j < ls.length ∧ ls.length ≤ 900 ∧ ∀ ws : List (List Line), ws.length ≤ 10 → (∀ w ∈ ws, Wrong ls j w) → k (.lst (ws.map eLs))
theorem len_law_wrong : ∀ ds k, F_law_wrong ds k → ds.length = 2 := by
  rintro _ k ⟨_, _, rfl, _⟩
  rfl
theorem body_law_wrong : ∀ ds k, F_law_wrong ds k → ps_law_wrong { nx := fun _ _ => k .non, rt := fun d S => (d.frz S).noRef = true ∧ k (d.frz S) } (startE 5 ds) [] := by
  rintro _ k ⟨ls, j, rfl, hj, hl, hk⟩
  rw [start_law_wrong]
  unfold ps_law_wrong
  have hl1 : ls.length ≤ 1000 := by omega
  have ha : ls[j]? = some ls[j] := List.getElem?_eq_getElem hj
  generalize hla : ls[j] = a at ha
  have wth : ∀ (n : Line) (S : Sto) (k : D → Prop), k (eLs (ls.set j n)) → callk F_law_with S [eLs ls, .int (j : Int), eLn n] k := fun n S k h => call_of (by simp only [pureAll, pu_ls, pu_lsl, pu_oid, pu_id, pu_ln, pu_oln, pu_pl, pu_ed, pu_eds, pu_idst, pu_path, pu_oct, pu_mv, pu_mvs, pu_str, pu_int, pu_bl, pu_non, eOp_s, eOp_n, Bool.and_self]) ⟨ls, j, n, rfl, hj, hl1, h⟩
  have end1 : ∀ (ws : List (List Line)) (x4 : Option D), ws.length ≤ 10 → (∀ w ∈ ws, Wrong ls j w) → pr_law_wrong_1 { nx := fun _ _ => k .non, rt := fun d S => (d.frz S).noRef = true ∧ k (d.frz S) } [some (eLs ls), some (.int (j : Int)), some (eLn a), some (.ref 0), x4] [.lst (ws.map eLs)] := by
    intro ws x4 h1 h2
    unfold pr_law_wrong_1
    simp only [pSeq, pAsg, pVar, pC, pOp, pNil, pCons, pTup, pLst, pLstM, pNot, pAndV, pOrV, pIf, pB, pAnd, pOr, pNotT, pNoPart, pPart, pCB, pUnN, pSl, pNext, pBreak, pCont, pRet, pRetN, pDrop, pIfS, pgName, pgNil, pgCons, pgTup_t, pAug, pApp, pYes, isk_non, nsk_non, isN_non, isN_bl, isN_int, isN_str, isN_tup, isN_lst, isN_ref, isN_obj, pTru, pFld, pStar, pMake, pSetF, pIt, pRng1, pRng2, forG, List.map_cons, List.map_nil, List.getElem?_cons_zero, List.getElem?_cons_succ, List.set_cons_zero, List.set_cons_succ, Option.some.injEq, exists_eq_left, exists_eq_left', true_and, and_true, wipeE, D.bl.injEq, D.int.injEq, D.str.injEq, D.tup.injEq, D.lst.injEq, Bool.not_true, decide_eq_true_eq, if_true, if_false, reduceIte, Bool.false_eq_true, Option.isNone_none, Option.isNone_some, Bool.not_false, List.length_nil, List.length_cons, List.nil_append, List.cons_append, D.ref.injEq, SO.lst.injEq, pCall, exists_const, and_self, Nat.zero_add, Nat.zero_le, Nat.reduceLeDiff, Nat.reduceAdd, eq_self, o_add, o_sub, o_mul, o_div, o_mod, o_cmp, o_int, o_lenl, o_lent, o_lens, o_tupl, o_tupt, o_min, o_max, q_int, ixk_tup, ixk_lst, ixk_scr, at0, at1, at2, at3, at4, at5, List.length_map, ln0, ln1, ln2, ln3, ln4, lnS0, lnS2, lnS4, q_id, q_ido, q_oi, q_oid, q_path, q_ln, q_ls, n_id, n_path, n_ln, n_ls, non_oid, non_oln, non_oct, non_id, non_ln, non_ct, non_path, un_ln, un_pl, in_ids, ad_path, eOp_s, eOp_n, lstk_ls, st_ls]
    have p : (D.lst (ws.map eLs)).pure = true := pureAll_map pu_ls ws
    exact ⟨pure_noRef _ p, hk ws h1 h2⟩
  have end2 : ∀ (ws : List (List Line)), ws.length ≤ 5 → (∀ w ∈ ws, Wrong ls j w) → pr_law_wrong_2 { nx := fun _ _ => k .non, rt := fun d S => (d.frz S).noRef = true ∧ k (d.frz S) } [some (eLs ls), some (.int (j : Int)), some (eLn a), some (.ref 0), none] [.lst (ws.map eLs)] := by
    intro ws h1 h2
    unfold pr_law_wrong_2
    simp only [pSeq, pAsg, pVar, pC, pOp, pNil, pCons, pTup, pLst, pLstM, pNot, pAndV, pOrV, pIf, pB, pAnd, pOr, pNotT, pNoPart, pPart, pCB, pUnN, pSl, pNext, pBreak, pCont, pRet, pRetN, pDrop, pIfS, pgName, pgNil, pgCons, pgTup_t, pAug, pApp, pYes, isk_non, nsk_non, isN_non, isN_bl, isN_int, isN_str, isN_tup, isN_lst, isN_ref, isN_obj, pTru, pFld, pStar, pMake, pSetF, pIt, pRng1, pRng2, forG, List.map_cons, List.map_nil, List.getElem?_cons_zero, List.getElem?_cons_succ, List.set_cons_zero, List.set_cons_succ, Option.some.injEq, exists_eq_left, exists_eq_left', true_and, and_true, wipeE, D.bl.injEq, D.int.injEq, D.str.injEq, D.tup.injEq, D.lst.injEq, Bool.not_true, decide_eq_true_eq, if_true, if_false, reduceIte, Bool.false_eq_true, Option.isNone_none, Option.isNone_some, Bool.not_false, List.length_nil, List.length_cons, List.nil_append, List.cons_append, D.ref.injEq, SO.lst.injEq, pCall, exists_const, and_self, Nat.zero_add, Nat.zero_le, Nat.reduceLeDiff, Nat.reduceAdd, eq_self, o_add, o_sub, o_mul, o_div, o_mod, o_cmp, o_int, o_lenl, o_lent, o_lens, o_tupl, o_tupt, o_min, o_max, q_int, ixk_tup, ixk_lst, ixk_scr, at0, at1, at2, at3, at4, at5, List.length_map, ln0, ln1, ln2, ln3, ln4, lnS0, lnS2, lnS4, q_id, q_ido, q_oi, q_oid, q_path, q_ln, q_ls, n_id, n_path, n_ln, n_ls, non_oid, non_oln, non_oct, non_id, non_ln, non_ct, non_path, un_ln, un_pl, in_ids, ad_path, eOp_s, eOp_n, lstk_ls, st_ls]
    by_cases h0 : (0 : Int) < (j : Int)
    · rw [if_pos h0]
      have h0' : 0 < j := by omega
      have hb : ls[j - 1]? = some (ls[j - 1]'(by omega)) := List.getElem?_eq_getElem _
      generalize (ls[j - 1]'(by omega)) = b at hb
      have ej : (j : Int) - 1 = ((j - 1 : Nat) : Int) := by omega
      rw [ej]
      simp only [pSeq, pAsg, pVar, pC, pOp, pNil, pCons, pTup, pLst, pLstM, pNot, pAndV, pOrV, pIf, pB, pAnd, pOr, pNotT, pNoPart, pPart, pCB, pUnN, pSl, pNext, pBreak, pCont, pRet, pRetN, pDrop, pIfS, pgName, pgNil, pgCons, pgTup_t, pAug, pApp, pYes, isk_non, nsk_non, isN_non, isN_bl, isN_int, isN_str, isN_tup, isN_lst, isN_ref, isN_obj, pTru, pFld, pStar, pMake, pSetF, pIt, pRng1, pRng2, forG, List.map_cons, List.map_nil, List.getElem?_cons_zero, List.getElem?_cons_succ, List.set_cons_zero, List.set_cons_succ, Option.some.injEq, exists_eq_left, exists_eq_left', true_and, and_true, wipeE, D.bl.injEq, D.int.injEq, D.str.injEq, D.tup.injEq, D.lst.injEq, Bool.not_true, decide_eq_true_eq, if_true, if_false, reduceIte, Bool.false_eq_true, Option.isNone_none, Option.isNone_some, Bool.not_false, List.length_nil, List.length_cons, List.nil_append, List.cons_append, D.ref.injEq, SO.lst.injEq, pCall, exists_const, and_self, Nat.zero_add, Nat.zero_le, Nat.reduceLeDiff, Nat.reduceAdd, eq_self, o_add, o_sub, o_mul, o_div, o_mod, o_cmp, o_int, o_lenl, o_lent, o_lens, o_tupl, o_tupt, o_min, o_max, q_int, ixk_tup, ixk_lst, ixk_scr, at0, at1, at2, at3, at4, at5, List.length_map, ln0, ln1, ln2, ln3, ln4, lnS0, lnS2, lnS4, q_id, q_ido, q_oi, q_oid, q_path, q_ln, q_ls, n_id, n_path, n_ln, n_ls, non_oid, non_oln, non_oct, non_id, non_ln, non_ct, non_path, un_ln, un_pl, in_ids, ad_path, eOp_s, eOp_n, lstk_ls, st_ls, ix_ls hb]
      refine sl_l rfl (by omega) ?_
      rw [o_addl]
      refine ⟨by rw [List.length_map, List.length_take]; simp only [List.length_cons, List.length_nil]; omega, ?_⟩
      refine sl_r (j := j + 1) (by omega) hj ?_
      rw [o_addl]
      refine ⟨by rw [List.length_append, List.length_map, List.length_take, List.length_map, List.length_drop]; simp only [List.length_cons, List.length_nil]; omega, ?_⟩
      have e : D.lst (((ls.take (j - 1)).map eLn ++ [eLn a, eLn b]) ++ (ls.drop (j + 1)).map eLn) = eLs (ls.take (j - 1) ++ ([a, b] ++ ls.drop (j + 1))) := by
        unfold eLs
        rw [List.map_append, List.map_append, List.append_assoc]
        rfl
      rw [e]
      simp only [pSeq, pAsg, pVar, pC, pOp, pNil, pCons, pTup, pLst, pLstM, pNot, pAndV, pOrV, pIf, pB, pAnd, pOr, pNotT, pNoPart, pPart, pCB, pUnN, pSl, pNext, pBreak, pCont, pRet, pRetN, pDrop, pIfS, pgName, pgNil, pgCons, pgTup_t, pAug, pApp, pYes, isk_non, nsk_non, isN_non, isN_bl, isN_int, isN_str, isN_tup, isN_lst, isN_ref, isN_obj, pTru, pFld, pStar, pMake, pSetF, pIt, pRng1, pRng2, forG, List.map_cons, List.map_nil, List.getElem?_cons_zero, List.getElem?_cons_succ, List.set_cons_zero, List.set_cons_succ, Option.some.injEq, exists_eq_left, exists_eq_left', true_and, and_true, wipeE, D.bl.injEq, D.int.injEq, D.str.injEq, D.tup.injEq, D.lst.injEq, Bool.not_true, decide_eq_true_eq, if_true, if_false, reduceIte, Bool.false_eq_true, Option.isNone_none, Option.isNone_some, Bool.not_false, List.length_nil, List.length_cons, List.nil_append, List.cons_append, D.ref.injEq, SO.lst.injEq, pCall, exists_const, and_self, Nat.zero_add, Nat.zero_le, Nat.reduceLeDiff, Nat.reduceAdd, eq_self, o_add, o_sub, o_mul, o_div, o_mod, o_cmp, o_int, o_lenl, o_lent, o_lens, o_tupl, o_tupt, o_min, o_max, q_int, ixk_tup, ixk_lst, ixk_scr, at0, at1, at2, at3, at4, at5, List.length_map, ln0, ln1, ln2, ln3, ln4, lnS0, lnS2, lnS4, q_id, q_ido, q_oi, q_oid, q_path, q_ln, q_ls, n_id, n_path, n_ln, n_ls, non_oid, non_oln, non_oct, non_id, non_ln, non_ct, non_path, un_ln, un_pl, in_ids, ad_path, eOp_s, eOp_n, lstk_ls, st_ls]
      refine ⟨by omega, ?_⟩
      refine wth { a with hd := b.hd } _ _ ?_
      refine ⟨by simp only [List.length_append, List.length_map, List.length_singleton]; omega, ?_⟩
      have w1 : Wrong ls j (ls.take (j - 1) ++ ([a, b] ++ ls.drop (j + 1))) := .swap h0' ha hb
      have w2 : Wrong ls j (ls.set j { a with hd := b.hd }) := .twice h0' ha hb
      cases hc : b.ct with
      | none =>
        simp only [pSeq, pAsg, pVar, pC, pOp, pNil, pCons, pTup, pLst, pLstM, pNot, pAndV, pOrV, pIf, pB, pAnd, pOr, pNotT, pNoPart, pPart, pCB, pUnN, pSl, pNext, pBreak, pCont, pRet, pRetN, pDrop, pIfS, pgName, pgNil, pgCons, pgTup_t, pAug, pApp, pYes, isk_non, nsk_non, isN_non, isN_bl, isN_int, isN_str, isN_tup, isN_lst, isN_ref, isN_obj, pTru, pFld, pStar, pMake, pSetF, pIt, pRng1, pRng2, forG, List.map_cons, List.map_nil, List.getElem?_cons_zero, List.getElem?_cons_succ, List.set_cons_zero, List.set_cons_succ, Option.some.injEq, exists_eq_left, exists_eq_left', true_and, and_true, wipeE, D.bl.injEq, D.int.injEq, D.str.injEq, D.tup.injEq, D.lst.injEq, Bool.not_true, decide_eq_true_eq, if_true, if_false, reduceIte, Bool.false_eq_true, Option.isNone_none, Option.isNone_some, Bool.not_false, List.length_nil, List.length_cons, List.nil_append, List.cons_append, D.ref.injEq, SO.lst.injEq, pCall, exists_const, and_self, Nat.zero_add, Nat.zero_le, Nat.reduceLeDiff, Nat.reduceAdd, eq_self, o_add, o_sub, o_mul, o_div, o_mod, o_cmp, o_int, o_lenl, o_lent, o_lens, o_tupl, o_tupt, o_min, o_max, q_int, ixk_tup, ixk_lst, ixk_scr, at0, at1, at2, at3, at4, at5, List.length_map, ln0, ln1, ln2, ln3, ln4, lnS0, lnS2, lnS4, q_id, q_ido, q_oi, q_oid, q_path, q_ln, q_ls, n_id, n_path, n_ln, n_ls, non_oid, non_oln, non_oct, non_id, non_ln, non_ct, non_path, un_ln, un_pl, in_ids, ad_path, eOp_s, eOp_n, lstk_ls, st_ls]
        have := end1 (ws ++ [ls.take (j - 1) ++ ([a, b] ++ ls.drop (j + 1)), ls.set j { a with hd := b.hd }]) (some (eLn b)) (by simp only [List.length_append, List.length_cons, List.length_nil]; omega) (fun w hw => by
          rcases List.mem_append.mp hw with hw | hw
          · exact h2 w hw
          · simp only [List.mem_cons, List.not_mem_nil, or_false] at hw
            rcases hw with rfl | rfl
            · exact w1
            · exact w2)
        rw [List.map_append] at this
        rw [List.append_assoc]
        exact this
      | some c =>
        simp only [pSeq, pAsg, pVar, pC, pOp, pNil, pCons, pTup, pLst, pLstM, pNot, pAndV, pOrV, pIf, pB, pAnd, pOr, pNotT, pNoPart, pPart, pCB, pUnN, pSl, pNext, pBreak, pCont, pRet, pRetN, pDrop, pIfS, pgName, pgNil, pgCons, pgTup_t, pAug, pApp, pYes, isk_non, nsk_non, isN_non, isN_bl, isN_int, isN_str, isN_tup, isN_lst, isN_ref, isN_obj, pTru, pFld, pStar, pMake, pSetF, pIt, pRng1, pRng2, forG, List.map_cons, List.map_nil, List.getElem?_cons_zero, List.getElem?_cons_succ, List.set_cons_zero, List.set_cons_succ, Option.some.injEq, exists_eq_left, exists_eq_left', true_and, and_true, wipeE, D.bl.injEq, D.int.injEq, D.str.injEq, D.tup.injEq, D.lst.injEq, Bool.not_true, decide_eq_true_eq, if_true, if_false, reduceIte, Bool.false_eq_true, Option.isNone_none, Option.isNone_some, Bool.not_false, List.length_nil, List.length_cons, List.nil_append, List.cons_append, D.ref.injEq, SO.lst.injEq, pCall, exists_const, and_self, Nat.zero_add, Nat.zero_le, Nat.reduceLeDiff, Nat.reduceAdd, eq_self, o_add, o_sub, o_mul, o_div, o_mod, o_cmp, o_int, o_lenl, o_lent, o_lens, o_tupl, o_tupt, o_min, o_max, q_int, ixk_tup, ixk_lst, ixk_scr, at0, at1, at2, at3, at4, at5, List.length_map, ln0, ln1, ln2, ln3, ln4, lnS0, lnS2, lnS4, q_id, q_ido, q_oi, q_oid, q_path, q_ln, q_ls, n_id, n_path, n_ln, n_ls, non_oid, non_oln, non_oct, non_id, non_ln, non_ct, non_path, un_ln, un_pl, in_ids, ad_path, eOp_s, eOp_n, lstk_ls, st_ls]
        refine wth { a with ins := some b.id } _ _ ?_
        refine ⟨by simp only [List.length_append, List.length_map, List.length_singleton]; omega, ?_⟩
        have w3 : Wrong ls j (ls.set j { a with ins := some b.id }) := .file h0' ha hb (by rw [hc]; exact nofun)
        have := end1 (ws ++ [ls.take (j - 1) ++ ([a, b] ++ ls.drop (j + 1)), ls.set j { a with hd := b.hd }, ls.set j { a with ins := some b.id }]) (some (eLn b)) (by simp only [List.length_append, List.length_cons, List.length_nil]; omega) (fun w hw => by
          rcases List.mem_append.mp hw with hw | hw
          · exact h2 w hw
          · simp only [List.mem_cons, List.not_mem_nil, or_false] at hw
            rcases hw with rfl | rfl | rfl
            · exact w1
            · exact w2
            · exact w3)
        rw [List.map_append] at this
        rw [List.append_assoc, List.append_assoc]
        exact this
    · rw [if_neg h0]
      exact end1 ws _ (by omega) h2
  simp only [pSeq, pAsg, pVar, pC, pOp, pNil, pCons, pTup, pLst, pLstM, pNot, pAndV, pOrV, pIf, pB, pAnd, pOr, pNotT, pNoPart, pPart, pCB, pUnN, pSl, pNext, pBreak, pCont, pRet, pRetN, pDrop, pIfS, pgName, pgNil, pgCons, pgTup_t, pAug, pApp, pYes, isk_non, nsk_non, isN_non, isN_bl, isN_int, isN_str, isN_tup, isN_lst, isN_ref, isN_obj, pTru, pFld, pStar, pMake, pSetF, pIt, pRng1, pRng2, forG, List.map_cons, List.map_nil, List.getElem?_cons_zero, List.getElem?_cons_succ, List.set_cons_zero, List.set_cons_succ, Option.some.injEq, exists_eq_left, exists_eq_left', true_and, and_true, wipeE, D.bl.injEq, D.int.injEq, D.str.injEq, D.tup.injEq, D.lst.injEq, Bool.not_true, decide_eq_true_eq, if_true, if_false, reduceIte, Bool.false_eq_true, Option.isNone_none, Option.isNone_some, Bool.not_false, List.length_nil, List.length_cons, List.nil_append, List.cons_append, D.ref.injEq, SO.lst.injEq, pCall, exists_const, and_self, Nat.zero_add, Nat.zero_le, Nat.reduceLeDiff, Nat.reduceAdd, eq_self, o_add, o_sub, o_mul, o_div, o_mod, o_cmp, o_int, o_lenl, o_lent, o_lens, o_tupl, o_tupt, o_min, o_max, q_int, ixk_tup, ixk_lst, ixk_scr, at0, at1, at2, at3, at4, at5, List.length_map, ln0, ln1, ln2, ln3, ln4, lnS0, lnS2, lnS4, q_id, q_ido, q_oi, q_oid, q_path, q_ln, q_ls, n_id, n_path, n_ln, n_ls, non_oid, non_oln, non_oct, non_id, non_ln, non_ct, non_path, un_ln, un_pl, in_ids, ad_path, eOp_s, eOp_n, lstk_ls, st_ls, ix_ls ha]
  refine wth { a with path := [] } _ _ ?_
  refine wth { a with ins := some (77, 7) } _ _ ?_
  refine ⟨by decide, wth { a with ins := some a.id } _ _ ?_⟩
  refine ⟨by decide, ?_⟩
  have w1 : Wrong ls j (ls.set j { a with path := [] }) := .path ha
  have w2 : Wrong ls j (ls.set j { a with ins := some (77, 7) }) := .far ha
  have w3 : Wrong ls j (ls.set j { a with ins := some a.id }) := .self ha
  have hct : a.ct = none ∨ ∃ c, a.ct = some c := by cases a.ct <;> simp
  rcases hct with hc | ⟨c, hc⟩
  · skip
    have w4 : Wrong ls j (ls.set j { a with hd := (78, 0) }) := .head ha hc
    have e4 : D.tup [Le.eId a.id, D.tup [.int 78, .int 0], eOp Le.eId a.ins, ePath a.path, .non] = eLn { a with hd := (78, 0) } := by
      show _ = D.tup [Le.eId a.id, Le.eId (78, 0), eOp Le.eId a.ins, ePath a.path, eOp eCt a.ct]
      rw [hc]
      rfl
    refine Eq.mpr (if_pos (by rw [hc]; rfl)) ?_
    rw [e4]
    refine wth { a with hd := (78, 0) } _ _ ?_
    refine ⟨by decide, ?_⟩
    exact end2 [_, _, _, _] (by simp) (fun w hw => by
      simp only [List.mem_cons, List.not_mem_nil, or_false] at hw
      rcases hw with rfl | rfl | rfl | rfl
      · exact w1
      · exact w2
      · exact w3
      · exact w4)
  · refine Eq.mpr (if_neg (by rw [hc]; simp)) ?_
    exact end2 [_, _, _] (by simp) (fun w hw => by
      simp only [List.mem_cons, List.not_mem_nil, or_false] at hw
      rcases hw with rfl | rfl | rfl
      · exact w1
      · exact w2
      · exact w3)
theorem ok_law_wrong {P : Program} {w : World} {K : PySem.W.Frag} {cl : Cl} {mg : Str → Option Value} {base : Heap} (D : Df K mg "_law_wrong" s_law_wrong ["lines", "k"]) (T : Txt K cl mg) (hw : cl.w = w) (G_law_with : C8.Cal P w K mg base 1 "_law_with" (spP K cl F_law_with) []) : C8.Cal P w K mg base 2 "_law_wrong" (spP K cl F_law_wrong) [] := by
  subst hw
  refine D.cal sc_law_wrong (spP_len (n := 2) len_law_wrong) (fun f cdv A outer s H vs Q E hr h => ?_)
  refine ⟨_,
    (pss_cons (ps_set (i := 2) sc_law_wrong.nd rfl (.inl rfl) (pe_ix (show IxR _ (uIx K) from uix) (pv 0) (pv 1) (fun _ _ => rfl)))
    (pss_cons (ps_set (i := 3) sc_law_wrong.nd rfl (.inl rfl) (pe_lst (pa_cons (C8.pe_c G_law_with hr (by decide) (by rfl) (pa_cons (pv 0) (pa_cons (pv 1) (pa_cons (pe_tup (pa_cons (pe_ix (show IxR _ (uIx K) from uix) (pv 2) pe_int (fun _ _ => rfl)) (pa_cons (pe_ix (show IxR _ (uIx K) from uix) (pv 2) pe_int (fun _ _ => rfl)) (pa_cons (pe_ix (show IxR _ (uIx K) from uix) (pv 2) pe_int (fun _ _ => rfl)) (pa_cons (pe_tup pa_nil) (pa_cons (pe_ix (show IxR _ (uIx K) from uix) (pv 2) pe_int (fun _ _ => rfl)) pa_nil)))))) pa_nil)))) pa_nil)))
    (pss_cons (ps_expr (pe_bm PySem.F.plainAttrs_list PySem.F.slot_list_append PySem.F.type_list_append mt_append (pv 3) (pa_cons (C8.pe_c G_law_with hr (by decide) (by rfl) (pa_cons (pv 0) (pa_cons (pv 1) (pa_cons (pe_tup (pa_cons (pe_ix (show IxR _ (uIx K) from uix) (pv 2) pe_int (fun _ _ => rfl)) (pa_cons (pe_ix (show IxR _ (uIx K) from uix) (pv 2) pe_int (fun _ _ => rfl)) (pa_cons (pe_tup (pa_cons pe_int (pa_cons pe_int pa_nil))) (pa_cons (pe_ix (show IxR _ (uIx K) from uix) (pv 2) pe_int (fun _ _ => rfl)) (pa_cons (pe_ix (show IxR _ (uIx K) from uix) (pv 2) pe_int (fun _ _ => rfl)) pa_nil)))))) pa_nil)))) pa_nil)))
    (pss_cons (ps_expr (pe_bm PySem.F.plainAttrs_list PySem.F.slot_list_append PySem.F.type_list_append mt_append (pv 3) (pa_cons (C8.pe_c G_law_with hr (by decide) (by rfl) (pa_cons (pv 0) (pa_cons (pv 1) (pa_cons (pe_tup (pa_cons (pe_ix (show IxR _ (uIx K) from uix) (pv 2) pe_int (fun _ _ => rfl)) (pa_cons (pe_ix (show IxR _ (uIx K) from uix) (pv 2) pe_int (fun _ _ => rfl)) (pa_cons (pe_ix (show IxR _ (uIx K) from uix) (pv 2) pe_int (fun _ _ => rfl)) (pa_cons (pe_ix (show IxR _ (uIx K) from uix) (pv 2) pe_int (fun _ _ => rfl)) (pa_cons (pe_ix (show IxR _ (uIx K) from uix) (pv 2) pe_int (fun _ _ => rfl)) pa_nil)))))) pa_nil)))) pa_nil)))
    (pss_cons (ps_if (pt_cmpR op_isN (pe_ix (show IxR _ (uIx K) from uix) (pv 2) pe_int (fun _ _ => rfl)) pe_non (nomark _))
      (pss_one (ps_expr (pe_bm PySem.F.plainAttrs_list PySem.F.slot_list_append PySem.F.type_list_append mt_append (pv 3) (pa_cons (C8.pe_c G_law_with hr (by decide) (by rfl) (pa_cons (pv 0) (pa_cons (pv 1) (pa_cons (pe_tup (pa_cons (pe_ix (show IxR _ (uIx K) from uix) (pv 2) pe_int (fun _ _ => rfl)) (pa_cons (pe_tup (pa_cons pe_int (pa_cons pe_int pa_nil))) (pa_cons (pe_ix (show IxR _ (uIx K) from uix) (pv 2) pe_int (fun _ _ => rfl)) (pa_cons (pe_ix (show IxR _ (uIx K) from uix) (pv 2) pe_int (fun _ _ => rfl)) (pa_cons pe_non pa_nil)))))) pa_nil)))) pa_nil))))
      pss_nil)
    (pss_cons (ps_if (pt_cmpR op_gt (pv 1) pe_int (nomark _))
      (pss_cons (ps_set (i := 4) sc_law_wrong.nd rfl (.inl rfl) (pe_ix (show IxR _ (uIx K) from uix) (pv 0) (pe_op op_sub (pv 1) pe_int) (fun _ _ => rfl)))
      (pss_cons (ps_expr (pe_bm PySem.F.plainAttrs_list PySem.F.slot_list_append PySem.F.type_list_append mt_append (pv 3) (pa_cons (pe_op (show OpR _ _ (uAdd K) from uop_add) (pe_op (show OpR _ _ (uAdd K) from uop_add) (pe_slice (show SlR _ (uSl K) from usl) (pv 0) po_none (po_some (pe_op op_sub (pv 1) pe_int))) (pe_lst (pa_cons (pv 2) (pa_cons (pv 4) pa_nil)))) (pe_slice (show SlR _ (uSl K) from usl) (pv 0) (po_some (pe_op (show OpR _ _ (uAdd K) from uop_add) (pv 1) pe_int)) po_none)) pa_nil)))
      (pss_cons (ps_expr (pe_bm PySem.F.plainAttrs_list PySem.F.slot_list_append PySem.F.type_list_append mt_append (pv 3) (pa_cons (C8.pe_c G_law_with hr (by decide) (by rfl) (pa_cons (pv 0) (pa_cons (pv 1) (pa_cons (pe_tup (pa_cons (pe_ix (show IxR _ (uIx K) from uix) (pv 2) pe_int (fun _ _ => rfl)) (pa_cons (pe_ix (show IxR _ (uIx K) from uix) (pv 4) pe_int (fun _ _ => rfl)) (pa_cons (pe_ix (show IxR _ (uIx K) from uix) (pv 2) pe_int (fun _ _ => rfl)) (pa_cons (pe_ix (show IxR _ (uIx K) from uix) (pv 2) pe_int (fun _ _ => rfl)) (pa_cons (pe_ix (show IxR _ (uIx K) from uix) (pv 2) pe_int (fun _ _ => rfl)) pa_nil)))))) pa_nil)))) pa_nil)))
      (pss_one (ps_if (pt_cmpR op_notN (pe_ix (show IxR _ (uIx K) from uix) (pv 4) pe_int (fun _ _ => rfl)) pe_non (nomark _))
        (pss_one (ps_expr (pe_bm PySem.F.plainAttrs_list PySem.F.slot_list_append PySem.F.type_list_append mt_append (pv 3) (pa_cons (C8.pe_c G_law_with hr (by decide) (by rfl) (pa_cons (pv 0) (pa_cons (pv 1) (pa_cons (pe_tup (pa_cons (pe_ix (show IxR _ (uIx K) from uix) (pv 2) pe_int (fun _ _ => rfl)) (pa_cons (pe_ix (show IxR _ (uIx K) from uix) (pv 2) pe_int (fun _ _ => rfl)) (pa_cons (pe_ix (show IxR _ (uIx K) from uix) (pv 4) pe_int (fun _ _ => rfl)) (pa_cons (pe_ix (show IxR _ (uIx K) from uix) (pv 2) pe_int (fun _ _ => rfl)) (pa_cons (pe_ix (show IxR _ (uIx K) from uix) (pv 2) pe_int (fun _ _ => rfl)) pa_nil)))))) pa_nil)))) pa_nil))))
        pss_nil)))))
      pss_nil)
    (pss_one (ps_ret (pv 3))))))))), ?_⟩
  exact fn_ok (N := ["lines", "k", "line", "wrong", "before"]) (show SmS K cl _ ps_law_wrong from
    (sm_seq (sm_asg (sm_op smr_ix sm_var sm_var) sm_gname)
    (sm_seq (sm_asg (sm_lstM (sm_cons (sm_call (sm_cons sm_var (sm_cons sm_var (sm_cons (sm_tup (sm_cons (sm_op smr_ix sm_var sm_int) (sm_cons (sm_op smr_ix sm_var sm_int) (sm_cons (sm_op smr_ix sm_var sm_int) (sm_cons (sm_tup sm_nil) (sm_cons (sm_op smr_ix sm_var sm_int) sm_nil)))))) sm_nil)))) sm_nil)) sm_gname)
    (sm_seq (sm_app sm_var (sm_call (sm_cons sm_var (sm_cons sm_var (sm_cons (sm_tup (sm_cons (sm_op smr_ix sm_var sm_int) (sm_cons (sm_op smr_ix sm_var sm_int) (sm_cons (sm_tup (sm_cons sm_int (sm_cons sm_int sm_nil))) (sm_cons (sm_op smr_ix sm_var sm_int) (sm_cons (sm_op smr_ix sm_var sm_int) sm_nil)))))) sm_nil)))))
    (sm_seq (sm_app sm_var (sm_call (sm_cons sm_var (sm_cons sm_var (sm_cons (sm_tup (sm_cons (sm_op smr_ix sm_var sm_int) (sm_cons (sm_op smr_ix sm_var sm_int) (sm_cons (sm_op smr_ix sm_var sm_int) (sm_cons (sm_op smr_ix sm_var sm_int) (sm_cons (sm_op smr_ix sm_var sm_int) sm_nil)))))) sm_nil)))))
    (sm_seq (sm_ifS (sm_test (sm_op smr_is (sm_op smr_ix sm_var sm_int) sm_non))
      ((sm_app sm_var (sm_call (sm_cons sm_var (sm_cons sm_var (sm_cons (sm_tup (sm_cons (sm_op smr_ix sm_var sm_int) (sm_cons (sm_tup (sm_cons sm_int (sm_cons sm_int sm_nil))) (sm_cons (sm_op smr_ix sm_var sm_int) (sm_cons (sm_op smr_ix sm_var sm_int) (sm_cons sm_non sm_nil)))))) sm_nil))))))
      sm_next)
    (sm_seq (sm_ifS (sm_test (sm_op smr_cmp sm_var sm_int))
      (sm_seq (sm_asg (sm_op smr_ix sm_var (sm_op smr_sub sm_var sm_int)) sm_gname)
      (sm_seq (sm_app sm_var (sm_op smr_add (sm_op smr_add (sm_sl sm_var sm_noPart (sm_part (sm_op smr_sub sm_var sm_int))) (sm_lst (sm_cons sm_var (sm_cons sm_var sm_nil)))) (sm_sl sm_var (sm_part (sm_op smr_add sm_var sm_int)) sm_noPart)))
      (sm_seq (sm_app sm_var (sm_call (sm_cons sm_var (sm_cons sm_var (sm_cons (sm_tup (sm_cons (sm_op smr_ix sm_var sm_int) (sm_cons (sm_op smr_ix sm_var sm_int) (sm_cons (sm_op smr_ix sm_var sm_int) (sm_cons (sm_op smr_ix sm_var sm_int) (sm_cons (sm_op smr_ix sm_var sm_int) sm_nil)))))) sm_nil)))))
      ((sm_ifS (sm_test (sm_op smr_ns (sm_op smr_ix sm_var sm_int) sm_non))
        ((sm_app sm_var (sm_call (sm_cons sm_var (sm_cons sm_var (sm_cons (sm_tup (sm_cons (sm_op smr_ix sm_var sm_int) (sm_cons (sm_op smr_ix sm_var sm_int) (sm_cons (sm_op smr_ix sm_var sm_int) (sm_cons (sm_op smr_ix sm_var sm_int) (sm_cons (sm_op smr_ix sm_var sm_int) sm_nil)))))) sm_nil))))))
        sm_next)))))
      sm_next)
    ((sm_ret sm_var))))))))) body_law_wrong h
/-! ### law_replaced -/
def ps_law_replaced : PSx :=
    (pSeq (pIfS (pB (pOp eqk (pOp ixk (pVar 0) (pC (.int 0))) (pC (.str (Str.ofString "move")))))
      ((pRet (pTup pNil)))
      pNext)
    ((pRet (pOp ixk (pVar 0) (pOp subk (pCB lenk (pCons (pVar 0) pNil)) (pC (.int 1)))))))
theorem start_law_replaced : ∀ a0 : D, startE 1 [a0] = [some a0] := fun _ => rfl
theorem s_dm : (Str.ofString "drop" = Str.ofString "move") = False := by simp only [eq_iff_iff, iff_false]; decide +kernel
def F_law_replaced : PFn := fun ds k => ∃ e : Edit, ds = [eEd e] ∧ k (eIds (repl e))
theorem len_law_replaced : ∀ ds k, F_law_replaced ds k → ds.length = 1 := by
  rintro _ k ⟨_, rfl, _⟩
  rfl
theorem body_law_replaced : ∀ ds k, F_law_replaced ds k → ps_law_replaced { nx := fun _ _ => k .non, rt := fun d S => (d.frz S).noRef = true ∧ k (d.frz S) } (startE 1 ds) [] := by
  rintro _ k ⟨e, rfl, hk⟩
  rw [start_law_replaced]
  unfold ps_law_replaced
  simp only [pSeq, pAsg, pVar, pC, pOp, pNil, pCons, pTup, pLst, pLstM, pNot, pAndV, pOrV, pIf, pB, pAnd, pOr, pNotT, pNoPart, pPart, pCB, pUnN, pSl, pNext, pBreak, pCont, pRet, pRetN, pDrop, pIfS, pgName, pgNil, pgCons, pgTup_t, pAug, pApp, pYes, isk_non, nsk_non, isN_non, isN_bl, isN_int, isN_str, isN_tup, isN_lst, isN_ref, isN_obj, pTru, pFld, pStar, pMake, pSetF, pIt, pRng1, pRng2, forG, List.map_cons, List.map_nil, List.getElem?_cons_zero, List.getElem?_cons_succ, List.set_cons_zero, List.set_cons_succ, Option.some.injEq, exists_eq_left, exists_eq_left', true_and, and_true, wipeE, D.bl.injEq, D.int.injEq, D.str.injEq, D.tup.injEq, D.lst.injEq, Bool.not_true, decide_eq_true_eq, if_true, if_false, reduceIte, Bool.false_eq_true, Option.isNone_none, Option.isNone_some, Bool.not_false, List.length_nil, List.length_cons, List.nil_append, List.cons_append, D.ref.injEq, SO.lst.injEq, pCall, exists_const, and_self, Nat.zero_add, Nat.zero_le, Nat.reduceLeDiff, Nat.reduceAdd, eq_self, o_add, o_sub, o_mul, o_div, o_mod, o_cmp, o_int, o_lenl, o_lent, o_lens, o_tupl, o_tupt, o_min, o_max, q_int, ixk_tup, ixk_lst, ixk_scr, at0, at1, at2, at3, at4, at5, List.length_map, ln0, ln1, ln2, ln3, ln4, lnS0, lnS2, lnS4, q_id, q_ido, q_oi, q_oid, q_path, q_ln, q_ls, n_id, n_path, n_ln, n_ls, non_oid, non_oln, non_oct, non_id, non_ln, non_ct, non_path, un_ln, un_pl, in_ids, ad_path, eOp_s, eOp_n, lstk_ls, st_ls, ed0, q_word]
  cases e with
  | write id pl ct meant hs =>
    simp only [pSeq, pAsg, pVar, pC, pOp, pNil, pCons, pTup, pLst, pLstM, pNot, pAndV, pOrV, pIf, pB, pAnd, pOr, pNotT, pNoPart, pPart, pCB, pUnN, pSl, pNext, pBreak, pCont, pRet, pRetN, pDrop, pIfS, pgName, pgNil, pgCons, pgTup_t, pAug, pApp, pYes, isk_non, nsk_non, isN_non, isN_bl, isN_int, isN_str, isN_tup, isN_lst, isN_ref, isN_obj, pTru, pFld, pStar, pMake, pSetF, pIt, pRng1, pRng2, forG, List.map_cons, List.map_nil, List.getElem?_cons_zero, List.getElem?_cons_succ, List.set_cons_zero, List.set_cons_succ, Option.some.injEq, exists_eq_left, exists_eq_left', true_and, and_true, wipeE, D.bl.injEq, D.int.injEq, D.str.injEq, D.tup.injEq, D.lst.injEq, Bool.not_true, decide_eq_true_eq, if_true, if_false, reduceIte, Bool.false_eq_true, Option.isNone_none, Option.isNone_some, Bool.not_false, List.length_nil, List.length_cons, List.nil_append, List.cons_append, D.ref.injEq, SO.lst.injEq, pCall, exists_const, and_self, Nat.zero_add, Nat.zero_le, Nat.reduceLeDiff, Nat.reduceAdd, eq_self, o_add, o_sub, o_mul, o_div, o_mod, o_cmp, o_int, o_lenl, o_lent, o_lens, o_tupl, o_tupt, o_min, o_max, q_int, ixk_tup, ixk_lst, ixk_scr, at0, at1, at2, at3, at4, at5, List.length_map, ln0, ln1, ln2, ln3, ln4, lnS0, lnS2, lnS4, q_id, q_ido, q_oi, q_oid, q_path, q_ln, q_ls, n_id, n_path, n_ln, n_ls, non_oid, non_oln, non_oct, non_id, non_ln, non_ct, non_path, un_ln, un_pl, in_ids, ad_path, eOp_s, eOp_n, lstk_ls, st_ls, w_wm, eEd]
    exact ⟨_, rfl, rt_pure (pu_idst _) hk⟩
  | drop id hs =>
    simp only [pSeq, pAsg, pVar, pC, pOp, pNil, pCons, pTup, pLst, pLstM, pNot, pAndV, pOrV, pIf, pB, pAnd, pOr, pNotT, pNoPart, pPart, pCB, pUnN, pSl, pNext, pBreak, pCont, pRet, pRetN, pDrop, pIfS, pgName, pgNil, pgCons, pgTup_t, pAug, pApp, pYes, isk_non, nsk_non, isN_non, isN_bl, isN_int, isN_str, isN_tup, isN_lst, isN_ref, isN_obj, pTru, pFld, pStar, pMake, pSetF, pIt, pRng1, pRng2, forG, List.map_cons, List.map_nil, List.getElem?_cons_zero, List.getElem?_cons_succ, List.set_cons_zero, List.set_cons_succ, Option.some.injEq, exists_eq_left, exists_eq_left', true_and, and_true, wipeE, D.bl.injEq, D.int.injEq, D.str.injEq, D.tup.injEq, D.lst.injEq, Bool.not_true, decide_eq_true_eq, if_true, if_false, reduceIte, Bool.false_eq_true, Option.isNone_none, Option.isNone_some, Bool.not_false, List.length_nil, List.length_cons, List.nil_append, List.cons_append, D.ref.injEq, SO.lst.injEq, pCall, exists_const, and_self, Nat.zero_add, Nat.zero_le, Nat.reduceLeDiff, Nat.reduceAdd, eq_self, o_add, o_sub, o_mul, o_div, o_mod, o_cmp, o_int, o_lenl, o_lent, o_lens, o_tupl, o_tupt, o_min, o_max, q_int, ixk_tup, ixk_lst, ixk_scr, at0, at1, at2, at3, at4, at5, List.length_map, ln0, ln1, ln2, ln3, ln4, lnS0, lnS2, lnS4, q_id, q_ido, q_oi, q_oid, q_path, q_ln, q_ls, n_id, n_path, n_ln, n_ls, non_oid, non_oln, non_oct, non_id, non_ln, non_ct, non_path, un_ln, un_pl, in_ids, ad_path, eOp_s, eOp_n, lstk_ls, st_ls, s_dm, eEd]
    exact ⟨_, rfl, rt_pure (pu_idst _) hk⟩
  | move id ms =>
    simp only [pSeq, pAsg, pVar, pC, pOp, pNil, pCons, pTup, pLst, pLstM, pNot, pAndV, pOrV, pIf, pB, pAnd, pOr, pNotT, pNoPart, pPart, pCB, pUnN, pSl, pNext, pBreak, pCont, pRet, pRetN, pDrop, pIfS, pgName, pgNil, pgCons, pgTup_t, pAug, pApp, pYes, isk_non, nsk_non, isN_non, isN_bl, isN_int, isN_str, isN_tup, isN_lst, isN_ref, isN_obj, pTru, pFld, pStar, pMake, pSetF, pIt, pRng1, pRng2, forG, List.map_cons, List.map_nil, List.getElem?_cons_zero, List.getElem?_cons_succ, List.set_cons_zero, List.set_cons_succ, Option.some.injEq, exists_eq_left, exists_eq_left', true_and, and_true, wipeE, D.bl.injEq, D.int.injEq, D.str.injEq, D.tup.injEq, D.lst.injEq, Bool.not_true, decide_eq_true_eq, if_true, if_false, reduceIte, Bool.false_eq_true, Option.isNone_none, Option.isNone_some, Bool.not_false, List.length_nil, List.length_cons, List.nil_append, List.cons_append, D.ref.injEq, SO.lst.injEq, pCall, exists_const, and_self, Nat.zero_add, Nat.zero_le, Nat.reduceLeDiff, Nat.reduceAdd, eq_self, o_add, o_sub, o_mul, o_div, o_mod, o_cmp, o_int, o_lenl, o_lent, o_lens, o_tupl, o_tupt, o_min, o_max, q_int, ixk_tup, ixk_lst, ixk_scr, at0, at1, at2, at3, at4, at5, List.length_map, ln0, ln1, ln2, ln3, ln4, lnS0, lnS2, lnS4, q_id, q_ido, q_oi, q_oid, q_path, q_ln, q_ls, n_id, n_path, n_ln, n_ls, non_oid, non_oln, non_oct, non_id, non_ln, non_ct, non_path, un_ln, un_pl, in_ids, ad_path, eOp_s, eOp_n, lstk_ls, st_ls, w_mm]
    exact rt_pure (d := eIds []) (pu_idst _) hk
theorem ok_law_replaced {P : Program} {w : World} {K : PySem.W.Frag} {cl : Cl} {mg : Str → Option Value} {base : Heap} (D : Df K mg "_law_replaced" s_law_replaced ["edit"]) (T : Txt K cl mg) (hw : cl.w = w)  : C8.Cal P w K mg base 1 "_law_replaced" (spP K cl F_law_replaced) [] := by
  subst hw
  refine D.cal sc_law_replaced (spP_len (n := 1) len_law_replaced) (fun f cdv A outer s H vs Q E hr h => ?_)
  refine ⟨_,
    (pss_cons (ps_if (pt_cmpR (show OpR _ _ (rEqP K) from op_eqP hr.units) (pe_ix (show IxR _ (uIx K) from uix) (pv 0) pe_int (fun _ _ => rfl)) pe_str (nomark _))
      (pss_one (ps_ret (pe_tup pa_nil)))
      pss_nil)
    (pss_one (ps_ret (pe_ix (show IxR _ (uIx K) from uix) (pv 0) (pe_op op_sub (pe_callB (show CallR _ (.builtin "len") (uLen K) from ucall_len) (by rfl) T.n_len PySem.boot_len (pa_cons (pv 0) pa_nil)) pe_int) (fun _ _ => rfl))))), ?_⟩
  exact fn_ok (N := ["edit"]) (show SmS K cl _ ps_law_replaced from
    (sm_seq (sm_ifS (sm_test (sm_op smr_eq (sm_op smr_ix sm_var sm_int) sm_str))
      ((sm_ret (sm_tup sm_nil)))
      sm_next)
    ((sm_ret (sm_op smr_ix sm_var (sm_op smr_sub (sm_cb smc_len (sm_cons sm_var sm_nil)) sm_int)))))) body_law_replaced h
/-! ### law -/
theorem ed1 {S : Sto} {e : Edit} {k : D → Prop} : ixk S (eEd e) (.int 1) k = k (Le.eId (Ln.eId e)) := by
  cases e <;> (unfold eEd; rw [ixk_tup, at1]; simp [Ln.eId])
theorem w_ww : (Str.ofString "write" = Str.ofString "write") = True := by simp
theorem w_dw : (Str.ofString "drop" = Str.ofString "write") = False := by simp only [eq_iff_iff, iff_false]; decide +kernel
theorem w_mw : (Str.ofString "move" = Str.ofString "write") = False := by simp only [eq_iff_iff, iff_false]; decide +kernel
def pl_law_1 : PSx :=
      (pSeq (pAsg (pCall F_lines_after (pCons (pVar 1) (pCons (pVar 2) pNil))) (pgName 1))
      (pSeq (pAsg (pLc (pIt (pVar 1)) (pgName 6) pYes (pOp ixk (pVar 6) (pC (.int 1))) [6]) (pgName 3))
      (pSeq (pIfS (pOr (pNotT (pB (pCall F_lines_sound (pCons (pVar 1) pNil)))) (pTru (pCB anyk (pCons (pLc (pIt (pCall F_law_replaced (pCons (pVar 2) pNil))) (pgName 7) pYes (pOp ink (pVar 7) (pVar 3)) [7]) pNil))))
        ((pRet (pC (.bl false))))
        pNext)
      ((pIfS (pAnd (pB (pOp eqk (pOp ixk (pVar 2) (pC (.int 0))) (pC (.str (Str.ofString "write"))))) (pB (pOp nik (pOp ixk (pVar 2) (pC (.int 1))) (pVar 3))))
        ((pRet (pC (.bl false))))
        pNext)))))
theorem pl_law_1_d (P : PEnds) (env : Pw.Env) (S : Sto) : pl_law_1 P env S = (
      (pSeq (pAsg (pCall F_lines_after (pCons (pVar 1) (pCons (pVar 2) pNil))) (pgName 1))
      (pSeq (pAsg (pLc (pIt (pVar 1)) (pgName 6) pYes (pOp ixk (pVar 6) (pC (.int 1))) [6]) (pgName 3))
      (pSeq (pIfS (pOr (pNotT (pB (pCall F_lines_sound (pCons (pVar 1) pNil)))) (pTru (pCB anyk (pCons (pLc (pIt (pCall F_law_replaced (pCons (pVar 2) pNil))) (pgName 7) pYes (pOp ink (pVar 7) (pVar 3)) [7]) pNil))))
        ((pRet (pC (.bl false))))
        pNext)
      ((pIfS (pAnd (pB (pOp eqk (pOp ixk (pVar 2) (pC (.int 0))) (pC (.str (Str.ofString "write"))))) (pB (pOp nik (pOp ixk (pVar 2) (pC (.int 1))) (pVar 3))))
        ((pRet (pC (.bl false))))
        pNext)))))) P env S := rfl
def pl_law_2 : PSx :=
        ((pIfS (pB (pCall F_lines_sound (pCons (pVar 5) pNil)))
          ((pRet (pC (.bl false))))
          pNext))
theorem pl_law_2_d (P : PEnds) (env : Pw.Env) (S : Sto) : pl_law_2 P env S = (
        ((pIfS (pB (pCall F_lines_sound (pCons (pVar 5) pNil)))
          ((pRet (pC (.bl false))))
          pNext))) P env S := rfl
def pl_law_3 : PSx :=
      ((pFor (pIt (pCall F_law_wrong (pCons (pVar 1) (pCons (pVar 4) pNil)))) (pgName 5) pl_law_2))
theorem pl_law_3_d (P : PEnds) (env : Pw.Env) (S : Sto) : pl_law_3 P env S = (
      ((pFor (pIt (pCall F_law_wrong (pCons (pVar 1) (pCons (pVar 4) pNil)))) (pgName 5) pl_law_2))) P env S := rfl
def ps_law : PSx :=
    (pSeq (pAsg (pLst pNil) (pgName 1))
    (pSeq (pFor (pIt (pCall F_law_edits (pCons (pVar 0) (pCons (pC (.int 22)) pNil)))) (pgName 2) pl_law_1)
    (pSeq (pFor (pRng1 (pCons (pCB lenk (pCons (pVar 1) pNil)) pNil)) (pgName 4) pl_law_3)
    ((pRet (pCall F_lines_sound (pCons (pTup pNil) pNil)))))))
theorem start_law : ∀ a0 : D, startE 8 [a0] = [some a0, none, none, none, none, none, none, none] := fun _ => rfl
def edAt (rs : List Int) (k : Nat) : Edit := editF (rs.getD k 0) (idAt k) (idsTo k)
theorem loop_law1 (rs : List Int) (c0 : Option D) (S : Sto) (P : PEnds) : ∀ (n j : Nat) (ls : List Line) (U : List Ln.Id) (x2 x3 x6 : Option D), j + n = 22 → Ok ls U → U.length ≤ j → (∀ x ∈ U, x ∈ idsTo j) → (ls.map (·.id)).Sublist (idsTo j) →
    (∀ ls U x2 x3 x6, Ok ls U → U.length ≤ 22 → (ls.map (·.id)).Sublist (idsTo 22) → P.nx [c0, some (eLs ls), x2, x3, none, none, x6, none] S) →
    forG (pgName 2) pl_law_1 P ((List.range' j n).map fun (k : Nat) => eEd (edAt rs k)) [c0, some (eLs ls), x2, x3, none, none, x6, none] S := by
  intro n
  induction n with
  | zero =>
    intro j ls U x2 x3 x6 hj hO hUl _ hs h
    have : j = 22 := by omega
    subst this
    exact h ls U x2 x3 x6 hO hUl hs
  | succ n ih =>
    intro j ls U x2 x3 x6 hj hO hUl hUm hs h
    rw [List.range'_succ]
    have hid : Ln.eId (edAt rs j) = idAt j := editF_id _ _ _
    have hnU : Ln.eId (edAt rs j) ∉ U := by
      rw [hid]
      exact fun z => idAt_not j (hUm _ z)
    have hgood : GoodEd (edAt rs j) := editF_good _ _ _
    have hhd : HdOk (edAt rs j) := editF_hd (idAt_not j)
    obtain ⟨ls', hA, hO'⟩ := hO.edit (by omega) hnU hgood
    have hs' : (ls'.map (·.id)).Sublist (idsTo (j + 1)) := by
      rw [idsTo_up]
      have := aft_sub hA
      rw [hid] at this
      exact this.trans (hs.append_right _)
    have hsp := hO'.sound hs'
    obtain ⟨g1, g2⟩ := aft_hds hO hnU hgood hhd hA
    have hll : ls'.length ≤ 1000 := by
      have := hO'.short (by rw [List.length_cons]; omega)
      exact this.1
    have go : ∀ x2 x3 x6, forG (pgName 2) pl_law_1 P ((List.range' (j + 1) n).map fun (k : Nat) => eEd (edAt rs k)) [c0, some (eLs ls'), x2, x3, none, none, x6, none] S := fun x2 x3 x6 => ih (j + 1) ls' _ x2 x3 x6 (by omega) hO' (by rw [List.length_cons]; omega) (fun x hx => by
      rw [idsTo_up]
      rcases List.mem_cons.mp hx with hx | hx
      · rw [hx, hid]
        exact List.mem_append_right _ (List.mem_singleton_self _)
      · exact List.mem_append_left _ (hUm x hx)) hs' h
    simp only [pSeq, pAsg, pVar, pC, pOp, pNil, pCons, pTup, pLst, pLstM, pNot, pAndV, pOrV, pIf, pB, pAnd, pOr, pNotT, pNoPart, pPart, pCB, pUnN, pSl, pNext, pBreak, pCont, pRet, pRetN, pDrop, pIfS, pgName, pgNil, pgCons, pgTup_t, pAug, pApp, pYes, isk_non, nsk_non, isN_non, isN_bl, isN_int, isN_str, isN_tup, isN_lst, isN_ref, isN_obj, pTru, pFld, pStar, pMake, pSetF, pIt, pRng1, pRng2, forG, List.map_cons, List.map_nil, List.getElem?_cons_zero, List.getElem?_cons_succ, List.set_cons_zero, List.set_cons_succ, Option.some.injEq, exists_eq_left, exists_eq_left', true_and, and_true, wipeE, D.bl.injEq, D.int.injEq, D.str.injEq, D.tup.injEq, D.lst.injEq, Bool.not_true, decide_eq_true_eq, if_true, if_false, reduceIte, Bool.false_eq_true, Option.isNone_none, Option.isNone_some, Bool.not_false, List.length_nil, List.length_cons, List.nil_append, List.cons_append, D.ref.injEq, SO.lst.injEq, pCall, exists_const, and_self, Nat.zero_add, Nat.zero_le, Nat.reduceLeDiff, Nat.reduceAdd, eq_self, o_add, o_sub, o_mul, o_div, o_mod, o_cmp, o_int, o_lenl, o_lent, o_lens, o_tupl, o_tupt, o_min, o_max, q_int, ixk_tup, ixk_lst, ixk_scr, at0, at1, at2, at3, at4, at5, List.length_map, ln0, ln1, ln2, ln3, ln4, lnS0, lnS2, lnS4, q_id, q_ido, q_oi, q_oid, q_path, q_ln, q_ls, n_id, n_path, n_ln, n_ls, non_oid, non_oln, non_oct, non_id, non_ln, non_ct, non_path, un_ln, un_pl, in_ids, ad_path, eOp_s, eOp_n, lstk_ls, st_ls, pl_law_1_d]
    refine call_of (by simp only [pureAll, pu_ls, pu_lsl, pu_oid, pu_id, pu_ln, pu_oln, pu_pl, pu_ed, pu_eds, pu_idst, pu_path, pu_oct, pu_mv, pu_mvs, pu_str, pu_int, pu_bl, pu_non, eOp_s, eOp_n, Bool.and_self]) ⟨ls, _, ls', rfl, hA, ?_⟩
    refine lc_go (src := eLs ls') (as := ls') (enc := eLn) (fun _ => true) (fun l => Le.eId l.hd) (fun kk h => ⟨_, rfl, _, rfl, h⟩) (fun _ => rfl) (by omega) (fun a ha k2 k3 h => ?_) ?_
    · rw [if_pos rfl] at h
      simp only [pSeq, pAsg, pVar, pC, pOp, pNil, pCons, pTup, pLst, pLstM, pNot, pAndV, pOrV, pIf, pB, pAnd, pOr, pNotT, pNoPart, pPart, pCB, pUnN, pSl, pNext, pBreak, pCont, pRet, pRetN, pDrop, pIfS, pgName, pgNil, pgCons, pgTup_t, pAug, pApp, pYes, isk_non, nsk_non, isN_non, isN_bl, isN_int, isN_str, isN_tup, isN_lst, isN_ref, isN_obj, pTru, pFld, pStar, pMake, pSetF, pIt, pRng1, pRng2, forG, List.map_cons, List.map_nil, List.getElem?_cons_zero, List.getElem?_cons_succ, List.set_cons_zero, List.set_cons_succ, Option.some.injEq, exists_eq_left, exists_eq_left', true_and, and_true, wipeE, D.bl.injEq, D.int.injEq, D.str.injEq, D.tup.injEq, D.lst.injEq, Bool.not_true, decide_eq_true_eq, if_true, if_false, reduceIte, Bool.false_eq_true, Option.isNone_none, Option.isNone_some, Bool.not_false, List.length_nil, List.length_cons, List.nil_append, List.cons_append, D.ref.injEq, SO.lst.injEq, pCall, exists_const, and_self, Nat.zero_add, Nat.zero_le, Nat.reduceLeDiff, Nat.reduceAdd, eq_self, o_add, o_sub, o_mul, o_div, o_mod, o_cmp, o_int, o_lenl, o_lent, o_lens, o_tupl, o_tupt, o_min, o_max, q_int, ixk_tup, ixk_lst, ixk_scr, at0, at1, at2, at3, at4, at5, List.length_map, ln0, ln1, ln2, ln3, ln4, lnS0, lnS2, lnS4, q_id, q_ido, q_oi, q_oid, q_path, q_ln, q_ls, n_id, n_path, n_ln, n_ls, non_oid, non_oln, non_oct, non_id, non_ln, non_ct, non_path, un_ln, un_pl, in_ids, ad_path, eOp_s, eOp_n, lstk_ls, st_ls]
      exact h
    rw [flt_all]
    have e1 : ls'.map (fun l => Le.eId l.hd) = (ls'.map (·.hd)).map Le.eId := by rw [List.map_map]; rfl
    rw [e1]
    refine call_of (by simp only [pureAll, pu_ls, pu_lsl, pu_oid, pu_id, pu_ln, pu_oln, pu_pl, pu_ed, pu_eds, pu_idst, pu_path, pu_oct, pu_mv, pu_mvs, pu_str, pu_int, pu_bl, pu_non, eOp_s, eOp_n, Bool.and_self]) ⟨_, ls', rfl, .inl rfl, hll, fun b hb => ?_⟩
    have : b = true := hb.mpr hsp
    subst this
    simp only [pSeq, pAsg, pVar, pC, pOp, pNil, pCons, pTup, pLst, pLstM, pNot, pAndV, pOrV, pIf, pB, pAnd, pOr, pNotT, pNoPart, pPart, pCB, pUnN, pSl, pNext, pBreak, pCont, pRet, pRetN, pDrop, pIfS, pgName, pgNil, pgCons, pgTup_t, pAug, pApp, pYes, isk_non, nsk_non, isN_non, isN_bl, isN_int, isN_str, isN_tup, isN_lst, isN_ref, isN_obj, pTru, pFld, pStar, pMake, pSetF, pIt, pRng1, pRng2, forG, List.map_cons, List.map_nil, List.getElem?_cons_zero, List.getElem?_cons_succ, List.set_cons_zero, List.set_cons_succ, Option.some.injEq, exists_eq_left, exists_eq_left', true_and, and_true, wipeE, D.bl.injEq, D.int.injEq, D.str.injEq, D.tup.injEq, D.lst.injEq, Bool.not_true, decide_eq_true_eq, if_true, if_false, reduceIte, Bool.false_eq_true, Option.isNone_none, Option.isNone_some, Bool.not_false, List.length_nil, List.length_cons, List.nil_append, List.cons_append, D.ref.injEq, SO.lst.injEq, pCall, exists_const, and_self, Nat.zero_add, Nat.zero_le, Nat.reduceLeDiff, Nat.reduceAdd, eq_self, o_add, o_sub, o_mul, o_div, o_mod, o_cmp, o_int, o_lenl, o_lent, o_lens, o_tupl, o_tupt, o_min, o_max, q_int, ixk_tup, ixk_lst, ixk_scr, at0, at1, at2, at3, at4, at5, List.length_map, ln0, ln1, ln2, ln3, ln4, lnS0, lnS2, lnS4, q_id, q_ido, q_oi, q_oid, q_path, q_ln, q_ls, n_id, n_path, n_ln, n_ls, non_oid, non_oln, non_oct, non_id, non_ln, non_ct, non_path, un_ln, un_pl, in_ids, ad_path, eOp_s, eOp_n, lstk_ls, st_ls]
    refine lc_go (src := eIds (repl (edAt rs j))) (as := repl (edAt rs j)) (enc := Le.eId) (fun _ => true) (fun h => .bl (decide (h ∈ ls'.map (·.hd)))) (fun kk h => ?_) (fun _ => rfl) ?_ (fun a ha k2 k3 h => ?_) ?_
    · simp only [pSeq, pAsg, pVar, pC, pOp, pNil, pCons, pTup, pLst, pLstM, pNot, pAndV, pOrV, pIf, pB, pAnd, pOr, pNotT, pNoPart, pPart, pCB, pUnN, pSl, pNext, pBreak, pCont, pRet, pRetN, pDrop, pIfS, pgName, pgNil, pgCons, pgTup_t, pAug, pApp, pYes, isk_non, nsk_non, isN_non, isN_bl, isN_int, isN_str, isN_tup, isN_lst, isN_ref, isN_obj, pTru, pFld, pStar, pMake, pSetF, pIt, pRng1, pRng2, forG, List.map_cons, List.map_nil, List.getElem?_cons_zero, List.getElem?_cons_succ, List.set_cons_zero, List.set_cons_succ, Option.some.injEq, exists_eq_left, exists_eq_left', true_and, and_true, wipeE, D.bl.injEq, D.int.injEq, D.str.injEq, D.tup.injEq, D.lst.injEq, Bool.not_true, decide_eq_true_eq, if_true, if_false, reduceIte, Bool.false_eq_true, Option.isNone_none, Option.isNone_some, Bool.not_false, List.length_nil, List.length_cons, List.nil_append, List.cons_append, D.ref.injEq, SO.lst.injEq, pCall, exists_const, and_self, Nat.zero_add, Nat.zero_le, Nat.reduceLeDiff, Nat.reduceAdd, eq_self, o_add, o_sub, o_mul, o_div, o_mod, o_cmp, o_int, o_lenl, o_lent, o_lens, o_tupl, o_tupt, o_min, o_max, q_int, ixk_tup, ixk_lst, ixk_scr, at0, at1, at2, at3, at4, at5, List.length_map, ln0, ln1, ln2, ln3, ln4, lnS0, lnS2, lnS4, q_id, q_ido, q_oi, q_oid, q_path, q_ln, q_ls, n_id, n_path, n_ln, n_ls, non_oid, non_oln, non_oct, non_id, non_ln, non_ct, non_path, un_ln, un_pl, in_ids, ad_path, eOp_s, eOp_n, lstk_ls, st_ls]
      exact call_of (by simp only [pureAll, pu_ls, pu_lsl, pu_oid, pu_id, pu_ln, pu_oln, pu_pl, pu_ed, pu_eds, pu_idst, pu_path, pu_oct, pu_mv, pu_mvs, pu_str, pu_int, pu_bl, pu_non, eOp_s, eOp_n, Bool.and_self]) ⟨_, rfl, _, rfl, h⟩
    · have : ∀ e : Edit, GoodEd e → True := fun _ _ => trivial
      have hr : (repl (edAt rs j)).length ≤ 3 := by
        unfold edAt editF
        split
        · exact headsA_len _ _
        · split
          · exact headsA_len _ _
          · split
            · exact headsA_len _ _
            · exact Nat.zero_le _
      omega
    · rw [if_pos rfl] at h
      simp only [pSeq, pAsg, pVar, pC, pOp, pNil, pCons, pTup, pLst, pLstM, pNot, pAndV, pOrV, pIf, pB, pAnd, pOr, pNotT, pNoPart, pPart, pCB, pUnN, pSl, pNext, pBreak, pCont, pRet, pRetN, pDrop, pIfS, pgName, pgNil, pgCons, pgTup_t, pAug, pApp, pYes, isk_non, nsk_non, isN_non, isN_bl, isN_int, isN_str, isN_tup, isN_lst, isN_ref, isN_obj, pTru, pFld, pStar, pMake, pSetF, pIt, pRng1, pRng2, forG, List.map_cons, List.map_nil, List.getElem?_cons_zero, List.getElem?_cons_succ, List.set_cons_zero, List.set_cons_succ, Option.some.injEq, exists_eq_left, exists_eq_left', true_and, and_true, wipeE, D.bl.injEq, D.int.injEq, D.str.injEq, D.tup.injEq, D.lst.injEq, Bool.not_true, decide_eq_true_eq, if_true, if_false, reduceIte, Bool.false_eq_true, Option.isNone_none, Option.isNone_some, Bool.not_false, List.length_nil, List.length_cons, List.nil_append, List.cons_append, D.ref.injEq, SO.lst.injEq, pCall, exists_const, and_self, Nat.zero_add, Nat.zero_le, Nat.reduceLeDiff, Nat.reduceAdd, eq_self, o_add, o_sub, o_mul, o_div, o_mod, o_cmp, o_int, o_lenl, o_lent, o_lens, o_tupl, o_tupt, o_min, o_max, q_int, ixk_tup, ixk_lst, ixk_scr, at0, at1, at2, at3, at4, at5, List.length_map, ln0, ln1, ln2, ln3, ln4, lnS0, lnS2, lnS4, q_id, q_ido, q_oi, q_oid, q_path, q_ln, q_ls, n_id, n_path, n_ln, n_ls, non_oid, non_oln, non_oct, non_id, non_ln, non_ct, non_path, un_ln, un_pl, in_ids, ad_path, eOp_s, eOp_n, lstk_ls, st_ls, in_lst]
      exact h
    rw [flt_all]
    have e2 : ((repl (edAt rs j)).map fun h => D.bl (decide (h ∈ ls'.map (·.hd)))) = ((repl (edAt rs j)).map fun h => decide (h ∈ ls'.map (·.hd))).map D.bl := by rw [List.map_map]; rfl
    refine ⟨_, _, rfl, by rw [e2]; rfl, ?_⟩
    have e3 : ((repl (edAt rs j)).map fun h => decide (h ∈ ls'.map (·.hd))).any id = false := by
      rw [List.any_map, List.any_eq_false]
      intro x hx z
      exact g1 x hx (of_decide_eq_true z)
    rw [e3]
    simp only [pSeq, pAsg, pVar, pC, pOp, pNil, pCons, pTup, pLst, pLstM, pNot, pAndV, pOrV, pIf, pB, pAnd, pOr, pNotT, pNoPart, pPart, pCB, pUnN, pSl, pNext, pBreak, pCont, pRet, pRetN, pDrop, pIfS, pgName, pgNil, pgCons, pgTup_t, pAug, pApp, pYes, isk_non, nsk_non, isN_non, isN_bl, isN_int, isN_str, isN_tup, isN_lst, isN_ref, isN_obj, pTru, pFld, pStar, pMake, pSetF, pIt, pRng1, pRng2, forG, List.map_cons, List.map_nil, List.getElem?_cons_zero, List.getElem?_cons_succ, List.set_cons_zero, List.set_cons_succ, Option.some.injEq, exists_eq_left, exists_eq_left', true_and, and_true, wipeE, D.bl.injEq, D.int.injEq, D.str.injEq, D.tup.injEq, D.lst.injEq, Bool.not_true, decide_eq_true_eq, if_true, if_false, reduceIte, Bool.false_eq_true, Option.isNone_none, Option.isNone_some, Bool.not_false, List.length_nil, List.length_cons, List.nil_append, List.cons_append, D.ref.injEq, SO.lst.injEq, pCall, exists_const, and_self, Nat.zero_add, Nat.zero_le, Nat.reduceLeDiff, Nat.reduceAdd, eq_self, o_add, o_sub, o_mul, o_div, o_mod, o_cmp, o_int, o_lenl, o_lent, o_lens, o_tupl, o_tupt, o_min, o_max, q_int, ixk_tup, ixk_lst, ixk_scr, at0, at1, at2, at3, at4, at5, List.length_map, ln0, ln1, ln2, ln3, ln4, lnS0, lnS2, lnS4, q_id, q_ido, q_oi, q_oid, q_path, q_ln, q_ls, n_id, n_path, n_ln, n_ls, non_oid, non_oln, non_oct, non_id, non_ln, non_ct, non_path, un_ln, un_pl, in_ids, ad_path, eOp_s, eOp_n, lstk_ls, st_ls, tru_bl, ed0, q_word]
    generalize he : edAt rs j = e at g2 ⊢
    cases e with
    | write id pl ct meant hs =>
      have := g2 id pl ct meant hs rfl
      simp only [pSeq, pAsg, pVar, pC, pOp, pNil, pCons, pTup, pLst, pLstM, pNot, pAndV, pOrV, pIf, pB, pAnd, pOr, pNotT, pNoPart, pPart, pCB, pUnN, pSl, pNext, pBreak, pCont, pRet, pRetN, pDrop, pIfS, pgName, pgNil, pgCons, pgTup_t, pAug, pApp, pYes, isk_non, nsk_non, isN_non, isN_bl, isN_int, isN_str, isN_tup, isN_lst, isN_ref, isN_obj, pTru, pFld, pStar, pMake, pSetF, pIt, pRng1, pRng2, forG, List.map_cons, List.map_nil, List.getElem?_cons_zero, List.getElem?_cons_succ, List.set_cons_zero, List.set_cons_succ, Option.some.injEq, exists_eq_left, exists_eq_left', true_and, and_true, wipeE, D.bl.injEq, D.int.injEq, D.str.injEq, D.tup.injEq, D.lst.injEq, Bool.not_true, decide_eq_true_eq, if_true, if_false, reduceIte, Bool.false_eq_true, Option.isNone_none, Option.isNone_some, Bool.not_false, List.length_nil, List.length_cons, List.nil_append, List.cons_append, D.ref.injEq, SO.lst.injEq, pCall, exists_const, and_self, Nat.zero_add, Nat.zero_le, Nat.reduceLeDiff, Nat.reduceAdd, eq_self, o_add, o_sub, o_mul, o_div, o_mod, o_cmp, o_int, o_lenl, o_lent, o_lens, o_tupl, o_tupt, o_min, o_max, q_int, ixk_tup, ixk_lst, ixk_scr, at0, at1, at2, at3, at4, at5, List.length_map, ln0, ln1, ln2, ln3, ln4, lnS0, lnS2, lnS4, q_id, q_ido, q_oi, q_oid, q_path, q_ln, q_ls, n_id, n_path, n_ln, n_ls, non_oid, non_oln, non_oct, non_id, non_ln, non_ct, non_path, un_ln, un_pl, in_ids, ad_path, eOp_s, eOp_n, lstk_ls, st_ls, w_ww, ed1, ni_lst, decide_true]
      rw [if_neg (by simpa [Ln.eId] using this)]
      exact go _ _ _
    | drop id hs =>
      simp only [pSeq, pAsg, pVar, pC, pOp, pNil, pCons, pTup, pLst, pLstM, pNot, pAndV, pOrV, pIf, pB, pAnd, pOr, pNotT, pNoPart, pPart, pCB, pUnN, pSl, pNext, pBreak, pCont, pRet, pRetN, pDrop, pIfS, pgName, pgNil, pgCons, pgTup_t, pAug, pApp, pYes, isk_non, nsk_non, isN_non, isN_bl, isN_int, isN_str, isN_tup, isN_lst, isN_ref, isN_obj, pTru, pFld, pStar, pMake, pSetF, pIt, pRng1, pRng2, forG, List.map_cons, List.map_nil, List.getElem?_cons_zero, List.getElem?_cons_succ, List.set_cons_zero, List.set_cons_succ, Option.some.injEq, exists_eq_left, exists_eq_left', true_and, and_true, wipeE, D.bl.injEq, D.int.injEq, D.str.injEq, D.tup.injEq, D.lst.injEq, Bool.not_true, decide_eq_true_eq, if_true, if_false, reduceIte, Bool.false_eq_true, Option.isNone_none, Option.isNone_some, Bool.not_false, List.length_nil, List.length_cons, List.nil_append, List.cons_append, D.ref.injEq, SO.lst.injEq, pCall, exists_const, and_self, Nat.zero_add, Nat.zero_le, Nat.reduceLeDiff, Nat.reduceAdd, eq_self, o_add, o_sub, o_mul, o_div, o_mod, o_cmp, o_int, o_lenl, o_lent, o_lens, o_tupl, o_tupt, o_min, o_max, q_int, ixk_tup, ixk_lst, ixk_scr, at0, at1, at2, at3, at4, at5, List.length_map, ln0, ln1, ln2, ln3, ln4, lnS0, lnS2, lnS4, q_id, q_ido, q_oi, q_oid, q_path, q_ln, q_ls, n_id, n_path, n_ln, n_ls, non_oid, non_oln, non_oct, non_id, non_ln, non_ct, non_path, un_ln, un_pl, in_ids, ad_path, eOp_s, eOp_n, lstk_ls, st_ls, w_dw, decide_false]
      exact go _ _ _
    | move id ms =>
      simp only [pSeq, pAsg, pVar, pC, pOp, pNil, pCons, pTup, pLst, pLstM, pNot, pAndV, pOrV, pIf, pB, pAnd, pOr, pNotT, pNoPart, pPart, pCB, pUnN, pSl, pNext, pBreak, pCont, pRet, pRetN, pDrop, pIfS, pgName, pgNil, pgCons, pgTup_t, pAug, pApp, pYes, isk_non, nsk_non, isN_non, isN_bl, isN_int, isN_str, isN_tup, isN_lst, isN_ref, isN_obj, pTru, pFld, pStar, pMake, pSetF, pIt, pRng1, pRng2, forG, List.map_cons, List.map_nil, List.getElem?_cons_zero, List.getElem?_cons_succ, List.set_cons_zero, List.set_cons_succ, Option.some.injEq, exists_eq_left, exists_eq_left', true_and, and_true, wipeE, D.bl.injEq, D.int.injEq, D.str.injEq, D.tup.injEq, D.lst.injEq, Bool.not_true, decide_eq_true_eq, if_true, if_false, reduceIte, Bool.false_eq_true, Option.isNone_none, Option.isNone_some, Bool.not_false, List.length_nil, List.length_cons, List.nil_append, List.cons_append, D.ref.injEq, SO.lst.injEq, pCall, exists_const, and_self, Nat.zero_add, Nat.zero_le, Nat.reduceLeDiff, Nat.reduceAdd, eq_self, o_add, o_sub, o_mul, o_div, o_mod, o_cmp, o_int, o_lenl, o_lent, o_lens, o_tupl, o_tupt, o_min, o_max, q_int, ixk_tup, ixk_lst, ixk_scr, at0, at1, at2, at3, at4, at5, List.length_map, ln0, ln1, ln2, ln3, ln4, lnS0, lnS2, lnS4, q_id, q_ido, q_oi, q_oid, q_path, q_ln, q_ls, n_id, n_path, n_ln, n_ls, non_oid, non_oln, non_oct, non_id, non_ln, non_ct, non_path, un_ln, un_pl, in_ids, ad_path, eOp_s, eOp_n, lstk_ls, st_ls, w_mw, decide_false]
      exact go _ _ _
theorem loop_law2 (ls : List Line) (U : List Ln.Id) (j : Nat) (hO : Ok ls U) (hs : (ls.map (·.id)).Sublist (idsTo 22)) (hl : ls.length ≤ 900) (c0 c1 c2 c3 c4 c6 c7 : Option D) (P : PEnds) : ∀ (ws : List (List Line)) (x5 : Option D), (∀ w ∈ ws, Wrong ls j w) →
    (∀ x5, P.nx [c0, c1, c2, c3, c4, x5, c6, c7] []) → forG (pgName 5) pl_law_2 P (ws.map eLs) [c0, c1, c2, c3, c4, x5, c6, c7] [] := by
  intro ws
  induction ws with
  | nil => exact fun x5 _ h => h x5
  | cons w ws ih =>
    intro x5 hw h
    have hw1 := hw w List.mem_cons_self
    simp only [pSeq, pAsg, pVar, pC, pOp, pNil, pCons, pTup, pLst, pLstM, pNot, pAndV, pOrV, pIf, pB, pAnd, pOr, pNotT, pNoPart, pPart, pCB, pUnN, pSl, pNext, pBreak, pCont, pRet, pRetN, pDrop, pIfS, pgName, pgNil, pgCons, pgTup_t, pAug, pApp, pYes, isk_non, nsk_non, isN_non, isN_bl, isN_int, isN_str, isN_tup, isN_lst, isN_ref, isN_obj, pTru, pFld, pStar, pMake, pSetF, pIt, pRng1, pRng2, forG, List.map_cons, List.map_nil, List.getElem?_cons_zero, List.getElem?_cons_succ, List.set_cons_zero, List.set_cons_succ, Option.some.injEq, exists_eq_left, exists_eq_left', true_and, and_true, wipeE, D.bl.injEq, D.int.injEq, D.str.injEq, D.tup.injEq, D.lst.injEq, Bool.not_true, decide_eq_true_eq, if_true, if_false, reduceIte, Bool.false_eq_true, Option.isNone_none, Option.isNone_some, Bool.not_false, List.length_nil, List.length_cons, List.nil_append, List.cons_append, D.ref.injEq, SO.lst.injEq, pCall, exists_const, and_self, Nat.zero_add, Nat.zero_le, Nat.reduceLeDiff, Nat.reduceAdd, eq_self, o_add, o_sub, o_mul, o_div, o_mod, o_cmp, o_int, o_lenl, o_lent, o_lens, o_tupl, o_tupt, o_min, o_max, q_int, ixk_tup, ixk_lst, ixk_scr, at0, at1, at2, at3, at4, at5, List.length_map, ln0, ln1, ln2, ln3, ln4, lnS0, lnS2, lnS4, q_id, q_ido, q_oi, q_oid, q_path, q_ln, q_ls, n_id, n_path, n_ln, n_ls, non_oid, non_oln, non_oct, non_id, non_ln, non_ct, non_path, un_ln, un_pl, in_ids, ad_path, eOp_s, eOp_n, lstk_ls, st_ls, pl_law_2_d]
    refine call_of (by simp only [pureAll, pu_ls, pu_lsl, pu_oid, pu_id, pu_ln, pu_oln, pu_pl, pu_ed, pu_eds, pu_idst, pu_path, pu_oct, pu_mv, pu_mvs, pu_str, pu_int, pu_bl, pu_non, eOp_s, eOp_n, Bool.and_self]) ⟨_, w, rfl, .inl rfl, by rw [hw1.len]; omega, fun b hb => ?_⟩
    have : b = false := by
      cases b with
      | false => rfl
      | true => exact absurd (hb.mp rfl) (hw1.not hO hs (by decide))
    subst this
    simp only [pSeq, pAsg, pVar, pC, pOp, pNil, pCons, pTup, pLst, pLstM, pNot, pAndV, pOrV, pIf, pB, pAnd, pOr, pNotT, pNoPart, pPart, pCB, pUnN, pSl, pNext, pBreak, pCont, pRet, pRetN, pDrop, pIfS, pgName, pgNil, pgCons, pgTup_t, pAug, pApp, pYes, isk_non, nsk_non, isN_non, isN_bl, isN_int, isN_str, isN_tup, isN_lst, isN_ref, isN_obj, pTru, pFld, pStar, pMake, pSetF, pIt, pRng1, pRng2, forG, List.map_cons, List.map_nil, List.getElem?_cons_zero, List.getElem?_cons_succ, List.set_cons_zero, List.set_cons_succ, Option.some.injEq, exists_eq_left, exists_eq_left', true_and, and_true, wipeE, D.bl.injEq, D.int.injEq, D.str.injEq, D.tup.injEq, D.lst.injEq, Bool.not_true, decide_eq_true_eq, if_true, if_false, reduceIte, Bool.false_eq_true, Option.isNone_none, Option.isNone_some, Bool.not_false, List.length_nil, List.length_cons, List.nil_append, List.cons_append, D.ref.injEq, SO.lst.injEq, pCall, exists_const, and_self, Nat.zero_add, Nat.zero_le, Nat.reduceLeDiff, Nat.reduceAdd, eq_self, o_add, o_sub, o_mul, o_div, o_mod, o_cmp, o_int, o_lenl, o_lent, o_lens, o_tupl, o_tupt, o_min, o_max, q_int, ixk_tup, ixk_lst, ixk_scr, at0, at1, at2, at3, at4, at5, List.length_map, ln0, ln1, ln2, ln3, ln4, lnS0, lnS2, lnS4, q_id, q_ido, q_oi, q_oid, q_path, q_ln, q_ls, n_id, n_path, n_ln, n_ls, non_oid, non_oln, non_oct, non_id, non_ln, non_ct, non_path, un_ln, un_pl, in_ids, ad_path, eOp_s, eOp_n, lstk_ls, st_ls]
    exact ih _ (fun w hw' => hw w (List.mem_cons_of_mem _ hw')) h
theorem loop_law3 (ls : List Line) (U : List Ln.Id) (hO : Ok ls U) (hs : (ls.map (·.id)).Sublist (idsTo 22)) (hl : ls.length ≤ 900) (c0 c2 c3 c6 c7 : Option D) (P : PEnds) : ∀ (n j : Nat) (x4 x5 : Option D), j + n = ls.length →
    (∀ x4 x5, P.nx [c0, some (eLs ls), c2, c3, x4, x5, c6, c7] []) → forG (pgName 4) pl_law_3 P ((List.range' j n).map fun (i : Nat) => D.int (i : Int)) [c0, some (eLs ls), c2, c3, x4, x5, c6, c7] [] := by
  intro n
  induction n with
  | zero => exact fun j x4 x5 _ h => h x4 x5
  | succ n ih =>
    intro j x4 x5 hj h
    rw [List.range'_succ]
    simp only [pSeq, pAsg, pVar, pC, pOp, pNil, pCons, pTup, pLst, pLstM, pNot, pAndV, pOrV, pIf, pB, pAnd, pOr, pNotT, pNoPart, pPart, pCB, pUnN, pSl, pNext, pBreak, pCont, pRet, pRetN, pDrop, pIfS, pgName, pgNil, pgCons, pgTup_t, pAug, pApp, pYes, isk_non, nsk_non, isN_non, isN_bl, isN_int, isN_str, isN_tup, isN_lst, isN_ref, isN_obj, pTru, pFld, pStar, pMake, pSetF, pIt, pRng1, pRng2, forG, List.map_cons, List.map_nil, List.getElem?_cons_zero, List.getElem?_cons_succ, List.set_cons_zero, List.set_cons_succ, Option.some.injEq, exists_eq_left, exists_eq_left', true_and, and_true, wipeE, D.bl.injEq, D.int.injEq, D.str.injEq, D.tup.injEq, D.lst.injEq, Bool.not_true, decide_eq_true_eq, if_true, if_false, reduceIte, Bool.false_eq_true, Option.isNone_none, Option.isNone_some, Bool.not_false, List.length_nil, List.length_cons, List.nil_append, List.cons_append, D.ref.injEq, SO.lst.injEq, pCall, exists_const, and_self, Nat.zero_add, Nat.zero_le, Nat.reduceLeDiff, Nat.reduceAdd, eq_self, o_add, o_sub, o_mul, o_div, o_mod, o_cmp, o_int, o_lenl, o_lent, o_lens, o_tupl, o_tupt, o_min, o_max, q_int, ixk_tup, ixk_lst, ixk_scr, at0, at1, at2, at3, at4, at5, List.length_map, ln0, ln1, ln2, ln3, ln4, lnS0, lnS2, lnS4, q_id, q_ido, q_oi, q_oid, q_path, q_ln, q_ls, n_id, n_path, n_ln, n_ls, non_oid, non_oln, non_oct, non_id, non_ln, non_ct, non_path, un_ln, un_pl, in_ids, ad_path, eOp_s, eOp_n, lstk_ls, st_ls, pl_law_3_d, pFor_I]
    refine call_of (by simp only [pureAll, pu_ls, pu_lsl, pu_oid, pu_id, pu_ln, pu_oln, pu_pl, pu_ed, pu_eds, pu_idst, pu_path, pu_oct, pu_mv, pu_mvs, pu_str, pu_int, pu_bl, pu_non, eOp_s, eOp_n, Bool.and_self]) ⟨ls, j, rfl, by omega, hl, fun ws _ hw => ⟨_, rfl, ?_⟩⟩
    exact forI_go (fun _ => rfl) (loop_law2 ls U j hO hs hl _ _ _ _ _ _ _ _ ws _ hw fun x5 => ih (j + 1) _ _ (by omega) h)
theorem body_law : ∀ ns : List Int, ns.length ≤ 63 → ps_law { nx := fun _ _ => False, rt := fun d _ => d = .bl true } (startE 8 [.scr (ns.map D.int)]) [] := by
  intro ns hl
  rw [start_law]
  unfold ps_law
  simp only [pSeq, pAsg, pVar, pC, pOp, pNil, pCons, pTup, pLst, pLstM, pNot, pAndV, pOrV, pIf, pB, pAnd, pOr, pNotT, pNoPart, pPart, pCB, pUnN, pSl, pNext, pBreak, pCont, pRet, pRetN, pDrop, pIfS, pgName, pgNil, pgCons, pgTup_t, pAug, pApp, pYes, isk_non, nsk_non, isN_non, isN_bl, isN_int, isN_str, isN_tup, isN_lst, isN_ref, isN_obj, pTru, pFld, pStar, pMake, pSetF, pIt, pRng1, pRng2, forG, List.map_cons, List.map_nil, List.getElem?_cons_zero, List.getElem?_cons_succ, List.set_cons_zero, List.set_cons_succ, Option.some.injEq, exists_eq_left, exists_eq_left', true_and, and_true, wipeE, D.bl.injEq, D.int.injEq, D.str.injEq, D.tup.injEq, D.lst.injEq, Bool.not_true, decide_eq_true_eq, if_true, if_false, reduceIte, Bool.false_eq_true, Option.isNone_none, Option.isNone_some, Bool.not_false, List.length_nil, List.length_cons, List.nil_append, List.cons_append, D.ref.injEq, SO.lst.injEq, pCall, exists_const, and_self, Nat.zero_add, Nat.zero_le, Nat.reduceLeDiff, Nat.reduceAdd, eq_self, o_add, o_sub, o_mul, o_div, o_mod, o_cmp, o_int, o_lenl, o_lent, o_lens, o_tupl, o_tupt, o_min, o_max, q_int, ixk_tup, ixk_lst, ixk_scr, at0, at1, at2, at3, at4, at5, List.length_map, ln0, ln1, ln2, ln3, ln4, lnS0, lnS2, lnS4, q_id, q_ido, q_oi, q_oid, q_path, q_ln, q_ls, n_id, n_path, n_ln, n_ls, non_oid, non_oln, non_oct, non_id, non_ln, non_ct, non_path, un_ln, un_pl, in_ids, ad_path, eOp_s, eOp_n, lstk_ls, st_ls, pFor_I]
  have p1 : ∀ n : Int, pureAll [.scr (ns.map D.int), .int n] = true := fun n => by
    simp only [pureAll, show (D.scr (ns.map D.int)).pure = true from pu_intsL ns, pu_int, Bool.and_self]
  refine call_of (p1 22) ⟨ns, 22, rfl, hl, by decide, fun rs hr => ⟨_, rfl, ?_⟩⟩
  refine forI_go (fun _ => rfl) ?_
  have he : (editsF rs 22).map eEd = (List.range' 0 22).map fun (k : Nat) => eEd (edAt rs k) := by
    unfold editsF
    rw [List.map_map, List.range_eq_range']
    rfl
  rw [he]
  refine loop_law1 rs _ _ _ 22 0 [] [] _ _ _ rfl ok_nil (Nat.zero_le _) (fun x hx => by cases hx) (List.nil_sublist _) fun ls U x2 x3 x6 hO hU hs => ?_
  have hll : ls.length ≤ 900 := by
    obtain ⟨r, T, hW⟩ := hO
    have := hW.ln
    omega
  simp only [pSeq, pAsg, pVar, pC, pOp, pNil, pCons, pTup, pLst, pLstM, pNot, pAndV, pOrV, pIf, pB, pAnd, pOr, pNotT, pNoPart, pPart, pCB, pUnN, pSl, pNext, pBreak, pCont, pRet, pRetN, pDrop, pIfS, pgName, pgNil, pgCons, pgTup_t, pAug, pApp, pYes, isk_non, nsk_non, isN_non, isN_bl, isN_int, isN_str, isN_tup, isN_lst, isN_ref, isN_obj, pTru, pFld, pStar, pMake, pSetF, pIt, pRng1, pRng2, forG, List.map_cons, List.map_nil, List.getElem?_cons_zero, List.getElem?_cons_succ, List.set_cons_zero, List.set_cons_succ, Option.some.injEq, exists_eq_left, exists_eq_left', true_and, and_true, wipeE, D.bl.injEq, D.int.injEq, D.str.injEq, D.tup.injEq, D.lst.injEq, Bool.not_true, decide_eq_true_eq, if_true, if_false, reduceIte, Bool.false_eq_true, Option.isNone_none, Option.isNone_some, Bool.not_false, List.length_nil, List.length_cons, List.nil_append, List.cons_append, D.ref.injEq, SO.lst.injEq, pCall, exists_const, and_self, Nat.zero_add, Nat.zero_le, Nat.reduceLeDiff, Nat.reduceAdd, eq_self, o_add, o_sub, o_mul, o_div, o_mod, o_cmp, o_int, o_lenl, o_lent, o_lens, o_tupl, o_tupt, o_min, o_max, q_int, ixk_tup, ixk_lst, ixk_scr, at0, at1, at2, at3, at4, at5, List.length_map, ln0, ln1, ln2, ln3, ln4, lnS0, lnS2, lnS4, q_id, q_ido, q_oi, q_oid, q_path, q_ln, q_ls, n_id, n_path, n_ln, n_ls, non_oid, non_oln, non_oct, non_id, non_ln, non_ct, non_path, un_ln, un_pl, in_ids, ad_path, eOp_s, eOp_n, lstk_ls, st_ls, pFor_I, ls_len]
  refine ⟨_, rfl, ⟨by omega, by omega⟩, ?_⟩
  refine forI_go (fun _ => rfl) ?_
  rw [Int.toNat_natCast]
  unfold rngD
  rw [List.range_eq_range']
  refine loop_law3 ls U hO hs hll _ _ _ _ _ _ ls.length 0 _ _ (by omega) fun x4 x5 => ?_
  simp only [pSeq, pAsg, pVar, pC, pOp, pNil, pCons, pTup, pLst, pLstM, pNot, pAndV, pOrV, pIf, pB, pAnd, pOr, pNotT, pNoPart, pPart, pCB, pUnN, pSl, pNext, pBreak, pCont, pRet, pRetN, pDrop, pIfS, pgName, pgNil, pgCons, pgTup_t, pAug, pApp, pYes, isk_non, nsk_non, isN_non, isN_bl, isN_int, isN_str, isN_tup, isN_lst, isN_ref, isN_obj, pTru, pFld, pStar, pMake, pSetF, pIt, pRng1, pRng2, forG, List.map_cons, List.map_nil, List.getElem?_cons_zero, List.getElem?_cons_succ, List.set_cons_zero, List.set_cons_succ, Option.some.injEq, exists_eq_left, exists_eq_left', true_and, and_true, wipeE, D.bl.injEq, D.int.injEq, D.str.injEq, D.tup.injEq, D.lst.injEq, Bool.not_true, decide_eq_true_eq, if_true, if_false, reduceIte, Bool.false_eq_true, Option.isNone_none, Option.isNone_some, Bool.not_false, List.length_nil, List.length_cons, List.nil_append, List.cons_append, D.ref.injEq, SO.lst.injEq, pCall, exists_const, and_self, Nat.zero_add, Nat.zero_le, Nat.reduceLeDiff, Nat.reduceAdd, eq_self, o_add, o_sub, o_mul, o_div, o_mod, o_cmp, o_int, o_lenl, o_lent, o_lens, o_tupl, o_tupt, o_min, o_max, q_int, ixk_tup, ixk_lst, ixk_scr, at0, at1, at2, at3, at4, at5, List.length_map, ln0, ln1, ln2, ln3, ln4, lnS0, lnS2, lnS4, q_id, q_ido, q_oi, q_oid, q_path, q_ln, q_ls, n_id, n_path, n_ln, n_ls, non_oid, non_oln, non_oct, non_id, non_ln, non_ct, non_path, un_ln, un_pl, in_ids, ad_path, eOp_s, eOp_n, lstk_ls, st_ls]
  refine call_of (pu1 rfl) ⟨_, [], rfl, .inr rfl, Nat.zero_le _, fun b hb => ?_⟩
  have : b = true := hb.mpr sound_nil
  subst this
  rfl
theorem ok_law {P : Program} {w : World} {K : PySem.W.Frag} {cl : Cl} {mg : Str → Option Value} {base : Heap} {f : Addr} {fd : FuncData} (F : Fun K "law" "law" s_law f fd) (T : Txt K cl mg) (hw : cl.w = w) (G_lines_after : C8.Cal P w K mg base 5 "lines_after" (spP K cl F_lines_after) []) (G_lines_sound : C8.Cal P w K mg base 2 "lines_sound" (spP K cl F_lines_sound) []) (G_law_edits : C8.Cal P w K mg base 4 "_law_edits" (spP K cl F_law_edits) []) (G_law_wrong : C8.Cal P w K mg base 2 "_law_wrong" (spP K cl F_law_wrong) []) (G_law_replaced : C8.Cal P w K mg base 1 "_law_replaced" (spP K cl F_law_replaced) []) : FnOk P w K mg base CX0 6 f fd ["script"] (spLaw K) := by
  subst hw
  refine F.ok sc_law (fun vs H Q E h => ?_) (fun cdv A outer s H vs Q E hr h => ?_)
  · obtain ⟨a, ns, rfl, _⟩ := h
    rfl
  · refine ⟨_,
    (pss_cons (ps_set (i := 1) sc_law.nd rfl (.inl rfl) (pe_lst pa_nil))
    (pss_cons (ps_for PassesOwn.never rfl (show PI _ _ _ (uIt K _) from upi (C8.pe_c G_law_edits hr (by decide) (by rfl) (pa_cons (pv 0) (pa_cons pe_int pa_nil)))) (pg_name (i := 2) sc_law.nd rfl (Or.inl rfl))
      (pss_cons (ps_set (i := 1) sc_law.nd rfl (.inl rfl) (C8.pe_c G_lines_after hr (by decide) (by rfl) (pa_cons (pv 1) (pa_cons (pv 2) pa_nil))))
      (pss_cons (ps_set (i := 3) sc_law.nd rfl (.inr rfl) (pe_lc (own := [("line", 6)]) (g := gName 6) (tt := tYes) rfl sc_law.nd (show PI _ _ _ (uIt K _) from upi (pv 1)) (blkOk_by (own := [("line", 6)]) (N := ["script", "lines", "edit", "heads", "k", "wrong", "line", "head"]) (sc := defScope s_law) (by decide +kernel)) (fun _ _ _ _ _ => (pg_name (i := 6) sc_law.nd rfl (Or.inl rfl))) (fun _ _ _ _ _ => pts_nil) (fun _ _ _ _ _ => (pe_ix (show IxR _ (uIx K) from uix) (pv 6) pe_int (fun _ _ => rfl)))))
      (pss_cons (ps_if (PW.pt (pw_or (pt_not (pt_val (C8.pe_c G_lines_sound hr (by decide) (by rfl) (pa_cons (pv 1) pa_nil)))) (pw_or1 (pt_truth (pe_callB (show CallR _ (.builtin "any") (rAny K) from cr_any (by rfl)) (by rfl) T.n_any (by decide +kernel) (pa_cons (pe_lc (own := [("head", 7)]) (g := gName 7) (tt := tYes) rfl sc_law.nd (show PI _ _ _ (uIt K _) from upi (C8.pe_c G_law_replaced hr (by decide) (by rfl) (pa_cons (pv 2) pa_nil))) (blkOk_by (own := [("head", 7)]) (N := ["script", "lines", "edit", "heads", "k", "wrong", "line", "head"]) (sc := defScope s_law) (by decide +kernel)) (fun _ _ _ _ _ => (pg_name (i := 7) sc_law.nd rfl (Or.inl rfl))) (fun _ _ _ _ _ => pts_nil) (fun _ _ _ _ _ => (pe_cmpR (show OpR _ _ (uIn K) from uop_in hr.units) (pv 7) (pv 3) (by with_unfolding_all rfl)))) pa_nil)) (by intro _; rfl)))))
        (pss_one (ps_ret pe_bl))
        pss_nil)
      (pss_one (ps_if (PW.pt (pw_and (pt_cmpR (show OpR _ _ (rEqP K) from op_eqP hr.units) (pe_ix (show IxR _ (uIx K) from uix) (pv 2) pe_int (fun _ _ => rfl)) pe_str (nomark _)) (pw_and1 (pt_cmpR (show OpR _ _ (uNi K) from uop_ni hr.units) (pe_ix (show IxR _ (uIx K) from uix) (pv 2) pe_int (fun _ _ => rfl)) (pv 3) (by with_unfolding_all rfl)))))
        (pss_one (ps_ret pe_bl))
        pss_nil))))))
    (pss_cons (ps_for PassesOwn.never rfl (pi_range1 (by rfl) T.n_range (pa_cons (pe_callB (show CallR _ (.builtin "len") (uLen K) from ucall_len) (by rfl) T.n_len PySem.boot_len (pa_cons (pv 1) pa_nil)) pa_nil)) (pg_name (i := 4) sc_law.nd rfl (Or.inl rfl))
      (pss_one (ps_for PassesOwn.never rfl (show PI _ _ _ (uIt K _) from upi (C8.pe_c G_law_wrong hr (by decide) (by rfl) (pa_cons (pv 1) (pa_cons (pv 4) pa_nil)))) (pg_name (i := 5) sc_law.nd rfl (Or.inl rfl))
        (pss_one (ps_if (pt_val (C8.pe_c G_lines_sound hr (by decide) (by rfl) (pa_cons (pv 5) pa_nil)))
          (pss_one (ps_ret pe_bl))
          pss_nil)))))
    (pss_one (ps_ret (C8.pe_c G_lines_sound hr (by decide) (by rfl) (pa_cons (pe_tup pa_nil) pa_nil))))))), ?_⟩
    exact law_ok (cl := cl) (N := ["script", "lines", "edit", "heads", "k", "wrong", "line", "head"]) (show SmS K cl _ ps_law from
    (sm_seq (sm_asg (sm_lst sm_nil) sm_gname)
    (sm_seq (sm_for (sm_it (sm_call (sm_cons sm_var (sm_cons sm_int sm_nil)))) sm_gname
      (sm_seq (sm_asg (sm_call (sm_cons sm_var (sm_cons sm_var sm_nil))) sm_gname)
      (sm_seq (sm_asg (sm_lc (sm_it sm_var) (gok_name (by decide)) sm_gname sm_yes (sm_op smr_ix sm_var sm_int)) sm_gname)
      (sm_seq (sm_ifS (sm_or (sm_notT (sm_B (sm_call (sm_cons sm_var sm_nil)))) (sm_tru (sm_cb smc_any (sm_cons (sm_lc (sm_it (sm_call (sm_cons sm_var sm_nil))) (gok_name (by decide)) sm_gname sm_yes (sm_op smr_in sm_var sm_var)) sm_nil))))
        ((sm_ret sm_bl))
        sm_next)
      ((sm_ifS (sm_and (sm_test (sm_op smr_eq (sm_op smr_ix sm_var sm_int) sm_str)) (sm_test (sm_op smr_ni (sm_op smr_ix sm_var sm_int) sm_var)))
        ((sm_ret sm_bl))
        sm_next))))))
    (sm_seq (sm_for (sm_rng1 (sm_cons (sm_cb smc_len (sm_cons sm_var sm_nil)) sm_nil)) sm_gname
      ((sm_for (sm_it (sm_call (sm_cons sm_var (sm_cons sm_var sm_nil)))) sm_gname
        ((sm_ifS (sm_B (sm_call (sm_cons sm_var sm_nil)))
          ((sm_ret sm_bl))
          sm_next)))))
    ((sm_ret (sm_call (sm_cons (sm_tup sm_nil) sm_nil)))))))) body_law h
theorem all_mk {l : PySem.W.OpenLaw} {w : World} {K : PySem.W.Frag} {h : Heap} {mg : Str → Option Value} {fa f1 f2 f3 f4 f5 f6 f7 f8 f9 f10 f11 f12 f13 f14 f15 f16 f17 f18 f19 f20 f21 f22 f23 f24 f25 f26 f27 f28 : Addr} (X : K.In h) (G : h.Ns mainGlobals mg) (hfa : mg "law" = some (.ref fa)) 
    {od1 an1 od2 an2 od3 an3 od4 an4 od5 an5 od6 an6 od7 an7 od8 an8 od9 an9 od10 an10 od11 an11 od12 an12 od13 an13 od14 an14 od15 an15 od16 an16 od17 an17 od18 an18 od19 an19 od20 an20 od21 an21 od22 an22 od23 an23 od24 an24 od25 an25 od26 an26 od27 an27 od28 an28 : Option Addr} {sl1 sl2 sl3 sl4 sl5 sl6 sl7 sl8 sl9 sl10 sl11 sl12 sl13 sl14 sl15 sl16 sl17 sl18 sl19 sl20 sl21 sl22 sl23 sl24 sl25 sl26 sl27 sl28 : Array (Option Value)} {oc1 kV1 dc1 pm1 cd1 ct1 oc2 kV2 dc2 pm2 cd2 ct2 oc3 kV3 dc3 pm3 cd3 ct3 oc4 kV4 dc4 pm4 cd4 ct4 oc5 kV5 dc5 pm5 cd5 ct5 oc6 kV6 dc6 pm6 cd6 ct6 oc7 kV7 dc7 pm7 cd7 ct7 oc8 kV8 dc8 pm8 cd8 ct8 oc9 kV9 dc9 pm9 cd9 ct9 oc10 kV10 dc10 pm10 cd10 ct10 oc11 kV11 dc11 pm11 cd11 ct11 oc12 kV12 dc12 pm12 cd12 ct12 oc13 kV13 dc13 pm13 cd13 ct13 oc14 kV14 dc14 pm14 cd14 ct14 oc15 kV15 dc15 pm15 cd15 ct15 oc16 kV16 dc16 pm16 cd16 ct16 oc17 kV17 dc17 pm17 cd17 ct17 oc18 kV18 dc18 pm18 cd18 ct18 oc19 kV19 dc19 pm19 cd19 ct19 oc20 kV20 dc20 pm20 cd20 ct20 oc21 kV21 dc21 pm21 cd21 ct21 oc22 kV22 dc22 pm22 cd22 ct22 oc23 kV23 dc23 pm23 cd23 ct23 oc24 kV24 dc24 pm24 cd24 ct24 oc25 kV25 dc25 pm25 cd25 ct25 oc26 kV26 dc26 pm26 cd26 ct26 oc27 kV27 dc27 pm27 cd27 ct27 oc28 kV28 dc28 pm28 cd28 ct28 : Value}
    (a1 : PySem.W.nsIn K mainGlobals "find_line" = some (some (.ref f1))) (l1 : K.lookup f1 = some ⟨oc1, od1, .func (PySem.W.fnOf "find_line" "find_line" (defArgs s_find_line) (defBody s_find_line) (defScope s_find_line) .none kV1 dc1 pm1 an1 cd1 ct1), sl1⟩) (c1 : PySem.W.codeIn K cd1 "find_line" = true) (k1 : PySem.W.keepIn K (.ref f1) = true)
    (a2 : PySem.W.nsIn K mainGlobals "find_head" = some (some (.ref f2))) (l2 : K.lookup f2 = some ⟨oc2, od2, .func (PySem.W.fnOf "find_head" "find_head" (defArgs s_find_head) (defBody s_find_head) (defScope s_find_head) .none kV2 dc2 pm2 an2 cd2 ct2), sl2⟩) (c2 : PySem.W.codeIn K cd2 "find_head" = true) (k2 : PySem.W.keepIn K (.ref f2) = true)
    (a3 : PySem.W.nsIn K mainGlobals "settle" = some (some (.ref f3))) (l3 : K.lookup f3 = some ⟨oc3, od3, .func (PySem.W.fnOf "settle" "settle" (defArgs s_settle) (defBody s_settle) (defScope s_settle) .none kV3 dc3 pm3 an3 cd3 ct3), sl3⟩) (c3 : PySem.W.codeIn K cd3 "settle" = true) (k3 : PySem.W.keepIn K (.ref f3) = true)
    (a4 : PySem.W.nsIn K mainGlobals "stands_in" = some (some (.ref f4))) (l4 : K.lookup f4 = some ⟨oc4, od4, .func (PySem.W.fnOf "stands_in" "stands_in" (defArgs s_stands_in) (defBody s_stands_in) (defScope s_stands_in) .none kV4 dc4 pm4 an4 cd4 ct4), sl4⟩) (c4 : PySem.W.codeIn K cd4 "stands_in" = true) (k4 : PySem.W.keepIn K (.ref f4) = true)
    (a5 : PySem.W.nsIn K mainGlobals "move_line" = some (some (.ref f5))) (l5 : K.lookup f5 = some ⟨oc5, od5, .func (PySem.W.fnOf "move_line" "move_line" (defArgs s_move_line) (defBody s_move_line) (defScope s_move_line) .none kV5 dc5 pm5 an5 cd5 ct5), sl5⟩) (c5 : PySem.W.codeIn K cd5 "move_line" = true) (k5 : PySem.W.keepIn K (.ref f5) = true)
    (a6 : PySem.W.nsIn K mainGlobals "without_line" = some (some (.ref f6))) (l6 : K.lookup f6 = some ⟨oc6, od6, .func (PySem.W.fnOf "without_line" "without_line" (defArgs s_without_line) (defBody s_without_line) (defScope s_without_line) .none kV6 dc6 pm6 an6 cd6 ct6), sl6⟩) (c6 : PySem.W.codeIn K cd6 "without_line" = true) (k6 : PySem.W.keepIn K (.ref f6) = true)
    (a7 : PySem.W.nsIn K mainGlobals "without_heads" = some (some (.ref f7))) (l7 : K.lookup f7 = some ⟨oc7, od7, .func (PySem.W.fnOf "without_heads" "without_heads" (defArgs s_without_heads) (defBody s_without_heads) (defScope s_without_heads) .none kV7 dc7 pm7 an7 cd7 ct7), sl7⟩) (c7 : PySem.W.codeIn K cd7 "without_heads" = true) (k7 : PySem.W.keepIn K (.ref f7) = true)
    (a8 : PySem.W.nsIn K mainGlobals "with_new_line" = some (some (.ref f8))) (l8 : K.lookup f8 = some ⟨oc8, od8, .func (PySem.W.fnOf "with_new_line" "with_new_line" (defArgs s_with_new_line) (defBody s_with_new_line) (defScope s_with_new_line) .none kV8 dc8 pm8 an8 cd8 ct8), sl8⟩) (c8 : PySem.W.codeIn K cd8 "with_new_line" = true) (k8 : PySem.W.keepIn K (.ref f8) = true)
    (a9 : PySem.W.nsIn K mainGlobals "first_replaced" = some (some (.ref f9))) (l9 : K.lookup f9 = some ⟨oc9, od9, .func (PySem.W.fnOf "first_replaced" "first_replaced" (defArgs s_first_replaced) (defBody s_first_replaced) (defScope s_first_replaced) .none kV9 dc9 pm9 an9 cd9 ct9), sl9⟩) (c9 : PySem.W.codeIn K cd9 "first_replaced" = true) (k9 : PySem.W.keepIn K (.ref f9) = true)
    (a10 : PySem.W.nsIn K mainGlobals "after_text" = some (some (.ref f10))) (l10 : K.lookup f10 = some ⟨oc10, od10, .func (PySem.W.fnOf "after_text" "after_text" (defArgs s_after_text) (defBody s_after_text) (defScope s_after_text) .none kV10 dc10 pm10 an10 cd10 ct10), sl10⟩) (c10 : PySem.W.codeIn K cd10 "after_text" = true) (k10 : PySem.W.keepIn K (.ref f10) = true)
    (a11 : PySem.W.nsIn K mainGlobals "after_move" = some (some (.ref f11))) (l11 : K.lookup f11 = some ⟨oc11, od11, .func (PySem.W.fnOf "after_move" "after_move" (defArgs s_after_move) (defBody s_after_move) (defScope s_after_move) .none kV11 dc11 pm11 an11 cd11 ct11), sl11⟩) (c11 : PySem.W.codeIn K cd11 "after_move" = true) (k11 : PySem.W.keepIn K (.ref f11) = true)
    (a12 : PySem.W.nsIn K mainGlobals "lines_after" = some (some (.ref f12))) (l12 : K.lookup f12 = some ⟨oc12, od12, .func (PySem.W.fnOf "lines_after" "lines_after" (defArgs s_lines_after) (defBody s_lines_after) (defScope s_lines_after) .none kV12 dc12 pm12 an12 cd12 ct12), sl12⟩) (c12 : PySem.W.codeIn K cd12 "lines_after" = true) (k12 : PySem.W.keepIn K (.ref f12) = true)
    (a13 : PySem.W.nsIn K mainGlobals "are_ascending" = some (some (.ref f13))) (l13 : K.lookup f13 = some ⟨oc13, od13, .func (PySem.W.fnOf "are_ascending" "are_ascending" (defArgs s_are_ascending) (defBody s_are_ascending) (defScope s_are_ascending) .none kV13 dc13 pm13 an13 cd13 ct13), sl13⟩) (c13 : PySem.W.codeIn K cd13 "are_ascending" = true) (k13 : PySem.W.keepIn K (.ref f13) = true)
    (a14 : PySem.W.nsIn K mainGlobals "heads_differ" = some (some (.ref f14))) (l14 : K.lookup f14 = some ⟨oc14, od14, .func (PySem.W.fnOf "heads_differ" "heads_differ" (defArgs s_heads_differ) (defBody s_heads_differ) (defScope s_heads_differ) .none kV14 dc14 pm14 an14 cd14 ct14), sl14⟩) (c14 : PySem.W.codeIn K cd14 "heads_differ" = true) (k14 : PySem.W.keepIn K (.ref f14) = true)
    (a15 : PySem.W.nsIn K mainGlobals "stands_soundly" = some (some (.ref f15))) (l15 : K.lookup f15 = some ⟨oc15, od15, .func (PySem.W.fnOf "stands_soundly" "stands_soundly" (defArgs s_stands_soundly) (defBody s_stands_soundly) (defScope s_stands_soundly) .none kV15 dc15 pm15 an15 cd15 ct15), sl15⟩) (c15 : PySem.W.codeIn K cd15 "stands_soundly" = true) (k15 : PySem.W.keepIn K (.ref f15) = true)
    (a16 : PySem.W.nsIn K mainGlobals "all_are_reached" = some (some (.ref f16))) (l16 : K.lookup f16 = some ⟨oc16, od16, .func (PySem.W.fnOf "all_are_reached" "all_are_reached" (defArgs s_all_are_reached) (defBody s_all_are_reached) (defScope s_all_are_reached) .none kV16 dc16 pm16 an16 cd16 ct16), sl16⟩) (c16 : PySem.W.codeIn K cd16 "all_are_reached" = true) (k16 : PySem.W.keepIn K (.ref f16) = true)
    (a17 : PySem.W.nsIn K mainGlobals "lines_sound" = some (some (.ref f17))) (l17 : K.lookup f17 = some ⟨oc17, od17, .func (PySem.W.fnOf "lines_sound" "lines_sound" (defArgs s_lines_sound) (defBody s_lines_sound) (defScope s_lines_sound) .none kV17 dc17 pm17 an17 cd17 ct17), sl17⟩) (c17 : PySem.W.codeIn K cd17 "lines_sound" = true) (k17 : PySem.W.keepIn K (.ref f17) = true)
    (a18 : PySem.W.nsIn K mainGlobals "_law_rows" = some (some (.ref f18))) (l18 : K.lookup f18 = some ⟨oc18, od18, .func (PySem.W.fnOf "_law_rows" "_law_rows" (defArgs s_law_rows) (defBody s_law_rows) (defScope s_law_rows) .none kV18 dc18 pm18 an18 cd18 ct18), sl18⟩) (c18 : PySem.W.codeIn K cd18 "_law_rows" = true) (k18 : PySem.W.keepIn K (.ref f18) = true)
    (a19 : PySem.W.nsIn K mainGlobals "_law_path" = some (some (.ref f19))) (l19 : K.lookup f19 = some ⟨oc19, od19, .func (PySem.W.fnOf "_law_path" "_law_path" (defArgs s_law_path) (defBody s_law_path) (defScope s_law_path) .none kV19 dc19 pm19 an19 cd19 ct19), sl19⟩) (c19 : PySem.W.codeIn K cd19 "_law_path" = true) (k19 : PySem.W.keepIn K (.ref f19) = true)
    (a20 : PySem.W.nsIn K mainGlobals "_law_pick" = some (some (.ref f20))) (l20 : K.lookup f20 = some ⟨oc20, od20, .func (PySem.W.fnOf "_law_pick" "_law_pick" (defArgs s_law_pick) (defBody s_law_pick) (defScope s_law_pick) .none kV20 dc20 pm20 an20 cd20 ct20), sl20⟩) (c20 : PySem.W.codeIn K cd20 "_law_pick" = true) (k20 : PySem.W.keepIn K (.ref f20) = true)
    (a21 : PySem.W.nsIn K mainGlobals "_law_place" = some (some (.ref f21))) (l21 : K.lookup f21 = some ⟨oc21, od21, .func (PySem.W.fnOf "_law_place" "_law_place" (defArgs s_law_place) (defBody s_law_place) (defScope s_law_place) .none kV21 dc21 pm21 an21 cd21 ct21), sl21⟩) (c21 : PySem.W.codeIn K cd21 "_law_place" = true) (k21 : PySem.W.keepIn K (.ref f21) = true)
    (a22 : PySem.W.nsIn K mainGlobals "_law_heads" = some (some (.ref f22))) (l22 : K.lookup f22 = some ⟨oc22, od22, .func (PySem.W.fnOf "_law_heads" "_law_heads" (defArgs s_law_heads) (defBody s_law_heads) (defScope s_law_heads) .none kV22 dc22 pm22 an22 cd22 ct22), sl22⟩) (c22 : PySem.W.codeIn K cd22 "_law_heads" = true) (k22 : PySem.W.keepIn K (.ref f22) = true)
    (a23 : PySem.W.nsIn K mainGlobals "_law_edit" = some (some (.ref f23))) (l23 : K.lookup f23 = some ⟨oc23, od23, .func (PySem.W.fnOf "_law_edit" "_law_edit" (defArgs s_law_edit) (defBody s_law_edit) (defScope s_law_edit) .none kV23 dc23 pm23 an23 cd23 ct23), sl23⟩) (c23 : PySem.W.codeIn K cd23 "_law_edit" = true) (k23 : PySem.W.keepIn K (.ref f23) = true)
    (a24 : PySem.W.nsIn K mainGlobals "_law_edits" = some (some (.ref f24))) (l24 : K.lookup f24 = some ⟨oc24, od24, .func (PySem.W.fnOf "_law_edits" "_law_edits" (defArgs s_law_edits) (defBody s_law_edits) (defScope s_law_edits) .none kV24 dc24 pm24 an24 cd24 ct24), sl24⟩) (c24 : PySem.W.codeIn K cd24 "_law_edits" = true) (k24 : PySem.W.keepIn K (.ref f24) = true)
    (a25 : PySem.W.nsIn K mainGlobals "_law_with" = some (some (.ref f25))) (l25 : K.lookup f25 = some ⟨oc25, od25, .func (PySem.W.fnOf "_law_with" "_law_with" (defArgs s_law_with) (defBody s_law_with) (defScope s_law_with) .none kV25 dc25 pm25 an25 cd25 ct25), sl25⟩) (c25 : PySem.W.codeIn K cd25 "_law_with" = true) (k25 : PySem.W.keepIn K (.ref f25) = true)
    (a26 : PySem.W.nsIn K mainGlobals "_law_wrong" = some (some (.ref f26))) (l26 : K.lookup f26 = some ⟨oc26, od26, .func (PySem.W.fnOf "_law_wrong" "_law_wrong" (defArgs s_law_wrong) (defBody s_law_wrong) (defScope s_law_wrong) .none kV26 dc26 pm26 an26 cd26 ct26), sl26⟩) (c26 : PySem.W.codeIn K cd26 "_law_wrong" = true) (k26 : PySem.W.keepIn K (.ref f26) = true)
    (a27 : PySem.W.nsIn K mainGlobals "_law_replaced" = some (some (.ref f27))) (l27 : K.lookup f27 = some ⟨oc27, od27, .func (PySem.W.fnOf "_law_replaced" "_law_replaced" (defArgs s_law_replaced) (defBody s_law_replaced) (defScope s_law_replaced) .none kV27 dc27 pm27 an27 cd27 ct27), sl27⟩) (c27 : PySem.W.codeIn K cd27 "_law_replaced" = true) (k27 : PySem.W.keepIn K (.ref f27) = true)
    (a28 : PySem.W.nsIn K mainGlobals "law" = some (some (.ref f28))) (l28 : K.lookup f28 = some ⟨oc28, od28, .func (PySem.W.fnOf "law" "law" (defArgs s_law) (defBody s_law) (defScope s_law) .none kV28 dc28 pm28 an28 cd28 ct28), sl28⟩) (c28 : PySem.W.codeIn K cd28 "law" = true) (k28 : PySem.W.keepIn K (.ref f28) = true)
    (z1 : PySem.W.nsIn K mainGlobals "any" = some none) (z2 : PySem.W.nsIn K mainGlobals "int" = some none) (z3 : PySem.W.nsIn K mainGlobals "len" = some none) (z4 : PySem.W.nsIn K mainGlobals "list" = some none) (z5 : PySem.W.nsIn K mainGlobals "min" = some none) (z6 : PySem.W.nsIn K mainGlobals "range" = some none) (z7 : PySem.W.nsIn K mainGlobals "tuple" = some none) (z8 : PySem.W.nsIn K mainGlobals "zip" = some none)  :
    ∃ fd : FuncData, (∀ (s : Shared) (v : Value), BindsTo s fd ⟨[v], []⟩ [("script", v)]) ∧ ∀ base : Heap, K.In base → base.Ns mainGlobals mg → FnOk l.prog w K mg base CX0 6 fa fd ["script"] (spLaw K) := by
  have e := hfa.symm.trans (PySem.W.mg_of X G a28)
  cases e
  have T : Txt K (⟨w, fun _ => 0⟩ : Cl) mg := ⟨PySem.W.mg_none_of X G z1, PySem.W.mg_none_of X G z2, PySem.W.mg_none_of X G z3, PySem.W.mg_none_of X G z4, PySem.W.mg_none_of X G z5, PySem.W.mg_none_of X G z6, PySem.W.mg_none_of X G z7, PySem.W.mg_none_of X G z8⟩
  have F1 := fun_mk (st := s_find_line) l1 c1 k1
  have D1 : Df K mg "find_line" s_find_line ["lines", "line_id"] := ⟨_, _, F1, PySem.W.mg_of X G a1, F1.binds (ps := ["lines", "line_id"]) fun _ _ _ _ _ _ us hl => match us, hl with | [_, _], _ => rfl⟩
  have F2 := fun_mk (st := s_find_head) l2 c2 k2
  have D2 : Df K mg "find_head" s_find_head ["lines", "head"] := ⟨_, _, F2, PySem.W.mg_of X G a2, F2.binds (ps := ["lines", "head"]) fun _ _ _ _ _ _ us hl => match us, hl with | [_, _], _ => rfl⟩
  have F3 := fun_mk (st := s_settle) l3 c3 k3
  have D3 : Df K mg "settle" s_settle ["lines", "place"] := ⟨_, _, F3, PySem.W.mg_of X G a3, F3.binds (ps := ["lines", "place"]) fun _ _ _ _ _ _ us hl => match us, hl with | [_, _], _ => rfl⟩
  have F4 := fun_mk (st := s_stands_in) l4 c4 k4
  have D4 : Df K mg "stands_in" s_stands_in ["lines", "inside", "line_id"] := ⟨_, _, F4, PySem.W.mg_of X G a4, F4.binds (ps := ["lines", "inside", "line_id"]) fun _ _ _ _ _ _ us hl => match us, hl with | [_, _, _], _ => rfl⟩
  have F5 := fun_mk (st := s_move_line) l5 c5 k5
  have D5 : Df K mg "move_line" s_move_line ["lines", "head", "line_id", "place"] := ⟨_, _, F5, PySem.W.mg_of X G a5, F5.binds (ps := ["lines", "head", "line_id", "place"]) fun _ _ _ _ _ _ us hl => match us, hl with | [_, _, _, _], _ => rfl⟩
  have F6 := fun_mk (st := s_without_line) l6 c6 k6
  have D6 : Df K mg "without_line" s_without_line ["lines", "ended"] := ⟨_, _, F6, PySem.W.mg_of X G a6, F6.binds (ps := ["lines", "ended"]) fun _ _ _ _ _ _ us hl => match us, hl with | [_, _], _ => rfl⟩
  have F7 := fun_mk (st := s_without_heads) l7 c7 k7
  have D7 : Df K mg "without_heads" s_without_heads ["lines", "heads"] := ⟨_, _, F7, PySem.W.mg_of X G a7, F7.binds (ps := ["lines", "heads"]) fun _ _ _ _ _ _ us hl => match us, hl with | [_, _], _ => rfl⟩
  have F8 := fun_mk (st := s_with_new_line) l8 c8 k8
  have D8 : Df K mg "with_new_line" s_with_new_line ["lines", "edit"] := ⟨_, _, F8, PySem.W.mg_of X G a8, F8.binds (ps := ["lines", "edit"]) fun _ _ _ _ _ _ us hl => match us, hl with | [_, _], _ => rfl⟩
  have F9 := fun_mk (st := s_first_replaced) l9 c9 k9
  have D9 : Df K mg "first_replaced" s_first_replaced ["lines", "replaces"] := ⟨_, _, F9, PySem.W.mg_of X G a9, F9.binds (ps := ["lines", "replaces"]) fun _ _ _ _ _ _ us hl => match us, hl with | [_, _], _ => rfl⟩
  have F10 := fun_mk (st := s_after_text) l10 c10 k10
  have D10 : Df K mg "after_text" s_after_text ["lines", "edit"] := ⟨_, _, F10, PySem.W.mg_of X G a10, F10.binds (ps := ["lines", "edit"]) fun _ _ _ _ _ _ us hl => match us, hl with | [_, _], _ => rfl⟩
  have F11 := fun_mk (st := s_after_move) l11 c11 k11
  have D11 : Df K mg "after_move" s_after_move ["lines", "edit"] := ⟨_, _, F11, PySem.W.mg_of X G a11, F11.binds (ps := ["lines", "edit"]) fun _ _ _ _ _ _ us hl => match us, hl with | [_, _], _ => rfl⟩
  have F12 := fun_mk (st := s_lines_after) l12 c12 k12
  have D12 : Df K mg "lines_after" s_lines_after ["lines", "edit"] := ⟨_, _, F12, PySem.W.mg_of X G a12, F12.binds (ps := ["lines", "edit"]) fun _ _ _ _ _ _ us hl => match us, hl with | [_, _], _ => rfl⟩
  have F13 := fun_mk (st := s_are_ascending) l13 c13 k13
  have D13 : Df K mg "are_ascending" s_are_ascending ["ids"] := ⟨_, _, F13, PySem.W.mg_of X G a13, F13.binds (ps := ["ids"]) fun _ _ _ _ _ _ us hl => match us, hl with | [_], _ => rfl⟩
  have F14 := fun_mk (st := s_heads_differ) l14 c14 k14
  have D14 : Df K mg "heads_differ" s_heads_differ ["lines"] := ⟨_, _, F14, PySem.W.mg_of X G a14, F14.binds (ps := ["lines"]) fun _ _ _ _ _ _ us hl => match us, hl with | [_], _ => rfl⟩
  have F15 := fun_mk (st := s_stands_soundly) l15 c15 k15
  have D15 : Df K mg "stands_soundly" s_stands_soundly ["line", "folders"] := ⟨_, _, F15, PySem.W.mg_of X G a15, F15.binds (ps := ["line", "folders"]) fun _ _ _ _ _ _ us hl => match us, hl with | [_, _], _ => rfl⟩
  have F16 := fun_mk (st := s_all_are_reached) l16 c16 k16
  have D16 : Df K mg "all_are_reached" s_all_are_reached ["lines"] := ⟨_, _, F16, PySem.W.mg_of X G a16, F16.binds (ps := ["lines"]) fun _ _ _ _ _ _ us hl => match us, hl with | [_], _ => rfl⟩
  have F17 := fun_mk (st := s_lines_sound) l17 c17 k17
  have D17 : Df K mg "lines_sound" s_lines_sound ["lines"] := ⟨_, _, F17, PySem.W.mg_of X G a17, F17.binds (ps := ["lines"]) fun _ _ _ _ _ _ us hl => match us, hl with | [_], _ => rfl⟩
  have F18 := fun_mk (st := s_law_rows) l18 c18 k18
  have D18 : Df K mg "_law_rows" s_law_rows ["script", "count"] := ⟨_, _, F18, PySem.W.mg_of X G a18, F18.binds (ps := ["script", "count"]) fun _ _ _ _ _ _ us hl => match us, hl with | [_, _], _ => rfl⟩
  have F19 := fun_mk (st := s_law_path) l19 c19 k19
  have D19 : Df K mg "_law_path" s_law_path ["row", "most"] := ⟨_, _, F19, PySem.W.mg_of X G a19, F19.binds (ps := ["row", "most"]) fun _ _ _ _ _ _ us hl => match us, hl with | [_, _], _ => rfl⟩
  have F20 := fun_mk (st := s_law_pick) l20 c20 k20
  have D20 : Df K mg "_law_pick" s_law_pick ["row", "ids"] := ⟨_, _, F20, PySem.W.mg_of X G a20, F20.binds (ps := ["row", "ids"]) fun _ _ _ _ _ _ us hl => match us, hl with | [_, _], _ => rfl⟩
  have F21 := fun_mk (st := s_law_place) l21 c21 k21
  have D21 : Df K mg "_law_place" s_law_place ["row", "ids"] := ⟨_, _, F21, PySem.W.mg_of X G a21, F21.binds (ps := ["row", "ids"]) fun _ _ _ _ _ _ us hl => match us, hl with | [_, _], _ => rfl⟩
  have F22 := fun_mk (st := s_law_heads) l22 c22 k22
  have D22 : Df K mg "_law_heads" s_law_heads ["row", "ids"] := ⟨_, _, F22, PySem.W.mg_of X G a22, F22.binds (ps := ["row", "ids"]) fun _ _ _ _ _ _ us hl => match us, hl with | [_, _], _ => rfl⟩
  have F23 := fun_mk (st := s_law_edit) l23 c23 k23
  have D23 : Df K mg "_law_edit" s_law_edit ["row", "edit_id", "ids"] := ⟨_, _, F23, PySem.W.mg_of X G a23, F23.binds (ps := ["row", "edit_id", "ids"]) fun _ _ _ _ _ _ us hl => match us, hl with | [_, _, _], _ => rfl⟩
  have F24 := fun_mk (st := s_law_edits) l24 c24 k24
  have D24 : Df K mg "_law_edits" s_law_edits ["script", "count"] := ⟨_, _, F24, PySem.W.mg_of X G a24, F24.binds (ps := ["script", "count"]) fun _ _ _ _ _ _ us hl => match us, hl with | [_, _], _ => rfl⟩
  have F25 := fun_mk (st := s_law_with) l25 c25 k25
  have D25 : Df K mg "_law_with" s_law_with ["lines", "k", "line"] := ⟨_, _, F25, PySem.W.mg_of X G a25, F25.binds (ps := ["lines", "k", "line"]) fun _ _ _ _ _ _ us hl => match us, hl with | [_, _, _], _ => rfl⟩
  have F26 := fun_mk (st := s_law_wrong) l26 c26 k26
  have D26 : Df K mg "_law_wrong" s_law_wrong ["lines", "k"] := ⟨_, _, F26, PySem.W.mg_of X G a26, F26.binds (ps := ["lines", "k"]) fun _ _ _ _ _ _ us hl => match us, hl with | [_, _], _ => rfl⟩
  have F27 := fun_mk (st := s_law_replaced) l27 c27 k27
  have D27 : Df K mg "_law_replaced" s_law_replaced ["edit"] := ⟨_, _, F27, PySem.W.mg_of X G a27, F27.binds (ps := ["edit"]) fun _ _ _ _ _ _ us hl => match us, hl with | [_], _ => rfl⟩
  have F28 := fun_mk (st := s_law) l28 c28 k28
  refine ⟨PySem.W.fnOf "law" "law" (defArgs s_law) (defBody s_law) (defScope s_law) .none kV28 dc28 pm28 an28 cd28 ct28, fun s v => .of_eq rfl, fun base _ _ => ?_⟩
  have G_find_head := ok_find_head (P := l.prog) (w := w) (base := base) D2 T rfl 
  have G_without_line := ok_without_line (P := l.prog) (w := w) (base := base) D6 T rfl 
  have G_without_heads := ok_without_heads (P := l.prog) (w := w) (base := base) D7 T rfl G_find_head G_without_line
  have G_find_line := ok_find_line (P := l.prog) (w := w) (base := base) D1 T rfl 
  have G_settle := ok_settle (P := l.prog) (w := w) (base := base) D3 T rfl G_find_line
  have G_with_new_line := ok_with_new_line (P := l.prog) (w := w) (base := base) D8 T rfl G_find_line G_settle
  have G_first_replaced := ok_first_replaced (P := l.prog) (w := w) (base := base) D9 T rfl 
  have G_after_text := ok_after_text (P := l.prog) (w := w) (base := base) D10 T rfl G_without_heads G_with_new_line G_first_replaced
  have G_stands_in := ok_stands_in (P := l.prog) (w := w) (base := base) D4 T rfl G_find_line
  have G_move_line := ok_move_line (P := l.prog) (w := w) (base := base) D5 T rfl G_find_line G_find_head G_settle G_stands_in
  have G_after_move := ok_after_move (P := l.prog) (w := w) (base := base) D11 T rfl G_move_line
  have G_lines_after := ok_lines_after (P := l.prog) (w := w) (base := base) D12 T rfl G_without_heads G_with_new_line G_after_text G_after_move
  have G_are_ascending := ok_are_ascending (P := l.prog) (w := w) (base := base) D13 T rfl 
  have G_heads_differ := ok_heads_differ (P := l.prog) (w := w) (base := base) D14 T rfl 
  have G_stands_soundly := ok_stands_soundly (P := l.prog) (w := w) (base := base) D15 T rfl 
  have G_all_are_reached := ok_all_are_reached (P := l.prog) (w := w) (base := base) D16 T rfl 
  have G_lines_sound := ok_lines_sound (P := l.prog) (w := w) (base := base) D17 T rfl G_are_ascending G_heads_differ G_stands_soundly G_all_are_reached
  have G_law_rows := ok_law_rows (P := l.prog) (w := w) (base := base) D18 T rfl 
  have G_law_pick := ok_law_pick (P := l.prog) (w := w) (base := base) D20 T rfl 
  have G_law_path := ok_law_path (P := l.prog) (w := w) (base := base) D19 T rfl 
  have G_law_place := ok_law_place (P := l.prog) (w := w) (base := base) D21 T rfl G_law_path G_law_pick
  have G_law_heads := ok_law_heads (P := l.prog) (w := w) (base := base) D22 T rfl G_law_pick
  have G_law_edit := ok_law_edit (P := l.prog) (w := w) (base := base) D23 T rfl G_law_pick G_law_place G_law_heads
  have G_law_edits := ok_law_edits (P := l.prog) (w := w) (base := base) D24 T rfl G_law_rows G_law_edit
  have G_law_with := ok_law_with (P := l.prog) (w := w) (base := base) D25 T rfl 
  have G_law_wrong := ok_law_wrong (P := l.prog) (w := w) (base := base) D26 T rfl G_law_with
  have G_law_replaced := ok_law_replaced (P := l.prog) (w := w) (base := base) D27 T rfl 
  exact ok_law F28 T rfl G_lines_after G_lines_sound G_law_edits G_law_wrong G_law_replaced
end K14
open PySem PySem.W PyProof.Rows
set_option maxHeartbeats 0 in
theorem PySem.Challenge.cw_foldkeep_k14_lines_stay_sound_holds : PySem.Challenge.rw_foldkeep_k14_lines_stay_sound.Holds := by
  w_on; o_law; k_head; (case hw => w_witness2)
  k_fill
  refine L2.walk_of (l := PySem.Challenge.rw_foldkeep_k14_lines_stay_sound) (n := 63) (k := 6) (x := "script") (CX := fun _ => L2.CX0) (sp := fun w => Lw.spLaw _) rfl (by decide) rfl ⟨rfl, by decide, by decide⟩ (fun w h Y => PySem.W.kIn_of Y) ?F (fun _ _ a ns hl _ hS => ⟨a, ns, rfl, hS, hl, fun _ => rfl⟩) (fun _ _ _ _ _ h => h)
  case F =>
    intro w mg fa h KX G hmg
    refine' K14.all_mk KX G hmg ?a1 ?l1 ?c1 ?k1 ?a2 ?l2 ?c2 ?k2 ?a3 ?l3 ?c3 ?k3 ?a4 ?l4 ?c4 ?k4 ?a5 ?l5 ?c5 ?k5 ?a6 ?l6 ?c6 ?k6 ?a7 ?l7 ?c7 ?k7 ?a8 ?l8 ?c8 ?k8 ?a9 ?l9 ?c9 ?k9 ?a10 ?l10 ?c10 ?k10 ?a11 ?l11 ?c11 ?k11 ?a12 ?l12 ?c12 ?k12 ?a13 ?l13 ?c13 ?k13 ?a14 ?l14 ?c14 ?k14 ?a15 ?l15 ?c15 ?k15 ?a16 ?l16 ?c16 ?k16 ?a17 ?l17 ?c17 ?k17 ?a18 ?l18 ?c18 ?k18 ?a19 ?l19 ?c19 ?k19 ?a20 ?l20 ?c20 ?k20 ?a21 ?l21 ?c21 ?k21 ?a22 ?l22 ?c22 ?k22 ?a23 ?l23 ?c23 ?k23 ?a24 ?l24 ?c24 ?k24 ?a25 ?l25 ?c25 ?k25 ?a26 ?l26 ?c26 ?k26 ?a27 ?l27 ?c27 ?k27 ?a28 ?l28 ?c28 ?k28 ?z1 ?z2 ?z3 ?z4 ?z5 ?z6 ?z7 ?z8
    (case a1 => k_is); (case l1 => k_is); (case c1 => k_is); (case k1 => k_is)
    (case a2 => k_is); (case l2 => k_is); (case c2 => k_is); (case k2 => k_is)
    (case a3 => k_is); (case l3 => k_is); (case c3 => k_is); (case k3 => k_is)
    (case a4 => k_is); (case l4 => k_is); (case c4 => k_is); (case k4 => k_is)
    (case a5 => k_is); (case l5 => k_is); (case c5 => k_is); (case k5 => k_is)
    (case a6 => k_is); (case l6 => k_is); (case c6 => k_is); (case k6 => k_is)
    (case a7 => k_is); (case l7 => k_is); (case c7 => k_is); (case k7 => k_is)
    (case a8 => k_is); (case l8 => k_is); (case c8 => k_is); (case k8 => k_is)
    (case a9 => k_is); (case l9 => k_is); (case c9 => k_is); (case k9 => k_is)
    (case a10 => k_is); (case l10 => k_is); (case c10 => k_is); (case k10 => k_is)
    (case a11 => k_is); (case l11 => k_is); (case c11 => k_is); (case k11 => k_is)
    (case a12 => k_is); (case l12 => k_is); (case c12 => k_is); (case k12 => k_is)
    (case a13 => k_is); (case l13 => k_is); (case c13 => k_is); (case k13 => k_is)
    (case a14 => k_is); (case l14 => k_is); (case c14 => k_is); (case k14 => k_is)
    (case a15 => k_is); (case l15 => k_is); (case c15 => k_is); (case k15 => k_is)
    (case a16 => k_is); (case l16 => k_is); (case c16 => k_is); (case k16 => k_is)
    (case a17 => k_is); (case l17 => k_is); (case c17 => k_is); (case k17 => k_is)
    (case a18 => k_is); (case l18 => k_is); (case c18 => k_is); (case k18 => k_is)
    (case a19 => k_is); (case l19 => k_is); (case c19 => k_is); (case k19 => k_is)
    (case a20 => k_is); (case l20 => k_is); (case c20 => k_is); (case k20 => k_is)
    (case a21 => k_is); (case l21 => k_is); (case c21 => k_is); (case k21 => k_is)
    (case a22 => k_is); (case l22 => k_is); (case c22 => k_is); (case k22 => k_is)
    (case a23 => k_is); (case l23 => k_is); (case c23 => k_is); (case k23 => k_is)
    (case a24 => k_is); (case l24 => k_is); (case c24 => k_is); (case k24 => k_is)
    (case a25 => k_is); (case l25 => k_is); (case c25 => k_is); (case k25 => k_is)
    (case a26 => k_is); (case l26 => k_is); (case c26 => k_is); (case k26 => k_is)
    (case a27 => k_is); (case l27 => k_is); (case c27 => k_is); (case k27 => k_is)
    (case a28 => k_is); (case l28 => k_is); (case c28 => k_is); (case k28 => k_is)
    (case z1 => k_is); (case z2 => k_is); (case z3 => k_is); (case z4 => k_is)
    (case z5 => k_is); (case z6 => k_is); (case z7 => k_is); (case z8 => k_is)
#print axioms PySem.Challenge.cw_foldkeep_k14_lines_stay_sound_holds
