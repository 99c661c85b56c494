import PyProof.Rows.All
import Wide.All
import OpenK.AllK
import Wide.FinOn
import HandS.ForMost
import HandS.Codes
import HandS.Evl
import HandS.IsInst
import HandS.FStr
import HandS.StrMore
import KE.DataEq
import HandS.SetKeys
import HandS.MakeKwOnly
import HandS.SetFor
import HandS.Strs
import HandS.Conv
import KE.KeyNested
import PyProof.DictFindH
import PyProof.DictRoadsH
import PyProof.DictMoreH
import KE.KDictKeyed
import HandS.TupAny
import HandS.Star
import HandS.Lambda
import HandS.Steps
import HandS.Ends
import HandS.SortKw
import KE.DataMinMax
import HandS.DictComp
import HandS.Zip
import KE.DataCmp
import KE.SortData
import KE.KDictSum
import KE.KDictCopyH
import HandS.TupLe
import KE.SortKeyHeap
import HandS.EndTab
import KE.KPairComp
import KE.KDictWalk
import PyProof.DictItems
import HandS.More
import HandS.Style
import HandS.Exc
import HandS.ExcOwn
import HandS.TryOnly
import HandS.WordsExc
import PyProof.RulesDelMore
import HandS.CallLocal
import HandS.Replace
import PySem.Challenge.RW_foldkeep_k74_scripts_read_back
set_option Elab.async false
set_option linter.all false
set_option maxRecDepth 100000
set_option maxHeartbeats 4000000
namespace Lw
open PySem PySem.Spec PyProof.Rows L2 Evl
section
variable {K : PySem.W.Frag} {σ : L2.St} {H H' : Hp} {ta tb te tx : TE} {t u : TT} {x y z v : V}
def rMulStr : R2 := fun x y H Q => ∃ (a : Str) (n : Int), x = .str a ∧ y = .int n ∧ 1 ≤ n ∧ n ≤ 20000 ∧ a.length ≤ 200 ∧ Q (.str (Txt.mul a n)) H
theorem op_mul_str {X : Cx} : OpR X (binaryOp .Mult) rMulStr := by
  intro pins s σ H x y v u Q I rx ry h
  obtain ⟨a, n, rfl, rfl, h1, h2, h3, q⟩ := h
  obtain ⟨t, rfl⟩ := rx
  obtain ⟨t', rfl⟩ := ry
  refine SB.mul (n := n) ⟨?_, fun _ _ => ?_, fun _ _ => ?_⟩ fun t' k => ⟨.str (Txt.mul a n), H, I.tok _, ⟨_, rfl⟩, q⟩
  · rw [decide_eq_false (by omega), decide_eq_false (by omega)]
    rfl
  · have : (2 ^ 63 - 1) / n ≥ 200 := by
      refine (Int.le_ediv_iff_mul_le (by omega)).mpr ?_
      omega
    omega
  · have e : a.length * n.toNat ≤ 200 * 20000 := Nat.mul_le_mul h3 (by omega)
    exact decide_eq_false (by show ¬ a.length * n.toNat > 2 ^ 24; omega)
end
section
variable {σ : L2.St} {H H' : Hp} {te : TE} {D : Ends} {tu tz : TS} {g : TG}
end
section
variable {K : PySem.W.Frag} {σ : L2.St} {H H' : Hp} {te : TE} {D : Ends} {tu tz : TS} {g : TG}
end
section
variable {K : PySem.W.Frag} {H H' : Hp} {x y : V}
end
theorem len_S (l : List Nat) : (SX.S l).length = l.length := SX.S_len l
theorem cut_mid (l : List Nat) (a b : Nat) : cutS (SX.S l) (some (a : Int)) (some (b : Int)) = SX.S ((l.drop a).take (b - a)) := by
  unfold cutS
  rw [len_S, HT.sIx_nat, HT.sIx_nat]
  show SX.S ((l.drop (min a l.length)).take (min b l.length - min a l.length)) = _
  refine congrArg SX.S ?_
  by_cases h : a ≤ l.length
  · rw [Nat.min_eq_left h, List.take_eq_take_iff, List.length_drop]
    omega
  · rw [Nat.min_eq_right (show l.length ≤ a by omega), List.drop_eq_nil_of_le (Nat.le_refl _), List.drop_eq_nil_of_le (show l.length ≤ a by omega)]
    simp
theorem cut_to (l : List Nat) (b : Nat) : cutS (SX.S l) none (some (b : Int)) = SX.S (l.take b) := by
  unfold cutS
  rw [len_S, HT.sIx_nat, HT.sIx_none]
  show SX.S ((l.drop 0).take (min b l.length - 0)) = _
  refine congrArg SX.S ?_
  rw [List.drop_zero, List.take_eq_take_iff]
  omega
theorem cut_from (l : List Nat) (a : Nat) : cutS (SX.S l) (some (a : Int)) none = SX.S (l.drop a) := by
  unfold cutS
  rw [len_S, HT.sIx_nat, HT.sIx_none]
  show SX.S ((l.drop (min a l.length)).take (l.length - min a l.length)) = _
  refine congrArg SX.S ?_
  by_cases h : a ≤ l.length
  · rw [Nat.min_eq_left h]
    exact List.take_of_length_le (by rw [List.length_drop]; omega)
  · rw [Nat.min_eq_right (show l.length ≤ a by omega), List.drop_eq_nil_of_le (Nat.le_refl _), List.drop_eq_nil_of_le (show l.length ≤ a by omega)]
    simp
theorem join_ones : ∀ l : List Nat, Txt.join (SX.S []) (l.map fun c => SX.S [c]) = SX.S l := fun l => by
  have e : (l.map fun c => SX.S [c]) = (l.map fun c => [c]).map SX.S := by rw [List.map_map]; rfl
  rw [e, SX.join_S]
  refine congrArg SX.S ?_
  induction l with
  | nil => rfl
  | cons c l ih =>
    cases l with
    | nil => rfl
    | cons d l =>
      show [c] ++ ([] ++ TL.joinL [] (((d :: l).map fun c => [c]))) = _
      rw [ih (by rw [List.map_map]; rfl)]
      rfl
theorem sum_ones (l : List Nat) : ((l.map fun c => SX.S [c]).map (·.length)).sum = l.length := by
  induction l with
  | nil => rfl
  | cons c l ih =>
    rw [List.map_cons, List.map_cons, List.sum_cons, ih, len_S]
    simp [Nat.add_comm]
def rEqP (K : PySem.W.Frag) : R2 := fun x y H Q => ∃ d e, Dp K H x d ∧ Dp K H y e ∧ d.plain = true ∧ e.plain = true ∧ d.depth ≤ 60 ∧ Q (.bl (PyData.eqv d e)) H
def rNeP (K : PySem.W.Frag) : R2 := fun x y H Q => ∃ d e, Dp K H x d ∧ Dp K H y e ∧ d.plain = true ∧ e.plain = true ∧ d.depth ≤ 60 ∧ Q (.bl (!PyData.eqv d e)) H
theorem op_eqP {X : Cx} (hu : X.A.units + 64 < cLine) : OpR X (compareOp .Eq) (rEqP X.K) := by
  intro pins s σ H x y v u Q I rx ry h
  obtain ⟨d, e, hd, he, pd, pe, dd, q⟩ := h
  obtain ⟨as, r1⟩ := Dp.reads I d x v hd rx
  obtain ⟨bs, r2⟩ := Dp.reads I e y u he ry
  exact SeqAt.eq_plain r1 r2 pd pe (by omega) ⟨.bl _, H, I, rfl, q⟩
theorem op_neP {X : Cx} (hu : X.A.units + 64 < cLine) : OpR X (compareOp .NotEq) (rNeP X.K) := by
  intro pins s σ H x y v u Q I rx ry h
  obtain ⟨d, e, hd, he, pd, pe, dd, q⟩ := h
  obtain ⟨as, r1⟩ := Dp.reads I d x v hd rx
  obtain ⟨bs, r2⟩ := Dp.reads I e y u he ry
  exact SeqAt.ne_plain r1 r2 pd pe (by omega) ⟨.bl _, H, I, rfl, q⟩
section
variable {K : PySem.W.Frag} {σ : L2.St} {H H' : Hp} {ta tb te : TE} {x y z v : V} {r : R2}
theorem depth_strs : ∀ ys : List Str, PyData.depthAll (ys.map PyData.str) = 0
  | [] => rfl
  | _ :: ys => by
    show max 0 (PyData.depthAll (ys.map PyData.str)) = 0
    rw [depth_strs ys]
    rfl
end
theorem join_cut : ∀ (l acc : List Nat), TL.joinL [47] (TL.spl [47] 0 acc l) = acc ++ l ∧ TL.spl [47] 0 acc l ≠ []
  | [], acc => by
    rw [TL.spl_nil]
    exact ⟨(List.append_nil acc).symm, by simp⟩
  | c :: r, acc => by
    by_cases h : TL.pre [47] (c :: r) = true
    · have hc : c = 47 := by
        simp [TL.pre] at h
        exact h
      rw [TL.spl_hit h]
      show TL.joinL [47] (acc :: TL.spl [47] 0 [] r) = acc ++ c :: r ∧ _
      obtain ⟨i1, i2⟩ := join_cut r []
      refine ⟨?_, by simp⟩
      cases hs : TL.spl [47] 0 [] r with
      | nil => exact absurd hs i2
      | cons x xs =>
        show acc ++ ([47] ++ TL.joinL [47] (x :: xs)) = _
        rw [← hs, i1, hc]
        rfl
    · have h' : TL.pre [47] (c :: r) = false := by
        cases hb : TL.pre [47] (c :: r) with
        | true => exact absurd hb h
        | false => rfl
      rw [TL.spl_miss h']
      obtain ⟨i1, i2⟩ := join_cut r (acc ++ [c])
      exact ⟨by rw [i1, List.append_assoc]; rfl, i2⟩
section
variable {K : PySem.W.Frag} {σ : L2.St} {H H' : Hp} {te : TE} {D : Ends} {tz : TS}
end
structure Df (K : PySem.W.Frag) (mg : Str → Option Value) (x : Str) (st : Stmt) (ps : List Str) : Prop where
  ex : ∃ (f : Addr) (fd : FuncData), L2.Fun K x x st f fd ∧ mg x = some (.ref f) ∧ Binds K fd ps []
theorem Df.cal {P : Program} {w : World} {K : PySem.W.Frag} {mg : Str → Option Value} {base : Heap} {x : Str} {st : Stmt} {N ps : List Str} {k : Nat} {sp : Sp} (D : Df K mg x st ps) (S : FnScope N ps (defScope st)) (len : ∀ vs H Q E, sp vs H Q E → vs.length = ps.length)
    (hbody : ∀ (f : Addr) (cdv : Value) (A : Around) (outer : List Env) (s : Shared) (H : Hp) (vs : List V) (Q : VK) (E : XK), Room k (A.deeper (envOfC x (defScope st) s.heap.objs.size f cdv)) → sp vs H Q E →
      ∃ t, PSs (cxOf L2.CX0 P w K mg base N x (defScope st) f cdv A outer s H E).nox (defBody st) t ∧ t { nx := fun _ H' => Q .non H', rt := Q } (start N vs) H) : C8.Cal P w K mg base (k + 1) x sp [] := by
  obtain ⟨f, fd, F, hm, hb⟩ := D.ex
  exact ⟨f, fd, ps, [], F.ok S len (hbody f), hm, F.kp, hb, .nil⟩
section
variable {K : PySem.W.Frag} {σ : L2.St} {H H' : Hp} {te td ty tx ts : TE} {tt : TT} {D : Ends} {tz tu : TS} {x v : V}
end
theorem eqv_strs : ∀ a b : List Str, PyData.eqvAll (a.map PyData.str) (b.map PyData.str) = decide (a = b)
  | [], [] => by rw [List.map_nil, PyData.eqvAll]; rfl
  | [], _ :: _ => by rw [List.map_nil, List.map_cons, PyData.eqvAll]; simp
  | _ :: _, [] => by rw [List.map_nil, List.map_cons, PyData.eqvAll]; simp
  | x :: xs, y :: ys => by
    rw [List.map_cons, List.map_cons, PyData.eqvAll, eqv_strs xs ys, PyData.eqv]
    by_cases h : x = y
    · rw [h, beq_self_eq_true]
      simp
    · have h1 : (x == y) = false := beq_eq_false_iff_ne.mpr h
      rw [h1]
      simp [h]
theorem take_up {α : Type} {l : List α} {i : Nat} {q : α} (h : l[i]? = some q) : l.take (i + 1) = l.take i ++ [q] := by
  rw [List.take_add_one, h]
  rfl
end Lw
namespace Dk
open PySem SeqAt
variable {prog : Program} {w : World} {A : Around} {E : Value → Shared → Prop} {s : Shared}
def KeyAt (h : Heap) (k : NestedKey) (v : Value) : Prop := NestedIs h k v ∧ k.depth ≤ 8
structure Ks (w : World) (h : Heap) (es : Array DictEntry) (xs : List NestedKey) : Prop where
  sz : es.size = xs.length
  ent : ∀ (i : Nat) k, xs[i]? = some k → ∃ e, es[i]? = some e ∧ e.hash = k.hash w ∧ KeyAt h k e.key
  nd : xs.Nodup
theorem Ks.key {h : Heap} {es : Array DictEntry} {xs : List NestedKey} (H : Ks w h es xs) {i : Nat} {e : DictEntry} (he : es[i]? = some e) : ∃ k, xs[i]? = some k ∧ e.hash = k.hash w ∧ KeyAt h k e.key := by
  obtain ⟨hi, _⟩ := Array.getElem?_eq_some_iff.mp he
  rw [H.sz] at hi
  obtain ⟨e', h1, h2, h3⟩ := H.ent i xs[i] (List.getElem?_eq_getElem hi)
  rw [h1] at he
  cases he
  exact ⟨_, List.getElem?_eq_getElem hi, h2, h3⟩
theorem nodup_idx {α : Type} {xs : List α} (hn : xs.Nodup) {i j : Nat} {k : α} (hi : xs[i]? = some k) (hj : xs[j]? = some k) : i = j := by
  obtain ⟨h1, _⟩ := List.getElem?_eq_some_iff.mp hi
  exact (List.getElem?_inj h1 hn).mp (hi.trans hj.symm)
theorem quiet_at {k : NestedKey} {v : Value} {Q : Bool → Shared → Prop} (hk : KeyAt s.heap k v) (h : Q true s) : wpAny (model prog w) A (eqIsQuiet 8 v) Q E s := quiet_key k v 8 s hk.1 hk.2 A E Q h
theorem eq_at {x y : NestedKey} {a b : Value} {Q : Bool → Shared → Prop} (hu : A.units + 8 < cLine) (hx : KeyAt s.heap x a) (hy : KeyAt s.heap y b) (h : Q (decide (x = y)) s) : wpAny (model prog w) A (eqBool a b) Q E s :=
  eqAt_key x y A s a b hx.1 hy.1 (by have := hx.2; omega) prog w E Q (by rw [← NestedKey.decide_eq]; exact h)
theorem hash_at {k : NestedKey} {v : Value} {Q : Int → Shared → Prop} (hu : A.units + 8 < cLine) (hk : KeyAt s.heap k v) (h : Q (k.hash w) { s with toks := s.toks + k.draws }) : wpAny (model prog w) A (pyHash v) Q E s :=
  pyHash_key k v A s Q hk.1 (by have := hk.2; omega) h
theorem tells_not {key : Value} {k : NestedKey} {stored : List Value} {Q : Bool → Shared → Prop} (hk : KeyAt s.heap k key) (hst : ∀ v ∈ stored, ∃ k', KeyAt s.heap k' v) (h : Q false s) : wpAny (model prog w) A (tableMayTell key stored) Q E s := by
  unfold tableMayTell
  split
  · exact wpAny_pure h
  · refine wpAny_bind (quiet_at hk ?_)
    refine wpAny_bind ?_
    refine wpAny_forIn_list _ (fun rest r s' => s' = s ∧ r = (none, ()) ∧ ∀ v ∈ rest, ∃ k', KeyAt s.heap k' v) _ ?_ ?_ _ _ ⟨rfl, rfl, hst⟩
    · rintro v rest r s' ⟨rfl, rfl, hr⟩
      obtain ⟨k', hk'⟩ := hr v List.mem_cons_self
      exact wpAny_bind (quiet_at hk' (wpAny_pure ⟨rfl, rfl, fun u hu => hr u (List.mem_cons_of_mem _ hu)⟩))
    · rintro r s' ⟨rfl, rfl, _⟩
      exact wpAny_pure h
section
variable {d : Addr} {o : Obj} {es : Array DictEntry} {ep : Nat} {xs : List NestedKey} {k : NestedKey} {key : Value}
abbrev plc (es : Array DictEntry) (h : Int) : List Nat := placesWithHash es.size (fun i => es[i]?.map (·.hash)) h
theorem plc_nd (es : Array DictEntry) (h : Int) : (plc es h).Nodup := List.nodup_range.filter _
theorem plc_mem {h : Heap} (H : Ks w h es xs) {i : Nat} (hi : xs[i]? = some k) : i ∈ plc es (k.hash w) := by
  obtain ⟨e, h1, h2, _⟩ := H.ent i k hi
  refine List.mem_filter.mpr ⟨List.mem_range.mpr ?_, ?_⟩
  · exact (Array.getElem?_eq_some_iff.mp h1).1
  · show (es[i]?.map (·.hash) == some (k.hash w)) = true
    rw [h1, Option.map_some, h2]
    exact beq_self_eq_true _
theorem plc_of {h : Int} {i : Nat} (hi : i ∈ plc es h) : ∃ e, es[i]? = some e ∧ e.hash = h := by
  obtain ⟨_, h2⟩ := List.mem_filter.mp hi
  cases he : es[i]? with
  | none => simp [he] at h2
  | some e =>
    refine ⟨e, rfl, ?_⟩
    simpa [he] using h2
theorem ite2 {α : Type} {c : Prop} [Decidable c] {a b : Sem α} {Q : α → Shared → Prop} (ha : c → wpAny (model prog w) A a Q E s) (hb : ¬ c → wpAny (model prog w) A b Q E s) : wpAny (model prog w) A (if c then a else b) Q E s := by
  split
  · exact ha ‹_›
  · exact hb ‹_›
theorem walk_plain {Q : Option Nat → Shared → Prop} (hu : A.units + 8 < cLine) (hk : KeyAt s.heap k key) (ho : s.heap.get? d = some o) (hd : o.data = .dict es ep) (H : Ks w s.heap es xs)
    (h0 : k ∉ xs → Q none s) (h1 : ∀ i, xs[i]? = some k → Q (some i) s) : wpAny (model prog w) A (dictWalkPlain d key (k.hash w) es (plc es (k.hash w))) Q E s := by
  unfold dictWalkPlain
  refine wpAny_bind ?_
  refine wpAny_forIn_list _ (fun rest b s' => s' = s ∧ b = (none, ()) ∧ ∃ pre, plc es (k.hash w) = pre ++ rest ∧ ∀ i ∈ pre, xs[i]? ≠ some k) _ ?_ ?_ _ _ ⟨rfl, rfl, [], rfl, fun i hi => by cases hi⟩
  · rintro x rest b s' ⟨rfl, rfl, pre, hp, hno⟩
    obtain ⟨e, he, hh⟩ := plc_of (show x ∈ plc es (k.hash w) by rw [hp]; exact List.mem_append.mpr (.inr List.mem_cons_self))
    obtain ⟨k', hk', _, hk2⟩ := H.key he
    simp only [he]
    rw [if_pos (by rw [hh]; exact beq_self_eq_true _)]
    refine wpAny_bind (wpAny_dictEpoch ho hd (wpAny_bind (eq_at hu hk2 hk (wpAny_bind (wpAny_dictEpoch ho hd ?_)))))
    simp only [bne_self_eq_false, Bool.false_eq_true, if_false]
    by_cases hkk : k' = k
    · rw [decide_eq_true hkk]
      subst hkk
      exact wpAny_bind (wpAny_rule (wpAny_pure (wpAny_pure (h1 x hk'))))
    · rw [decide_eq_false hkk]
      refine wpAny_bind (wpAny_rule (wpAny_pure ⟨rfl, rfl, pre ++ [x], by rw [hp, List.append_assoc]; rfl, fun i hi => ?_⟩))
      rcases List.mem_append.mp hi with hi | hi
      · exact hno i hi
      · rw [List.mem_singleton.mp hi, hk']
        exact fun z => hkk (Option.some.inj z)
  · rintro b s' ⟨rfl, rfl, pre, hp, hno⟩
    refine wpAny_pure (h0 fun hm => ?_)
    obtain ⟨i, hi⟩ := List.mem_iff_getElem?.mp hm
    have := plc_mem H hi
    rw [hp, List.append_nil] at this
    exact hno i this hi
theorem isStr_at {h : Heap} {x : Str} {v : Value} (hk : KeyAt h k v) (hs : isExactStrKey v = true) : v.isStr x = decide (k = .text x) := by
  obtain ⟨hk, _⟩ := hk
  cases hk with
  | none => cases hs
  | bool _ => cases hs
  | int _ _ => cases hs
  | tup _ _ _ _ => cases hs
  | text y t =>
    by_cases e : y = x
    · subst e
      simp [Value.isStr]
    · simp [Value.isStr, e]
theorem found_text {Q : Option Nat → Shared → Prop} {x : Str} {t : Tok} (hu : A.units + 8 < cLine) (hk : KeyAt s.heap k (.str x t)) (ho : s.heap.get? d = some o) (hd : o.data = .dict es ep) (H : Ks w s.heap es xs) (hall : (es.all fun e => isExactStrKey e.key) = true)
    (h0 : k ∉ xs → Q none s) (h1 : ∀ i, xs[i]? = some k → Q (some i) s) : wpAny (model prog w) A (foundByValue d (.str x t) es x) Q E s := by
  have ek : k = .text x := by
    obtain ⟨hk, _⟩ := hk
    cases hk
    rfl
  have hal : ∀ (i : Nat) e, es[i]? = some e → isExactStrKey e.key = true := fun i e he => by
    obtain ⟨hi, rfl⟩ := Array.getElem?_eq_some_iff.mp he
    exact Array.all_eq_true.mp hall i hi
  unfold foundByValue
  cases hf : es.findIdx? (fun e => e.key.isStr x) with
  | none =>
    refine wpAny_pure (h0 fun hm => ?_)
    obtain ⟨i, hi⟩ := List.mem_iff_getElem?.mp hm
    obtain ⟨e, he, _, hke⟩ := H.ent i k hi
    have := Array.findIdx?_eq_none_iff.mp hf e (Array.mem_of_getElem? he)
    rw [isStr_at hke (hal i e he), ek] at this
    simp at this
  | some i =>
    obtain ⟨hlt, hi, _⟩ := Array.findIdx?_eq_some_iff_getElem.mp hf
    have he : es[i]? = some es[i] := Array.getElem?_eq_getElem hlt
    obtain ⟨k', hk', _, hk2⟩ := H.key he
    rw [isStr_at hk2 (hal i _ he)] at hi
    have hkk : k' = k := (of_decide_eq_true hi).trans ek.symm
    simp only [he]
    refine wpAny_bind (wpAny_dictEpoch ho hd (wpAny_bind (eq_at hu hk2 hk (wpAny_bind (wpAny_dictEpoch ho hd ?_)))))
    simp only [bne_self_eq_false, Bool.false_eq_true, if_false]
    rw [decide_eq_true hkk]
    subst hkk
    exact wpAny_bind (wpAny_rule (wpAny_pure (h1 i hk')))
theorem find_data {Q : Option Nat → Shared → Prop} (hu : A.units + 8 < cLine) (hk : KeyAt s.heap k key) (ho : s.heap.get? d = some o) (hd : o.data = .dict es ep) (H : Ks w s.heap es xs)
    (h0 : k ∉ xs → Q none s) (h1 : ∀ i, xs[i]? = some k → Q (some i) s) : wpAny (model prog w) A (dictFind d key (k.hash w)) Q E s := by
  have hst : ∀ v ∈ (plc es (k.hash w)).filterMap (fun i => es[i]?.map (·.key)), ∃ k', KeyAt s.heap k' v := by
    intro v hv
    obtain ⟨i, _, hi⟩ := List.mem_filterMap.mp hv
    cases he : es[i]? with
    | none => rw [he] at hi; cases hi
    | some e =>
      rw [he] at hi
      obtain ⟨k', _, _, hk'⟩ := H.key he
      obtain rfl : e.key = v := by simpa using hi
      exact ⟨k', hk'⟩
  have hany : (es.any fun e => e.key == key && e.hash != k.hash w) = false := by
    rw [Bool.eq_false_iff]
    intro hc
    obtain ⟨i, hi, hc⟩ := Array.any_eq_true.mp hc
    obtain ⟨k', _, hh, hk'⟩ := H.key (Array.getElem?_eq_getElem hi)
    simp only [Bool.and_eq_true, beq_iff_eq, bne_iff_ne, ne_eq] at hc
    rw [hc.1] at hk'
    exact hc.2 (by rw [hh, NestedIs.inj _ _ _ hk'.1 hk.1])
  have old : wpAny (model prog w) A (dictWalkPlain d key (k.hash w) es (plc es (k.hash w))) Q E s := walk_plain hu hk ho hd H h0 h1
  have hk0 := hk
  obtain ⟨hn, hdp⟩ := hk
  obtain ⟨k0, hek, hn⟩ : ∃ k0, k0 = k ∧ NestedIs s.heap k0 key := ⟨k, rfl, hn⟩
  unfold dictFind
  refine wpAny_holding ?_
  refine wpAny_bind (wpAny_dictEntries ho hd ?_)
  cases hn
  case' none => dsimp only; refine ite2 (fun _ => old) fun _ => ?_
  case' bool => dsimp only; refine ite2 (fun _ => old) fun _ => ?_
  case' int => dsimp only; refine ite2 (fun _ => old) fun _ => ?_
  case' text x t => dsimp only; refine ite2 (fun hall => found_text hu hk0 ho hd H hall h0 h1) fun _ => ite2 (fun _ => old) fun _ => ?_
  case' tup => dsimp only; refine ite2 (fun hc => by simp [carriedByValue] at hc) fun _ => ite2 (fun hc => by rw [hany] at hc; cases hc) fun _ => ?_
  all_goals refine ite2 (fun _ => wpAny_bind (L2.thn (Q := fun b s' => b = false ∧ s' = s) (wpAny_pure ⟨rfl, rfl⟩) fun b s' hb => ?_)) fun _ => wpAny_bind (L2.thn (Q := fun b s' => b = false ∧ s' = s) (tells_not hk0 hst ⟨rfl, rfl⟩) fun b s' hb => ?_)
  all_goals obtain ⟨rfl, rfl⟩ := hb
  all_goals refine ite2 (fun hc => by simp at hc) fun _ => wpAny_bind ?_
  all_goals refine wpAny_forIn_list _ (fun rest b s1 => s1 = s' ∧ ∃ pre hit, b = (none, hit) ∧ plc es (k.hash w) = pre ++ rest ∧ ((hit = none ∧ ∀ i ∈ pre, xs[i]? ≠ some k) ∨ ∃ j ∈ pre, hit = some j ∧ xs[j]? = some k)) _ ?_ ?_ _ _ ⟨rfl, [], none, rfl, rfl, .inl ⟨rfl, fun i hi => by cases hi⟩⟩
  all_goals first
    | (rintro b1 s1 ⟨rfl, pre, hit, rfl, hp, hH⟩
       rw [List.append_nil] at hp
       rcases hH with ⟨rfl, hno⟩ | ⟨j, _, rfl, h3⟩
       · refine wpAny_pure (h0 fun hm => ?_)
         obtain ⟨i, hi⟩ := List.mem_iff_getElem?.mp hm
         exact hno i (hp ▸ plc_mem H hi) hi
       · exact wpAny_pure (h1 j h3))
    | skip
  all_goals
    rintro x rest b1 s1 ⟨rfl, pre, hit, rfl, hp, hH⟩
    obtain ⟨e, he, hh⟩ := plc_of (show x ∈ plc es (k.hash w) by rw [hp]; exact List.mem_append.mpr (.inr List.mem_cons_self))
    obtain ⟨k', hk', _, hk2⟩ := H.key he
    have hnx : x ∉ pre := fun hx => by
      have := plc_nd es (k.hash w)
      rw [hp] at this
      exact (List.nodup_append.mp this).2.2 x hx x List.mem_cons_self rfl
    simp only [he]
    refine ite2 (fun _ => ?_) fun hc => absurd (by rw [hh]; exact beq_self_eq_true _) hc
    refine wpAny_bind (wpAny_dictEpoch ho hd (wpAny_bind (eq_at hu hk2 hk0 (wpAny_bind (wpAny_dictEpoch ho hd ?_)))))
    refine ite2 (fun hc => by simp at hc) fun _ => ?_
    by_cases hkk : k' = k
    · refine ite2 (fun _ => ?_) fun hc => absurd (decide_eq_true hkk) hc
      subst hkk
      rcases hH with ⟨rfl, _⟩ | ⟨j, hj, _, hj2⟩
      · refine ite2 (fun hc => by simp at hc) fun _ => ?_
        refine wpAny_bind (wpAny_rule ?_)
        refine ite2 (fun _ => wpAny_pure (wpAny_pure (h1 x hk'))) fun _ => wpAny_pure ⟨rfl, pre ++ [x], some x, rfl, by rw [hp, List.append_assoc]; rfl, .inr ⟨x, List.mem_append.mpr (.inr (List.mem_singleton.mpr rfl)), rfl, hk'⟩⟩
      · exact absurd (nodup_idx H.nd hj2 hk' ▸ hj) hnx
    · refine ite2 (fun hc => absurd (of_decide_eq_true hc) hkk) fun _ => ?_
      refine wpAny_bind (wpAny_rule ?_)
      refine ite2 (fun hc => by simp at hc) fun _ => ?_
      refine wpAny_pure ⟨rfl, pre ++ [x], hit, rfl, by rw [hp, List.append_assoc]; rfl, ?_⟩
      rcases hH with ⟨rfl, hno⟩ | ⟨j, hj, h2, h3⟩
      · refine .inl ⟨rfl, fun i hi => ?_⟩
        rcases List.mem_append.mp hi with hi | hi
        · exact hno i hi
        · rw [List.mem_singleton.mp hi, hk']
          exact fun z => hkk (Option.some.inj z)
      · exact .inr ⟨j, List.mem_append.mpr (.inl hj), h2, h3⟩
end
end Dk
namespace Dk
open PySem SeqAt
variable {prog : Program} {w : World} {A : Around} {E : Value → Shared → Prop} {s : Shared}
abbrev En := NestedKey × Value × Value
def enE (w : World) (x : En) : DictEntry := ⟨x.1.hash w, x.2.1, x.2.2⟩
structure DAt (w : World) (h : Heap) (d : Addr) (xs : List En) (o : Obj) (es : Array DictEntry) (ep : Nat) : Prop where
  ob : h.get? d = some o
  ex : o.ExactDict
  da : o.data = .dict es ep
  en : es.toList = xs.map (enE w)
  ks : ∀ x ∈ xs, KeyAt h x.1 x.2.1
  nd : (xs.map (·.1)).Nodup
def DOf (w : World) (h : Heap) (d : Addr) (xs : List En) : Prop := ∃ o es ep, DAt w h d xs o es ep
def atV (xs : List En) (k : NestedKey) : Option Value := (xs.find? fun x => decide (x.1 = k)).map (·.2.2)
def putV (xs : List En) (k : NestedKey) (u v : Value) : List En := if k ∈ xs.map (·.1) then xs.map (fun x => if x.1 = k then (x.1, x.2.1, v) else x) else xs ++ [(k, u, v)]
section
variable {h : Heap} {d : Addr} {xs : List En} {o : Obj} {es : Array DictEntry} {ep : Nat} {k : NestedKey} {key : Value}
theorem DAt.at_ (H : DAt w h d xs o es ep) (i : Nat) : es[i]? = (xs[i]?).map (enE w) := by
  rw [← Array.getElem?_toList, H.en, List.getElem?_map]
theorem DAt.sz (H : DAt w h d xs o es ep) : es.size = xs.length := by rw [← Array.length_toList, H.en, List.length_map]
theorem DAt.kk (H : DAt w h d xs o es ep) : Ks w h es (xs.map (·.1)) where
  sz := by rw [H.sz, List.length_map]
  nd := H.nd
  ent := fun i k hi => by
    rw [List.getElem?_map] at hi
    obtain ⟨x, hx, rfl⟩ := Option.map_eq_some_iff.mp hi
    exact ⟨enE w x, by rw [H.at_, hx]; rfl, rfl, H.ks x (List.mem_of_getElem? hx)⟩
theorem atV_none {xs : List En} {k : NestedKey} (h : k ∉ xs.map (·.1)) : atV xs k = none := by
  unfold atV
  rw [List.find?_eq_none.mpr, Option.map_none]
  exact fun x hx => by simpa using fun e => h (List.mem_map.mpr ⟨x, hx, e⟩)
theorem atV_some : ∀ {xs : List En} {k : NestedKey} {i : Nat} {x : En}, (xs.map (·.1)).Nodup → xs[i]? = some x → x.1 = k → atV xs k = some x.2.2
  | [], _, _, _, _, h, _ => by simp at h
  | y :: ys, k, i, x, hn, h, e => by
    unfold atV
    rw [List.map_cons, List.nodup_cons] at hn
    by_cases hy : y.1 = k
    · rw [List.find?_cons_of_pos (by simpa using hy), Option.map_some]
      cases i with
      | zero => rw [List.getElem?_cons_zero] at h; cases h; rfl
      | succ i =>
        rw [List.getElem?_cons_succ] at h
        exact absurd (List.mem_map.mpr ⟨x, List.mem_of_getElem? h, e.trans hy.symm⟩) hn.1
    · rw [List.find?_cons_of_neg (by simpa using hy)]
      cases i with
      | zero => rw [List.getElem?_cons_zero] at h; cases h; exact absurd e hy
      | succ i =>
        rw [List.getElem?_cons_succ] at h
        exact atV_some hn.2 h e
theorem get_data {Q : Option Value → Shared → Prop} (hu : A.units + 8 < cLine) (hk : KeyAt s.heap k key) (H : DOf w s.heap d xs) (h : Q (atV xs k) { s with toks := s.toks + k.draws }) : wpAny (model prog w) A (dictGet d key) Q E s := by
  obtain ⟨o, es, ep, H⟩ := H
  unfold dictGet
  refine wpAny_holding (wpAny_bind (hash_at hu hk (wpAny_bind (find_data (s := { s with toks := s.toks + k.draws }) hu hk H.ob H.da H.kk (fun hn => ?_) fun i hi => ?_))))
  · rw [atV_none hn] at h
    exact wpAny_pure h
  · rw [List.getElem?_map] at hi
    obtain ⟨x, hx, e⟩ := Option.map_eq_some_iff.mp hi
    rw [atV_some H.nd hx e] at h
    refine wpAny_bind (wpAny_dictEntries (s := { s with toks := s.toks + k.draws }) H.ob H.da ?_)
    rw [H.at_, hx]
    exact wpAny_pure h
theorem KeyAt.but {h h' : Heap} {k : NestedKey} {v : Value} (hk : KeyAt h k v) {d : Addr} {o : Obj} {es ep} (ho : h.get? d = some o) (hd : o.data = .dict es ep) (hs : Heap.SameBut d h h') : KeyAt h' k v :=
  ⟨NestedIs.at (fun b ob vs n hb hc => (hs.2 b fun e => by
    subst e
    rw [ho] at hb
    cases hb
    rw [hd] at hc
    cases hc).trans hb) k v hk.1, hk.2⟩
theorem DOf.typeIs (H : DOf w s.heap d xs) : s.TypeIs (.ref d) "dict" := let ⟨o, _, _, H⟩ := H; ⟨o, H.ob, H.ex.1⟩
theorem DOf.new (h : Heap) : DOf w (h.push { cls := .type "dict", data := .dict #[] }) h.objs.size [] :=
  ⟨_, #[], 0, ⟨Heap.get?_push_size _ rfl, ⟨rfl, rfl, rfl⟩, rfl, rfl, (fun _ hx => by cases hx), List.nodup_nil⟩⟩
theorem getItem_data {v : Value} {Q : Value → Shared → Prop} (hu : A.in1.units + 8 < cLine) (hk : KeyAt s.heap k key) (H : DOf w s.heap d xs) (hv : atV xs k = some v)
    (h : Q v { s with toks := s.toks + k.draws }) : wpAny (model prog w) A (getItem (.ref d) key) Q E s := by
  unfold getItem
  refine wpAny_holding (wpAny_bind (wpAny_sequenceKey H.typeIs (by decide) ?_))
  refine wpAny_bind (wpAny_callSpecial?_slot (name := Str.ofString "__getitem__") H.typeIs slot_dict_getitem (wpAny_call_entry slot_dict_getitem H.typeIs entry_dict_getitem ?_ (args_dict_getitem _ _)))
  show wpAny _ _ (dictGet d key >>= _) _ _ s
  refine wpAny_bind (get_data hu hk H ?_)
  rw [hv]
  exact wpAny_pure ⟨v, rfl, wpAny_pure h⟩
theorem call_get1 {Q : Value → Shared → Prop} (hu : A.in1.units + 8 < cLine) (hk : KeyAt s.heap k key) (hd : (d == sysModules) = false) (H : DOf w s.heap d xs)
    (h : Q ((atV xs k).getD .none) { s with toks := s.toks + k.draws }) : wpAny (model prog w) A (call (.builtin "dict.get") [.ref d, key]) Q E s := by
  refine call_meetsIn F.slot_dict_get H.typeIs F.entry_dict_get (F.args_dict_get_2 _ _) (S := fun A' R s' => A' = A ∧ s' = s ∧ R (.ok (.ret ((atV xs k).getD .none))) { s with toks := s.toks + k.draws }) (.of_wp fun A' R s' hS => ?_) ⟨rfl, rfl, h⟩
  obtain ⟨rfl, rfl, hq⟩ := hS
  show wpAny _ _ (dictGet d key >>= _) _ _ _
  refine wpAny_bind (get_data hu hk H ?_)
  cases hf : atV xs k with
  | some v =>
    rw [hf] at hq
    exact wpAny_pure ⟨v, rfl, hq⟩
  | none =>
    rw [hf] at hq
    show wpAny _ _ (Builtin.Dict.missed d key >>= _) _ _ _
    exact wpAny_bind (wpAny_missed_other hd (wpAny_pure ⟨.none, rfl, hq⟩))
theorem putV_new {u v : Value} (hn : k ∉ xs.map (·.1)) : putV xs k u v = xs ++ [(k, u, v)] := by
  unfold putV
  rw [if_neg hn]
theorem DAt.push {v : Value} (H : DAt w h d xs o es ep) (hk : KeyAt h k key) (hn : k ∉ xs.map (·.1)) : DOf w (h.update d (Obj.mapDictKeys fun es => es.push ⟨k.hash w, key, v⟩)) d (putV xs k key v) := by
  refine ⟨_, _, ep + 1, ⟨Heap.get?_update_self _ H.ob (Obj.isFreed_of_dict (Obj.data_mapDictKeys H.da _)), H.ex.mapDictKeys _, Obj.data_mapDictKeys H.da _, ?_, ?_, ?_⟩⟩
  · rw [putV_new hn]
    simp [H.en, enE]
  · intro x hx
    rw [putV_new hn] at hx
    rcases List.mem_append.mp hx with hx | hx
    · exact (H.ks x hx).but H.ob H.da (Heap.SameBut.update ..)
    · rw [List.mem_singleton.mp hx]
      exact hk.but H.ob H.da (Heap.SameBut.update ..)
  · rw [putV_new hn, List.map_append, List.nodup_append]
    refine ⟨H.nd, by simp, fun a ha b hb e => hn ?_⟩
    rw [List.map_singleton, List.mem_singleton] at hb
    subst e
    rw [hb] at ha
    exact ha
end
end Dk
namespace Dk
open PySem PySem.Spec PyProof.Rows L2 Evl Lw
mutual
inductive KV (K : PySem.W.Frag) (H : Hp) : NestedKey → V → Prop
  | none : KV K H .none .non
  | bool (b : Bool) : KV K H (.num (if b = true then 1 else 0)) (.bl b)
  | int (i : Int) : KV K H (.num i) (.int i)
  | text (x : Str) : KV K H (.text x) (.str x)
  | tup {a : Addr} {vs : List V} {ks : List NestedKey} : SqT K H a vs → KVs K H ks vs → KV K H (.tup ks) (.ref a)
inductive KVs (K : PySem.W.Frag) (H : Hp) : List NestedKey → List V → Prop
  | nil : KVs K H [] []
  | cons {k : NestedKey} {ks : List NestedKey} {v : V} {vs : List V} : KV K H k v → KVs K H ks vs → KVs K H (k :: ks) (v :: vs)
end
section
variable {X : Cx} {pins : List (Addr × Obj)} {σ : L2.St} {H H' : Hp} {s : Shared} {a : Addr}
mutual
theorem KV.nested (I : Inv X pins σ H s) : ∀ (k : NestedKey) (v : V) (u : Value), KV X.K H k v → RelV v u → NestedIs s.heap k u
  | .none, _, _, h, r => by
    cases h
    cases r
    exact .none
  | .num i, _, _, h, r => by
    cases h with
    | bool b => cases r; exact .bool rfl
    | int i =>
      obtain ⟨t, rfl⟩ := r
      exact .int i t
  | .text x, _, _, h, r => by
    cases h
    obtain ⟨t, rfl⟩ := r
    exact .text x t
  | .tup ks, _, _, h, r => by
    cases h with
    | tup hs ha =>
      cases r
      obtain ⟨its, hv, ⟨o, ho, hc, n, hd⟩, _⟩ := I.tuple hs
      exact .tup ho hc hd (KVs.nested I ks _ its ha hv)
theorem KVs.nested (I : Inv X pins σ H s) : ∀ (ks : List NestedKey) (vs : List V) (us : List Value), KVs X.K H ks vs → Vals vs us → NestedAll s.heap ks us
  | [], _, _, h, r => by
    cases h
    cases r
    exact .nil
  | k :: ks, _, _, h, r => by
    cases h with
    | cons h1 h2 =>
      cases r with
      | cons r1 r2 => exact .cons (KV.nested I k _ _ h1 r1) (KVs.nested I ks _ _ h2 r2)
end
mutual
theorem KV.up {K : PySem.W.Frag} (e : Ex H H') : ∀ (k : NestedKey) (v : V), KV K H k v → KV K H' k v
  | .none, _, h => by cases h; exact .none
  | .num _, _, h => by
    cases h with
    | bool b => exact .bool b
    | int => exact .int _
  | .text _, _, h => by cases h; exact .text _
  | .tup ks, _, h => by
    cases h with
    | tup hs ha => exact .tup (ex_t e hs) (KVs.up e ks _ ha)
theorem KVs.up {K : PySem.W.Frag} (e : Ex H H') : ∀ (ks : List NestedKey) (vs : List V), KVs K H ks vs → KVs K H' ks vs
  | [], _, h => by cases h; exact .nil
  | k :: ks, _, h => by
    cases h with
    | cons h1 h2 => exact .cons (KV.up e k _ h1) (KVs.up e ks _ h2)
end
abbrev EnV := NestedKey × V × V
def RelE (w : World) (x : EnV) (e : DictEntry) : Prop := e.hash = x.1.hash w ∧ RelV x.2.1 e.key ∧ RelV x.2.2 e.val
def DictV (w : World) (a : Addr) (l : List EnV) : Heap → Prop := fun h => (a == sysModules) = false ∧ ∃ o es ep, h.get? a = some o ∧ o.ExactDict ∧ o.data = .dict es ep ∧ Paired (RelE w) l es.toList
def DHO (w : World) (a : Addr) (l : List EnV) : HO := .ext (DictV w a l)
def DHOo (w : World) (a : Addr) (l : List EnV) (o : Obj) : HO := .ext fun h => DictV w a l h ∧ h.get? a = some o
structure IsDk (K : PySem.W.Frag) (w : World) (H : Hp) (a : Addr) (l : List EnV) : Prop where
  ho : H a = some (DHO w a l)
  ks : ∀ e ∈ l, KV K H e.1 e.2.1 ∧ e.1.depth ≤ 8
  nd : (l.map (·.1)).Nodup
def RelN (x : EnV) (y : En) : Prop := x.1 = y.1 ∧ RelV x.2.1 y.2.1 ∧ RelV x.2.2 y.2.2
theorem relN_keys : ∀ {l : List EnV} {xs : List En}, Paired RelN l xs → xs.map (·.1) = l.map (·.1)
  | _, _, .nil => rfl
  | _, _, .cons h t => by rw [List.map_cons, List.map_cons, relN_keys t, h.1]
theorem relE_of {w : World} : ∀ {l : List EnV} {es : List DictEntry}, Paired (RelE w) l es → ∃ xs : List En, Paired RelN l xs ∧ es = xs.map (enE w)
  | _, _, .nil => ⟨[], .nil, rfl⟩
  | _, _, .cons (a := x) (b := e) h t => by
    obtain ⟨xs, h1, h2⟩ := relE_of t
    refine ⟨(x.1, e.key, e.val) :: xs, .cons ⟨rfl, h.2.1, h.2.2⟩ h1, ?_⟩
    rw [List.map_cons, ← h2]
    obtain ⟨eh, ek, ev⟩ := e
    obtain rfl : eh = _ := h.1
    rfl
theorem IsDk.of {l : List EnV} (D : IsDk X.K X.w H a l) (I : Inv X pins σ H s) : (a == sysModules) = false ∧ ∃ xs, Paired RelN l xs ∧ DOf X.w s.heap a xs := by
  obtain ⟨⟨hs, o, es, ep, ho, hx, hd, hp⟩, _, _⟩ := (show ObjOk X.prog X.w H s.heap a (DHO X.w a l) from I.hok a _ D.ho)
  obtain ⟨xs, h1, h2⟩ := relE_of hp
  refine ⟨hs, xs, h1, o, es, ep, ⟨ho, hx, hd, h2, fun x hxm => ?_, by rw [relN_keys h1]; exact D.nd⟩⟩
  have : ∃ e ∈ l, RelN e x := by
    have aux : ∀ {l : List EnV} {xs : List En}, Paired RelN l xs → x ∈ xs → ∃ e ∈ l, RelN e x := by
      intro l xs h
      induction h with
      | nil => intro h; cases h
      | cons h1 _ ih =>
        intro hm
        rcases List.mem_cons.mp hm with rfl | hm
        · exact ⟨_, List.mem_cons_self, h1⟩
        · obtain ⟨e, he, hr⟩ := ih hm
          exact ⟨e, List.mem_cons_of_mem _ he, hr⟩
    exact aux h1 hxm
  obtain ⟨e, he, hr⟩ := this
  obtain ⟨q1, q2⟩ := D.ks e he
  exact ⟨by rw [← hr.1]; exact KV.nested I _ _ _ q1 hr.2.1, by rw [← hr.1]; exact q2⟩
theorem KV.at_ {k : NestedKey} {x : V} {u : Value} (I : Inv X pins σ H s) (h : KV X.K H k x) (hd : k.depth ≤ 8) (r : RelV x u) : KeyAt s.heap k u := ⟨KV.nested I k x u h r, hd⟩
end
end Dk
namespace Dk
open PySem PySem.Spec PyProof.Rows L2 Evl Lw
section
variable {X : Cx} {pos apos cpos tpos : Pos} {o e f i value : Expr} {td ty tx tv : TE} {pins : List (Addr × Obj)} {σ : L2.St} {H : Hp} {s : Shared} {a : Addr}
end
end Dk
namespace Dk
open PySem PySem.Spec PyProof.Rows L2 Evl Lw
theorem dho_ne {w : World} {a : Addr} {l : List EnV} (ps : Array Value) : DHO w a l ≠ .tbl ps := fun z => by
  unfold DHO at z
  cases z
theorem dho_code {w : World} {a : Addr} {l : List EnV} (c : Addr) (q : Str) : DHO w a l ≠ LamX.CodeO c q := fun z => by
  unfold DHO LamX.CodeO at z
  have e : DictV w a l = _ := HO.ext.inj z
  let ob : Obj := ⟨.none, none, .fields #[.none, .str q 0], #[]⟩
  let h0 : Heap := ⟨Array.replicate (c + 1) ob, {}⟩
  have hc : h0.get? c = some ob := by
    have : (Array.replicate (c + 1) ob)[c]? = some ob := by simp
    show (match (Array.replicate (c + 1) ob)[c]? with | some ⟨_, _, .freed, _⟩ => none | o => o) = _
    rw [this]
  have hd : DictV w a l h0 := by
    rw [e]
    exact ⟨ob, #[.none, .str q 0], 0, hc, rfl, rfl⟩
  obtain ⟨_, o, es, ep, h1, _, h2, _⟩ := hd
  have h3 : (Array.replicate (c + 1) ob)[a]? = some o := by
    have h1' : (match (Array.replicate (c + 1) ob)[a]? with | some ⟨_, _, .freed, _⟩ => none | o => o) = some o := h1
    split at h1'
    · cases h1'
    · exact h1'
  rw [Array.getElem?_replicate] at h3
  split at h3
  · cases h3
    cases h2
  · cases h3
def Pl (o : HO) : Prop := (∀ ps, o ≠ .tbl ps) ∧ ∀ c q, o ≠ LamX.CodeO c q
theorem pl_dho {w : World} {a : Addr} {l : List EnV} : Pl (DHO w a l) := ⟨dho_ne, dho_code⟩
theorem dhoo_ne {w : World} {a : Addr} {l : List EnV} {oo : Obj} (ps : Array Value) : DHOo w a l oo ≠ .tbl ps := fun z => by
  unfold DHOo at z
  cases z
theorem dhoo_code {w : World} {a : Addr} {l : List EnV} {oo : Obj} (c : Addr) (q : Str) : DHOo w a l oo ≠ LamX.CodeO c q := fun z => by
  unfold DHOo LamX.CodeO at z
  have e : (fun h : Heap => DictV w a l h ∧ h.get? a = some oo) = _ := HO.ext.inj z
  let ob : Obj := ⟨.none, none, .fields #[.none, .str q 0], #[]⟩
  let h0 : Heap := ⟨Array.replicate (c + 1) ob, {}⟩
  have hc : h0.get? c = some ob := by
    have : (Array.replicate (c + 1) ob)[c]? = some ob := by simp
    show (match (Array.replicate (c + 1) ob)[c]? with | some ⟨_, _, .freed, _⟩ => none | o => o) = _
    rw [this]
  have hd : DictV w a l h0 ∧ h0.get? a = some oo := by
    show (fun h : Heap => DictV w a l h ∧ h.get? a = some oo) h0
    rw [e]
    exact ⟨ob, #[.none, .str q 0], 0, hc, rfl, rfl⟩
  obtain ⟨⟨_, o, es, ep, h1, _, h2, _⟩, _⟩ := hd
  have h3 : (Array.replicate (c + 1) ob)[a]? = some o := by
    have h1' : (match (Array.replicate (c + 1) ob)[a]? with | some ⟨_, _, .freed, _⟩ => none | o => o) = some o := h1
    split at h1'
    · cases h1'
    · exact h1'
  rw [Array.getElem?_replicate] at h3
  split at h3
  · cases h3
    cases h2
  · cases h3
theorem pl_dhoo {w : World} {a : Addr} {l : List EnV} {oo : Obj} : Pl (DHOo w a l oo) := ⟨dhoo_ne, dhoo_code⟩
theorem lst_code {l : List V} (c : Addr) (q : Str) : (HO.lst l) ≠ LamX.CodeO c q := fun z => by
  unfold LamX.CodeO at z
  cases z
theorem ins_code {c0 dx : Addr} {fs : List (Str × V)} (c : Addr) (q : Str) : (HO.ins c0 dx fs) ≠ LamX.CodeO c q := fun z => by
  unfold LamX.CodeO at z
  cases z
theorem pl_lst {l : List V} : Pl (.lst l) := ⟨fun ps z => (by cases z), lst_code⟩
theorem pl_ins {c dx : Addr} {fs : List (Str × V)} : Pl (.ins c dx fs) := ⟨fun ps z => (by cases z), ins_code⟩
end Dk
namespace Pw
open PySem PySem.Spec PyProof.Rows L2 Evl Lw
inductive D where
  | non | bl (b : Bool) | int (i : Int) | str (s : Str) | ty (n : String)
  | tup (ds : List D) | lst (ds : List D) | scr (ds : List D) | obj (c : Nat) (ks : List Str) (ds : List D) | ref (n : Nat)
inductive SO where
  | lst (ds : List D) | obj (c : Nat) (ks : List Str) (ds : List D) | dct (kvs : List (D × D)) | dctL (kvs : List (D × D)) (o : Obj)
structure Cl where
  w : World
  f : Nat → Addr
  tabs : List (Addr × Str) := []
instance : CoeFun Cl (fun _ => Nat → Addr) := ⟨Cl.f⟩
mutual
def kOf : D → Option NestedKey
  | .non => some .none
  | .bl b => some (.num (if b = true then 1 else 0))
  | .int i => some (.num i)
  | .str s => some (.text s)
  | .tup ds => (kAll ds).map .tup
  | .lst _ | .scr _ | .obj _ _ _ | .ref _ | .ty _ => none
def kAll : List D → Option (List NestedKey)
  | [] => some []
  | d :: ds => (kOf d).bind fun k => (kAll ds).map fun ks => k :: ks
end
abbrev Sto := List SO
abbrev Env := List (Option D)
structure Ex (cl : Cl) (H H' : Hp) : Prop where
  n : LamX.ExtN H H'
  t : LamX.Tabs cl.tabs H → LamX.Tabs cl.tabs H'
theorem Ex.of {cl : Cl} {H H' : Hp} (e : Evl.Ex H H') : Ex cl H H' := ⟨LamX.ExtN.of e, fun h p hp => (h p hp).ext e⟩
theorem Ex.refl {cl : Cl} (H : Hp) : Ex cl H H := ⟨LamX.ExtN.refl H, fun h => h⟩
theorem Ex.trans {cl : Cl} {H H1 H2 : Hp} (a : Ex cl H H1) (b : Ex cl H1 H2) : Ex cl H H2 := ⟨a.n.trans b.n, fun h => b.t (a.t h)⟩
theorem Ex.lst {cl : Cl} {H H' : Hp} (e : Ex cl H H') {a : Addr} {l : List V} (h : H a = some (.lst l)) : H' a = some (.lst l) := e.n a _ h (fun ps z => by cases z)
theorem ex_rdL {cl : Cl} {H H' : Hp} {a : Addr} {l : List V} (e : Ex cl H H') (h : Rd H a (.lst l)) : Rd H' a (.lst l) := by
  rcases h with h | ⟨o, h⟩
  · exact .inl (e.n a _ h (fun ps z => by cases z))
  · exact .inr ⟨o, e.n a _ h (fun ps z => by cases z)⟩
theorem ex_rdT {cl : Cl} {H H' : Hp} {a : Addr} {l : List V} (e : Ex cl H H') (h : Rd H a (.tup l)) : Rd H' a (.tup l) := by
  rcases h with h | ⟨o, h⟩
  · exact .inl (e.n a _ h (fun ps z => by cases z))
  · exact .inr ⟨o, e.n a _ h (fun ps z => by cases z)⟩
theorem ex_l {K : PySem.W.Frag} {cl : Cl} {H H' : Hp} {a : Addr} {xs : List V} (e : Ex cl H H') (h : SqL K H a xs) : SqL K H' a xs := by
  rcases h with h | h
  · exact Or.inl (ex_rdL e h)
  · exact Or.inr h
theorem ex_t {K : PySem.W.Frag} {cl : Cl} {H H' : Hp} {a : Addr} {xs : List V} (e : Ex cl H H') (h : SqT K H a xs) : SqT K H' a xs := by
  rcases h with h | h
  · exact Or.inl (ex_rdT e h)
  · exact Or.inr h
noncomputable def cut (N : Addr → Prop) (H : Hp) : Hp := fun a => @ite _ (N a) (Classical.propDecidable _) none (H a)
section
variable {N N' : Addr → Prop} {H H' : Hp}
theorem cut_yes {a : Addr} (h : N a) : cut N H a = none := by unfold cut; simp [h]
theorem cut_no {a : Addr} (h : ¬ N a) : cut N H a = H a := by unfold cut; simp [h]
theorem cut_subE : Evl.Ex (cut N H) H := fun a o h => by
  by_cases n : N a
  · rw [cut_yes n] at h
    cases h
  · rw [cut_no n] at h
    exact h
theorem cut_sub {cl : Cl} : Ex cl (cut N H) H := .of cut_subE
theorem cut_ex {cl : Cl} (h : ∀ a o, ¬ N a → H a = some o → ¬ N' a ∧ H' a = some o) : Ex cl (cut N H) (cut N' H') := .of fun a o q => by
  by_cases n : N a
  · rw [cut_yes n] at q
    cases q
  · rw [cut_no n] at q
    obtain ⟨h1, h2⟩ := h a o n q
    rw [cut_no h1]
    exact h2
theorem cut_ex' {cl : Cl} (e : Ex cl (cut N H) (cut N' H')) {a : Addr} {o : HO} (n : ¬ N a) (h : H a = some o) (nt : ∀ ps, o ≠ .tbl ps) : ¬ N' a ∧ H' a = some o := by
  have q := e.n a o (by rw [cut_no n]; exact h) nt
  by_cases n' : N' a
  · rw [cut_yes n'] at q
    cases q
  · rw [cut_no n'] at q
    exact ⟨n', q⟩
end
def NM (M : Addr → Prop) (ρ : List Addr) : Addr → Prop := fun a => M a ∨ a ∈ ρ
mutual
inductive RelD (K : PySem.W.Frag) (cl : Cl) (ρ : List Addr) (H : Hp) : D → V → Prop
  | non : RelD K cl ρ H .non .non
  | bl (b : Bool) : RelD K cl ρ H (.bl b) (.bl b)
  | int (i : Int) : RelD K cl ρ H (.int i) (.int i)
  | str (s : Str) : RelD K cl ρ H (.str s) (.str s)
  | ty (n : String) : RelD K cl ρ H (.ty n) (.ty n)
  | tup {a : Addr} {vs : List V} {ds : List D} : SqT K H a vs → RelAll K cl ρ H ds vs → RelD K cl ρ H (.tup ds) (.ref a)
  | lst {a : Addr} {vs : List V} {ds : List D} : H a = some (.lst vs) → RelAll K cl ρ H ds vs → RelD K cl ρ H (.lst ds) (.ref a)
  | scr {a : Addr} {vs : List V} {ds : List D} : SqL K H a vs → RelAll K cl ρ H ds vs → RelD K cl ρ H (.scr ds) (.ref a)
  | obj {a dx : Addr} {c : Nat} {fs : List (Str × V)} {ks : List Str} {ds : List D} : H a = some (.ins (cl c) dx fs) → fs.map (·.1) = ks → RelAll K cl ρ H ds (fs.map (·.2)) → RelD K cl ρ H (.obj c ks ds) (.ref a)
  | ref {n : Nat} {a : Addr} : ρ[n]? = some a → RelD K cl ρ H (.ref n) (.ref a)
inductive RelAll (K : PySem.W.Frag) (cl : Cl) (ρ : List Addr) (H : Hp) : List D → List V → Prop
  | nil : RelAll K cl ρ H [] []
  | cons {d : D} {ds : List D} {v : V} {vs : List V} : RelD K cl ρ H d v → RelAll K cl ρ H ds vs → RelAll K cl ρ H (d :: ds) (v :: vs)
end
section
variable {K : PySem.W.Frag} {cl : Cl} {ρ ρ' : List Addr} {H H' : Hp}
theorem pre_get {α : Type} {ρ ρ' : List α} (p : ρ <+: ρ') {n : Nat} {a : α} (h : ρ[n]? = some a) : ρ'[n]? = some a := by
  obtain ⟨t, rfl⟩ := p
  rw [List.getElem?_append_left (List.getElem?_eq_some_iff.mp h).1]
  exact h
mutual
theorem RelD.up (p : ρ <+: ρ') (e : Ex cl H H') : ∀ (d : D) (v : V), RelD K cl ρ H d v → RelD K cl ρ' H' d v
  | .non, _, h => by cases h; exact .non
  | .bl b, _, h => by cases h; exact .bl b
  | .int i, _, h => by cases h; exact .int i
  | .str s, _, h => by cases h; exact .str s
  | .ty n, _, h => by cases h; exact .ty n
  | .tup ds, _, h => by
    cases h with
    | tup hs ha => exact .tup (ex_t e hs) (RelAll.up p e ds _ ha)
  | .lst ds, _, h => by
    cases h with
    | lst hs ha => exact .lst (e.lst hs) (RelAll.up p e ds _ ha)
  | .scr ds, _, h => by
    cases h with
    | scr hs ha => exact .scr (ex_l e hs) (RelAll.up p e ds _ ha)
  | .obj c ks ds, _, h => by
    cases h with
    | obj hs hk ha => exact .obj (e.n _ _ hs fun ps z => by cases z) hk (RelAll.up p e ds _ ha)
  | .ref n, _, h => by
    cases h with
    | ref hn => exact .ref (pre_get p hn)
theorem RelAll.up (p : ρ <+: ρ') (e : Ex cl H H') : ∀ (ds : List D) (vs : List V), RelAll K cl ρ H ds vs → RelAll K cl ρ' H' ds vs
  | [], _, h => by cases h; exact .nil
  | d :: ds, _, h => by
    cases h with
    | cons h1 h2 => exact .cons (RelD.up p e d _ h1) (RelAll.up p e ds _ h2)
end
theorem RelAll.len : ∀ {ds : List D} {vs : List V}, RelAll K cl ρ H ds vs → vs.length = ds.length
  | [], _, h => by cases h; rfl
  | d :: ds, _, h => by
    cases h with
    | cons h1 h2 => rw [List.length_cons, List.length_cons, RelAll.len h2]
theorem RelAll.get : ∀ {ds : List D} {vs : List V} {n : Nat} {d : D}, RelAll K cl ρ H ds vs → ds[n]? = some d → ∃ v, vs[n]? = some v ∧ RelD K cl ρ H d v
  | [], _, _, _, _, h => by simp at h
  | e :: ds, _, n, d, h, hd => by
    cases h with
    | cons h1 h2 =>
      cases n with
      | zero =>
        rw [List.getElem?_cons_zero] at hd ⊢
        cases hd
        exact ⟨_, rfl, h1⟩
      | succ n =>
        rw [List.getElem?_cons_succ] at hd ⊢
        exact RelAll.get h2 hd
theorem RelAll.back : ∀ {ds : List D} {vs : List V} {n : Nat} {v : V}, RelAll K cl ρ H ds vs → vs[n]? = some v → ∃ d, ds[n]? = some d ∧ RelD K cl ρ H d v
  | [], _, _, _, h, hv => by cases h; simp at hv
  | e :: ds, _, n, v, h, hv => by
    cases h with
    | cons h1 h2 =>
      cases n with
      | zero =>
        rw [List.getElem?_cons_zero] at hv ⊢
        cases hv
        exact ⟨_, rfl, h1⟩
      | succ n =>
        rw [List.getElem?_cons_succ] at hv ⊢
        exact RelAll.back h2 hv
theorem RelAll.app : ∀ {ds es : List D} {vs ws : List V}, RelAll K cl ρ H ds vs → RelAll K cl ρ H es ws → RelAll K cl ρ H (ds ++ es) (vs ++ ws)
  | [], _, _, _, h, k => by cases h; exact k
  | d :: ds, _, _, _, h, k => by
    cases h with
    | cons h1 h2 => exact .cons h1 (RelAll.app h2 k)
theorem RelAll.snoc {ds : List D} {vs : List V} {d : D} {y : V} (h : RelAll K cl ρ H ds vs) (k : RelD K cl ρ H d y) : RelAll K cl ρ H (ds ++ [d]) (vs ++ [y]) := h.app (.cons k .nil)
theorem RelAll.dropN : ∀ {ds : List D} {vs : List V} (n : Nat), RelAll K cl ρ H ds vs → RelAll K cl ρ H (ds.drop n) (vs.drop n)
  | _, _, 0, h => h
  | [], _, n + 1, h => by cases h; exact .nil
  | d :: ds, _, n + 1, h => by
    cases h with
    | cons h1 h2 => exact RelAll.dropN n h2
theorem RelAll.takeN : ∀ {ds : List D} {vs : List V} (n : Nat), RelAll K cl ρ H ds vs → RelAll K cl ρ H (ds.take n) (vs.take n)
  | _, _, 0, h => .nil
  | [], _, n + 1, h => by cases h; exact .nil
  | d :: ds, _, n + 1, h => by
    cases h with
    | cons h1 h2 => exact .cons h1 (RelAll.takeN n h2)
end
def RelKv (K : PySem.W.Frag) (cl : Cl) (ρ : List Addr) (H : Hp) (p : D × D) (x : Dk.EnV) : Prop := kOf p.1 = some x.1 ∧ x.1.depth ≤ 8 ∧ RelD K cl ρ H p.1 x.2.1 ∧ RelD K cl ρ H p.2 x.2.2
inductive RelSO (K : PySem.W.Frag) (cl : Cl) (ρ : List Addr) (H : Hp) (a : Addr) : SO → HO → Prop
  | lst {ds : List D} {vs : List V} : RelAll K cl ρ H ds vs → RelSO K cl ρ H a (.lst ds) (.lst vs)
  | obj {c : Nat} {dx : Addr} {fs : List (Str × V)} {ks : List Str} {ds : List D} : fs.map (·.1) = ks → RelAll K cl ρ H ds (fs.map (·.2)) → RelSO K cl ρ H a (.obj c ks ds) (.ins (cl c) dx fs)
  | dct {kvs : List (D × D)} {l : List Dk.EnV} : Paired (RelKv K cl ρ H) kvs l → (l.map (·.1)).Nodup → RelSO K cl ρ H a (.dct kvs) (Dk.DHO cl.w a l)
  | dctL {kvs : List (D × D)} {l : List Dk.EnV} {ob : Obj} : Paired (RelKv K cl ρ H) kvs l → (l.map (·.1)).Nodup → RelSO K cl ρ H a (.dctL kvs ob) (Dk.DHOo cl.w a l ob)
theorem RelSO.up {K : PySem.W.Frag} {cl : Cl} {ρ ρ' : List Addr} {H H' : Hp} {a : Addr} {o : SO} {u : HO} (p : ρ <+: ρ') (e : Ex cl H H') (h : RelSO K cl ρ H a o u) : RelSO K cl ρ' H' a o u := by
  cases h with
  | lst h => exact .lst (h.up p e _ _)
  | obj h1 h2 => exact .obj h1 (h2.up p e _ _)
  | dct h1 h2 => exact .dct (L2.Paired.mapP h1 fun x y h => ⟨h.1, h.2.1, RelD.up p e _ _ h.2.2.1, RelD.up p e _ _ h.2.2.2⟩) h2
  | dctL h1 h2 => exact .dctL (L2.Paired.mapP h1 fun x y h => ⟨h.1, h.2.1, RelD.up p e _ _ h.2.2.1, RelD.up p e _ _ h.2.2.2⟩) h2
structure G (K : PySem.W.Frag) (cl : Cl) (M : Addr → Prop) (ρ : List Addr) (S : Sto) (H : Hp) : Prop where
  live : ∀ a, M a → ∃ o, H a = some o ∧ Dk.Pl o
  dis : ∀ a ∈ ρ, ¬ M a
  nd : ρ.Nodup
  len : ρ.length = S.length
  sto : ∀ (n : Nat) o a, S[n]? = some o → ρ[n]? = some a → ∃ u, H a = some u ∧ RelSO K cl ρ (cut (NM M ρ) H) a o u
  tab : LamX.Tabs cl.tabs (cut (NM M ρ) H)
structure Stp (cl : Cl) (M : Addr → Prop) (ρ : List Addr) (H : Hp) (ρ' : List Addr) (H' : Hp) : Prop where
  pre : ρ <+: ρ'
  ex : Ex cl (cut (NM M ρ) H) (cut (NM M ρ') H')
  keep : ∀ a, M a → H' a = H a
theorem Stp.refl {cl : Cl} {M : Addr → Prop} {ρ : List Addr} {H : Hp} : Stp cl M ρ H ρ H := ⟨List.prefix_refl _, Ex.refl _, fun _ _ => rfl⟩
theorem Stp.trans {cl : Cl} {M : Addr → Prop} {ρ ρ1 ρ2 : List Addr} {H H1 H2 : Hp} (a : Stp cl M ρ H ρ1 H1) (b : Stp cl M ρ1 H1 ρ2 H2) : Stp cl M ρ H ρ2 H2 :=
  ⟨a.pre.trans b.pre, a.ex.trans b.ex, fun x m => (b.keep x m).trans (a.keep x m)⟩
structure RE (K : PySem.W.Frag) (cl : Cl) (ρ : List Addr) (H : Hp) (env : Env) (σ : L2.St) : Prop where
  len : env.length = σ.length
  at' : ∀ (i : Nat) d, env[i]? = some (some d) → ∃ v, σ[i]? = some (some v) ∧ RelD K cl ρ H d v
section
variable {K : PySem.W.Frag} {cl : Cl} {M : Addr → Prop} {ρ ρ' : List Addr} {S : Sto} {H H' : Hp} {env : Env} {σ : L2.St}
theorem RE.up (r : RE K cl ρ (cut (NM M ρ) H) env σ) (s : Stp cl M ρ H ρ' H') : RE K cl ρ' (cut (NM M ρ') H') env σ :=
  ⟨r.len, fun i d h => by
    obtain ⟨v, h1, h2⟩ := r.at' i d h
    exact ⟨v, h1, h2.up s.pre s.ex d v⟩⟩
theorem RE.set {H : Hp} (r : RE K cl ρ H env σ) {d : D} {v : V} (i : Nat) (h : RelD K cl ρ H d v) : RE K cl ρ H (env.set i (some d)) (σ.set i (some v)) :=
  ⟨by rw [List.length_set, List.length_set, r.len], fun j e he => by
    by_cases hij : i = j
    · subst hij
      have hl : i < env.length := by
        have := (List.getElem?_eq_some_iff.mp he).1
        rw [List.length_set] at this
        exact this
      rw [List.getElem?_set_self hl] at he
      cases he
      exact ⟨v, List.getElem?_set_self (by rw [← r.len]; exact hl), h⟩
    · rw [List.getElem?_set_ne hij] at he ⊢
      exact r.at' j e he⟩
theorem RE.none {H : Hp} (r : RE K cl ρ H env σ) (i : Nat) : RE K cl ρ H (env.set i .none) (σ.set i .none) :=
  ⟨by rw [List.length_set, List.length_set, r.len], fun j e he => by
    by_cases hij : i = j
    · subst hij
      have hl : i < env.length := by
        have := (List.getElem?_eq_some_iff.mp he).1
        rw [List.length_set] at this
        exact this
      rw [List.getElem?_set_self hl] at he
      cases he
    · rw [List.getElem?_set_ne hij] at he ⊢
      exact r.at' j e he⟩
def wipeE (env : Env) : List Nat → Env
  | [] => env
  | v :: vs => (wipeE env vs).set v .none
theorem RE.wipe {H : Hp} (r : RE K cl ρ H env σ) : ∀ ws : List Nat, RE K cl ρ H (wipeE env ws) (wipe σ ws)
  | [] => r
  | v :: vs => (RE.wipe r vs).none v
theorem RelSO.nt {K : PySem.W.Frag} {cl : Cl} {ρ : List Addr} {H : Hp} {a : Addr} {o : SO} {u : HO} (h : RelSO K cl ρ H a o u) : Dk.Pl u := by
  cases h with
  | lst => exact Dk.pl_lst
  | obj => exact Dk.pl_ins
  | dct => exact Dk.pl_dho
  | dctL => exact Dk.pl_dhoo
theorem G.liveR (g : G K cl M ρ S H) {a : Addr} (h : a ∈ ρ) : ∃ o, H a = some o ∧ Dk.Pl o := by
  obtain ⟨n, hn⟩ := List.mem_iff_getElem?.mp h
  have hl : n < S.length := by
    rw [← g.len]
    exact (List.getElem?_eq_some_iff.mp hn).1
  obtain ⟨u, hu, r⟩ := g.sto n _ a (List.getElem?_eq_getElem hl) hn
  exact ⟨u, hu, r.nt⟩
theorem G.off (g : G K cl M ρ S H) {p : Addr} (h : H p = none) : ¬ NM M ρ p := fun n => by
  obtain ⟨o, e, _⟩ := n.elim (g.live p) g.liveR
  rw [h] at e
  cases e
theorem G.new (g : G K cl M ρ S H) {p : Addr} (o : HO) (h : H p = none) : G K cl M ρ S (upd H p o) ∧ Stp cl M ρ H ρ (upd H p o) ∧ cut (NM M ρ) (upd H p o) p = some o := by
  have hp := g.off h
  have e : Ex cl (cut (NM M ρ) H) (cut (NM M ρ) (upd H p o)) := cut_ex fun a u n q => ⟨n, by rw [upd_ne (ne_of_none q h)]; exact q⟩
  have k : ∀ a, NM M ρ a → (upd H p o) a = H a := fun a n => upd_ne fun z => hp (z ▸ n)
  refine ⟨⟨fun a m => by rw [k a (.inl m)]; exact g.live a m, g.dis, g.nd, g.len, fun n so a hs ha => ?_, e.t g.tab⟩, ⟨List.prefix_refl _, e, fun a m => k a (.inl m)⟩, by rw [cut_no hp, upd_same]⟩
  obtain ⟨u, hu, r⟩ := g.sto n so a hs ha
  exact ⟨u, by rw [k a (.inr (List.mem_of_getElem? ha))]; exact hu, r.up (List.prefix_refl _) e⟩
theorem G.alloc (g : G K cl M ρ S H) {p : Addr} {o : HO} {so : SO} (h : H p = none) (r : RelSO K cl ρ (cut (NM M ρ) H) p so o) : G K cl M (ρ ++ [p]) (S ++ [so]) (upd H p o) ∧ Stp cl M ρ H (ρ ++ [p]) (upd H p o) := by
  have hp := g.off h
  have hpre : ρ <+: ρ ++ [p] := List.prefix_append _ _
  have e : Ex cl (cut (NM M ρ) H) (cut (NM M (ρ ++ [p])) (upd H p o)) := cut_ex fun a u n q => by
    have ne : a ≠ p := ne_of_none q h
    refine ⟨fun z => ?_, by rw [upd_ne ne]; exact q⟩
    rcases z with z | z
    · exact n (.inl z)
    · rcases List.mem_append.mp z with z | z
      · exact n (.inr z)
      · exact ne (List.mem_singleton.mp z)
  have k : ∀ a, NM M ρ a → (upd H p o) a = H a := fun a n => upd_ne fun z => hp (z ▸ n)
  refine ⟨⟨fun a m => by rw [k a (.inl m)]; exact g.live a m, fun a ha => ?_, ?_, by rw [List.length_append, List.length_append, g.len]; rfl, fun n s a hs ha => ?_, e.t g.tab⟩, ⟨hpre, e, fun a m => k a (.inl m)⟩⟩
  · rcases List.mem_append.mp ha with ha | ha
    · exact g.dis a ha
    · rw [List.mem_singleton.mp ha]
      exact fun m => hp (.inl m)
  · refine List.nodup_append.mpr ⟨g.nd, by simp, fun a ha b hb z => ?_⟩
    rw [List.mem_singleton.mp hb] at z
    exact hp (.inr (z ▸ ha))
  · by_cases hn : n < S.length
    · rw [List.getElem?_append_left hn] at hs
      rw [List.getElem?_append_left (by rw [g.len]; exact hn)] at ha
      obtain ⟨u, hu, r⟩ := g.sto n s a hs ha
      exact ⟨u, by rw [k a (.inr (List.mem_of_getElem? ha))]; exact hu, r.up hpre e⟩
    · have hl := (List.getElem?_eq_some_iff.mp hs).1
      rw [List.length_append] at hl
      have hn' : n = S.length := by
        have : [so].length = 1 := rfl
        omega
      subst hn'
      rw [List.getElem?_append_right (Nat.le_refl _), Nat.sub_self] at hs
      rw [List.getElem?_append_right (by rw [g.len]; exact Nat.le_refl _), g.len, Nat.sub_self] at ha
      cases hs
      cases ha
      exact ⟨o, upd_same, r.up hpre e⟩
theorem G.put (g : G K cl M ρ S H) {n : Nat} {a : Addr} {o : HO} {so : SO} (ha : ρ[n]? = some a) (r : RelSO K cl ρ (cut (NM M ρ) H) a so o) : G K cl M ρ (S.set n so) (upd H a o) ∧ Stp cl M ρ H ρ (upd H a o) := by
  have hm : a ∈ ρ := List.mem_of_getElem? ha
  have e : Ex cl (cut (NM M ρ) H) (cut (NM M ρ) (upd H a o)) := cut_ex fun b u nb q => ⟨nb, by rw [upd_ne fun z => nb (.inr (by rw [z]; exact hm))]; exact q⟩
  have k : ∀ b, M b → (upd H a o) b = H b := fun b m => upd_ne fun z => g.dis a hm (z ▸ m)
  refine ⟨⟨fun b m => by rw [k b m]; exact g.live b m, g.dis, g.nd, by rw [List.length_set, g.len], fun j s b hs hb => ?_, e.t g.tab⟩, ⟨List.prefix_refl _, e, k⟩⟩
  by_cases hj : n = j
  · subst hj
    rw [ha] at hb
    cases hb
    have hl : n < S.length := by
      rw [← g.len]
      exact (List.getElem?_eq_some_iff.mp ha).1
    rw [List.getElem?_set_self hl] at hs
    cases hs
    exact ⟨o, upd_same, r.up (List.prefix_refl _) e⟩
  · rw [List.getElem?_set_ne hj] at hs
    obtain ⟨u, hu, r⟩ := g.sto j s b hs hb
    have ne : b ≠ a := fun z => by
      rw [z] at hb
      obtain ⟨hl1, e1⟩ := List.getElem?_eq_some_iff.mp hb
      obtain ⟨hl2, e2⟩ := List.getElem?_eq_some_iff.mp ha
      exact hj ((List.getElem_inj g.nd).mp (e2.trans e1.symm))
    exact ⟨u, by rw [upd_ne ne]; exact hu, r.up (List.prefix_refl _) e⟩
end
end Pw
namespace Lw
open PySem PySem.Spec PyProof.Rows L2 Evl
noncomputable def cutN (N : Addr → Prop) (H : Hp) : Hp := fun a => @ite _ (N a) (Classical.propDecidable _) none (H a)
def Live (N : Addr → Prop) (H : Hp) : Prop := ∀ a, N a → H a ≠ none
section
variable {N : Addr → Prop} {H H' H1 : Hp}
theorem cutN_yes {a : Addr} (h : N a) : cutN N H a = none := by unfold cutN; simp [h]
theorem cutN_no {a : Addr} (h : ¬ N a) : cutN N H a = H a := by unfold cutN; simp [h]
theorem cutN_ex (e : Ex H H') : Ex (cutN N H) (cutN N H') := fun a o h => by
  by_cases n : N a
  · rw [cutN_yes n] at h
    cases h
  · rw [cutN_no n] at h ⊢
    exact e a o h
theorem Live.ex (L : Live N H) (e : Ex H H') : Live N H' := fun a n h => by
  cases q : H a with
  | none => exact L a n q
  | some o => rw [e a o q] at h; cases h
theorem Live.off (L : Live N H) {a : Addr} (h : H a = none) : ¬ N a := fun n => L a n h
def plusN (N : Addr → Prop) (p : Addr) : Addr → Prop := fun a => N a ∨ a = p
theorem Live.plus {p : Addr} {o : HO} (L : Live N H) (e : Ex H H') (h : H' p = some o) : Live (plusN N p) H' := fun a n => by
  rcases n with n | n
  · exact L.ex e a n
  · rw [n, h]
    intro z
    cases z
theorem cutN_plus {p : Addr} (hp : H p = none) (e : Ex H H') : Ex (cutN N H) (cutN (plusN N p) H') := fun a o h => by
  by_cases n : N a
  · rw [cutN_yes n] at h
    cases h
  · rw [cutN_no n] at h
    have ne : a ≠ p := fun z => by rw [z, hp] at h; cases h
    rw [cutN_no (fun z => z.elim n ne)]
    exact e a o h
end
end Lw
namespace L2
open PySem PySem.Spec PyProof.Rows Evl
mutual
theorem Dp.ex {K : PySem.W.Frag} {H H' : Hp} (e : Ex H H') : ∀ (d : PyData) (v : V), Dp K H v d → Dp K H' v d
  | .none, _, h => by
    cases h
    exact .non
  | .bool b, _, h => by
    cases h
    exact .bl b
  | .int i, _, h => by
    cases h
    exact .int i
  | .str x, _, h => by
    cases h
    exact .str x
  | .list ds, _, h => by
    cases h with
    | lst hs ha => exact .lst (ex_l e hs) (DpAll.ex e ds _ ha)
  | .tuple ds, _, h => by
    cases h with
    | tup hs ha => exact .tup (ex_t e hs) (DpAll.ex e ds _ ha)
  | .dict _, _, h => by cases h
theorem DpAll.ex {K : PySem.W.Frag} {H H' : Hp} (e : Ex H H') : ∀ (ds : List PyData) (vs : List V), DpAll K H vs ds → DpAll K H' vs ds
  | [], _, h => by
    cases h
    exact .nil
  | d :: ds, _, h => by
    cases h with
    | cons h1 h2 => exact .cons (Dp.ex e d _ h1) (DpAll.ex e ds _ h2)
end
section
variable {K : PySem.W.Frag} {H : Hp} {ds es : List PyData} {vs : List V} {d : PyData}
theorem DpAll.len : ∀ {ds : List PyData} {vs : List V}, DpAll K H vs ds → vs.length = ds.length
  | [], _, h => by cases h; rfl
  | d :: ds, _, h => by
    cases h with
    | cons h1 h2 => rw [List.length_cons, List.length_cons, DpAll.len h2]
theorem DpAll.get : ∀ {ds : List PyData} {vs : List V} {n : Nat} {d : PyData}, DpAll K H vs ds → ds[n]? = some d → ∃ v, vs[n]? = some v ∧ Dp K H v d
  | [], _, _, _, _, h => by simp at h
  | e :: ds, _, n, d, h, hd => by
    cases h with
    | cons h1 h2 =>
      cases n with
      | zero =>
        rw [List.getElem?_cons_zero] at hd ⊢
        cases hd
        exact ⟨_, rfl, h1⟩
      | succ n =>
        rw [List.getElem?_cons_succ] at hd ⊢
        exact DpAll.get h2 hd
theorem DpAll.back : ∀ {ds : List PyData} {vs : List V} {n : Nat} {v : V}, DpAll K H vs ds → vs[n]? = some v → ∃ d, ds[n]? = some d ∧ Dp K H v d
  | [], _, _, _, h, hv => by cases h; simp at hv
  | e :: ds, _, n, v, h, hv => by
    cases h with
    | cons h1 h2 =>
      cases n with
      | zero =>
        rw [List.getElem?_cons_zero] at hv ⊢
        cases hv
        exact ⟨_, rfl, h1⟩
      | succ n =>
        rw [List.getElem?_cons_succ] at hv ⊢
        exact DpAll.back h2 hv
theorem DpAll.app : ∀ {ds es : List PyData} {vs ws : List V}, DpAll K H vs ds → DpAll K H ws es → DpAll K H (vs ++ ws) (ds ++ es)
  | [], _, _, _, h, k => by cases h; exact k
  | d :: ds, _, _, _, h, k => by
    cases h with
    | cons h1 h2 => exact .cons h1 (DpAll.app h2 k)
theorem DpAll.snoc {y : V} (h : DpAll K H vs ds) (k : Dp K H y d) : DpAll K H (vs ++ [y]) (ds ++ [d]) := h.app (.cons k .nil)
end
end L2
namespace Lw
open PySem PySem.Spec PyProof.Rows L2 Evl
section
variable {K : PySem.W.Frag} {N : Addr → Prop} {σ : L2.St} {H H' : Hp} {te ta tb : TE} {tr : TA} {tt : TT} {D : Ends} {tz tu : TS} {v : V} {d d' : PyData} {ds es : List PyData} {vs : List V} {g : TG}
def EvD (K : PySem.W.Frag) (N : Addr → Prop) (te : TE) (σ : L2.St) (H : Hp) (d : PyData) : Prop := Live N H → ∀ H1, Ex H H1 → ∀ Q : VK, (∀ v H2, Ex H1 H2 → Dp K (cutN N H2) v d → Q v H2) → te σ H1 Q
theorem EvD.mono (e : Ex H H') (L : Live N H) (h : EvD K N te σ H d) : EvD K N te σ H' d := fun _ H1 a Q q => h L H1 (e.trans a) Q q
theorem EvD.is (h : EvD K N te σ H d) (e : d = d') : EvD K N te σ H d' := e ▸ h
def rInD (K : PySem.W.Frag) (neg : Bool) : R2 := fun x y H Q => ∃ d es, Dp K H x d ∧ (Dp K H y (.list es) ∨ Dp K H y (.tuple es)) ∧ PyData.plainAll es = true ∧ d.plain = true ∧ d.depth ≤ 60 ∧ Q (.bl (if neg = true then !es.any fun z => PyData.eqv z d else es.any fun z => PyData.eqv z d)) H
theorem op_inD {X : Cx} (hu : X.A.units + 64 < cLine) : OpR X (compareOp .In) (rInD X.K false) := by
  intro pins s σ H x y v u Q I rx ry h
  obtain ⟨d, es, hd, he, pe, pd, dd, q⟩ := h
  obtain ⟨as, r1⟩ := Dp.reads I d x v hd rx
  rcases he with he | he
  · obtain ⟨bs, r2⟩ := Dp.reads I _ y u he ry
    exact SeqAt.in_list_data r2 r1 pe pd (by omega) ⟨.bl _, H, I, rfl, q⟩
  · obtain ⟨bs, r2⟩ := Dp.reads I _ y u he ry
    exact SeqAt.in_tuple_data r2 r1 pe pd (by omega) ⟨.bl _, H, I, rfl, q⟩
theorem op_niD {X : Cx} (hu : X.A.units + 64 < cLine) : OpR X (compareOp .NotIn) (rInD X.K true) := by
  intro pins s σ H x y v u Q I rx ry h
  obtain ⟨d, es, hd, he, pe, pd, dd, q⟩ := h
  obtain ⟨as, r1⟩ := Dp.reads I d x v hd rx
  rcases he with he | he
  · obtain ⟨bs, r2⟩ := Dp.reads I _ y u he ry
    exact SeqAt.notIn_list_data r2 r1 pe pd (by omega) ⟨.bl _, H, I, rfl, q⟩
  · obtain ⟨bs, r2⟩ := Dp.reads I _ y u he ry
    exact SeqAt.notIn_tuple_data r2 r1 pe pd (by omega) ⟨.bl _, H, I, rfl, q⟩
end
section
variable {K : PySem.W.Frag} {N : Addr → Prop} {σ : L2.St} {H H' : Hp} {te ta tb : TE} {tr : TA} {tt : TT} {D : Ends} {tz tu : TS} {v : V} {d d' : PyData} {ds es : List PyData} {g : TG}
def Grw (K : PySem.W.Frag) (N : Addr → Prop) (H : Hp) (p : Addr) (es : List PyData) (H' : Hp) : Prop := H p = none ∧ Ex H H' ∧ ∃ acc, H' p = some (.lst acc) ∧ DpAll K (cutN (plusN N p) H') acc es
theorem Grw.ex {p : Addr} {H2 : Hp} (h : Grw K N H p es H') (e : Ex H' H2) : Grw K N H p es H2 := by
  obtain ⟨h1, h2, acc, h3, h4⟩ := h
  exact ⟨h1, h2.trans e, acc, e _ _ h3, DpAll.ex (cutN_ex e) _ _ h4⟩
theorem Grw.live {p : Addr} (L : Live N H) (h : Grw K N H p es H') : Live (plusN N p) H' := by
  obtain ⟨h1, h2, acc, h3, h4⟩ := h
  exact L.plus h2 h3
theorem Grw.sub {p : Addr} (h : Grw K N H p es H') : Ex (cutN N H) (cutN (plusN N p) H') := cutN_plus h.1 h.2.1
theorem Grw.nil {p : Addr} (hp : H p = none) (e : Ex H H') (h : H' p = some (.lst [])) : Grw K N H p [] H' := ⟨hp, e, [], h, .nil⟩
theorem Grw.dp {p : Addr} (L : Live N H) (h : Grw K N H p es H') : Dp K (cutN N H') (.ref p) (.list es) := by
  obtain ⟨h1, h2, acc, h3, h4⟩ := h
  refine .lst (sq_of ?_) (DpAll.ex (fun b o hb => ?_) _ _ h4)
  · rw [cutN_no (L.off h1)]
    exact h3
  · by_cases n : plusN N p b
    · rw [cutN_yes n] at hb
      cases hb
    · rw [cutN_no n] at hb
      rw [cutN_no (fun z => n (.inl z))]
      exact hb
end
end Lw
namespace Pw
open PySem PySem.Spec PyProof.Rows L2 Evl Lw
abbrev PEx := Env → Sto → (D → Sto → Prop) → Prop
abbrev PTx := Env → Sto → (Bool → Sto → Prop) → Prop
abbrev PAx := Env → Sto → (List D → Sto → Prop) → Prop
abbrev POx := Env → Sto → (Option Int → Sto → Prop) → Prop
structure PEnds where
  nx : Env → Sto → Prop
  rt : D → Sto → Prop
  bk : Env → Sto → Prop := fun _ _ => False
  ct : Env → Sto → Prop := fun _ _ => False
abbrev PSx := PEnds → Env → Sto → Prop
abbrev PGx := D → Env → Sto → (Env → Sto → Prop) → Prop
abbrev PIx := Env → Sto → (D → List D → Sto → Prop) → Prop
abbrev Op2 := Sto → D → D → (D → Prop) → Prop
abbrev OpN := Sto → List D → (D → Prop) → Prop
mutual
def D.pure : D → Bool
  | .non | .bl _ | .int _ | .str _ => true
  | .tup ds | .lst ds | .scr ds => pureAll ds
  | .ty _ | .obj _ _ _ | .ref _ => false
def pureAll : List D → Bool
  | [] => true
  | d :: ds => d.pure && pureAll ds
end
mutual
def D.py : D → PyData
  | .bl b => .bool b
  | .int i => .int i
  | .str s => .str s
  | .tup ds => .tuple (pyAll ds)
  | .lst ds | .scr ds => .list (pyAll ds)
  | .non | .ty _ | .obj _ _ _ | .ref _ => .none
def pyAll : List D → List PyData
  | [] => []
  | d :: ds => d.py :: pyAll ds
end
def D.dep (d : D) : Nat := d.py.depth
def D.eqv (a b : D) : Bool := PyData.eqv a.py b.py
def eqvL (a b : List D) : Bool := PyData.eqvAll (pyAll a) (pyAll b)
mutual
theorem plain_py : ∀ d : D, d.py.plain = true
  | .non | .bl _ | .int _ | .str _ | .ty _ | .obj _ _ _ | .ref _ => by simp [D.py, PyData.plain]
  | .tup ds | .lst ds | .scr ds => by simp [D.py, PyData.plain, plain_pys ds]
theorem plain_pys : ∀ ds : List D, PyData.plainAll (pyAll ds) = true
  | [] => rfl
  | d :: ds => by simp [pyAll, PyData.plainAll, plain_py d, plain_pys ds]
end
mutual
theorem dp_of {K : PySem.W.Frag} {cl : Cl} {ρ : List Addr} {H : Hp} : ∀ (d : D) (v : V), d.pure = true → RelD K cl ρ H d v → Dp K H v d.py
  | .non, _, _, h => by cases h; exact .non
  | .bl b, _, _, h => by cases h; exact .bl b
  | .int i, _, _, h => by cases h; exact .int i
  | .str s, _, _, h => by cases h; exact .str s
  | .ty n, _, p, _ => by simp [D.pure] at p
  | .tup ds, _, p, h => by
    cases h with
    | tup hs ha => exact .tup hs (dps_of ds _ (by simpa [D.pure] using p) ha)
  | .lst ds, _, p, h => by
    cases h with
    | lst hs ha => exact .lst (sq_of hs) (dps_of ds _ (by simpa [D.pure] using p) ha)
  | .scr ds, _, p, h => by
    cases h with
    | scr hs ha => exact .lst hs (dps_of ds _ (by simpa [D.pure] using p) ha)
  | .obj _ _ _, _, p, _ => by simp [D.pure] at p
  | .ref _, _, p, _ => by simp [D.pure] at p
theorem dps_of {K : PySem.W.Frag} {cl : Cl} {ρ : List Addr} {H : Hp} : ∀ (ds : List D) (vs : List V), pureAll ds = true → RelAll K cl ρ H ds vs → DpAll K H vs (pyAll ds)
  | [], _, _, h => by cases h; exact .nil
  | d :: ds, _, p, h => by
    have p' : d.pure = true ∧ pureAll ds = true := by simpa [pureAll] using p
    cases h with
    | cons h1 h2 => exact .cons (dp_of d _ p'.1 h1) (dps_of ds _ p'.2 h2)
end
def itemsOf (S : Sto) : D → Option (List D)
  | .tup ds | .lst ds | .scr ds => some ds
  | .ref n => match S[n]? with
    | some (.lst ds) => some ds
    | _ => none
  | _ => none
def rs (S : Sto) : D → D
  | .ref n => match S[n]? with
    | some (.lst ds) => .lst ds
    | _ => .ref n
  | d => d
def isNon : D → Bool
  | .non => true
  | _ => false
section
variable {K : PySem.W.Frag} {cl : Cl} {M : Addr → Prop} {ρ ρ' : List Addr} {S : Sto} {H H' : Hp} {env : Env} {σ : L2.St}
theorem RelD.full {d : D} {v : V} (r : RelD K cl ρ (cut (NM M ρ) H) d v) : RelD K cl ρ H d v := r.up (List.prefix_refl _) cut_sub d v
theorem RelAll.full {d : List D} {v : List V} (r : RelAll K cl ρ (cut (NM M ρ) H) d v) : RelAll K cl ρ H d v := r.up (List.prefix_refl _) cut_sub d v
theorem G.lstAt (g : G K cl M ρ S H) {n : Nat} {a : Addr} {ds : List D} (ha : ρ[n]? = some a) (hs : S[n]? = some (.lst ds)) : ∃ vs, H a = some (.lst vs) ∧ RelAll K cl ρ (cut (NM M ρ) H) ds vs := by
  obtain ⟨u, hu, r⟩ := g.sto n _ a hs ha
  cases r with
  | lst r => exact ⟨_, hu, r⟩
theorem items_sq (g : G K cl M ρ S H) {d : D} {v : V} {ds : List D} (r : RelD K cl ρ (cut (NM M ρ) H) d v) (h : itemsOf S d = some ds) :
    ∃ a vs, v = .ref a ∧ (SqL K H a vs ∨ SqT K H a vs) ∧ RelAll K cl ρ (cut (NM M ρ) H) ds vs := by
  cases r with
  | tup hs ha => cases h; exact ⟨_, _, rfl, .inr (Evl.ex_t cut_subE hs), ha⟩
  | lst hs ha => cases h; exact ⟨_, _, rfl, .inl (sq_of (cut_subE _ _ hs)), ha⟩
  | scr hs ha => cases h; exact ⟨_, _, rfl, .inl (Evl.ex_l cut_subE hs), ha⟩
  | @ref n a hn =>
    unfold itemsOf at h
    simp only at h
    split at h
    · rename_i ds' he
      cases h
      obtain ⟨vs, hv, r⟩ := g.lstAt hn he
      exact ⟨a, vs, rfl, .inl (sq_of hv), r⟩
    · cases h
  | _ => cases h
theorem rs_rel (g : G K cl M ρ S H) {d : D} {v : V} (r : RelD K cl ρ (cut (NM M ρ) H) d v) : RelD K cl ρ H (rs S d) v := by
  cases r with
  | @ref n a hn =>
    unfold rs
    simp only
    split
    · rename_i ds' he
      obtain ⟨vs, hv, r⟩ := g.lstAt hn he
      exact .lst hv r.full
    · exact .ref hn
  | non => exact .non
  | bl => exact .bl _
  | int => exact .int _
  | str => exact .str _
  | ty => exact .ty _
  | tup hs ha => exact (RelD.tup hs ha).full
  | lst hs ha => exact (RelD.lst hs ha).full
  | scr hs ha => exact (RelD.scr hs ha).full
  | obj hs hk ha => exact (RelD.obj hs hk ha).full
theorem RelAll.atI {ds : List D} {vs : List V} {i : Int} {d : D} (r : RelAll K cl ρ H ds vs) (h : L2.atI ds i = some d) : ∃ v, L2.atI vs i = some v ∧ RelD K cl ρ H d v := by
  unfold L2.atI at h ⊢
  rw [r.len]
  cases e : ixN ds.length i with
  | none => rw [e] at h; cases h
  | some j =>
    rw [e] at h
    exact r.get h
end
section
variable (K : PySem.W.Frag) (cl : Cl)
def SmE (te : TE) (pe : PEx) : Prop := ∀ (M : Addr → Prop) (ρ : List Addr) (S : Sto) (H : Hp) (env : Env) (σ : L2.St), G K cl M ρ S H → RE K cl ρ (cut (NM M ρ) H) env σ → ∀ (k : D → Sto → Prop) (Q : VK), pe env S k →
  (∀ ρ' H' S' d v, Stp cl M ρ H ρ' H' → G K cl M ρ' S' H' → RelD K cl ρ' (cut (NM M ρ') H') d v → k d S' → Q v H') → te σ H Q
def SmT (te : TT) (pe : PTx) : Prop := ∀ (M : Addr → Prop) (ρ : List Addr) (S : Sto) (H : Hp) (env : Env) (σ : L2.St), G K cl M ρ S H → RE K cl ρ (cut (NM M ρ) H) env σ → ∀ (k : Bool → Sto → Prop) (Q : Bool → Hp → Prop), pe env S k →
  (∀ ρ' H' S' b, Stp cl M ρ H ρ' H' → G K cl M ρ' S' H' → k b S' → Q b H') → te σ H Q
def SmA (te : TA) (pe : PAx) : Prop := ∀ (M : Addr → Prop) (ρ : List Addr) (S : Sto) (H : Hp) (env : Env) (σ : L2.St), G K cl M ρ S H → RE K cl ρ (cut (NM M ρ) H) env σ → ∀ (k : List D → Sto → Prop) (Q : List V → Hp → Prop), pe env S k →
  (∀ ρ' H' S' ds vs, Stp cl M ρ H ρ' H' → G K cl M ρ' S' H' → RelAll K cl ρ' (cut (NM M ρ') H') ds vs → k ds S' → Q vs H') → te σ H Q
def SmO (te : TO) (pe : POx) : Prop := ∀ (M : Addr → Prop) (ρ : List Addr) (S : Sto) (H : Hp) (env : Env) (σ : L2.St), G K cl M ρ S H → RE K cl ρ (cut (NM M ρ) H) env σ → ∀ (k : Option Int → Sto → Prop) (Q : Option Int → Hp → Prop), pe env S k →
  (∀ ρ' H' S' b, Stp cl M ρ H ρ' H' → G K cl M ρ' S' H' → k b S' → Q b H') → te σ H Q
def SmR (r : R2) (op : Op2) : Prop := ∀ (M : Addr → Prop) (ρ : List Addr) (S : Sto) (H : Hp) (x y : D) (v w : V), G K cl M ρ S H → RelD K cl ρ (cut (NM M ρ) H) x v → RelD K cl ρ (cut (NM M ρ) H) y w → ∀ (k : D → Prop) (Q : VK), op S x y k →
  (∀ H' d u, Stp cl M ρ H ρ H' → G K cl M ρ S H' → RelD K cl ρ (cut (NM M ρ) H') d u → k d → Q u H') → r v w H Q
def SmC (r : List V → Hp → VK → Prop) (op : OpN) : Prop := ∀ (M : Addr → Prop) (ρ : List Addr) (S : Sto) (H : Hp) (xs : List D) (vs : List V), G K cl M ρ S H → RelAll K cl ρ (cut (NM M ρ) H) xs vs → ∀ (k : D → Prop) (Q : VK), op S xs k →
  (∀ H' d u, Stp cl M ρ H ρ H' → G K cl M ρ S H' → RelD K cl ρ (cut (NM M ρ) H') d u → k d → Q u H') → r vs H Q
end
def pVar (i : Nat) : PEx := fun env S k => ∃ d, env[i]? = some (some d) ∧ k d S
def pC (d : D) : PEx := fun _ S k => k d S
def pOp (op : Op2) (pa pb : PEx) : PEx := fun env S k => pa env S fun x S1 => pb env S1 fun y S2 => op S2 x y fun z => k z S2
def pNil : PAx := fun _ S k => k [] S
def pCons (pa : PEx) (pr : PAx) : PAx := fun env S k => pa env S fun x S1 => pr env S1 fun xs S2 => k (x :: xs) S2
def pTup (pa : PAx) : PEx := fun env S k => pa env S fun xs S1 => xs.length ≤ 100000 ∧ k (.tup xs) S1
def pLst (pa : PAx) : PEx := fun env S k => pa env S fun xs S1 => xs.length ≤ 100000 ∧ k (.lst xs) S1
def pLstM (pa : PAx) : PEx := fun env S k => pa env S fun xs S1 => xs.length ≤ 100000 ∧ k (.ref S1.length) (S1 ++ [.lst xs])
def pNot (pa : PEx) : PEx := fun env S k => pa env S fun x S1 => ∃ b, x = .bl b ∧ k (.bl (!b)) S1
def pAndV (pa pb : PEx) : PEx := fun env S k => pa env S fun x S1 => ∃ c, x = .bl c ∧ if c = true then pb env S1 k else k (.bl false) S1
def pOrV (pa pb : PEx) : PEx := fun env S k => pa env S fun x S1 => ∃ c, x = .bl c ∧ if c = true then k (.bl true) S1 else pb env S1 k
def pIf (pt : PTx) (pa pb : PEx) : PEx := fun env S k => pt env S fun c S1 => if c = true then pa env S1 k else pb env S1 k
def pB (pa : PEx) : PTx := fun env S k => pa env S fun x S1 => ∃ c, x = .bl c ∧ k c S1
def pAnd (pa pb : PTx) : PTx := fun env S k => pa env S fun c S1 => if c = true then pb env S1 k else k false S1
def pOr (pa pb : PTx) : PTx := fun env S k => pa env S fun c S1 => if c = true then k true S1 else pb env S1 k
def pNotT (pa : PTx) : PTx := fun env S k => pa env S fun c S1 => k (!c) S1
def pNoPart : POx := fun _ S k => k none S
def pPart (pa : PEx) : POx := fun env S k => pa env S fun x S1 => ∃ i, x = .int i ∧ k (some i) S1
def pCB (op : OpN) (pa : PAx) : PEx := fun env S k => pa env S fun xs S1 => op S1 xs fun d => k d S1
def pUnN (pa : PEx) : PEx := fun env S k => pa env S fun x S1 => ∃ i, x = .int i ∧ k (.int (-i)) S1
section
variable {K : PySem.W.Frag} {cl : Cl} {te ta tb : TE} {pe pa pb : PEx} {tt tu : TT} {pt pu : PTx} {tr : TA} {pr : PAx}
theorem sm_var {i : Nat} : SmE K cl (tVar i) (pVar i) := fun M ρ S H env σ g re k Q ⟨d, hd, hk⟩ q => by
  obtain ⟨v, hv, r⟩ := re.at' i d hd
  exact ⟨v, hv, q ρ H S d v .refl g r hk⟩
theorem sm_int {i : Int} : SmE K cl (tC (.int i)) (pC (.int i)) := fun M ρ S H env σ g re k Q h q => q ρ H S _ _ .refl g (.int i) h
theorem sm_str {i : Str} : SmE K cl (tC (.str i)) (pC (.str i)) := fun M ρ S H env σ g re k Q h q => q ρ H S _ _ .refl g (.str i) h
theorem sm_bl {i : Bool} : SmE K cl (tC (.bl i)) (pC (.bl i)) := fun M ρ S H env σ g re k Q h q => q ρ H S _ _ .refl g (.bl i) h
theorem sm_non : SmE K cl (tC .non) (pC .non) := fun M ρ S H env σ g re k Q h q => q ρ H S _ _ .refl g .non h
theorem sm_op {r : R2} {op : Op2} (hr : SmR K cl r op) (ha : SmE K cl ta pa) (hb : SmE K cl tb pb) : SmE K cl (tOp r ta tb) (pOp op pa pb) := fun M ρ S H env σ g re k Q h q =>
  ha M ρ S H env σ g re _ _ h fun ρ1 H1 S1 x v s1 g1 rx h1 => hb M ρ1 S1 H1 env σ g1 (re.up s1) _ _ h1 fun ρ2 H2 S2 y w s2 g2 ry h2 =>
    hr M ρ2 S2 H2 x y v w g2 (rx.up s2.pre s2.ex _ _) ry _ _ h2 fun H3 z u s3 g3 rz hk => q ρ2 H3 S2 z u ((s1.trans s2).trans s3) g3 rz hk
theorem sm_nil : SmA K cl tNil pNil := fun M ρ S H env σ g re k Q h q => q ρ H S _ _ .refl g .nil h
theorem sm_cons (ha : SmE K cl ta pa) (hr : SmA K cl tr pr) : SmA K cl (tCons ta tr) (pCons pa pr) := fun M ρ S H env σ g re k Q h q =>
  ha M ρ S H env σ g re _ _ h fun ρ1 H1 S1 x v s1 g1 rx h1 => hr M ρ1 S1 H1 env σ g1 (re.up s1) _ _ h1 fun ρ2 H2 S2 ys ws s2 g2 ry h2 =>
    q ρ2 H2 S2 _ _ (s1.trans s2) g2 (.cons (rx.up s2.pre s2.ex _ _) ry) h2
theorem sm_tup (hr : SmA K cl tr pr) : SmE K cl (tTup tr) (pTup pr) := fun M ρ S H env σ g re k Q h q =>
  hr M ρ S H env σ g re _ _ h fun ρ1 H1 S1 xs vs s1 g1 rx ⟨hl, hk⟩ => ⟨sz_of (by rw [rx.len]; exact hl), fun p hp => by
    obtain ⟨g2, s2, hc⟩ := g1.new (.tup vs) hp
    exact q ρ1 _ S1 _ _ (s1.trans s2) g2 (.tup (st_of hc) (rx.up s2.pre s2.ex _ _)) hk⟩
theorem sm_lst (hr : SmA K cl tr pr) : SmE K cl (tLst tr) (pLst pr) := fun M ρ S H env σ g re k Q h q =>
  hr M ρ S H env σ g re _ _ h fun ρ1 H1 S1 xs vs s1 g1 rx ⟨hl, hk⟩ => ⟨sz_of (by rw [rx.len]; exact hl), fun p hp => by
    obtain ⟨g2, s2, hc⟩ := g1.new (.lst vs) hp
    exact q ρ1 _ S1 _ _ (s1.trans s2) g2 (.lst hc (rx.up s2.pre s2.ex _ _)) hk⟩
theorem sm_lstM (hr : SmA K cl tr pr) : SmE K cl (tLst tr) (pLstM pr) := fun M ρ S H env σ g re k Q h q =>
  hr M ρ S H env σ g re _ _ h fun ρ1 H1 S1 xs vs s1 g1 rx ⟨hl, hk⟩ => ⟨sz_of (by rw [rx.len]; exact hl), fun p hp => by
    obtain ⟨g2, s2⟩ := g1.alloc (o := .lst vs) hp (.lst rx)
    exact q (ρ1 ++ [p]) _ _ _ _ (s1.trans s2) g2 (.ref (by rw [← g1.len, List.getElem?_append_right (Nat.le_refl _), Nat.sub_self]; rfl)) hk⟩
theorem rel_bl {ρ : List Addr} {H : Hp} {b : Bool} {v : V} (h : RelD K cl ρ H (.bl b) v) : v = .bl b := by cases h; rfl
theorem rel_int {ρ : List Addr} {H : Hp} {b : Int} {v : V} (h : RelD K cl ρ H (.int b) v) : v = .int b := by cases h; rfl
theorem rel_str {ρ : List Addr} {H : Hp} {b : Str} {v : V} (h : RelD K cl ρ H (.str b) v) : v = .str b := by cases h; rfl
theorem sm_orV (ha : SmE K cl ta pa) (hb : SmE K cl tb pb) : SmE K cl (tOrV ta tb) (pOrV pa pb) := fun M ρ S H env σ g re k Q h q =>
  ha M ρ S H env σ g re _ _ h fun ρ1 H1 S1 x v s1 g1 rx ⟨b, e, hk⟩ => by
    subst e
    refine ⟨b, rel_bl rx, ?_⟩
    cases b with
    | false => exact hb M ρ1 S1 H1 env σ g1 (re.up s1) _ _ hk fun ρ2 H2 S2 y w s2 g2 ry h2 => q ρ2 H2 S2 y w (s1.trans s2) g2 ry h2
    | true => exact q ρ1 H1 S1 _ _ s1 g1 (.bl _) hk
theorem sm_B (ha : SmE K cl ta pa) : SmT K cl (tB ta) (pB pa) := fun M ρ S H env σ g re k Q h q =>
  ha M ρ S H env σ g re _ _ h fun ρ1 H1 S1 x v s1 g1 rx ⟨b, e, hk⟩ => by
    subst e
    exact ⟨b, rel_bl rx, q ρ1 H1 S1 _ s1 g1 hk⟩
theorem sm_test (ha : SmE K cl ta pa) : SmT K cl (tTest ta) (pB pa) := fun M ρ S H env σ g re k Q h q =>
  ha M ρ S H env σ g re _ _ h fun ρ1 H1 S1 x v s1 g1 rx ⟨b, e, hk⟩ => by
    subst e
    exact ⟨b, rel_bl rx, q ρ1 H1 S1 _ s1 g1 hk⟩
theorem sm_and (ha : SmT K cl tt pt) (hb : SmT K cl tu pu) : SmT K cl (tAnd tt tu) (pAnd pt pu) := fun M ρ S H env σ g re k Q h q =>
  ha M ρ S H env σ g re _ _ h fun ρ1 H1 S1 b s1 g1 hk => by
    cases b with
    | true => exact hb M ρ1 S1 H1 env σ g1 (re.up s1) _ _ hk fun ρ2 H2 S2 y s2 g2 h2 => q ρ2 H2 S2 y (s1.trans s2) g2 h2
    | false => exact q ρ1 H1 S1 _ s1 g1 hk
theorem sm_or (ha : SmT K cl tt pt) (hb : SmT K cl tu pu) : SmT K cl (tOr tt tu) (pOr pt pu) := fun M ρ S H env σ g re k Q h q =>
  ha M ρ S H env σ g re _ _ h fun ρ1 H1 S1 b s1 g1 hk => by
    cases b with
    | false => exact hb M ρ1 S1 H1 env σ g1 (re.up s1) _ _ hk fun ρ2 H2 S2 y s2 g2 h2 => q ρ2 H2 S2 y (s1.trans s2) g2 h2
    | true => exact q ρ1 H1 S1 _ s1 g1 hk
theorem sm_notT (ha : SmT K cl tt pt) : SmT K cl (tNot tt) (pNotT pt) := fun M ρ S H env σ g re k Q h q =>
  ha M ρ S H env σ g re _ _ h fun ρ1 H1 S1 b s1 g1 hk => q ρ1 H1 S1 _ s1 g1 hk
theorem sm_noPart : SmO K cl tNoPart pNoPart := fun M ρ S H env σ g re k Q h q => q ρ H S _ .refl g h
theorem sm_part (ha : SmE K cl ta pa) : SmO K cl (tPart ta) (pPart pa) := fun M ρ S H env σ g re k Q h q =>
  ha M ρ S H env σ g re _ _ h fun ρ1 H1 S1 x v s1 g1 rx ⟨i, e, hk⟩ => by
    subst e
    exact ⟨i, rel_int rx, q ρ1 H1 S1 _ s1 g1 hk⟩
theorem sm_cb {r : List V → Hp → VK → Prop} {op : OpN} (hr : SmC K cl r op) (ha : SmA K cl tr pr) : SmE K cl (tCB r tr) (pCB op pr) := fun M ρ S H env σ g re k Q h q =>
  ha M ρ S H env σ g re _ _ h fun ρ1 H1 S1 xs vs s1 g1 rx h1 => hr M ρ1 S1 H1 xs vs g1 rx _ _ h1 fun H2 d u s2 g2 rd hk => q ρ1 H2 S1 d u (s1.trans s2) g2 rd hk
end
end Pw
namespace Pw
open PySem PySem.Spec PyProof.Rows L2 Evl Lw
theorem or2 {X : Cx} {f : Value → Value → Sem Value} {r r' : R2} (h : OpR X f r) (h' : OpR X f r') : OpR X f (fun x y H Q => r x y H Q ∨ r' x y H Q) := by
  intro pins s σ H x y v u Q I rx ry q
  rcases q with q | q
  · exact h pins s σ H x y v u Q I rx ry q
  · exact h' pins s σ H x y v u Q I rx ry q
def rCatS : R2 := fun x y H Q => ∃ i j, x = .str i ∧ y = .str j ∧ i.length + j.length ≤ sizeLine ∧ Q (.str (i ++ j)) H
def uAdd (K : PySem.W.Frag) : R2 := fun x y H Q => rI0 (fun i j => .int (i + j)) x y H Q ∨ rCatS x y H Q ∨ rCatA K x y H Q ∨ rCat x y H Q
theorem uop_add {X : Cx} : OpR X (binaryOp .Add) (uAdd X.K) := or2 op_add (or2 op_add_str (or2 op_catA op_cat))
def uMul : R2 := fun x y H Q => rI CMul (fun i j => .int (i * j)) x y H Q ∨ rMulStr x y H Q ∨ rRep x y H Q
theorem uop_mul {X : Cx} : OpR X (binaryOp .Mult) uMul := or2 op_mul (or2 op_mul_str op_rep)
def uIx (K : PySem.W.Frag) : R2 := fun x y H Q => rIxL K x y H Q ∨ rIxT K x y H Q ∨ rIxS x y H Q
theorem uix {X : Cx} : IxR X (uIx X.K) := ix_list.or (ix_tup.or ix_str)
def uIn (K : PySem.W.Frag) : R2 := fun x y H Q => rInD K false x y H Q ∨ rInS x y H Q
theorem uop_in {X : Cx} (hu : X.A.units + 64 < cLine) : OpR X (compareOp .In) (uIn X.K) := or2 (op_inD hu) op_inS
def uNi (K : PySem.W.Frag) : R2 := fun x y H Q => rInD K true x y H Q ∨ rNotInS x y H Q
theorem uop_ni {X : Cx} (hu : X.A.units + 64 < cLine) : OpR X (compareOp .NotIn) (uNi X.K) := or2 (op_niD hu) op_notInS
def uLen (K : PySem.W.Frag) : List V → Hp → VK → Prop := fun xs H Q => (∃ z, xs = [.str z] ∧ z.length ≤ sizeLine ∧ Q (.int z.length) H) ∨ (∃ p ys, xs = [.ref p] ∧ (SqL K H p ys ∨ SqT K H p ys) ∧ Q (.int ys.length) H)
theorem ucall_len {X : Cx} : CallR X (.builtin "len") (uLen X.K) := call_len_str.or call_len_seq
def uSl (K : PySem.W.Frag) : V → Option Int → Option Int → Hp → VK → Prop := fun x lo hi H Q => rSlL K x lo hi H Q ∨ rSlA K x lo hi H Q ∨ rSlS x lo hi H Q
theorem usl {X : Cx} : SlR X (uSl X.K) := sl_list.or (sl_tupA.or sl_str)
def listOf (S : Sto) : D → Option (List D)
  | .lst ds => some ds
  | .ref n => match S[n]? with
    | some (.lst ds) => some ds
    | _ => none
  | _ => none
def addk : Op2 := fun S x y k => match x, y with
  | .int i, .int j => k (.int (i + j))
  | .str a, .str b => a.length + b.length ≤ 100000 ∧ k (.str (a ++ b))
  | .tup a, .tup b => a.length + b.length ≤ 100000 ∧ k (.tup (a ++ b))
  | x, y => ∃ a b, listOf S x = some a ∧ listOf S y = some b ∧ a.length + b.length ≤ 100000 ∧ k (.lst (a ++ b))
def subk : Op2 := fun _ x y k => match x, y with
  | .int i, .int j => k (.int (i - j))
  | _, _ => False
def mulk : Op2 := fun S x y k => match x, y with
  | .int i, .int j => CMul i j ∧ k (.int (i * j))
  | .str a, .int n => (1 ≤ n ∧ n ≤ 20000 ∧ a.length ≤ 200) ∧ k (.str (Txt.mul a n))
  | x, .int n => ∃ a, listOf S x = some a ∧ (0 ≤ n ∧ n ≤ 10000 ∧ a.length ≤ 10) ∧ k (.lst (List.replicate n.toNat a).flatten)
  | _, _ => False
def divk : Op2 := fun _ x y k => match x, y with
  | .int i, .int j => (0 < j ∧ j < 1073741824) ∧ k (.int (i / j))
  | _, _ => False
def modk : Op2 := fun _ x y k => match x, y with
  | .int i, .int j => 0 < j ∧ k (.int (i % j))
  | _, _ => False
def cmpk (f : Int → Int → Bool) : Op2 := fun _ x y k => match x, y with
  | .int i, .int j => k (.bl (f i j))
  | _, _ => False
def eqk : Op2 := fun S x y k => (rs S x).pure = true ∧ (rs S y).pure = true ∧ (rs S x).dep ≤ 60 ∧ k (.bl (D.eqv (rs S x) (rs S y)))
def nek : Op2 := fun S x y k => (rs S x).pure = true ∧ (rs S y).pure = true ∧ (rs S x).dep ≤ 60 ∧ k (.bl (!D.eqv (rs S x) (rs S y)))
def isk : Op2 := fun _ x y k => y = .non ∧ k (.bl (isNon x))
def ink : Op2 := fun S x y k => match y with
  | .str z => ∃ c, x = .str ⟨#[c]⟩ ∧ k (.bl (decide (c ∈ z.cps.toList)))
  | y => ∃ es, itemsOf S y = some es ∧ pureAll es = true ∧ x.pure = true ∧ x.dep ≤ 60 ∧ k (.bl (es.any fun z => D.eqv z x))
def nik : Op2 := fun S x y k => match y with
  | .str z => ∃ c, x = .str ⟨#[c]⟩ ∧ k (.bl (!decide (c ∈ z.cps.toList)))
  | y => ∃ es, itemsOf S y = some es ∧ pureAll es = true ∧ x.pure = true ∧ x.dep ≤ 60 ∧ k (.bl (!es.any fun z => D.eqv z x))
def nsk : Op2 := fun _ x y k => y = .non ∧ k (.bl (!isNon x))
def ixk : Op2 := fun S x y k => match y with
  | .int i => match x with
    | .str z => ∃ c, z.length ≤ 100000 ∧ atI z.cps.toList i = some c ∧ k (.str ⟨#[c]⟩)
    | x => ∃ ds d, itemsOf S x = some ds ∧ atI ds i = some d ∧ k d
  | _ => False
def lenk : OpN := fun S xs k => match xs with
  | [.str z] => z.length ≤ 100000 ∧ k (.int z.length)
  | [x] => ∃ ds, itemsOf S x = some ds ∧ k (.int ds.length)
  | _ => False
def int1k : OpN := fun _ xs k => match xs with
  | [.int i] => k (.int i)
  | [.bl b] => k (.int (if b = true then 1 else 0))
  | _ => False
def strIk : OpN := fun _ xs k => match xs with
  | [.int i] => i.natAbs.log2 < 1920 ∧ k (.str (toString i))
  | _ => False
def max2k : OpN := fun _ xs k => match xs with
  | [.int i, .int j] => k (.int (if j > i then j else i))
  | _ => False
def min2k : OpN := fun _ xs k => match xs with
  | [.int i, .int j] => k (.int (if j < i then j else i))
  | _ => False
def tupk : OpN := fun S xs k => match xs with
  | [.tup ds] => k (.tup ds)
  | [x] => ∃ ds, listOf S x = some ds ∧ k (.tup ds)
  | _ => False
def lstk : OpN := fun S xs k => match xs with
  | [x] => ∃ ds, itemsOf S x = some ds ∧ k (.lst ds)
  | _ => False
def cutD (xs : List D) (lo hi : Option Int) : List D := (xs.drop (HT.sIx xs.length 0 lo)).take (HT.sIx xs.length xs.length hi - HT.sIx xs.length 0 lo)
def slk (S : Sto) (x : D) (lo hi : Option Int) (k : D → Prop) : Prop := match x with
  | .str z => z.length ≤ 100000 ∧ k (.str (cutS z lo hi))
  | .tup ds => k (.tup (cutD ds lo hi))
  | x => ∃ ds, listOf S x = some ds ∧ k (.lst (cutD ds lo hi))
def pSl (pa : PEx) (pl ph : POx) : PEx := fun env S k => pa env S fun x S1 => pl env S1 fun l S2 => ph env S2 fun u S3 => slk S3 x l u fun d => k d S3
section
variable {K : PySem.W.Frag} {cl : Cl} {M : Addr → Prop} {ρ ρ' : List Addr} {S : Sto} {H H' : Hp} {env : Env} {σ : L2.St}
theorem list_at (g : G K cl M ρ S H) {d : D} {v : V} {ds : List D} (r : RelD K cl ρ (cut (NM M ρ) H) d v) (h : listOf S d = some ds) :
    ∃ a vs, v = .ref a ∧ H a = some (.lst vs) ∧ RelAll K cl ρ (cut (NM M ρ) H) ds vs := by
  cases r with
  | lst hs ha => cases h; exact ⟨_, _, rfl, cut_subE _ _ hs, ha⟩
  | @ref n a hn =>
    unfold listOf at h
    simp only at h
    split at h
    · rename_i ds' he
      cases h
      obtain ⟨vs, hv, r⟩ := g.lstAt hn he
      exact ⟨a, vs, rfl, hv, r⟩
    · cases h
  | _ => cases h
theorem fin_lst (g : G K cl M ρ S H) {ds : List D} {vs : List V} (r : RelAll K cl ρ (cut (NM M ρ) H) ds vs) {k : D → Prop} {Q : VK} (hk : k (.lst ds))
    (q : ∀ H' d u, Stp cl M ρ H ρ H' → G K cl M ρ S H' → RelD K cl ρ (cut (NM M ρ) H') d u → k d → Q u H') (p : Addr) (hp : H p = none) : Q (.ref p) (upd H p (.lst vs)) := by
  obtain ⟨g2, s2, hc⟩ := g.new (.lst vs) hp
  exact q _ _ _ s2 g2 (.lst hc (r.up s2.pre s2.ex _ _)) hk
theorem fin_tup (g : G K cl M ρ S H) {ds : List D} {vs : List V} (r : RelAll K cl ρ (cut (NM M ρ) H) ds vs) {k : D → Prop} {Q : VK} (hk : k (.tup ds))
    (q : ∀ H' d u, Stp cl M ρ H ρ H' → G K cl M ρ S H' → RelD K cl ρ (cut (NM M ρ) H') d u → k d → Q u H') (p : Addr) (hp : H p = none) : Q (.ref p) (upd H p (.tup vs)) := by
  obtain ⟨g2, s2, hc⟩ := g.new (.tup vs) hp
  exact q _ _ _ s2 g2 (.tup (st_of hc) (r.up s2.pre s2.ex _ _)) hk
end
section
variable {K : PySem.W.Frag} {cl : Cl}
theorem smr_add : SmR K cl (uAdd K) addk := by
  intro M ρ S H x y v w g rx ry k Q h q
  have lists : (∃ a b, listOf S x = some a ∧ listOf S y = some b ∧ a.length + b.length ≤ 100000 ∧ k (.lst (a ++ b))) → uAdd K v w H Q := by
    rintro ⟨a, b, ha, hb, hl, hk⟩
    obtain ⟨p, vs, rfl, h1, r1⟩ := list_at g rx ha
    obtain ⟨p2, ws, rfl, h2, r2⟩ := list_at g ry hb
    exact .inr (.inr (.inr ⟨p, p2, vs, ws, rfl, rfl, h1, h2, sz_of (by rw [r1.len, r2.len]; exact hl), fin_lst g (r1.app r2) hk q⟩))
  cases x with
  | int i =>
    cases y with
    | int j =>
      rw [rel_int rx, rel_int ry]
      exact .inl ⟨i, j, rfl, rfl, q H _ _ .refl g (.int _) h⟩
    | _ => exact lists h
  | str i =>
    cases y with
    | str j =>
      rw [rel_str rx, rel_str ry]
      exact .inr (.inl ⟨i, j, rfl, rfl, sz_of h.1, q H _ _ .refl g (.str _) h.2⟩)
    | _ => exact lists h
  | tup a =>
    cases y with
    | tup b =>
      have hk := h.2
      have hr := h.1
      cases rx with
      | tup hs ha => cases ry with
        | tup ht hb =>
          refine .inr (.inr (.inl ⟨_, _, _, _, rfl, rfl, Evl.ex_t cut_subE hs, Evl.ex_t cut_subE ht, sz_of (by rw [ha.len, hb.len]; exact hr), fun h0 => ?_, fun h0 h1 => ?_, fun h0 h1 p hp => fin_tup g (ha.app hb) hk q p hp⟩))
          · subst h0
            cases ha
            exact q H _ _ .refl g (.tup ht hb) hk
          · subst h1
            cases hb
            rw [List.append_nil] at hk
            exact q H _ _ .refl g (.tup hs ha) hk
    | _ => exact lists h
  | _ => exact lists h
theorem smr_sub : SmR K cl (rI0 fun i j => .int (i - j)) subk := by
  intro M ρ S H x y v w g rx ry k Q h q
  cases x with
  | int i => cases y with
    | int j =>
      rw [rel_int rx, rel_int ry]
      exact ⟨i, j, rfl, rfl, q H _ _ .refl g (.int _) h⟩
    | _ => exact h.elim
  | _ => exact h.elim
theorem smr_mul : SmR K cl uMul mulk := by
  intro M ρ S H x y v w g rx ry k Q h q
  cases y with
  | int n =>
    have hw := rel_int ry
    subst hw
    have lists : (∃ a, listOf S x = some a ∧ (0 ≤ n ∧ n ≤ 10000 ∧ a.length ≤ 10) ∧ k (.lst (List.replicate n.toNat a).flatten)) → uMul v (.int n) H Q := by
      rintro ⟨a, ha, ⟨h1, h2, h3⟩, hk⟩
      obtain ⟨p, vs, rfl, hp, r1⟩ := list_at g rx ha
      have rep : ∀ m : Nat, RelAll K cl ρ (cut (NM M ρ) H) (List.replicate m a).flatten (List.replicate m vs).flatten := by
        intro m
        induction m with
        | zero => exact .nil
        | succ m ih =>
          rw [List.replicate_succ, List.replicate_succ, List.flatten_cons, List.flatten_cons]
          exact r1.app ih
      have hsz : vs.length * n.toNat ≤ 100000 := by
        rw [r1.len]
        have : n.toNat ≤ 10000 := by omega
        exact Nat.le_trans (Nat.mul_le_mul h3 this) (by decide)
      exact .inr (.inr ⟨p, n, vs, rfl, rfl, hp, by omega, by omega, sz_of hsz, fin_lst g (rep n.toNat) hk q⟩)
    cases x with
    | int i =>
      rw [rel_int rx]
      exact .inl ⟨i, n, rfl, rfl, h.1, q H _ _ .refl g (.int _) h.2⟩
    | str i =>
      rw [rel_str rx]
      exact .inr (.inl ⟨i, n, rfl, rfl, h.1.1, h.1.2.1, h.1.2.2, q H _ _ .refl g (.str _) h.2⟩)
    | _ => exact lists h
  | _ => cases x <;> exact h.elim
theorem smr_div : SmR K cl (rI CDiv fun i j => .int (i / j)) divk := by
  intro M ρ S H x y v w g rx ry k Q h q
  cases x with
  | int i => cases y with
    | int j =>
      rw [rel_int rx, rel_int ry]
      exact ⟨i, j, rfl, rfl, h.1, q H _ _ .refl g (.int _) h.2⟩
    | _ => exact h.elim
  | _ => exact h.elim
theorem smr_mod : SmR K cl (rI (fun _ j => 0 < j) fun i j => .int (i % j)) modk := by
  intro M ρ S H x y v w g rx ry k Q h q
  cases x with
  | int i => cases y with
    | int j =>
      rw [rel_int rx, rel_int ry]
      exact ⟨i, j, rfl, rfl, h.1, q H _ _ .refl g (.int _) h.2⟩
    | _ => exact h.elim
  | _ => exact h.elim
theorem smr_cmp {f : Int → Int → Bool} : SmR K cl (rI0 fun i j => .bl (f i j)) (cmpk f) := by
  intro M ρ S H x y v w g rx ry k Q h q
  cases x with
  | int i => cases y with
    | int j =>
      rw [rel_int rx, rel_int ry]
      exact ⟨i, j, rfl, rfl, q H _ _ .refl g (.bl _) h⟩
    | _ => exact h.elim
  | _ => exact h.elim
theorem smr_eq : SmR K cl (rEqP K) eqk := fun M ρ S H x y v w g rx ry k Q ⟨h1, h2, h3, hk⟩ q =>
  ⟨_, _, dp_of _ _ h1 (rs_rel g rx), dp_of _ _ h2 (rs_rel g ry), plain_py _, plain_py _, h3, q H _ _ .refl g (.bl _) hk⟩
theorem smr_ne : SmR K cl (rNeP K) nek := fun M ρ S H x y v w g rx ry k Q ⟨h1, h2, h3, hk⟩ q =>
  ⟨_, _, dp_of _ _ h1 (rs_rel g rx), dp_of _ _ h2 (rs_rel g ry), plain_py _, plain_py _, h3, q H _ _ .refl g (.bl _) hk⟩
theorem isNon_of {ρ : List Addr} {H : Hp} {d : D} {v : V} (h : RelD K cl ρ H d v) : decide (v = .non) = isNon d := by
  cases h <;> rfl
theorem smr_is : SmR K cl (fun x y H Q => y = .non ∧ Q (.bl (decide (x = .non))) H) isk := fun M ρ S H x y v w g rx ry k Q ⟨h1, hk⟩ q => by
  subst h1
  cases ry
  refine ⟨rfl, ?_⟩
  rw [isNon_of rx]
  exact q H _ _ .refl g (.bl _) hk
theorem smr_ns : SmR K cl (fun x y H Q => y = .non ∧ Q (.bl (!decide (x = .non))) H) nsk := fun M ρ S H x y v w g rx ry k Q ⟨h1, hk⟩ q => by
  subst h1
  cases ry
  refine ⟨rfl, ?_⟩
  rw [isNon_of rx]
  exact q H _ _ .refl g (.bl _) hk
theorem pys_map : ∀ ds : List D, pyAll ds = ds.map D.py
  | [] => rfl
  | d :: ds => by rw [pyAll, List.map_cons, pys_map ds]
theorem any_py (es : List D) (x : D) : ((pyAll es).any fun z => PyData.eqv z x.py) = es.any fun z => D.eqv z x := by
  rw [pys_map, List.any_map]
  rfl
theorem smr_in : SmR K cl (uIn K) ink := by
  intro M ρ S H x y v w g rx ry k Q h q
  have seqs : (∃ es, itemsOf S y = some es ∧ pureAll es = true ∧ x.pure = true ∧ x.dep ≤ 60 ∧ k (.bl (es.any fun z => D.eqv z x))) → uIn K v w H Q := by
    rintro ⟨es, he, hp, hx, hd, hk⟩
    obtain ⟨a, vs, rfl, hs, r⟩ := items_sq g ry he
    have dp := dps_of es vs hp r.full
    refine .inl ⟨x.py, pyAll es, dp_of x v hx rx.full, ?_, plain_pys _, plain_py _, hd, ?_⟩
    · rcases hs with hs | hs
      · exact .inl (.lst hs dp)
      · exact .inr (.tup hs dp)
    · rw [any_py]
      exact q H _ _ .refl g (.bl _) hk
  cases y with
  | str z =>
    obtain ⟨c, rfl, hk⟩ := h
    rw [rel_str rx, rel_str ry]
    exact .inr ⟨c, z, rfl, rfl, q H _ _ .refl g (.bl _) hk⟩
  | _ => exact seqs h
theorem smr_ni : SmR K cl (uNi K) nik := by
  intro M ρ S H x y v w g rx ry k Q h q
  have seqs : (∃ es, itemsOf S y = some es ∧ pureAll es = true ∧ x.pure = true ∧ x.dep ≤ 60 ∧ k (.bl (!es.any fun z => D.eqv z x))) → uNi K v w H Q := by
    rintro ⟨es, he, hp, hx, hd, hk⟩
    obtain ⟨a, vs, rfl, hs, r⟩ := items_sq g ry he
    have dp := dps_of es vs hp r.full
    refine .inl ⟨x.py, pyAll es, dp_of x v hx rx.full, ?_, plain_pys _, plain_py _, hd, ?_⟩
    · rcases hs with hs | hs
      · exact .inl (.lst hs dp)
      · exact .inr (.tup hs dp)
    · rw [if_pos rfl, any_py]
      exact q H _ _ .refl g (.bl _) hk
  cases y with
  | str z =>
    obtain ⟨c, rfl, hk⟩ := h
    rw [rel_str rx, rel_str ry]
    exact .inr ⟨c, z, rfl, rfl, q H _ _ .refl g (.bl _) hk⟩
  | _ => exact seqs h
theorem smr_ix : SmR K cl (uIx K) ixk := by
  intro M ρ S H x y v w g rx ry k Q h q
  cases y with
  | int i =>
    have hw := rel_int ry
    subst hw
    have seqs : (∃ ds d, itemsOf S x = some ds ∧ atI ds i = some d ∧ k d) → uIx K v (.int i) H Q := by
      rintro ⟨ds, d, he, hi, hk⟩
      obtain ⟨a, vs, rfl, hs, r⟩ := items_sq g rx he
      obtain ⟨u, hu, ru⟩ := r.atI hi
      rcases hs with hs | hs
      · exact .inl ⟨a, vs, i, u, rfl, rfl, hs, hu, q H _ _ .refl g ru hk⟩
      · exact .inr (.inl ⟨a, vs, i, u, rfl, rfl, hs, hu, q H _ _ .refl g ru hk⟩)
    cases x with
    | str z =>
      obtain ⟨c, hz, hc, hk⟩ := h
      rw [rel_str rx]
      exact .inr (.inr ⟨z, i, c, rfl, rfl, sz_of hz, hc, q H _ _ .refl g (.str _) hk⟩)
    | _ => exact seqs h
  | _ => exact h.elim
theorem all1 {ρ : List Addr} {H : Hp} {d : D} {vs : List V} (h : RelAll K cl ρ H [d] vs) : ∃ v, vs = [v] ∧ RelD K cl ρ H d v := by
  cases h with
  | cons a h => cases h; exact ⟨_, rfl, a⟩
theorem smc_len : SmC K cl (uLen K) lenk := by
  intro M ρ S H xs vs g r k Q h q
  match xs, h with
  | [.str z], h =>
    obtain ⟨v, rfl, r1⟩ := all1 r
    rw [rel_str r1]
    exact .inl ⟨z, rfl, sz_of h.1, q H _ _ .refl g (.int _) h.2⟩
  | [.non], ⟨ds, e, hk⟩ | [.bl _], ⟨ds, e, hk⟩ | [.int _], ⟨ds, e, hk⟩ | [.ty _], ⟨ds, e, hk⟩ | [.obj _ _ _], ⟨ds, e, hk⟩ => cases e
  | [.tup _], ⟨ds, e, hk⟩ | [.lst _], ⟨ds, e, hk⟩ | [.scr _], ⟨ds, e, hk⟩ | [.ref _], ⟨ds, e, hk⟩ =>
    obtain ⟨v, rfl, r1⟩ := all1 r
    obtain ⟨a, ws, rfl, hs, r2⟩ := items_sq g r1 e
    refine .inr ⟨a, ws, rfl, hs, ?_⟩
    rw [r2.len]
    exact q H _ _ .refl g (.int _) hk
  | [], h => exact h.elim
  | _ :: _ :: _, h => simp [lenk] at h
theorem smc_int : SmC K cl (fun xs H Q => (∃ i, xs = [V.int i] ∧ Q (V.int i) H) ∨ ∃ k, xs = [V.bl k] ∧ Q (V.int (if k = true then 1 else 0)) H) int1k := by
  intro M ρ S H xs vs g r k Q h q
  match xs, h with
  | [.int i], h =>
    obtain ⟨v, rfl, r1⟩ := all1 r
    rw [rel_int r1]
    exact .inl ⟨i, rfl, q H _ _ .refl g (.int _) h⟩
  | [.bl b], h =>
    obtain ⟨v, rfl, r1⟩ := all1 r
    rw [rel_bl r1]
    exact .inr ⟨b, rfl, q H _ _ .refl g (.int _) h⟩
  | [.non], h | [.str _], h | [.ty _], h | [.obj _ _ _], h | [.tup _], h | [.lst _], h | [.scr _], h | [.ref _], h => exact h.elim
  | [], h => exact h.elim
  | _ :: _ :: _, h => simp [int1k] at h
theorem smc_strI : SmC K cl (fun xs H Q => ∃ i : Int, xs = [.int i] ∧ i.natAbs.log2 < 1920 ∧ Q (.str (toString i)) H) strIk := by
  intro M ρ S H xs vs g r k Q h q
  match xs, h with
  | [.int i], h =>
    obtain ⟨v, rfl, r1⟩ := all1 r
    rw [rel_int r1]
    exact ⟨i, rfl, h.1, q H _ _ .refl g (.str _) h.2⟩
  | [.bl b], h | [.non], h | [.str _], h | [.ty _], h | [.obj _ _ _], h | [.tup _], h | [.lst _], h | [.scr _], h | [.ref _], h => exact h.elim
  | [], h => exact h.elim
  | _ :: _ :: _, h => simp [strIk] at h
theorem smc_tup : SmC K cl (fun xs H Q => ∃ p ys, xs = [.ref p] ∧ ((SqL K H p ys ∧ ∀ l, H l = none → Q (.ref l) (upd H l (.tup ys))) ∨ (SqT K H p ys ∧ Q (.ref p) H))) tupk := by
  intro M ρ S H xs vs g r k Q h q
  have lists : ∀ x, xs = [x] → (∃ ds, listOf S x = some ds ∧ k (.tup ds)) → ∃ p ys, vs = [.ref p] ∧ ((SqL K H p ys ∧ ∀ l, H l = none → Q (.ref l) (upd H l (.tup ys))) ∨ (SqT K H p ys ∧ Q (.ref p) H)) := by
    rintro x rfl ⟨ds, e, hk⟩
    obtain ⟨v, rfl, r1⟩ := all1 r
    obtain ⟨a, ws, rfl, hs, r2⟩ := list_at g r1 e
    exact ⟨a, ws, rfl, .inl ⟨sq_of hs, fin_tup g r2 hk q⟩⟩
  unfold tupk at h
  split at h
  · obtain ⟨v, rfl, r1⟩ := all1 r
    cases r1 with
    | tup hs ha => exact ⟨_, _, rfl, .inr ⟨Evl.ex_t cut_subE hs, q H _ _ .refl g (.tup hs ha) h⟩⟩
  · exact lists _ rfl h
  · exact h.elim
theorem relCut {ρ : List Addr} {H : Hp} {ds : List D} {vs : List V} (r : RelAll K cl ρ H ds vs) (lo hi : Option Int) : RelAll K cl ρ H (cutD ds lo hi) (cutV vs lo hi) := by
  unfold cutD cutV
  rw [r.len]
  exact (r.dropN _).takeN _
theorem sm_sl {te : TE} {tl th : TO} {pe : PEx} {pl ph : POx} (he : SmE K cl te pe) (hl : SmO K cl tl pl) (hh : SmO K cl th ph) : SmE K cl (tSl (uSl K) te tl th) (pSl pe pl ph) := fun M ρ S H env σ g re k Q h q =>
  he M ρ S H env σ g re _ _ h fun ρ1 H1 S1 x v s1 g1 rx h1 => hl M ρ1 S1 H1 env σ g1 (re.up s1) _ _ h1 fun ρ2 H2 S2 lo s2 g2 h2 =>
    hh M ρ2 S2 H2 env σ g2 (re.up (s1.trans s2)) _ _ h2 fun ρ3 H3 S3 hi s3 g3 h3 => by
      have s13 := s2.trans s3
      have rx3 := rx.up s13.pre s13.ex _ _
      have s03 := s1.trans s13
      have lists : (∃ ds, listOf S3 x = some ds ∧ k (.lst (cutD ds lo hi)) S3) → uSl K v lo hi H3 Q := by
        rintro ⟨ds, e, hk⟩
        obtain ⟨a, ws, rfl, hs, r2⟩ := list_at g3 rx3 e
        exact .inl ⟨a, ws, rfl, sq_of hs, fin_lst g3 (relCut r2 lo hi) (k := fun d => k d S3) hk fun H4 d u s4 g4 r4 hk => q ρ3 H4 S3 d u (s03.trans s4) g4 r4 hk⟩
      cases x with
      | str z =>
        rw [rel_str rx3]
        exact .inr (.inr ⟨z, rfl, sz_of h3.1, q ρ3 H3 S3 _ _ s03 g3 (.str _) h3.2⟩)
      | tup ds =>
        have hk : k (.tup (cutD ds lo hi)) S3 := h3
        cases rx3 with
        | tup hs ha =>
          refine .inr (.inl ⟨_, _, rfl, Evl.ex_t cut_subE hs, fun hw => ?_, fun hw p hp => ?_⟩)
          · have e : cutD ds lo hi = ds := by
              unfold cutD
              rw [← ha.len, hw.1, hw.2]
              simp [ha.len]
            rw [e] at hk
            exact q ρ3 H3 S3 _ _ s03 g3 (.tup hs ha) hk
          · exact fin_tup g3 (relCut ha lo hi) (k := fun d => k d S3) hk (fun H4 d u s4 g4 r4 hk => q ρ3 H4 S3 d u (s03.trans s4) g4 r4 hk) p hp
      | _ => exact lists h3
end
end Pw
namespace Pw
open PySem PySem.Spec PyProof.Rows L2 Evl Lw
def iterOf (S : Sto) : D → Option (List D)
  | .str z => some (z.cps.toList.map fun c => .str ⟨#[c]⟩)
  | d => itemsOf S d
def rngD (n : Nat) : List D := (List.range n).map fun (i : Nat) => .int (i : Int)
def rngD2 (lo : Int) (n : Nat) : List D := (List.range n).map fun (i : Nat) => .int (lo + (i : Int))
def uIt (K : PySem.W.Frag) (tl : TE) : TI := fun σ H R => tl σ H fun x H1 => (∃ a, x = .ref a ∧ (((∃ xs, SqL K H1 a xs) ∧ R (Itl K a) H1) ∨ ((∃ xs, SqT K H1 a xs) ∧ R (Itt K a) H1))) ∨ (∃ z, x = .str z ∧ R (Its z) H1)
theorem upi {X : Cx} {tg l : Expr} {tl : TE} (hl : PE X l tl) : PI X tg l (uIt X.K tl) := by
  refine ⟨fun pins s σ H R I h => thn (hl.run pins s σ H _ I h) fun v s1 ⟨x, H1, I1, r1, q⟩ => ?_⟩
  rcases q with ⟨a, ex, q⟩ | ⟨z, ex, q⟩
  · subst ex
    cases r1
    rcases q with ⟨⟨xs, hq⟩, q⟩ | ⟨⟨xs, hq⟩, q⟩
    · obtain ⟨its, _, p, _⟩ := I1.list hq
      refine wpAny_pyIter_list p.isList ⟨s1.heap.objs.size, [s1.heap.objs.size], _, _, H1, rfl, I1.kept (t' := s1.toks) fun b o e => Heap.get?_push_of_some _ e, turn_list a _, ⟨_, Heap.get?_push_size _ rfl, rfl, rfl⟩, fun b hb => ?_, q⟩
      obtain rfl : b = s1.heap.objs.size := List.mem_singleton.mp hb
      exact I1.fpOk (Nat.le_refl _) (I1.hok.fresh (Nat.le_refl _))
    · obtain ⟨its, _, p, _⟩ := I1.tuple hq
      refine wpAny_pyIter_tuple (show s1.heap.IsTuple a its.toArray from p) ⟨s1.heap.objs.size, [s1.heap.objs.size], _, _, H1, rfl, I1.kept (t' := s1.toks) fun b o e => Heap.get?_push_of_some _ e, turn_tuple a _, ⟨_, Heap.get?_push_size _ rfl, rfl, rfl⟩, fun b hb => ?_, q⟩
      obtain rfl : b = s1.heap.objs.size := List.mem_singleton.mp hb
      exact I1.fpOk (Nat.le_refl _) (I1.hok.fresh (Nat.le_refl _))
  · subst ex
    obtain ⟨t, rfl⟩ := r1
    cases ha : z.cps.all (· < 128)
    · exact wpAny_pyIter_wide ha (pi_one (tk := s1.toks) I1 _ (turn_str _ z t "str_iterator" (.inr rfl)) ⟨_, Heap.get?_push_size _ rfl, rfl, rfl⟩ q)
    · exact wpAny_pyIter_ascii ha (pi_one (tk := s1.toks) I1 _ (turn_str _ z t "str_ascii_iterator" (.inl rfl)) ⟨_, Heap.get?_push_size _ rfl, rfl, rfl⟩ q)
def pIt (pa : PEx) : PIx := fun env S k => pa env S fun x S1 => ∃ ds, iterOf S1 x = some ds ∧ k x ds S1
def pRng1 (pa : PAx) : PIx := fun env S k => pa env S fun xs S1 => ∃ n : Int, xs = [.int n] ∧ (-100000 ≤ n ∧ n ≤ 100000) ∧ k (.lst (rngD n.toNat)) (rngD n.toNat) S1
def pRng2 (pa : PAx) : PIx := fun env S k => pa env S fun xs S1 => ∃ lo n : Int, xs = [.int lo, .int n] ∧ (-100000 ≤ lo ∧ lo ≤ 100000 ∧ -100000 ≤ n ∧ n ≤ 100000) ∧ k (.lst (rngD2 lo (n - lo).toNat)) (rngD2 lo (n - lo).toNat) S1
section
variable (K : PySem.W.Frag) (cl : Cl)
def ItOk (J : It) (src : D) (ds : List D) (M : Addr → Prop) (ρ0 : List Addr) (H0 : Hp) : Prop := ∀ (M' : Addr → Prop) (ρ : List Addr) (S : Sto) (H : Hp), ρ0 <+: ρ → Ex cl (cut (NM M ρ0) H0) (cut (NM M' ρ) H) → G K cl M' ρ S H → iterOf S src = some ds →
  (∀ i, i < ds.length → J.go i H) ∧ (∀ i, ds.length ≤ i → J.stop i H) ∧ ∀ (i : Nat), i < ds.length → ∀ y H', J.yld i H y H' → G K cl M' ρ S H' ∧ Stp cl M' ρ H ρ H' ∧ ∃ d, ds[i]? = some d ∧ RelD K cl ρ (cut (NM M' ρ) H') d y
def SmI (wi : TI) (pi : PIx) : Prop := ∀ (M : Addr → Prop) (ρ : List Addr) (S : Sto) (H : Hp) (env : Env) (σ : L2.St), G K cl M ρ S H → RE K cl ρ (cut (NM M ρ) H) env σ → ∀ (k : D → List D → Sto → Prop) (R : It → Hp → Prop), pi env S k →
  (∀ ρ' H' S' src ds J, Stp cl M ρ H ρ' H' → G K cl M ρ' S' H' → ItOk K cl J src ds M ρ' H' → k src ds S' → R J H') → wi σ H R
end
section
variable {K : PySem.W.Frag} {cl : Cl} {M : Addr → Prop} {ρ : List Addr} {S : Sto} {H : Hp}
theorem it_same {M : Addr → Prop} {ρ : List Addr} {S : Sto} {H H2 : Hp} {ds : List D} {i : Nat} {y : V} (g : G K cl M ρ S H) (h1 : H2 = H) (r : ∃ d, ds[i]? = some d ∧ RelD K cl ρ (cut (NM M ρ) H) d y) : G K cl M ρ S H2 ∧ Stp cl M ρ H ρ H2 ∧ ∃ d, ds[i]? = some d ∧ RelD K cl ρ (cut (NM M ρ) H2) d y := by
  subst h1
  exact ⟨g, .refl, r⟩
theorem itOk_tup {a : Addr} {d : D} {ds : List D} (hd : ∀ (M' : Addr → Prop) (ρ' : List Addr) (S' : Sto) (H' : Hp), ρ <+: ρ' → Ex cl (cut (NM M ρ) H) (cut (NM M' ρ') H') → G K cl M' ρ' S' H' → iterOf S' d = some ds → ∃ vs, SqT K H' a vs ∧ RelAll K cl ρ' (cut (NM M' ρ') H') ds vs) : ItOk K cl (Itt K a) d ds M ρ H := fun M' ρ' S' H' p e g h => by
  obtain ⟨vs, hs, r⟩ := hd M' ρ' S' H' p e g h
  refine ⟨fun i hi => ?_, fun i hi => ⟨vs, hs, by rw [r.len]; exact hi⟩, fun i _ y H2 ⟨h1, h2⟩ => it_same g h1 ?_⟩
  · have : i < vs.length := by rw [r.len]; exact hi
    exact ⟨vs, vs[i], hs, List.getElem?_eq_getElem this⟩
  · exact r.back (h2 vs hs)
theorem sm_it {ta : TE} {pa : PEx} (ha : SmE K cl ta pa) : SmI K cl (uIt K ta) (pIt pa) := fun M ρ S H env σ g re k R h q =>
  ha M ρ S H env σ g re _ _ h fun ρ1 H1 S1 x v s1 g1 rx ⟨ds, hds, hk⟩ => by
    cases rx with
    | str z =>
      cases hds
      refine .inr ⟨z, rfl, q ρ1 H1 S1 _ _ _ s1 g1 (fun M' ρ' S' H' p e g h => ⟨fun i hi => ?_, fun i hi => ?_, fun i _ y H2 ⟨h1, c, h2, h3⟩ => it_same g h1 ⟨.str ⟨#[c]⟩, ?_, ?_⟩⟩) hk⟩
      · rw [List.length_map, Array.length_toList] at hi
        exact hi
      · rw [List.length_map, Array.length_toList] at hi
        exact hi
      · rw [List.getElem?_map, Array.getElem?_toList, h2]
        rfl
      · rw [h3]
        exact .str _
    | @tup a vs ds' hs ha =>
      have e : ds' = ds := by
        have : some ds' = some ds := hds
        exact Option.some.inj this
      subst e
      refine .inl ⟨a, rfl, .inr ⟨⟨vs, Evl.ex_t cut_subE hs⟩, q ρ1 H1 S1 _ _ _ s1 g1 (itOk_tup fun M' ρ' S' H' p e g h => ⟨vs, ex_t (e.trans cut_sub) hs, ha.up p e _ _⟩) hk⟩⟩
    | @lst a vs ds' hs ha =>
      have e : ds' = ds := by
        have : some ds' = some ds := hds
        exact Option.some.inj this
      subst e
      refine .inl ⟨a, rfl, .inl ⟨⟨vs, sq_of (cut_subE _ _ hs)⟩, q ρ1 H1 S1 _ _ _ s1 g1 (fun M' ρ' S' H' p e g h => ?_) hk⟩⟩
      have hs' : SqL K H' a vs := sq_of (cut_subE _ _ (e.lst hs))
      have r := ha.up p e _ _
      exact ⟨fun i hi => ⟨vs, vs[i]'(by rw [r.len]; exact hi), hs', List.getElem?_eq_getElem _⟩, fun i hi => ⟨vs, hs', by rw [r.len]; exact hi⟩, fun i _ y H2 ⟨h1, h2⟩ => it_same g h1 (r.back (h2 vs hs'))⟩
    | @scr a vs ds' hs ha =>
      have e : ds' = ds := by
        have : some ds' = some ds := hds
        exact Option.some.inj this
      subst e
      refine .inl ⟨a, rfl, .inl ⟨⟨vs, Evl.ex_l cut_subE hs⟩, q ρ1 H1 S1 _ _ _ s1 g1 (fun M' ρ' S' H' p e g h => ?_) hk⟩⟩
      have hs' : SqL K H' a vs := ex_l (e.trans cut_sub) hs
      have r := ha.up p e _ _
      exact ⟨fun i hi => ⟨vs, vs[i]'(by rw [r.len]; exact hi), hs', List.getElem?_eq_getElem _⟩, fun i hi => ⟨vs, hs', by rw [r.len]; exact hi⟩, fun i _ y H2 ⟨h1, h2⟩ => it_same g h1 (r.back (h2 vs hs'))⟩
    | @ref n a hn =>
      have h1 : ∀ S2 : Sto, iterOf S2 (.ref n) = some ds → S2[n]? = some (.lst ds) := fun S2 h => by
        unfold iterOf itemsOf at h
        simp only at h
        split at h
        · rename_i ds' he
          cases h
          exact he
        · cases h
      obtain ⟨vs, hv, r⟩ := g1.lstAt hn (h1 S1 hds)
      refine .inl ⟨a, rfl, .inl ⟨⟨vs, sq_of hv⟩, q ρ1 H1 S1 _ _ _ s1 g1 (fun M' ρ' S' H' p e g h => ?_) hk⟩⟩
      obtain ⟨ws, hw, r'⟩ := g.lstAt (pre_get p hn) (h1 S' h)
      have hs' : SqL K H' a ws := sq_of hw
      exact ⟨fun i hi => ⟨ws, ws[i]'(by rw [r'.len]; exact hi), hs', List.getElem?_eq_getElem _⟩, fun i hi => ⟨ws, hs', by rw [r'.len]; exact hi⟩, fun i _ y H2 ⟨h1, h2⟩ => it_same g h1 (r'.back (h2 ws hs'))⟩
    | _ => cases hds
theorem rngD_len (n : Nat) : (rngD n).length = n := by unfold rngD; rw [List.length_map, List.length_range]
theorem sm_rng1 {ta : TA} {pa : PAx} (ha : SmA K cl ta pa) : SmI K cl (iRng1 ta) (pRng1 pa) := fun M ρ S H env σ g re k R h q =>
  ha M ρ S H env σ g re _ _ h fun ρ1 H1 S1 xs vs s1 g1 rx ⟨n, hx, hn, hk⟩ => by
    subst hx
    obtain ⟨v, rfl, r1⟩ := all1 rx
    rw [rel_int r1]
    refine ⟨n, rfl, by omega, by omega, q ρ1 H1 S1 _ _ _ s1 g1 (fun M' ρ' S' H' p e g h => ⟨fun i hi => ?_, fun i hi => ?_, fun i hi y H2 ⟨h1, h2⟩ => it_same g h1 ⟨.int (i : Int), ?_, ?_⟩⟩) hk⟩
    · rw [rngD_len] at hi
      exact hi
    · rw [rngD_len] at hi
      exact hi
    · rw [rngD_len] at hi
      unfold rngD
      rw [List.getElem?_map, List.getElem?_range hi]
      rfl
    · rw [h2, Int.zero_add]
      exact .int _
end
def pSeq (p q : PSx) : PSx := fun P env S => p { P with nx := q P } env S
def pNext : PSx := fun P env S => P.nx env S
def pBreak : PSx := fun P env S => P.bk env S
def pCont : PSx := fun P env S => P.ct env S
def pAsg (pe : PEx) (g : PGx) : PSx := fun P env S => pe env S fun d S1 => g d env S1 P.nx
def pRet (pe : PEx) : PSx := fun P env S => pe env S P.rt
def pRetN : PSx := fun P _ S => P.rt .non S
def pDrop (pe : PEx) : PSx := fun P env S => pe env S fun _ S1 => P.nx env S1
def pIfS (pt : PTx) (p q : PSx) : PSx := fun P env S => pt env S fun b S1 => if b = true then p P env S1 else q P env S1
def pgName (i : Nat) : PGx := fun d env S k => k (env.set i (some d)) S
abbrev PGsx := List D → Env → Sto → (Env → Sto → Prop) → Prop
def pgNil : PGsx := fun ds env S k => ds = [] ∧ k env S
def pgCons (g : PGx) (gs : PGsx) : PGsx := fun ds env S k => match ds with
  | d :: r => g d env S fun env' S' => gs r env' S' k
  | [] => False
def pgTup (n : Nat) (gs : PGsx) : PGx := fun d env S k => match d with
  | .tup ds => ds.length = n ∧ gs ds env S k
  | _ => False
def pAug (i : Nat) (op : Int → Int → Int) (pe : PEx) : PSx := fun P env S => ∃ x, env[i]? = some (some (.int x)) ∧ pe env S fun d S1 => ∃ y, d = .int y ∧ P.nx (env.set i (some (.int (op x y)))) S1
def pApp (pa pe : PEx) : PSx := fun P env S => pa env S fun l S1 => ∃ n, l = .ref n ∧ ∃ ds0, S1[n]? = some (.lst ds0) ∧ pe env S1 fun d S2 => ∃ ds, S2[n]? = some (.lst ds) ∧ ds.length < 90000 ∧ P.nx env (S2.set n (.lst (ds ++ [d])))
def pFor (pi : PIx) (g : PGx) (tb : PSx) : PSx := fun P env S => pi env S fun src ds S1 => ∃ I : Nat → Env → Sto → Prop, I 0 env S1 ∧
  (∀ (i : Nat) d env S, ds[i]? = some d → I i env S → iterOf S src = some ds ∧ g d env S fun env1 S2 => tb { P with nx := I (i + 1), ct := I (i + 1), bk := P.nx } env1 S2) ∧ ∀ env S, I ds.length env S → iterOf S src = some ds ∧ P.nx env S
def pWhile (pt : PTx) (tb : PSx) : PSx := fun P env S => ∃ W : Nat → Env → Sto → Prop, (∃ m, W m env S) ∧ ∀ m env S, W m env S →
  pt env S fun b S1 => if b = true then ∃ N : Env → Sto → Prop, (∀ env' S', N env' S' → ∃ m', m' < m ∧ W m' env' S') ∧ tb { P with nx := N, ct := N, bk := P.nx } env S1 else P.nx env S1
def pLc (pi : PIx) (g : PGx) (pt : PTx) (pe : PEx) (ws : List Nat) : PEx := fun env S k => pi env S fun src ds S1 => ∃ I : Nat → List D → Sto → Prop, I 0 [] S1 ∧
  (∀ (i : Nat) d acc S, ds[i]? = some d → I i acc S → acc.length < 90000 ∧ iterOf S src = some ds ∧ g d (wipeE env ws) S fun env2 S2 => pt env2 S2 fun b S3 => if b = true then pe env2 S3 fun y S4 => I (i + 1) (acc ++ [y]) S4 else I (i + 1) acc S3) ∧
  ∀ acc S, I ds.length acc S → iterOf S src = some ds ∧ k (.lst acc) S
def pYes : PTx := fun _ S k => k true S
section
variable (K : PySem.W.Frag) (cl : Cl)
structure EndsOk (M : Addr → Prop) (ρ : List Addr) (H : Hp) (P : PEnds) (D : Ends) : Prop where
  nx : ∀ ρ' H' S' env' σ', Stp cl M ρ H ρ' H' → G K cl M ρ' S' H' → RE K cl ρ' (cut (NM M ρ') H') env' σ' → P.nx env' S' → D.nx σ' H'
  rt : ∀ ρ' H' S' d v, Stp cl M ρ H ρ' H' → G K cl M ρ' S' H' → RelD K cl ρ' (cut (NM M ρ') H') d v → P.rt d S' → D.rt v H'
  bk : ∀ ρ' H' S' env' σ', Stp cl M ρ H ρ' H' → G K cl M ρ' S' H' → RE K cl ρ' (cut (NM M ρ') H') env' σ' → P.bk env' S' → D.bk σ' H'
  ct : ∀ ρ' H' S' env' σ', Stp cl M ρ H ρ' H' → G K cl M ρ' S' H' → RE K cl ρ' (cut (NM M ρ') H') env' σ' → P.ct env' S' → D.ct σ' H'
def SmS (ts : TS) (ps : PSx) : Prop := ∀ (M : Addr → Prop) (ρ : List Addr) (S : Sto) (H : Hp) (env : Env) (σ : L2.St), G K cl M ρ S H → RE K cl ρ (cut (NM M ρ) H) env σ → ∀ (P : PEnds) (D : Ends), ps P env S → EndsOk K cl M ρ H P D → ts D σ H
def SmG (tg : TG) (pg : PGx) : Prop := ∀ (M : Addr → Prop) (ρ : List Addr) (S : Sto) (H : Hp) (env : Env) (σ : L2.St) (d : D) (v : V), G K cl M ρ S H → RE K cl ρ (cut (NM M ρ) H) env σ → RelD K cl ρ (cut (NM M ρ) H) d v → ∀ (k : Env → Sto → Prop) (Q : L2.St → Hp → Prop), pg d env S k →
  (∀ ρ' H' S' env' σ', Stp cl M ρ H ρ' H' → G K cl M ρ' S' H' → RE K cl ρ' (cut (NM M ρ') H') env' σ' → k env' S' → Q σ' H') → tg v σ H Q
def SmGs (tg : TGs) (pg : PGsx) : Prop := ∀ (M : Addr → Prop) (ρ : List Addr) (S : Sto) (H : Hp) (env : Env) (σ : L2.St) (d : List D) (v : List V), G K cl M ρ S H → RE K cl ρ (cut (NM M ρ) H) env σ → RelAll K cl ρ (cut (NM M ρ) H) d v → ∀ (k : Env → Sto → Prop) (Q : L2.St → Hp → Prop), pg d env S k →
  (∀ ρ' H' S' env' σ', Stp cl M ρ H ρ' H' → G K cl M ρ' S' H' → RE K cl ρ' (cut (NM M ρ') H') env' σ' → k env' S' → Q σ' H') → tg v σ H Q
end
section
variable {K : PySem.W.Frag} {cl : Cl} {M : Addr → Prop} {ρ ρ1 : List Addr} {S : Sto} {H H1 : Hp} {P : PEnds} {D : Ends} {tu tw : TS} {pu pw : PSx} {te ta : TE} {pe pa : PEx} {tg : TG} {pg : PGx} {tgs : TGs} {pgs : PGsx} {tt : TT} {pt : PTx}
theorem EndsOk.step (e : EndsOk K cl M ρ H P D) (s : Stp cl M ρ H ρ1 H1) : EndsOk K cl M ρ1 H1 P D :=
  ⟨fun _ _ _ _ _ s1 => e.nx _ _ _ _ _ (s.trans s1), fun _ _ _ _ _ s1 => e.rt _ _ _ _ _ (s.trans s1), fun _ _ _ _ _ s1 => e.bk _ _ _ _ _ (s.trans s1), fun _ _ _ _ _ s1 => e.ct _ _ _ _ _ (s.trans s1)⟩
theorem sm_seq (h1 : SmS K cl tu pu) (h2 : SmS K cl tw pw) : SmS K cl (tSeq tu tw) (pSeq pu pw) := fun M ρ S H env σ g re P D h e =>
  h1 M ρ S H env σ g re _ _ h ⟨fun ρ' H' S' env' σ' s g' re' h' => h2 M ρ' S' H' env' σ' g' re' P D h' (e.step s), e.rt, e.bk, e.ct⟩
theorem sm_next : SmS K cl tNext pNext := fun M ρ S H env σ g re P D h e => e.nx ρ H S env σ .refl g re h
theorem sm_asg (ha : SmE K cl te pe) (hg : SmG K cl tg pg) : SmS K cl (tAsg te tg) (pAsg pe pg) := fun M ρ S H env σ g re P D h e =>
  ha M ρ S H env σ g re _ _ h fun ρ1 H1 S1 d v s1 g1 r h1 => hg M ρ1 S1 H1 env σ d v g1 (re.up s1) r _ _ h1 fun ρ2 H2 S2 env' σ' s2 g2 re2 h2 => e.nx ρ2 H2 S2 env' σ' (s1.trans s2) g2 re2 h2
theorem sm_ret (ha : SmE K cl te pe) : SmS K cl (tRet te) (pRet pe) := fun M ρ S H env σ g re P D h e => ha M ρ S H env σ g re _ _ h fun ρ1 H1 S1 d v s1 g1 r h1 => e.rt ρ1 H1 S1 d v s1 g1 r h1
theorem sm_ifS (hc : SmT K cl tt pt) (h1 : SmS K cl tu pu) (h2 : SmS K cl tw pw) : SmS K cl (tIfS tt tu tw) (pIfS pt pu pw) := fun M ρ S H env σ g re P D h e =>
  hc M ρ S H env σ g re _ _ h fun ρ1 H1 S1 b s1 g1 hk => by
    cases b with
    | true => exact h1 M ρ1 S1 H1 env σ g1 (re.up s1) P D hk (e.step s1)
    | false => exact h2 M ρ1 S1 H1 env σ g1 (re.up s1) P D hk (e.step s1)
theorem sm_gname {i : Nat} : SmG K cl (gName i) (pgName i) := fun M ρ S H env σ d v g re r k Q h q => q ρ H S _ _ .refl g (re.set i r) h
theorem sm_gnil : SmGs K cl gNil pgNil := fun M ρ S H env σ d v g re r k Q ⟨h, hk⟩ q => by
  subst h
  cases r
  exact ⟨rfl, q ρ H S _ _ .refl g re hk⟩
theorem sm_gcons (h1 : SmG K cl tg pg) (h2 : SmGs K cl tgs pgs) : SmGs K cl (gCons tg tgs) (pgCons pg pgs) := fun M ρ S H env σ d v g re r k Q h q => by
  cases r with
  | nil => exact h.elim
  | cons a b => exact ⟨_, _, rfl, h1 M ρ S H env σ _ _ g re a _ _ h fun ρ1 H1 S1 env1 σ1 s1 g1 re1 k1 => h2 M ρ1 S1 H1 env1 σ1 _ _ g1 re1 (b.up s1.pre s1.ex _ _) _ _ k1 fun ρ2 H2 S2 env2 σ2 s2 g2 re2 k2 => q ρ2 H2 S2 env2 σ2 (s1.trans s2) g2 re2 k2⟩
theorem sm_gtup {n : Nat} (h : SmGs K cl tgs pgs) : SmG K cl (gTup K n tgs) (pgTup n pgs) := fun M ρ S H env σ d v g re r k Q h1 q => by
  cases r with
  | tup hs ha => exact ⟨_, _, rfl, Evl.ex_t cut_subE hs, by rw [ha.len]; exact h1.1, h M ρ S H env σ _ _ g re ha k Q h1.2 q⟩
  | _ => exact h1.elim
theorem sm_aug {i : Nat} {op : Int → Int → Int} (ha : SmE K cl te pe) : SmS K cl (tAug i te (ipI op)) (pAug i op pe) := fun M ρ S H env σ g re P D ⟨x, hx, h⟩ e => by
  obtain ⟨v, hv, rv⟩ := re.at' i _ hx
  rw [rel_int rv] at hv
  refine ⟨_, hv, ha M ρ S H env σ g re _ _ h fun ρ1 H1 S1 d w s1 g1 r ⟨y, hy, hk⟩ => ?_⟩
  subst hy
  rw [rel_int r]
  exact ⟨x, y, rfl, rfl, e.nx ρ1 H1 S1 _ _ s1 g1 ((re.up s1).set i (.int _)) hk⟩
theorem sm_app (ha : SmE K cl ta pa) (he : SmE K cl te pe) : SmS K cl (tDrop (tBM K "list" rAppend ta (tCons te tNil))) (pApp pa pe) := fun M ρ S H env σ g re P D h e =>
  ha M ρ S H env σ g re _ _ h fun ρ1 H1 S1 l v s1 g1 rl ⟨n, hl, ds0, hs, h1⟩ => by
    subst hl
    cases rl with
    | @ref _ a hn =>
      obtain ⟨vs0, hv0, _⟩ := g1.lstAt hn hs
      refine ⟨.inl ⟨rfl, vs0, sq_of hv0⟩, he M ρ1 S1 H1 env σ g1 (re.up s1) _ _ h1 fun ρ2 H2 S2 d w s2 g2 rd ⟨ds, hs2, hl2, hk⟩ => ?_⟩
      have hn2 := pre_get s2.pre hn
      obtain ⟨vs, hv, r⟩ := g2.lstAt hn2 hs2
      refine ⟨a, vs, w, rfl, rfl, hv, sz_lt (by rw [r.len]; omega), ?_⟩
      obtain ⟨g3, s3⟩ := g2.put (o := .lst (vs ++ [w])) hn2 (.lst (r.snoc rd))
      exact e.nx ρ2 _ _ env σ ((s1.trans s2).trans s3) g3 (re.up ((s1.trans s2).trans s3)) hk
theorem sm_for {wi : TI} {pi : PIx} (hi : SmI K cl wi pi) (hg : SmG K cl tg pg) (hb : SmS K cl tu pu) : SmS K cl (tFor wi tg tu) (pFor pi pg pu) := fun M ρ S H env σ g re P D h e =>
  hi M ρ S H env σ g re _ _ h fun ρ1 H1 S1 src ds J s1 g1 ok ⟨I, hI0, hIs, hId⟩ => by
    refine ⟨fun i m σ' H' => m = ds.length - i ∧ i ≤ ds.length ∧ ∃ ρ' S' env', Stp cl M ρ1 H1 ρ' H' ∧ G K cl M ρ' S' H' ∧ RE K cl ρ' (cut (NM M ρ') H') env' σ' ∧ I i env' S', ⟨ds.length, by omega, Nat.zero_le _, ρ1, S1, env, .refl, g1, re.up s1, hI0⟩, ?_⟩
    rintro i m σ' H' ⟨rfl, hi, ρ', S', env', s2, g2, re2, hI⟩
    by_cases hlt : i < ds.length
    · have hd : ds[i]? = some ds[i] := List.getElem?_eq_getElem hlt
      obtain ⟨hit, hb'⟩ := hIs i _ env' S' hd hI
      obtain ⟨o1, _, o3⟩ := ok M ρ' S' H' s2.pre s2.ex g2 hit
      refine .inr ⟨o1 i hlt, fun σ2 H2 => ∃ ρ' S' env', Stp cl M ρ1 H1 ρ' H2 ∧ G K cl M ρ' S' H2 ∧ RE K cl ρ' (cut (NM M ρ') H2) env' σ2 ∧ I (i + 1) env' S', fun σ2 H2 p => ⟨ds.length - (i + 1), by omega, rfl, hlt, p⟩, fun y H2 hy => ?_⟩
      obtain ⟨gy, sy, d, hd', r⟩ := o3 i hlt y H2 hy
      rw [hd] at hd'
      cases hd'
      refine hg M ρ' S' H2 env' σ' _ y gy (re2.up sy) r _ _ hb' fun ρ3 H3 S3 env3 σ3 s3 g3 re3 h3 => ?_
      have s23 := (s2.trans sy).trans s3
      have e3 := (e.step s1).step s23
      refine hb M ρ3 S3 H3 env3 σ3 g3 re3 _ _ h3 ⟨fun ρ4 H4 S4 env4 σ4 s4 g4 re4 h4 => ⟨ρ4, S4, env4, s23.trans s4, g4, re4, h4⟩, fun ρ4 H4 S4 d v s4 g4 r4 h4 => e3.rt ρ4 H4 S4 d v s4 g4 r4 h4, fun ρ4 H4 S4 env4 σ4 s4 g4 re4 h4 => e3.nx ρ4 H4 S4 env4 σ4 s4 g4 re4 h4, fun ρ4 H4 S4 env4 σ4 s4 g4 re4 h4 => ⟨ρ4, S4, env4, s23.trans s4, g4, re4, h4⟩⟩
    · have hi' : i = ds.length := by omega
      subst hi'
      obtain ⟨hit, hk⟩ := hId env' S' hI
      obtain ⟨_, o2, _⟩ := ok M ρ' S' H' s2.pre s2.ex g2 hit
      exact .inl ⟨o2 _ (Nat.le_refl _), (e.step s1).nx ρ' H' S' env' σ' s2 g2 re2 hk⟩
theorem sm_while (hc : SmT K cl tt pt) (hb : SmS K cl tu pu) : SmS K cl (tWhile tt tu) (pWhile pt pu) := fun M ρ S H env σ g re P D ⟨W, ⟨m0, hW0⟩, hW⟩ e => by
  refine ⟨fun m σ' H' => ∃ ρ' S' env', Stp cl M ρ H ρ' H' ∧ G K cl M ρ' S' H' ∧ RE K cl ρ' (cut (NM M ρ') H') env' σ' ∧ W m env' S', ⟨m0, ρ, S, env, .refl, g, re, hW0⟩, ?_⟩
  rintro m σ' H' ⟨ρ', S', env', s2, g2, re2, hw⟩
  refine hc M ρ' S' H' env' σ' g2 re2 _ _ (hW m env' S' hw) fun ρ3 H3 S3 b s3 g3 h3 => ?_
  have s23 := s2.trans s3
  have e3 := e.step s23
  cases b with
  | true =>
    rw [if_pos rfl] at h3 ⊢
    obtain ⟨N, hN, hk⟩ := h3
    refine ⟨fun σ2 H2 => ∃ ρ' S' env', Stp cl M ρ H ρ' H2 ∧ G K cl M ρ' S' H2 ∧ RE K cl ρ' (cut (NM M ρ') H2) env' σ2 ∧ N env' S', fun σ2 H2 ⟨ρ4, S4, env4, s4, g4, re4, h4⟩ => ?_, ?_⟩
    · obtain ⟨m', hm, hw'⟩ := hN env4 S4 h4
      exact ⟨m', hm, ρ4, S4, env4, s4, g4, re4, hw'⟩
    · exact hb M ρ3 S3 H3 env' σ' g3 (re2.up s3) _ _ hk ⟨fun ρ4 H4 S4 env4 σ4 s4 g4 re4 h4 => ⟨ρ4, S4, env4, s23.trans s4, g4, re4, h4⟩, fun ρ4 H4 S4 d v s4 g4 r4 h4 => e3.rt ρ4 H4 S4 d v s4 g4 r4 h4, fun ρ4 H4 S4 env4 σ4 s4 g4 re4 h4 => e3.nx ρ4 H4 S4 env4 σ4 s4 g4 re4 h4, fun ρ4 H4 S4 env4 σ4 s4 g4 re4 h4 => ⟨ρ4, S4, env4, s23.trans s4, g4, re4, h4⟩⟩
  | false =>
    rw [if_neg (by decide)] at h3 ⊢
    exact e3.nx ρ3 H3 S3 env' σ' .refl g3 (re2.up s3) h3
theorem sm_yes : SmT K cl tYes pYes := fun M ρ S H env σ g re k Q h q => q ρ H S true .refl g h
theorem wipe_get {σ : L2.St} : ∀ {ws : List Nat} {j : Nat}, (wipe σ ws)[j]? = if j ∈ ws then (if j < σ.length then some none else none) else σ[j]?
  | [], j => by simp [wipe]
  | v :: vs, j => by
    unfold wipe
    rw [List.getElem?_set]
    by_cases h : v = j
    · subst h
      simp [wipe_length]
    · rw [if_neg h, wipe_get (ws := vs)]
      have : (j ∈ v :: vs) ↔ j ∈ vs := by simp [Ne.symm h]
      simp [this]
theorem wipe_eq {σ σ' : L2.St} {ws : List Nat} (hl : σ'.length = σ.length) (h : ∀ j, j ∉ ws → σ'[j]? = σ[j]?) : wipe σ' ws = wipe σ ws := by
  refine List.ext_getElem? fun j => ?_
  rw [wipe_get, wipe_get, hl]
  by_cases hj : j ∈ ws
  · simp [hj]
  · simp [hj, h j hj]
end
structure GOk (tg : TG) (ws : List Nat) : Prop where
  mono : ∀ v σ H (Q Q' : L2.St → Hp → Prop), (∀ σ2 H2, Q σ2 H2 → Q' σ2 H2) → tg v σ H Q → tg v σ H Q'
  own : ∀ v σ H (Q : L2.St → Hp → Prop), tg v σ H Q → tg v σ H fun σ2 H2 => (σ2.length = σ.length ∧ ∀ j, j ∉ ws → σ2[j]? = σ[j]?) ∧ Q σ2 H2
theorem gok_name {j : Nat} {ws : List Nat} (h : j ∈ ws) : GOk (gName j) ws := ⟨fun _ _ _ _ _ h q => h _ _ q, fun v σ H Q q => ⟨⟨List.length_set, fun i hi => List.getElem?_set_ne fun z => hi (by rw [← z]; exact h)⟩, q⟩⟩
section
variable {K : PySem.W.Frag} {cl : Cl} {te : TE} {pe : PEx} {tg : TG} {pg : PGx} {tt : TT} {pt : PTx}
theorem NM_plus {M : Addr → Prop} {p : Addr} {ρ : List Addr} {a : Addr} : NM (fun a => M a ∨ a = p) ρ a ↔ NM M ρ a ∨ a = p := by
  unfold NM
  constructor
  · rintro ((h | h) | h)
    · exact .inl (.inl h)
    · exact .inr h
    · exact .inl (.inr h)
  · rintro ((h | h) | h)
    · exact .inl (.inl h)
    · exact .inr h
    · exact .inl (.inr h)
def MP (M : Addr → Prop) (p : Addr) : Addr → Prop := fun a => M a ∨ a = p
theorem exMP {M : Addr → Prop} {p : Addr} {ρ : List Addr} {H : Hp} : Ex cl (cut (NM (MP M p) ρ) H) (cut (NM M ρ) H) := cut_ex fun a o n q => ⟨fun z => n (NM_plus.mpr (.inl z)), q⟩
theorem G.unMP {M : Addr → Prop} {p : Addr} {ρ : List Addr} {S : Sto} {H : Hp} (g : G K cl (MP M p) ρ S H) : G K cl M ρ S H :=
  ⟨fun a m => g.live a (.inl m), fun a ha m => g.dis a ha (.inl m), g.nd, g.len, fun n o a hs ha => by
    obtain ⟨u, hu, r⟩ := g.sto n o a hs ha
    exact ⟨u, hu, r.up (List.prefix_refl _) exMP⟩, exMP.t g.tab⟩
theorem G.mp {M : Addr → Prop} {p : Addr} {ρ : List Addr} {S : Sto} {H : Hp} {o : HO} (g : G K cl M ρ S H) (hp : H p = none) (ho : Dk.Pl o) :
    G K cl (MP M p) ρ S (upd H p o) ∧ Ex cl (cut (NM M ρ) H) (cut (NM (MP M p) ρ) (upd H p o)) ∧ ∀ a, M a → (upd H p o) a = H a := by
  have hpn : ¬ NM M ρ p := g.off hp
  have ex0 : Ex cl (cut (NM M ρ) H) (cut (NM (MP M p) ρ) (upd H p o)) := cut_ex fun a u n q => ⟨fun z => (NM_plus.mp z).elim n (ne_of_none q hp), by rw [upd_ne (ne_of_none q hp)]; exact q⟩
  have k : ∀ a, NM M ρ a → (upd H p o) a = H a := fun a n => upd_ne fun z => hpn (z ▸ n)
  refine ⟨⟨fun a m => ?_, fun a ha m => ?_, g.nd, g.len, fun n s a hs ha => ?_, ex0.t g.tab⟩, ex0, fun a m => k a (.inl m)⟩
  · rcases m with m | m
    · rw [k a (.inl m)]
      exact g.live a m
    · rw [m, upd_same]
      exact ⟨o, rfl, ho⟩
  · rcases m with m | m
    · exact g.dis a ha m
    · exact hpn (.inr (m ▸ ha))
  · obtain ⟨u, hu, r⟩ := g.sto n s a hs ha
    exact ⟨u, by rw [k a (.inr (List.mem_of_getElem? ha))]; exact hu, r.up (List.prefix_refl _) ex0⟩
theorem G.setMP {M : Addr → Prop} {p : Addr} {ρ : List Addr} {S : Sto} {H : Hp} {o : HO} (g : G K cl (MP M p) ρ S H) (ho : Dk.Pl o) :
    G K cl (MP M p) ρ S (upd H p o) ∧ Ex cl (cut (NM (MP M p) ρ) H) (cut (NM (MP M p) ρ) (upd H p o)) := by
  have ex0 : Ex cl (cut (NM (MP M p) ρ) H) (cut (NM (MP M p) ρ) (upd H p o)) := cut_ex fun a u n q => ⟨n, by rw [upd_ne fun z => n (.inl (.inr z))]; exact q⟩
  refine ⟨⟨fun a m => ?_, g.dis, g.nd, g.len, fun n s a hs ha => ?_, ex0.t g.tab⟩, ex0⟩
  · by_cases h : a = p
    · rw [h, upd_same]
      exact ⟨o, rfl, ho⟩
    · rw [upd_ne h]
      exact g.live a m
  · obtain ⟨u, hu, r⟩ := g.sto n s a hs ha
    have ne : a ≠ p := fun z => g.dis a (List.mem_of_getElem? ha) (.inr z)
    exact ⟨u, by rw [upd_ne ne]; exact hu, r.up (List.prefix_refl _) ex0⟩
structure LcSt (K : PySem.W.Frag) (cl : Cl) (M : Addr → Prop) (ρ1 : List Addr) (H1 : Hp) (Dl : Addr) (ρ' : List Addr) (S' : Sto) (acc : List D) (vs : List V) (H : Hp) : Prop where
  pre : ρ1 <+: ρ'
  ex : Ex cl (cut (NM M ρ1) H1) (cut (NM (MP M Dl) ρ') H)
  keep : ∀ a, M a → H a = H1 a
  g : G K cl (MP M Dl) ρ' S' H
  at' : H Dl = some (.lst vs)
  rel : RelAll K cl ρ' (cut (NM (MP M Dl) ρ') H) acc vs
theorem LcSt.step {M : Addr → Prop} {ρ1 ρ' ρ2 : List Addr} {H1 H H2 : Hp} {Dl : Addr} {S' S2 : Sto} {acc : List D} {vs : List V} (c : LcSt K cl M ρ1 H1 Dl ρ' S' acc vs H) (s : Stp cl (MP M Dl) ρ' H ρ2 H2) (g : G K cl (MP M Dl) ρ2 S2 H2) : LcSt K cl M ρ1 H1 Dl ρ2 S2 acc vs H2 :=
  ⟨c.pre.trans s.pre, c.ex.trans s.ex, fun a m => (s.keep a (.inl m)).trans (c.keep a m), g, (s.keep Dl (.inr rfl)).trans c.at', c.rel.up s.pre s.ex _ _⟩
theorem sm_lc {wi : TI} {pi : PIx} {ws : List Nat} (hi : SmI K cl wi pi) (hok : GOk tg ws) (hg : SmG K cl tg pg) (ht : SmT K cl tt pt) (he : SmE K cl te pe) : SmE K cl (tLc wi tg tt te ws) (pLc pi pg pt pe ws) := fun M ρ S H env σ g re k Q h q =>
  hi M ρ S H env σ g re _ _ h fun ρ1 H1 S1 src ds J s1 g1 ok ⟨I, hI0, hIs, hId⟩ => by
    intro Dl hD
    obtain ⟨gD, ex0, k0⟩ := g1.mp (o := .lst []) hD Dk.pl_lst
    have hDn : ¬ NM M ρ1 Dl := g1.off hD
    refine ⟨fun i m H' => m = ds.length - i ∧ i ≤ ds.length ∧ ∃ ρ' S' acc vs, LcSt K cl M ρ1 H1 Dl ρ' S' acc vs H' ∧ I i acc S', ⟨ds.length, by omega, Nat.zero_le _, ρ1, S1, [], [], ⟨List.prefix_refl _, ex0, k0, gD, upd_same, .nil⟩, hI0⟩, ?_⟩
    rintro i m H' ⟨rfl, hi, ρ', S', acc, vs, c, hI⟩
    by_cases hlt : i < ds.length
    · have hd : ds[i]? = some ds[i] := List.getElem?_eq_getElem hlt
      obtain ⟨hal, hit, hb'⟩ := hIs i _ acc S' hd hI
      obtain ⟨o1, _, o3⟩ := ok (MP M Dl) ρ' S' H' c.pre c.ex c.g hit
      refine .inr ⟨o1 i hlt, fun H2 => ∃ ρ' S' acc vs, LcSt K cl M ρ1 H1 Dl ρ' S' acc vs H2 ∧ I (i + 1) acc S', fun H2 p => ⟨ds.length - (i + 1), by omega, rfl, hlt, p⟩, fun y H2 hy => ?_⟩
      obtain ⟨gy, sy, d, hd', r⟩ := o3 i hlt y H2 hy
      have c := c.step sy gy
      rw [hd] at hd'
      cases hd'
      have reW : RE K cl ρ' (cut (NM (MP M Dl) ρ') H2) (wipeE env ws) (wipe σ ws) := by
        refine RE.wipe ?_ ws
        have r1 := re.up s1
        exact ⟨r1.len, fun j d hj => by
          obtain ⟨v, h1, h2⟩ := r1.at' j d hj
          exact ⟨v, h1, h2.up c.pre c.ex d v⟩⟩
      refine hok.mono _ _ _ _ _ (fun σ2 H3 ⟨⟨l1, k1⟩, q1⟩ => ⟨wipe_eq (l1.trans (wipe_length σ ws)) fun j hj => by rw [k1 j hj, wipe_get, if_neg hj], q1⟩) (hok.own _ _ _ _ (hg (MP M Dl) ρ' S' H2 (wipeE env ws) (wipe σ ws) _ y c.g reW r _ _ hb' fun ρ3 H3 S3 env3 σ3 s3 g3 re3 h3 => ?_))
      · refine ht (MP M Dl) ρ3 S3 H3 env3 σ3 g3 re3 _ _ h3 fun ρ4 H4 S4 b s4 g4 h4 => ?_
        have c4 := c.step (s3.trans s4) g4
        cases b with
        | true =>
          rw [if_pos rfl] at h4 ⊢
          refine he (MP M Dl) ρ4 S4 H4 env3 σ3 g4 (re3.up s4) _ _ h4 fun ρ5 H5 S5 d5 v5 s5 g5 r5 h5 => ?_
          have c5 := c4.step s5 g5
          obtain ⟨g6, e6⟩ := g5.setMP (o := .lst (vs ++ [v5])) Dk.pl_lst
          refine ⟨vs, c5.at', sz_lt (by rw [c5.rel.len]; omega), ρ5, S5, acc ++ [d5], vs ++ [v5], ⟨c5.pre, c5.ex.trans e6, fun a m => ?_, g6, upd_same, (c5.rel.snoc r5).up (List.prefix_refl _) e6 _ _⟩, h5⟩
          have ne : a ≠ Dl := fun z => hDn (.inl (z ▸ m))
          rw [upd_ne ne]
          exact c5.keep a m
        | false =>
          rw [if_neg (by decide)] at h4 ⊢
          exact ⟨ρ4, S4, acc, vs, c4, h4⟩
    · have hi' : i = ds.length := by omega
      subst hi'
      obtain ⟨hit, hk⟩ := hId acc S' hI
      obtain ⟨_, o2, _⟩ := ok (MP M Dl) ρ' S' H' c.pre c.ex c.g hit
      refine .inl ⟨o2 _ (Nat.le_refl _), ?_⟩
      have s2 : Stp cl M ρ1 H1 ρ' H' := ⟨c.pre, c.ex.trans exMP, c.keep⟩
      refine q ρ' H' S' _ _ (s1.trans s2) c.g.unMP (.lst ?_ (c.rel.up (List.prefix_refl _) exMP _ _)) hk
      rw [cut_no fun z => z.elim (fun m => hDn (.inl m)) fun m => c.g.dis Dl m (.inr rfl)]
      exact c.at'
end
end Pw
namespace Pw
open PySem PySem.Spec PyProof.Rows L2 Evl Lw
mutual
def D.noRef : D → Bool
  | .ref _ => false
  | .tup ds | .lst ds | .scr ds | .obj _ _ ds => noRefs ds
  | _ => true
def noRefs : List D → Bool
  | [] => true
  | d :: ds => d.noRef && noRefs ds
end
mutual
def D.noLst : D → Bool
  | .ref _ | .lst _ | .scr _ => false
  | .tup ds | .obj _ _ ds => noLsts ds
  | _ => true
def noLsts : List D → Bool
  | [] => true
  | d :: ds => d.noLst && noLsts ds
end
section
variable {K : PySem.W.Frag} {cl : Cl} {ρ ρ' : List Addr} {H H' : Hp}
mutual
theorem RelD.drop : ∀ (d : D) (v : V), d.noRef = true → RelD K cl ρ H d v → RelD K cl ρ' H d v
  | .non, _, _, h => by cases h; exact .non
  | .bl b, _, _, h => by cases h; exact .bl b
  | .int i, _, _, h => by cases h; exact .int i
  | .str s, _, _, h => by cases h; exact .str s
  | .ty n, _, _, h => by cases h; exact .ty n
  | .tup ds, _, p, h => by
    cases h with
    | tup hs ha => exact .tup hs (RelAll.drop ds _ (by simpa [D.noRef] using p) ha)
  | .lst ds, _, p, h => by
    cases h with
    | lst hs ha => exact .lst hs (RelAll.drop ds _ (by simpa [D.noRef] using p) ha)
  | .scr ds, _, p, h => by
    cases h with
    | scr hs ha => exact .scr hs (RelAll.drop ds _ (by simpa [D.noRef] using p) ha)
  | .obj c ks ds, _, p, h => by
    cases h with
    | obj hs hk ha => exact .obj hs hk (RelAll.drop ds _ (by simpa [D.noRef] using p) ha)
  | .ref n, _, p, _ => by simp [D.noRef] at p
theorem RelAll.drop : ∀ (ds : List D) (vs : List V), noRefs ds = true → RelAll K cl ρ H ds vs → RelAll K cl ρ' H ds vs
  | [], _, _, h => by cases h; exact .nil
  | d :: ds, _, p, h => by
    have p' : d.noRef = true ∧ noRefs ds = true := by simpa [noRefs] using p
    cases h with
    | cons h1 h2 => exact .cons (RelD.drop d _ p'.1 h1) (RelAll.drop ds _ p'.2 h2)
end
def ExT (H H' : Hp) : Prop := (∀ a o, H a = some o → (∀ xs, o ≠ .lst xs) → H' a = some o)
theorem ext_t {a : Addr} {xs : List V} (e : ExT H H') (h : SqT K H a xs) : SqT K H' a xs := by
  rcases h with h | h
  · rcases h with h | ⟨o, h⟩
    · exact .inl (.inl (e _ _ h fun ys z => by cases z))
    · exact .inl (.inr ⟨o, e _ _ h fun ys z => by cases z⟩)
  · exact .inr h
mutual
theorem RelD.noL (e : ExT H H') : ∀ (d : D) (v : V), d.noLst = true → RelD K cl ρ H d v → RelD K cl ρ' H' d v
  | .non, _, _, h => by cases h; exact .non
  | .bl b, _, _, h => by cases h; exact .bl b
  | .int i, _, _, h => by cases h; exact .int i
  | .str s, _, _, h => by cases h; exact .str s
  | .ty n, _, _, h => by cases h; exact .ty n
  | .tup ds, _, p, h => by
    cases h with
    | tup hs ha => exact .tup (ext_t e hs) (RelAll.noL e ds _ (by simpa [D.noLst] using p) ha)
  | .lst ds, _, p, _ => by simp [D.noLst] at p
  | .scr ds, _, p, _ => by simp [D.noLst] at p
  | .obj c ks ds, _, p, h => by
    cases h with
    | obj hs hk ha => exact .obj (e _ _ hs fun ys z => by cases z) hk (RelAll.noL e ds _ (by simpa [D.noLst] using p) ha)
  | .ref n, _, p, _ => by simp [D.noLst] at p
theorem RelAll.noL (e : ExT H H') : ∀ (ds : List D) (vs : List V), noLsts ds = true → RelAll K cl ρ H ds vs → RelAll K cl ρ' H' ds vs
  | [], _, _, h => by cases h; exact .nil
  | d :: ds, _, p, h => by
    have p' : d.noLst = true ∧ noLsts ds = true := by simpa [noLsts] using p
    cases h with
    | cons h1 h2 => exact .cons (RelD.noL e d _ p'.1 h1) (RelAll.noL e ds _ p'.2 h2)
end
end
mutual
def D.frz (S : Sto) : D → D
  | .ref m => match S[m]? with
    | some (.lst ds) => .lst ds
    | some (.obj c ks ds) => .obj c ks ds
    | some (.dct _) => .ref m
    | some (.dctL _ _) => .ref m
    | none => .ref m
  | .tup ds => .tup (frzs S ds)
  | .lst ds => .lst (frzs S ds)
  | .scr ds => .scr (frzs S ds)
  | .obj c ks ds => .obj c ks (frzs S ds)
  | d => d
def frzs (S : Sto) : List D → List D
  | [] => []
  | d :: ds => d.frz S :: frzs S ds
end
section
variable {K : PySem.W.Frag} {cl : Cl} {M : Addr → Prop} {ρ : List Addr} {S : Sto} {H : Hp}
theorem exNil : Ex cl (cut (NM M ρ) H) (cut (NM M []) H) := cut_ex fun a o n q => ⟨fun z => z.elim (fun m => n (.inl m)) (fun m => by cases m), q⟩
mutual
theorem frz_rel (g : G K cl M ρ S H) : ∀ (d : D) (v : V), RelD K cl ρ (cut (NM M ρ) H) d v → RelD K cl ρ (cut (NM M []) H) (d.frz S) v
  | .non, _, h => by cases h; exact .non
  | .bl b, _, h => by cases h; exact .bl b
  | .int i, _, h => by cases h; exact .int i
  | .str s, _, h => by cases h; exact .str s
  | .ty n, _, h => by cases h; exact .ty n
  | .tup ds, _, h => by
    cases h with
    | tup hs ha =>
      rw [D.frz]
      exact .tup (ex_t (exNil (cl := cl)) hs) (frzs_rel g ds _ ha)
  | .lst ds, _, h => by
    cases h with
    | lst hs ha =>
      rw [D.frz]
      exact .lst ((exNil (cl := cl)).lst hs) (frzs_rel g ds _ ha)
  | .scr ds, _, h => by
    cases h with
    | scr hs ha =>
      rw [D.frz]
      exact .scr (ex_l (exNil (cl := cl)) hs) (frzs_rel g ds _ ha)
  | .obj c ks ds, _, h => by
    cases h with
    | obj hs hk ha =>
      rw [D.frz]
      exact .obj ((exNil (cl := cl)).n _ _ hs fun ps z => by cases z) hk (frzs_rel g ds _ ha)
  | .ref n, _, h => by
    cases h with
    | @ref _ a hn =>
      have hm : ¬ NM M [] a := fun z => z.elim (g.dis a (List.mem_of_getElem? hn)) (fun m => by cases m)
      rw [D.frz]
      split
      · rename_i ds he
        obtain ⟨vs, hv, r⟩ := g.lstAt hn he
        exact .lst (by rw [cut_no hm]; exact hv) (r.up (List.prefix_refl _) exNil _ _)
      · rename_i c ks ds he
        obtain ⟨u, hu, r⟩ := g.sto n _ a he hn
        cases r with
        | obj hk ha => exact .obj (by rw [cut_no hm]; exact hu) hk (ha.up (List.prefix_refl _) exNil _ _)
      · exact .ref hn
      · exact .ref hn
      · exact .ref hn
theorem frzs_rel (g : G K cl M ρ S H) : ∀ (ds : List D) (vs : List V), RelAll K cl ρ (cut (NM M ρ) H) ds vs → RelAll K cl ρ (cut (NM M []) H) (frzs S ds) vs
  | [], _, h => by cases h; rw [frzs]; exact .nil
  | d :: ds, _, h => by
    cases h with
    | cons h1 h2 =>
      rw [frzs]
      exact .cons (frz_rel g d _ h1) (frzs_rel g ds _ h2)
end
end
abbrev PFn := List D → (D → Prop) → Prop
def spP (K : PySem.W.Frag) (cl : Cl) (F : PFn) : Sp := fun vs H Q _ => ∃ (M : Addr → Prop) (ds : List D) (k : D → Prop), (∀ a, M a → ∃ o, H a = some o ∧ Dk.Pl o) ∧ LamX.Tabs cl.tabs (cut (NM M []) H) ∧ RelAll K cl [] (cut (NM M []) H) ds vs ∧ F ds k ∧
  ∀ H' d v, Stp cl M [] H [] H' → RelD K cl [] (cut (NM M []) H') d v → k d → Q v H'
def startE (n : Nat) (ds : List D) : Env := ds.map some ++ List.replicate (n - ds.length) none
theorem re_start {K : PySem.W.Frag} {cl : Cl} {ρ : List Addr} {H : Hp} {ds : List D} {vs : List V} (N : List Str) (r : RelAll K cl ρ H ds vs) : RE K cl ρ H (startE N.length ds) (L2.start N vs) := by
  refine ⟨?_, fun i d h => ?_⟩
  · unfold startE L2.start
    rw [List.length_append, List.length_append, List.length_map, List.length_map, List.length_replicate, List.length_replicate, r.len]
  · unfold startE at h
    unfold L2.start
    by_cases hi : i < ds.length
    · rw [List.getElem?_append_left (by rw [List.length_map]; exact hi), List.getElem?_map, List.getElem?_eq_getElem hi] at h
      cases h
      obtain ⟨v, hv, rv⟩ := r.get (List.getElem?_eq_getElem hi)
      exact ⟨v, by rw [List.getElem?_append_left (by rw [List.length_map, r.len]; exact hi), List.getElem?_map, hv]; rfl, rv⟩
    · rw [List.getElem?_append_right (by rw [List.length_map]; omega)] at h
      have := List.mem_of_getElem? h
      rw [List.mem_replicate] at this
      cases this.2
theorem spP_len {K : PySem.W.Frag} {cl : Cl} {F : PFn} {n : Nat} (h : ∀ ds k, F ds k → ds.length = n) : ∀ vs H Q E, spP K cl F vs H Q E → vs.length = n := fun vs H Q E ⟨M, ds, k, _, _, r, hF, _⟩ => by
  rw [r.len]
  exact h ds k hF
theorem fn_ok {K : PySem.W.Frag} {cl : Cl} {F : PFn} {ts : TS} {ps : PSx} {N : List Str} {vs : List V} {H : Hp} {Q : VK} {E : XK} (hs : SmS K cl ts ps)
    (hp : ∀ ds k, F ds k → ps { nx := fun _ _ => k .non, rt := fun d S => (d.frz S).noRef = true ∧ k (d.frz S) } (startE N.length ds) []) (h : spP K cl F vs H Q E) : ts { nx := fun _ H' => Q .non H', rt := Q } (L2.start N vs) H := by
  obtain ⟨M, ds, k, hM, hT, r, hF, q⟩ := h
  have g : G K cl M [] [] H := ⟨hM, fun a ha => (by cases ha), List.nodup_nil, rfl, fun n o a hs => (by simp at hs), hT⟩
  have st : ∀ {ρ' H'}, Stp cl M [] H ρ' H' → Stp cl M [] H [] H' := fun s => ⟨List.prefix_refl _, s.ex.trans exNil, s.keep⟩
  refine hs M [] [] H _ _ g (re_start N r) _ _ (hp ds k hF) ⟨fun ρ' H' S' env' σ' s g' re' hk => q H' _ _ (st s) .non hk, fun ρ' H' S' d v s g' rd ⟨h1, hk⟩ => q H' _ _ (st s) ((frz_rel g' d v rd).drop _ _ h1) hk, fun _ _ _ _ _ _ _ _ h => h.elim, fun _ _ _ _ _ _ _ _ h => h.elim⟩
def callk (F : PFn) (S : Sto) (ds : List D) (k : D → Prop) : Prop := noRefs (ds.map (rs S)) = true ∧ F (ds.map (rs S)) fun d => (noRefs ds = true ∨ d.noLst = true) ∧ k d
def pCall (F : PFn) (pa : PAx) : PEx := fun env S k => pa env S fun ds S1 => callk F S1 ds fun d => k d S1
section
variable {K : PySem.W.Frag} {cl : Cl} {M : Addr → Prop} {ρ : List Addr} {S : Sto} {H H' : Hp} {F : PFn} {tr : TA} {pr : PAx} {E : XK}
theorem rs_id : ∀ ds : List D, noRefs ds = true → ds.map (rs S) = ds
  | [], _ => rfl
  | d :: ds, p => by
    have p' : d.noRef = true ∧ noRefs ds = true := by simpa [noRefs] using p
    rw [List.map_cons, rs_id ds p'.2]
    cases d <;> first | rfl | simp [D.noRef] at p'
theorem Ex.back {cl : Cl} {N N' : Addr → Prop} {H H' : Hp} (hN : ∀ a, N' a → N a) (hv : ∀ a o, N a → ¬ N' a → H' a = some o → ∃ l, o = .lst l) (e : Ex cl (cut N' H) (cut N' H')) : Ex cl (cut N H) (cut N H') := by
  have e1 : Ex cl (cut N H) (cut N' H) := cut_ex fun a o n q => ⟨fun z => n (hN a z), q⟩
  have up : ∀ b o, ¬ N b → cut N' H' b = some o → cut N H' b = some o := fun b o nb h => by
    rw [cut_no nb]
    rw [cut_no fun z => nb (hN b z)] at h
    exact h
  have notN : ∀ b o, cut N H b = some o → ¬ N b := fun b o h z => by
    rw [cut_yes z] at h
    cases h
  refine ⟨fun b o h nt => up b o (notN b o h) ((e1.trans e).n b o h nt), fun hT p hp => ?_⟩
  have hP : ¬ N p.1 := by
    obtain ⟨ps, h, _⟩ := hT p hp
    exact notN _ _ h
  obtain ⟨ps, h1, h2, h3⟩ := (e1.trans e).t hT p hp
  refine ⟨ps, up _ _ hP h1, h2, fun pos cv hc => ?_⟩
  obtain ⟨c, rfl, h4⟩ := h3 pos cv hc
  refine ⟨c, rfl, up _ _ (fun z => ?_) h4⟩
  have n' : ¬ N' c := fun z' => by
    rw [cut_yes z'] at h4
    cases h4
  rw [cut_no n'] at h4
  obtain ⟨l, hl⟩ := hv c _ z n' h4
  unfold LamX.CodeO at hl
  cases hl
theorem G.same (g : G K cl M ρ S H) (ex : Ex cl (cut (NM M ρ) H) (cut (NM M ρ) H')) (k : ∀ a, NM M ρ a → H' a = H a) : G K cl M ρ S H' ∧ Stp cl M ρ H ρ H' := by
  refine ⟨⟨fun a m => by rw [k a (.inl m)]; exact g.live a m, g.dis, g.nd, g.len, fun n o a hs ha => ?_, ex.t g.tab⟩, List.prefix_refl _, ex, fun a m => k a (.inl m)⟩
  obtain ⟨u, hu, r⟩ := g.sto n o a hs ha
  exact ⟨u, by rw [k a (.inr (List.mem_of_getElem? ha))]; exact hu, r.up (List.prefix_refl _) ex⟩
theorem sm_call (ha : SmA K cl tr pr) : SmE K cl (tCall (spP K cl F) [] E tr) (pCall F pr) := fun M ρ S H env σ g re k Q h q =>
  ha M ρ S H env σ g re _ _ h fun ρ1 H1 S1 ds vs s1 g1 r ⟨hn, hF⟩ => by
    show spP K cl F (vs ++ []) H1 Q E
    rw [List.append_nil]
    by_cases hr : noRefs ds = true
    · rw [rs_id ds hr] at hF
      have hset : ∀ a, NM (NM M ρ1) [] a ↔ NM M ρ1 a := fun a => ⟨fun z => z.elim id (fun m => by cases m), .inl⟩
      have e1 : ∀ H2 : Hp, Ex cl (cut (NM M ρ1) H2) (cut (NM (NM M ρ1) []) H2) := fun H2 => cut_ex fun a o n q => ⟨fun z => n ((hset a).mp z), q⟩
      have e2 : ∀ H2 : Hp, Ex cl (cut (NM (NM M ρ1) []) H2) (cut (NM M ρ1) H2) := fun H2 => cut_ex fun a o n q => ⟨fun z => n ((hset a).mpr z), q⟩
      refine ⟨NM M ρ1, ds, _, fun a m => m.elim (g1.live a) g1.liveR, (e1 H1).t g1.tab, (r.up (List.prefix_refl _) (e1 H1) _ _).drop _ _ hr, hF, fun H' d v s rd ⟨_, hk⟩ => ?_⟩
      obtain ⟨g2, s2⟩ := g1.same (H' := H') ((e1 H1).trans (s.ex.trans (e2 H'))) s.keep
      exact q ρ1 H' S1 d v (s1.trans s2) g2 (rd.up (List.nil_prefix) (e2 H') _ _) hk
    · let Vw : Addr → Prop := fun a => ∃ (n : Nat) (xs : List D), ρ1[n]? = some a ∧ S1[n]? = some (.lst xs)
      let M' : Addr → Prop := fun a => NM M ρ1 a ∧ ¬ Vw a
      have hset : ∀ a, NM M' [] a → NM M ρ1 a ∧ ¬ Vw a := fun a z => z.elim id (fun m => by cases m)
      have e1 : ∀ H2 : Hp, Ex cl (cut (NM M ρ1) H2) (cut (NM M' []) H2) := fun H2 => cut_ex fun a o n q => ⟨fun z => n (hset a z).1, q⟩
      have hview : ∀ a, Vw a → ∃ ws, H1 a = some (.lst ws) := fun a ⟨n, xs, hn, hs⟩ => by
        obtain ⟨ws, hw, _⟩ := g1.lstAt hn hs
        exact ⟨ws, hw⟩
      have rels : ∀ (ds : List D) (vs : List V), noRefs (ds.map (rs S1)) = true → RelAll K cl ρ1 (cut (NM M ρ1) H1) ds vs → RelAll K cl [] (cut (NM M' []) H1) (ds.map (rs S1)) vs := by
        intro ds
        induction ds with
        | nil =>
          intro vs _ h
          cases h
          exact .nil
        | cons d ds ih =>
          intro vs p h
          rw [List.map_cons] at p ⊢
          have p' : (rs S1 d).noRef = true ∧ noRefs (ds.map (rs S1)) = true := by simpa [noRefs] using p
          cases h with
          | @cons _ _ v0 _ h1 h2 =>
            refine .cons ?_ (ih _ p'.2 h2)
            have main : RelD K cl ρ1 (cut (NM M' []) H1) (rs S1 d) v0 := by
              cases h1 with
              | @ref n a hn =>
                have pr := p'.1
                unfold rs at pr ⊢
                simp only at pr ⊢
                split at pr
                · rename_i xs he
                  obtain ⟨ws, hw, rw'⟩ := g1.lstAt hn he
                  refine .lst ?_ (rw'.up (List.prefix_refl _) (e1 H1) _ _)
                  rw [cut_no fun z => (hset a z).2 ⟨n, xs, hn, he⟩]
                  exact hw
                · simp [D.noRef] at pr
              | non => exact .non
              | bl => exact .bl _
              | int => exact .int _
              | str => exact .str _
              | ty => exact .ty _
              | tup hs ha => exact (RelD.tup hs ha).up (List.prefix_refl _) (e1 H1) _ _
              | lst hs ha => exact (RelD.lst hs ha).up (List.prefix_refl _) (e1 H1) _ _
              | scr hs ha => exact (RelD.scr hs ha).up (List.prefix_refl _) (e1 H1) _ _
              | obj hs hk ha => exact (RelD.obj hs hk ha).up (List.prefix_refl _) (e1 H1) _ _
            exact main.drop _ _ p'.1
      refine ⟨M', ds.map (rs S1), _, fun a m => m.1.elim (g1.live a) g1.liveR, (e1 H1).t g1.tab, rels ds vs hn r, hF, fun H' d v s rd ⟨hl, hk⟩ => ?_⟩
      have hd : d.noLst = true := hl.elim (fun z => absurd z hr) id
      have keep : ∀ a, NM M ρ1 a → H' a = H1 a := fun a m => by
        by_cases hv : Vw a
        · obtain ⟨ws, hw⟩ := hview a hv
          rw [hw]
          exact (cut_ex' s.ex (fun z => (hset a z).2 hv) hw (fun ps z => by cases z)).2
        · exact s.keep a ⟨m, hv⟩
      obtain ⟨g2, s2⟩ := g1.same (H' := H') (Ex.back (fun a z => (hset a z).1) (fun a o h1 h2 h3 => by
        have hv : Vw a := Classical.byContradiction fun hv => h2 (.inl ⟨h1, hv⟩)
        obtain ⟨ws, hw⟩ := hview a hv
        rw [keep a h1, hw] at h3
        exact ⟨ws, (Option.some.inj h3).symm⟩) s.ex) keep
      refine q ρ1 H' S1 d v (s1.trans s2) g2 (RelD.noL (fun a o ho hl => ?_) d v hd rd) hk
      by_cases z : NM M' [] a
      · rw [cut_yes z] at ho
        cases ho
      · rw [cut_no z] at ho
        have n : ¬ NM M ρ1 a := fun m => by
          have hv : Vw a := Classical.byContradiction fun hv => z (.inl ⟨m, hv⟩)
          obtain ⟨ws, hw⟩ := hview a hv
          rw [keep a m, hw] at ho
          cases ho
          exact hl ws rfl
        rw [cut_no n]
        exact ho
end
abbrev SFn := List D → Sto → (D → Sto → Prop) → Prop
end Pw
namespace Pw
open PySem PySem.Spec PyProof.Rows L2 Evl Lw
abbrev uTup (K : PySem.W.Frag) : List V → Hp → VK → Prop := fun xs H Q => ∃ p ys, xs = [.ref p] ∧ ((SqL K H p ys ∧ ∀ l, H l = none → Q (.ref l) (upd H l (.tup ys))) ∨ (SqT K H p ys ∧ Q (.ref p) H))
def spLawT (tabs : List (Addr × Str)) (K : PySem.W.Frag) : Sp := fun vs H Q _ => ∃ (a : Addr) (ns : List Int), vs = [.ref a] ∧ (∀ p ∈ tabs, H p.1 = some (.tbl #[])) ∧ SqL K H a (ns.map V.int) ∧ ns.length ≤ 63 ∧ ∀ H', Q (.bl true) H'
theorem law_ok {K : PySem.W.Frag} {cl : Cl} {ts : TS} {ps : PSx} {N : List Str} {vs : List V} {H : Hp} {Q : VK} {E : XK} (hs : SmS K cl ts ps)
    (hp : ∀ ns : List Int, ns.length ≤ 63 → ps { nx := fun _ _ => False, rt := fun d _ => d = .bl true } (startE N.length [.scr (ns.map D.int)]) []) (h : spLawT cl.tabs K vs H Q E) : ts { nx := fun _ H' => Q .non H', rt := Q } (L2.start N vs) H := by
  obtain ⟨a, ns, rfl, hT, hS, hl, q⟩ := h
  have g : G K cl (fun _ => False) [] [] H := ⟨fun a m => m.elim, fun a ha => (by cases ha), List.nodup_nil, rfl, fun n o a hs => (by simp at hs), fun p hp => .nil (by rw [cut_no (fun z => z.elim id (fun m => by cases m))]; exact hT p hp)⟩
  have scrs : ∀ ns : List Int, RelAll K cl [] (cut (NM (fun _ => False) []) H) (ns.map D.int) (ns.map V.int) := fun ns => by
    induction ns with
    | nil => exact .nil
    | cons n ns ih => exact .cons (.int n) ih
  have ex : Ex cl H (cut (NM (fun _ => False) []) H) := .of fun a o h => by
    rw [cut_no (fun z => z.elim id (fun m => by cases m))]
    exact h
  refine hs _ [] [] H _ _ g (re_start N (.cons (.scr (ex_l ex hS) (scrs ns)) .nil)) _ _ (hp ns hl) ⟨fun ρ' H' S' env' σ' s g' re' hk => hk.elim, fun ρ' H' S' d v s g' rd hk => ?_, fun _ _ _ _ _ _ _ _ h => h.elim, fun _ _ _ _ _ _ _ _ h => h.elim⟩
  rw [hk] at rd
  rw [rel_bl rd]
  exact q H'
def pStar (pa : PEx) (pr : PAx) : PAx := fun env S k => pa env S fun x S1 => ∃ ds, itemsOf S1 x = some ds ∧ pr env S1 fun xs S2 => k (ds ++ xs) S2
def truk (S : Sto) (d : D) (k : Bool → Prop) : Prop := match d with
  | .non => k false
  | .bl b => k b
  | .int i => k (i != 0)
  | .str s => s.length ≤ 100000 ∧ k ((s.length : Int) != 0)
  | x => ∃ ds, itemsOf S x = some ds ∧ k (!ds.isEmpty)
def pTru (pa : PEx) : PTx := fun env S k => pa env S fun x S1 => truk S1 x fun b => k b S1
def fldOf (cs : List Nat) (f : Str) (S : Sto) : D → Option D
  | .obj c ks ds => if c ∈ cs then (ks.zip ds).lookup f else none
  | .ref n => match S[n]? with
    | some (.obj c ks ds) => if c ∈ cs then (ks.zip ds).lookup f else none
    | _ => none
  | _ => none
def pFld (f : Str) (cs : List Nat) (pa : PEx) : PEx := fun env S k => pa env S fun x S1 => ∃ d, fldOf cs f S1 x = some d ∧ k d S1
section
variable {K : PySem.W.Frag} {cl : Cl} {te ta tb : TE} {pe pa pb : PEx}
theorem sm_star {tr : TA} {pr : PAx} (ha : SmE K cl ta pa) (hr : SmA K cl tr pr) : SmA K cl (StX.tStar K ta tr) (pStar pa pr) := fun M ρ S H env σ g re k Q h q =>
  ha M ρ S H env σ g re _ _ h fun ρ1 H1 S1 x v s1 g1 rx ⟨ds, hd, h1⟩ => by
    obtain ⟨a, vs, rfl, hs, r⟩ := items_sq g1 rx hd
    exact ⟨a, vs, rfl, hs.symm, hr M ρ1 S1 H1 env σ g1 (re.up s1) _ _ h1 fun ρ2 H2 S2 ys ws s2 g2 ry h2 => q ρ2 H2 S2 _ _ (s1.trans s2) g2 ((r.up s2.pre s2.ex _ _).app ry) h2⟩
end
def forG (g : PGx) (tb : PSx) (P : PEnds) : List D → Env → Sto → Prop
  | [], env, S => P.nx env S
  | d :: ds, env, S => g d env S fun env1 S1 => tb { P with nx := forG g tb P ds, ct := forG g tb P ds, bk := P.nx } env1 S1
theorem for_go {pi : PIx} {g : PGx} {tb : PSx} {P : PEnds} {env : Env} {S : Sto} {src : D} {ds : List D} (hpi : ∀ kk : D → List D → Sto → Prop, kk src ds S → pi env S kk) (hs : ∀ S', iterOf S' src = some ds) (h : forG g tb P ds env S) : pFor pi g tb P env S := by
  refine hpi _ ⟨fun i => forG g tb P (ds.drop i), h, fun i d env S hd hI => ⟨hs S, ?_⟩, fun env S hI => ⟨hs S, ?_⟩⟩
  · have hi := (List.getElem?_eq_some_iff.mp hd)
    have e : ds.drop i = d :: ds.drop (i + 1) := by
      rw [← hi.2]
      exact List.drop_eq_getElem_cons hi.1
    dsimp only at hI
    rw [e] at hI
    exact hI
  · dsimp only at hI
    rw [List.drop_of_length_le (Nat.le_refl _)] at hI
    exact hI
theorem lc_go {α : Type} {pi : PIx} {g : PGx} {pt : PTx} {pe : PEx} {ws : List Nat} {env : Env} {S : Sto} {k : D → Sto → Prop} {src : D} {as : List α} {enc : α → D} (f : α → Bool) (h : α → D)
    (hpi : ∀ kk : D → List D → Sto → Prop, kk src (as.map enc) S → pi env S kk) (hs : ∀ S', iterOf S' src = some (as.map enc)) (hl : as.length < 90000)
    (hd : ∀ a ∈ as, ∀ (k2 : D → Sto → Prop) (k3 : Sto → Prop), (if f a = true then k2 (h a) S else k3 S) → g (enc a) (wipeE env ws) S fun env2 S2 => pt env2 S2 fun b S3 => if b = true then pe env2 S3 k2 else k3 S3)
    (hk : k (.lst ((as.filter f).map h)) S) : pLc pi g pt pe ws env S k := by
  refine hpi _ ⟨fun i acc S' => S' = S ∧ acc = ((as.take i).filter f).map h, ⟨rfl, rfl⟩, ?_, ?_⟩
  · rintro i d acc S' hi ⟨rfl, rfl⟩
    rw [List.getElem?_map] at hi
    cases e : as[i]? with
    | none => rw [e] at hi; cases hi
    | some a =>
      rw [e] at hi
      cases hi
      have ht : as.take (i + 1) = as.take i ++ [a] := take_up e
      refine ⟨?_, hs S', hd a (List.mem_of_getElem? e) _ _ ?_⟩
      · rw [List.length_map]
        have := List.length_filter_le f (as.take i)
        rw [List.length_take] at this
        omega
      · dsimp only
        rw [ht, List.filter_append, List.map_append]
        cases hf : f a with
        | true => rw [if_pos rfl, List.filter_cons_of_pos hf]; exact ⟨rfl, rfl⟩
        | false => rw [if_neg (by decide), List.filter_cons_of_neg (by rw [hf]; decide)]; exact ⟨rfl, by simp⟩
  · rintro acc S' ⟨rfl, rfl⟩
    rw [List.length_map, List.take_of_length_le (Nat.le_refl _)]
    exact ⟨hs S', hk⟩
theorem pure_noRef : ∀ d : D, d.pure = true → d.noRef = true := by
  intro d
  refine D.rec (motive_1 := fun d => d.pure = true → d.noRef = true) (motive_2 := fun ds => pureAll ds = true → noRefs ds = true) ?_ ?_ ?_ ?_ ?_ ?_ ?_ ?_ ?_ ?_ ?_ ?_ d
  all_goals simp_all [D.pure, D.noRef, pureAll, noRefs]
theorem rs_pure {S : Sto} {d : D} (h : d.pure = true) : rs S d = d := by
  cases d <;> first | rfl | simp [D.pure] at h
theorem eqk_pure {S : Sto} {x y : D} {k : D → Prop} (hx : x.pure = true) (hy : y.pure = true) (hd : x.dep ≤ 60) : eqk S x y k = k (.bl (D.eqv x y)) := by
  unfold eqk
  rw [rs_pure hx, rs_pure hy, hx, hy]
  simp [hd]
theorem nek_pure {S : Sto} {x y : D} {k : D → Prop} (hx : x.pure = true) (hy : y.pure = true) (hd : x.dep ≤ 60) : nek S x y k = k (.bl (!D.eqv x y)) := by
  unfold nek
  rw [rs_pure hx, rs_pure hy, hx, hy]
  simp [hd]
theorem frz_pure (S : Sto) : ∀ d : D, d.pure = true → d.frz S = d := by
  intro d
  refine D.rec (motive_1 := fun d => d.pure = true → d.frz S = d) (motive_2 := fun ds => pureAll ds = true → frzs S ds = ds) ?_ ?_ ?_ ?_ ?_ ?_ ?_ ?_ ?_ ?_ ?_ ?_ d
  all_goals simp_all [D.pure, D.frz, pureAll, frzs]
theorem rt_pure {d : D} {S : Sto} {k : D → Prop} (h : d.pure = true) (hk : k d) : (d.frz S).noRef = true ∧ k (d.frz S) := by
  rw [frz_pure S d h]
  exact ⟨pure_noRef d h, hk⟩
theorem pgTup_t {n : Nat} {gs : PGsx} {ds : List D} {env : Env} {S : Sto} {k : Env → Sto → Prop} : pgTup n gs (.tup ds) env S k = (ds.length = n ∧ gs ds env S k) := rfl
theorem isk_non {S : Sto} {x : D} {k : D → Prop} : isk S x .non k = k (.bl (isNon x)) := by
  show (D.non = .non ∧ k (.bl (isNon x))) = _
  simp
theorem nsk_non {S : Sto} {x : D} {k : D → Prop} : nsk S x .non k = k (.bl (!isNon x)) := by
  show (D.non = .non ∧ k (.bl (!isNon x))) = _
  simp
theorem isN_non : isNon .non = true := rfl
theorem isN_bl {b : Bool} : isNon (.bl b) = false := rfl
theorem isN_int {b : Int} : isNon (.int b) = false := rfl
theorem isN_str {b : Str} : isNon (.str b) = false := rfl
theorem isN_tup {b : List D} : isNon (.tup b) = false := rfl
theorem isN_lst {b : List D} : isNon (.lst b) = false := rfl
theorem isN_ref {b : Nat} : isNon (.ref b) = false := rfl
theorem isN_obj {c : Nat} {ks : List Str} {b : List D} : isNon (.obj c ks b) = false := rfl
section
variable {S : Sto} {k : D → Prop}
theorem o_add {i j : Int} : addk S (.int i) (.int j) k = k (.int (i + j)) := rfl
theorem o_sub {i j : Int} : subk S (.int i) (.int j) k = k (.int (i - j)) := rfl
theorem o_mul {i j : Int} : mulk S (.int i) (.int j) k = (CMul i j ∧ k (.int (i * j))) := rfl
theorem o_div {i j : Int} : divk S (.int i) (.int j) k = ((0 < j ∧ j < 1073741824) ∧ k (.int (i / j))) := rfl
theorem o_mod {i j : Int} : modk S (.int i) (.int j) k = (0 < j ∧ k (.int (i % j))) := rfl
theorem o_cmp {f : Int → Int → Bool} {i j : Int} : cmpk f S (.int i) (.int j) k = k (.bl (f i j)) := rfl
theorem o_int {i : Int} : int1k S [.int i] k = k (.int i) := rfl
theorem o_min {i j : Int} : min2k S [.int i, .int j] k = k (.int (if j < i then j else i)) := rfl
theorem o_max {i j : Int} : max2k S [.int i, .int j] k = k (.int (if j > i then j else i)) := rfl
theorem o_lenl {ds : List D} : lenk S [.lst ds] k = k (.int ds.length) := by
  show (∃ es, itemsOf S (.lst ds) = some es ∧ k (.int es.length)) = _
  simp [itemsOf]
theorem o_lent {ds : List D} : lenk S [.tup ds] k = k (.int ds.length) := by
  show (∃ es, itemsOf S (.tup ds) = some es ∧ k (.int es.length)) = _
  simp [itemsOf]
theorem o_lens {ds : List D} : lenk S [.scr ds] k = k (.int ds.length) := by
  show (∃ es, itemsOf S (.scr ds) = some es ∧ k (.int es.length)) = _
  simp [itemsOf]
theorem o_tupt {ds : List D} : tupk S [.tup ds] k = k (.tup ds) := rfl
theorem o_tupl {ds : List D} : tupk S [.lst ds] k = k (.tup ds) := by
  show (∃ es, listOf S (.lst ds) = some es ∧ k (.tup es)) = _
  simp [listOf]
theorem q_int {a b : Int} : eqk S (.int a) (.int b) k = k (.bl (decide (a = b))) := by
  rw [eqk_pure (x := .int a) (y := .int b) rfl rfl (show (D.int a).dep ≤ 60 from Nat.zero_le 60)]
  have : D.eqv (.int a) (.int b) = decide (a = b) := by
    show (a == b) = _
    rw [Bool.eq_iff_iff]
    simp
  rw [this]
theorem n_int {a b : Int} : nek S (.int a) (.int b) k = k (.bl (!decide (a = b))) := by
  rw [nek_pure (x := .int a) (y := .int b) rfl rfl (show (D.int a).dep ≤ 60 from Nat.zero_le 60)]
  have : D.eqv (.int a) (.int b) = decide (a = b) := by
    show (a == b) = _
    rw [Bool.eq_iff_iff]
    simp
  rw [this]
theorem at0 {α : Type} {a : α} {l : List α} : atI (a :: l) 0 = some a := atI_nat (j := 0) rfl
theorem at1 {α : Type} {a b : α} {l : List α} : atI (a :: b :: l) 1 = some b := atI_nat (j := 1) rfl
theorem at2 {α : Type} {a b c : α} {l : List α} : atI (a :: b :: c :: l) 2 = some c := atI_nat (j := 2) rfl
theorem at3 {α : Type} {a b c d : α} {l : List α} : atI (a :: b :: c :: d :: l) 3 = some d := atI_nat (j := 3) rfl
theorem at4 {α : Type} {a b c d e : α} {l : List α} : atI (a :: b :: c :: d :: e :: l) 4 = some e := atI_nat (j := 4) rfl
theorem at5 {α : Type} {a b c d e f : α} {l : List α} : atI (a :: b :: c :: d :: e :: f :: l) 5 = some f := atI_nat (j := 5) rfl
theorem ixk_tup {ds : List D} {i : Int} : ixk S (.tup ds) (.int i) k = ∃ d, atI ds i = some d ∧ k d := by
  show (∃ ds' d, itemsOf S (.tup ds) = some ds' ∧ atI ds' i = some d ∧ k d) = _
  simp [itemsOf]
theorem ixk_lst {ds : List D} {i : Int} : ixk S (.lst ds) (.int i) k = ∃ d, atI ds i = some d ∧ k d := by
  show (∃ ds' d, itemsOf S (.lst ds) = some ds' ∧ atI ds' i = some d ∧ k d) = _
  simp [itemsOf]
theorem ixk_scr {ds : List D} {i : Int} : ixk S (.scr ds) (.int i) k = ∃ d, atI ds i = some d ∧ k d := by
  show (∃ ds' d, itemsOf S (.scr ds) = some ds' ∧ atI ds' i = some d ∧ k d) = _
  simp [itemsOf]
theorem at_map {α : Type} {f : α → D} {l : List α} {i : Nat} {a : α} (h : l[i]? = some a) : atI (l.map f) (i : Int) = some (f a) := atI_nat (by rw [List.getElem?_map, h]; rfl)
end
mutual
theorem eqv_refl : ∀ d : PyData, d.plain = true → PyData.eqv d d = true
  | .none, _ => rfl
  | .bool b, _ => by simp [PyData.eqv]
  | .int i, _ => by simp [PyData.eqv]
  | .str x, _ => by simp [PyData.eqv]
  | .list xs, h => by
    rw [PyData.eqv]
    exact eqvs_refl xs (by simpa [PyData.plain] using h)
  | .tuple xs, h => by
    rw [PyData.eqv]
    exact eqvs_refl xs (by simpa [PyData.plain] using h)
  | .dict _, h => by simp [PyData.plain] at h
theorem eqvs_refl : ∀ ds : List PyData, PyData.plainAll ds = true → PyData.eqvAll ds ds = true
  | [], _ => by rw [PyData.eqvAll]
  | d :: ds, h => by
    have h' : d.plain = true ∧ PyData.plainAll ds = true := by simpa [PyData.plainAll] using h
    rw [PyData.eqvAll, eqv_refl d h'.1, eqvs_refl ds h'.2]
    rfl
end
theorem n_refl {S : Sto} {x : D} {k : D → Prop} (hx : x.pure = true) (hd : x.dep ≤ 60) : nek S x x k = k (.bl false) := by
  rw [nek_pure hx hx hd]
  unfold D.eqv
  rw [eqv_refl _ (plain_py x)]
  rfl
theorem q_word (S : Sto) (a b : Str) (k : D → Prop) : eqk S (.str a) (.str b) k = k (.bl (decide (a = b))) := by
  rw [eqk_pure (x := .str a) (y := .str b) rfl rfl (show (D.str a).dep ≤ 60 from Nat.zero_le 60)]
  have : D.eqv (.str a) (.str b) = decide (a = b) := by
    show (a == b) = _
    rw [Bool.eq_iff_iff]
    simp
  rw [this]
end Pw
namespace Pw
open PySem PySem.Spec PyProof.Rows L2 Evl Lw
def putK (f : Str) : List Str → List Str
  | [] => [f]
  | g :: r => if g = f then g :: r else g :: putK f r
def putD (f : Str) (d : D) : List Str → List D → List D
  | g :: r, e :: ds => if g = f then d :: ds else e :: putD f d r ds
  | _, _ => [d]
def pSetF (f : Str) (cs : List Nat) (pa pv : PEx) : PSx := fun P env S => pv env S fun d S1 => pa env S1 fun x S2 => ∃ n, x = .ref n ∧ ∃ c ks ds, S2[n]? = some (.obj c ks ds) ∧ c ∈ cs ∧ ks.length < 1000 ∧ P.nx env (S2.set n (.obj c (putK f ks) (putD f d ks ds)))
def makek (c : Nat) (R : SFn) (S : Sto) (ds : List D) (k : D → Sto → Prop) : Prop := R (.ref S.length :: ds) (S ++ [.obj c [] []]) fun d S' => d = .non ∧ ((∃ ks fs, S' = S ++ [.obj c ks fs] ∧ noRefs fs = true ∧ k (.obj c ks fs) S) ∨ k (.ref S.length) S')
def pMake (c : Nat) (R : SFn) (pa : PAx) : PEx := fun env S k => pa env S fun ds S1 => makek c R S1 ds k
section
variable {K : PySem.W.Frag} {cl : Cl} {te ta tv : TE} {pe pa pv : PEx}
end
end Pw
namespace Ln
open PySem PySem.Spec PyProof.Rows L2 Evl Lw
abbrev Id := Int × Int
abbrev Ct := Int × Int × Int × Bool
structure Line where
  id : Id
  hd : Id
  ins : Option Id
  path : List Str
  ct : Option Ct
deriving DecidableEq
abbrev Place := Option Id × List Str × List Str
abbrev Mv := Option Id × Option Id × Place
inductive Edit where
  | write (id : Id) (pl : Place) (ct : Option Ct) (meant : Option Id) (heads : List Id)
  | drop (id : Id) (heads : List Id)
  | move (id : Id) (ms : List Mv)
def dId (i : Id) : PyData := .tuple [.int i.1, .int i.2]
def dOp {α : Type} (f : α → PyData) : Option α → PyData
  | none => .none
  | some a => f a
def dPath (p : List Str) : PyData := .tuple (p.map PyData.str)
def dCt (c : Ct) : PyData := .tuple [.int c.1, .int c.2.1, .int c.2.2.1, .bool c.2.2.2]
def dLn (l : Line) : PyData := .tuple [dId l.id, dId l.hd, dOp dId l.ins, dPath l.path, dOp dCt l.ct]
def dLs (ls : List Line) : PyData := .list (ls.map dLn)
theorem eqv_id (a b : Id) : PyData.eqv (dId a) (dId b) = decide (a = b) := by
  obtain ⟨a1, a2⟩ := a
  obtain ⟨b1, b2⟩ := b
  show PyData.eqv (.tuple [.int a1, .int a2]) (.tuple [.int b1, .int b2]) = _
  simp only [PyData.eqv, PyData.eqvAll]
  rw [Bool.eq_iff_iff]
  simp
theorem eqv_oid (a b : Option Id) : PyData.eqv (dOp dId a) (dOp dId b) = decide (a = b) := by
  cases a with
  | none => cases b with
    | none => rfl
    | some b => rfl
  | some a => cases b with
    | none => rfl
    | some b =>
      show PyData.eqv (dId a) (dId b) = _
      rw [eqv_id]
      simp
theorem eqv_path (a b : List Str) : PyData.eqv (dPath a) (dPath b) = decide (a = b) := by
  show PyData.eqv (.tuple _) (.tuple _) = _
  rw [PyData.eqv, eqv_strs]
theorem eqv_ct (a b : Ct) : PyData.eqv (dCt a) (dCt b) = decide (a = b) := by
  obtain ⟨a1, a2, a3, a4⟩ := a
  obtain ⟨b1, b2, b3, b4⟩ := b
  show PyData.eqv (.tuple [.int a1, .int a2, .int a3, .bool a4]) (.tuple [.int b1, .int b2, .int b3, .bool b4]) = _
  simp only [PyData.eqv, PyData.eqvAll]
  rw [Bool.eq_iff_iff]
  simp
theorem eqv_oct (a b : Option Ct) : PyData.eqv (dOp dCt a) (dOp dCt b) = decide (a = b) := by
  cases a with
  | none => cases b with
    | none => rfl
    | some b => rfl
  | some a => cases b with
    | none => rfl
    | some b =>
      show PyData.eqv (dCt a) (dCt b) = _
      rw [eqv_ct]
      simp
theorem eqv_ln (a b : Line) : PyData.eqv (dLn a) (dLn b) = decide (a = b) := by
  obtain ⟨a1, a2, a3, a4, a5⟩ := a
  obtain ⟨b1, b2, b3, b4, b5⟩ := b
  show PyData.eqv (.tuple [dId a1, dId a2, dOp dId a3, dPath a4, dOp dCt a5]) (.tuple [dId b1, dId b2, dOp dId b3, dPath b4, dOp dCt b5]) = _
  rw [PyData.eqv, PyData.eqvAll, PyData.eqvAll, PyData.eqvAll, PyData.eqvAll, PyData.eqvAll, PyData.eqvAll, eqv_id, eqv_id, eqv_oid, eqv_path, eqv_oct]
  simp [Bool.eq_iff_iff]
theorem eqv_lns : ∀ a b : List Line, PyData.eqvAll (a.map dLn) (b.map dLn) = decide (a = b)
  | [], [] => by rw [List.map_nil, PyData.eqvAll]; rfl
  | [], _ :: _ => by rw [List.map_nil, List.map_cons, PyData.eqvAll]; simp
  | _ :: _, [] => by rw [List.map_nil, List.map_cons, PyData.eqvAll]; simp
  | x :: xs, y :: ys => by
    rw [List.map_cons, List.map_cons, PyData.eqvAll, eqv_ln, eqv_lns xs ys]
    simp [Bool.eq_iff_iff]
theorem eqv_ls (a b : List Line) : PyData.eqv (dLs a) (dLs b) = decide (a = b) := by
  show PyData.eqv (.list _) (.list _) = _
  rw [PyData.eqv, eqv_lns]
theorem dp_id (i : Id) : (dId i).depth ≤ 1 := by
  show max 0 (max 0 0) + 1 ≤ 1
  decide
theorem dp_oid (i : Option Id) : (dOp dId i).depth ≤ 1 := by
  cases i with
  | none => exact Nat.zero_le 1
  | some i => exact dp_id i
theorem dp_path (p : List Str) : (dPath p).depth ≤ 1 := by
  show PyData.depthAll _ + 1 ≤ 1
  rw [depth_strs]
  decide
theorem dp_oct (c : Option Ct) : (dOp dCt c).depth ≤ 1 := by
  cases c with
  | none => exact Nat.zero_le 1
  | some c =>
    show max 0 (max 0 (max 0 (max 0 0))) + 1 ≤ 1
    decide
theorem dp_ln (l : Line) : (dLn l).depth ≤ 2 := by
  have h1 := dp_id l.id
  have h2 := dp_id l.hd
  have h3 := dp_oid l.ins
  have h4 := dp_path l.path
  have h5 := dp_oct l.ct
  show max (dId l.id).depth (max (dId l.hd).depth (max (dOp dId l.ins).depth (max (dPath l.path).depth (max (dOp dCt l.ct).depth 0)))) + 1 ≤ 2
  omega
theorem dp_all {α : Type} {f : α → PyData} {n : Nat} (h : ∀ a, (f a).depth ≤ n) : ∀ l : List α, PyData.depthAll (l.map f) ≤ n
  | [] => Nat.zero_le n
  | a :: l => by
    have h1 := h a
    have h2 := dp_all h l
    show max (f a).depth (PyData.depthAll (l.map f)) ≤ n
    omega
theorem dp_ls (ls : List Line) : (dLs ls).depth ≤ 3 := by
  have := dp_all dp_ln ls
  show PyData.depthAll (ls.map dLn) + 1 ≤ 3
  omega
def findLine (ls : List Line) (o : Option Id) : Option Line := ls.find? fun l => decide (some l.id = o)
def findHead (ls : List Line) (o : Option Id) : Option Line := ls.find? fun l => decide (some l.hd = o)
def settleF (ls : List Line) (pl : Place) : Option Id × List Str := match findLine ls pl.1 with
  | some f => if f.ct = none then (pl.1, pl.2.1) else (none, pl.2.2)
  | none => (none, pl.2.2)
def woLine (ls : List Line) (e : Line) : List Line := ls.flatMap fun k => if k.ins = some e.id then [{ k with ins := e.ins, path := e.path ++ k.path }] else if k.id ≠ e.id then [k] else []
def woHead (ls : List Line) (h : Id) : List Line := match findHead ls (some h) with
  | some e => woLine ls e
  | none => ls
def woHeads (ls : List Line) (hs : List Id) : List Line := hs.foldl woHead ls
def whereF (ls : List Line) (pl : Place) (meant : Option Id) : Option Id × List Str := match findLine ls meant with
  | some m => (m.ins, m.path)
  | none => settleF ls pl
def withNew (ls : List Line) (id : Id) (pl : Place) (ct : Option Ct) (meant : Option Id) : List Line := ls ++ [⟨id, id, (whereF ls pl meant).1, (whereF ls pl meant).2, ct⟩]
def firstRep (ls : List Line) (hs : List Id) : Option Line := ls.find? fun l => l.ct.isSome && decide (l.hd ∈ hs)
inductive SIn (ls : List Line) (x : Id) : Nat → Option Id → Bool → Prop where
  | root : SIn ls x 0 none false
  | hit : SIn ls x 0 (some x) true
  | up {i : Id} {f : Line} {n : Nat} {b : Bool} : i ≠ x → findLine ls (some i) = some f → SIn ls x n f.ins b → SIn ls x (n + 1) (some i) b
inductive Std (ls : List Line) : Nat → Option Id → List Str → List Str → Prop where
  | root (p : List Str) : Std ls 0 none p p
  | up {i : Id} {f : Line} {n : Nat} {p r : List Str} : findLine ls (some i) = some f → Std ls n f.ins (f.path ++ p) r → Std ls (n + 1) (some i) p r
theorem Std.len {ls : List Line} {n : Nat} {o : Option Id} {p r : List Str} (h : Std ls n o p r) : p.length ≤ r.length := by
  induction h with
  | root p => exact Nat.le_refl _
  | up _ _ ih =>
    rw [List.length_append] at ih
    omega
def Short (ls : List Line) : Prop := ls.length ≤ 1000 ∧ ∀ l ∈ ls, l.path.length ≤ 10000
theorem up {K : PySem.W.Frag} {N : Addr → Prop} {H H1 : Hp} {v : V} {d : PyData} (e : Ex H H1) (h : Dp K (cutN N H) v d) : Dp K (cutN N H1) v d := Dp.ex (cutN_ex e) d v h
def mvTo (ls : List Line) (l : Line) (w : Option Id × List Str) : List Line := ls.map fun k => if k.id = l.id then ⟨l.id, l.hd, w.1, w.2, l.ct⟩ else k
def meantBy (ls : List Line) (m : Mv) : Option Line := (findHead ls m.1).or (findLine ls m.2.1)
inductive MvR (ls : List Line) (m : Mv) : List Line → Prop where
  | no : meantBy ls m = none → MvR ls m ls
  | ring {l : Line} {n : Nat} : meantBy ls m = some l → SIn ls l.id n (settleF ls m.2.2).1 true → MvR ls m ls
  | yes {l : Line} {n : Nat} : meantBy ls m = some l → SIn ls l.id n (settleF ls m.2.2).1 false → MvR ls m (mvTo ls l (settleF ls m.2.2))
def textIn (ls : List Line) (id : Id) (pl : Place) (ct : Option Ct) (meant : Option Id) (hs : List Id) : List Line := match firstRep ls hs with
  | none => withNew ls id pl ct meant
  | some c => ls.map fun k => if k.id = c.id then ⟨c.id, id, c.ins, c.path, ct⟩ else k
def afterText (ls : List Line) (id : Id) (pl : Place) (ct : Option Ct) (meant : Option Id) (hs : List Id) : List Line := woHeads (textIn ls id pl ct meant hs) (hs.filter fun h => !decide (h = id))
inductive MvsR : List Line → List Mv → List Line → Prop where
  | nil (ls : List Line) : MvsR ls [] ls
  | cons {ls ls1 ls2 : List Line} {m : Mv} {ms : List Mv} : Short ls → MvR ls m ls1 → MvsR ls1 ms ls2 → MvsR ls (m :: ms) ls2
inductive AftR (ls : List Line) : Edit → List Line → Prop where
  | drop (id : Id) (hs : List Id) : (∀ i, Short (woHeads ls (hs.take i))) → AftR ls (.drop id hs) (woHeads ls hs)
  | move (id : Id) {ms : List Mv} {ls' : List Line} : MvsR ls ms ls' → AftR ls (.move id ms) ls'
  | mark (id : Id) (pl : Place) (meant : Option Id) (hs : List Id) : Short ls → (∀ i, Short (woHeads (withNew ls id pl none meant) (hs.take i))) → AftR ls (.write id pl none meant hs) (woHeads (withNew ls id pl none meant) hs)
  | text (id : Id) (pl : Place) (c : Ct) (meant : Option Id) (hs : List Id) : Short ls → hs.length ≤ 1000 → (∀ i, Short (woHeads (textIn ls id pl (some c) meant hs) ((hs.filter fun h => !decide (h = id)).take i))) → AftR ls (.write id pl (some c) meant hs) (afterText ls id pl (some c) meant hs)
inductive FoldR : List Line → List Edit → List Line → Prop where
  | nil (ls : List Line) : FoldR ls [] ls
  | cons {ls ls1 ls2 : List Line} {e : Edit} {es : List Edit} : AftR ls e ls1 → FoldR ls1 es ls2 → FoldR ls (e :: es) ls2
theorem flt_all {α : Type} (l : List α) : l.filter (fun _ => true) = l := List.filter_eq_self.mpr fun _ _ => rfl
end Ln
namespace Ln
open PySem L2 Lw
structure OkW (ls : List Line) (U : List Id) (r : Id → Nat) (S : Id → List Id) : Prop where
  nd : (ls.map (·.id)).Nodup
  hnd : (ls.map (·.hd)).Nodup
  fol : ∀ l ∈ ls, l.ct = none → l.hd = l.id
  idU : ∀ l ∈ ls, l.id ∈ U ∧ l.hd ∈ U
  up : ∀ l ∈ ls, ∀ i, l.ins = some i → ∃ f ∈ ls, f.id = i ∧ f.ct = none ∧ r i < r l.id
  len : ∀ l ∈ ls, 1 ≤ l.path.length ∧ l.path.length ≤ 3 * ((S l.id).length + 1)
  snd : ∀ l ∈ ls, (S l.id).Nodup
  gone : ∀ l ∈ ls, ∀ x ∈ S l.id, x ∈ U ∧ ∀ k ∈ ls, k.id ≠ x
  sib : ∀ k ∈ ls, ∀ l ∈ ls, k.id ≠ l.id → ∀ x, x ∈ S k.id → x ∈ S l.id → k.ins = l.ins
theorem nodup_inj {α β : Type} {f : α → β} : ∀ {l : List α}, (l.map f).Nodup → ∀ a ∈ l, ∀ b ∈ l, f a = f b → a = b
  | [], _, a, ha, _, _, _ => by cases ha
  | x :: l, h, a, ha, b, hb, e => by
    rw [List.map_cons, List.nodup_cons] at h
    rcases List.mem_cons.mp ha with h1 | h1
    · rcases List.mem_cons.mp hb with h2 | h2
      · rw [h1, h2]
      · rw [h1] at e
        exact absurd (List.mem_map.mpr ⟨b, h2, e.symm⟩) h.1
    · rcases List.mem_cons.mp hb with h2 | h2
      · rw [h2] at e
        exact absurd (List.mem_map.mpr ⟨a, h1, e⟩) h.1
      · exact nodup_inj h.2 a h1 b h2 e
theorem nodup_sub {α : Type} [DecidableEq α] : ∀ {l u : List α}, l.Nodup → (∀ x ∈ l, x ∈ u) → l.length ≤ u.length
  | [], _, _, _ => Nat.zero_le _
  | x :: l, u, h, hs => by
    rw [List.nodup_cons] at h
    have hx := hs x (List.mem_cons_self ..)
    have h1 := nodup_sub (l := l) (u := u.erase x) h.2 fun y hy => (List.mem_erase_of_ne (fun e => h.1 (by rw [← e]; exact hy))).mpr (hs y (List.mem_cons_of_mem _ hy))
    rw [List.length_erase_of_mem hx] at h1
    have : 0 < u.length := List.length_pos_of_mem hx
    rw [List.length_cons]
    omega
section
variable {ls : List Line} {U : List Id} {r : Id → Nat} {S : Id → List Id}
theorem OkW.find (h : OkW ls U r S) {l : Line} (hl : l ∈ ls) : findLine ls (some l.id) = some l := by
  unfold findLine
  cases hf : ls.find? fun k => decide (some k.id = some l.id) with
  | none =>
    have := List.find?_eq_none.mp hf l hl
    simp at this
  | some k =>
    have h1 := List.mem_of_find?_eq_some hf
    have h2 := List.find?_some hf
    rw [nodup_inj h.nd k h1 l hl (Option.some.inj (of_decide_eq_true h2))]
theorem find_mem {o : Option Id} {l : Line} (h : findLine ls o = some l) : l ∈ ls ∧ o = some l.id := by
  unfold findLine at h
  have h2 := List.find?_some h
  exact ⟨List.mem_of_find?_eq_some h, (of_decide_eq_true h2).symm⟩
theorem findH_mem {o : Option Id} {l : Line} (h : findHead ls o = some l) : l ∈ ls ∧ o = some l.hd := by
  unfold findHead at h
  have h2 := List.find?_some h
  exact ⟨List.mem_of_find?_eq_some h, (of_decide_eq_true h2).symm⟩
def InLs (ls : List Line) (o : Option Id) : Prop := ∀ i, o = some i → ∃ f ∈ ls, f.id = i
theorem OkW.ins (h : OkW ls U r S) {l : Line} (hl : l ∈ ls) : InLs ls l.ins := fun i e => let ⟨f, h1, h2, _⟩ := h.up l hl i e; ⟨f, h1, h2⟩
theorem OkW.sin (h : OkW ls U r S) (x : Id) : ∀ (k : Nat) (o : Option Id), InLs ls o → (∀ i, o = some i → r i < k) → ∃ n b, SIn ls x n o b
  | _, none, _, _ => ⟨0, false, .root⟩
  | 0, some i, _, hk => absurd (hk i rfl) (Nat.not_lt_zero _)
  | k + 1, some i, ho, hk => by
    by_cases e : i = x
    · rw [e]
      exact ⟨0, true, .hit⟩
    · obtain ⟨f, hf, rfl⟩ := ho i rfl
      obtain ⟨n, b, hs⟩ := OkW.sin h x k f.ins (h.ins hf) fun j hj => by
        obtain ⟨g, _, rfl, _, hlt⟩ := h.up f hf j hj
        have := hk f.id rfl
        omega
      exact ⟨n + 1, b, .up e (h.find hf) hs⟩
theorem OkW.sin_any (h : OkW ls U r S) (x : Id) {o : Option Id} (ho : InLs ls o) : ∃ n b, SIn ls x n o b := by
  cases o with
  | none => exact ⟨0, false, .root⟩
  | some i => exact h.sin x (r i + 1) (some i) ho fun j hj => by cases hj; exact Nat.lt_succ_self _
theorem sin_one {x : Id} : ∀ {n : Nat} {o : Option Id} {b : Bool}, SIn ls x n o b → ∀ {m : Nat} {c : Bool}, SIn ls x m o c → b = c := by
  intro n o b h
  induction h with
  | root =>
    intro m c k
    cases k
    rfl
  | hit =>
    intro m c k
    cases k with
    | hit => rfl
    | up hne _ _ => exact absurd rfl hne
  | up hne hf hs ih =>
    intro m c k
    cases k with
    | hit => exact absurd rfl hne
    | up _ hf' hs' =>
      rw [hf] at hf'
      cases hf'
      exact ih hs'
theorem mem_wo {e k : Line} : k ∈ woLine ls e ↔ ∃ l ∈ ls, (l.ins = some e.id ∧ k = { l with ins := e.ins, path := e.path ++ l.path }) ∨ (l.ins ≠ some e.id ∧ l.id ≠ e.id ∧ k = l) := by
  unfold woLine
  rw [List.mem_flatMap]
  constructor
  · rintro ⟨l, hl, hk⟩
    by_cases h1 : l.ins = some e.id
    · rw [if_pos h1] at hk
      exact ⟨l, hl, .inl ⟨h1, List.mem_singleton.mp hk⟩⟩
    · rw [if_neg h1] at hk
      by_cases h2 : l.id ≠ e.id
      · rw [if_pos h2] at hk
        exact ⟨l, hl, .inr ⟨h1, h2, List.mem_singleton.mp hk⟩⟩
      · rw [if_neg h2] at hk
        cases hk
  · rintro ⟨l, hl, ⟨h1, rfl⟩ | ⟨h1, h2, rfl⟩⟩
    · exact ⟨l, hl, by rw [if_pos h1]; exact List.mem_singleton_self _⟩
    · exact ⟨k, hl, by rw [if_neg h1, if_pos h2]; exact List.mem_singleton_self _⟩
theorem wo_map {β : Type} (f : Line → β) (e : Line) (hf : ∀ (l : Line) (o : Option Id) (p : List Str), f { l with ins := o, path := p } = f l) (h0 : ∀ l ∈ ls, l.ins = some e.id → l.id ≠ e.id) : (woLine ls e).map f = (ls.filter fun l => !decide (l.id = e.id)).map f := by
  unfold woLine
  induction ls with
  | nil => rfl
  | cons l ls ih =>
    have ih := ih fun k hk => h0 k (List.mem_cons_of_mem _ hk)
    rw [List.flatMap_cons, List.map_append, ih]
    by_cases h1 : l.ins = some e.id
    · have h2 := h0 l (List.mem_cons_self ..) h1
      rw [if_pos h1, List.filter_cons_of_pos (by rw [decide_eq_false h2]; rfl), List.map_cons]
      show [f _] ++ _ = _
      rw [hf]
      rfl
    · by_cases h2 : l.id = e.id
      · rw [if_neg h1, if_neg (fun h => h h2), List.filter_cons_of_neg (by rw [decide_eq_true h2]; decide)]
        rfl
      · rw [if_neg h1, if_pos h2, List.filter_cons_of_pos (by rw [decide_eq_false h2]; rfl), List.map_cons]
        rfl
theorem OkW.not_self (h : OkW ls U r S) {l : Line} (hl : l ∈ ls) : l.ins ≠ some l.id := fun e => by
  obtain ⟨f, _, _, _, hlt⟩ := h.up l hl l.id e
  omega
theorem OkW.wo (h : OkW ls U r S) {e : Line} (he : e ∈ ls) : ∃ S', OkW (woLine ls e) U r S' := by
  have hns : ∀ l ∈ ls, l.ins = some e.id → l.id ≠ e.id := fun l hl h1 h2 => by
    have : l = e := nodup_inj h.nd l hl e he h2
    rw [this] at h1
    exact h.not_self he h1
  classical
  let S' : Id → List Id := fun x => if ∃ l ∈ ls, l.id = x ∧ l.ins = some e.id then e.id :: (S e.id ++ S x) else S x
  have s1 : ∀ l ∈ ls, l.ins = some e.id → S' l.id = e.id :: (S e.id ++ S l.id) := fun l hl h1 => if_pos ⟨l, hl, rfl, h1⟩
  have s2 : ∀ l ∈ ls, l.ins ≠ some e.id → S' l.id = S l.id := fun l hl h1 => if_neg fun ⟨k, hk, h2, h3⟩ => h1 (by rw [← nodup_inj h.nd k hk l hl h2]; exact h3)
  have dj : ∀ l ∈ ls, l.ins = some e.id → ∀ x, x ∈ S e.id → x ∈ S l.id → False := fun l hl h1 x hx1 hx2 => by
    have h2 := h.sib e he l hl (fun z => hns l hl h1 z.symm) x hx1 hx2
    rw [h1] at h2
    exact h.not_self he h2
  refine ⟨S', ?_, ?_, ?_, ?_, ?_, ?_, ?_, ?_, ?_⟩
  · rw [wo_map (·.id) e (fun _ _ _ => rfl) hns]
    exact (List.filter_sublist.map _).nodup h.nd
  · rw [wo_map (·.hd) e (fun _ _ _ => rfl) hns]
    exact (List.filter_sublist.map _).nodup h.hnd
  · intro k hk hc
    obtain ⟨l, hl, ⟨_, rfl⟩ | ⟨_, _, rfl⟩⟩ := mem_wo.mp hk
    · exact h.fol l hl hc
    · exact h.fol k hl hc
  · intro k hk
    obtain ⟨l, hl, ⟨_, rfl⟩ | ⟨_, _, rfl⟩⟩ := mem_wo.mp hk
    · exact h.idU l hl
    · exact h.idU k hl
  · -- the way up
    have stay : ∀ f ∈ ls, f.id ≠ e.id → f.ct = none → ∃ g ∈ woLine ls e, g.id = f.id ∧ g.ct = none := fun f hf h1 h2 => by
      by_cases h3 : f.ins = some e.id
      · exact ⟨_, mem_wo.mpr ⟨f, hf, .inl ⟨h3, rfl⟩⟩, rfl, h2⟩
      · exact ⟨f, mem_wo.mpr ⟨f, hf, .inr ⟨h3, h1, rfl⟩⟩, rfl, h2⟩
    intro k hk i hi
    obtain ⟨l, hl, ⟨h1, rfl⟩ | ⟨h1, h2, rfl⟩⟩ := mem_wo.mp hk
    · obtain ⟨f, hf, rfl, h3, h4⟩ := h.up e he i hi
      obtain ⟨_, _, _, _, h5⟩ := h.up l hl e.id h1
      obtain ⟨g, g1, g2, g3⟩ := stay f hf (fun z => by rw [z] at h4; omega) h3
      exact ⟨g, g1, g2, g3, Nat.lt_trans h4 h5⟩
    · obtain ⟨f, hf, rfl, h3, h4⟩ := h.up k hl i hi
      obtain ⟨g, g1, g2, g3⟩ := stay f hf (fun z => h1 (by rw [hi, z])) h3
      exact ⟨g, g1, g2, g3, h4⟩
  · intro k hk
    obtain ⟨l, hl, ⟨h1, rfl⟩ | ⟨h1, h2, rfl⟩⟩ := mem_wo.mp hk
    · have a1 := h.len l hl
      have a2 := h.len e he
      show 1 ≤ (e.path ++ l.path).length ∧ (e.path ++ l.path).length ≤ 3 * ((S' l.id).length + 1)
      rw [s1 l hl h1, List.length_cons, List.length_append, List.length_append]
      omega
    · rw [s2 k hl h1]
      exact h.len k hl
  · intro k hk
    obtain ⟨l, hl, ⟨h1, rfl⟩ | ⟨h1, h2, rfl⟩⟩ := mem_wo.mp hk
    · show (S' l.id).Nodup
      rw [s1 l hl h1, List.nodup_cons, List.mem_append, List.nodup_append]
      refine ⟨?_, h.snd e he, h.snd l hl, fun a ha b hb z => dj l hl h1 a ha (z ▸ hb)⟩
      rintro (z | z)
      · exact (h.gone e he _ z).2 e he rfl
      · exact (h.gone l hl _ z).2 e he rfl
    · rw [s2 k hl h1]
      exact h.snd k hl
  · -- ended ids
    have old : ∀ x, x ∈ U → (∀ k ∈ ls, k.id ≠ x) → x ∈ U ∧ ∀ k ∈ woLine ls e, k.id ≠ x := fun x hu hx => ⟨hu, fun k hk => by
      obtain ⟨l, hl, ⟨_, rfl⟩ | ⟨_, _, rfl⟩⟩ := mem_wo.mp hk
      · exact hx l hl
      · exact hx k hl⟩
    intro k hk x hx
    obtain ⟨l, hl, ⟨h1, rfl⟩ | ⟨h1, h2, rfl⟩⟩ := mem_wo.mp hk
    · have hx' : x ∈ S' l.id := hx
      rw [s1 l hl h1, List.mem_cons, List.mem_append] at hx'
      rcases hx' with rfl | hx' | hx'
      · refine ⟨(h.idU e he).1, fun k hk => ?_⟩
        obtain ⟨m, hm, ⟨h5, rfl⟩ | ⟨_, h6, rfl⟩⟩ := mem_wo.mp hk
        · exact hns m hm h5
        · exact h6
      · exact old x (h.gone e he x hx').1 (h.gone e he x hx').2
      · exact old x (h.gone l hl x hx').1 (h.gone l hl x hx').2
    · rw [s2 k hl h1] at hx
      exact old x (h.gone k hl x hx).1 (h.gone k hl x hx).2
  · -- side by side
    have one : ∀ l ∈ ls, l.ins = some e.id → ∀ m ∈ ls, m.ins ≠ some e.id → m.id ≠ e.id → ∀ x, x ∈ S' l.id → x ∈ S m.id → e.ins = m.ins := fun l hl h1 m hm h3 h4 x hx1 hx2 => by
      rw [s1 l hl h1, List.mem_cons, List.mem_append] at hx1
      rcases hx1 with rfl | hx1 | hx1
      · exact absurd rfl ((h.gone m hm _ hx2).2 e he)
      · exact h.sib e he m hm (fun z => h4 z.symm) x hx1 hx2
      · have hne : l.id ≠ m.id := fun z => h3 (by rw [← nodup_inj h.nd l hl m hm z]; exact h1)
        have := h.sib l hl m hm hne x hx1 hx2
        rw [h1] at this
        exact absurd this.symm h3
    intro k hk k' hk' hne x hx hx'
    obtain ⟨l, hl, ⟨h1, rfl⟩ | ⟨h1, h2, rfl⟩⟩ := mem_wo.mp hk
    · obtain ⟨m, hm, ⟨h3, rfl⟩ | ⟨h3, h4, rfl⟩⟩ := mem_wo.mp hk'
      · rfl
      · rw [s2 k' hm h3] at hx'
        exact one l hl h1 k' hm h3 h4 x hx hx'
    · rw [s2 k hl h1] at hx
      obtain ⟨m, hm, ⟨h3, rfl⟩ | ⟨h3, h4, rfl⟩⟩ := mem_wo.mp hk'
      · exact (one m hm h3 k hl h1 h2 x hx' hx).symm
      · rw [s2 k' hm h3] at hx'
        exact h.sib k hl k' hm hne x hx hx'
def upR (r : Id → Nat) : Option Id → Nat
  | some i => r i + 1
  | none => 0
def Fol (ls : List Line) (o : Option Id) : Prop := ∀ i, o = some i → ∃ f ∈ ls, f.id = i ∧ f.ct = none
theorem OkW.add (h : OkW ls U r S) {id : Id} (hid : id ∉ U) {o : Option Id} {p : List Str} {T : List Id} (ct : Option Ct) (ho : Fol ls o) (hp : 1 ≤ p.length ∧ p.length ≤ 3 * (T.length + 1)) (hT : T.Nodup)
    (hg : ∀ x ∈ T, x ∈ U ∧ ∀ k ∈ ls, k.id ≠ x) (hs : ∀ k ∈ ls, ∀ x, x ∈ S k.id → x ∈ T → k.ins = o) : ∃ r' S', OkW (ls ++ [⟨id, id, o, p, ct⟩]) (id :: U) r' S' := by
  have hne : ∀ l ∈ ls, l.id ≠ id := fun l hl e => hid (e ▸ (h.idU l hl).1)
  have hnh : ∀ l ∈ ls, l.hd ≠ id := fun l hl e => hid (e ▸ (h.idU l hl).2)
  refine ⟨fun x => if x = id then upR r o else r x, fun x => if x = id then T else S x, ?_, ?_, ?_, ?_, ?_, ?_, ?_, ?_, ?_⟩
  · rw [List.map_append, List.nodup_append]
    refine ⟨h.nd, by simp, fun a ha b hb => ?_⟩
    obtain ⟨l, hl, rfl⟩ := List.mem_map.mp ha
    rw [List.mem_singleton.mp hb]
    exact hne l hl
  · rw [List.map_append, List.nodup_append]
    refine ⟨h.hnd, by simp, fun a ha b hb => ?_⟩
    obtain ⟨l, hl, rfl⟩ := List.mem_map.mp ha
    rw [List.mem_singleton.mp hb]
    exact hnh l hl
  · intro l hl hc
    rcases List.mem_append.mp hl with hl | hl
    · exact h.fol l hl hc
    · rw [List.mem_singleton.mp hl]
  · intro l hl
    rcases List.mem_append.mp hl with hl | hl
    · exact ⟨List.mem_cons_of_mem _ (h.idU l hl).1, List.mem_cons_of_mem _ (h.idU l hl).2⟩
    · rw [List.mem_singleton.mp hl]
      exact ⟨List.mem_cons_self .., List.mem_cons_self ..⟩
  · intro l hl i hi
    rcases List.mem_append.mp hl with hl | hl
    · obtain ⟨f, hf, rfl, h1, h2⟩ := h.up l hl i hi
      refine ⟨f, List.mem_append_left _ hf, rfl, h1, ?_⟩
      show (if f.id = id then _ else r f.id) < if l.id = id then _ else r l.id
      rw [if_neg (hne f hf), if_neg (hne l hl)]
      exact h2
    · obtain rfl := List.mem_singleton.mp hl
      obtain ⟨f, hf, rfl, h1⟩ := ho i hi
      refine ⟨f, List.mem_append_left _ hf, rfl, h1, ?_⟩
      have hi' : o = some f.id := hi
      show (if f.id = id then _ else r f.id) < if id = id then _ else _
      rw [if_neg (hne f hf), if_pos rfl, hi']
      exact Nat.lt_succ_self _
  · intro l hl
    rcases List.mem_append.mp hl with hl | hl
    · show 1 ≤ l.path.length ∧ l.path.length ≤ 3 * ((if l.id = id then T else S l.id).length + 1)
      rw [if_neg (hne l hl)]
      exact h.len l hl
    · obtain rfl := List.mem_singleton.mp hl
      show 1 ≤ p.length ∧ p.length ≤ 3 * ((if id = id then T else S id).length + 1)
      rw [if_pos rfl]
      exact hp
  · intro l hl
    rcases List.mem_append.mp hl with hl | hl
    · show (if l.id = id then T else S l.id).Nodup
      rw [if_neg (hne l hl)]
      exact h.snd l hl
    · obtain rfl := List.mem_singleton.mp hl
      show (if id = id then T else S id).Nodup
      rw [if_pos rfl]
      exact hT
  · have all : ∀ x, x ∈ U → (∀ k ∈ ls, k.id ≠ x) → x ∈ id :: U ∧ ∀ k ∈ ls ++ [(⟨id, id, o, p, ct⟩ : Line)], k.id ≠ x := fun x hx hk => ⟨List.mem_cons_of_mem _ hx, fun k hk' => by
      rcases List.mem_append.mp hk' with h1 | h1
      · exact hk k h1
      · rw [List.mem_singleton.mp h1]
        exact fun e => hid (by have e' : id = x := e; rw [e']; exact hx)⟩
    intro l hl x hx
    rcases List.mem_append.mp hl with hl | hl
    · have hx' : x ∈ if l.id = id then T else S l.id := hx
      rw [if_neg (hne l hl)] at hx'
      exact all x (h.gone l hl x hx').1 (h.gone l hl x hx').2
    · obtain rfl := List.mem_singleton.mp hl
      have hx' : x ∈ if id = id then T else S id := hx
      rw [if_pos rfl] at hx'
      exact all x (hg x hx').1 (hg x hx').2
  · intro k hk l hl hn x hx hx'
    have hx1 : x ∈ if k.id = id then T else S k.id := hx
    have hx2 : x ∈ if l.id = id then T else S l.id := hx'
    rcases List.mem_append.mp hk with hk | hk
    · rw [if_neg (hne k hk)] at hx1
      rcases List.mem_append.mp hl with hl | hl
      · rw [if_neg (hne l hl)] at hx2
        exact h.sib k hk l hl hn x hx1 hx2
      · obtain rfl := List.mem_singleton.mp hl
        rw [if_pos rfl] at hx2
        exact hs k hk x hx1 hx2
    · obtain rfl := List.mem_singleton.mp hk
      rw [if_pos rfl] at hx1
      rcases List.mem_append.mp hl with hl | hl
      · rw [if_neg (hne l hl)] at hx2
        exact (hs l hl x hx2 hx1).symm
      · obtain rfl := List.mem_singleton.mp hl
        exact absurd rfl hn
def textOn (ls : List Line) (c : Line) (id : Id) (ct : Option Ct) : List Line := ls.map fun k => if k.id = c.id then ⟨c.id, id, c.ins, c.path, ct⟩ else k
theorem OkW.text (h : OkW ls U r S) {c : Line} (hc : c ∈ ls) (hct : c.ct ≠ none) {id : Id} (hid : id ∉ U) (ct : Ct) : OkW (textOn ls c id (some ct)) (id :: U) r S := by
  have mem : ∀ {k : Line}, k ∈ textOn ls c id (some ct) → ∃ l ∈ ls, k.id = l.id ∧ k.ins = l.ins ∧ k.path = l.path ∧ ((l = c ∧ k.hd = id ∧ k.ct = some ct) ∨ (l ≠ c ∧ k = l)) := fun {k} hk => by
    obtain ⟨l, hl, rfl⟩ := List.mem_map.mp hk
    by_cases e : l.id = c.id
    · rw [if_pos e]
      have := nodup_inj h.nd l hl c hc e
      subst this
      exact ⟨l, hl, rfl, rfl, rfl, .inl ⟨rfl, rfl, rfl⟩⟩
    · rw [if_neg e]
      exact ⟨l, hl, rfl, rfl, rfl, .inr ⟨fun z => e (by rw [z]), rfl⟩⟩
  have ids : (textOn ls c id (some ct)).map (·.id) = ls.map (·.id) := by
    unfold textOn
    rw [List.map_map]
    refine List.map_congr_left fun l _ => ?_
    show (if l.id = c.id then (⟨c.id, id, c.ins, c.path, some ct⟩ : Line) else l).id = l.id
    split
    · next e => exact e.symm
    · rfl
  refine ⟨by rw [ids]; exact h.nd, ?_, ?_, ?_, ?_, ?_, ?_, ?_, ?_⟩
  · -- heads
    have hnh : ∀ l ∈ ls, l.hd ≠ id := fun l hl e => hid (e ▸ (h.idU l hl).2)
    have key : ∀ m : List Line, (∀ l ∈ m, l ∈ ls) → (m.map (·.id)).Nodup → (m.map (·.hd)).Nodup → ((textOn m c id (some ct)).map (·.hd)).Nodup := by
      intro m
      induction m with
      | nil => intro _ _ _; exact List.nodup_nil
      | cons l m ih =>
        intro hm h1 h2
        rw [List.map_cons, List.nodup_cons] at h1 h2
        unfold textOn
        rw [List.map_cons, List.map_cons, List.nodup_cons]
        refine ⟨fun hx => ?_, ih (fun k hk => hm k (List.mem_cons_of_mem _ hk)) h1.2 h2.2⟩
        obtain ⟨k, hk, e⟩ := List.mem_map.mp hx
        obtain ⟨k0, hk0, rfl⟩ := List.mem_map.mp hk
        have hk0' := hm k0 (List.mem_cons_of_mem _ hk0)
        have hl' := hm l (List.mem_cons_self ..)
        by_cases e1 : k0.id = c.id
        · by_cases e2 : l.id = c.id
          · exact h1.1 (List.mem_map.mpr ⟨k0, hk0, e1.trans e2.symm⟩)
          · rw [if_pos e1, if_neg e2] at e
            exact hnh l hl' e.symm
        · by_cases e2 : l.id = c.id
          · rw [if_neg e1, if_pos e2] at e
            exact hnh k0 hk0' e
          · rw [if_neg e1, if_neg e2] at e
            exact h2.1 (List.mem_map.mpr ⟨k0, hk0, e⟩)
    exact key ls (fun _ hl => hl) h.nd h.hnd
  · intro k hk hk2
    obtain ⟨l, hl, h1, h2, h3, ⟨rfl, h4, h5⟩ | ⟨h4, rfl⟩⟩ := mem hk
    · rw [h5] at hk2
      cases hk2
    · exact h.fol k hl hk2
  · intro k hk
    obtain ⟨l, hl, h1, h2, h3, ⟨rfl, h4, h5⟩ | ⟨h4, rfl⟩⟩ := mem hk
    · rw [h1, h4]
      exact ⟨List.mem_cons_of_mem _ (h.idU l hl).1, List.mem_cons_self ..⟩
    · exact ⟨List.mem_cons_of_mem _ (h.idU k hl).1, List.mem_cons_of_mem _ (h.idU k hl).2⟩
  · intro k hk i hi
    obtain ⟨l, hl, h1, h2, h3, _⟩ := mem hk
    rw [h2] at hi
    obtain ⟨f, hf, rfl, h5, h6⟩ := h.up l hl i hi
    have hfc : f.id ≠ c.id := fun e => hct (by rw [← nodup_inj h.nd f hf c hc e]; exact h5)
    exact ⟨f, List.mem_map.mpr ⟨f, hf, if_neg hfc⟩, rfl, h5, by rw [h1]; exact h6⟩
  · intro k hk
    obtain ⟨l, hl, h1, h2, h3, _⟩ := mem hk
    rw [h1, h3]
    exact h.len l hl
  · intro k hk
    obtain ⟨l, hl, h1, _⟩ := mem hk
    rw [h1]
    exact h.snd l hl
  · intro k hk x hx
    obtain ⟨l, hl, h1, _⟩ := mem hk
    rw [h1] at hx
    refine ⟨List.mem_cons_of_mem _ (h.gone l hl x hx).1, fun m hm => ?_⟩
    obtain ⟨n, hn, h5, _⟩ := mem hm
    rw [h5]
    exact (h.gone l hl x hx).2 n hn
  · intro k hk l hl hne x hx hx'
    obtain ⟨k0, hk0, h1, h2, _⟩ := mem hk
    obtain ⟨l0, hl0, h3, h4, _⟩ := mem hl
    rw [h1] at hx hne
    rw [h3] at hx' hne
    rw [h2, h4]
    exact h.sib k0 hk0 l0 hl0 hne x hx hx'
theorem OkW.mv (h : OkW ls U r S) {l : Line} (hl : l ∈ ls) {o : Option Id} {p : List Str} (ho : Fol ls o) (hp : 1 ≤ p.length ∧ p.length ≤ 3) {n : Nat} (hs : SIn ls l.id n o false) : ∃ r' S', OkW (mvTo ls l (o, p)) U r' S' := by
  classical
  let De : Id → Prop := fun x => ∃ n, SIn ls l.id n (some x) true
  let up : Nat := upR r o
  have dl : De l.id := ⟨0, .hit⟩
  have mem : ∀ {k : Line}, k ∈ mvTo ls l (o, p) → (k = ⟨l.id, l.hd, o, p, l.ct⟩) ∨ (k ∈ ls ∧ k.id ≠ l.id) := fun {k} hk => by
    obtain ⟨m, hm, rfl⟩ := List.mem_map.mp hk
    by_cases e : m.id = l.id
    · rw [if_pos e]
      exact .inl rfl
    · rw [if_neg e]
      exact .inr ⟨hm, e⟩
  have low : ∀ {k : Line}, k ∈ mvTo ls l (o, p) → ∃ m ∈ ls, k.id = m.id ∧ k.hd = m.hd ∧ k.ct = m.ct := fun {k} hk => by
    rcases mem hk with rfl | ⟨h1, _⟩
    · exact ⟨l, hl, rfl, rfl, rfl⟩
    · exact ⟨k, h1, rfl, rfl, rfl⟩
  have stay : ∀ f ∈ ls, f.ct = none → ∃ g ∈ mvTo ls l (o, p), g.id = f.id ∧ g.ct = none := fun f hf h1 => by
    by_cases e : f.id = l.id
    · refine ⟨⟨l.id, l.hd, o, p, l.ct⟩, List.mem_map.mpr ⟨f, hf, if_pos e⟩, e.symm, ?_⟩
      rw [← nodup_inj h.nd f hf l hl e]
      exact h1
    · exact ⟨f, List.mem_map.mpr ⟨f, hf, if_neg e⟩, rfl, h1⟩
  have eqs : ∀ {β : Type} (g : Line → β), g ⟨l.id, l.hd, o, p, l.ct⟩ = g l → (mvTo ls l (o, p)).map g = ls.map g := fun {β} g hg => by
    unfold mvTo
    rw [List.map_map]
    refine List.map_congr_left fun m hm => ?_
    show g (if m.id = l.id then _ else m) = g m
    by_cases e : m.id = l.id
    · rw [if_pos e, nodup_inj h.nd m hm l hl e]
      exact hg
    · rw [if_neg e]
  refine ⟨fun x => if De x then r x + up else r x, fun x => if x = l.id then [] else S x, ?_, ?_, ?_, ?_, ?_, ?_, ?_, ?_, ?_⟩
  · rw [eqs (·.id) rfl]
    exact h.nd
  · rw [eqs (·.hd) rfl]
    exact h.hnd
  · intro k hk hc
    obtain ⟨m, hm, h1, h2, h3⟩ := low hk
    rw [h1, h2]
    exact h.fol m hm (h3 ▸ hc)
  · intro k hk
    obtain ⟨m, hm, h1, h2, h3⟩ := low hk
    rw [h1, h2]
    exact h.idU m hm
  · intro k hk i hi
    rcases mem hk with rfl | ⟨h1, h2⟩
    · have hi' : o = some i := hi
      obtain ⟨f, hf, rfl, h3⟩ := ho i hi'
      obtain ⟨g, g1, g2, g3⟩ := stay f hf h3
      refine ⟨g, g1, g2, g3, ?_⟩
      have nd : ¬ De f.id := fun ⟨m, hm⟩ => by
        rw [hi'] at hs
        exact absurd (sin_one hs hm) (by decide)
      show (if De f.id then _ else r f.id) < if De l.id then r l.id + up else _
      rw [if_neg nd, if_pos dl]
      have : up = r f.id + 1 := by
        show upR r o = _
        rw [hi']
        rfl
      omega
    · obtain ⟨f, hf, rfl, h3, h4⟩ := h.up k h1 i hi
      obtain ⟨g, g1, g2, g3⟩ := stay f hf h3
      refine ⟨g, g1, g2, g3, ?_⟩
      have go : De f.id → De k.id := fun ⟨m, hm⟩ => ⟨m + 1, .up h2 (h.find h1) (by rw [hi]; exact hm)⟩
      show (if De f.id then r f.id + up else r f.id) < if De k.id then r k.id + up else r k.id
      by_cases d1 : De f.id
      · rw [if_pos d1, if_pos (go d1)]
        omega
      · rw [if_neg d1]
        split <;> omega
  · intro k hk
    rcases mem hk with rfl | ⟨h1, h2⟩
    · show 1 ≤ p.length ∧ p.length ≤ 3 * ((if l.id = l.id then [] else S l.id).length + 1)
      rw [if_pos rfl]
      exact ⟨hp.1, by show p.length ≤ 3 * (0 + 1); omega⟩
    · show 1 ≤ k.path.length ∧ k.path.length ≤ 3 * ((if k.id = l.id then [] else S k.id).length + 1)
      rw [if_neg h2]
      exact h.len k h1
  · intro k hk
    rcases mem hk with rfl | ⟨h1, h2⟩
    · show (if l.id = l.id then [] else S l.id).Nodup
      rw [if_pos rfl]
      exact List.nodup_nil
    · show (if k.id = l.id then [] else S k.id).Nodup
      rw [if_neg h2]
      exact h.snd k h1
  · intro k hk x hx
    rcases mem hk with rfl | ⟨h1, h2⟩
    · have hx' : x ∈ if l.id = l.id then [] else S l.id := hx
      rw [if_pos rfl] at hx'
      cases hx'
    · have hx' : x ∈ if k.id = l.id then [] else S k.id := hx
      rw [if_neg h2] at hx'
      refine ⟨(h.gone k h1 x hx').1, fun m hm => ?_⟩
      obtain ⟨m0, hm0, h3, _⟩ := low hm
      rw [h3]
      exact (h.gone k h1 x hx').2 m0 hm0
  · intro k hk m hm hne x hx hx'
    rcases mem hk with rfl | ⟨h1, h2⟩
    · have hx1 : x ∈ if l.id = l.id then [] else S l.id := hx
      rw [if_pos rfl] at hx1
      cases hx1
    · have hx1 : x ∈ if k.id = l.id then [] else S k.id := hx
      rw [if_neg h2] at hx1
      rcases mem hm with rfl | ⟨h3, h4⟩
      · have hx2 : x ∈ if l.id = l.id then [] else S l.id := hx'
        rw [if_pos rfl] at hx2
        cases hx2
      · have hx2 : x ∈ if m.id = l.id then [] else S m.id := hx'
        rw [if_neg h4] at hx2
        exact h.sib k h1 m h3 hne x hx1 hx2
def Ok (ls : List Line) (U : List Id) : Prop := ∃ r S, OkW ls U r S
def GoodPl (pl : Place) : Prop := (1 ≤ pl.2.1.length ∧ pl.2.1.length ≤ 3) ∧ 1 ≤ pl.2.2.length ∧ pl.2.2.length ≤ 3
theorem settle_fol (ls : List Line) (pl : Place) : Fol ls (settleF ls pl).1 := fun i hi => by
  unfold settleF at hi
  cases hf : findLine ls pl.1 with
  | none => rw [hf] at hi; cases hi
  | some f =>
    rw [hf] at hi
    obtain ⟨h1, h2⟩ := find_mem hf
    by_cases hc : f.ct = none
    · have hi' : pl.1 = some i := by
        have : (if f.ct = none then (pl.1, pl.2.1) else (none, pl.2.2)).1 = some i := hi
        rw [if_pos hc] at this
        exact this
      rw [h2] at hi'
      exact ⟨f, h1, Option.some.inj hi', hc⟩
    · have : (if f.ct = none then (pl.1, pl.2.1) else (none, pl.2.2)).1 = some i := hi
      rw [if_neg hc] at this
      cases this
theorem settle_len (ls : List Line) {pl : Place} (h : GoodPl pl) : 1 ≤ (settleF ls pl).2.length ∧ (settleF ls pl).2.length ≤ 3 := by
  unfold settleF
  cases findLine ls pl.1 with
  | none => exact h.2
  | some f =>
    show 1 ≤ (if f.ct = none then (pl.1, pl.2.1) else (none, pl.2.2)).2.length ∧ (if f.ct = none then (pl.1, pl.2.1) else (none, pl.2.2)).2.length ≤ 3
    split
    · exact h.1
    · exact h.2
theorem Ok.head (h : Ok ls U) (x : Id) : Ok (woHead ls x) U := by
  unfold woHead
  cases hf : findHead ls (some x) with
  | none => exact h
  | some e =>
    obtain ⟨r, S, h⟩ := h
    obtain ⟨S', h'⟩ := h.wo (findH_mem hf).1
    exact ⟨r, S', h'⟩
theorem Ok.heads : ∀ (hs : List Id) {ls : List Line}, Ok ls U → Ok (woHeads ls hs) U
  | [], _, h => h
  | x :: hs, _, h => Ok.heads hs (h.head x)
theorem Ok.new (h : Ok ls U) {id : Id} (hid : id ∉ U) {pl : Place} (hp : GoodPl pl) (ct : Option Ct) (meant : Option Id) : Ok (withNew ls id pl ct meant) (id :: U) := by
  obtain ⟨r, S, h⟩ := h
  unfold withNew whereF
  cases hf : findLine ls meant with
  | none => exact h.add hid (T := []) ct (settle_fol ls pl) (by have := settle_len ls hp; simpa using this) List.nodup_nil (fun x hx => by cases hx) (fun _ _ x _ hx => by cases hx)
  | some m =>
    obtain ⟨h1, _⟩ := find_mem hf
    refine h.add hid (T := S m.id) ct (fun i hi => let ⟨f, a, b, c, _⟩ := h.up m h1 i hi; ⟨f, a, b, c⟩) (h.len m h1) (h.snd m h1) (h.gone m h1) fun k hk x hx1 hx2 => ?_
    by_cases e : k.id = m.id
    · rw [nodup_inj h.nd k hk m h1 e]
    · exact h.sib k hk m h1 e x hx1 hx2
theorem Ok.textIn (h : Ok ls U) {id : Id} (hid : id ∉ U) {pl : Place} (hp : GoodPl pl) (c : Ct) (meant : Option Id) (hs : List Id) : Ok (textIn ls id pl (some c) meant hs) (id :: U) := by
  unfold Ln.textIn
  cases hf : firstRep ls hs with
  | none => exact h.new hid hp _ _
  | some k =>
    obtain ⟨r, S, h⟩ := h
    unfold firstRep at hf
    have h1 := List.mem_of_find?_eq_some hf
    have h2 := List.find?_some hf
    rw [Bool.and_eq_true] at h2
    exact ⟨r, S, h.text h1 (fun e => by rw [e] at h2; cases h2.1) hid c⟩
theorem Ok.mv (h : Ok ls U) {m : Mv} (hm : GoodPl m.2.2) : ∃ ls', MvR ls m ls' ∧ Ok ls' U := by
  obtain ⟨r, S, h⟩ := h
  cases hf : meantBy ls m with
  | none => exact ⟨ls, .no hf, r, S, h⟩
  | some l =>
    have hl : l ∈ ls := by
      unfold meantBy at hf
      cases hh : findHead ls m.1 with
      | none =>
        rw [hh, Option.none_or] at hf
        exact (find_mem hf).1
      | some k =>
        rw [hh, Option.some_or] at hf
        cases hf
        exact (findH_mem hh).1
    have hfo := settle_fol ls m.2.2
    obtain ⟨n, b, hs⟩ := h.sin_any l.id (o := (settleF ls m.2.2).1) fun i hi => let ⟨f, a, b, _⟩ := hfo i hi; ⟨f, a, b⟩
    cases b with
    | true => exact ⟨ls, .ring hf hs, r, S, h⟩
    | false =>
      obtain ⟨r', S', h'⟩ := h.mv hl hfo (settle_len ls hm) hs
      exact ⟨_, .yes hf hs, r', S', h'⟩
def eId : Edit → Id
  | .write id .. => id
  | .drop id _ => id
  | .move id _ => id
end
end Ln
namespace Ln
open PySem PySem.Spec PyProof.Rows L2 Evl Lw
def namesD : List Str := [Str.ofString "a", Str.ofString "b", Str.ofString "c.txt", Str.ofString "d"]
def pathF (row most : Int) : List Str := (List.range (1 + row / 5 % most).toNat).map fun (j : Nat) => namesD.getD (row / (11 * (j : Int) + 3) % 4).toNat Str.empty
end Ln
namespace Ln
open PySem L2 Lw
section
variable {ls : List Line} {U : List Id} {r : Id → Nat} {S : Id → List Id}
theorem std_wo (h : OkW ls U r S) {e : Line} (he : e ∈ ls) {n : Nat} {o : Option Id} {p q : List Str} (hs : Std ls n o p q) : ∃ m, Std (woLine ls e) m (if o = some e.id then e.ins else o) (if o = some e.id then e.path ++ p else p) q := by
  obtain ⟨S', h'⟩ := h.wo he
  induction hs with
  | root p => exact ⟨0, .root p⟩
  | @up i f n p q hf hs ih =>
    obtain ⟨h1, h2⟩ := find_mem hf
    have h3 : i = f.id := Option.some.inj h2
    subst h3
    obtain ⟨m, ih⟩ := ih
    by_cases hi : f.id = e.id
    · have hfe := nodup_inj h.nd f h1 e he hi
      subst hfe
      rw [if_pos rfl, if_pos rfl]
      rw [if_neg (h.not_self h1), if_neg (h.not_self h1)] at ih
      exact ⟨m, ih⟩
    · rw [if_neg (fun z => hi (Option.some.inj z)), if_neg (fun z => hi (Option.some.inj z))]
      by_cases hfe : f.ins = some e.id
      · rw [if_pos hfe, if_pos hfe] at ih
        have hm : ({ f with ins := e.ins, path := e.path ++ f.path } : Line) ∈ woLine ls e := mem_wo.mpr ⟨f, h1, .inl ⟨hfe, rfl⟩⟩
        exact ⟨m + 1, Std.up (f := ({ f with ins := e.ins, path := e.path ++ f.path } : Line)) (h'.find hm) (by rw [← List.append_assoc] at ih; exact ih)⟩
      · rw [if_neg hfe, if_neg hfe] at ih
        have hm : f ∈ woLine ls e := mem_wo.mpr ⟨f, h1, .inr ⟨hfe, hi, rfl⟩⟩
        exact ⟨m + 1, .up (h'.find hm) ih⟩
def Stands (ls : List Line) (sp : Id → List Str) : Prop := ∀ l ∈ ls, ∃ n, Std ls n l.ins l.path (sp l.id)
theorem Stands.wo (h : OkW ls U r S) {e : Line} (he : e ∈ ls) {sp : Id → List Str} (hs : Stands ls sp) : Stands (woLine ls e) sp := fun k hk => by
  obtain ⟨l, hl, ⟨h1, rfl⟩ | ⟨h1, h2, rfl⟩⟩ := mem_wo.mp hk
  · obtain ⟨n, hn⟩ := hs l hl
    obtain ⟨m, hm⟩ := std_wo h he hn
    rw [if_pos h1, if_pos h1] at hm
    exact ⟨m, hm⟩
  · obtain ⟨n, hn⟩ := hs k hl
    obtain ⟨m, hm⟩ := std_wo h he hn
    rw [if_neg h1, if_neg h1] at hm
    exact ⟨m, hm⟩
end
end Ln
namespace Pw
open PySem PySem.Spec PyProof.Rows L2 Evl Lw
section
variable {K : PySem.W.Frag} {cl : Cl} {te ta tv : TE} {pe pa pv : PEx}
def Dfl (K : PySem.W.Frag) (cl : Cl) (d : D) (v : V) : Prop := ∀ (ρ : List Addr) (H : Hp), RelD K cl ρ H d v
theorem dfl_tup {t : Addr} {od : Option Addr} {n : Nat} {sl : Array (Option Value)} (h : K.lookup t = some ⟨.type "tuple", od, .seq #[] n, sl⟩) : Dfl K cl (.tup []) (.ref t) := fun ρ H => .tup (.inr ⟨_, _, _, h, rfl, rfl, by show 0 ≤ _; omega, .nil⟩) .nil
theorem dfl_tup1 {t : Addr} {od : Option Addr} {n : Nat} {sl : Array (Option Value)} {x : Str} {tk : Tok} (h : K.lookup t = some ⟨.type "tuple", od, .seq #[.str x tk] n, sl⟩) : Dfl K cl (.tup [.str x]) (.ref t) := fun ρ H => .tup (vs := [.str x]) (.inr ⟨_, _, _, h, rfl, rfl, by show 1 ≤ _; decide, .cons ⟨_, rfl⟩ .nil⟩) (.cons (.str _) .nil)
end
end Pw
namespace Le
open PySem PySem.Spec PyProof.Rows L2 Evl Lw Ln Pw
def eId (i : Id) : D := .tup [.int i.1, .int i.2]
def eOp {α : Type} (f : α → D) : Option α → D
  | none => .non
  | some a => f a
def ePath (p : List Str) : D := .tup (p.map D.str)
def eCt (c : Ct) : D := .tup [.int c.1, .int c.2.1, .int c.2.2.1, .bl c.2.2.2]
def eLn (l : Line) : D := .tup [eId l.id, eId l.hd, eOp eId l.ins, ePath l.path, eOp eCt l.ct]
def eLs (ls : List Line) : D := .lst (ls.map eLn)
def eIds (is : List Id) : D := .tup (is.map eId)
def ePl (p : Ln.Place) : D := .tup [eOp eId p.1, ePath p.2.1, ePath p.2.2]
theorem py_map {α : Type} {f : α → D} {g : α → PyData} (h : ∀ a, (f a).py = g a) : ∀ l : List α, pyAll (l.map f) = l.map g
  | [] => rfl
  | a :: l => by rw [List.map_cons, List.map_cons, pyAll, h a, py_map h l]
theorem py_id (i : Id) : (eId i).py = dId i := rfl
theorem py_oid (o : Option Id) : (eOp eId o).py = dOp dId o := by cases o <;> rfl
theorem py_oct (o : Option Ct) : (eOp eCt o).py = dOp dCt o := by cases o <;> rfl
theorem py_path (p : List Str) : (ePath p).py = dPath p := by
  show PyData.tuple (pyAll (p.map D.str)) = _
  rw [py_map (g := PyData.str) (fun _ => rfl)]
  rfl
theorem py_ln (l : Line) : (eLn l).py = dLn l := by
  show PyData.tuple [(eId l.id).py, (eId l.hd).py, (eOp eId l.ins).py, (ePath l.path).py, (eOp eCt l.ct).py] = _
  rw [py_id, py_id, py_oid, py_path, py_oct]
  rfl
theorem py_ls (ls : List Line) : (eLs ls).py = dLs ls := by
  show PyData.list (pyAll (ls.map eLn)) = _
  rw [py_map py_ln]
  rfl
theorem pureAll_map {α : Type} {f : α → D} (h : ∀ a, (f a).pure = true) : ∀ l : List α, pureAll (l.map f) = true
  | [] => rfl
  | a :: l => by rw [List.map_cons, pureAll, h a, pureAll_map h l]; rfl
theorem pu_id (i : Id) : (eId i).pure = true := rfl
theorem pu_oid (o : Option Id) : (eOp eId o).pure = true := by cases o <;> rfl
theorem pu_oct (o : Option Ct) : (eOp eCt o).pure = true := by cases o <;> rfl
theorem pu_path (p : List Str) : (ePath p).pure = true := pureAll_map (fun _ => rfl) p
theorem pu_ln (l : Line) : (eLn l).pure = true := by
  show pureAll [eId l.id, eId l.hd, eOp eId l.ins, ePath l.path, eOp eCt l.ct] = true
  simp [pureAll, pu_id, pu_oid, pu_path, pu_oct]
theorem pu_ls (ls : List Line) : (eLs ls).pure = true := pureAll_map pu_ln ls
theorem pu_ids (is : List Id) : pureAll (is.map eId) = true := pureAll_map pu_id is
theorem de_id (i : Id) : (eId i).dep ≤ 60 := Nat.le_trans (dp_id i) (by decide)
theorem de_oid (o : Option Id) : (eOp eId o).dep ≤ 60 := by
  show (eOp eId o).py.depth ≤ 60
  rw [py_oid]
  exact Nat.le_trans (dp_oid o) (by decide)
theorem de_path (p : List Str) : (ePath p).dep ≤ 60 := by
  show (ePath p).py.depth ≤ 60
  rw [py_path]
  exact Nat.le_trans (dp_path p) (by decide)
theorem de_ln (l : Line) : (eLn l).dep ≤ 60 := by
  show (eLn l).py.depth ≤ 60
  rw [py_ln]
  exact Nat.le_trans (dp_ln l) (by decide)
theorem de_ls (ls : List Line) : (eLs ls).dep ≤ 60 := by
  show (eLs ls).py.depth ≤ 60
  rw [py_ls]
  exact Nat.le_trans (dp_ls ls) (by decide)
theorem ev_id (a b : Id) : D.eqv (eId a) (eId b) = decide (a = b) := eqv_id a b
theorem ev_oid (a b : Option Id) : D.eqv (eOp eId a) (eOp eId b) = decide (a = b) := by
  unfold D.eqv
  rw [py_oid, py_oid, eqv_oid]
theorem ev_ido (a : Id) (b : Option Id) : D.eqv (eId a) (eOp eId b) = decide (some a = b) := ev_oid (some a) b
theorem ev_oi (a : Option Id) (b : Id) : D.eqv (eOp eId a) (eId b) = decide (a = some b) := ev_oid a (some b)
theorem ev_path (a b : List Str) : D.eqv (ePath a) (ePath b) = decide (a = b) := by
  unfold D.eqv
  rw [py_path, py_path, eqv_path]
theorem ev_ln (a b : Line) : D.eqv (eLn a) (eLn b) = decide (a = b) := by
  unfold D.eqv
  rw [py_ln, py_ln, eqv_ln]
theorem ev_ls (a b : List Line) : D.eqv (eLs a) (eLs b) = decide (a = b) := by
  unfold D.eqv
  rw [py_ls, py_ls, eqv_ls]
theorem any_eid (i : Id) (is : List Id) : ((is.map eId).any fun z => D.eqv z (eId i)) = decide (i ∈ is) := by
  induction is with
  | nil => rfl
  | cons a is ih =>
    rw [List.map_cons, List.any_cons, ih, ev_id]
    simp [Bool.eq_iff_iff, eq_comm]
theorem non_oid (o : Option Id) : isNon (eOp eId o) = o.isNone := by cases o <;> rfl
theorem non_oln (o : Option Line) : isNon (eOp eLn o) = o.isNone := by cases o <;> rfl
theorem non_oct (o : Option Ct) : isNon (eOp eCt o) = o.isNone := by cases o <;> rfl
section
variable {S : Sto} {k : D → Prop}
theorem ln0 {l : Line} : ixk S (eLn l) (.int 0) k = k (eId l.id) := by unfold eLn; rw [ixk_tup, at0]; simp
theorem ln1 {l : Line} : ixk S (eLn l) (.int 1) k = k (eId l.hd) := by unfold eLn; rw [ixk_tup, at1]; simp
theorem ln2 {l : Line} : ixk S (eLn l) (.int 2) k = k (eOp eId l.ins) := by unfold eLn; rw [ixk_tup, at2]; simp
theorem ln3 {l : Line} : ixk S (eLn l) (.int 3) k = k (ePath l.path) := by unfold eLn; rw [ixk_tup, at3]; simp
theorem ln4 {l : Line} : ixk S (eLn l) (.int 4) k = k (eOp eCt l.ct) := by unfold eLn; rw [ixk_tup, at4]; simp
theorem lnS0 {l : Line} : ixk S (eOp eLn (some l)) (.int 0) k = k (eId l.id) := ln0
theorem lnS2 {l : Line} : ixk S (eOp eLn (some l)) (.int 2) k = k (eOp eId l.ins) := ln2
theorem lnS4 {l : Line} : ixk S (eOp eLn (some l)) (.int 4) k = k (eOp eCt l.ct) := ln4
theorem q_id {a b : Id} : Pw.eqk S (eId a) (eId b) k = k (.bl (decide (a = b))) := by rw [eqk_pure (pu_id a) (pu_id b) (de_id a), ev_id]
theorem q_ido {a : Id} {b : Option Id} : Pw.eqk S (eId a) (eOp eId b) k = k (.bl (decide (some a = b))) := by rw [eqk_pure (pu_id a) (pu_oid b) (de_id a), ev_ido]
theorem q_oi {a : Option Id} {b : Id} : Pw.eqk S (eOp eId a) (eId b) k = k (.bl (decide (a = some b))) := by rw [eqk_pure (pu_oid a) (pu_id b) (de_oid a), ev_oi]
theorem q_oid {a b : Option Id} : Pw.eqk S (eOp eId a) (eOp eId b) k = k (.bl (decide (a = b))) := by rw [eqk_pure (pu_oid a) (pu_oid b) (de_oid a), ev_oid]
theorem q_path {a b : List Str} : Pw.eqk S (ePath a) (ePath b) k = k (.bl (decide (a = b))) := by rw [eqk_pure (pu_path a) (pu_path b) (de_path a), ev_path]
theorem q_ln {a b : Line} : Pw.eqk S (eLn a) (eLn b) k = k (.bl (decide (a = b))) := by rw [eqk_pure (pu_ln a) (pu_ln b) (de_ln a), ev_ln]
theorem q_ls {a b : List Line} : Pw.eqk S (eLs a) (eLs b) k = k (.bl (decide (a = b))) := by rw [eqk_pure (pu_ls a) (pu_ls b) (de_ls a), ev_ls]
theorem n_id {a b : Id} : nek S (eId a) (eId b) k = k (.bl (!decide (a = b))) := by rw [nek_pure (pu_id a) (pu_id b) (de_id a), ev_id]
theorem n_path {a b : List Str} : nek S (ePath a) (ePath b) k = k (.bl (!decide (a = b))) := by rw [nek_pure (pu_path a) (pu_path b) (de_path a), ev_path]
theorem n_ln {a b : Line} : nek S (eLn a) (eLn b) k = k (.bl (!decide (a = b))) := by rw [nek_pure (pu_ln a) (pu_ln b) (de_ln a), ev_ln]
theorem n_ls {a b : List Line} : nek S (eLs a) (eLs b) k = k (.bl (!decide (a = b))) := by rw [nek_pure (pu_ls a) (pu_ls b) (de_ls a), ev_ls]
theorem ad_path {a b : List Str} : addk S (ePath a) (ePath b) k = (a.length + b.length ≤ 100000 ∧ k (ePath (a ++ b))) := by
  show ((a.map D.str).length + (b.map D.str).length ≤ 100000 ∧ k (.tup (a.map D.str ++ b.map D.str))) = _
  rw [List.length_map, List.length_map, ← List.map_append]
  rfl
theorem in_ids {a : Id} {is : List Id} : ink S (eId a) (eIds is) k = k (.bl (decide (a ∈ is))) := by
  show (∃ es, itemsOf S (eIds is) = some es ∧ pureAll es = true ∧ (eId a).pure = true ∧ (eId a).dep ≤ 60 ∧ k (.bl (es.any fun z => D.eqv z (eId a)))) = _
  simp only [eIds, itemsOf, Option.some.injEq, exists_eq_left', pu_ids, pu_id, de_id, true_and, any_eid]
theorem un_ln {l : Line} {env : Pw.Env} {S : Sto} {k : Pw.Env → Sto → Prop} {gs : PGsx} : pgTup 5 gs (eLn l) env S k = gs [eId l.id, eId l.hd, eOp eId l.ins, ePath l.path, eOp eCt l.ct] env S k := by
  show (5 = 5 ∧ _) = _
  simp
theorem un_pl {p : Ln.Place} {env : Pw.Env} {S : Sto} {k : Pw.Env → Sto → Prop} {gs : PGsx} : pgTup 3 gs (ePl p) env S k = gs [eOp eId p.1, ePath p.2.1, ePath p.2.2] env S k := by
  show (3 = 3 ∧ _) = _
  simp
theorem call_of {F : PFn} {S : Sto} {ds : List D} {k : D → Prop} (hp : pureAll ds = true) (h : F ds k) : callk F S ds k := by
  have hr : ∀ es : List D, pureAll es = true → es.map (rs S) = es ∧ noRefs es = true := by
    intro es
    induction es with
    | nil => exact fun _ => ⟨rfl, rfl⟩
    | cons e es ih =>
      intro h
      have h' : e.pure = true ∧ pureAll es = true := by simpa [pureAll] using h
      obtain ⟨h1, h2⟩ := ih h'.2
      rw [List.map_cons, rs_pure h'.1, h1, noRefs, pure_noRef e h'.1, h2]
      exact ⟨rfl, rfl⟩
  obtain ⟨h1, h2⟩ := hr ds hp
  unfold callk
  rw [h1, h2]
  refine ⟨rfl, ?_⟩
  have : (fun d : D => (true = true ∨ d.noLst = true) ∧ k d) = k := by
    funext d
    simp
  rw [this]
  exact h
end
theorem eOp_s {α : Type} {f : α → D} {a : α} : eOp f (some a) = f a := rfl
theorem eOp_n {α : Type} {f : α → D} : eOp f none = .non := rfl
theorem lstk_ls {S : Sto} {ls : List Line} {k : D → Prop} : lstk S [eLs ls] k = k (eLs ls) := by
  show (∃ ds, itemsOf S (eLs ls) = some ds ∧ k (.lst ds)) = _
  simp [eLs, itemsOf]
theorem st_ls {S : Sto} {ls : List Line} : itemsOf S (eLs ls) = some (ls.map eLn) := rfl
theorem non_id (i : Id) : isNon (eId i) = false := rfl
theorem non_ln (l : Line) : isNon (eLn l) = false := rfl
theorem non_ct (c : Ct) : isNon (eCt c) = false := rfl
theorem non_path (p : List Str) : isNon (ePath p) = false := rfl
end Le
namespace Le
open PySem PySem.Spec PyProof.Rows L2 Evl Lw Ln Pw
structure Plc where
  path : List Str
  names : List Str
  thing : Int
  count : Int
  cuts : Int
  ct : Option Ct
  ids : List Id
  line : Option Id
  seen : Bool
deriving DecidableEq
section
variable {S : Sto} {e : Plc}
end
end Le
namespace Pw
open PySem PySem.Spec PyProof.Rows L2 Evl Lw
end Pw
namespace Pw
open PySem PySem.Spec PyProof.Rows L2 Evl Lw
def ixS (f : Str) : List Str → Option Nat
  | [] => none
  | k :: r => if f = k then some 0 else (ixS f r).map (· + 1)
theorem lookup_ix {α : Type} {f : Str} : ∀ {ks : List Str} {ds : List α} {i : Nat} {d : α}, ixS f ks = some i → ds[i]? = some d → (ks.zip ds).lookup f = some d
  | [], _, i, _, h, _ => by simp [ixS] at h
  | k :: r, [], i, d, _, hd => by simp at hd
  | k :: r, x :: ds, i, d, h, hd => by
    unfold ixS at h
    rw [List.zip_cons_cons, List.lookup_cons]
    by_cases hk : f = k
    · rw [if_pos hk] at h
      cases h
      have : (f == k) = true := by simpa using hk
      rw [this]
      simpa using hd
    · rw [if_neg hk] at h
      have : (f == k) = false := by simpa using hk
      rw [this]
      cases e : ixS f r with
      | none => rw [e] at h; cases h
      | some j =>
        rw [e] at h
        cases h
        rw [List.getElem?_cons_succ] at hd
        exact lookup_ix e hd
theorem fo {cs : List Nat} {f : Str} {S : Sto} {c i : Nat} {ks : List Str} {ds : List D} {d : D} (hc : cs.contains c = true) (hi : ixS f ks = some i) (hd : ds[i]? = some d) : fldOf cs f S (.obj c ks ds) = some d := by
  show (if c ∈ cs then (ks.zip ds).lookup f else none) = _
  rw [if_pos (by simpa using hc)]
  exact lookup_ix hi hd
end Pw
namespace Le
open PySem PySem.Spec PyProof.Rows L2 Evl Lw Ln Pw
end Le
namespace Pw
open PySem PySem.Spec PyProof.Rows L2 Evl Lw
section
variable {K : PySem.W.Frag} {x qual : Str} {params : Arguments} {body : List Stmt} {scope : Scope} {kws : List (Str × V)} {f : Addr} {fd : FuncData} {pos kwo : List Str}
end
end Pw
namespace Pw
open PySem PySem.Spec PyProof.Rows L2 Evl Lw
section
variable {K : PySem.W.Frag} {cl : Cl} {te ta tv : TE} {pe pa pv : PEx} {tr : TA} {pr : PAx}
end
end Pw
namespace Pw
open PySem PySem.Spec PyProof.Rows L2 Evl Lw
section
variable {K : PySem.W.Frag} {cl : Cl} {te ta tb : TE} {pe pa pb : PEx} {tt : TT} {pt : PTx} {tg : TG} {pg : PGx}
end
end Pw
namespace Pw
open PySem PySem.Spec PyProof.Rows L2 Evl Lw
section
variable {K : PySem.W.Frag} {cl : Cl} {M : Addr → Prop} {ρ : List Addr} {S : Sto} {H : Hp} {n : Nat} {a : Addr} {kvs : List (D × D)} {l : List Dk.EnV} {k : NestedKey}
end
section
variable {K : PySem.W.Frag} {cl : Cl} {td ty tv tz : TE} {pd py pv pz : PEx} {neg : Bool}
end
end Pw
namespace Pw
open PySem PySem.Spec PyProof.Rows L2 Evl Lw
section
variable {K : PySem.W.Frag} {cl : Cl} {ta tb : TE} {pa pb : PEx}
end
end Pw
namespace Pw
open PySem PySem.Spec PyProof.Rows L2 Evl Lw
theorem rs_lt {S : Sto} {n : Nat} {ds : List D} (h : rs S (.ref n) = .lst ds) : S[n]? = some (.lst ds) := by
  unfold rs at h
  simp only at h
  split at h
  · rename_i es he
    cases h
    exact he
  · cases h
theorem rs_of {S : Sto} {n : Nat} {ds : List D} (h : S[n]? = some (.lst ds)) : rs S (.ref n) = .lst ds := by
  unfold rs
  simp only [h]
end Pw
set_option maxHeartbeats 1000000
namespace Dk
open PySem PySem.Spec PyProof.Rows L2 Evl Lw
section
variable {X : Cx} {pins : List (Addr × Obj)} {σ : L2.St} {H : Hp} {s : Shared} {a : Addr}
end
end Dk
namespace Pw
open PySem PySem.Spec PyProof.Rows L2 Evl Lw
def D.lt (x y : D) : Bool := PySem.W.dataLt x.py y.py
section
variable {X : Cx}
end
section
variable {K : PySem.W.Frag} {cl : Cl}
structure DcSt (K : PySem.W.Frag) (cl : Cl) (M : Addr → Prop) (ρ1 : List Addr) (H1 : Hp) (Dl : Addr) (ρ' : List Addr) (S' : Sto) (acc : List (D × D)) (l : List Dk.EnV) (H : Hp) : Prop where
  pre : ρ1 <+: ρ'
  ex : Ex cl (cut (NM M ρ1) H1) (cut (NM (MP M Dl) ρ') H)
  keep : ∀ a, M a → H a = H1 a
  g : G K cl (MP M Dl) ρ' S' H
  at' : H Dl = some (Dk.DHO cl.w Dl l)
  rel : Paired (RelKv K cl ρ' (cut (NM (MP M Dl) ρ') H)) acc l
  nd : (l.map (·.1)).Nodup
theorem kv_up {ρ ρ' : List Addr} {H H' : Hp} (p : ρ <+: ρ') (e : Ex cl H H') {acc : List (D × D)} {l : List Dk.EnV} (h : Paired (RelKv K cl ρ H) acc l) : Paired (RelKv K cl ρ' H') acc l := L2.Paired.mapP h fun x y h => ⟨h.1, h.2.1, RelD.up p e _ _ h.2.2.1, RelD.up p e _ _ h.2.2.2⟩
theorem DcSt.step {M : Addr → Prop} {ρ1 ρ' ρ2 : List Addr} {H1 H H2 : Hp} {Dl : Addr} {S' S2 : Sto} {acc : List (D × D)} {l : List Dk.EnV} (c : DcSt K cl M ρ1 H1 Dl ρ' S' acc l H) (s : Stp cl (MP M Dl) ρ' H ρ2 H2) (g : G K cl (MP M Dl) ρ2 S2 H2) : DcSt K cl M ρ1 H1 Dl ρ2 S2 acc l H2 :=
  ⟨c.pre.trans s.pre, c.ex.trans s.ex, fun a m => (s.keep a (.inl m)).trans (c.keep a m), g, (s.keep Dl (.inr rfl)).trans c.at', kv_up s.pre s.ex c.rel, c.nd⟩
variable {tk tv : TE} {pk pv : PEx} {tt : TT} {pt : PTx} {tg : TG} {pg : PGx}
end
end Pw
namespace Pw
open PySem PySem.Spec PyProof.Rows L2 Evl Lw
end Pw
namespace Dk
open PySem PySem.Spec PyProof.Rows L2 Evl Lw
section
variable {X : Cx}
end
end Dk
namespace Pw
open PySem PySem.Spec PyProof.Rows L2 Evl Lw
section
variable {K : PySem.W.Frag} {cl : Cl}
end
end Pw
namespace Dk
open PySem PySem.Spec PyProof.Rows L2 Evl Lw LamX
section
variable {prog : Program} {w : World} {A : Around} {s : Shared}
end
section
variable {X : Cx}
end
end Dk
namespace Pw
open PySem PySem.Spec PyProof.Rows L2 Evl Lw
section
variable {K : PySem.W.Frag} {cl : Cl}
end
structure LamC (cl : Cl) (base : Heap) (mg : Str → Option Value) (c P : Addr) (q : Str) : Prop where
  tb : LamX.TabB base mg c P
  mem : (P, q ++ ".<locals>." ++ "<lambda>") ∈ cl.tabs
  one : ∀ p ∈ cl.tabs, p.1 = P → p.2 = q ++ ".<locals>." ++ "<lambda>"
def LamD (cl : Cl) (base : Heap) (mg : Str → Option Value) (cdv : Value) (q : Str) : Prop := ∃ c P, cdv = .ref c ∧ LamC cl base mg c P q
structure DfL (K : PySem.W.Frag) (mg : Str → Option Value) (cl : Cl) (base : Heap) (x : Str) (st : Stmt) (ps : List Str) : Prop where
  ex : ∃ (f : Addr) (fd : FuncData), L2.Fun K x x st f fd ∧ mg x = some (.ref f) ∧ Binds K fd ps [] ∧ LamD cl base mg fd.code x
theorem fun_okL {P : Program} {w : World} {K : PySem.W.Frag} {cl : Cl} {mg : Str → Option Value} {base : Heap} {x : Str} {st : Stmt} {f : Addr} {fd : FuncData} {N ps : List Str} {k : Nat} {sp : Sp} (F : L2.Fun K x x st f fd) (L : LamD cl base mg fd.code x) (S : FnScope N ps (defScope st)) (len : ∀ vs H Q E, sp vs H Q E → vs.length = ps.length)
    (hbody : ∀ (cdv : Value), LamD cl base mg cdv x → ∀ (A : Around) (outer : List PySem.Env) (s : Shared) (H : Hp) (vs : List V) (Q : VK) (E : XK), Room k (A.deeper (envOfC x (defScope st) s.heap.objs.size f cdv)) → sp vs H Q E →
      ∃ t, PSs (cxOf L2.CX0 P w K mg base N x (defScope st) f cdv A outer s H E).nox (defBody st) t ∧ t { nx := fun _ H' => Q .non H', rt := Q } (start N vs) H) : FnOk P w K mg base L2.CX0 (k + 1) f fd ps sp := by
  obtain ⟨oc, od, kV, doc, pm, an, cdv, ct, osl, rfl, lk, hcd⟩ := F.ex
  refine fn_of lk hcd S len fun A outer s H vs Q E hr hsp => ?_
  obtain ⟨t, h, q⟩ := hbody cdv L A outer s H vs Q E hr hsp
  exact ⟨t, h.nox, q⟩
theorem DfL.cal {P : Program} {w : World} {K : PySem.W.Frag} {cl : Cl} {mg : Str → Option Value} {base : Heap} {x : Str} {st : Stmt} {N ps : List Str} {k : Nat} {sp : Sp} (D : DfL K mg cl base x st ps) (S : FnScope N ps (defScope st)) (len : ∀ vs H Q E, sp vs H Q E → vs.length = ps.length)
    (hbody : ∀ (f : Addr) (cdv : Value), LamD cl base mg cdv x → ∀ (A : Around) (outer : List PySem.Env) (s : Shared) (H : Hp) (vs : List V) (Q : VK) (E : XK), Room k (A.deeper (envOfC x (defScope st) s.heap.objs.size f cdv)) → sp vs H Q E →
      ∃ t, PSs (cxOf L2.CX0 P w K mg base N x (defScope st) f cdv A outer s H E).nox (defBody st) t ∧ t { nx := fun _ H' => Q .non H', rt := Q } (start N vs) H) : C8.Cal P w K mg base (k + 1) x sp [] := by
  obtain ⟨f, fd, F, hm, hb, L⟩ := D.ex
  exact ⟨f, fd, ps, [], fun_okL F L S len (hbody f), hm, F.kp, hb, .nil⟩
def AllTab (q : Program) (mg : Str → Option Value) (h : Heap) : Prop := ∀ d ∈ recsOf q, ∃ a o fd c P, mg d.name = some (.ref a) ∧ h.get? a = some o ∧ o.data = .func fd ∧ fd.code = .ref c ∧ PySem.W.CodeHd h c P ∧ h.get? P = some { cls := .none, data := .fields #[] }
def tabOf (K : PySem.W.Frag) (cd : Value) : Option Addr := match cd with
  | .ref c => match K.lookup c with
    | some ⟨_, _, .fields vs, _⟩ => match (vs[11]? : Option Value) with
      | some (.ref P) => some P
      | _ => none
    | _ => none
  | _ => none
def noTab (K : PySem.W.Frag) (cd : Value) : Bool := match tabOf K cd with
  | some P => (K.lookup P).isNone
  | none => false
theorem AllTab.at {q : Program} {K : PySem.W.Frag} {mg : Str → Option Value} {h : Heap} {x : Str} {f : Addr} {oc : Value} {od : Option Addr} {fd : FuncData} {osl : Array (Option Value)} (T : AllTab q mg h) (X : K.In h) (hx : ((recsOf q).any fun e => e.name == x) = true) (hm : mg x = some (.ref f)) (l : K.lookup f = some ⟨oc, od, .func fd, osl⟩) (hn : noTab K fd.code = true) :
    ∃ c P, fd.code = .ref c ∧ PySem.W.CodeHd h c P ∧ h.get? P = some { cls := .none, data := .fields #[] } ∧ K.lookup P = none ∧ tabOf K fd.code = some P := by
  obtain ⟨e, he, hxe⟩ := List.any_eq_true.mp hx
  have hxe' : e.name = x := beq_iff_eq.mp hxe
  obtain ⟨a, o, fd', c, P, h1, h2, h3, h4, h5, h6⟩ := T e he
  rw [hxe', hm] at h1
  cases h1
  have g := X _ _ l
  rw [g] at h2
  cases h2
  cases h3
  have ht : tabOf K fd.code = some P := by
    rw [h4] at hn ⊢
    unfold noTab at hn
    obtain ⟨o2, us, _, _, _, _, _, _, _, k1, _, k2, k3, _⟩ := h5
    unfold tabOf at hn ⊢
    simp only at hn ⊢
    cases hl : K.lookup c with
    | none =>
      rw [hl] at hn
      simp at hn
    | some ob =>
      have g2 := X _ _ hl
      rw [g2] at k1
      cases k1
      obtain ⟨b1, b2, b3, b4⟩ := o2
      simp only at k2
      subst k2
      simp only [k3]
  refine ⟨c, P, h4, h5, h6, ?_, ht⟩
  unfold noTab at hn
  rw [ht] at hn
  simpa using hn
end Pw
namespace Pw
open PySem PySem.Spec PyProof.Rows L2 Evl Lw
section
variable {K : PySem.W.Frag} {cl : Cl} {ta ti : TE} {pa pi : PEx}
theorem RelAll.set {ρ : List Addr} {H : Hp} : ∀ {ds : List D} {vs : List V} {j : Nat} {d : D} {v : V}, RelAll K cl ρ H ds vs → RelD K cl ρ H d v → RelAll K cl ρ H (ds.set j d) (vs.set j v)
  | _, _, _, _, _, .nil, _ => .nil
  | _, _, 0, _, _, .cons a b, h => .cons h b
  | _, _, j + 1, _, _, .cons a b, h => .cons a (RelAll.set b h)
def ordck : OpN := fun _ xs k => ∃ x : Str, xs = [.str x] ∧ x.length = 1 ∧ k (.int (x.cps.getD 0 0 : Nat))
theorem smc_ordc : SmC K cl (fun xs H Q => ∃ x : Str, xs = [.str x] ∧ x.length = 1 ∧ Q (.int (x.cps.getD 0 0 : Nat)) H) ordck := by
  intro M ρ S H xs vs g r k Q ⟨x, hx, hl, hk⟩ q
  subst hx
  obtain ⟨v, rfl, r1⟩ := all1 r
  rw [rel_str r1]
  exact ⟨x, rfl, hl, q H _ _ .refl g (.int _) hk⟩
theorem rel_strs {ρ : List Addr} {H : Hp} : ∀ {ys : List Str} {vs : List V}, RelAll K cl ρ H (ys.map D.str) vs → vs = ys.map V.str
  | [], _, h => by cases h; rfl
  | y :: ys, _, h => by
    rw [List.map_cons] at h
    cases h with
    | cons a b => rw [rel_str a, rel_strs b]; rfl
def pTJoin (pa pb : PEx) : PEx := fun env S k => pa env S fun x S1 => ∃ a : Str, x = .str a ∧ pb env S1 fun y S2 => ∃ ys : List Str, itemsOf S2 y = some (ys.map D.str) ∧ (ys.map (·.length)).sum + ys.length * a.length ≤ 100000 ∧ k (.str (Txt.join a ys)) S2
theorem sm_tjoin {tb : TE} {pb : PEx} (ha : SmE K cl ta pa) (hb : SmE K cl tb pb) : SmE K cl (tM1 (fun x xs H Q => ∃ a p, ∃ ys : List Str, x = .str a ∧ xs = [.ref p] ∧ (SqL K H p (ys.map V.str) ∨ SqT K H p (ys.map V.str)) ∧
      (ys.map (·.length)).sum + ys.length * a.length ≤ 16777216 ∧ Q (.str (Txt.join a ys)) H) ta tb) (pTJoin pa pb) := fun M ρ S H env σ g re k Q h q =>
  ha M ρ S H env σ g re _ _ h fun ρ1 H1 S1 x v s1 g1 rx ⟨a, hx, h1⟩ => by
    subst hx
    rw [rel_str rx]
    exact ⟨⟨a, rfl⟩, hb M ρ1 S1 H1 env σ g1 (re.up s1) _ _ h1 fun ρ2 H2 S2 y w s2 g2 ry ⟨ys, hy, hl, hk⟩ => by
      obtain ⟨p, vs, rfl, hs, r⟩ := items_sq g2 ry hy
      rw [rel_strs r] at hs
      exact ⟨a, p, ys, rfl, rfl, hs, by omega, q ρ2 H2 S2 _ _ (s1.trans s2) g2 (.str _) hk⟩⟩
end
end Pw
namespace Dk
open PySem PySem.Spec PyProof.Rows L2 Evl Lw
section
variable {X : Cx} {pins : List (Addr × Obj)} {σ : L2.St} {H : Hp} {s : Shared} {d : Addr}
end
section
variable {X : Cx} {e : Expr} {td : TE} {apos cpos : Pos}
end
end Dk
namespace Pw
open PySem PySem.Spec PyProof.Rows L2 Evl Lw
def pairD (p : D × D) : D := .tup [p.1, p.2]
def WalkD (n : Nat) (kvs : List (D × D)) (o : Obj) (g : PGx) (tb : PSx) (P : PEnds) (env : Env) (S : Sto) : Prop := ∃ I : Nat → Env → Sto → Prop, I 0 env S ∧
  (∀ (i : Nat) (p : D × D) env S, kvs[i]? = some p → I i env S → S[n]? = some (.dctL kvs o) ∧ g (pairD p) env S fun env1 S2 => tb { P with nx := I (i + 1), ct := I (i + 1), bk := P.nx } env1 S2) ∧ ∀ env S, I kvs.length env S → S[n]? = some (.dctL kvs o) ∧ P.nx env S
def pForD (pd : PEx) (g : PGx) (tb : PSx) : PSx := fun P env S => pd env S fun x S1 => ∃ n kvs, x = .ref n ∧ ((S1[n]? = some (.dct kvs) ∧ ∀ o, WalkD n kvs o g tb P env (S1.set n (.dctL kvs o))) ∨ ∃ o, S1[n]? = some (.dctL kvs o) ∧ WalkD n kvs o g tb P env S1)
section
variable {K : PySem.W.Frag} {cl : Cl} {td : TE} {pd : PEx} {tg : TG} {pg : PGx} {tu : TS} {pu : PSx}
end
end Pw
namespace Pw
open PySem PySem.Spec PyProof.Rows L2 Evl Lw
def pInsL (pa pi pe : PEx) : PSx := fun P env S => pa env S fun l S1 => ∃ n, l = .ref n ∧ ∃ ds0, S1[n]? = some (.lst ds0) ∧ pi env S1 fun y S2 => pe env S2 fun d S3 => ∃ (i : Nat) (ds : List D), y = .int (i : Int) ∧ i ≤ 100000 ∧ S3[n]? = some (.lst ds) ∧ ds.length < 90000 ∧ P.nx env (S3.set n (.lst (ds.take i ++ [d] ++ ds.drop i)))
section
variable {K : PySem.W.Frag} {cl : Cl}
theorem RelAll.take {ρ : List Addr} {H : Hp} : ∀ {ds : List D} {vs : List V} (i : Nat), RelAll K cl ρ H ds vs → RelAll K cl ρ H (ds.take i) (vs.take i)
  | _, _, 0, _ => .nil
  | _, _, i + 1, .nil => .nil
  | _, _, i + 1, .cons a b => .cons a (RelAll.take i b)
end
section
variable {K : PySem.W.Frag} {cl : Cl} {ta : TE} {pa : PEx}
end
def pExtA (pa pb : PEx) : PSx := fun P env S => pa env S fun x S1 => ∃ n, x = .ref n ∧ (∃ ds, S1[n]? = some (.lst ds)) ∧ pb env S1 fun y S2 => ∃ ds es, S2[n]? = some (.lst ds) ∧ listOf S2 y = some es ∧ ds.length + es.length < 90000 ∧ P.nx env (S2.set n (.lst (ds ++ es)))
section
variable {K : PySem.W.Frag} {cl : Cl} {ta tb : TE} {pa pb : PEx}
end
section
variable {X : Cx} {k j : Nat} {C : Addr} {x : Str} {sp : Sp} {dvs : List V} {p pos : Pos}
end
end Pw
namespace Pw
open PySem PySem.Spec PyProof.Rows L2 Evl Lw
section
variable {K : PySem.W.Frag} {cl : Cl}
end
def Sx (S S' : Sto) : Prop := ∀ i, i < S.length → S'[i]? = S[i]?
theorem Sx.refl (S : Sto) : Sx S S := fun _ _ => rfl
theorem Sx.get {S S' : Sto} (h : Sx S S') {n : Nat} {o : SO} (hn : S[n]? = some o) : S'[n]? = some o := (h n (List.getElem?_eq_some_iff.mp hn).1).trans hn
theorem Sx.len {S S' : Sto} (h : Sx S S') : S.length ≤ S'.length := by
  rcases Nat.lt_or_ge S'.length S.length with c | c
  · have h1 := h S'.length c
    rw [List.getElem?_eq_none (Nat.le_refl _), List.getElem?_eq_getElem c] at h1
    cases h1
  · exact c
theorem Sx.trans {S S1 S2 : Sto} (h : Sx S S1) (h2 : Sx S1 S2) : Sx S S2 := fun i hi => (h2 i (Nat.lt_of_lt_of_le hi h.len)).trans (h i hi)
theorem Sx.app (S T : Sto) : Sx S (S ++ T) := fun i hi => List.getElem?_append_left hi
theorem Sx.put {S S' : Sto} (h : Sx S S') {n : Nat} (hn : S.length ≤ n) (o : SO) : Sx S (S'.set n o) := fun i hi => by
  rw [List.getElem?_set_ne (by omega)]
  exact h i hi
theorem Sx.list {S S' : Sto} (h : Sx S S') {x : D} {ds : List D} (hx : listOf S x = some ds) : listOf S' x = some ds := by
  cases x with
  | ref n =>
    unfold listOf at hx ⊢
    simp only at hx ⊢
    cases e : S[n]? with
    | none => rw [e] at hx; cases hx
    | some o =>
      rw [h.get e]
      rw [e] at hx
      exact hx
  | _ => exact hx
theorem Sx.rs {S S' : Sto} (h : Sx S S') {x : D} {ds : List D} (hx : Pw.rs S x = .lst ds) : Pw.rs S' x = .lst ds := by
  cases x with
  | ref n => exact rs_of (h.get (rs_lt hx))
  | _ => exact hx
theorem any_map {α : Type} [DecidableEq α] {f : α → D} (hf : ∀ a b, D.eqv (f a) (f b) = decide (a = b)) (a : α) (l : List α) : ((l.map f).any fun z => D.eqv z (f a)) = decide (a ∈ l) := by
  induction l with
  | nil => rfl
  | cons b l ih =>
    rw [List.map_cons, List.any_cons, ih, hf, Bool.eq_iff_iff]
    simp only [Bool.or_eq_true, decide_eq_true_eq, List.mem_cons]
    exact ⟨fun z => z.imp Eq.symm id, fun z => z.imp Eq.symm id⟩
end Pw
namespace Pw
open PySem PySem.Spec PyProof.Rows L2 Evl Lw
def So (n : Nat) (S S' : Sto) : Prop := S.length ≤ S'.length ∧ ∀ i, i < S.length → i ≠ n → S'[i]? = S[i]?
theorem So.refl (n : Nat) (S : Sto) : So n S S := ⟨Nat.le_refl _, fun _ _ _ => rfl⟩
theorem So.trans {n : Nat} {S S1 S2 : Sto} (h : So n S S1) (h2 : So n S1 S2) : So n S S2 := ⟨Nat.le_trans h.1 h2.1, fun i hi hn => (h2.2 i (Nat.lt_of_lt_of_le hi h.1) hn).trans (h.2 i hi hn)⟩
theorem Sx.so {S S' : Sto} (h : Sx S S') (n : Nat) : So n S S' := ⟨h.len, fun i hi _ => h i hi⟩
theorem So.put {n : Nat} {S : Sto} (o : SO) : So n S (S.set n o) := ⟨by rw [List.length_set]; exact Nat.le_refl _, fun i _ hn => List.getElem?_set_ne (Ne.symm hn)⟩
theorem So.get {n m : Nat} {S S' : Sto} {o : SO} (h : So n S S') (hm : m ≠ n) (hs : S[m]? = some o) : S'[m]? = some o := (h.2 m (List.getElem?_eq_some_iff.mp hs).1 hm).trans hs
end Pw
namespace Pw
open PySem PySem.Spec PyProof.Rows L2 Evl Lw
section
variable {K : PySem.W.Frag} {cl : Cl}
variable {ta tb : TE} {pa pb : PEx}
end
end Pw
namespace Pw
open PySem PySem.Spec PyProof.Rows L2 Evl Lw
end Pw
namespace Pw
open PySem PySem.Spec PyProof.Rows L2 Evl Lw
def Own (n : Nat) (g : Nat → Nat) (i : Nat) : Prop := i = n ∨ ∃ j, j < 8 ∧ g j = i
def upd (g : Nat → Nat) (j v : Nat) : Nat → Nat := fun i => if i = j then v else g i
structure FrG (n : Nat) (g : Nat → Nat) (S : Sto) (g' : Nat → Nat) (S' : Sto) : Prop where
  len : S.length ≤ S'.length
  off : ∀ i, i < S.length → ¬ Own n g i → S'[i]? = S[i]?
  nw : ∀ i, Own n g' i → Own n g i ∨ S.length ≤ i
theorem FrG.refl (n : Nat) (g : Nat → Nat) (S : Sto) : FrG n g S g S := ⟨Nat.le_refl _, fun _ _ _ => rfl, fun _ h => .inl h⟩
theorem FrG.trans {n : Nat} {g g1 g2 : Nat → Nat} {S S1 S2 : Sto} (h : FrG n g S g1 S1) (h2 : FrG n g1 S1 g2 S2) : FrG n g S g2 S2 :=
  ⟨Nat.le_trans h.len h2.len, fun i hi ho => (h2.off i (Nat.lt_of_lt_of_le hi h.len) fun z => (h.nw i z).elim ho fun y => absurd hi (by omega)).trans (h.off i hi ho),
    fun i hi => (h2.nw i hi).elim (h.nw i) fun z => .inr (Nat.le_trans h.len z)⟩
theorem FrG.get {n i : Nat} {g g' : Nat → Nat} {S S' : Sto} {o : SO} (h : FrG n g S g' S') (hi : ¬ Own n g i) (hs : S[i]? = some o) : S'[i]? = some o := (h.off i (List.getElem?_eq_some_iff.mp hs).1 hi).trans hs
theorem FrG.keep {n i : Nat} {g g' : Nat → Nat} {S S' : Sto} (h : FrG n g S g' S') (hi : i < S.length) (ho : ¬ Own n g i) : ¬ Own n g' i := fun z => (h.nw i z).elim ho fun y => by omega
theorem FrG.fresh {n r : Nat} {g g' : Nat → Nat} {S S1 : Sto} (h : FrG n g S g' S1) (hr : S.length ≤ r) (o : SO) : FrG n g S g' (S1.set r o) := ⟨by rw [List.length_set]; exact h.len, fun i hi ho => (List.getElem?_set_ne (by omega)).trans (h.off i hi ho), h.nw⟩
structure ObG (S : Sto) (n : Nat) (o : SO) (ls : List (List D)) (g : Nat → Nat) : Prop where
  o : S[n]? = some o
  inj : ∀ i j, i < 8 → j < 8 → g i = g j → i = j
  ne : ∀ j, j < 8 → g j ≠ n
  at_ : ∀ j, j < 8 → ∃ l, ls[j]? = some l ∧ S[g j]? = some (.lst l)
theorem ObG.lt {S : Sto} {n i : Nat} {o : SO} {ls : List (List D)} {g : Nat → Nat} (h : ObG S n o ls g) (hi : Own n g i) : i < S.length := by
  rcases hi with rfl | ⟨j, hj, rfl⟩
  · exact (List.getElem?_eq_some_iff.mp h.o).1
  · obtain ⟨l, _, h2⟩ := h.at_ j hj
    exact (List.getElem?_eq_some_iff.mp h2).1
theorem ObG.lst {S : Sto} {n j : Nat} {o : SO} {ls : List (List D)} {g : Nat → Nat} {l : List D} (h : ObG S n o ls g) (hj : j < 8) (hl : ls[j]? = some l) : S[g j]? = some (.lst l) := by
  obtain ⟨l', h1, h2⟩ := h.at_ j hj
  rw [hl] at h1
  cases h1
  exact h2
theorem ObG.mv {S S' : Sto} {n : Nat} {o : SO} {ls : List (List D)} {g : Nat → Nat} (h : ObG S n o ls g) (e : ∀ i, Own n g i → S'[i]? = S[i]?) : ObG S' n o ls g :=
  ⟨(e _ (.inl rfl)).trans h.o, h.inj, h.ne, fun j hj => let ⟨l, h1, h2⟩ := h.at_ j hj; ⟨l, h1, (e _ (.inr ⟨j, hj, rfl⟩)).trans h2⟩⟩
theorem ObG.ext {S S' : Sto} {n : Nat} {o : SO} {ls : List (List D)} {g : Nat → Nat} (h : ObG S n o ls g) (e : Sx S S') : ObG S' n o ls g := h.mv fun i hi => e i (h.lt hi)
theorem ObG.put {S : Sto} {n j : Nat} {o : SO} {ls : List (List D)} {g : Nat → Nat} (h : ObG S n o ls g) (hj : j < 8) (l : List D) (hls : ls.length = 8) : ObG (S.set (g j) (.lst l)) n o (ls.set j l) g :=
  ⟨(List.getElem?_set_ne (h.ne j hj)).trans h.o, h.inj, h.ne, fun i hi => by
    by_cases c : i = j
    · subst c
      exact ⟨l, List.getElem?_set_self (by omega), List.getElem?_set_self (h.lt (.inr ⟨i, hj, rfl⟩))⟩
    · obtain ⟨l', h1, h2⟩ := h.at_ i hi
      exact ⟨l', (List.getElem?_set_ne (Ne.symm c)).trans h1, (List.getElem?_set_ne fun z => c (h.inj i j hi hj z.symm)).trans h2⟩⟩
theorem ObG.obj {S : Sto} {n : Nat} {o : SO} {ls : List (List D)} {g : Nat → Nat} (h : ObG S n o ls g) (o' : SO) : ObG (S.set n o') n o' ls g :=
  ⟨List.getElem?_set_self (h.lt (.inl rfl)), h.inj, h.ne, fun i hi => let ⟨l, h1, h2⟩ := h.at_ i hi; ⟨l, h1, (List.getElem?_set_ne (Ne.symm (h.ne i hi))).trans h2⟩⟩
end Pw
namespace Pw
open PySem PySem.Spec PyProof.Rows L2 Evl Lw
section
variable {K : PySem.W.Frag} {cl : Cl} {tg : TG} {pg : PGx} {tu : TS} {pu : PSx}
variable {ta tb tc : TE} {pa pb pc : PEx}
end
end Pw
namespace Pw
open PySem PySem.Spec PyProof.Rows L2 Evl Lw
section
variable {K : PySem.W.Frag} {cl : Cl} {M : Addr → Prop} {ρ : List Addr} {S : Sto} {H : Hp}
end
section
variable {K : PySem.W.Frag} {cl : Cl}
end
end Pw
namespace Pw
open PySem PySem.Spec PyProof.Rows L2 Evl Lw
end Pw
namespace Pw
open PySem PySem.Spec PyProof.Rows L2 Evl Lw
section
variable {K : PySem.W.Frag} {cl : Cl}
end
end Pw
namespace Pw
open PySem PySem.Spec PyProof.Rows L2 Evl Lw
section
variable (K : PySem.W.Frag) (cl : Cl)
def WOk (M : Addr → Prop) (ρ : List Addr) (H : Hp) (xk : Env → Sto → Prop) (W : WX) (cls : Value) : Prop :=
  ∀ ρ' H' S' env' σ', Stp cl M ρ H ρ' H' → G K cl M ρ' S' H' → RE K cl ρ' (cut (NM M ρ') H') env' σ' → xk env' S' → W cls none σ' H'
abbrev XFn := List D → Sto → (D → Sto → Prop) → (Sto → Prop) → Prop
end
section
variable {K : PySem.W.Frag} {cl : Cl} {cls c : Value} {W Wout : WX} {M : Addr → Prop} {ρ ρ1 : List Addr} {H H1 : Hp} {xk : Env → Sto → Prop} {tu tw : TS} {pu pw : (Env → Sto → Prop) → PSx} {ps : PSx} {tt : TT} {pt : PTx} {R : XFn}
theorem WOk.step (w : WOk K cl M ρ H xk W cls) (s : Stp cl M ρ H ρ1 H1) : WOk K cl M ρ1 H1 xk W cls := fun _ _ _ _ _ s1 g re hx => w _ _ _ _ _ (s.trans s1) g re hx
end
structure CalX (P : Program) (w : World) (K : PySem.W.Frag) (mg : Str → Option Value) (base : Heap) (k : Nat) (x : Str) (sp : Sp) : Prop where
  ex : ∃ (f : Addr) (fd : FuncData) (ps : List Str), FnOk P w K mg base (L2.CX P w) k f fd ps sp ∧ mg x = some (.ref f) ∧ PySem.W.keepIn K (.ref f) = true ∧ Binds K fd ps []
theorem CalX.pe {X : Cx} {W : WX} {k j : Nat} {x : Str} {sp : Sp} {t : TA} {p pos : Pos} {e : Expr} {es : List Expr} (c : CalX X.prog X.w X.K X.mg X.base k x sp) (hr : Room j X.A) (hk : k ≤ j) (hg : Gl X x) (tk : Takes X W) (ha : PA X (e :: es) t)
    (hdb : (x == ("__debug__" : Str)) = false := by decide) (he : starEach (e :: es) X.env = (false, eval e X.env) :: starEach es X.env := by rfl) (hpl : (backTo pos (starEach es X.env)).any (·.1) = false := by rfl) :
    PE X (.Call (.Name x p) (e :: es) [] pos) (tCallS sp (WE W) t) := by
  obtain ⟨f, fd, ps, F, hm, kp, b⟩ := c.ex
  exact pe_callS F (hr.mono hk) hg hm kp b (fun σ => passAt tk σ) ha hdb he hpl
end Pw
namespace Pw
open PySem PySem.Spec PyProof.Rows L2 Evl Lw
end Pw
namespace Pw
open PySem PySem.Spec PyProof.Rows L2 Evl Lw
section
variable {K : PySem.W.Frag} {cl : Cl} {ta ti : TE} {pa pi : PEx}
theorem RelAll.erase {ρ : List Addr} {H : Hp} : ∀ {ds : List D} {vs : List V} {j : Nat}, RelAll K cl ρ H ds vs → RelAll K cl ρ H (ds.eraseIdx j) (vs.eraseIdx j)
  | _, _, _, .nil => .nil
  | _, _, 0, .cons a b => b
  | _, _, j + 1, .cons a b => .cons a (RelAll.erase b)
end
end Pw
namespace Pw
open PySem PySem.Spec PyProof.Rows L2 Evl Lw
section
variable {T : Type} {w : World} {R : T → Value → Prop}
inductive KEnts (w : World) (R : T → Value → Prop) : List DictEntry → List (Str × T) → Prop
  | nil : KEnts w R [] []
  | cons {h : Int} {t : Tok} {u : Value} {z : Str} {d : T} {es : List DictEntry} {tab : List (Str × T)} : h = PyData.keyHash w.params z → R d u → KEnts w R es tab → KEnts w R (⟨h, .str z t, u⟩ :: es) ((z, d) :: tab)
structure KTab (K : PySem.W.Frag) (w : World) (R : T → Value → Prop) (a : Addr) (tab : List (Str × T)) : Prop where
  ex : ∃ (es : Array DictEntry) (n : Nat), K.lookup a = some ⟨.type "dict", none, .dict es n, #[]⟩ ∧ KEnts w R es.toList tab
  low : (a == sysModules) = false
  nd : (tab.map (·.1)).Nodup
def tabAt (tab : List (Str × T)) (z : Str) : Option T := (tab.find? fun p => decide (p.1 = z)).map (·.2)
theorem KEnts.rows {es : List DictEntry} {tab : List (Str × T)} (h : KEnts w R es tab) : ∃ xs : List Dk.En, es = xs.map (Dk.enE w) ∧ (∀ x ∈ xs, ∃ z t, x.1 = .text z ∧ x.2.1 = .str z t) ∧ xs.map (·.1) = tab.map (fun p => NestedKey.text p.1) ∧
    ∀ k : NestedKey, match Dk.atV xs k with | some u => ∃ z d, k = .text z ∧ tabAt tab z = some d ∧ R d u | none => ∀ z, k = .text z → tabAt tab z = none := by
  induction h with
  | nil => exact ⟨[], rfl, fun x h => (by cases h), rfl, fun k => fun z _ => rfl⟩
  | @cons h t u z d es tab hh hr _ ih =>
    obtain ⟨xs, e1, e2, e3, e4⟩ := ih
    refine ⟨(.text z, .str z t, u) :: xs, ?_, fun x hx => ?_, ?_, fun k => ?_⟩
    · rw [List.map_cons, ← e1, hh]
      rfl
    · rcases List.mem_cons.mp hx with rfl | hx
      · exact ⟨z, t, rfl, rfl⟩
      · exact e2 x hx
    · rw [List.map_cons, List.map_cons, e3]
    · have h0 := e4 k
      unfold Dk.atV tabAt at h0 ⊢
      by_cases q : NestedKey.text z = k
      · subst q
        rw [List.find?_cons_of_pos (by simp)]
        exact ⟨z, d, rfl, by rw [List.find?_cons_of_pos (by simp)]; rfl, hr⟩
      · rw [List.find?_cons_of_neg (by simpa using q)]
        cases hx : (xs.find? fun x => decide (x.1 = k)).map (·.2.2) with
        | none =>
          rw [hx] at h0
          intro z' hz
          rw [List.find?_cons_of_neg (by simp; rintro rfl; exact q hz.symm)]
          exact h0 z' hz
        | some u' =>
          rw [hx] at h0
          obtain ⟨z', d', h1, h2, h3⟩ := h0
          refine ⟨z', d', h1, ?_, h3⟩
          rw [List.find?_cons_of_neg (by simp; rintro rfl; exact q h1.symm)]
          exact h2
end
section
variable {T : Type} {X : Cx} {R : T → Value → Prop} {a : Addr} {tab : List (Str × T)} {x name : Str} {p pos apos cpos : Pos} {i o e f : Expr} {ti to te tf : TE} {s : Shared}
theorem KTab.dof {K : PySem.W.Frag} {w : World} {h : Heap} (t : KTab K w R a tab) (X : K.In h) : ∃ xs, Dk.DOf w h a xs ∧ ∀ k : NestedKey, match Dk.atV xs k with | some u => ∃ z d, k = .text z ∧ tabAt tab z = some d ∧ R d u | none => ∀ z, k = .text z → tabAt tab z = none := by
  obtain ⟨es, n, hl, he⟩ := t.ex
  obtain ⟨xs, e1, e2, e3, e4⟩ := he.rows
  refine ⟨xs, ⟨_, es, n, X _ _ hl, ⟨rfl, rfl, rfl⟩, rfl, e1, fun y hy => ?_, ?_⟩, e4⟩
  · obtain ⟨z, t, h1, h2⟩ := e2 y hy
    rw [h1, h2]
    exact ⟨.text z t, by show (0 : Nat) ≤ 8; decide⟩
  · rw [e3]
    have := t.nd
    rw [List.nodup_iff_pairwise_ne, List.pairwise_map] at this ⊢
    exact this.imp fun hab z => hab (NestedKey.text.inj z)
def tKix (R : T → Value → Prop) (tab : List (Str × T)) (ti : TE) : TE := fun σ H Q => ti σ H fun y H1 => ∃ z d, y = .str z ∧ tabAt tab z = some d ∧ ∀ u, R d u → ∃ v, RelV v u ∧ Q v H1
theorem pe_kix (hu : X.A.units + 64 < cLine) (hg : Gl X x) (ht : ∃ a, X.mg x = some (.ref a) ∧ KTab X.K X.w R a tab) (hi : PE X i ti) (hs : NoSl i) (hd : (x == ("__debug__" : Str)) = false := by decide) : PE X (.Subscript (.Name x p) i pos) (tKix R tab ti) := by
  obtain ⟨a, hm, t⟩ := ht
  refine ⟨fun pins s σ H Q I h => ?_⟩
  refine subD_of PySem.F.slot_dict_getitem.lookup hs (thn ((pe_glob (v := .ref a) (pos := p) hg hm rfl hd).run pins s σ H (fun v H1 => v = .ref a ∧ H1 = H) I ⟨rfl, rfl⟩) fun u s1 ⟨v, H1, I1, r1, q1⟩ => ?_)
  obtain ⟨rfl, rfl⟩ := q1
  obtain rfl : u = Value.ref a := r1
  refine thn (hi.run pins s1 σ _ _ I1 h) fun iv s2 ⟨y, H2, I2, ry, z, d, ey, ed, hq⟩ => ?_
  subst ey
  obtain ⟨tk, rfl⟩ := ry
  obtain ⟨xs, hD, hx⟩ := t.dof I2.kIn
  have hx := hx (.text z)
  cases hz : Dk.atV xs (.text z) with
  | none =>
    rw [hz] at hx
    have := hx z rfl
    rw [ed] at this
    cases this
  | some u =>
    rw [hz] at hx
    obtain ⟨z', d', h1, h2, h3⟩ := hx
    cases h1
    rw [ed] at h2
    cases h2
    obtain ⟨v, hv, q⟩ := hq u h3
    exact ⟨hD.typeIs, Dk.getItem_data (by show X.A.units + 1 + 8 < cLine; omega) ⟨.text z tk, by show (0 : Nat) ≤ 8; decide⟩ hD hz ⟨v, H2, I2.tok _, hv, q⟩⟩
def tKget (R : T → Value → Prop) (tab : List (Str × T)) (ti : TE) : TE := fun σ H Q => ti σ H fun y H1 => (y = .non ∧ Q .non H1) ∨ ∃ z, y = .str z ∧ match tabAt tab z with
  | some d => ∀ u, R d u → ∃ v, RelV v u ∧ Q v H1
  | none => Q .non H1
theorem pe_kget (hu : X.A.units + 64 < cLine) (hg : Gl X x) (ht : ∃ a, X.mg x = some (.ref a) ∧ KTab X.K X.w R a tab) (hi : PE X i ti) (m : M1 X (.Name x p) "get" apos i cpos) (hd : (x == ("__debug__" : Str)) = false := by decide) :
    PE X (.Call (.Attribute (.Name x p) "get" apos) [i] [] cpos) (tKget R tab ti) := by
  obtain ⟨a, hm, t⟩ := ht
  refine ⟨fun pins s σ H Q I h => ?_⟩
  refine wpAny_Call_method m.base m.few m.line PySem.F.plainAttrs_dict PySem.F.slot_dict_get PySem.F.type_dict_get (thn ((pe_glob (v := .ref a) (pos := p) hg hm rfl hd).run pins s σ H (fun v H1 => v = .ref a ∧ H1 = H) I ⟨rfl, rfl⟩) fun u s1 ⟨v, H1, I1, r1, q1⟩ => ?_)
  obtain ⟨rfl, rfl⟩ := q1
  obtain rfl : u = Value.ref a := r1
  obtain ⟨xs1, hD1, _⟩ := t.dof I1.kIn
  refine ⟨hD1.typeIs, fun b q => ?_, ?_⟩
  · cases q
    obtain ⟨o, _, _, D⟩ := hD1
    exact ⟨o, D.ob, D.ex.2.1⟩
  rw [m.trees]
  refine Calls.callWith_builtin rfl (Calls.evalArgs_plain (Calls.spliced_cons (thn (hi.run pins s1 σ _ _ I1 h) fun iv s2 ⟨y, H2, I2, ry, hy⟩ => Calls.spliced_nil ?_)))
  obtain ⟨xs, hD, hx⟩ := t.dof I2.kIn
  rcases hy with ⟨rfl, q⟩ | ⟨z, rfl, q⟩
  · cases ry
    refine Dk.call_get1 (k := .none) (by show X.A.units + 1 + 8 < cLine; omega) ⟨.none, by show (0 : Nat) ≤ 8; decide⟩ t.low hD ?_
    have hx := hx .none
    cases hz : Dk.atV xs .none with
    | some u =>
      rw [hz] at hx
      obtain ⟨z, d, h1, _⟩ := hx
      cases h1
    | none => exact ⟨.non, H2, I2.tok _, rfl, q⟩
  · obtain ⟨tk, rfl⟩ := ry
    refine Dk.call_get1 (k := .text z) (by show X.A.units + 1 + 8 < cLine; omega) ⟨.text z tk, by show (0 : Nat) ≤ 8; decide⟩ t.low hD ?_
    have hx := hx (.text z)
    cases hz : Dk.atV xs (.text z) with
    | none =>
      rw [hz] at hx
      rw [hx z rfl] at q
      exact ⟨.non, H2, I2.tok _, rfl, q⟩
    | some u =>
      rw [hz] at hx
      obtain ⟨z', d', h1, h2, h3⟩ := hx
      cases h1
      rw [h2] at q
      obtain ⟨v, hv, q⟩ := q u h3
      exact ⟨v, H2, I2.tok _, hv, q⟩
def tM2 (r : V → List V → Hp → VK → Prop) (to te tf : TE) : TE := fun σ H Q => to σ H fun x H1 => (∃ a, x = .str a) ∧ te σ H1 fun y H2 => tf σ H2 fun z H3 => r x [y, z] H3 Q
theorem pe_s2 {id : String} {r : V → List V → Hp → VK → Prop} (slot : Slot "str" name id) (hty : typeOf (.builtin id) = pure (.type "method_descriptor")) (rule : MtR X id r) (ho : PE X o to) (he : PE X e te) (hf : PE X f tf) (m : M2 X o name apos e f cpos) :
    PE X (.Call (.Attribute o name apos) [e, f] [] cpos) (tM2 r to te tf) := by
  refine ⟨fun pins s σ H Q I h => ?_⟩
  refine wpAny_Call_method m.base m.few m.line PySem.F.plainAttrs_str slot hty (thn (ho.run pins s σ H _ I h) fun u s1 ⟨x, H1, I1, rx, ⟨a, ex⟩, q1⟩ => ?_)
  subst ex
  obtain ⟨t, rfl⟩ := rx
  refine ⟨typeIs_str _ _ _, fun b q => (by cases q), ?_⟩
  rw [m.trees]
  refine Calls.callWith_builtin rfl (Calls.evalArgs_plain (Calls.spliced_cons (thn (he.run pins s1 σ H1 _ I1 q1) fun iv s2 ⟨y, H2, I2, ry, q2⟩ =>
    Calls.spliced_cons (thn (hf.run pins s2 σ H2 _ I2 q2) fun fv s3 ⟨z, H3, I3, rz, q3⟩ => Calls.spliced_nil ?_))))
  exact rule pins s3 σ H3 (.str a) [y, z] _ _ Q I3 ⟨t, rfl⟩ (.cons ry (.cons rz .nil)) q3
def tCallH (K : PySem.W.Frag) (P : Program) (w : World) (mg : Str → Option Value) (base : Heap) (j i : Nat) (t : TA) : TE := fun σ H Q => ∃ f sp j', j' ≤ j ∧ σ[i]? = some (some (.ref f)) ∧ C8.CalAt P w K mg base j' f sp ∧ t σ H fun vs H1 => sp vs H1 Q (fun _ _ _ => False)
theorem pe_callH {j k i : Nat} {es : List Expr} {t : TA} (hr : Room k X.A) (hj : j ≤ k) (hN : X.N[i]? = some x) (hv : Vis X.env.scope x) (ha : PA X (e :: es) t)
    (hdb : (x == ("__debug__" : Str)) = false := by decide) (hcd : (x == ("__classdict__" : Str)) = false := by decide)
    (he : starEach (e :: es) X.env = (false, eval e X.env) :: starEach es X.env := by rfl) (hpl : (backTo pos (starEach es X.env)).any (·.1) = false := by rfl) : PE X (.Call (.Name x p) (e :: es) [] pos) (tCallH X.K X.prog X.w X.mg X.base j i t) := by
  refine ⟨fun pins s σ H Q I h => ?_⟩
  obtain ⟨f, sp, j', hj', hs, hc, ht⟩ := h
  obtain ⟨fd, ps, F, hk, hb⟩ := hc.ex
  refine (pe_callL (i := i) (f := f) (sp := sp) (dvs := []) (E := fun _ _ _ => False) F (hr.mono (Nat.le_trans hj' hj)) hN hv hk hb .nil (fun _ _ _ _ _ _ _ z => z.elim) ha hdb hcd he hpl).run pins s σ H Q I ⟨hs, ?_⟩
  have e0 : (fun (vs : List V) (H1 : Hp) => sp (vs ++ []) H1 Q (fun _ _ _ => False)) = fun vs H1 => sp vs H1 Q (fun _ _ _ => False) := by
    funext vs H1
    rw [List.append_nil]
  show t σ H (fun vs H1 => sp (vs ++ []) H1 Q (fun _ _ _ => False))
  rw [e0]
  exact ht
end
def pKget (tab : List (Str × D)) (py : PEx) : PEx := fun env S k => py env S fun y S1 => match y with
  | .non => k .non S1
  | .str z => k ((tabAt tab z).getD .non) S1
  | _ => False
def pTabC (tab : List (Str × PFn)) (i j : Nat) (pk : PEx) (pa : PAx) : PSx := fun P env S => pk env S fun y S1 => ∃ z F, y = .str z ∧ tabAt tab z = some F ∧ i < env.length ∧ pAsg (pCall F pa) (pgName j) P (env.set i none) S1
def pFind3 (pa pb pc : PEx) : PEx := fun env S k => pa env S fun x S1 => ∃ a, x = .str a ∧ pb env S1 fun y S2 => ∃ b, y = .str b ∧ pc env S2 fun z S3 => ∃ i, z = .int i ∧ k (.int (Txt.find3 a b i)) S3
def intTk : OpN := fun S xs k => ∃ a n, xs = [.str a] ∧ PySem.intText? a = some n ∧ a.length ≤ 640 ∧ k (.int n)
section
variable {K : PySem.W.Frag} {cl : Cl} {te ta tb tc : TE} {pe pa pb pc : PEx}
def RD (K : PySem.W.Frag) (cl : Cl) (d : D) (u : Value) : Prop := ∃ v, RelV v u ∧ Dfl K cl d v
def RFn (mg : Str → Option Value) (n : Str) (u : Value) : Prop := ∃ f, mg n = some (.ref f) ∧ u = .ref f
theorem sm_kget {tab : List (Str × D)} (h : SmE K cl te pe) : SmE K cl (tKget (RD K cl) tab te) (pKget tab pe) := fun M ρ S H env σ g re k Q hk q =>
  h M ρ S H env σ g re _ _ hk fun ρ1 H1 S1 y v s1 g1 ry hy => by
    cases y with
    | non =>
      cases ry
      exact .inl ⟨rfl, q ρ1 H1 S1 _ _ s1 g1 .non hy⟩
    | str z =>
      cases ry
      refine .inr ⟨z, rfl, ?_⟩
      have hy : k ((tabAt tab z).getD .non) S1 := hy
      cases e : tabAt tab z with
      | none =>
        rw [e] at hy
        exact q ρ1 H1 S1 _ _ s1 g1 .non hy
      | some d =>
        rw [e] at hy
        exact fun u ⟨v, hv, r⟩ => ⟨v, hv, q ρ1 H1 S1 _ _ s1 g1 (r _ _) hy⟩
    | _ => exact hy.elim
theorem RE.any {ρ : List Addr} {H : Hp} {env : Env} {σ : L2.St} (r : RE K cl ρ H env σ) (i : Nat) (v : Option V) : RE K cl ρ H (env.set i Option.none) (σ.set i v) :=
  ⟨by rw [List.length_set, List.length_set, r.len], fun j e he => by
    by_cases hij : i = j
    · subst hij
      have hl : i < env.length := by
        have := (List.getElem?_eq_some_iff.mp he).1
        rw [List.length_set] at this
        exact this
      rw [List.getElem?_set_self hl] at he
      cases he
    · rw [List.getElem?_set_ne hij] at he ⊢
      exact r.at' j e he⟩
theorem sm_tabC {P : Program} {w : World} {mg : Str → Option Value} {base : Heap} {nt : List (Str × Str)} {tab : List (Str × PFn)} {i j jj : Nat} {tk : TE} {pk : PEx} {ta : TA} {pa : PAx} (hk : SmE K cl tk pk) (ha : SmA K cl ta pa)
    (hc : ∀ z n f, tabAt nt z = some n → mg n = some (.ref f) → ∀ F, tabAt tab z = some F → ∃ j', j' ≤ jj ∧ C8.CalAt P w K mg base j' f (spP K cl F)) (hn : ∀ z F, tabAt tab z = some F → ∃ n, tabAt nt z = some n) :
    SmS K cl (tSeq (tAsg (tKix (RFn mg) nt tk) (gName i)) (tAsg (tCallH K P w mg base jj i ta) (gName j))) (pTabC tab i j pk pa) := fun M ρ S H env σ g re PE DE h e =>
  hk M ρ S H env σ g re _ _ h fun ρ1 H1 S1 y v s1 g1 ry ⟨z, F, e1, e2, hli, hy⟩ => by
    subst e1
    cases ry
    obtain ⟨n, hn'⟩ := hn z F e2
    refine ⟨z, n, rfl, hn', fun u ⟨f, hf, hu⟩ => ⟨.ref f, hu, ?_⟩⟩
    have re1 := (re.up s1).any i (some (V.ref f))
    rw [re.len] at hli
    have := (sm_call (E := fun _ _ _ => False) (F := F) ha) M ρ1 S1 H1 _ _ g1 re1 (fun d S2 => pgName j d (env.set i Option.none) S2 PE.nx) (fun v H2 => DE.nx ((σ.set i (some (V.ref f))).set j (some v)) H2) hy (fun ρ2 H2 S2 d v s2 g2 r2 h2 => e.nx _ _ _ _ _ (s1.trans s2) g2 ((re1.up s2).set j r2) h2)
    obtain ⟨j', hj', cal⟩ := hc z n f hn' hf F e2
    refine ⟨f, spP K cl F, j', hj', List.getElem?_set_self hli, cal, ?_⟩
    have e0 : (fun (vs : List V) (H1 : Hp) => spP K cl F (vs ++ []) H1 (fun v H2 => DE.nx ((σ.set i (some (V.ref f))).set j (some v)) H2) (fun _ _ _ => False)) = fun vs H1 => spP K cl F vs H1 (fun v H2 => DE.nx ((σ.set i (some (V.ref f))).set j (some v)) H2) (fun _ _ _ => False) := by
      funext vs H1
      rw [List.append_nil]
    have this : ta (σ.set i (some (V.ref f))) H1 (fun vs H1 => spP K cl F (vs ++ []) H1 (fun v H2 => DE.nx ((σ.set i (some (V.ref f))).set j (some v)) H2) (fun _ _ _ => False)) := this
    rw [e0] at this
    exact this
inductive TabF (P : Program) (w : World) (K : PySem.W.Frag) (cl : Cl) (mg : Str → Option Value) (base : Heap) (jj : Nat) : List (Str × Str) → List (Str × PFn) → Prop
  | nil : TabF P w K cl mg base jj [] []
  | cons {j : Nat} {z n : Str} {F : PFn} {nt : List (Str × Str)} {tab : List (Str × PFn)} : C8.Cal P w K mg base j n (spP K cl F) [] → j ≤ jj → TabF P w K cl mg base jj nt tab → TabF P w K cl mg base jj ((z, n) :: nt) ((z, F) :: tab)
theorem TabF.at_ {P : Program} {w : World} {mg : Str → Option Value} {base : Heap} {jj : Nat} {nt : List (Str × Str)} {tab : List (Str × PFn)} (h : TabF P w K cl mg base jj nt tab) : ∀ z F, tabAt tab z = some F → ∃ n, tabAt nt z = some n ∧ ∀ f, mg n = some (.ref f) → ∃ j', j' ≤ jj ∧ C8.CalAt P w K mg base j' f (spP K cl F) := by
  induction h with
  | nil => exact fun z F e => by cases e
  | @cons j z0 n F0 nt tab hc hj _ ih =>
    intro z F e
    unfold tabAt at e ⊢
    by_cases q : z0 = z
    · rw [List.find?_cons_of_pos (by simpa using q)] at e ⊢
      cases e
      refine ⟨n, rfl, fun f hf => ⟨j, hj, ?_⟩⟩
      obtain ⟨f', fd, ps, ds, h1, h2, h3, h4, h5⟩ := hc.ex
      rw [hf] at h2
      cases h2
      cases h5
      exact ⟨fd, ps, h1, h3, h4⟩
    · rw [List.find?_cons_of_neg (by simpa using q)] at e ⊢
      exact ih z F e
theorem sm_tabF {P : Program} {w : World} {mg : Str → Option Value} {base : Heap} {nt : List (Str × Str)} {tab : List (Str × PFn)} {i j jj : Nat} {tk : TE} {pk : PEx} {ta : TA} {pa : PAx} {tr : TS} {pr : PSx} (hT : TabF P w K cl mg base jj nt tab) (hk : SmE K cl tk pk) (ha : SmA K cl ta pa) (hr : SmS K cl tr pr) :
    SmS K cl (tSeq (tAsg (tKix (RFn mg) nt tk) (gName i)) (tSeq (tAsg (tCallH K P w mg base jj i ta) (gName j)) tr)) (pSeq (pTabC tab i j pk pa) pr) := by
  have h := sm_tabC (i := i) (j := j) hk ha (fun z n f hn hf F hF => by
    obtain ⟨n', h1, h2⟩ := hT.at_ z F hF
    rw [hn] at h1
    cases h1
    exact h2 f hf) fun z F hF => by
    obtain ⟨n', h1, _⟩ := hT.at_ z F hF
    exact ⟨n', h1⟩
  have h2 : SmS K cl (tSeq (tSeq (tAsg (tKix (RFn mg) nt tk) (gName i)) (tAsg (tCallH K P w mg base jj i ta) (gName j))) tr) (pSeq (pTabC tab i j pk pa) pr) := sm_seq h hr
  exact h2
theorem dfl_tup2 {t : Addr} {od : Option Addr} {n : Nat} {sl : Array (Option Value)} {x y : Str} {tk tl : Tok} (h : K.lookup t = some ⟨.type "tuple", od, .seq #[.str x tk, .str y tl] n, sl⟩) : Dfl K cl (.tup [.str x, .str y]) (.ref t) := fun ρ H => .tup (vs := [.str x, .str y]) (.inr ⟨_, _, _, h, rfl, rfl, by show 2 ≤ _; decide, .cons ⟨_, rfl⟩ (.cons ⟨_, rfl⟩ .nil)⟩) (.cons (.str _) (.cons (.str _) .nil))
theorem dfl_tup3 {t : Addr} {od : Option Addr} {n : Nat} {sl : Array (Option Value)} {x y z : Str} {tk tl tm : Tok} (h : K.lookup t = some ⟨.type "tuple", od, .seq #[.str x tk, .str y tl, .str z tm] n, sl⟩) : Dfl K cl (.tup [.str x, .str y, .str z]) (.ref t) := fun ρ H => .tup (vs := [.str x, .str y, .str z]) (.inr ⟨_, _, _, h, rfl, rfl, by show 3 ≤ _; decide, .cons ⟨_, rfl⟩ (.cons ⟨_, rfl⟩ (.cons ⟨_, rfl⟩ .nil))⟩) (.cons (.str _) (.cons (.str _) (.cons (.str _) .nil)))
theorem sm_find3 (ha : SmE K cl ta pa) (hb : SmE K cl tb pb) (hc : SmE K cl tc pc) : SmE K cl (tM2 (fun x xs H Q => ∃ (a b : Str) (i : Int), x = .str a ∧ xs = [.str b, .int i] ∧ Q (.int (Txt.find3 a b i)) H) ta tb tc) (pFind3 pa pb pc) := fun M ρ S H env σ g re k Q h q =>
  ha M ρ S H env σ g re _ _ h fun ρ1 H1 S1 x v s1 g1 rx ⟨a, hx, h1⟩ => by
    subst hx
    rw [rel_str rx]
    exact ⟨⟨a, rfl⟩, hb M ρ1 S1 H1 env σ g1 (re.up s1) _ _ h1 fun ρ2 H2 S2 y w s2 g2 ry ⟨b, hy, h2⟩ => by
      subst hy
      rw [rel_str ry]
      exact hc M ρ2 S2 H2 env σ g2 (re.up (s1.trans s2)) _ _ h2 fun ρ3 H3 S3 z u s3 g3 rz ⟨i, hz, hk⟩ => by
        subst hz
        rw [rel_int rz]
        exact ⟨a, b, i, rfl, rfl, q ρ3 H3 S3 _ _ ((s1.trans s2).trans s3) g3 (.int _) hk⟩⟩
theorem smc_intT : SmC K cl (fun xs H Q => ∃ a n, xs = [.str a] ∧ PySem.intText? a = some n ∧ a.length ≤ 640 ∧ Q (.int n) H) intTk := by
  intro M ρ S H xs vs g r k Q h q
  obtain ⟨a, n, rfl, h1, h2, hk⟩ := h
  obtain ⟨v, rfl, r1⟩ := all1 r
  rw [rel_str r1]
  exact ⟨a, n, rfl, h1, h2, q H _ _ .refl g (.int _) hk⟩
end
section
variable {X : Cx} {name : Str} {p pos apos cpos c0 c1 : Pos} {i o e f a b : Expr} {es : List Expr} {ti to te tb : TE} {ta : TA} {j0 j1 : Nat} {y z c : Str}
def PE1 (X : Cx) (e : Expr) (t : TE) : Prop := ∀ (pins : List (Addr × Obj)) (s : Shared) (σ : L2.St) (H : Hp) (Q : VK), Inv X pins σ H s → t σ H Q → wpAny (model X.prog X.w) X.A (eval e X.env) (fun v s' => 1 ≤ s'.toks ∧ EP X pins σ Q v s') X.xe s
theorem pe1_bin {op : Operator} {r : R2} (ho : OpR X (binaryOp op) r) (hb : PE X b tb) : PE1 X (.BinOp (.Constant (.str c) j0 c0) op b pos) (tOp r (tC (.str c)) tb) := by
  intro pins s σ H Q I h
  refine wpAny_BinOp (Calls.Constant_str ?_)
  have hk : 1 ≤ ({ s with toks := s.toks + 1 } : Shared).toks := by show 1 ≤ s.toks + 1; omega
  refine PySem.wpAny_with_toks hk ?_
  refine wpAny_mono (hb.run pins _ σ H _ (I.tok _) h) (fun u s2 ⟨y, H2, I2, ry, q⟩ hk2 => ?_) fun _ _ x _ => x
  refine PySem.wpAny_with_toks hk2 ?_
  exact wpAny_mono (ho pins s2 σ H2 (.str c) y _ u Q I2 ⟨s.toks, rfl⟩ ry q) (fun v s3 q3 hk3 => ⟨hk3, q3⟩) fun _ _ x _ => x
theorem pa1_cons (ha : PE1 X e te) (hr : PAT X es ta) (hs : starEach (e :: es) X.env = (false, eval e X.env) :: starEach es X.env := by rfl) : PA X (e :: es) (tCons te ta) := by
  refine ⟨fun pos pins s σ H Q I h => ?_⟩
  rw [hs]
  show wpAny _ _ (spliced ((false, eval e X.env) :: backTo pos (starEach es X.env))) _ _ s
  refine Calls.spliced_cons (thn (ha pins s σ H _ I h) fun v s1 ⟨hk, x, H1, I1, r1, q1⟩ => ?_)
  exact thn (hr pos pins s1 σ H1 _ hk I1 q1) fun us s2 ⟨xs, H2, I2, r2, q2⟩ => ⟨x :: xs, H2, I2, .cons r1 r2, q2⟩
theorem PET.of (h : PE X e te) : PET X e te := fun pins s σ H Q _ I q => h.run pins s σ H Q I q
def tRepl (y z : Str) (to : TE) : TE := fun σ H Q => to σ H fun x H1 => ∃ a, x = .str a ∧ a.length + (a.length + 1) * z.length ≤ 16777216 ∧ Q (.str (Txt.replace a y z)) H1
theorem pet_repl (hyz : (y == z) = false) (ho : PE X o to) (m : M2 X o "replace" apos (.Constant (.str y) j0 c0) (.Constant (.str z) j1 c1) cpos) : PET X (.Call (.Attribute o "replace" apos) [.Constant (.str y) j0 c0, .Constant (.str z) j1 c1] [] cpos) (tRepl y z to) := by
  intro pins s σ H Q h0 I h
  refine wpAny_Call_method m.base m.few m.line PySem.F.plainAttrs_str PySem.F.slot_str_replace PySem.F.type_str_replace (PySem.wpAny_with_toks h0 (wpAny_mono (ho.run pins s σ H _ I h) (fun u s1 ⟨x, H1, I1, rx, a, ex, hl, q1⟩ hk => ?_) fun _ _ x _ => x))
  subst ex
  obtain ⟨t, rfl⟩ := rx
  refine ⟨typeIs_str _ _ _, fun b q => (by cases q), ?_⟩
  rw [m.trees]
  refine Calls.callWith_builtin rfl (Calls.evalArgs_plain (Calls.spliced_cons (Calls.Constant_str (Calls.spliced_cons (Calls.Constant_str (Calls.spliced_nil ?_))))))
  refine PySem.SC.replace (show s1.toks ≠ 0 by omega) (show s1.toks + 1 ≠ 0 by omega) (show s1.toks ≠ s1.toks + 1 by omega) hyz hl fun t' k => ⟨.str (Txt.replace a y z), H1, I1.tok k, ⟨t', rfl⟩, q1⟩
end
def pRepl (y z : Str) (pa : PEx) : PEx := fun env S k => pa env S fun x S1 => ∃ a, x = .str a ∧ a.length ≤ 100000 ∧ z.length ≤ 100 ∧ k (.str (Txt.replace a y z)) S1
theorem sm_repl {K : PySem.W.Frag} {cl : Cl} {ta : TE} {pa : PEx} {y z : Str} (ha : SmE K cl ta pa) : SmE K cl (tRepl y z ta) (pRepl y z pa) := fun M ρ S H env σ g re k Q h q =>
  ha M ρ S H env σ g re _ _ h fun ρ1 H1 S1 x v s1 g1 rx ⟨a, hx, h1, h2, hk⟩ => by
    subst hx
    rw [rel_str rx]
    have : (a.length + 1) * z.length ≤ (a.length + 1) * 100 := Nat.mul_le_mul_left _ h2
    exact ⟨a, rfl, by omega, q ρ1 H1 S1 _ _ s1 g1 (.str _) hk⟩
def pSplit (pa pb : PEx) : PEx := fun env S k => pa env S fun x S1 => ∃ a, x = .str a ∧ pb env S1 fun y S2 => ∃ b, y = .str b ∧ (b.length == 0) = false ∧ a.length ≤ 100000 ∧ k (.lst ((Txt.split a b).map D.str)) S2
theorem rel_strs7 {K : PySem.W.Frag} {cl : Cl} {ρ : List Addr} {H : Hp} : ∀ l : List Str, RelAll K cl ρ H (l.map D.str) (l.map V.str)
  | [] => .nil
  | s :: l => .cons (.str s) (rel_strs7 l)
theorem sm_split {K : PySem.W.Frag} {cl : Cl} {ta tb : TE} {pa pb : PEx} (ha : SmE K cl ta pa) (hb : SmE K cl tb pb) : SmE K cl (tM1 (fun x xs H Q => ∃ a b, x = .str a ∧ xs = [.str b] ∧ (b.length == 0) = false ∧ a.length + 2 ≤ sizeLine ∧ rNewStrs (Txt.split a b) H Q) ta tb) (pSplit pa pb) := fun M ρ S H env σ g re k Q h q =>
  ha M ρ S H env σ g re _ _ h fun ρ1 H1 S1 x v s1 g1 rx ⟨a, hx, h1⟩ => by
    subst hx
    rw [rel_str rx]
    exact ⟨⟨a, rfl⟩, hb M ρ1 S1 H1 env σ g1 (re.up s1) _ _ h1 fun ρ2 H2 S2 y w s2 g2 ry ⟨b, hy, hb, hl, hk⟩ => by
      subst hy
      rw [rel_str ry]
      refine ⟨a, b, rfl, rfl, hb, by have : sizeLine = 2 ^ 24 := by decide
                                     omega, fun p hp => ?_⟩
      exact fin_lst g2 (rel_strs7 (Txt.split a b)) (k := fun d => k d S2) hk (fun H4 d u s4 g4 r4 hk => q ρ2 H4 S2 d u ((s1.trans s2).trans s4) g4 r4 hk) p hp⟩
end Pw
namespace Ln
open PySem PySem.Spec PyProof.Rows L2 Evl Lw
inductive Up (ls : List Line) : Nat → Option Id → List Id → Prop where
  | root : Up ls 0 none []
  | up {i : Id} {f : Line} {n : Nat} {is : List Id} : findLine ls (some i) = some f → Up ls n f.ins is → Up ls (n + 1) (some i) (i :: is)
section
variable {ls : List Line} {U : List Id} {r : Id → Nat} {S : Id → List Id}
theorem Up.len {n : Nat} {o : Option Id} {is : List Id} (h : Up ls n o is) : is.length = n := by
  induction h with
  | root => rfl
  | up _ _ ih => rw [List.length_cons, ih]
theorem Up.rank (h : OkW ls U r S) {n : Nat} {o : Option Id} {is : List Id} (hu : Up ls n o is) : ∀ k : Nat, (∀ i, o = some i → r i < k) → ∀ j ∈ is, r j < k := by
  induction hu with
  | root => exact fun k _ j hj => by cases hj
  | @up i f n is hf hu ih =>
    intro k hk j hj
    have hi := hk i rfl
    obtain ⟨hm, e⟩ := find_mem hf
    have e' := Option.some.inj e
    rcases List.mem_cons.mp hj with rfl | hj
    · exact hi
    · refine ih k (fun i' hi' => ?_) j hj
      obtain ⟨g, _, hg, _, hr⟩ := h.up f hm i' hi'
      rw [← e'] at hr
      omega
theorem Up.nodup (h : OkW ls U r S) {n : Nat} {o : Option Id} {is : List Id} (hu : Up ls n o is) : is.Nodup := by
  induction hu with
  | root => exact List.nodup_nil
  | @up i f n is hf hu ih =>
    refine List.nodup_cons.mpr ⟨fun hi => ?_, ih⟩
    obtain ⟨hm, e⟩ := find_mem hf
    have e' := Option.some.inj e
    have := hu.rank h (r i) (fun i' hi' => by
      obtain ⟨g, _, hg, _, hr⟩ := h.up f hm i' hi'
      rw [← e'] at hr
      exact hr) i hi
    omega
theorem Up.sin {x : Id} {n : Nat} {o : Option Id} {is : List Id} (hu : Up ls n o is) : ∃ m, SIn ls x m o (decide (x ∈ is)) := by
  induction hu with
  | root => exact ⟨0, by simpa using SIn.root⟩
  | @up i f n is hf hu ih =>
    by_cases hx : i = x
    · subst hx
      exact ⟨0, by simpa using SIn.hit⟩
    · obtain ⟨m, hm⟩ := ih
      have e : decide (x ∈ i :: is) = decide (x ∈ is) := decide_eq_decide.mpr ⟨fun h => (List.mem_cons.mp h).resolve_left fun z => hx z.symm, List.mem_cons_of_mem _⟩
      rw [e]
      exact ⟨m + 1, .up hx hf hm⟩
end
end Ln
namespace Par
def esc (c : Nat) : Option Nat := if c = 34 then some 34 else if c = 92 then some 92 else if c = 110 then some 10 else none
def quotL : List Nat → Option (List Nat × List Nat)
  | [] => none
  | c :: r => if c = 34 then some ([], r) else if c = 92 then (match r with
      | [] => none
      | d :: r2 => match esc d with
        | none => none
        | some x => (quotL r2).map fun p => (x :: p.1, p.2))
    else if c = 10 then none else (quotL r).map fun p => (c :: p.1, p.2)
def escL (t : List Nat) : List Nat := t.flatMap fun c => if c = 10 then [92, 110] else if c = 34 ∨ c = 92 then [92, c] else [c]
theorem q_bs (d : Nat) (r : List Nat) : quotL (92 :: d :: r) = match esc d with
    | none => none
    | some x => (quotL r).map fun p => (x :: p.1, p.2) := by
  rw [quotL.eq_def]
  rfl
theorem q_ch {c : Nat} (h1 : c ≠ 34) (h2 : c ≠ 92) (h3 : c ≠ 10) (r : List Nat) : quotL (c :: r) = (quotL r).map fun p => (c :: p.1, p.2) := by
  rw [quotL.eq_def]
  simp only [if_neg h1, if_neg h2, if_neg h3]
theorem tw_mem (p : Nat → Bool) : ∀ (l : List Nat), ∀ c ∈ l.takeWhile p, p c = true
  | [], c, h => by cases h
  | a :: l, c, h => by
    rw [List.takeWhile_cons] at h
    split at h
    · rcases List.mem_cons.mp h with rfl | h
      · assumption
      · exact tw_mem p l c h
    · cases h
theorem quot_esc (r : List Nat) : ∀ t : List Nat, quotL (escL t ++ 34 :: r) = some (t, r)
  | [] => by
    show quotL (34 :: r) = _
    unfold quotL
    rfl
  | c :: t => by
    have ih := quot_esc r t
    have e : escL (c :: t) ++ 34 :: r = (if c = 10 then [92, 110] else if c = 34 ∨ c = 92 then [92, c] else [c]) ++ (escL t ++ 34 :: r) := by
      unfold escL
      rw [List.flatMap_cons, List.append_assoc]
    rw [e]
    by_cases h1 : c = 10
    · subst h1
      show quotL (92 :: 110 :: (escL t ++ 34 :: r)) = _
      rw [q_bs, ih]
      rfl
    · rw [if_neg h1]
      by_cases h2 : c = 34 ∨ c = 92
      · rw [if_pos h2]
        show quotL (92 :: c :: (escL t ++ 34 :: r)) = _
        rw [q_bs, ih]
        rcases h2 with rfl | rfl <;> rfl
      · rw [if_neg h2]
        show quotL (c :: (escL t ++ 34 :: r)) = _
        rw [q_ch (fun z => h2 (.inl z)) (fun z => h2 (.inr z)) h1, ih]
        rfl
theorem esc_inv {d x : Nat} (h : esc d = some x) : (if x = 10 then [92, 110] else if x = 34 ∨ x = 92 then [92, x] else [x]) = [92, d] := by
  unfold esc at h
  split at h
  · cases h; subst d; rfl
  · split at h
    · cases h; subst d; rfl
    · split at h
      · cases h; subst d; rfl
      · cases h
theorem quot_inv : ∀ (n : Nat) (l t r : List Nat), l.length ≤ n → quotL l = some (t, r) → l = escL t ++ 34 :: r
  | _, [], t, r, _, h => by
    unfold quotL at h
    cases h
  | 0, c :: l, t, r, hl, h => by simp at hl
  | n + 1, c :: l, t, r, hl, h => by
    rw [List.length_cons] at hl
    unfold quotL at h
    by_cases h1 : c = 34
    · rw [if_pos h1] at h
      cases h
      rw [h1]
      rfl
    rw [if_neg h1] at h
    by_cases h2 : c = 92
    · rw [if_pos h2] at h
      cases l with
      | nil => cases h
      | cons d l =>
        rw [List.length_cons] at hl
        simp only at h
        cases he : esc d with
        | none => rw [he] at h; cases h
        | some x =>
          rw [he] at h
          simp only at h
          obtain ⟨p, hp, e⟩ := Option.map_eq_some_iff.mp h
          obtain ⟨t', r'⟩ := p
          cases e
          have ih := quot_inv n l t' r' (by omega) hp
          rw [ih, h2]
          show _ = (escL (x :: t')) ++ 34 :: r'
          unfold escL
          rw [List.flatMap_cons, esc_inv he]
          rfl
    rw [if_neg h2] at h
    by_cases h3 : c = 10
    · rw [if_pos h3] at h
      cases h
    rw [if_neg h3] at h
    obtain ⟨p, hp, e⟩ := Option.map_eq_some_iff.mp h
    obtain ⟨t', r'⟩ := p
    cases e
    have ih := quot_inv n l t' r' (by omega) hp
    rw [ih]
    show _ = (escL (c :: t')) ++ 34 :: r'
    unfold escL
    rw [List.flatMap_cons, if_neg h3, if_neg fun z => z.elim h1 h2]
    rfl
def isDig (c : Nat) : Bool := decide (48 ≤ c) && decide (c ≤ 57)
def valL (w : List Nat) : Nat := w.foldl (fun a c => 10 * a + (c - 48)) 0
def plainL (w : List Nat) : Bool := decide (w ≠ []) && decide (w.length ≤ 10) && w.all isDig && (decide (w = [48]) || decide (w.head? ≠ some 48))
def numL (w : List Nat) : Option Nat := if plainL w = true ∧ valL w ≤ 4294967295 then some (valL w) else none
theorem val_snoc (w : List Nat) (c : Nat) : valL (w ++ [c]) = 10 * valL w + (c - 48) := by
  unfold valL
  rw [List.foldl_append]
  rfl
def Can (w : List Nat) : Prop := (∀ c ∈ w, 48 ≤ c ∧ c ≤ 57) ∧ (w = [48] ∨ w.head? ≠ some 48)
theorem can_pos : ∀ (n : Nat) (w : List Nat), w.length = n → w ≠ [] → (∀ c ∈ w, 48 ≤ c ∧ c ≤ 57) → w.head? ≠ some 48 → 1 ≤ valL w
  | 0, w, hl, hn, _, _ => absurd (List.length_eq_zero_iff.mp hl) hn
  | n + 1, w, hl, hn, hd, hh => by
    obtain ⟨u, c, rfl⟩ : ∃ u c, w = u ++ [c] := ⟨w.dropLast, w.getLast hn, (List.dropLast_concat_getLast hn).symm⟩
    rw [List.length_append, List.length_singleton] at hl
    have hc := hd c (by simp)
    rw [val_snoc]
    by_cases hu : u = []
    · subst hu
      have : c ≠ 48 := fun z => hh (by rw [z]; rfl)
      omega
    · have := can_pos n u (by omega) hu (fun x hx => hd x (List.mem_append_left _ hx)) (fun z => hh (by
        cases u with
        | nil => exact absurd rfl hu
        | cons a u => exact z))
      omega
theorem val_inj : ∀ (n : Nat) (w w' : List Nat), w.length ≤ n → w ≠ [] → w' ≠ [] → Can w → Can w' → valL w = valL w' → w = w'
  | 0, w, w', hl, hn, _, _, _, _ => absurd (List.length_eq_zero_iff.mp (Nat.le_zero.mp hl)) hn
  | n + 1, w, w', hl, hn, hn', h1, h2, he => by
    obtain ⟨u, c, rfl⟩ : ∃ u c, w = u ++ [c] := ⟨w.dropLast, w.getLast hn, (List.dropLast_concat_getLast hn).symm⟩
    obtain ⟨v, d, rfl⟩ : ∃ u c, w' = u ++ [c] := ⟨w'.dropLast, w'.getLast hn', (List.dropLast_concat_getLast hn').symm⟩
    rw [List.length_append, List.length_singleton] at hl
    have hc := h1.1 c (by simp)
    have hd := h2.1 d (by simp)
    rw [val_snoc, val_snoc] at he
    have e1 : c = d := by omega
    have e2 : valL u = valL v := by omega
    have head : ∀ (u : List Nat) (c : Nat), u ≠ [] → Can (u ++ [c]) → Can u ∧ 1 ≤ valL u := fun u c hu h => by
      have hh : u.head? ≠ some 48 := fun z => by
        rcases h.2 with q | q
        · cases u with
          | nil => exact hu rfl
          | cons a u => simp at q
        · cases u with
          | nil => exact hu rfl
          | cons a u => exact q z
      have hd : ∀ c ∈ u, 48 ≤ c ∧ c ≤ 57 := fun x hx => h.1 x (List.mem_append_left _ hx)
      exact ⟨⟨hd, .inr hh⟩, can_pos u.length u rfl hu hd hh⟩
    by_cases hu : u = []
    · by_cases hv : v = []
      · rw [hu, hv, e1]
      · have := (head v d hv h2).2
        rw [hu] at e2
        have : valL ([] : List Nat) = 0 := rfl
        omega
    · by_cases hv : v = []
      · have := (head u c hu h1).2
        rw [hv] at e2
        have : valL ([] : List Nat) = 0 := rfl
        omega
      · rw [val_inj n u v (by omega) hu hv (head u c hu h1).1 (head v d hv h2).1 e2, e1]
theorem plain_can {w : List Nat} (h : plainL w = true) : w ≠ [] ∧ Can w := by
  unfold plainL at h
  simp only [Bool.and_eq_true, Bool.or_eq_true, decide_eq_true_eq, List.all_eq_true, isDig] at h
  exact ⟨h.1.1.1, h.1.2, h.2⟩
theorem num_inj {w w' : List Nat} {n : Nat} (h : numL w = some n) (h' : numL w' = some n) : w = w' := by
  unfold numL at h h'
  split at h
  · split at h'
    · rename_i a b
      cases h
      obtain ⟨a1, a2⟩ := plain_can a.1
      obtain ⟨b1, b2⟩ := plain_can b.1
      exact val_inj w.length w w' (Nat.le_refl _) a1 b1 a2 b2 (Option.some.inj h').symm
    · cases h'
  · cases h
theorem num_dig {w : List Nat} {n : Nat} (h : numL w = some n) : w ≠ [] ∧ (∀ c ∈ w, 48 ≤ c ∧ c ≤ 57) ∧ (w = [48] ∨ w.head? ≠ some 48) := by
  unfold numL at h
  split at h
  · rename_i a
    obtain ⟨a1, a2, a3⟩ := plain_can a.1
    exact ⟨a1, a2, a3⟩
  · cases h
inductive Pt where
  | wd (w : List Nat)
  | nm (n : Nat)
  | qt (t : List Nat)
  deriving DecidableEq
def wordL (w r : List Nat) : Option (Pt × List Nat) := match w with
  | [] => none
  | c :: _ => if isDig c = true then (numL w).map fun n => (.nm n, r) else some (.wd w, r)
def notSp (c : Nat) : Bool := decide (c ≠ 32)
def partL (l : List Nat) : Option (Pt × List Nat) := if l.head? = some 34 then (quotL l.tail).map fun p => (.qt p.1, p.2) else wordL (l.takeWhile notSp) (l.dropWhile notSp)
def unp : Pt → List Nat → Prop
  | .wd w, l => l = w
  | .nm n, l => numL l = some n
  | .qt t, l => l = 34 :: (escL t ++ [34])
theorem part_inv {l r : List Nat} {p : Pt} (h : partL l = some (p, r)) : ∃ u, l = u ++ r ∧ unp p u ∧ u ≠ [] ∧ (u.head? ≠ some 34 → 32 ∉ u ∧ (r = [] ∨ r.head? = some 32)) ∧ (∀ w, p = .wd w → w.head? ≠ some 34 ∧ ∀ c, w.head? = some c → isDig c = false) := by
  unfold partL at h
  split at h
  · rename_i c
    obtain ⟨q, hq, e⟩ := Option.map_eq_some_iff.mp h
    obtain ⟨t, r'⟩ := q
    cases e
    cases l with
    | nil => cases c
    | cons a l =>
      cases c
      have := quot_inv l.length l t r' (Nat.le_refl _) hq
      refine ⟨34 :: (escL t ++ [34]), ?_, rfl, nofun, fun z => absurd rfl z, fun w hw => by cases hw⟩
      rw [this]
      simp
  · rename_i c
    have hsplit := List.takeWhile_append_dropWhile (p := notSp) (l := l)
    have hsp : 32 ∉ l.takeWhile notSp := fun z => by
      have := tw_mem notSp l 32 z
      revert this
      decide
    have hr : l.dropWhile notSp = [] ∨ (l.dropWhile notSp).head? = some 32 := by
      cases e : l.dropWhile notSp with
      | nil => exact .inl rfl
      | cons a t =>
        have := List.head?_dropWhile_not notSp l
        rw [e] at this
        simp only [List.head?_cons, notSp] at this
        have ha : a = 32 := by simpa using this
        exact .inr (by rw [ha]; rfl)
    generalize hw : l.takeWhile notSp = w at h hsplit hsp
    generalize l.dropWhile notSp = r' at h hsplit hr
    cases w with
    | nil => cases h
    | cons a w =>
      have hh : (a :: w).head? ≠ some 34 := fun z => c (by rw [← hsplit]; exact z)
      unfold wordL at h
      simp only at h
      split at h
      · rename_i ha
        obtain ⟨n, hn, e⟩ := Option.map_eq_some_iff.mp h
        cases e
        exact ⟨a :: w, hsplit.symm, hn, nofun, fun _ => ⟨hsp, hr⟩, fun w' hw' => by cases hw'⟩
      · rename_i ha
        cases h
        refine ⟨a :: w, hsplit.symm, rfl, nofun, fun _ => ⟨hsp, hr⟩, fun w' hw' => ?_⟩
        cases hw'
        exact ⟨hh, fun c hc => by cases hc; exact Bool.eq_false_iff.mpr ha⟩
theorem part_lt {l r : List Nat} {p : Pt} (h : partL l = some (p, r)) : r.length < l.length := by
  obtain ⟨u, e, _, hu, _⟩ := part_inv h
  rw [e, List.length_append]
  have := List.length_pos_iff.mpr hu
  omega
theorem unp_inj {p : Pt} {u v : List Nat} (h : unp p u) (h' : unp p v) : u = v := by
  cases p with
  | wd w => exact h.trans h'.symm
  | nm n => exact num_inj h h'
  | qt t => exact h.trans h'.symm
theorem part_inj {l l' r : List Nat} {p : Pt} (h : partL l = some (p, r)) (h' : partL l' = some (p, r)) : l = l' := by
  obtain ⟨u, e, hu, _⟩ := part_inv h
  obtain ⟨v, e', hv, _⟩ := part_inv h'
  rw [e, e', unp_inj hu hv]
def PLf : Nat → List Nat → Option (List Pt)
  | 0, _ => none
  | f + 1, l => match partL l with
    | none => none
    | some (p, []) => some [p]
    | some (p, c :: r) => if c = 32 then (PLf f r).map (p :: ·) else none
theorem PLf_eq : ∀ (f g : Nat) (l : List Nat), l.length < f → l.length < g → PLf f l = PLf g l
  | 0, _, _, h, _ => absurd h (Nat.not_lt_zero _)
  | _ + 1, 0, _, _, h => absurd h (Nat.not_lt_zero _)
  | f + 1, g + 1, l, h1, h2 => by
    unfold PLf
    cases e : partL l with
    | none => rfl
    | some q =>
      obtain ⟨p, r⟩ := q
      have := part_lt e
      cases r with
      | nil => rfl
      | cons c r =>
        rw [List.length_cons] at this
        simp only
        rw [PLf_eq f g r (by omega) (by omega)]
def PL (l : List Nat) : Option (List Pt) := PLf (l.length + 1) l
theorem PL_none {l : List Nat} (h : partL l = none) : PL l = none := by
  unfold PL PLf
  rw [h]
theorem PL_end {l : List Nat} {p : Pt} (h : partL l = some (p, [])) : PL l = some [p] := by
  unfold PL PLf
  rw [h]
theorem PL_no {l r : List Nat} {p : Pt} {c : Nat} (h : partL l = some (p, c :: r)) (hc : c ≠ 32) : PL l = none := by
  unfold PL PLf
  rw [h]
  exact if_neg hc
theorem PL_on {l r : List Nat} {p : Pt} (h : partL l = some (p, 32 :: r)) : PL l = (PL r).map (p :: ·) := by
  have hl := part_lt h
  rw [List.length_cons] at hl
  have : PL l = (PLf l.length r).map (p :: ·) := by
    show PLf (l.length + 1) l = _
    rw [PLf, h]
    exact if_pos rfl
  rw [this]
  unfold PL
  rw [PLf_eq l.length (r.length + 1) r (by omega) (by omega)]
theorem PL_ne (l : List Nat) : PL l ≠ some [] := fun z => by
  cases e : partL l with
  | none => rw [PL_none e] at z; cases z
  | some q =>
    obtain ⟨p, r⟩ := q
    cases r with
    | nil => rw [PL_end e] at z; cases z
    | cons c r =>
      by_cases hc : c = 32
      · subst hc
        rw [PL_on e] at z
        obtain ⟨_, _, y⟩ := Option.map_eq_some_iff.mp z
        cases y
      · rw [PL_no e hc] at z
        cases z
theorem PL_inj : ∀ (n : Nat) (l l' : List Nat) (ps : List Pt), l.length ≤ n → PL l = some ps → PL l' = some ps → l = l' := by
  intro n
  induction n with
  | zero =>
    intro l l' ps hl h _
    rw [List.length_eq_zero_iff.mp (Nat.le_zero.mp hl)] at h
    cases h
  | succ n ih =>
    intro l l' ps hl h h'
    cases e : partL l with
    | none => rw [PL_none e] at h; cases h
    | some q =>
      obtain ⟨p, r⟩ := q
      have hlt := part_lt e
      cases e' : partL l' with
      | none => rw [PL_none e'] at h'; cases h'
      | some q' =>
        obtain ⟨p', r'⟩ := q'
        cases r with
        | nil =>
          rw [PL_end e] at h
          cases h
          cases r' with
          | nil =>
            rw [PL_end e'] at h'
            cases h'
            exact part_inj e e'
          | cons c r' =>
            by_cases hc : c = 32
            · subst hc
              rw [PL_on e'] at h'
              obtain ⟨qs, h1, h2⟩ := Option.map_eq_some_iff.mp h'
              cases h2
              exact absurd h1 (PL_ne _)
            · rw [PL_no e' hc] at h'
              cases h'
        | cons c r =>
          by_cases hc : c = 32
          · subst hc
            rw [PL_on e] at h
            obtain ⟨qs, h1, h2⟩ := Option.map_eq_some_iff.mp h
            subst h2
            have hne : qs ≠ [] := fun z => by
              subst z
              exact absurd h1 (PL_ne _)
            cases r' with
            | nil =>
              rw [PL_end e'] at h'
              cases h'
              exact absurd rfl hne
            | cons c' r' =>
              by_cases hc' : c' = 32
              · subst hc'
                rw [PL_on e'] at h'
                obtain ⟨qs', h3, h4⟩ := Option.map_eq_some_iff.mp h'
                injection h4 with h5 h6
                subst h5 h6
                rw [List.length_cons] at hlt
                have := ih r r' qs' (by omega) h1 h3
                subst this
                exact part_inj e e'
              · rw [PL_no e' hc'] at h'
                cases h'
          · rw [PL_no e hc] at h
            cases h
theorem wordL_r {u r r' : List Nat} {p : Pt} {q : List Nat} (h : wordL u r = some (p, q)) : q = r ∧ wordL u r' = some (p, r') := by
  unfold wordL at h ⊢
  cases u with
  | nil => cases h
  | cons c u =>
    simp only at h ⊢
    split at h
    · rename_i hc
      obtain ⟨n, hn, e⟩ := Option.map_eq_some_iff.mp h
      cases e
      rw [if_pos hc, hn]
      exact ⟨rfl, rfl⟩
    · rename_i hc
      cases h
      rw [if_neg hc]
      exact ⟨rfl, rfl⟩
theorem fw_q (t r : List Nat) : partL (34 :: (escL t ++ [34]) ++ r) = some (.qt t, r) := by
  unfold partL
  refine (if_pos rfl).trans ?_
  show (quotL (escL t ++ [34] ++ r)).map _ = _
  rw [List.append_assoc]
  show (quotL (escL t ++ 34 :: r)).map _ = _
  rw [quot_esc]
  rfl
theorem tw_all : ∀ (u r : List Nat), 32 ∉ u → (r = [] ∨ r.head? = some 32) → (u ++ r).takeWhile notSp = u ∧ (u ++ r).dropWhile notSp = r
  | [], r, _, h => by
    rcases h with rfl | h
    · exact ⟨rfl, rfl⟩
    · cases r with
      | nil => cases h
      | cons a r =>
        cases h
        exact ⟨rfl, rfl⟩
  | a :: u, r, hu, h => by
    obtain ⟨i1, i2⟩ := tw_all u r (fun z => hu (List.mem_cons_of_mem _ z)) h
    have ha : notSp a = true := by
      unfold notSp
      exact decide_eq_true fun z => hu (by rw [z]; exact List.mem_cons_self)
    rw [List.cons_append, List.takeWhile_cons, List.dropWhile_cons, if_pos ha, if_pos ha, i1, i2]
    exact ⟨rfl, rfl⟩
theorem fw_w {u r : List Nat} (hn : u ≠ []) (hu : 32 ∉ u) (h4 : u.head? ≠ some 34) (hr : r = [] ∨ r.head? = some 32) : partL (u ++ r) = wordL u r := by
  have hh : (u ++ r).head? ≠ some 34 := by
    cases u with
    | nil => exact absurd rfl hn
    | cons a u => exact h4
  unfold partL
  rw [if_neg hh, (tw_all u r hu hr).1, (tw_all u r hu hr).2]
theorem part_app {l r s : List Nat} {p : Pt} (h : partL l = some (p, r)) (hs : r ≠ [] ∨ s = [] ∨ s.head? = some 32) : partL (l ++ s) = some (p, r ++ s) := by
  obtain ⟨u, e, hp, hn, h1, _⟩ := part_inv h
  by_cases h4 : u.head? = some 34
  · cases p with
    | qt t =>
      have hp : u = 34 :: (escL t ++ [34]) := hp
      rw [e, List.append_assoc, hp]
      exact fw_q t (r ++ s)
    | wd w =>
      have hp : u = w := hp
      have := (part_inv h)
      obtain ⟨u', e', hp', _, _, h6⟩ := this
      have := (h6 w rfl).1
      rw [← hp] at this
      exact absurd h4 this
    | nm n =>
      have hp : numL u = some n := hp
      have hd := (num_dig hp).2.1
      cases u with
      | nil => cases h4
      | cons a u =>
        cases h4
        have := hd 34 List.mem_cons_self
        omega
  · obtain ⟨h2, h3⟩ := h1 h4
    rw [e, fw_w hn h2 h4 h3] at h
    rw [e, List.append_assoc, fw_w hn h2 h4 (by
      rcases h3 with rfl | h3
      · rcases hs with z | z | z
        · exact absurd rfl z
        · exact .inl (by rw [z]; rfl)
        · exact .inr z
      · cases r with
        | nil => cases h3
        | cons a r => exact .inr h3)]
    exact (wordL_r h).2
theorem PL_app : ∀ (n : Nat) (l s : List Nat) (ps : List Pt), l.length ≤ n → PL l = some ps → PL (l ++ 32 :: s) = (PL s).map (ps ++ ·) := by
  intro n
  induction n with
  | zero =>
    intro l s ps hl h
    rw [List.length_eq_zero_iff.mp (Nat.le_zero.mp hl)] at h
    cases h
  | succ n ih =>
    intro l s ps hl h
    cases e : partL l with
    | none => rw [PL_none e] at h; cases h
    | some q =>
      obtain ⟨p, r⟩ := q
      have hlt := part_lt e
      have ea := part_app (s := 32 :: s) e (.inr (.inr rfl))
      cases r with
      | nil =>
        rw [PL_end e] at h
        cases h
        rw [PL_on ea]
        rfl
      | cons c r =>
        by_cases hc : c = 32
        · subst hc
          rw [PL_on e] at h
          obtain ⟨qs, h1, h2⟩ := Option.map_eq_some_iff.mp h
          subst h2
          rw [List.length_cons] at hlt
          rw [List.cons_append] at ea
          rw [PL_on ea, ih r s qs (by omega) h1]
          cases PL s <;> rfl
        · rw [PL_no e hc] at h
          cases h
theorem PL_quo : ∀ (n : Nat) (l : List Nat) (ps : List Pt), l.length ≤ n → PL l = some ps → PL (l ++ [34]) = none ∨ ∃ qs w, PL (l ++ [34]) = some (qs ++ [.wd (w ++ [34])]) := by
  intro n
  induction n with
  | zero =>
    intro l ps hl h
    rw [List.length_eq_zero_iff.mp (Nat.le_zero.mp hl)] at h
    cases h
  | succ n ih =>
    intro l ps hl h
    cases e : partL l with
    | none => rw [PL_none e] at h; cases h
    | some q =>
      obtain ⟨p, r⟩ := q
      have hlt := part_lt e
      cases r with
      | nil =>
        obtain ⟨u, e1, hp, hn, h1, h6⟩ := part_inv e
        rw [List.append_nil] at e1
        subst e1
        cases p with
        | qt t =>
          have hp : l = 34 :: (escL t ++ [34]) := hp
          have := fw_q t [34]
          rw [← hp] at this
          exact .inl (PL_no this (by decide))
        | wd w =>
          have hp : l = w := hp
          subst hp
          obtain ⟨h7, h8⟩ := h6 l rfl
          have h2 := (h1 h7).1
          have hw : partL (l ++ [34]) = some (.wd (l ++ [34]), []) := by
            have := fw_w (u := l ++ [34]) (r := []) (by simp) (fun z => (List.mem_append.mp z).elim h2 (by decide)) (by
              cases l with
              | nil => exact absurd rfl hn
              | cons a l => exact h7) (.inl rfl)
            rw [List.append_nil] at this
            rw [this]
            cases l with
            | nil => exact absurd rfl hn
            | cons a l =>
              unfold wordL
              have := h8 a rfl
              simp only [List.cons_append, this]
              rfl
          exact .inr ⟨[], l, PL_end hw⟩
        | nm n =>
          have hp : numL l = some n := hp
          obtain ⟨h7, h8, _⟩ := num_dig hp
          have hq : l.head? ≠ some 34 := by
            cases l with
            | nil => exact absurd rfl hn
            | cons a l =>
              intro z
              cases z
              have := h8 34 List.mem_cons_self
              omega
          refine .inl (PL_none ?_)
          have := fw_w (u := l ++ [34]) (r := []) (by simp) (fun z => (List.mem_append.mp z).elim (fun z => by have := h8 32 z; omega) (by decide)) (by
            cases l with
            | nil => exact absurd rfl hn
            | cons a l => exact hq) (.inl rfl)
          rw [List.append_nil] at this
          rw [this]
          cases l with
          | nil => exact absurd rfl hn
          | cons a l =>
            have ha := h8 a List.mem_cons_self
            have hda : isDig a = true := by
              unfold isDig
              rw [decide_eq_true ha.1, decide_eq_true ha.2]
              rfl
            have hno : numL ((a :: l) ++ [34]) = none := by
              cases hx : numL ((a :: l) ++ [34]) with
              | none => rfl
              | some m =>
                have := (num_dig hx).2.1 34 (by simp)
                omega
            rw [List.cons_append] at hno
            unfold wordL
            simp only [List.cons_append, hda, if_true, hno]
            rfl
      | cons c r =>
        by_cases hc : c = 32
        · subst hc
          have ea := part_app (s := [34]) e (.inl nofun)
          rw [PL_on e] at h
          obtain ⟨qs, h1, h2⟩ := Option.map_eq_some_iff.mp h
          subst h2
          rw [List.length_cons] at hlt
          rw [List.cons_append] at ea
          rw [PL_on ea]
          rcases ih r qs (by omega) h1 with z | ⟨qs', w, z⟩
          · rw [z]
            exact .inl rfl
          · rw [z]
            exact .inr ⟨p :: qs', w, rfl⟩
        · rw [PL_no e hc] at h
          cases h
def Gd (p : Pt) (u : List Nat) : Prop := match p with
  | .wd w => u = w ∧ w ≠ [] ∧ 32 ∉ w ∧ w.head? ≠ some 34 ∧ ∀ c, w.head? = some c → isDig c = false
  | .nm n => numL u = some n
  | .qt t => u = 34 :: (escL t ++ [34])
theorem gd_part {p : Pt} {u r : List Nat} (h : Gd p u) (hr : r = [] ∨ r.head? = some 32) : partL (u ++ r) = some (p, r) := by
  cases p with
  | wd w =>
    obtain ⟨rfl, h1, h2, h3, h4⟩ := h
    rw [fw_w h1 h2 h3 hr]
    cases u with
    | nil => exact absurd rfl h1
    | cons a u =>
      unfold wordL
      simp only [h4 a rfl]
      rfl
  | nm n =>
    have h : numL u = some n := h
    obtain ⟨h1, h2, _⟩ := num_dig h
    rw [fw_w h1 (fun z => by have := h2 32 z; omega) (by
      cases u with
      | nil => exact absurd rfl h1
      | cons a u =>
        intro z
        cases z
        have := h2 34 List.mem_cons_self
        omega) hr]
    cases u with
    | nil => exact absurd rfl h1
    | cons a u =>
      have ha := h2 a List.mem_cons_self
      have hda : isDig a = true := by
        unfold isDig
        rw [decide_eq_true ha.1, decide_eq_true ha.2]
        rfl
      unfold wordL
      simp only [hda, if_true, h]
      rfl
  | qt t =>
    have h : u = 34 :: (escL t ++ [34]) := h
    rw [h]
    exact fw_q t r
inductive LnOf : List Pt → List Nat → Prop
  | one {p : Pt} {u : List Nat} : Gd p u → LnOf [p] u
  | cons {p : Pt} {u : List Nat} {ps : List Pt} {l : List Nat} : Gd p u → LnOf ps l → LnOf (p :: ps) (u ++ 32 :: l)
theorem LnOf.read {ps : List Pt} {l : List Nat} (h : LnOf ps l) : PL l = some ps := by
  induction h with
  | @one p u h =>
    have := gd_part (r := []) h (.inl rfl)
    rw [List.append_nil] at this
    exact PL_end this
  | @cons p u ps l h _ ih =>
    rw [PL_on (gd_part h (.inr rfl)), ih]
    rfl
theorem LnOf.app {ps qs : List Pt} {l m : List Nat} (h : LnOf ps l) (h' : LnOf qs m) : LnOf (ps ++ qs) (l ++ 32 :: m) := by
  induction h with
  | one h => exact .cons h h'
  | @cons p u ps l h _ ih =>
    rw [List.append_assoc]
    exact .cons h ih
end Par
namespace Par
open PySem PySem.Spec PyProof.Rows L2 Evl Lw Pw
inductive Fm where
  | number | text | path | runs | spot | target
  deriving DecidableEq
def cutL (l : List Nat) : List (List Nat) := TL.spl [47] 0 [] l
def nameL (l : List Nat) : Bool := !(decide (l = [46]) || decide (l = [46, 46]) || decide (47 ∈ l)) && (decide (1 ≤ l.length) && decide (l.length ≤ 100)) && l.all fun c => decide (32 ≤ c)
def readP (l : List Nat) : Option (List (List Nat)) := if l = [] then some [] else if (cutL l).all nameL = true then some (cutL l) else none
def dS (l : List Nat) : D := .str (SX.S l)
def dP (p : List (List Nat)) : D := .tup (p.map dS)
theorem join_cut0 (l : List Nat) : TL.joinL [47] (cutL l) = l := (join_cut l []).1
theorem readP_inj {l l' : List Nat} {p : List (List Nat)} (h : readP l = some p) (h' : readP l' = some p) : l = l' := by
  have key : ∀ {l p}, readP l = some p → l = TL.joinL [47] p := fun {l p} h => by
    unfold readP at h
    split at h
    · cases h
      assumption
    · split at h
      · cases h
        exact (join_cut0 l).symm
      · cases h
  rw [key h, key h']
def w_runs : List Nat := [114, 117, 110, 115]
def w_plain : List Nat := [112, 108, 97, 105, 110]
def w_folder : List Nat := [102, 111, 108, 100, 101, 114]
def w_outside : List Nat := [111, 117, 116, 115, 105, 100, 101]
def w_in : List Nat := [105, 110]
def w_thing : List Nat := [116, 104, 105, 110, 103]
def w_wish : List Nat := [119, 105, 115, 104]
def pathF : List Pt → Option (D × Nat)
  | .qt t :: _ => (readP t).map fun p => (dP p, 1)
  | _ => none
def numF : List Pt → Option (D × Nat)
  | .nm n :: _ => some (.int n, 1)
  | _ => none
def textF : List Pt → Option (D × Nat)
  | .qt t :: _ => some (dS t, 1)
  | _ => none
def runsF : List Pt → Option (D × Nat)
  | .wd w :: _ => if w = w_runs then some (.bl true, 1) else if w = w_plain then some (.bl false, 1) else none
  | _ => none
def spotF : List Pt → Option (D × Nat)
  | .wd w :: r => if w = w_folder ∨ w = w_outside then (match r with
      | .qt t :: _ => (readP t).map fun p => (.tup [dS w, dP p], 2)
      | _ => none)
    else if w = w_in then (match r with
      | .nm n :: .qt t :: _ => (readP t).map fun p => (.tup [.int n, dP p], 3)
      | _ => none)
    else none
  | _ => none
def targetF : List Pt → Option (D × Nat)
  | .wd w :: r => if w = w_thing then (match r with
      | .nm n :: _ => some (.int n, 2)
      | _ => none)
    else spotF (.wd w :: r)
  | _ => none
def formF : Fm → List Pt → Option (D × Nat)
  | .number => numF
  | .text => textF
  | .path => pathF
  | .runs => runsF
  | .spot => spotF
  | .target => targetF
theorem eqv_dS (a b : List Nat) : D.eqv (dS a) (dS b) = decide (a = b) := by
  unfold D.eqv dS D.py
  unfold PyData.eqv
  by_cases h : a = b
  · subst h
    rw [decide_eq_true rfl]
    exact beq_self_eq_true _
  · rw [decide_eq_false h]
    exact beq_eq_false_iff_ne.mpr fun z => h (congrArg (fun x : Str => x.cps.toList) z)
theorem eqvL_dS : ∀ a b : List (List Nat), eqvL (a.map dS) (b.map dS) = decide (a = b)
  | [], [] => rfl
  | [], _ :: _ => rfl
  | _ :: _, [] => rfl
  | x :: a, y :: b => by
    have h1 := eqv_dS x y
    have h2 := eqvL_dS a b
    have : eqvL ((x :: a).map dS) ((y :: b).map dS) = (D.eqv (dS x) (dS y) && eqvL (a.map dS) (b.map dS)) := rfl
    rw [this, h1, h2]
    by_cases e1 : x = y
    · by_cases e2 : a = b
      · rw [e1, e2, decide_eq_true rfl, decide_eq_true rfl, decide_eq_true rfl]
        rfl
      · rw [decide_eq_false e2, Bool.and_false, decide_eq_false fun z => e2 (List.cons.inj z).2]
    · rw [decide_eq_false e1, Bool.false_and, decide_eq_false fun z => e1 (List.cons.inj z).1]
theorem eqv_dP (a b : List (List Nat)) : D.eqv (dP a) (dP b) = decide (a = b) := eqvL_dS a b
theorem eqv_int (a b : Nat) : D.eqv (.int (a : Int)) (.int (b : Int)) = decide (a = b) := by
  unfold D.eqv D.py PyData.eqv
  by_cases h : a = b
  · subst h
    rw [decide_eq_true rfl]
    exact beq_self_eq_true _
  · rw [decide_eq_false h]
    exact beq_eq_false_iff_ne.mpr fun z => h (by omega)
theorem eqv_two (a b c d : D) : D.eqv (.tup [a, b]) (.tup [c, d]) = (D.eqv a c && (D.eqv b d && true)) := rfl
structure FmInj (f : List Pt → Option (D × Nat)) : Prop where
  inj : ∀ ps ps' d d' n n', f ps = some (d, n) → f ps' = some (d', n') → D.eqv d d' = true → n = n' ∧ ps.take n = ps'.take n'
  app : ∀ ps q d n, f ps = some (d, n) → f (ps ++ q) = some (d, n) ∧ n ≤ ps.length ∧ 1 ≤ n
  wds : ∀ ps d n, f ps = some (d, n) → ∀ w, .wd w ∈ ps.take n → 34 ∉ w
theorem inj_num : FmInj numF := by
  refine ⟨fun ps ps' d d' n n' h h' e => ?_, fun ps q d n h => ?_, fun ps d n h w hw => ?_⟩
  · unfold numF at h h'
    split at h
    · split at h'
      · cases h
        cases h'
        rw [eqv_int] at e
        have := of_decide_eq_true e
        subst this
        exact ⟨rfl, rfl⟩
      · cases h'
    · cases h
  · unfold numF at h ⊢
    split at h
    · cases h
      exact ⟨rfl, by rw [List.length_cons]; omega, Nat.le_refl _⟩
    · cases h
  · unfold numF at h
    split at h
    · cases h
      simp at hw
    · cases h
theorem inj_text : FmInj textF := by
  refine ⟨fun ps ps' d d' n n' h h' e => ?_, fun ps q d n h => ?_, fun ps d n h w hw => ?_⟩
  · unfold textF at h h'
    split at h
    · split at h'
      · cases h
        cases h'
        rw [eqv_dS] at e
        have := of_decide_eq_true e
        subst this
        exact ⟨rfl, rfl⟩
      · cases h'
    · cases h
  · unfold textF at h ⊢
    split at h
    · cases h
      exact ⟨rfl, by rw [List.length_cons]; omega, Nat.le_refl _⟩
    · cases h
  · unfold textF at h
    split at h
    · cases h
      simp at hw
    · cases h
theorem inj_path : FmInj pathF := by
  refine ⟨fun ps ps' d d' n n' h h' e => ?_, fun ps q d n h => ?_, fun ps d n h w hw => ?_⟩
  · unfold pathF at h h'
    split at h
    · split at h'
      · obtain ⟨p, hp, e1⟩ := Option.map_eq_some_iff.mp h
        obtain ⟨p', hp', e2⟩ := Option.map_eq_some_iff.mp h'
        cases e1
        cases e2
        rw [eqv_dP] at e
        have := of_decide_eq_true e
        subst this
        have := readP_inj hp hp'
        subst this
        exact ⟨rfl, rfl⟩
      · cases h'
    · cases h
  · unfold pathF at h ⊢
    split at h
    · obtain ⟨p, hp, e1⟩ := Option.map_eq_some_iff.mp h
      cases e1
      rw [List.cons_append]
      simp only [hp]
      exact ⟨rfl, by rw [List.length_cons]; omega, Nat.le_refl _⟩
    · cases h
  · unfold pathF at h
    split at h
    · obtain ⟨p, hp, e1⟩ := Option.map_eq_some_iff.mp h
      cases e1
      simp at hw
    · cases h
theorem inj_runs : FmInj runsF := by
  refine ⟨fun ps ps' d d' n n' h h' e => ?_, fun ps q d n h => ?_, fun ps d n h w hw => ?_⟩
  · unfold runsF at h h'
    split at h
    · split at h'
      · split at h
        · split at h'
          · cases h; cases h'
            subst_vars
            exact ⟨rfl, rfl⟩
          · split at h'
            · cases h; cases h'
              cases e
            · cases h'
        · split at h
          · split at h'
            · cases h; cases h'
              cases e
            · split at h'
              · cases h; cases h'
                subst_vars
                exact ⟨rfl, rfl⟩
              · cases h'
          · cases h
      · cases h'
    · cases h
  · unfold runsF at h ⊢
    split at h
    · rw [List.cons_append]
      refine ⟨h, ?_, ?_⟩
      all_goals
        split at h
        · cases h
          simp
        · split at h
          · cases h
            simp
          · cases h
    · cases h
  · unfold runsF at h
    split at h
    · split at h
      · cases h
        simp at hw
        subst_vars
        decide
      · split at h
        · cases h
          simp at hw
          subst_vars
          decide
        · cases h
    · cases h
theorem spot_cases {ps : List Pt} {d : D} {n : Nat} (h : spotF ps = some (d, n)) : (∃ w t p r, (w = w_folder ∨ w = w_outside) ∧ ps = .wd w :: .qt t :: r ∧ readP t = some p ∧ d = .tup [dS w, dP p] ∧ n = 2) ∨ (∃ m t p r, ps = .wd w_in :: .nm m :: .qt t :: r ∧ readP t = some p ∧ d = .tup [.int m, dP p] ∧ n = 3) := by
  unfold spotF at h
  split at h
  · rename_i w r
    split at h
    · rename_i hw
      split at h
      · rename_i t r'
        obtain ⟨p, hp, e⟩ := Option.map_eq_some_iff.mp h
        cases e
        exact .inl ⟨w, t, p, r', hw, rfl, hp, rfl, rfl⟩
      · cases h
    · split at h
      · rename_i hw
        split at h
        · rename_i m t r'
          obtain ⟨p, hp, e⟩ := Option.map_eq_some_iff.mp h
          cases e
          subst hw
          exact .inr ⟨m, t, p, r', rfl, hp, rfl, rfl⟩
        · cases h
      · cases h
  · cases h
theorem spot1 {w t : List Nat} {p : List (List Nat)} (r : List Pt) (hw : w = w_folder ∨ w = w_outside) (hp : readP t = some p) : spotF (.wd w :: .qt t :: r) = some (.tup [dS w, dP p], 2) := by
  unfold spotF
  simp only [if_pos hw, hp]
  rfl
theorem spot2 {t : List Nat} {p : List (List Nat)} (m : Nat) (r : List Pt) (hp : readP t = some p) : spotF (.wd w_in :: .nm m :: .qt t :: r) = some (.tup [.int m, dP p], 3) := by
  unfold spotF
  simp only [if_neg (show ¬ (w_in = w_folder ∨ w_in = w_outside) by decide), if_true, hp]
  rfl
theorem inj_spot : FmInj spotF := by
  refine ⟨fun ps ps' d d' n n' h h' e => ?_, fun ps q d n h => ?_, fun ps d n h w hw => ?_⟩
  · rcases spot_cases h with ⟨w, t, p, r, hw, rfl, hp, rfl, rfl⟩ | ⟨m, t, p, r, rfl, hp, rfl, rfl⟩
    · rcases spot_cases h' with ⟨w', t', p', r', hw', rfl, hp', rfl, rfl⟩ | ⟨m', t', p', r', rfl, hp', rfl, rfl⟩
      · rw [eqv_two, Bool.and_eq_true, eqv_dS, eqv_dP, Bool.and_true] at e
        have e1 := of_decide_eq_true e.1
        have e2 := of_decide_eq_true e.2
        subst e1 e2
        have := readP_inj hp hp'
        subst this
        exact ⟨rfl, rfl⟩
      · rw [eqv_two, Bool.and_eq_true] at e
        cases e.1
    · rcases spot_cases h' with ⟨w', t', p', r', hw', rfl, hp', rfl, rfl⟩ | ⟨m', t', p', r', rfl, hp', rfl, rfl⟩
      · rw [eqv_two, Bool.and_eq_true] at e
        cases e.1
      · rw [eqv_two, Bool.and_eq_true, eqv_int, eqv_dP, Bool.and_true] at e
        have e1 := of_decide_eq_true e.1
        have e2 := of_decide_eq_true e.2
        subst e1 e2
        have := readP_inj hp hp'
        subst this
        exact ⟨rfl, rfl⟩
  · rcases spot_cases h with ⟨w, t, p, r, hw, rfl, hp, rfl, rfl⟩ | ⟨m, t, p, r, rfl, hp, rfl, rfl⟩
    · exact ⟨spot1 (r ++ q) hw hp, by simp, by decide⟩
    · exact ⟨spot2 m (r ++ q) hp, by simp, by decide⟩
  · rcases spot_cases h with ⟨w', t, p, r, hw', rfl, hp, rfl, rfl⟩ | ⟨m, t, p, r, rfl, hp, rfl, rfl⟩
    · simp at hw
      subst hw
      rcases hw' with rfl | rfl <;> decide
    · simp at hw
      subst hw
      decide
theorem target_cases {ps : List Pt} {d : D} {n : Nat} (h : targetF ps = some (d, n)) : (∃ m r, ps = .wd w_thing :: .nm m :: r ∧ d = .int m ∧ n = 2) ∨ (spotF ps = some (d, n) ∧ ∀ r, ps ≠ .wd w_thing :: r) := by
  unfold targetF at h
  split at h
  · rename_i w r
    split at h
    · rename_i hw
      split at h
      · rename_i m r'
        cases h
        subst hw
        exact .inl ⟨m, r', rfl, rfl, rfl⟩
      · cases h
    · rename_i hw
      exact .inr ⟨h, fun r' z => hw (by cases z; rfl)⟩
  · cases h
theorem target1 (m : Nat) (r : List Pt) : targetF (.wd w_thing :: .nm m :: r) = some (.int m, 2) := by
  unfold targetF
  simp only [if_true]
theorem target2 {ps : List Pt} {d : D} {n : Nat} (h : spotF ps = some (d, n)) : targetF ps = some (d, n) := by
  rcases spot_cases h with ⟨w, t, p, r, hw, rfl, hp, rfl, rfl⟩ | ⟨m, t, p, r, rfl, hp, rfl, rfl⟩
  · unfold targetF
    simp only
    rw [if_neg (by rcases hw with rfl | rfl <;> decide)]
    exact h
  · unfold targetF
    simp only
    rw [if_neg (by decide)]
    exact h
theorem spot_tup {ps : List Pt} {d : D} {n : Nat} (h : spotF ps = some (d, n)) : ∃ a b, d = .tup [a, b] := by
  rcases spot_cases h with ⟨w, t, p, r, hw, rfl, hp, rfl, rfl⟩ | ⟨m, t, p, r, rfl, hp, rfl, rfl⟩ <;> exact ⟨_, _, rfl⟩
theorem inj_target : FmInj targetF := by
  refine ⟨fun ps ps' d d' n n' h h' e => ?_, fun ps q d n h => ?_, fun ps d n h w hw => ?_⟩
  · rcases target_cases h with ⟨m, r, rfl, rfl, rfl⟩ | ⟨h1, _⟩
    · rcases target_cases h' with ⟨m', r', rfl, rfl, rfl⟩ | ⟨h2, _⟩
      · rw [eqv_int] at e
        have := of_decide_eq_true e
        subst this
        exact ⟨rfl, rfl⟩
      · obtain ⟨a, b, rfl⟩ := spot_tup h2
        cases e
    · rcases target_cases h' with ⟨m', r', rfl, rfl, rfl⟩ | ⟨h2, _⟩
      · obtain ⟨a, b, rfl⟩ := spot_tup h1
        cases e
      · exact inj_spot.inj ps ps' d d' n n' h1 h2 e
  · rcases target_cases h with ⟨m, r, rfl, rfl, rfl⟩ | ⟨h1, _⟩
    · exact ⟨target1 m (r ++ q), by simp, by decide⟩
    · obtain ⟨a, b⟩ := inj_spot.app ps q d n h1
      exact ⟨target2 a, b⟩
  · rcases target_cases h with ⟨m, r, rfl, rfl, rfl⟩ | ⟨h1, _⟩
    · simp at hw
      subst hw
      decide
    · exact inj_spot.wds ps d n h1 w hw
theorem inj_fm (f : Fm) : FmInj (formF f) := by
  cases f
  · exact inj_num
  · exact inj_text
  · exact inj_path
  · exact inj_runs
  · exact inj_spot
  · exact inj_target
def formsF : List Fm → List Pt → Option (List D)
  | [], [] => some []
  | [], _ :: _ => none
  | f :: fs, ps => match formF f ps with
    | none => none
    | some (d, n) => (formsF fs (ps.drop n)).map (d :: ·)
theorem forms_cons {f : Fm} {fs : List Fm} {ps : List Pt} {ds : List D} (h : formsF (f :: fs) ps = some ds) : ∃ d n es, formF f ps = some (d, n) ∧ formsF fs (ps.drop n) = some es ∧ ds = d :: es := by
  unfold formsF at h
  split at h
  · cases h
  · rename_i d n e
    obtain ⟨es, h1, h2⟩ := Option.map_eq_some_iff.mp h
    exact ⟨d, n, es, e, h1, h2.symm⟩
theorem forms_mk {f : Fm} {fs : List Fm} {ps : List Pt} {d : D} {n : Nat} {es : List D} (h : formF f ps = some (d, n)) (h' : formsF fs (ps.drop n) = some es) : formsF (f :: fs) ps = some (d :: es) := by
  unfold formsF
  rw [h]
  simp only [h', Option.map_some]
theorem forms_inj : ∀ (fs : List Fm) (ps ps' : List Pt) (ds ds' : List D), formsF fs ps = some ds → formsF fs ps' = some ds' → eqvL ds ds' = true → ps = ps'
  | [], [], ps', ds, ds', h, h', e => by
    cases ps' with
    | nil => rfl
    | cons _ _ => cases h'
  | [], _ :: _, ps', ds, ds', h, h', e => by cases h
  | f :: fs, ps, ps', ds, ds', h, h', e => by
    obtain ⟨d, n, es, h1, h2, rfl⟩ := forms_cons h
    obtain ⟨d', n', es', h3, h4, rfl⟩ := forms_cons h'
    have e : (D.eqv d d' && eqvL es es') = true := e
    rw [Bool.and_eq_true] at e
    obtain ⟨rfl, q⟩ := (inj_fm f).inj ps ps' d d' n n' h1 h3 e.1
    have := forms_inj fs _ _ es es' h2 h4 e.2
    rw [← List.take_append_drop n ps, ← List.take_append_drop n ps', q, this]
theorem forms_more : ∀ (fs : List Fm) (ps q : List Pt) (ds : List D), formsF fs ps = some ds → q ≠ [] → formsF fs (ps ++ q) = none
  | [], [], q, ds, h, hq => by
    cases q with
    | nil => exact absurd rfl hq
    | cons _ _ => rfl
  | [], _ :: _, q, ds, h, hq => by cases h
  | f :: fs, ps, q, ds, h, hq => by
    obtain ⟨d, n, es, h1, h2, rfl⟩ := forms_cons h
    obtain ⟨a, b, _⟩ := (inj_fm f).app ps q d n h1
    have ih := forms_more fs (ps.drop n) q es h2 hq
    unfold formsF
    rw [a]
    simp only
    rw [List.drop_append_of_le_length b, ih]
    rfl
theorem forms_wds : ∀ (fs : List Fm) (ps : List Pt) (ds : List D), formsF fs ps = some ds → ∀ w, .wd w ∈ ps → 34 ∉ w
  | [], [], ds, h, w, hw => by cases hw
  | [], _ :: _, ds, h, w, hw => by cases h
  | f :: fs, ps, ds, h, w, hw => by
    obtain ⟨d, n, es, h1, h2, rfl⟩ := forms_cons h
    rw [← List.take_append_drop n ps] at hw
    rcases List.mem_append.mp hw with z | z
    · exact (inj_fm f).wds ps d n h1 w z
    · exact forms_wds fs _ es h2 w z
abbrev Tab := List (List Nat × List Fm)
def at_ (t : Tab) (w : List Nat) : Option (List Fm) := (t.find? fun p => decide (p.1 = w)).map (·.2)
theorem at_mem {t : Tab} {w : List Nat} {fs : List Fm} (h : at_ t w = some fs) : w ∈ t.map (·.1) := by
  unfold at_ at h
  obtain ⟨p, hp, _⟩ := Option.map_eq_some_iff.mp h
  have h1 := List.find?_some hp
  exact List.mem_map.mpr ⟨p, List.mem_of_find?_eq_some hp, of_decide_eq_true h1⟩
def codes (s : String) : List Nat := s.toList.map Char.toNat
def deedsT : Tab := [(codes "make", [.spot, .text, .runs]), (codes "make_folder", [.spot]), (codes "make_other", [.spot]), (codes "remove", [.spot]), (codes "remove_folder", [.spot]), (codes "rename", [.spot, .spot]), (codes "cut", [.target]), (codes "write", [.target, .number, .text]), (codes "set_runs", [.target, .runs]), (codes "read", [.target]), (codes "open", [.spot]), (codes "close", [.number])]
def wishesT : Tab := [(codes "scan", []), (codes "put_away", [.path, .number]), (codes "fetch", [.path]), (codes "trim", [.number]), (codes "restore", [.number, .path])]
def onT : Tab := [(codes "step", []), (codes "refuse", []), (codes "unanswered", []), (codes "crash", []), (codes "speak", [.number])]
def letT : Tab := [(codes "deliver", [.number]), (codes "lose", [.number]), (codes "again", [.number])]
def behF (t : Tab) (ps : List Pt) : Option (List Nat × List D) := match ps with
  | .wd w :: r => match at_ t w with
    | none => none
    | some fs => (formsF fs r).map fun ds => (w, ds)
  | _ => none
theorem beh_cases {t : Tab} {ps : List Pt} {w : List Nat} {ds : List D} (h : behF t ps = some (w, ds)) : ∃ r fs, ps = .wd w :: r ∧ at_ t w = some fs ∧ formsF fs r = some ds := by
  unfold behF at h
  split at h
  · rename_i w' r
    split at h
    · cases h
    · rename_i fs e
      obtain ⟨ds', h1, h2⟩ := Option.map_eq_some_iff.mp h
      cases h2
      exact ⟨r, fs, rfl, e, h1⟩
  · cases h
theorem beh_mk {t : Tab} {r : List Pt} {w : List Nat} {fs : List Fm} {ds : List D} (h : at_ t w = some fs) (h' : formsF fs r = some ds) : behF t (.wd w :: r) = some (w, ds) := by
  unfold behF
  simp only [h, h']
  rfl
def devF (n : Nat) (ps : List Pt) : Option D :=
  if ps.head? = some (.wd w_wish) then (behF wishesT ps.tail).map fun p => .tup [dS w_wish, .int n, .tup (dS p.1 :: p.2)]
  else match behF deedsT ps with
    | some p => some (.tup [dS (codes "program"), .int n, .tup (dS p.1 :: p.2)])
    | none => (behF onT ps).map fun p => .tup (dS p.1 :: .int n :: p.2)
def evF (ps : List Pt) : Option D := match ps with
  | .nm n :: r => devF n r
  | ps => (behF letT ps).map fun p => .tup (dS p.1 :: p.2)
inductive EvK : List Pt → D → Prop
  | wish {n : Nat} {w : List Nat} {fs : List Fm} {r : List Pt} {ds : List D} : at_ wishesT w = some fs → formsF fs r = some ds → EvK (.nm n :: .wd w_wish :: .wd w :: r) (.tup [dS w_wish, .int n, .tup (dS w :: ds)])
  | prog {n : Nat} {w : List Nat} {fs : List Fm} {r : List Pt} {ds : List D} : at_ deedsT w = some fs → formsF fs r = some ds → EvK (.nm n :: .wd w :: r) (.tup [dS (codes "program"), .int n, .tup (dS w :: ds)])
  | dev {n : Nat} {w : List Nat} {fs : List Fm} {r : List Pt} {ds : List D} : at_ onT w = some fs → formsF fs r = some ds → EvK (.nm n :: .wd w :: r) (.tup (dS w :: .int n :: ds))
  | lett {w : List Nat} {fs : List Fm} {r : List Pt} {ds : List D} : at_ letT w = some fs → formsF fs r = some ds → EvK (.wd w :: r) (.tup (dS w :: ds))
theorem ev_k {ps : List Pt} {e : D} (h : evF ps = some e) : EvK ps e := by
  unfold evF at h
  split at h
  · rename_i n r
    unfold devF at h
    split at h
    · rename_i hh
      cases r with
      | nil => cases hh
      | cons p r =>
        cases hh
        obtain ⟨q, hq, e1⟩ := Option.map_eq_some_iff.mp h
        obtain ⟨w, ds⟩ := q
        obtain ⟨r', fs, hr, h1, h2⟩ := beh_cases hq
        have hr : r = .wd w :: r' := hr
        subst hr
        cases e1
        exact .wish h1 h2
    · split at h
      · rename_i p hp
        obtain ⟨w, ds⟩ := p
        obtain ⟨r', fs, rfl, h1, h2⟩ := beh_cases hp
        cases h
        exact .prog h1 h2
      · obtain ⟨q, hq, e1⟩ := Option.map_eq_some_iff.mp h
        obtain ⟨w, ds⟩ := q
        obtain ⟨r', fs, rfl, h1, h2⟩ := beh_cases hq
        cases e1
        exact .dev h1 h2
  · obtain ⟨q, hq, e1⟩ := Option.map_eq_some_iff.mp h
    obtain ⟨w, ds⟩ := q
    obtain ⟨r', fs, rfl, h1, h2⟩ := beh_cases hq
    cases e1
    exact .lett h1 h2
theorem beh_none {t : Tab} {w : List Nat} {r : List Pt} (h : at_ t w = none) : behF t (.wd w :: r) = none := by
  unfold behF
  simp only [h]
theorem on_deed : ∀ w ∈ onT.map (·.1), at_ deedsT w = none ∧ w ≠ w_wish := by decide
theorem deed_wish : ∀ w ∈ deedsT.map (·.1), w ≠ w_wish ∧ at_ onT w = none := by decide
theorem k_ev {ps : List Pt} {e : D} (h : EvK ps e) : evF ps = some e := by
  cases h with
  | @wish n w fs r ds h1 h2 =>
    show devF n _ = _
    unfold devF
    refine (if_pos rfl).trans ?_
    show (behF wishesT (.wd w :: r)).map _ = _
    rw [beh_mk h1 h2]
    rfl
  | @prog n w fs r ds h1 h2 =>
    show devF n _ = _
    unfold devF
    rw [if_neg (fun z => (deed_wish w (at_mem h1)).1 (by cases z; rfl)), beh_mk h1 h2]
  | @dev n w fs r ds h1 h2 =>
    show devF n _ = _
    unfold devF
    rw [if_neg (fun z => (on_deed w (at_mem h1)).2 (by cases z; rfl)), beh_none (on_deed w (at_mem h1)).1, beh_mk h1 h2]
    rfl
  | @lett w fs r ds h1 h2 =>
    show (behF letT (.wd w :: r)).map _ = _
    rw [beh_mk h1 h2]
    rfl
theorem ev_more {ps q : List Pt} {e : D} (h : evF ps = some e) (hq : q ≠ []) : evF (ps ++ q) = none := by
  cases ev_k h with
  | @wish n w fs r ds h1 h2 =>
    show devF n (.wd w_wish :: .wd w :: (r ++ q)) = _
    unfold devF
    refine (if_pos rfl).trans ?_
    show (behF wishesT (.wd w :: (r ++ q))).map _ = _
    unfold behF
    simp only [h1, forms_more fs r q ds h2 hq]
    rfl
  | @prog n w fs r ds h1 h2 =>
    show devF n (.wd w :: (r ++ q)) = _
    unfold devF
    rw [if_neg (fun z => (deed_wish w (at_mem h1)).1 (by cases z; rfl))]
    have : behF deedsT (.wd w :: (r ++ q)) = none := by
      unfold behF
      simp only [h1, forms_more fs r q ds h2 hq]
      rfl
    rw [this, beh_none (deed_wish w (at_mem h1)).2]
    rfl
  | @dev n w fs r ds h1 h2 =>
    show devF n (.wd w :: (r ++ q)) = _
    unfold devF
    rw [if_neg (fun z => (on_deed w (at_mem h1)).2 (by cases z; rfl)), beh_none (on_deed w (at_mem h1)).1]
    have : behF onT (.wd w :: (r ++ q)) = none := by
      unfold behF
      simp only [h1, forms_more fs r q ds h2 hq]
      rfl
    rw [this]
    rfl
  | @lett w fs r ds h1 h2 =>
    show (behF letT (.wd w :: (r ++ q))).map _ = _
    unfold behF
    simp only [h1, forms_more fs r q ds h2 hq]
    rfl
theorem key_noq : (∀ w ∈ wishesT.map (·.1), 34 ∉ w) ∧ (∀ w ∈ deedsT.map (·.1), 34 ∉ w) ∧ (∀ w ∈ onT.map (·.1), 34 ∉ w) ∧ ∀ w ∈ letT.map (·.1), 34 ∉ w := by decide
theorem ev_wds {ps : List Pt} {e : D} (h : evF ps = some e) : ∀ w, .wd w ∈ ps → 34 ∉ w := by
  intro w hw
  cases ev_k h with
  | @wish n v fs r ds h1 h2 =>
    simp only [List.mem_cons] at hw
    rcases hw with hw | hw | hw | hw
    · cases hw
    · cases hw; decide
    · cases hw; exact key_noq.1 _ (at_mem h1)
    · exact forms_wds fs r ds h2 w hw
  | @prog n v fs r ds h1 h2 =>
    simp only [List.mem_cons] at hw
    rcases hw with hw | hw | hw
    · cases hw
    · cases hw; exact key_noq.2.1 _ (at_mem h1)
    · exact forms_wds fs r ds h2 w hw
  | @dev n v fs r ds h1 h2 =>
    simp only [List.mem_cons] at hw
    rcases hw with hw | hw | hw
    · cases hw
    · cases hw; exact key_noq.2.2.1 _ (at_mem h1)
    · exact forms_wds fs r ds h2 w hw
  | @lett v fs r ds h1 h2 =>
    simp only [List.mem_cons] at hw
    rcases hw with hw | hw
    · cases hw; exact key_noq.2.2.2 _ (at_mem h1)
    · exact forms_wds fs r ds h2 w hw
theorem eqvL_cons (a b : D) (as bs : List D) : eqvL (a :: as) (b :: bs) = (D.eqv a b && eqvL as bs) := rfl
theorem eqv_tup (as bs : List D) : D.eqv (.tup as) (.tup bs) = eqvL as bs := rfl
theorem on_prog : ∀ w ∈ onT.map (·.1), w ≠ codes "program" ∧ w ≠ w_wish ∧ w ∉ letT.map (·.1) := by decide
theorem let_prog : ∀ w ∈ letT.map (·.1), w ≠ codes "program" ∧ w ≠ w_wish ∧ w ∉ onT.map (·.1) := by decide
theorem ev_inj {ps ps' : List Pt} {e e' : D} (h : evF ps = some e) (h' : evF ps' = some e') (q : D.eqv e e' = true) : ps = ps' := by
  have pw : codes "program" ≠ w_wish := by decide
  cases ev_k h with
  | @wish n w fs r ds h1 h2 =>
    cases ev_k h' with
    | @wish n' w' fs' r' ds' h3 h4 =>
      simp only [eqv_tup, eqvL_cons, Bool.and_eq_true, eqv_dS, eqv_int, decide_eq_true_eq] at q
      obtain ⟨_, rfl, ⟨rfl, q⟩, _⟩ := q
      rw [h1] at h3
      cases h3
      rw [forms_inj fs r r' ds ds' h2 h4 q]
    | @prog n' w' fs' r' ds' h3 h4 =>
      simp only [eqv_tup, eqvL_cons, Bool.and_eq_true, eqv_dS, decide_eq_true_eq] at q
      exact absurd q.1.symm pw
    | @dev n' w' fs' r' ds' h3 h4 =>
      simp only [eqv_tup, eqvL_cons, Bool.and_eq_true, eqv_dS, decide_eq_true_eq] at q
      exact absurd q.1.symm (on_prog w' (at_mem h3)).2.1
    | @lett w' fs' r' ds' h3 h4 =>
      simp only [eqv_tup, eqvL_cons, Bool.and_eq_true, eqv_dS, decide_eq_true_eq] at q
      exact absurd q.1.symm (let_prog w' (at_mem h3)).2.1
  | @prog n w fs r ds h1 h2 =>
    cases ev_k h' with
    | @wish n' w' fs' r' ds' h3 h4 =>
      simp only [eqv_tup, eqvL_cons, Bool.and_eq_true, eqv_dS, decide_eq_true_eq] at q
      exact absurd q.1 pw
    | @prog n' w' fs' r' ds' h3 h4 =>
      simp only [eqv_tup, eqvL_cons, Bool.and_eq_true, eqv_dS, eqv_int, decide_eq_true_eq] at q
      obtain ⟨_, rfl, ⟨rfl, q⟩, _⟩ := q
      rw [h1] at h3
      cases h3
      rw [forms_inj fs r r' ds ds' h2 h4 q]
    | @dev n' w' fs' r' ds' h3 h4 =>
      simp only [eqv_tup, eqvL_cons, Bool.and_eq_true, eqv_dS, decide_eq_true_eq] at q
      exact absurd q.1.symm (on_prog w' (at_mem h3)).1
    | @lett w' fs' r' ds' h3 h4 =>
      simp only [eqv_tup, eqvL_cons, Bool.and_eq_true, eqv_dS, decide_eq_true_eq] at q
      exact absurd q.1.symm (let_prog w' (at_mem h3)).1
  | @dev n w fs r ds h1 h2 =>
    cases ev_k h' with
    | @wish n' w' fs' r' ds' h3 h4 =>
      simp only [eqv_tup, eqvL_cons, Bool.and_eq_true, eqv_dS, decide_eq_true_eq] at q
      exact absurd q.1 (on_prog w (at_mem h1)).2.1
    | @prog n' w' fs' r' ds' h3 h4 =>
      simp only [eqv_tup, eqvL_cons, Bool.and_eq_true, eqv_dS, decide_eq_true_eq] at q
      exact absurd q.1 (on_prog w (at_mem h1)).1
    | @dev n' w' fs' r' ds' h3 h4 =>
      simp only [eqv_tup, eqvL_cons, Bool.and_eq_true, eqv_dS, eqv_int, decide_eq_true_eq] at q
      obtain ⟨rfl, rfl, q⟩ := q
      rw [h1] at h3
      cases h3
      rw [forms_inj fs r r' ds ds' h2 h4 q]
    | @lett w' fs' r' ds' h3 h4 =>
      simp only [eqv_tup, eqvL_cons, Bool.and_eq_true, eqv_dS, decide_eq_true_eq] at q
      exact absurd (at_mem h1) (q.1 ▸ (let_prog w' (at_mem h3)).2.2)
  | @lett w fs r ds h1 h2 =>
    cases ev_k h' with
    | @wish n' w' fs' r' ds' h3 h4 =>
      simp only [eqv_tup, eqvL_cons, Bool.and_eq_true, eqv_dS, decide_eq_true_eq] at q
      exact absurd q.1 (let_prog w (at_mem h1)).2.1
    | @prog n' w' fs' r' ds' h3 h4 =>
      simp only [eqv_tup, eqvL_cons, Bool.and_eq_true, eqv_dS, decide_eq_true_eq] at q
      exact absurd q.1 (let_prog w (at_mem h1)).1
    | @dev n' w' fs' r' ds' h3 h4 =>
      simp only [eqv_tup, eqvL_cons, Bool.and_eq_true, eqv_dS, decide_eq_true_eq] at q
      exact absurd (at_mem h3) (q.1 ▸ (let_prog w (at_mem h1)).2.2)
    | @lett w' fs' r' ds' h3 h4 =>
      simp only [eqv_tup, eqvL_cons, Bool.and_eq_true, eqv_dS, decide_eq_true_eq] at q
      obtain ⟨rfl, q⟩ := q
      rw [h1] at h3
      cases h3
      rw [forms_inj fs r r' ds ds' h2 h4 q]
def lineF (l : List Nat) : Option D := (PL l).bind evF
theorem line_inj {l l' : List Nat} {e e' : D} (h : lineF l = some e) (h' : lineF l' = some e') (q : D.eqv e e' = true) : l = l' := by
  obtain ⟨ps, h1, h2⟩ := Option.bind_eq_some_iff.mp h
  obtain ⟨ps', h3, h4⟩ := Option.bind_eq_some_iff.mp h'
  have := ev_inj h2 h4 q
  subst this
  exact PL_inj l.length l l' ps (Nat.le_refl _) h1 h3
theorem line_sp (l : List Nat) : lineF (32 :: l) = none := by
  unfold lineF
  rw [PL_none]
  · rfl
  unfold partL
  rw [if_neg (by simp)]
  rfl
theorem line_end {l : List Nat} {e : D} (h : lineF l = some e) : lineF (l ++ [32]) = none := by
  obtain ⟨ps, h1, h2⟩ := Option.bind_eq_some_iff.mp h
  unfold lineF
  rw [PL_app l.length l [] ps (Nat.le_refl _) h1]
  rfl
theorem line_x {l : List Nat} {e : D} (h : lineF l = some e) : lineF (l ++ [32, 120]) = none := by
  obtain ⟨ps, h1, h2⟩ := Option.bind_eq_some_iff.mp h
  unfold lineF
  have hx : PL [120] = some [.wd [120]] := by decide
  rw [PL_app l.length l [120] ps (Nat.le_refl _) h1, hx]
  exact ev_more h2 (by simp)
theorem line_q {l : List Nat} {e : D} (h : lineF l = some e) : lineF (l ++ [34]) = none := by
  obtain ⟨ps, h1, h2⟩ := Option.bind_eq_some_iff.mp h
  unfold lineF
  rcases PL_quo l.length l ps (Nat.le_refl _) h1 with z | ⟨qs, w, z⟩
  · rw [z]
    rfl
  · rw [z]
    show evF _ = none
    cases hx : evF (qs ++ [.wd (w ++ [34])]) with
    | none => rfl
    | some e' => exact absurd (List.mem_append_right _ List.mem_cons_self) (ev_wds hx (w ++ [34]) (by simp))
theorem line_0 {l : List Nat} {e : D} (c : Nat) (hc : isDig c = true) : lineF (48 :: c :: l) = none := by
  have hcc : 48 ≤ c ∧ c ≤ 57 := by
    unfold isDig at hc
    rw [Bool.and_eq_true] at hc
    exact ⟨of_decide_eq_true hc.1, of_decide_eq_true hc.2⟩
  unfold lineF
  rw [PL_none]
  · rfl
  unfold partL
  rw [if_neg (by simp)]
  have h1 : notSp 48 = true := by decide
  have h2 : notSp c = true := decide_eq_true (by omega)
  rw [List.takeWhile_cons, if_pos h1, List.takeWhile_cons, if_pos h2]
  unfold wordL
  simp only [show isDig 48 = true by decide, if_true]
  cases hn : numL (48 :: c :: List.takeWhile notSp l) with
  | none => rfl
  | some n =>
    rcases (num_dig hn).2.2 with z | z
    · cases z
    · exact absurd rfl z
theorem occ_full (s sub : Str) (hi : Nat) : ∀ (l : List Nat) (st : Array Nat × Nat), 1 ≤ st.fst.size → (forIn l st (StrLaws.occBody s sub hi 1)).run.fst = st.fst
  | [], st, _ => rfl
  | a :: l, st, h => by
    rw [List.forIn_cons]
    unfold StrLaws.occBody
    rw [if_neg fun z => by have := z.1.1.1; omega]
    exact occ_full s sub hi l _ h
theorem occ_first (x : List Nat) (c : Nat) : ∀ (n lo free : Nat), lo + n = x.length + 1 → free ≤ lo → (forIn (List.range' lo n) ((#[] : Array Nat), free) (StrLaws.occBody (SX.S x) (SX.S [c]) x.length 1)).run.fst.toList = if c ∈ x.drop lo then [lo + ((x.drop lo).takeWhile fun a => decide (a ≠ c)).length] else []
  | 0, lo, free, h, _ => by
    rw [List.drop_eq_nil_of_le (by omega)]
    rfl
  | n + 1, lo, free, h, hf => by
    rw [List.range'_succ, List.forIn_cons]
    have h1 := StrLaws.subAt_one (SX.S x) c lo
    by_cases hc : x[lo]? = some c
    · have h2 := h1.mpr hc
      have hlt := (List.getElem?_eq_some_iff.mp hc).1
      have hd : x.drop lo = c :: x.drop (lo + 1) := by
        rw [List.drop_eq_getElem_cons hlt, (List.getElem?_eq_some_iff.mp hc).2]
      have e : StrLaws.occBody (SX.S x) (SX.S [c]) x.length 1 lo ((#[] : Array Nat), free) = pure (ForInStep.yield ((#[] : Array Nat).push lo, lo + (SX.S [c]).length)) := by
        unfold StrLaws.occBody
        exact if_pos ⟨⟨⟨by simp, hf⟩, by rw [← len_S x]; exact h2.1⟩, h2.2⟩
      rw [e]
      show ((forIn (List.range' (lo + 1) n) (((#[] : Array Nat).push lo, lo + (SX.S [c]).length)) (StrLaws.occBody (SX.S x) (SX.S [c]) x.length 1)).run.fst).toList = _
      rw [occ_full _ _ _ _ _ (by simp), hd, if_pos List.mem_cons_self, List.takeWhile_cons_of_neg (by simp)]
      rfl
    · have e : StrLaws.occBody (SX.S x) (SX.S [c]) x.length 1 lo ((#[] : Array Nat), free) = pure (ForInStep.yield ((#[] : Array Nat), free)) := by
        unfold StrLaws.occBody
        exact if_neg fun z => hc (h1.mp ⟨by rw [len_S x]; exact z.1.2, z.2⟩)
      rw [e]
      show ((forIn (List.range' (lo + 1) n) ((#[] : Array Nat), free) (StrLaws.occBody (SX.S x) (SX.S [c]) x.length 1)).run.fst).toList = _
      rw [occ_first x c n (lo + 1) free (by omega) (by omega)]
      by_cases hl : lo < x.length
      · have hd : x.drop lo = x[lo] :: x.drop (lo + 1) := List.drop_eq_getElem_cons hl
        have ha : x[lo] ≠ c := fun z => hc (by rw [List.getElem?_eq_getElem hl, z])
        rw [hd, List.takeWhile_cons_of_pos (by simpa using ha), List.length_cons]
        by_cases hm : c ∈ x.drop (lo + 1)
        · rw [if_pos hm, if_pos (List.mem_cons_of_mem _ hm)]
          congr 1
          omega
        · rw [if_neg hm, if_neg fun z => (List.mem_cons.mp z).elim (fun z => ha z.symm) hm]
      · rw [List.drop_eq_nil_of_le (by omega), List.drop_eq_nil_of_le (by omega)]
        rfl
theorem find3_is (x : List Nat) (c i : Nat) (h : i ≤ x.length) : Txt.find3 (SX.S x) (SX.S [c]) (i : Int) = if c ∈ x.drop i then ((i + ((x.drop i).takeWhile fun a => decide (a ≠ c)).length : Nat) : Int) else -1 := by
  unfold Txt.find3
  have e : fromIndex (SX.S x).length (i : Int) = i := by
    unfold fromIndex
    rw [if_neg (by omega)]
    omega
  rw [e, StrLaws.occ_eq, len_S, occ_first x c (x.length + 1 - i) i i (by omega) (Nat.le_refl _)]
  by_cases hm : c ∈ x.drop i
  · rw [if_pos hm, if_pos hm]
  · rw [if_neg hm, if_neg hm]
theorem tw_none (c : Nat) : ∀ l : List Nat, c ∉ l → l.takeWhile (fun a => decide (a ≠ c)) = l
  | [], _ => rfl
  | a :: l, h => by
    rw [List.takeWhile_cons_of_pos (by simpa using fun z : a = c => h (by rw [z]; exact List.mem_cons_self)), tw_none c l fun z => h (List.mem_cons_of_mem _ z)]
theorem occ_ne (s sub : Str) (hi limit : Nat) (hl : 1 ≤ limit) : ∀ (l : List Nat), (∃ i ∈ l, i + sub.length ≤ hi ∧ Builtin.Str.subAt s sub i = true) → (forIn l ((#[] : Array Nat), 0) (StrLaws.occBody s sub hi limit)).run.fst ≠ #[]
  | [], h => by
    obtain ⟨i, hi, _⟩ := h
    cases hi
  | a :: l, h => by
    rw [List.forIn_cons]
    by_cases hc : a + sub.length ≤ hi ∧ Builtin.Str.subAt s sub a = true
    · have e : StrLaws.occBody s sub hi limit a ((#[] : Array Nat), 0) = pure (ForInStep.yield ((#[] : Array Nat).push a, a + sub.length)) := by
        unfold StrLaws.occBody
        exact if_pos ⟨⟨⟨by show 0 < limit; omega, Nat.zero_le _⟩, hc.1⟩, hc.2⟩
      rw [e]
      exact StrLaws.occ_grows s sub hi limit l _ (by simp)
    · have e : StrLaws.occBody s sub hi limit a ((#[] : Array Nat), 0) = pure (ForInStep.yield ((#[] : Array Nat), 0)) := by
        unfold StrLaws.occBody
        exact if_neg fun z => hc ⟨z.1.2, z.2⟩
      rw [e]
      refine occ_ne s sub hi limit hl l ?_
      obtain ⟨i, hm, h2⟩ := h
      rcases List.mem_cons.mp hm with rfl | hm
      · exact absurd h2 hc
      · exact ⟨i, hm, h2⟩
theorem repl_ne {x : List Nat} (h : 32 ∈ x) : Txt.replace (SX.S x) (SX.S [32]) (SX.S [32, 32]) ≠ SX.S x ∧ (Txt.replace (SX.S x) (SX.S [32]) (SX.S [32, 32])).length ≤ x.length + (x.length + 1) * 2 := by
  have hl := TK.replace_len (SX.S x) (SX.S [32]) (SX.S [32, 32])
  rw [len_S x] at hl
  refine ⟨fun e => ?_, hl⟩
  have hne : Builtin.Str.occurrences (SX.S x) (SX.S [32]) 0 (SX.S x).length ((SX.S x).length + 1) ≠ [] := fun z => by
    have h2 := StrLaws.occ_eq (SX.S x) (SX.S [32]) 0 (SX.S x).length ((SX.S x).length + 1)
    rw [z] at h2
    refine occ_ne (SX.S x) (SX.S [32]) (SX.S x).length ((SX.S x).length + 1) (by omega) (List.range' 0 ((SX.S x).length + 1 - 0)) ?_ (by
      have := h2.symm
      simpa using this)
    obtain ⟨i, hi⟩ := List.mem_iff_getElem?.mp h
    have hlt := (List.getElem?_eq_some_iff.mp hi).1
    exact ⟨i, by rw [len_S, List.mem_range']; exact ⟨i, by omega, by omega⟩, (StrLaws.subAt_one (SX.S x) 32 i).mpr hi⟩
  have hy : (Builtin.Str.glued (SX.S [32]) (Builtin.Str.partsBetween (SX.S x) (Builtin.Str.occurrences (SX.S x) (SX.S [32]) 0 (SX.S x).length ((SX.S x).length + 1)) (SX.S [32]).length)).length = (SX.S x).length := by rw [StrLaws.glued_between_self]
  rw [PySem.size_glued, PySem.length_partsBetween, Nat.add_sub_cancel] at hy
  unfold Txt.replace at e
  generalize Builtin.Str.occurrences (SX.S x) (SX.S [32]) 0 (SX.S x).length ((SX.S x).length + 1) = os at hne hy e
  cases os with
  | nil => exact hne rfl
  | cons o os =>
    have e2 := congrArg Str.length e
    rw [if_neg (by show ¬ (false || ((1 : Nat) == 0 && (2 : Nat) == 0)) = true; decide)] at e2
    rw [PySem.size_glued, PySem.length_partsBetween, Nat.add_sub_cancel] at e2
    have h1 : (SX.S [32]).length = 1 := rfl
    have h2 : (SX.S [32, 32]).length = 2 := rfl
    rw [h1] at hy e2
    rw [h2] at e2
    rw [List.length_cons] at hy e2
    omega
end Par
namespace Ln
open PySem PySem.Spec PyProof.Rows L2 Evl Lw
theorem FoldR.split : ∀ {x y : List Edit} {a c : List Line}, FoldR a (x ++ y) c → ∃ b, FoldR a x b ∧ FoldR b y c
  | [], y, a, c, h => ⟨a, .nil a, h⟩
  | e :: x, y, a, c, h => by
    cases h with
    | cons h1 h2 =>
      obtain ⟨b, h3, h4⟩ := FoldR.split h2
      exact ⟨b, .cons h1 h3, h4⟩
theorem FoldR.snoc {ls l1 l2 : List Line} {es : List Edit} {e : Edit} (h : FoldR ls es l1) (h2 : AftR l1 e l2) : FoldR ls (es ++ [e]) l2 := by
  induction h with
  | nil ls => exact .cons h2 (.nil _)
  | cons h1 _ ih => exact .cons h1 (ih h2)
end Ln
namespace Ln
open PySem PySem.Spec PyProof.Rows L2 Evl Lw
section
variable {ls : List Line} {U : List Id}
end
inductive Reach (ls : List Line) : Option Id → Prop where
  | root : Reach ls none
  | step {l : Line} : l ∈ ls → Reach ls l.ins → Reach ls (some l.id)
def kids (ls : List Line) (o : Option Id) : List Id := (ls.filter fun l => decide (l.ins = o)).map (·.id)
theorem mem_kids {ls : List Line} {o : Option Id} {i : Id} : i ∈ kids ls o ↔ ∃ l ∈ ls, l.ins = o ∧ l.id = i := by
  unfold kids
  rw [List.mem_map]
  constructor
  · rintro ⟨l, hl, e⟩
    rw [List.mem_filter] at hl
    exact ⟨l, hl.1, of_decide_eq_true hl.2, e⟩
  · rintro ⟨l, hl, h, e⟩
    exact ⟨l, List.mem_filter.mpr ⟨hl, decide_eq_true h⟩, e⟩
theorem kids_nd {ls : List Line} (h : (ls.map (·.id)).Nodup) (o : Option Id) : (kids ls o).Nodup := (List.filter_sublist.map _).nodup h
structure Bfs (ls : List Line) (dn W : List (Option Id)) (r : Int) : Prop where
  nd : (dn ++ W).Nodup
  rt : none ∈ dn ++ W
  re : ∀ o ∈ dn ++ W, Reach ls o
  par : ∀ i, some i ∈ dn ++ W → ∃ l ∈ ls, l.id = i ∧ l.ins ∈ dn
  kid : ∀ o ∈ dn, ∀ l ∈ ls, l.ins = o → some l.id ∈ dn ++ W
  cnt : r + 1 = ((dn ++ W).length : Int)
theorem Bfs.start (ls : List Line) : Bfs ls [] [none] 0 := by
  refine ⟨by simp, by simp, fun o ho => ?_, fun i hi => by simp at hi, fun o ho => (by cases ho), rfl⟩
  rw [List.nil_append, List.mem_singleton] at ho
  rw [ho]
  exact .root
def allK (ls : List Line) : List (Option Id) := none :: ls.map fun l => some l.id
theorem Bfs.sub {ls : List Line} {dn W : List (Option Id)} {r : Int} (b : Bfs ls dn W r) : ∀ o ∈ dn ++ W, o ∈ allK ls := fun o ho => by
  cases o with
  | none => exact List.mem_cons_self
  | some i =>
    obtain ⟨l, hl, rfl, _⟩ := b.par i ho
    exact List.mem_cons_of_mem _ (List.mem_map.mpr ⟨l, hl, rfl⟩)
theorem Bfs.le {ls : List Line} {dn W : List (Option Id)} {r : Int} (b : Bfs ls dn W r) : (dn ++ W).length ≤ ls.length + 1 := by
  have := nodup_sub b.nd b.sub
  unfold allK at this
  rw [List.length_cons, List.length_map] at this
  exact this
theorem Bfs.next {ls : List Line} (nd : (ls.map (·.id)).Nodup) {dn W : List (Option Id)} {o : Option Id} {r : Int} (b : Bfs ls dn (W ++ [o]) r) : Bfs ls (o :: dn) (W ++ (kids ls o).map some) (r + ((kids ls o).length : Int)) := by
  have hmem : ∀ x, x ∈ o :: dn ++ (W ++ (kids ls o).map some) ↔ x ∈ dn ++ (W ++ [o]) ∨ x ∈ (kids ls o).map some := fun x => by
    simp only [List.mem_append, List.mem_cons, List.mem_singleton, List.not_mem_nil, or_false]
    constructor
    · rintro ((h | h) | h | h)
      · exact .inl (.inr (.inr h))
      · exact .inl (.inl h)
      · exact .inl (.inr (.inl h))
      · exact .inr h
    · rintro ((h | h | h) | h)
      · exact .inl (.inr h)
      · exact .inr (.inl h)
      · exact .inl (.inl h)
      · exact .inr (.inr h)
  obtain ⟨n1, n2, n3⟩ := List.nodup_append.mp b.nd
  obtain ⟨n4, n5, n6⟩ := List.nodup_append.mp n2
  have od : o ∉ dn := fun h => n3 o h o (List.mem_append_right _ (List.mem_singleton_self _)) rfl
  have ow : o ∉ W := fun h => n6 o h o (List.mem_singleton_self _) rfl
  have fresh : ∀ x ∈ (kids ls o).map some, x ∉ dn ++ (W ++ [o]) := fun x hx hm => by
    obtain ⟨i, hi, rfl⟩ := List.mem_map.mp hx
    obtain ⟨l, hl, h1, h2⟩ := mem_kids.mp hi
    obtain ⟨l', hl', h3, h4⟩ := b.par i hm
    have : l' = l := nodup_inj nd l' hl' l hl (h3.trans h2.symm)
    rw [this, h1] at h4
    exact od h4
  have kn : ((kids ls o).map some).Nodup := List.Pairwise.map _ (fun a b h e => h (Option.some.inj e)) (kids_nd nd o)
  refine ⟨?_, ?_, fun x hx => ?_, fun i hi => ?_, fun x hx l hl e => ?_, ?_⟩
  · rw [List.cons_append, List.nodup_cons]
    refine ⟨fun h => ?_, ?_⟩
    · rcases List.mem_append.mp h with h | h
      · exact od h
      · rcases List.mem_append.mp h with h | h
        · exact ow h
        · exact fresh o h (List.mem_append_right _ (List.mem_append_right _ (List.mem_singleton_self _)))
    · refine List.nodup_append.mpr ⟨n1, List.nodup_append.mpr ⟨n4, kn, fun x hx y hy e => ?_⟩, fun x hx y hy e => ?_⟩
      · subst e
        exact fresh x hy (List.mem_append_right _ (List.mem_append_left _ hx))
      · subst e
        rcases List.mem_append.mp hy with hy | hy
        · exact n3 x hx x (List.mem_append_left _ hy) rfl
        · exact fresh x hy (List.mem_append_left _ hx)
  · exact (hmem none).mpr (.inl b.rt)
  · rcases (hmem x).mp hx with h | h
    · exact b.re x h
    · obtain ⟨i, hi, rfl⟩ := List.mem_map.mp h
      obtain ⟨l, hl, h1, rfl⟩ := mem_kids.mp hi
      refine .step hl ?_
      rw [h1]
      exact b.re o (List.mem_append_right _ (List.mem_append_right _ (List.mem_singleton_self _)))
  · rcases (hmem _).mp hi with h | h
    · obtain ⟨l, hl, h1, h2⟩ := b.par i h
      exact ⟨l, hl, h1, List.mem_cons_of_mem _ h2⟩
    · obtain ⟨j, hj, e⟩ := List.mem_map.mp h
      obtain ⟨l, hl, h1, h2⟩ := mem_kids.mp hj
      exact ⟨l, hl, h2.trans (Option.some.inj e), by rw [h1]; exact List.mem_cons_self⟩
  · rw [hmem]
    rcases List.mem_cons.mp hx with h | h
    · exact .inr (List.mem_map.mpr ⟨l.id, mem_kids.mpr ⟨l, hl, e.trans h, rfl⟩, rfl⟩)
    · exact .inl (b.kid x h l hl e)
  · have := b.cnt
    simp only [List.length_append, List.length_cons, List.length_map, List.length_nil] at this ⊢
    omega
inductive Wrong (ls : List Line) (k : Nat) : List Line → Prop where
  | path {l : Line} : ls[k]? = some l → Wrong ls k (ls.set k { l with path := [] })
  | far {l : Line} : ls[k]? = some l → Wrong ls k (ls.set k { l with ins := some (77, 7) })
  | self {l : Line} : ls[k]? = some l → Wrong ls k (ls.set k { l with ins := some l.id })
  | head {l : Line} : ls[k]? = some l → l.ct = none → Wrong ls k (ls.set k { l with hd := (78, 0) })
  | swap {l b : Line} : 0 < k → ls[k]? = some l → ls[k - 1]? = some b → Wrong ls k (ls.take (k - 1) ++ ([l, b] ++ ls.drop (k + 1)))
  | twice {l b : Line} : 0 < k → ls[k]? = some l → ls[k - 1]? = some b → Wrong ls k (ls.set k { l with hd := b.hd })
  | file {l b : Line} : 0 < k → ls[k]? = some l → ls[k - 1]? = some b → b.ct ≠ none → Wrong ls k (ls.set k { l with ins := some b.id })
theorem Wrong.len {ls w : List Line} {k : Nat} (h : Wrong ls k w) : w.length = ls.length := by
  cases h with
  | swap h1 h2 h3 =>
    have := (List.getElem?_eq_some_iff.mp h2).1
    rw [List.length_append, List.length_append, List.length_take, List.length_drop]
    show min (k - 1) ls.length + (2 + (ls.length - (k + 1))) = ls.length
    omega
  | _ => exact List.length_set
end Ln
namespace K74
open PySem PySem.Spec PyProof.Rows L2 Evl Lw Pw Ln Le Par
def top (i : Nat) : Stmt := PySem.Challenge.pw_foldkeep_k74_scripts_read_back.main.body.getD i (.Pass ⟨0, 0, 0, 0⟩)
abbrev s_is_name : Stmt := top 3
abbrev s_read_path : Stmt := top 4
abbrev s_plain_number : Stmt := top 7
abbrev s_parts_of : Stmt := top 12
abbrev s_part_at : Stmt := top 13
abbrev s_number_of : Stmt := top 14
abbrev s_quoted_at : Stmt := top 15
abbrev s_form_number : Stmt := top 21
abbrev s_form_text : Stmt := top 22
abbrev s_form_path : Stmt := top 23
abbrev s_form_runs : Stmt := top 24
abbrev s_form_spot : Stmt := top 25
abbrev s_form_target : Stmt := top 26
abbrev s_read_forms : Stmt := top 28
abbrev s_first_word : Stmt := top 29
abbrev s_read_behind_word : Stmt := top 30
abbrev s_read_on_device : Stmt := top 31
abbrev s_read_event : Stmt := top 32
abbrev s_law_cells : Stmt := top 34
abbrev s_law_quoted : Stmt := top 35
abbrev s_law_text : Stmt := top 36
abbrev s_law_path : Stmt := top 37
abbrev s_law_number : Stmt := top 38
abbrev s_law_spot : Stmt := top 39
abbrev s_law_target : Stmt := top 40
abbrev s_law_runs : Stmt := top 41
abbrev s_law_deed : Stmt := top 42
abbrev s_law_wish : Stmt := top 43
abbrev s_law_event : Stmt := top 44
abbrev s_law : Stmt := top 45
theorem sc_is_name : FnScope ["text", "sign"] ["text"] (defScope s_is_name) := ⟨rfl, rfl, rfl, by decide +kernel, rfl, by decide +kernel, by decide +kernel⟩
theorem sc_read_path : FnScope ["text", "parts", "part"] ["text"] (defScope s_read_path) := ⟨rfl, rfl, rfl, by decide +kernel, rfl, by decide +kernel, by decide +kernel⟩
theorem sc_plain_number : FnScope ["word", "most", "sign"] ["word", "most"] (defScope s_plain_number) := ⟨rfl, rfl, rfl, by decide +kernel, rfl, by decide +kernel, by decide +kernel⟩
theorem sc_parts_of : FnScope ["line", "parts", "at", "found", "part", "end"] ["line"] (defScope s_parts_of) := ⟨rfl, rfl, rfl, by decide +kernel, rfl, by decide +kernel, by decide +kernel⟩
theorem sc_part_at : FnScope ["line", "at", "end", "word", "number"] ["line", "at"] (defScope s_part_at) := ⟨rfl, rfl, rfl, by decide +kernel, rfl, by decide +kernel, by decide +kernel⟩
theorem sc_number_of : FnScope ["word", "number"] ["word"] (defScope s_number_of) := ⟨rfl, rfl, rfl, by decide +kernel, rfl, by decide +kernel, by decide +kernel⟩
theorem sc_quoted_at : FnScope ["line", "at", "signs", "sign"] ["line", "at"] (defScope s_quoted_at) := ⟨rfl, rfl, rfl, by decide +kernel, rfl, by decide +kernel, by decide +kernel⟩
theorem sc_form_number : FnScope ["parts"] ["parts"] (defScope s_form_number) := ⟨rfl, rfl, rfl, by decide +kernel, rfl, by decide +kernel, by decide +kernel⟩
theorem sc_form_text : FnScope ["parts"] ["parts"] (defScope s_form_text) := ⟨rfl, rfl, rfl, by decide +kernel, rfl, by decide +kernel, by decide +kernel⟩
theorem sc_form_path : FnScope ["parts", "read", "path"] ["parts"] (defScope s_form_path) := ⟨rfl, rfl, rfl, by decide +kernel, rfl, by decide +kernel, by decide +kernel⟩
theorem sc_form_runs : FnScope ["parts"] ["parts"] (defScope s_form_runs) := ⟨rfl, rfl, rfl, by decide +kernel, rfl, by decide +kernel, by decide +kernel⟩
theorem sc_form_spot : FnScope ["parts", "taken", "base", "read"] ["parts"] (defScope s_form_spot) := ⟨rfl, rfl, rfl, by decide +kernel, rfl, by decide +kernel, by decide +kernel⟩
theorem sc_form_target : FnScope ["parts", "read"] ["parts"] (defScope s_form_target) := ⟨rfl, rfl, rfl, by decide +kernel, rfl, by decide +kernel, by decide +kernel⟩
theorem sc_read_forms : FnScope ["forms", "parts", "things", "form", "action", "read"] ["forms", "parts"] (defScope s_read_forms) := ⟨rfl, rfl, rfl, by decide +kernel, rfl, by decide +kernel, by decide +kernel⟩
theorem sc_first_word : FnScope ["parts"] ["parts"] (defScope s_first_word) := ⟨rfl, rfl, rfl, by decide +kernel, rfl, by decide +kernel, by decide +kernel⟩
theorem sc_read_behind_word : FnScope ["forms", "parts", "things"] ["forms", "parts"] (defScope s_read_behind_word) := ⟨rfl, rfl, rfl, by decide +kernel, rfl, by decide +kernel, by decide +kernel⟩
theorem sc_read_on_device : FnScope ["device", "parts", "word", "wished", "deed", "event"] ["device", "parts"] (defScope s_read_on_device) := ⟨rfl, rfl, rfl, by decide +kernel, rfl, by decide +kernel, by decide +kernel⟩
theorem sc_read_event : FnScope ["line", "parts"] ["line"] (defScope s_read_event) := ⟨rfl, rfl, rfl, by decide +kernel, rfl, by decide +kernel, by decide +kernel⟩
theorem sc_law_cells : FnScope ["script", "count", "cells", "k", "cell"] ["script", "count"] (defScope s_law_cells) := ⟨rfl, rfl, rfl, by decide +kernel, rfl, by decide +kernel, by decide +kernel⟩
theorem sc_law_quoted : FnScope ["text", "signs", "sign"] ["text"] (defScope s_law_quoted) := ⟨rfl, rfl, rfl, by decide +kernel, rfl, by decide +kernel, by decide +kernel⟩
theorem sc_law_text : FnScope ["cell"] ["cell"] (defScope s_law_text) := ⟨rfl, rfl, rfl, by decide +kernel, rfl, by decide +kernel, by decide +kernel⟩
theorem sc_law_path : FnScope ["cell", "names", "k"] ["cell"] (defScope s_law_path) := ⟨rfl, rfl, rfl, by decide +kernel, rfl, by decide +kernel, by decide +kernel⟩
theorem sc_law_number : FnScope ["cell"] ["cell"] (defScope s_law_number) := ⟨rfl, rfl, rfl, by decide +kernel, rfl, by decide +kernel, by decide +kernel⟩
theorem sc_law_spot : FnScope ["cell", "path", "base", "thing"] ["cell"] (defScope s_law_spot) := ⟨rfl, rfl, rfl, by decide +kernel, rfl, by decide +kernel, by decide +kernel⟩
theorem sc_law_target : FnScope ["cell", "thing"] ["cell"] (defScope s_law_target) := ⟨rfl, rfl, rfl, by decide +kernel, rfl, by decide +kernel, by decide +kernel⟩
theorem sc_law_runs : FnScope ["cell"] ["cell"] (defScope s_law_runs) := ⟨rfl, rfl, rfl, by decide +kernel, rfl, by decide +kernel, by decide +kernel⟩
theorem sc_law_deed : FnScope ["kind", "cells", "spot", "told", "target", "aim", "runs", "word", "text", "at", "name", "goal", "there"] ["kind", "cells"] (defScope s_law_deed) := ⟨rfl, rfl, rfl, by decide +kernel, rfl, by decide +kernel, by decide +kernel⟩
theorem sc_law_wish : FnScope ["kind", "cells", "path", "told", "number"] ["kind", "cells"] (defScope s_law_wish) := ⟨rfl, rfl, rfl, by decide +kernel, rfl, by decide +kernel, by decide +kernel⟩
theorem sc_law_event : FnScope ["cells", "kind", "device", "deed", "told", "wished", "word", "other"] ["cells"] (defScope s_law_event) := ⟨rfl, rfl, rfl, by decide +kernel, rfl, by decide +kernel, by decide +kernel⟩
theorem sc_law : FnScope ["script", "cells", "event", "line", "at", "broken", "changed"] ["script"] (defScope s_law) := ⟨rfl, rfl, rfl, by decide +kernel, rfl, by decide +kernel, by decide +kernel⟩
def tab_DEEDS : List (Str × D) := [(Str.ofString "make", .tup [.str (Str.ofString "spot"), .str (Str.ofString "text"), .str (Str.ofString "runs")]), (Str.ofString "make_folder", .tup [.str (Str.ofString "spot")]), (Str.ofString "make_other", .tup [.str (Str.ofString "spot")]), (Str.ofString "remove", .tup [.str (Str.ofString "spot")]), (Str.ofString "remove_folder", .tup [.str (Str.ofString "spot")]), (Str.ofString "rename", .tup [.str (Str.ofString "spot"), .str (Str.ofString "spot")]), (Str.ofString "cut", .tup [.str (Str.ofString "target")]), (Str.ofString "write", .tup [.str (Str.ofString "target"), .str (Str.ofString "number"), .str (Str.ofString "text")]), (Str.ofString "set_runs", .tup [.str (Str.ofString "target"), .str (Str.ofString "runs")]), (Str.ofString "read", .tup [.str (Str.ofString "target")]), (Str.ofString "open", .tup [.str (Str.ofString "spot")]), (Str.ofString "close", .tup [.str (Str.ofString "number")])]
def tab_ESCAPES : List (Str × D) := [(Str.ofString "\"", .str (Str.ofString "\"")), (Str.ofString "\\", .str (Str.ofString "\\")), (Str.ofString "n", .str (Str.ofString "\n"))]
def tab_FORMS : List (Str × Str) := [(Str.ofString "number", Str.ofString "form_number"), (Str.ofString "text", Str.ofString "form_text"), (Str.ofString "path", Str.ofString "form_path"), (Str.ofString "runs", Str.ofString "form_runs"), (Str.ofString "spot", Str.ofString "form_spot"), (Str.ofString "target", Str.ofString "form_target")]
def tab_ON_DEVICES : List (Str × D) := [(Str.ofString "step", .tup []), (Str.ofString "refuse", .tup []), (Str.ofString "unanswered", .tup []), (Str.ofString "crash", .tup []), (Str.ofString "speak", .tup [.str (Str.ofString "number")])]
def tab_ON_LETTERS : List (Str × D) := [(Str.ofString "deliver", .tup [.str (Str.ofString "number")]), (Str.ofString "lose", .tup [.str (Str.ofString "number")]), (Str.ofString "again", .tup [.str (Str.ofString "number")])]
def tab_WISHES : List (Str × D) := [(Str.ofString "scan", .tup []), (Str.ofString "put_away", .tup [.str (Str.ofString "path"), .str (Str.ofString "number")]), (Str.ofString "fetch", .tup [.str (Str.ofString "path")]), (Str.ofString "trim", .tup [.str (Str.ofString "number")]), (Str.ofString "restore", .tup [.str (Str.ofString "number"), .str (Str.ofString "path")])]
structure Txt (K : PySem.W.Frag) (cl : Cl) (mg : Str → Option Value) : Prop where
  n_int : mg "int" = none
  n_len : mg "len" = none
  n_ord : mg "ord" = none
  n_range : mg "range" = none
  n_str : mg "str" = none
  n_tuple : mg "tuple" = none
  g_DIGITS : ∃ u, mg "DIGITS" = some u ∧ RelV (.str (Str.ofString "0123456789")) u
  g_FIRST_SIGN : ∃ u, mg "FIRST_SIGN" = some u ∧ RelV (.int 32) u
  g_MOST_DIGITS : ∃ u, mg "MOST_DIGITS" = some u ∧ RelV (.int 10) u
  g_MOST_NUMBER : ∃ u, mg "MOST_NUMBER" = some u ∧ RelV (.int 4294967295) u
  g_MOST_SIGNS : ∃ u, mg "MOST_SIGNS" = some u ∧ RelV (.int 100) u
  tb_DEEDS : ∃ a, mg "DEEDS" = some (.ref a) ∧ KTab K cl.w (RD K cl) a tab_DEEDS
  tb_ESCAPES : ∃ a, mg "ESCAPES" = some (.ref a) ∧ KTab K cl.w (RD K cl) a tab_ESCAPES
  tf_FORMS : ∃ a, mg "FORMS" = some (.ref a) ∧ KTab K cl.w (RFn mg) a tab_FORMS
  tb_ON_DEVICES : ∃ a, mg "ON_DEVICES" = some (.ref a) ∧ KTab K cl.w (RD K cl) a tab_ON_DEVICES
  tb_ON_LETTERS : ∃ a, mg "ON_LETTERS" = some (.ref a) ∧ KTab K cl.w (RD K cl) a tab_ON_LETTERS
  tb_WISHES : ∃ a, mg "WISHES" = some (.ref a) ∧ KTab K cl.w (RD K cl) a tab_WISHES
theorem e_dot : Str.ofString "." = SX.S [46] := by decide +kernel
theorem e_sp : Str.ofString " " = SX.S [32] := by decide +kernel
section
variable {S : Sto} {l a b : List Nat} {n : Nat} {k : D → Prop}
theorem lenS (h : l.length ≤ 1000) (hk : k (.int (l.length : Int))) : lenk S [.str (SX.S l)] k := ⟨by rw [len_S]; omega, by rw [len_S]; exact hk⟩
theorem toS (h : l.length ≤ 1000) (hk : k (.str (SX.S (l.take n)))) : slk S (.str (SX.S l)) none (some (n : Int)) k := ⟨by rw [len_S]; omega, by rw [cut_to]; exact hk⟩
theorem fromS (h : l.length ≤ 1000) (hk : k (.str (SX.S (l.drop n)))) : slk S (.str (SX.S l)) (some (n : Int)) none k := ⟨by rw [len_S]; omega, by rw [cut_from]; exact hk⟩
theorem addS (h : a.length + b.length ≤ 1000) (hk : k (.str (SX.S (a ++ b)))) : addk S (.str (SX.S a)) (.str (SX.S b)) k := ⟨by rw [len_S, len_S]; omega, by rw [SX.S_cat]; exact hk⟩
end
def pl_is_name_1 : PSx :=
      ((pIfS (pB (pOp (cmpk fun i j => decide (i < j)) (pCB ordck (pCons (pVar 1) pNil)) (pC (.int 32))))
        ((pRet (pC (.bl false))))
        pNext))
theorem pl_is_name_1_d (P : PEnds) (env : Pw.Env) (S : Sto) : pl_is_name_1 P env S = (
      ((pIfS (pB (pOp (cmpk fun i j => decide (i < j)) (pCB ordck (pCons (pVar 1) pNil)) (pC (.int 32))))
        ((pRet (pC (.bl false))))
        pNext))) P env S := rfl
def ps_is_name : PSx :=
    (pSeq (pIfS (pOr (pB (pOp eqk (pVar 0) (pC (.str (Str.ofString "."))))) (pOr (pB (pOp eqk (pVar 0) (pC (.str (Str.ofString ".."))))) (pB (pOp ink (pC (.str (Str.ofString "/"))) (pVar 0)))))
      ((pRet (pC (.bl false))))
      pNext)
    (pSeq (pIfS (pOr (pB (pOp (cmpk fun i j => decide (i < j)) (pCB lenk (pCons (pVar 0) pNil)) (pC (.int 1)))) (pB (pOp (cmpk fun i j => decide (j < i)) (pCB lenk (pCons (pVar 0) pNil)) (pC (.int 100)))))
      ((pRet (pC (.bl false))))
      pNext)
    (pSeq (pFor (pIt (pVar 0)) (pgName 1) pl_is_name_1)
    ((pRet (pC (.bl true)))))))
theorem start_is_name : ∀ a0 : D, startE 2 [a0] = [some a0, none] := fun _ => rfl
def isNm (l : List Nat) : Bool := !(decide (l = [46]) || decide (l = [46, 46]) || decide (47 ∈ l)) && (decide (1 ≤ l.length) && decide (l.length ≤ 100)) && l.all fun c => decide (32 ≤ c)
def F_is_name : PFn := fun ds k => ∃ l : List Nat, ds = [.str (SX.S l)] ∧ l.length ≤ 1000 ∧ k (.bl (isNm l))
theorem len_is_name : ∀ ds k, F_is_name ds k → ds.length = 1 := by
  rintro _ _ ⟨_, rfl, _⟩
  rfl
theorem S_inj {a b : List Nat} : SX.S a = SX.S b ↔ a = b := ⟨fun h => by
  have := congrArg (fun x : Str => x.cps.toList) h
  exact this, fun h => h ▸ rfl⟩
theorem e_dd : Str.ofString ".." = SX.S [46, 46] := by decide +kernel
theorem e_sl : Str.ofString "/" = SX.S [47] := by decide +kernel
theorem loop_is_name (c0 : Option D) (S : Sto) (P : PEnds) : ∀ (l : List Nat) (x1 : Option D), (l.all (fun c => decide (32 ≤ c)) = true → ∀ x1, P.nx [c0, x1] S) → (l.all (fun c => decide (32 ≤ c)) = false → P.rt (.bl false) S) →
    forG (pgName 1) pl_is_name_1 P (l.map fun c => D.str (SX.S [c])) [c0, x1] S := by
  intro l
  induction l with
  | nil => exact fun x1 h _ => h rfl x1
  | cons a l ih =>
    intro x1 h1 h2
    rw [List.all_cons] at h1 h2
    simp only [pForD, pInsL, pExtA, pSeq, pAsg, pVar, pC, pOp, pNil, pCons, pTup, pLst, pLstM, pNot, pAndV, pOrV, pIf, pB, pAnd, pOr, pNotT, pNoPart, pPart, pCB, pUnN, pSl, pNext, pBreak, pCont, pRet, pRetN, pDrop, pIfS, pgName, pgNil, pgCons, pgTup_t, pAug, pApp, pYes, isk_non, nsk_non, isN_non, isN_bl, isN_int, isN_str, isN_tup, isN_lst, isN_ref, isN_obj, pTru, pFld, pStar, pMake, pSetF, pIt, pRng1, pRng2, forG, List.map_cons, List.map_nil, List.getElem?_cons_zero, List.getElem?_cons_succ, List.set_cons_zero, List.set_cons_succ, Option.some.injEq, exists_eq_left, exists_eq_left', true_and, and_true, wipeE, D.bl.injEq, D.int.injEq, D.str.injEq, D.tup.injEq, D.lst.injEq, Bool.not_true, decide_eq_true_eq, if_true, if_false, reduceIte, Bool.false_eq_true, Option.isNone_none, Option.isNone_some, Bool.not_false, List.length_nil, List.length_cons, List.nil_append, List.cons_append, D.ref.injEq, SO.lst.injEq, pCall, exists_const, and_self, Nat.zero_add, Nat.zero_le, Nat.reduceLeDiff, Nat.reduceAdd, eq_self, o_add, o_sub, o_mul, o_div, o_mod, o_cmp, o_int, o_lenl, o_lent, o_lens, o_tupl, o_tupt, o_min, o_max, q_int, ixk_tup, ixk_lst, ixk_scr, at0, at1, at2, at3, at4, at5, List.length_map, ln0, ln1, ln2, ln3, ln4, lnS0, lnS2, lnS4, q_id, q_ido, q_oi, q_oid, q_path, q_ln, q_ls, n_id, n_path, n_ln, n_ls, non_oid, non_oln, non_oct, non_id, non_ln, non_ct, non_path, un_ln, un_pl, in_ids, ad_path, eOp_s, eOp_n, lstk_ls, st_ls, pl_is_name_1_d]
    refine ⟨SX.S [a], rfl, rfl, ?_⟩
    simp only [pForD, pInsL, pExtA, pSeq, pAsg, pVar, pC, pOp, pNil, pCons, pTup, pLst, pLstM, pNot, pAndV, pOrV, pIf, pB, pAnd, pOr, pNotT, pNoPart, pPart, pCB, pUnN, pSl, pNext, pBreak, pCont, pRet, pRetN, pDrop, pIfS, pgName, pgNil, pgCons, pgTup_t, pAug, pApp, pYes, isk_non, nsk_non, isN_non, isN_bl, isN_int, isN_str, isN_tup, isN_lst, isN_ref, isN_obj, pTru, pFld, pStar, pMake, pSetF, pIt, pRng1, pRng2, forG, List.map_cons, List.map_nil, List.getElem?_cons_zero, List.getElem?_cons_succ, List.set_cons_zero, List.set_cons_succ, Option.some.injEq, exists_eq_left, exists_eq_left', true_and, and_true, wipeE, D.bl.injEq, D.int.injEq, D.str.injEq, D.tup.injEq, D.lst.injEq, Bool.not_true, decide_eq_true_eq, if_true, if_false, reduceIte, Bool.false_eq_true, Option.isNone_none, Option.isNone_some, Bool.not_false, List.length_nil, List.length_cons, List.nil_append, List.cons_append, D.ref.injEq, SO.lst.injEq, pCall, exists_const, and_self, Nat.zero_add, Nat.zero_le, Nat.reduceLeDiff, Nat.reduceAdd, eq_self, o_add, o_sub, o_mul, o_div, o_mod, o_cmp, o_int, o_lenl, o_lent, o_lens, o_tupl, o_tupt, o_min, o_max, q_int, ixk_tup, ixk_lst, ixk_scr, at0, at1, at2, at3, at4, at5, List.length_map, ln0, ln1, ln2, ln3, ln4, lnS0, lnS2, lnS4, q_id, q_ido, q_oi, q_oid, q_path, q_ln, q_ls, n_id, n_path, n_ln, n_ls, non_oid, non_oln, non_oct, non_id, non_ln, non_ct, non_path, un_ln, un_pl, in_ids, ad_path, eOp_s, eOp_n, lstk_ls, st_ls]
    have ea : (#[a] : Array Nat).getD 0 0 = a := rfl
    by_cases c : a < 32
    · rw [if_pos (by omega)]
      rw [decide_eq_false (by omega), Bool.false_and] at h2
      exact h2 rfl
    · rw [if_neg (by omega)]
      rw [decide_eq_true (by omega), Bool.true_and] at h1 h2
      exact ih _ h1 h2
theorem it_str (l : List Nat) (S : Sto) : iterOf S (.str (SX.S l)) = some (l.map fun c => D.str (SX.S [c])) := by
  rfl
theorem body_is_name : ∀ ds k, F_is_name ds k → ps_is_name { nx := fun _ _ => k .non, rt := fun d S => (d.frz S).noRef = true ∧ k (d.frz S) } (startE 2 ds) [] := by
  rintro _ k ⟨l, rfl, hl, hk⟩
  rw [start_is_name]
  unfold ps_is_name
  unfold isNm at hk
  simp only [pForD, pInsL, pExtA, pSeq, pAsg, pVar, pC, pOp, pNil, pCons, pTup, pLst, pLstM, pNot, pAndV, pOrV, pIf, pB, pAnd, pOr, pNotT, pNoPart, pPart, pCB, pUnN, pSl, pNext, pBreak, pCont, pRet, pRetN, pDrop, pIfS, pgName, pgNil, pgCons, pgTup_t, pAug, pApp, pYes, isk_non, nsk_non, isN_non, isN_bl, isN_int, isN_str, isN_tup, isN_lst, isN_ref, isN_obj, pTru, pFld, pStar, pMake, pSetF, pIt, pRng1, pRng2, forG, List.map_cons, List.map_nil, List.getElem?_cons_zero, List.getElem?_cons_succ, List.set_cons_zero, List.set_cons_succ, Option.some.injEq, exists_eq_left, exists_eq_left', true_and, and_true, wipeE, D.bl.injEq, D.int.injEq, D.str.injEq, D.tup.injEq, D.lst.injEq, Bool.not_true, decide_eq_true_eq, if_true, if_false, reduceIte, Bool.false_eq_true, Option.isNone_none, Option.isNone_some, Bool.not_false, List.length_nil, List.length_cons, List.nil_append, List.cons_append, D.ref.injEq, SO.lst.injEq, pCall, exists_const, and_self, Nat.zero_add, Nat.zero_le, Nat.reduceLeDiff, Nat.reduceAdd, eq_self, o_add, o_sub, o_mul, o_div, o_mod, o_cmp, o_int, o_lenl, o_lent, o_lens, o_tupl, o_tupt, o_min, o_max, q_int, ixk_tup, ixk_lst, ixk_scr, at0, at1, at2, at3, at4, at5, List.length_map, q_word, e_dot, e_dd, e_sl, S_inj]
  by_cases c1 : l = [46]
  · rw [if_pos c1]
    rw [decide_eq_true c1, Bool.true_or, Bool.true_or, Bool.not_true, Bool.false_and, Bool.false_and] at hk
    exact rt_pure rfl hk
  rw [if_neg c1]
  rw [decide_eq_false c1, Bool.false_or] at hk
  by_cases c2 : l = [46, 46]
  · rw [if_pos c2]
    rw [decide_eq_true c2, Bool.true_or, Bool.not_true, Bool.false_and, Bool.false_and] at hk
    exact rt_pure rfl hk
  rw [if_neg c2]
  rw [decide_eq_false c2, Bool.false_or] at hk
  refine ⟨47, rfl, ?_⟩
  have em : (decide ((47 : Nat) ∈ (SX.S l).cps.toList)) = decide (47 ∈ l) := rfl
  rw [em]
  by_cases c3 : 47 ∈ l
  · rw [decide_eq_true c3, Bool.not_true, Bool.false_and, Bool.false_and] at hk
    rw [decide_eq_true c3]
    simp only [pForD, pInsL, pExtA, pSeq, pAsg, pVar, pC, pOp, pNil, pCons, pTup, pLst, pLstM, pNot, pAndV, pOrV, pIf, pB, pAnd, pOr, pNotT, pNoPart, pPart, pCB, pUnN, pSl, pNext, pBreak, pCont, pRet, pRetN, pDrop, pIfS, pgName, pgNil, pgCons, pgTup_t, pAug, pApp, pYes, isk_non, nsk_non, isN_non, isN_bl, isN_int, isN_str, isN_tup, isN_lst, isN_ref, isN_obj, pTru, pFld, pStar, pMake, pSetF, pIt, pRng1, pRng2, forG, List.map_cons, List.map_nil, List.getElem?_cons_zero, List.getElem?_cons_succ, List.set_cons_zero, List.set_cons_succ, Option.some.injEq, exists_eq_left, exists_eq_left', true_and, and_true, wipeE, D.bl.injEq, D.int.injEq, D.str.injEq, D.tup.injEq, D.lst.injEq, Bool.not_true, decide_eq_true_eq, if_true, if_false, reduceIte, Bool.false_eq_true, Option.isNone_none, Option.isNone_some, Bool.not_false, List.length_nil, List.length_cons, List.nil_append, List.cons_append, D.ref.injEq, SO.lst.injEq, pCall, exists_const, and_self, Nat.zero_add, Nat.zero_le, Nat.reduceLeDiff, Nat.reduceAdd, eq_self, o_add, o_sub, o_mul, o_div, o_mod, o_cmp, o_int, o_lenl, o_lent, o_lens, o_tupl, o_tupt, o_min, o_max, q_int, ixk_tup, ixk_lst, ixk_scr, at0, at1, at2, at3, at4, at5, List.length_map]
    exact rt_pure rfl hk
  rw [decide_eq_false c3, Bool.not_false, Bool.true_and] at hk
  rw [decide_eq_false c3]
  simp only [pForD, pInsL, pExtA, pSeq, pAsg, pVar, pC, pOp, pNil, pCons, pTup, pLst, pLstM, pNot, pAndV, pOrV, pIf, pB, pAnd, pOr, pNotT, pNoPart, pPart, pCB, pUnN, pSl, pNext, pBreak, pCont, pRet, pRetN, pDrop, pIfS, pgName, pgNil, pgCons, pgTup_t, pAug, pApp, pYes, isk_non, nsk_non, isN_non, isN_bl, isN_int, isN_str, isN_tup, isN_lst, isN_ref, isN_obj, pTru, pFld, pStar, pMake, pSetF, pIt, pRng1, pRng2, forG, List.map_cons, List.map_nil, List.getElem?_cons_zero, List.getElem?_cons_succ, List.set_cons_zero, List.set_cons_succ, Option.some.injEq, exists_eq_left, exists_eq_left', true_and, and_true, wipeE, D.bl.injEq, D.int.injEq, D.str.injEq, D.tup.injEq, D.lst.injEq, Bool.not_true, decide_eq_true_eq, if_true, if_false, reduceIte, Bool.false_eq_true, Option.isNone_none, Option.isNone_some, Bool.not_false, List.length_nil, List.length_cons, List.nil_append, List.cons_append, D.ref.injEq, SO.lst.injEq, pCall, exists_const, and_self, Nat.zero_add, Nat.zero_le, Nat.reduceLeDiff, Nat.reduceAdd, eq_self, o_add, o_sub, o_mul, o_div, o_mod, o_cmp, o_int, o_lenl, o_lent, o_lens, o_tupl, o_tupt, o_min, o_max, q_int, ixk_tup, ixk_lst, ixk_scr, at0, at1, at2, at3, at4, at5, List.length_map]
  refine lenS hl ?_
  simp only [pForD, pInsL, pExtA, pSeq, pAsg, pVar, pC, pOp, pNil, pCons, pTup, pLst, pLstM, pNot, pAndV, pOrV, pIf, pB, pAnd, pOr, pNotT, pNoPart, pPart, pCB, pUnN, pSl, pNext, pBreak, pCont, pRet, pRetN, pDrop, pIfS, pgName, pgNil, pgCons, pgTup_t, pAug, pApp, pYes, isk_non, nsk_non, isN_non, isN_bl, isN_int, isN_str, isN_tup, isN_lst, isN_ref, isN_obj, pTru, pFld, pStar, pMake, pSetF, pIt, pRng1, pRng2, forG, List.map_cons, List.map_nil, List.getElem?_cons_zero, List.getElem?_cons_succ, List.set_cons_zero, List.set_cons_succ, Option.some.injEq, exists_eq_left, exists_eq_left', true_and, and_true, wipeE, D.bl.injEq, D.int.injEq, D.str.injEq, D.tup.injEq, D.lst.injEq, Bool.not_true, decide_eq_true_eq, if_true, if_false, reduceIte, Bool.false_eq_true, Option.isNone_none, Option.isNone_some, Bool.not_false, List.length_nil, List.length_cons, List.nil_append, List.cons_append, D.ref.injEq, SO.lst.injEq, pCall, exists_const, and_self, Nat.zero_add, Nat.zero_le, Nat.reduceLeDiff, Nat.reduceAdd, eq_self, o_add, o_sub, o_mul, o_div, o_mod, o_cmp, o_int, o_lenl, o_lent, o_lens, o_tupl, o_tupt, o_min, o_max, q_int, ixk_tup, ixk_lst, ixk_scr, at0, at1, at2, at3, at4, at5, List.length_map]
  by_cases c4 : l.length < 1
  · rw [if_pos (by omega)]
    rw [decide_eq_false (p := 1 ≤ l.length) (by omega), Bool.false_and, Bool.false_and] at hk
    exact rt_pure rfl hk
  rw [if_neg (by omega)]
  rw [decide_eq_true (p := 1 ≤ l.length) (by omega), Bool.true_and] at hk
  refine lenS hl ?_
  simp only [pForD, pInsL, pExtA, pSeq, pAsg, pVar, pC, pOp, pNil, pCons, pTup, pLst, pLstM, pNot, pAndV, pOrV, pIf, pB, pAnd, pOr, pNotT, pNoPart, pPart, pCB, pUnN, pSl, pNext, pBreak, pCont, pRet, pRetN, pDrop, pIfS, pgName, pgNil, pgCons, pgTup_t, pAug, pApp, pYes, isk_non, nsk_non, isN_non, isN_bl, isN_int, isN_str, isN_tup, isN_lst, isN_ref, isN_obj, pTru, pFld, pStar, pMake, pSetF, pIt, pRng1, pRng2, forG, List.map_cons, List.map_nil, List.getElem?_cons_zero, List.getElem?_cons_succ, List.set_cons_zero, List.set_cons_succ, Option.some.injEq, exists_eq_left, exists_eq_left', true_and, and_true, wipeE, D.bl.injEq, D.int.injEq, D.str.injEq, D.tup.injEq, D.lst.injEq, Bool.not_true, decide_eq_true_eq, if_true, if_false, reduceIte, Bool.false_eq_true, Option.isNone_none, Option.isNone_some, Bool.not_false, List.length_nil, List.length_cons, List.nil_append, List.cons_append, D.ref.injEq, SO.lst.injEq, pCall, exists_const, and_self, Nat.zero_add, Nat.zero_le, Nat.reduceLeDiff, Nat.reduceAdd, eq_self, o_add, o_sub, o_mul, o_div, o_mod, o_cmp, o_int, o_lenl, o_lent, o_lens, o_tupl, o_tupt, o_min, o_max, q_int, ixk_tup, ixk_lst, ixk_scr, at0, at1, at2, at3, at4, at5, List.length_map]
  by_cases c5 : 100 < l.length
  · rw [if_pos (by omega)]
    rw [decide_eq_false (by omega), Bool.false_and] at hk
    exact rt_pure rfl hk
  rw [if_neg (by omega)]
  rw [decide_eq_true (by omega), Bool.true_and] at hk
  refine for_go (src := .str (SX.S l)) (ds := l.map fun c => D.str (SX.S [c])) (fun kk h => ⟨_, rfl, _, it_str l _, h⟩) (it_str l) ?_
  refine loop_is_name _ _ _ l _ (fun h1 x1 => ?_) (fun h1 => ?_)
  · rw [h1] at hk
    simp only [pForD, pInsL, pExtA, pSeq, pAsg, pVar, pC, pOp, pNil, pCons, pTup, pLst, pLstM, pNot, pAndV, pOrV, pIf, pB, pAnd, pOr, pNotT, pNoPart, pPart, pCB, pUnN, pSl, pNext, pBreak, pCont, pRet, pRetN, pDrop, pIfS, pgName, pgNil, pgCons, pgTup_t, pAug, pApp, pYes, isk_non, nsk_non, isN_non, isN_bl, isN_int, isN_str, isN_tup, isN_lst, isN_ref, isN_obj, pTru, pFld, pStar, pMake, pSetF, pIt, pRng1, pRng2, forG, List.map_cons, List.map_nil, List.getElem?_cons_zero, List.getElem?_cons_succ, List.set_cons_zero, List.set_cons_succ, Option.some.injEq, exists_eq_left, exists_eq_left', true_and, and_true, wipeE, D.bl.injEq, D.int.injEq, D.str.injEq, D.tup.injEq, D.lst.injEq, Bool.not_true, decide_eq_true_eq, if_true, if_false, reduceIte, Bool.false_eq_true, Option.isNone_none, Option.isNone_some, Bool.not_false, List.length_nil, List.length_cons, List.nil_append, List.cons_append, D.ref.injEq, SO.lst.injEq, pCall, exists_const, and_self, Nat.zero_add, Nat.zero_le, Nat.reduceLeDiff, Nat.reduceAdd, eq_self, o_add, o_sub, o_mul, o_div, o_mod, o_cmp, o_int, o_lenl, o_lent, o_lens, o_tupl, o_tupt, o_min, o_max, q_int, ixk_tup, ixk_lst, ixk_scr, at0, at1, at2, at3, at4, at5, List.length_map]
    exact rt_pure rfl hk
  · rw [h1] at hk
    exact rt_pure rfl hk
theorem ok_is_name {P : Program} {w : World} {K : PySem.W.Frag} {cl : Cl} {mg : Str → Option Value} {base : Heap} (D : Df K mg "is_name" s_is_name ["text"]) (T : Txt K cl mg) (hw : cl.w = w)  : C8.Cal P w K mg base 1 "is_name" (spP K cl F_is_name) [] := by
  subst hw
  refine D.cal sc_is_name (spP_len (n := 1) len_is_name) (fun f cdv  A outer s H vs Q E hr h => ?_)
  refine ⟨_,
    (pss_cons (ps_if (PW.pt (pw_or (pt_cmpR (show OpR _ _ (rEqP K) from op_eqP hr.units) (pv 0) pe_str (nomark _)) (pw_or (pt_cmpR (show OpR _ _ (rEqP K) from op_eqP hr.units) (pv 0) pe_str (nomark _)) (pw_or1 (pt_cmpR (show OpR _ _ (uIn K) from uop_in hr.units) pe_str (pv 0) (by with_unfolding_all rfl))))))
      (pss_one (ps_ret pe_bl))
      pss_nil)
    (pss_cons (ps_if (PW.pt (pw_or (pt_cmpR op_lt (pe_callB (show CallR _ (.builtin "len") (uLen K) from ucall_len) (by rfl) T.n_len PySem.boot_len (pa_cons (pv 0) pa_nil)) pe_int (nomark _)) (pw_or1 (pt_cmpR op_gt (pe_callB (show CallR _ (.builtin "len") (uLen K) from ucall_len) (by rfl) T.n_len PySem.boot_len (pa_cons (pv 0) pa_nil)) (C8.pe_gc (by rfl) T.g_MOST_SIGNS) (nomark _)))))
      (pss_one (ps_ret pe_bl))
      pss_nil)
    (pss_cons (ps_for PassesOwn.never rfl (show PI _ _ _ (uIt K _) from upi (pv 0)) (pg_name (i := 1) sc_is_name.nd rfl (Or.inl rfl))
      (pss_one (ps_if (pt_cmpR op_lt (pe_callB call_ord (by rfl) T.n_ord (by decide +kernel) (pa_cons (pv 1) pa_nil)) (C8.pe_gc (by rfl) T.g_FIRST_SIGN) (nomark _))
        (pss_one (ps_ret pe_bl))
        pss_nil)))
    (pss_one (ps_ret pe_bl))))), ?_⟩
  exact fn_ok (N := ["text", "sign"]) (show SmS K cl _ ps_is_name from
    (sm_seq (sm_ifS (sm_or (sm_test (sm_op smr_eq sm_var sm_str)) (sm_or (sm_test (sm_op smr_eq sm_var sm_str)) (sm_test (sm_op smr_in sm_str sm_var))))
      ((sm_ret sm_bl))
      sm_next)
    (sm_seq (sm_ifS (sm_or (sm_test (sm_op smr_cmp (sm_cb smc_len (sm_cons sm_var sm_nil)) sm_int)) (sm_test (sm_op smr_cmp (sm_cb smc_len (sm_cons sm_var sm_nil)) sm_int)))
      ((sm_ret sm_bl))
      sm_next)
    (sm_seq (sm_for (sm_it sm_var) sm_gname
      ((sm_ifS (sm_test (sm_op smr_cmp (sm_cb smc_ordc (sm_cons sm_var sm_nil)) sm_int))
        ((sm_ret sm_bl))
        sm_next)))
    ((sm_ret sm_bl)))))) body_is_name h
def pl_read_path_1 : PSx :=
      ((pIfS (pNotT (pB (pCall F_is_name (pCons (pVar 2) pNil))))
        ((pRet (pC .non)))
        pNext))
theorem pl_read_path_1_d (P : PEnds) (env : Pw.Env) (S : Sto) : pl_read_path_1 P env S = (
      ((pIfS (pNotT (pB (pCall F_is_name (pCons (pVar 2) pNil))))
        ((pRet (pC .non)))
        pNext))) P env S := rfl
def ps_read_path : PSx :=
    (pSeq (pIfS (pB (pOp eqk (pVar 0) (pC (.str (Str.ofString "")))))
      ((pRet (pTup pNil)))
      pNext)
    (pSeq (pAsg (pSplit (pVar 0) (pC (.str (Str.ofString "/")))) (pgName 1))
    (pSeq (pFor (pIt (pVar 1)) (pgName 2) pl_read_path_1)
    ((pRet (pCB tupk (pCons (pVar 1) pNil)))))))
theorem start_read_path : ∀ a0 : D, startE 3 [a0] = [some a0, none, none] := fun _ => rfl
def oP (o : Option (List (List Nat))) : D := match o with
  | none => .non
  | some p => dP p
def F_read_path : PFn := fun ds k => ∃ l : List Nat, ds = [.str (SX.S l)] ∧ l.length ≤ 1000 ∧ k (oP (readP l))
theorem len_read_path : ∀ ds k, F_read_path ds k → ds.length = 1 := by
  rintro _ _ ⟨_, rfl, _⟩
  rfl
theorem e_no : Str.ofString "" = SX.S [] := by decide +kernel
theorem pu_dSs : ∀ p : List (List Nat), pureAll (p.map dS) = true
  | [] => rfl
  | x :: p => by rw [List.map_cons, pureAll, pu_dSs p]; rfl
theorem pu_dP (p : List (List Nat)) : (dP p).pure = true := pu_dSs p
theorem cut_len {l m : List Nat} (hm : m ∈ cutL l) : m.length ≤ l.length := by
  have hmem : ∀ (ls : List (List Nat)), m ∈ ls → m.length ≤ (TL.joinL [47] ls).length := by
    intro ls
    induction ls with
    | nil => intro h; cases h
    | cons x xs ih =>
      intro h
      cases xs with
      | nil =>
        rw [List.mem_singleton.mp h]
        exact Nat.le_refl _
      | cons y ys =>
        show m.length ≤ (x ++ ([47] ++ TL.joinL [47] (y :: ys))).length
        rw [List.length_append, List.length_append]
        rcases List.mem_cons.mp h with h | h
        · rw [h]
          omega
        · have := ih h
          omega
  have h3 := hmem _ hm
  rw [join_cut0 l] at h3
  exact h3
theorem loop_read_path (c0 c1 : Option D) (S : Sto) (P : PEnds) : ∀ (ls : List (List Nat)) (x2 : Option D), (∀ m ∈ ls, m.length ≤ 1000) → (ls.all nameL = true → ∀ x2, P.nx [c0, c1, x2] S) → (ls.all nameL = false → P.rt .non S) →
    forG (pgName 2) pl_read_path_1 P (ls.map dS) [c0, c1, x2] S := by
  intro ls
  induction ls with
  | nil => exact fun x2 _ h _ => h rfl x2
  | cons m ls ih =>
    intro x2 hm h1 h2
    rw [List.all_cons] at h1 h2
    show pgName 2 (D.str (SX.S m)) _ _ _
    simp only [pForD, pInsL, pExtA, pSeq, pAsg, pVar, pC, pOp, pNil, pCons, pTup, pLst, pLstM, pNot, pAndV, pOrV, pIf, pB, pAnd, pOr, pNotT, pNoPart, pPart, pCB, pUnN, pSl, pNext, pBreak, pCont, pRet, pRetN, pDrop, pIfS, pgName, pgNil, pgCons, pgTup_t, pAug, pApp, pYes, isk_non, nsk_non, isN_non, isN_bl, isN_int, isN_str, isN_tup, isN_lst, isN_ref, isN_obj, pTru, pFld, pStar, pMake, pSetF, pIt, pRng1, pRng2, forG, List.map_cons, List.map_nil, List.getElem?_cons_zero, List.getElem?_cons_succ, List.set_cons_zero, List.set_cons_succ, Option.some.injEq, exists_eq_left, exists_eq_left', true_and, and_true, wipeE, D.bl.injEq, D.int.injEq, D.str.injEq, D.tup.injEq, D.lst.injEq, Bool.not_true, decide_eq_true_eq, if_true, if_false, reduceIte, Bool.false_eq_true, Option.isNone_none, Option.isNone_some, Bool.not_false, List.length_nil, List.length_cons, List.nil_append, List.cons_append, D.ref.injEq, SO.lst.injEq, pCall, exists_const, and_self, Nat.zero_add, Nat.zero_le, Nat.reduceLeDiff, Nat.reduceAdd, eq_self, o_add, o_sub, o_mul, o_div, o_mod, o_cmp, o_int, o_lenl, o_lent, o_lens, o_tupl, o_tupt, o_min, o_max, q_int, ixk_tup, ixk_lst, ixk_scr, at0, at1, at2, at3, at4, at5, List.length_map, pl_read_path_1_d]
    refine call_of rfl ⟨m, rfl, hm m List.mem_cons_self, ⟨_, rfl, ?_⟩⟩
    have e : isNm m = nameL m := rfl
    rw [e]
    cases q : nameL m with
    | true =>
      rw [q, Bool.true_and] at h1 h2
      refine Eq.mpr (if_neg (by decide)) ?_
      exact ih _ (fun z hz => hm z (List.mem_cons_of_mem _ hz)) h1 h2
    | false =>
      rw [q, Bool.false_and] at h2
      refine Eq.mpr (if_pos (by decide)) ?_
      exact h2 rfl
theorem body_read_path : ∀ ds k, F_read_path ds k → ps_read_path { nx := fun _ _ => k .non, rt := fun d S => (d.frz S).noRef = true ∧ k (d.frz S) } (startE 3 ds) [] := by
  rintro _ k ⟨l, rfl, hl, hk⟩
  rw [start_read_path]
  unfold ps_read_path
  simp only [pForD, pInsL, pExtA, pSeq, pAsg, pVar, pC, pOp, pNil, pCons, pTup, pLst, pLstM, pNot, pAndV, pOrV, pIf, pB, pAnd, pOr, pNotT, pNoPart, pPart, pCB, pUnN, pSl, pNext, pBreak, pCont, pRet, pRetN, pDrop, pIfS, pgName, pgNil, pgCons, pgTup_t, pAug, pApp, pYes, isk_non, nsk_non, isN_non, isN_bl, isN_int, isN_str, isN_tup, isN_lst, isN_ref, isN_obj, pTru, pFld, pStar, pMake, pSetF, pIt, pRng1, pRng2, forG, List.map_cons, List.map_nil, List.getElem?_cons_zero, List.getElem?_cons_succ, List.set_cons_zero, List.set_cons_succ, Option.some.injEq, exists_eq_left, exists_eq_left', true_and, and_true, wipeE, D.bl.injEq, D.int.injEq, D.str.injEq, D.tup.injEq, D.lst.injEq, Bool.not_true, decide_eq_true_eq, if_true, if_false, reduceIte, Bool.false_eq_true, Option.isNone_none, Option.isNone_some, Bool.not_false, List.length_nil, List.length_cons, List.nil_append, List.cons_append, D.ref.injEq, SO.lst.injEq, pCall, exists_const, and_self, Nat.zero_add, Nat.zero_le, Nat.reduceLeDiff, Nat.reduceAdd, eq_self, o_add, o_sub, o_mul, o_div, o_mod, o_cmp, o_int, o_lenl, o_lent, o_lens, o_tupl, o_tupt, o_min, o_max, q_int, ixk_tup, ixk_lst, ixk_scr, at0, at1, at2, at3, at4, at5, List.length_map, q_word, e_no, S_inj, pSplit]
  by_cases c : l = []
  · rw [if_pos c]
    rw [c] at hk
    exact rt_pure rfl hk
  rw [if_neg c]
  refine ⟨by decide +kernel, by rw [len_S]; omega, ?_⟩
  have es : Txt.split (SX.S l) (Str.ofString "/") = (cutL l).map SX.S := by
    rw [e_sl]
    exact SX.split_S (by simp) (by decide)
  rw [es, List.map_map]
  have hr : readP l = if (cutL l).all nameL = true then some (cutL l) else none := by
    unfold readP
    rw [if_neg c]
  rw [hr] at hk
  refine for_go (src := .lst ((cutL l).map dS)) (ds := (cutL l).map dS) (fun kk h => ⟨_, rfl, _, rfl, h⟩) (fun S => rfl) ?_
  refine loop_read_path _ _ _ _ (cutL l) _ (fun m hm => by have := cut_len hm; omega) (fun h1 x2 => ?_) (fun h1 => ?_)
  · rw [if_pos h1] at hk
    simp only [pForD, pInsL, pExtA, pSeq, pAsg, pVar, pC, pOp, pNil, pCons, pTup, pLst, pLstM, pNot, pAndV, pOrV, pIf, pB, pAnd, pOr, pNotT, pNoPart, pPart, pCB, pUnN, pSl, pNext, pBreak, pCont, pRet, pRetN, pDrop, pIfS, pgName, pgNil, pgCons, pgTup_t, pAug, pApp, pYes, isk_non, nsk_non, isN_non, isN_bl, isN_int, isN_str, isN_tup, isN_lst, isN_ref, isN_obj, pTru, pFld, pStar, pMake, pSetF, pIt, pRng1, pRng2, forG, List.map_cons, List.map_nil, List.getElem?_cons_zero, List.getElem?_cons_succ, List.set_cons_zero, List.set_cons_succ, Option.some.injEq, exists_eq_left, exists_eq_left', true_and, and_true, wipeE, D.bl.injEq, D.int.injEq, D.str.injEq, D.tup.injEq, D.lst.injEq, Bool.not_true, decide_eq_true_eq, if_true, if_false, reduceIte, Bool.false_eq_true, Option.isNone_none, Option.isNone_some, Bool.not_false, List.length_nil, List.length_cons, List.nil_append, List.cons_append, D.ref.injEq, SO.lst.injEq, pCall, exists_const, and_self, Nat.zero_add, Nat.zero_le, Nat.reduceLeDiff, Nat.reduceAdd, eq_self, o_add, o_sub, o_mul, o_div, o_mod, o_cmp, o_int, o_lenl, o_lent, o_lens, o_tupl, o_tupt, o_min, o_max, q_int, ixk_tup, ixk_lst, ixk_scr, at0, at1, at2, at3, at4, at5, List.length_map]
    exact rt_pure (pu_dP (cutL l)) hk
  · rw [if_neg (by rw [h1]; decide)] at hk
    exact rt_pure rfl hk
theorem ok_read_path {P : Program} {w : World} {K : PySem.W.Frag} {cl : Cl} {mg : Str → Option Value} {base : Heap} (D : Df K mg "read_path" s_read_path ["text"]) (T : Txt K cl mg) (hw : cl.w = w) (G_is_name : C8.Cal P w K mg base 1 "is_name" (spP K cl F_is_name) []) : C8.Cal P w K mg base 2 "read_path" (spP K cl F_read_path) [] := by
  subst hw
  refine D.cal sc_read_path (spP_len (n := 1) len_read_path) (fun f cdv  A outer s H vs Q E hr h => ?_)
  refine ⟨_,
    (pss_cons (ps_if (pt_cmpR (show OpR _ _ (rEqP K) from op_eqP hr.units) (pv 0) pe_str (nomark _))
      (pss_one (ps_ret (pe_tup pa_nil)))
      pss_nil)
    (pss_cons (ps_set (i := 1) sc_read_path.nd rfl (.inl rfl) (pe_split (pv 0) pe_str))
    (pss_cons (ps_for PassesOwn.never rfl (show PI _ _ _ (uIt K _) from upi (pv 1)) (pg_name (i := 2) sc_read_path.nd rfl (Or.inl rfl))
      (pss_one (ps_if (pt_not (pt_val (C8.pe_c G_is_name hr (by decide) (by rfl) (pa_cons (pv 2) pa_nil))))
        (pss_one (ps_ret pe_non))
        pss_nil)))
    (pss_one (ps_ret (pe_callTy (show CallR _ (.type "tuple") (uTup K) from call_tuple_of) (by rfl) T.n_tuple (by decide +kernel) (pa_cons (pv 1) pa_nil))))))), ?_⟩
  exact fn_ok (N := ["text", "parts", "part"]) (show SmS K cl _ ps_read_path from
    (sm_seq (sm_ifS (sm_test (sm_op smr_eq sm_var sm_str))
      ((sm_ret (sm_tup sm_nil)))
      sm_next)
    (sm_seq (sm_asg (sm_split sm_var sm_str) sm_gname)
    (sm_seq (sm_for (sm_it sm_var) sm_gname
      ((sm_ifS (sm_notT (sm_B (sm_call (sm_cons sm_var sm_nil))))
        ((sm_ret sm_non))
        sm_next)))
    ((sm_ret (sm_cb smc_tup (sm_cons sm_var sm_nil)))))))) body_read_path h
def pl_plain_number_1 : PSx :=
      ((pIfS (pB (pOp nik (pVar 2) (pC (.str (Str.ofString "0123456789")))))
        ((pRet (pC .non)))
        pNext))
theorem pl_plain_number_1_d (P : PEnds) (env : Pw.Env) (S : Sto) : pl_plain_number_1 P env S = (
      ((pIfS (pB (pOp nik (pVar 2) (pC (.str (Str.ofString "0123456789")))))
        ((pRet (pC .non)))
        pNext))) P env S := rfl
def ps_plain_number : PSx :=
    (pSeq (pIfS (pOr (pB (pOp eqk (pVar 0) (pC (.str (Str.ofString ""))))) (pB (pOp (cmpk fun i j => decide (j < i)) (pCB lenk (pCons (pVar 0) pNil)) (pVar 1))))
      ((pRet (pC .non)))
      pNext)
    (pSeq (pFor (pIt (pVar 0)) (pgName 2) pl_plain_number_1)
    (pSeq (pIfS (pAnd (pB (pOp nek (pVar 0) (pC (.str (Str.ofString "0"))))) (pB (pOp eqk (pOp ixk (pVar 0) (pC (.int 0))) (pC (.str (Str.ofString "0"))))))
      ((pRet (pC .non)))
      pNext)
    ((pRet (pCB intTk (pCons (pVar 0) pNil)))))))
theorem start_plain_number : ∀ a0 a1 : D, startE 3 [a0, a1] = [some a0, some a1, none] := fun _ _ => rfl
def numD (w : List Nat) : D := if plainL w = true then .int (valL w : Int) else .non
def F_plain_number : PFn := fun ds k => ∃ w : List Nat, ds = [.str (SX.S w), .int 10] ∧ w.length ≤ 1000 ∧ k (numD w)
theorem len_plain_number : ∀ ds k, F_plain_number ds k → ds.length = 2 := by
  rintro _ _ ⟨_, rfl, _⟩
  rfl
theorem e_dgs : Str.ofString "0123456789" = SX.S [48, 49, 50, 51, 52, 53, 54, 55, 56, 57] := by decide +kernel
theorem e_0 : Str.ofString "0" = SX.S [48] := by decide +kernel
theorem dig_mem (c : Nat) : decide (c ∈ (SX.S [48, 49, 50, 51, 52, 53, 54, 55, 56, 57]).cps.toList) = isDig c := by
  unfold isDig
  rw [Bool.eq_iff_iff, decide_eq_true_iff, Bool.and_eq_true, decide_eq_true_iff, decide_eq_true_iff]
  show c ∈ [48, 49, 50, 51, 52, 53, 54, 55, 56, 57] ↔ _
  simp only [List.mem_cons, List.mem_nil_iff, or_false]
  omega
theorem loop_plain_number (c0 c1 : Option D) (S : Sto) (P : PEnds) : ∀ (w : List Nat) (x2 : Option D), (w.all isDig = true → ∀ x2, P.nx [c0, c1, x2] S) → (w.all isDig = false → P.rt .non S) →
    forG (pgName 2) pl_plain_number_1 P (w.map fun c => D.str (SX.S [c])) [c0, c1, x2] S := by
  intro w
  induction w with
  | nil => exact fun x2 h _ => h rfl x2
  | cons a w ih =>
    intro x2 h1 h2
    rw [List.all_cons] at h1 h2
    show pgName 2 (D.str (SX.S [a])) _ _ _
    simp only [pForD, pInsL, pExtA, pSeq, pAsg, pVar, pC, pOp, pNil, pCons, pTup, pLst, pLstM, pNot, pAndV, pOrV, pIf, pB, pAnd, pOr, pNotT, pNoPart, pPart, pCB, pUnN, pSl, pNext, pBreak, pCont, pRet, pRetN, pDrop, pIfS, pgName, pgNil, pgCons, pgTup_t, pAug, pApp, pYes, isk_non, nsk_non, isN_non, isN_bl, isN_int, isN_str, isN_tup, isN_lst, isN_ref, isN_obj, pTru, pFld, pStar, pMake, pSetF, pIt, pRng1, pRng2, forG, List.map_cons, List.map_nil, List.getElem?_cons_zero, List.getElem?_cons_succ, List.set_cons_zero, List.set_cons_succ, Option.some.injEq, exists_eq_left, exists_eq_left', true_and, and_true, wipeE, D.bl.injEq, D.int.injEq, D.str.injEq, D.tup.injEq, D.lst.injEq, Bool.not_true, decide_eq_true_eq, if_true, if_false, reduceIte, Bool.false_eq_true, Option.isNone_none, Option.isNone_some, Bool.not_false, List.length_nil, List.length_cons, List.nil_append, List.cons_append, D.ref.injEq, SO.lst.injEq, pCall, exists_const, and_self, Nat.zero_add, Nat.zero_le, Nat.reduceLeDiff, Nat.reduceAdd, eq_self, o_add, o_sub, o_mul, o_div, o_mod, o_cmp, o_int, o_lenl, o_lent, o_lens, o_tupl, o_tupt, o_min, o_max, q_int, ixk_tup, ixk_lst, ixk_scr, at0, at1, at2, at3, at4, at5, List.length_map, pl_plain_number_1_d, e_dgs]
    refine ⟨a, rfl, ?_⟩
    rw [dig_mem]
    cases q : isDig a with
    | true =>
      rw [q, Bool.true_and] at h1 h2
      exact ⟨_, rfl, Eq.mpr (if_neg (by decide)) (ih _ h1 h2)⟩
    | false =>
      rw [q, Bool.false_and] at h2
      exact ⟨_, rfl, Eq.mpr (if_pos rfl) (h2 rfl)⟩
theorem val_dig (w : List Nat) : NumText.digitsVal w = valL w := by
  unfold NumText.digitsVal valL
  congr 1
  funext a c
  omega
theorem int_dig {w : List Nat} (hd : w.all isDig = true) (hn : w ≠ []) (hl : w.length ≤ 10) : PySem.intText? (SX.S w) = some (valL w : Int) := by
  rw [← val_dig]
  exact SX.int_S hd hn (by omega)
theorem n_word (S : Sto) (a b : Str) (k : D → Prop) : nek S (.str a) (.str b) k = k (.bl (!decide (a = b))) := by
  have h := q_word S a b fun d => k (match d with | .bl c => .bl (!c) | d => d)
  have e1 : Pw.eqk S (.str a) (.str b) (fun d => k (match d with | .bl c => .bl (!c) | d => d)) = nek S (.str a) (.str b) k := rfl
  rw [e1] at h
  exact h
theorem body_plain_number : ∀ ds k, F_plain_number ds k → ps_plain_number { nx := fun _ _ => k .non, rt := fun d S => (d.frz S).noRef = true ∧ k (d.frz S) } (startE 3 ds) [] := by
  rintro _ k ⟨w, rfl, hl, hk⟩
  rw [start_plain_number]
  unfold ps_plain_number
  unfold numD plainL at hk
  simp only [pForD, pInsL, pExtA, pSeq, pAsg, pVar, pC, pOp, pNil, pCons, pTup, pLst, pLstM, pNot, pAndV, pOrV, pIf, pB, pAnd, pOr, pNotT, pNoPart, pPart, pCB, pUnN, pSl, pNext, pBreak, pCont, pRet, pRetN, pDrop, pIfS, pgName, pgNil, pgCons, pgTup_t, pAug, pApp, pYes, isk_non, nsk_non, isN_non, isN_bl, isN_int, isN_str, isN_tup, isN_lst, isN_ref, isN_obj, pTru, pFld, pStar, pMake, pSetF, pIt, pRng1, pRng2, forG, List.map_cons, List.map_nil, List.getElem?_cons_zero, List.getElem?_cons_succ, List.set_cons_zero, List.set_cons_succ, Option.some.injEq, exists_eq_left, exists_eq_left', true_and, and_true, wipeE, D.bl.injEq, D.int.injEq, D.str.injEq, D.tup.injEq, D.lst.injEq, Bool.not_true, decide_eq_true_eq, if_true, if_false, reduceIte, Bool.false_eq_true, Option.isNone_none, Option.isNone_some, Bool.not_false, List.length_nil, List.length_cons, List.nil_append, List.cons_append, D.ref.injEq, SO.lst.injEq, pCall, exists_const, and_self, Nat.zero_add, Nat.zero_le, Nat.reduceLeDiff, Nat.reduceAdd, eq_self, o_add, o_sub, o_mul, o_div, o_mod, o_cmp, o_int, o_lenl, o_lent, o_lens, o_tupl, o_tupt, o_min, o_max, q_int, ixk_tup, ixk_lst, ixk_scr, at0, at1, at2, at3, at4, at5, List.length_map, q_word, e_no, e_0, S_inj]
  by_cases c : w = []
  · rw [if_pos c]
    rw [if_neg (by simp [c])] at hk
    exact rt_pure rfl hk
  rw [if_neg c]
  refine lenS hl ?_
  simp only [pForD, pInsL, pExtA, pSeq, pAsg, pVar, pC, pOp, pNil, pCons, pTup, pLst, pLstM, pNot, pAndV, pOrV, pIf, pB, pAnd, pOr, pNotT, pNoPart, pPart, pCB, pUnN, pSl, pNext, pBreak, pCont, pRet, pRetN, pDrop, pIfS, pgName, pgNil, pgCons, pgTup_t, pAug, pApp, pYes, isk_non, nsk_non, isN_non, isN_bl, isN_int, isN_str, isN_tup, isN_lst, isN_ref, isN_obj, pTru, pFld, pStar, pMake, pSetF, pIt, pRng1, pRng2, forG, List.map_cons, List.map_nil, List.getElem?_cons_zero, List.getElem?_cons_succ, List.set_cons_zero, List.set_cons_succ, Option.some.injEq, exists_eq_left, exists_eq_left', true_and, and_true, wipeE, D.bl.injEq, D.int.injEq, D.str.injEq, D.tup.injEq, D.lst.injEq, Bool.not_true, decide_eq_true_eq, if_true, if_false, reduceIte, Bool.false_eq_true, Option.isNone_none, Option.isNone_some, Bool.not_false, List.length_nil, List.length_cons, List.nil_append, List.cons_append, D.ref.injEq, SO.lst.injEq, pCall, exists_const, and_self, Nat.zero_add, Nat.zero_le, Nat.reduceLeDiff, Nat.reduceAdd, eq_self, o_add, o_sub, o_mul, o_div, o_mod, o_cmp, o_int, o_lenl, o_lent, o_lens, o_tupl, o_tupt, o_min, o_max, q_int, ixk_tup, ixk_lst, ixk_scr, at0, at1, at2, at3, at4, at5, List.length_map]
  by_cases c2 : 10 < w.length
  · rw [if_pos (by omega)]
    rw [decide_eq_false (p := w.length ≤ 10) (by omega), Bool.and_false] at hk
    exact rt_pure rfl hk
  rw [if_neg (by omega)]
  rw [decide_eq_true c, decide_eq_true (p := w.length ≤ 10) (by omega), Bool.true_and, Bool.true_and] at hk
  refine for_go (src := .str (SX.S w)) (ds := w.map fun c => D.str (SX.S [c])) (fun kk h => ⟨_, rfl, _, it_str w _, h⟩) (it_str w) ?_
  refine loop_plain_number _ _ _ _ w _ (fun h1 x1 => ?_) (fun h1 => ?_)
  · rw [h1, Bool.true_and] at hk
    have hd : ∀ c ∈ w, 48 ≤ c ∧ c ≤ 57 := fun c hc => by
      have := List.all_eq_true.mp h1 c hc
      unfold isDig at this
      rw [Bool.and_eq_true] at this
      exact ⟨of_decide_eq_true this.1, of_decide_eq_true this.2⟩
    simp only [pForD, pInsL, pExtA, pSeq, pAsg, pVar, pC, pOp, pNil, pCons, pTup, pLst, pLstM, pNot, pAndV, pOrV, pIf, pB, pAnd, pOr, pNotT, pNoPart, pPart, pCB, pUnN, pSl, pNext, pBreak, pCont, pRet, pRetN, pDrop, pIfS, pgName, pgNil, pgCons, pgTup_t, pAug, pApp, pYes, isk_non, nsk_non, isN_non, isN_bl, isN_int, isN_str, isN_tup, isN_lst, isN_ref, isN_obj, pTru, pFld, pStar, pMake, pSetF, pIt, pRng1, pRng2, forG, List.map_cons, List.map_nil, List.getElem?_cons_zero, List.getElem?_cons_succ, List.set_cons_zero, List.set_cons_succ, Option.some.injEq, exists_eq_left, exists_eq_left', true_and, and_true, wipeE, D.bl.injEq, D.int.injEq, D.str.injEq, D.tup.injEq, D.lst.injEq, Bool.not_true, decide_eq_true_eq, if_true, if_false, reduceIte, Bool.false_eq_true, Option.isNone_none, Option.isNone_some, Bool.not_false, List.length_nil, List.length_cons, List.nil_append, List.cons_append, D.ref.injEq, SO.lst.injEq, pCall, exists_const, and_self, Nat.zero_add, Nat.zero_le, Nat.reduceLeDiff, Nat.reduceAdd, eq_self, o_add, o_sub, o_mul, o_div, o_mod, o_cmp, o_int, o_lenl, o_lent, o_lens, o_tupl, o_tupt, o_min, o_max, q_int, ixk_tup, ixk_lst, ixk_scr, at0, at1, at2, at3, at4, at5, List.length_map, q_word, e_0, S_inj, n_word]
    obtain ⟨a, w', rfl⟩ := List.exists_cons_of_ne_nil c
    have ret : k (.int (valL (a :: w') : Int)) → intTk [] [D.str (SX.S (a :: w'))] fun d => (D.frz [] d).noRef = true ∧ k (D.frz [] d) := fun h =>
      ⟨_, _, rfl, int_dig h1 c (by omega), by rw [len_S]; omega, rt_pure rfl h⟩
    by_cases c3 : a :: w' = [48]
    · rw [decide_eq_true c3]
      rw [decide_eq_true c3, Bool.true_or, if_pos rfl] at hk
      exact Eq.mpr (if_neg (by decide)) (ret hk)
    · rw [decide_eq_false c3]
      rw [decide_eq_false c3, Bool.false_or] at hk
      refine Eq.mpr (if_pos rfl) ⟨a, by rw [len_S]; omega, L2.atI_nat (xs := a :: w') (j := 0) rfl, ?_⟩
      refine Eq.mpr (q_word _ _ _ _) ⟨_, rfl, ?_⟩
      have e1 : (⟨#[a]⟩ : Str) = SX.S [48] ↔ a = 48 := ⟨fun h => by
        have := congrArg (fun x : Str => x.cps.toList) h
        cases this
        rfl, fun h => by rw [h]⟩
      by_cases c4 : a = 48
      · rw [decide_eq_true (e1.mpr c4)]
        rw [if_neg (by simp [c4])] at hk
        exact Eq.mpr (if_pos rfl) (rt_pure rfl hk)
      · rw [decide_eq_false fun z => c4 (e1.mp z)]
        rw [if_pos (by simpa using c4)] at hk
        exact Eq.mpr (if_neg (by decide)) (ret hk)
  · rw [h1, Bool.false_and] at hk
    exact rt_pure rfl hk
theorem ok_plain_number {P : Program} {w : World} {K : PySem.W.Frag} {cl : Cl} {mg : Str → Option Value} {base : Heap} (D : Df K mg "plain_number" s_plain_number ["word", "most"]) (T : Txt K cl mg) (hw : cl.w = w)  : C8.Cal P w K mg base 1 "plain_number" (spP K cl F_plain_number) [] := by
  subst hw
  refine D.cal sc_plain_number (spP_len (n := 2) len_plain_number) (fun f cdv  A outer s H vs Q E hr h => ?_)
  refine ⟨_,
    (pss_cons (ps_if (PW.pt (pw_or (pt_cmpR (show OpR _ _ (rEqP K) from op_eqP hr.units) (pv 0) pe_str (nomark _)) (pw_or1 (pt_cmpR op_gt (pe_callB (show CallR _ (.builtin "len") (uLen K) from ucall_len) (by rfl) T.n_len PySem.boot_len (pa_cons (pv 0) pa_nil)) (pv 1) (nomark _)))))
      (pss_one (ps_ret pe_non))
      pss_nil)
    (pss_cons (ps_for PassesOwn.never rfl (show PI _ _ _ (uIt K _) from upi (pv 0)) (pg_name (i := 2) sc_plain_number.nd rfl (Or.inl rfl))
      (pss_one (ps_if (pt_cmpR (show OpR _ _ (uNi K) from uop_ni hr.units) (pv 2) (C8.pe_gc (by rfl) T.g_DIGITS) (by with_unfolding_all rfl))
        (pss_one (ps_ret pe_non))
        pss_nil)))
    (pss_cons (ps_if (PW.pt (pw_and (pt_cmpR (show OpR _ _ (rNeP K) from op_neP hr.units) (pv 0) pe_str (nomark _)) (pw_and1 (pt_cmpR (show OpR _ _ (rEqP K) from op_eqP hr.units) (pe_ix (show IxR _ (uIx K) from uix) (pv 0) pe_int (fun _ _ => rfl)) pe_str (nomark _)))))
      (pss_one (ps_ret pe_non))
      pss_nil)
    (pss_one (ps_ret (pe_callTy call_int_str (by rfl) T.n_int (by decide +kernel) (pa_cons (pv 0) pa_nil))))))), ?_⟩
  exact fn_ok (N := ["word", "most", "sign"]) (show SmS K cl _ ps_plain_number from
    (sm_seq (sm_ifS (sm_or (sm_test (sm_op smr_eq sm_var sm_str)) (sm_test (sm_op smr_cmp (sm_cb smc_len (sm_cons sm_var sm_nil)) sm_var)))
      ((sm_ret sm_non))
      sm_next)
    (sm_seq (sm_for (sm_it sm_var) sm_gname
      ((sm_ifS (sm_test (sm_op smr_ni sm_var sm_str))
        ((sm_ret sm_non))
        sm_next)))
    (sm_seq (sm_ifS (sm_and (sm_test (sm_op smr_ne sm_var sm_str)) (sm_test (sm_op smr_eq (sm_op smr_ix sm_var sm_int) sm_str)))
      ((sm_ret sm_non))
      sm_next)
    ((sm_ret (sm_cb smc_intT (sm_cons sm_var sm_nil)))))))) body_plain_number h
def ps_number_of : PSx :=
    (pSeq (pAsg (pCall F_plain_number (pCons (pVar 0) (pCons (pC (.int 10)) pNil))) (pgName 1))
    (pSeq (pIfS (pOr (pB (pOp isk (pVar 1) (pC .non))) (pB (pOp (cmpk fun i j => decide (j < i)) (pVar 1) (pC (.int 4294967295)))))
      ((pRet (pC .non)))
      pNext)
    ((pRet (pVar 1)))))
theorem start_number_of : ∀ a0 : D, startE 2 [a0] = [some a0, none] := fun _ => rfl
def oN (o : Option Nat) : D := match o with
  | none => .non
  | some n => .int n
def F_number_of : PFn := fun ds k => ∃ w : List Nat, ds = [.str (SX.S w)] ∧ w.length ≤ 1000 ∧ k (oN (Par.numL w))
theorem len_number_of : ∀ ds k, F_number_of ds k → ds.length = 1 := by
  rintro _ _ ⟨_, rfl, _⟩
  rfl
theorem body_number_of : ∀ ds k, F_number_of ds k → ps_number_of { nx := fun _ _ => k .non, rt := fun d S => (d.frz S).noRef = true ∧ k (d.frz S) } (startE 2 ds) [] := by
  rintro _ k ⟨w, rfl, hl, hk⟩
  rw [start_number_of]
  unfold ps_number_of
  unfold Par.numL at hk
  simp only [pForD, pInsL, pExtA, pSeq, pAsg, pVar, pC, pOp, pNil, pCons, pTup, pLst, pLstM, pNot, pAndV, pOrV, pIf, pB, pAnd, pOr, pNotT, pNoPart, pPart, pCB, pUnN, pSl, pNext, pBreak, pCont, pRet, pRetN, pDrop, pIfS, pgName, pgNil, pgCons, pgTup_t, pAug, pApp, pYes, isk_non, nsk_non, isN_non, isN_bl, isN_int, isN_str, isN_tup, isN_lst, isN_ref, isN_obj, pTru, pFld, pStar, pMake, pSetF, pIt, pRng1, pRng2, forG, List.map_cons, List.map_nil, List.getElem?_cons_zero, List.getElem?_cons_succ, List.set_cons_zero, List.set_cons_succ, Option.some.injEq, exists_eq_left, exists_eq_left', true_and, and_true, wipeE, D.bl.injEq, D.int.injEq, D.str.injEq, D.tup.injEq, D.lst.injEq, Bool.not_true, decide_eq_true_eq, if_true, if_false, reduceIte, Bool.false_eq_true, Option.isNone_none, Option.isNone_some, Bool.not_false, List.length_nil, List.length_cons, List.nil_append, List.cons_append, D.ref.injEq, SO.lst.injEq, pCall, exists_const, and_self, Nat.zero_add, Nat.zero_le, Nat.reduceLeDiff, Nat.reduceAdd, eq_self, o_add, o_sub, o_mul, o_div, o_mod, o_cmp, o_int, o_lenl, o_lent, o_lens, o_tupl, o_tupt, o_min, o_max, q_int, ixk_tup, ixk_lst, ixk_scr, at0, at1, at2, at3, at4, at5, List.length_map]
  refine call_of rfl ⟨w, rfl, hl, ?_⟩
  unfold numD
  by_cases c : plainL w = true
  · rw [if_pos c]
    simp only [pForD, pInsL, pExtA, pSeq, pAsg, pVar, pC, pOp, pNil, pCons, pTup, pLst, pLstM, pNot, pAndV, pOrV, pIf, pB, pAnd, pOr, pNotT, pNoPart, pPart, pCB, pUnN, pSl, pNext, pBreak, pCont, pRet, pRetN, pDrop, pIfS, pgName, pgNil, pgCons, pgTup_t, pAug, pApp, pYes, isk_non, nsk_non, isN_non, isN_bl, isN_int, isN_str, isN_tup, isN_lst, isN_ref, isN_obj, pTru, pFld, pStar, pMake, pSetF, pIt, pRng1, pRng2, forG, List.map_cons, List.map_nil, List.getElem?_cons_zero, List.getElem?_cons_succ, List.set_cons_zero, List.set_cons_succ, Option.some.injEq, exists_eq_left, exists_eq_left', true_and, and_true, wipeE, D.bl.injEq, D.int.injEq, D.str.injEq, D.tup.injEq, D.lst.injEq, Bool.not_true, decide_eq_true_eq, if_true, if_false, reduceIte, Bool.false_eq_true, Option.isNone_none, Option.isNone_some, Bool.not_false, List.length_nil, List.length_cons, List.nil_append, List.cons_append, D.ref.injEq, SO.lst.injEq, pCall, exists_const, and_self, Nat.zero_add, Nat.zero_le, Nat.reduceLeDiff, Nat.reduceAdd, eq_self, o_add, o_sub, o_mul, o_div, o_mod, o_cmp, o_int, o_lenl, o_lent, o_lens, o_tupl, o_tupt, o_min, o_max, q_int, ixk_tup, ixk_lst, ixk_scr, at0, at1, at2, at3, at4, at5, List.length_map]
    by_cases c2 : valL w ≤ 4294967295
    · rw [if_pos ⟨c, c2⟩] at hk
      rw [if_neg (by omega)]
      exact rt_pure rfl hk
    · rw [if_neg fun z => c2 z.2] at hk
      rw [if_pos (by omega)]
      exact rt_pure rfl hk
  · rw [if_neg c]
    rw [if_neg fun z => c z.1] at hk
    simp only [pForD, pInsL, pExtA, pSeq, pAsg, pVar, pC, pOp, pNil, pCons, pTup, pLst, pLstM, pNot, pAndV, pOrV, pIf, pB, pAnd, pOr, pNotT, pNoPart, pPart, pCB, pUnN, pSl, pNext, pBreak, pCont, pRet, pRetN, pDrop, pIfS, pgName, pgNil, pgCons, pgTup_t, pAug, pApp, pYes, isk_non, nsk_non, isN_non, isN_bl, isN_int, isN_str, isN_tup, isN_lst, isN_ref, isN_obj, pTru, pFld, pStar, pMake, pSetF, pIt, pRng1, pRng2, forG, List.map_cons, List.map_nil, List.getElem?_cons_zero, List.getElem?_cons_succ, List.set_cons_zero, List.set_cons_succ, Option.some.injEq, exists_eq_left, exists_eq_left', true_and, and_true, wipeE, D.bl.injEq, D.int.injEq, D.str.injEq, D.tup.injEq, D.lst.injEq, Bool.not_true, decide_eq_true_eq, if_true, if_false, reduceIte, Bool.false_eq_true, Option.isNone_none, Option.isNone_some, Bool.not_false, List.length_nil, List.length_cons, List.nil_append, List.cons_append, D.ref.injEq, SO.lst.injEq, pCall, exists_const, and_self, Nat.zero_add, Nat.zero_le, Nat.reduceLeDiff, Nat.reduceAdd, eq_self, o_add, o_sub, o_mul, o_div, o_mod, o_cmp, o_int, o_lenl, o_lent, o_lens, o_tupl, o_tupt, o_min, o_max, q_int, ixk_tup, ixk_lst, ixk_scr, at0, at1, at2, at3, at4, at5, List.length_map]
    exact rt_pure rfl hk
theorem ok_number_of {P : Program} {w : World} {K : PySem.W.Frag} {cl : Cl} {mg : Str → Option Value} {base : Heap} (D : Df K mg "number_of" s_number_of ["word"]) (T : Txt K cl mg) (hw : cl.w = w) (G_plain_number : C8.Cal P w K mg base 1 "plain_number" (spP K cl F_plain_number) []) : C8.Cal P w K mg base 2 "number_of" (spP K cl F_number_of) [] := by
  subst hw
  refine D.cal sc_number_of (spP_len (n := 1) len_number_of) (fun f cdv  A outer s H vs Q E hr h => ?_)
  refine ⟨_,
    (pss_cons (ps_set (i := 1) sc_number_of.nd rfl (.inl rfl) (C8.pe_c G_plain_number hr (by decide) (by rfl) (pa_cons (pv 0) (pa_cons (C8.pe_gc (by rfl) T.g_MOST_DIGITS) pa_nil))))
    (pss_cons (ps_if (PW.pt (pw_or (pt_cmpR op_isN (pv 1) pe_non (nomark _)) (pw_or1 (pt_cmpR op_gt (pv 1) (C8.pe_gc (by rfl) T.g_MOST_NUMBER) (nomark _)))))
      (pss_one (ps_ret pe_non))
      pss_nil)
    (pss_one (ps_ret (pv 1))))), ?_⟩
  exact fn_ok (N := ["word", "number"]) (show SmS K cl _ ps_number_of from
    (sm_seq (sm_asg (sm_call (sm_cons sm_var (sm_cons sm_int sm_nil))) sm_gname)
    (sm_seq (sm_ifS (sm_or (sm_test (sm_op smr_is sm_var sm_non)) (sm_test (sm_op smr_cmp sm_var sm_int)))
      ((sm_ret sm_non))
      sm_next)
    ((sm_ret sm_var))))) body_number_of h
def pr_quoted_at_1 : PSx :=
      (pSeq (pIfS (pB (pOp isk (pVar 3) (pC .non)))
        ((pRet (pC .non)))
        pNext)
      (pSeq (pApp (pVar 2) (pVar 3))
      ((pAug 1 (fun i j => i + j) (pC (.int 1))))))
def pl_quoted_at_1 : PSx :=
      (pSeq (pAsg (pOp ixk (pVar 0) (pVar 1)) (pgName 3))
      (pSeq (pIfS (pB (pOp eqk (pVar 3) (pC (.str (Str.ofString "\\")))))
        (pSeq (pAug 1 (fun i j => i + j) (pC (.int 1)))
        ((pAsg (pKget tab_ESCAPES (pSl (pVar 0) (pPart (pVar 1)) (pPart (pOp addk (pVar 1) (pC (.int 1)))))) (pgName 3))))
        ((pIfS (pB (pOp eqk (pVar 3) (pC (.str (Str.ofString "\n")))))
          ((pRet (pC .non)))
          pNext)))
      pr_quoted_at_1))
theorem pl_quoted_at_1_d (P : PEnds) (env : Pw.Env) (S : Sto) : pl_quoted_at_1 P env S = (
      (pSeq (pAsg (pOp ixk (pVar 0) (pVar 1)) (pgName 3))
      (pSeq (pIfS (pB (pOp eqk (pVar 3) (pC (.str (Str.ofString "\\")))))
        (pSeq (pAug 1 (fun i j => i + j) (pC (.int 1)))
        ((pAsg (pKget tab_ESCAPES (pSl (pVar 0) (pPart (pVar 1)) (pPart (pOp addk (pVar 1) (pC (.int 1)))))) (pgName 3))))
        ((pIfS (pB (pOp eqk (pVar 3) (pC (.str (Str.ofString "\n")))))
          ((pRet (pC .non)))
          pNext)))
      pr_quoted_at_1))) P env S := rfl
def ps_quoted_at : PSx :=
    (pSeq (pAsg (pLstM pNil) (pgName 2))
    (pSeq (pAug 1 (fun i j => i + j) (pC (.int 1)))
    (pSeq (pWhile (pAnd (pB (pOp (cmpk fun i j => decide (i < j)) (pVar 1) (pCB lenk (pCons (pVar 0) pNil)))) (pB (pOp nek (pOp ixk (pVar 0) (pVar 1)) (pC (.str (Str.ofString "\"")))))) pl_quoted_at_1)
    (pSeq (pIfS (pB (pOp (cmpk fun i j => decide (j ≤ i)) (pVar 1) (pCB lenk (pCons (pVar 0) pNil))))
      ((pRet (pC .non)))
      pNext)
    ((pRet (pTup (pCons (pTup (pCons (pC (.str (Str.ofString "quoted"))) (pCons (pTJoin (pC (.str (Str.ofString ""))) (pVar 2)) pNil))) (pCons (pOp addk (pVar 1) (pC (.int 1))) pNil)))))))))
theorem start_quoted_at : ∀ a0 a1 : D, startE 4 [a0, a1] = [some a0, some a1, none, none] := fun _ _ => rfl
def ePt : Pt → D
  | .wd w => .tup [.str (Str.ofString "word"), dS w]
  | .nm n => .tup [.str (Str.ofString "number"), .int n]
  | .qt t => .tup [.str (Str.ofString "quoted"), dS t]
theorem pu_pt (p : Pt) : (ePt p).pure = true := by cases p <;> rfl
def found (n : Nat) (o : Option (Pt × List Nat)) : D := match o with
  | none => .non
  | some (p, r) => .tup [ePt p, .int ((n - r.length : Nat) : Int)]
theorem pu_found (n : Nat) (o : Option (Pt × List Nat)) : (found n o).pure = true := by
  cases o with
  | none => rfl
  | some q =>
    obtain ⟨p, r⟩ := q
    show ((ePt p).pure && true) = true
    rw [pu_pt]
    rfl
def F_quoted_at : PFn := fun ds k => ∃ (l : List Nat) (i : Nat), ds = [.str (SX.S l), .int (i : Int)] ∧ l.length ≤ 1000 ∧ i < l.length ∧ k (found l.length ((quotL (l.drop (i + 1))).map fun p => (.qt p.1, p.2)))
theorem len_quoted_at : ∀ ds k, F_quoted_at ds k → ds.length = 2 := by
  rintro _ _ ⟨_, _, rfl, _⟩
  rfl
theorem e_q : Str.ofString "\"" = SX.S [34] := by decide +kernel
theorem e_b : Str.ofString "\\" = SX.S [92] := by decide +kernel
theorem e_nl : Str.ofString "\n" = SX.S [10] := by decide +kernel
theorem cut_mid (l : List Nat) (a b : Nat) (h : a ≤ b) : cutS (SX.S l) (some (a : Int)) (some (b : Int)) = SX.S ((l.drop a).take (b - a)) := by
  unfold cutS
  rw [len_S, HT.sIx_nat, HT.sIx_nat]
  show SX.S ((l.drop (min a l.length)).take (min b l.length - min a l.length)) = _
  refine congrArg SX.S ?_
  by_cases h1 : a ≤ l.length
  · rw [Nat.min_eq_left h1]
    by_cases h2 : b ≤ l.length
    · rw [Nat.min_eq_left h2]
    · rw [Nat.min_eq_right (by omega), List.take_of_length_le (by rw [List.length_drop]; omega), List.take_of_length_le (by rw [List.length_drop]; omega)]
  · rw [Nat.min_eq_right (show l.length ≤ a by omega), Nat.min_eq_right (show l.length ≤ b by omega), List.drop_eq_nil_of_le (Nat.le_refl _), List.drop_eq_nil_of_le (show l.length ≤ a by omega)]
    simp
theorem ixS {S : Sto} {l : List Nat} {j a : Nat} {k : D → Prop} (h : l[j]? = some a) (hl : l.length ≤ 1000) (hk : k (.str (SX.S [a]))) : ixk S (.str (SX.S l)) (.int (j : Int)) k := ⟨a, by rw [len_S]; omega, L2.atI_nat (xs := l) h, hk⟩
theorem midS {S : Sto} {l : List Nat} {a b : Nat} {k : D → Prop} (h : l.length ≤ 1000) (hab : a ≤ b) (hk : k (.str (SX.S ((l.drop a).take (b - a))))) : slk S (.str (SX.S l)) (some (a : Int)) (some (b : Int)) k := ⟨by rw [len_S]; omega, by rw [cut_mid l a b hab]; exact hk⟩
theorem tabE : tab_ESCAPES = [(SX.S [34], dS [34]), (SX.S [92], dS [92]), (SX.S [110], dS [10])] := by
  unfold tab_ESCAPES dS
  rw [show Str.ofString "\"" = SX.S [34] by decide +kernel, show Str.ofString "\\" = SX.S [92] by decide +kernel, show Str.ofString "n" = SX.S [110] by decide +kernel, show Str.ofString "\n" = SX.S [10] by decide +kernel]
theorem esc_tab (d : Nat) : (tabAt tab_ESCAPES (SX.S [d])).getD .non = match esc d with
    | none => .non
    | some x => dS [x] := by
  rw [tabE]
  unfold tabAt esc
  by_cases h1 : d = 34
  · subst h1
    rw [List.find?_cons_of_pos (by simp)]
    rfl
  rw [List.find?_cons_of_neg (by simp [S_inj]; exact fun z => h1 z.symm), if_neg h1]
  by_cases h2 : d = 92
  · subst h2
    rw [List.find?_cons_of_pos (by simp)]
    rfl
  rw [List.find?_cons_of_neg (by simp [S_inj]; exact fun z => h2 z.symm), if_neg h2]
  by_cases h3 : d = 110
  · subst h3
    rw [List.find?_cons_of_pos (by simp)]
    rfl
  rw [List.find?_cons_of_neg (by simp [S_inj]; exact fun z => h3 z.symm), if_neg h3]
  rfl
theorem esc_tab0 : (tabAt tab_ESCAPES (SX.S [])).getD .non = .non := by
  rw [tabE]
  unfold tabAt
  rw [List.find?_cons_of_neg (by simp [S_inj]), List.find?_cons_of_neg (by simp [S_inj]), List.find?_cons_of_neg (by simp [S_inj])]
  rfl
theorem sum_ones : ∀ acc : List Nat, ((acc.map fun c => SX.S [c]).map (·.length)).sum = acc.length
  | [] => rfl
  | a :: acc => by
    rw [List.map_cons, List.map_cons, List.sum_cons, sum_ones acc, List.length_cons]
    show 1 + _ = _
    omega
theorem body_quoted_at : ∀ ds k, F_quoted_at ds k → ps_quoted_at { nx := fun _ _ => k .non, rt := fun d S => (d.frz S).noRef = true ∧ k (d.frz S) } (startE 4 ds) [] := by
  rintro _ k ⟨l, i, rfl, hl, hi, hk⟩
  rw [start_quoted_at]
  unfold ps_quoted_at
  simp only [pForD, pInsL, pExtA, pSeq, pAsg, pVar, pC, pOp, pNil, pCons, pTup, pLst, pLstM, pNot, pAndV, pOrV, pIf, pB, pAnd, pOr, pNotT, pNoPart, pPart, pCB, pUnN, pSl, pNext, pBreak, pCont, pRet, pRetN, pDrop, pIfS, pgName, pgNil, pgCons, pgTup_t, pAug, pApp, pYes, isk_non, nsk_non, isN_non, isN_bl, isN_int, isN_str, isN_tup, isN_lst, isN_ref, isN_obj, pTru, pFld, pStar, pMake, pSetF, pIt, pRng1, pRng2, forG, List.map_cons, List.map_nil, List.getElem?_cons_zero, List.getElem?_cons_succ, List.set_cons_zero, List.set_cons_succ, Option.some.injEq, exists_eq_left, exists_eq_left', true_and, and_true, wipeE, D.bl.injEq, D.int.injEq, D.str.injEq, D.tup.injEq, D.lst.injEq, Bool.not_true, decide_eq_true_eq, if_true, if_false, reduceIte, Bool.false_eq_true, Option.isNone_none, Option.isNone_some, Bool.not_false, List.length_nil, List.length_cons, List.nil_append, List.cons_append, D.ref.injEq, SO.lst.injEq, pCall, exists_const, and_self, Nat.zero_add, Nat.zero_le, Nat.reduceLeDiff, Nat.reduceAdd, eq_self, o_add, o_sub, o_mul, o_div, o_mod, o_cmp, o_int, o_lenl, o_lent, o_lens, o_tupl, o_tupt, o_min, o_max, q_int, ixk_tup, ixk_lst, ixk_scr, at0, at1, at2, at3, at4, at5, List.length_map]
  refine ⟨fun m env S => ∃ (j : Nat) (acc : List Nat) (x3 : Option D), env = [some (.str (SX.S l)), some (.int (j : Int)), some (.ref 0), x3] ∧ S = [.lst (acc.map fun c => D.str (SX.S [c]))] ∧ j ≤ l.length ∧ m = l.length - j ∧ acc.length ≤ j ∧ quotL (l.drop (i + 1)) = (quotL (l.drop j)).map fun p => (acc ++ p.1, p.2), ⟨_, i + 1, [], _, rfl, rfl, by omega, rfl, Nat.zero_le _, by cases quotL (l.drop (i + 1)) <;> rfl⟩, ?_⟩
  rintro m env S ⟨j, acc, x3, rfl, rfl, hj, rfl, hac, hq⟩
  have stop : (l.length ≤ j ∨ (l.drop j = 34 :: l.drop (j + 1) ∧ j < l.length)) → pSeq (pIfS (pB (pOp (cmpk fun i j => decide (j ≤ i)) (pVar 1) (pCB lenk (pCons (pVar 0) pNil)))) (pRet (pC .non)) pNext) (pRet (pTup (pCons (pTup (pCons (pC (.str (Str.ofString "quoted"))) (pCons (pTJoin (pC (.str (Str.ofString ""))) (pVar 2)) pNil))) (pCons (pOp addk (pVar 1) (pC (.int 1))) pNil)))) { nx := fun _ _ => k .non, rt := fun d S => (d.frz S).noRef = true ∧ k (d.frz S) } [some (.str (SX.S l)), some (.int (j : Int)), some (.ref 0), x3] [.lst (acc.map fun c => D.str (SX.S [c]))] := fun hst => by
    simp only [pForD, pInsL, pExtA, pSeq, pAsg, pVar, pC, pOp, pNil, pCons, pTup, pLst, pLstM, pNot, pAndV, pOrV, pIf, pB, pAnd, pOr, pNotT, pNoPart, pPart, pCB, pUnN, pSl, pNext, pBreak, pCont, pRet, pRetN, pDrop, pIfS, pgName, pgNil, pgCons, pgTup_t, pAug, pApp, pYes, isk_non, nsk_non, isN_non, isN_bl, isN_int, isN_str, isN_tup, isN_lst, isN_ref, isN_obj, pTru, pFld, pStar, pMake, pSetF, pIt, pRng1, pRng2, forG, List.map_cons, List.map_nil, List.getElem?_cons_zero, List.getElem?_cons_succ, List.set_cons_zero, List.set_cons_succ, Option.some.injEq, exists_eq_left, exists_eq_left', true_and, and_true, wipeE, D.bl.injEq, D.int.injEq, D.str.injEq, D.tup.injEq, D.lst.injEq, Bool.not_true, decide_eq_true_eq, if_true, if_false, reduceIte, Bool.false_eq_true, Option.isNone_none, Option.isNone_some, Bool.not_false, List.length_nil, List.length_cons, List.nil_append, List.cons_append, D.ref.injEq, SO.lst.injEq, pCall, exists_const, and_self, Nat.zero_add, Nat.zero_le, Nat.reduceLeDiff, Nat.reduceAdd, eq_self, o_add, o_sub, o_mul, o_div, o_mod, o_cmp, o_int, o_lenl, o_lent, o_lens, o_tupl, o_tupt, o_min, o_max, q_int, ixk_tup, ixk_lst, ixk_scr, at0, at1, at2, at3, at4, at5, List.length_map]
    refine lenS hl ?_
    simp only [pForD, pInsL, pExtA, pSeq, pAsg, pVar, pC, pOp, pNil, pCons, pTup, pLst, pLstM, pNot, pAndV, pOrV, pIf, pB, pAnd, pOr, pNotT, pNoPart, pPart, pCB, pUnN, pSl, pNext, pBreak, pCont, pRet, pRetN, pDrop, pIfS, pgName, pgNil, pgCons, pgTup_t, pAug, pApp, pYes, isk_non, nsk_non, isN_non, isN_bl, isN_int, isN_str, isN_tup, isN_lst, isN_ref, isN_obj, pTru, pFld, pStar, pMake, pSetF, pIt, pRng1, pRng2, forG, List.map_cons, List.map_nil, List.getElem?_cons_zero, List.getElem?_cons_succ, List.set_cons_zero, List.set_cons_succ, Option.some.injEq, exists_eq_left, exists_eq_left', true_and, and_true, wipeE, D.bl.injEq, D.int.injEq, D.str.injEq, D.tup.injEq, D.lst.injEq, Bool.not_true, decide_eq_true_eq, if_true, if_false, reduceIte, Bool.false_eq_true, Option.isNone_none, Option.isNone_some, Bool.not_false, List.length_nil, List.length_cons, List.nil_append, List.cons_append, D.ref.injEq, SO.lst.injEq, pCall, exists_const, and_self, Nat.zero_add, Nat.zero_le, Nat.reduceLeDiff, Nat.reduceAdd, eq_self, o_add, o_sub, o_mul, o_div, o_mod, o_cmp, o_int, o_lenl, o_lent, o_lens, o_tupl, o_tupt, o_min, o_max, q_int, ixk_tup, ixk_lst, ixk_scr, at0, at1, at2, at3, at4, at5, List.length_map]
    rcases hst with h | ⟨h, c⟩
    · rw [if_pos (by omega)]
      have hn : l.drop j = [] := List.drop_eq_nil_of_le h
      rw [hq, hn] at hk
      exact rt_pure rfl hk
    · rw [if_neg (by omega)]
      simp only [pForD, pInsL, pExtA, pSeq, pAsg, pVar, pC, pOp, pNil, pCons, pTup, pLst, pLstM, pNot, pAndV, pOrV, pIf, pB, pAnd, pOr, pNotT, pNoPart, pPart, pCB, pUnN, pSl, pNext, pBreak, pCont, pRet, pRetN, pDrop, pIfS, pgName, pgNil, pgCons, pgTup_t, pAug, pApp, pYes, isk_non, nsk_non, isN_non, isN_bl, isN_int, isN_str, isN_tup, isN_lst, isN_ref, isN_obj, pTru, pFld, pStar, pMake, pSetF, pIt, pRng1, pRng2, forG, List.map_cons, List.map_nil, List.getElem?_cons_zero, List.getElem?_cons_succ, List.set_cons_zero, List.set_cons_succ, Option.some.injEq, exists_eq_left, exists_eq_left', true_and, and_true, wipeE, D.bl.injEq, D.int.injEq, D.str.injEq, D.tup.injEq, D.lst.injEq, Bool.not_true, decide_eq_true_eq, if_true, if_false, reduceIte, Bool.false_eq_true, Option.isNone_none, Option.isNone_some, Bool.not_false, List.length_nil, List.length_cons, List.nil_append, List.cons_append, D.ref.injEq, SO.lst.injEq, pCall, exists_const, and_self, Nat.zero_add, Nat.zero_le, Nat.reduceLeDiff, Nat.reduceAdd, eq_self, o_add, o_sub, o_mul, o_div, o_mod, o_cmp, o_int, o_lenl, o_lent, o_lens, o_tupl, o_tupt, o_min, o_max, q_int, ixk_tup, ixk_lst, ixk_scr, at0, at1, at2, at3, at4, at5, List.length_map, pTJoin, e_no]
      refine ⟨acc.map fun c => SX.S [c], by rw [List.map_map]; rfl, ?_, ?_⟩
      · rw [sum_ones]
        show acc.length + _ * 0 ≤ _
        omega
      rw [Lw.join_ones]
      have hq2 : quotL (l.drop j) = some ([], l.drop (j + 1)) := by
        rw [h, quotL.eq_def]
        rfl
      rw [hq, hq2] at hk
      have e : (l.length - (l.drop (j + 1)).length : Nat) = j + 1 := by
        rw [List.length_drop]
        omega
      have hk : k (.tup [.tup [.str (Str.ofString "quoted"), dS (acc ++ [])], .int ((l.length - (l.drop (j + 1)).length : Nat) : Int)]) := hk
      rw [e, List.append_nil] at hk
      exact rt_pure rfl hk
  simp only [pForD, pInsL, pExtA, pSeq, pAsg, pVar, pC, pOp, pNil, pCons, pTup, pLst, pLstM, pNot, pAndV, pOrV, pIf, pB, pAnd, pOr, pNotT, pNoPart, pPart, pCB, pUnN, pSl, pNext, pBreak, pCont, pRet, pRetN, pDrop, pIfS, pgName, pgNil, pgCons, pgTup_t, pAug, pApp, pYes, isk_non, nsk_non, isN_non, isN_bl, isN_int, isN_str, isN_tup, isN_lst, isN_ref, isN_obj, pTru, pFld, pStar, pMake, pSetF, pIt, pRng1, pRng2, forG, List.map_cons, List.map_nil, List.getElem?_cons_zero, List.getElem?_cons_succ, List.set_cons_zero, List.set_cons_succ, Option.some.injEq, exists_eq_left, exists_eq_left', true_and, and_true, wipeE, D.bl.injEq, D.int.injEq, D.str.injEq, D.tup.injEq, D.lst.injEq, Bool.not_true, decide_eq_true_eq, if_true, if_false, reduceIte, Bool.false_eq_true, Option.isNone_none, Option.isNone_some, Bool.not_false, List.length_nil, List.length_cons, List.nil_append, List.cons_append, D.ref.injEq, SO.lst.injEq, pCall, exists_const, and_self, Nat.zero_add, Nat.zero_le, Nat.reduceLeDiff, Nat.reduceAdd, eq_self, o_add, o_sub, o_mul, o_div, o_mod, o_cmp, o_int, o_lenl, o_lent, o_lens, o_tupl, o_tupt, o_min, o_max, q_int, ixk_tup, ixk_lst, ixk_scr, at0, at1, at2, at3, at4, at5, List.length_map]
  refine lenS hl ?_
  simp only [pForD, pInsL, pExtA, pSeq, pAsg, pVar, pC, pOp, pNil, pCons, pTup, pLst, pLstM, pNot, pAndV, pOrV, pIf, pB, pAnd, pOr, pNotT, pNoPart, pPart, pCB, pUnN, pSl, pNext, pBreak, pCont, pRet, pRetN, pDrop, pIfS, pgName, pgNil, pgCons, pgTup_t, pAug, pApp, pYes, isk_non, nsk_non, isN_non, isN_bl, isN_int, isN_str, isN_tup, isN_lst, isN_ref, isN_obj, pTru, pFld, pStar, pMake, pSetF, pIt, pRng1, pRng2, forG, List.map_cons, List.map_nil, List.getElem?_cons_zero, List.getElem?_cons_succ, List.set_cons_zero, List.set_cons_succ, Option.some.injEq, exists_eq_left, exists_eq_left', true_and, and_true, wipeE, D.bl.injEq, D.int.injEq, D.str.injEq, D.tup.injEq, D.lst.injEq, Bool.not_true, decide_eq_true_eq, if_true, if_false, reduceIte, Bool.false_eq_true, Option.isNone_none, Option.isNone_some, Bool.not_false, List.length_nil, List.length_cons, List.nil_append, List.cons_append, D.ref.injEq, SO.lst.injEq, pCall, exists_const, and_self, Nat.zero_add, Nat.zero_le, Nat.reduceLeDiff, Nat.reduceAdd, eq_self, o_add, o_sub, o_mul, o_div, o_mod, o_cmp, o_int, o_lenl, o_lent, o_lens, o_tupl, o_tupt, o_min, o_max, q_int, ixk_tup, ixk_lst, ixk_scr, at0, at1, at2, at3, at4, at5, List.length_map]
  by_cases c : j < l.length
  · rw [if_pos (by omega)]
    refine ixS (List.getElem?_eq_getElem c) hl ?_
    have hdrop : l.drop j = l[j] :: l.drop (j + 1) := List.drop_eq_getElem_cons c
    generalize l[j] = a at hdrop ⊢
    simp only [pForD, pInsL, pExtA, pSeq, pAsg, pVar, pC, pOp, pNil, pCons, pTup, pLst, pLstM, pNot, pAndV, pOrV, pIf, pB, pAnd, pOr, pNotT, pNoPart, pPart, pCB, pUnN, pSl, pNext, pBreak, pCont, pRet, pRetN, pDrop, pIfS, pgName, pgNil, pgCons, pgTup_t, pAug, pApp, pYes, isk_non, nsk_non, isN_non, isN_bl, isN_int, isN_str, isN_tup, isN_lst, isN_ref, isN_obj, pTru, pFld, pStar, pMake, pSetF, pIt, pRng1, pRng2, forG, List.map_cons, List.map_nil, List.getElem?_cons_zero, List.getElem?_cons_succ, List.set_cons_zero, List.set_cons_succ, Option.some.injEq, exists_eq_left, exists_eq_left', true_and, and_true, wipeE, D.bl.injEq, D.int.injEq, D.str.injEq, D.tup.injEq, D.lst.injEq, Bool.not_true, decide_eq_true_eq, if_true, if_false, reduceIte, Bool.false_eq_true, Option.isNone_none, Option.isNone_some, Bool.not_false, List.length_nil, List.length_cons, List.nil_append, List.cons_append, D.ref.injEq, SO.lst.injEq, pCall, exists_const, and_self, Nat.zero_add, Nat.zero_le, Nat.reduceLeDiff, Nat.reduceAdd, eq_self, o_add, o_sub, o_mul, o_div, o_mod, o_cmp, o_int, o_lenl, o_lent, o_lens, o_tupl, o_tupt, o_min, o_max, q_int, ixk_tup, ixk_lst, ixk_scr, at0, at1, at2, at3, at4, at5, List.length_map, n_word, e_q, S_inj]
    by_cases c2 : a = 34
    · subst c2
      refine Eq.mpr (if_neg (by decide)) ?_
      have h := stop (.inr ⟨hdrop, c⟩)
      simp only [pForD, pInsL, pExtA, pSeq, pAsg, pVar, pC, pOp, pNil, pCons, pTup, pLst, pLstM, pNot, pAndV, pOrV, pIf, pB, pAnd, pOr, pNotT, pNoPart, pPart, pCB, pUnN, pSl, pNext, pBreak, pCont, pRet, pRetN, pDrop, pIfS, pgName, pgNil, pgCons, pgTup_t, pAug, pApp, pYes, isk_non, nsk_non, isN_non, isN_bl, isN_int, isN_str, isN_tup, isN_lst, isN_ref, isN_obj, pTru, pFld, pStar, pMake, pSetF, pIt, pRng1, pRng2, forG, List.map_cons, List.map_nil, List.getElem?_cons_zero, List.getElem?_cons_succ, List.set_cons_zero, List.set_cons_succ, Option.some.injEq, exists_eq_left, exists_eq_left', true_and, and_true, wipeE, D.bl.injEq, D.int.injEq, D.str.injEq, D.tup.injEq, D.lst.injEq, Bool.not_true, decide_eq_true_eq, if_true, if_false, reduceIte, Bool.false_eq_true, Option.isNone_none, Option.isNone_some, Bool.not_false, List.length_nil, List.length_cons, List.nil_append, List.cons_append, D.ref.injEq, SO.lst.injEq, pCall, exists_const, and_self, Nat.zero_add, Nat.zero_le, Nat.reduceLeDiff, Nat.reduceAdd, eq_self, o_add, o_sub, o_mul, o_div, o_mod, o_cmp, o_int, o_lenl, o_lent, o_lens, o_tupl, o_tupt, o_min, o_max, q_int, ixk_tup, ixk_lst, ixk_scr, at0, at1, at2, at3, at4, at5, List.length_map] at h
      exact h
    · rw [decide_eq_false (by simpa using c2)]
      refine Eq.mpr (if_pos rfl) ?_
      refine ⟨fun env S => ∃ (j' : Nat) (acc' : List Nat) (x3 : Option D), env = [some (.str (SX.S l)), some (.int (j' : Int)), some (.ref 0), x3] ∧ S = [.lst (acc'.map fun c => D.str (SX.S [c]))] ∧ j' ≤ l.length ∧ j < j' ∧ acc'.length ≤ j' ∧ quotL (l.drop (i + 1)) = (quotL (l.drop j')).map fun p => (acc' ++ p.1, p.2), fun env S ⟨j', acc', x3, h1, h2, h3, h4, h5, h6⟩ => ⟨l.length - j', by omega, j', acc', x3, h1, h2, h3, rfl, h5, h6⟩, ?_⟩
      have hget : l[j]? = some a := by
        have := congrArg (·[0]?) hdrop
        simpa using this
      have next : ∀ (bk ct : Pw.Env → Sto → Prop) (j1 x : Nat), j ≤ j1 → j1 < l.length → quotL (l.drop j) = (quotL (l.drop (j1 + 1))).map (fun p => (x :: p.1, p.2)) → pr_quoted_at_1 { nx := fun env S => ∃ (j' : Nat) (acc' : List Nat) (x3 : Option D), env = [some (.str (SX.S l)), some (.int (j' : Int)), some (.ref 0), x3] ∧ S = [.lst (acc'.map fun c => D.str (SX.S [c]))] ∧ j' ≤ l.length ∧ j < j' ∧ acc'.length ≤ j' ∧ quotL (l.drop (i + 1)) = (quotL (l.drop j')).map fun p => (acc' ++ p.1, p.2), rt := fun d S => (D.frz S d).noRef = true ∧ k (D.frz S d), bk := bk, ct := ct } [some (.str (SX.S l)), some (.int (j1 : Int)), some (.ref 0), some (.str (SX.S [x]))] [.lst (acc.map fun c => D.str (SX.S [c]))] := fun bk ct j1 x h1 h2 h3 => by
        unfold pr_quoted_at_1
        simp only [pForD, pInsL, pExtA, pSeq, pAsg, pVar, pC, pOp, pNil, pCons, pTup, pLst, pLstM, pNot, pAndV, pOrV, pIf, pB, pAnd, pOr, pNotT, pNoPart, pPart, pCB, pUnN, pSl, pNext, pBreak, pCont, pRet, pRetN, pDrop, pIfS, pgName, pgNil, pgCons, pgTup_t, pAug, pApp, pYes, isk_non, nsk_non, isN_non, isN_bl, isN_int, isN_str, isN_tup, isN_lst, isN_ref, isN_obj, pTru, pFld, pStar, pMake, pSetF, pIt, pRng1, pRng2, forG, List.map_cons, List.map_nil, List.getElem?_cons_zero, List.getElem?_cons_succ, List.set_cons_zero, List.set_cons_succ, Option.some.injEq, exists_eq_left, exists_eq_left', true_and, and_true, wipeE, D.bl.injEq, D.int.injEq, D.str.injEq, D.tup.injEq, D.lst.injEq, Bool.not_true, decide_eq_true_eq, if_true, if_false, reduceIte, Bool.false_eq_true, Option.isNone_none, Option.isNone_some, Bool.not_false, List.length_nil, List.length_cons, List.nil_append, List.cons_append, D.ref.injEq, SO.lst.injEq, pCall, exists_const, and_self, Nat.zero_add, Nat.zero_le, Nat.reduceLeDiff, Nat.reduceAdd, eq_self, o_add, o_sub, o_mul, o_div, o_mod, o_cmp, o_int, o_lenl, o_lent, o_lens, o_tupl, o_tupt, o_min, o_max, q_int, ixk_tup, ixk_lst, ixk_scr, at0, at1, at2, at3, at4, at5, List.length_map]
        refine ⟨by omega, j1 + 1, acc ++ [x], _, rfl, by rw [List.map_append]; rfl, by omega, by omega, by rw [List.length_append, List.length_singleton]; omega, ?_⟩
        rw [hq, h3, Option.map_map]
        cases quotL (l.drop (j1 + 1)) with
        | none => rfl
        | some p =>
          show some (acc ++ x :: p.1, p.2) = some (acc ++ [x] ++ p.1, p.2)
          rw [List.append_assoc]
          rfl
      have fail : ∀ (P : PEnds) (j1 : Nat), P.rt .non [.lst (acc.map fun c => D.str (SX.S [c]))] → pr_quoted_at_1 P [some (.str (SX.S l)), some (.int (j1 : Int)), some (.ref 0), some .non] [.lst (acc.map fun c => D.str (SX.S [c]))] := fun P j1 h => by
        unfold pr_quoted_at_1
        simp only [pForD, pInsL, pExtA, pSeq, pAsg, pVar, pC, pOp, pNil, pCons, pTup, pLst, pLstM, pNot, pAndV, pOrV, pIf, pB, pAnd, pOr, pNotT, pNoPart, pPart, pCB, pUnN, pSl, pNext, pBreak, pCont, pRet, pRetN, pDrop, pIfS, pgName, pgNil, pgCons, pgTup_t, pAug, pApp, pYes, isk_non, nsk_non, isN_non, isN_bl, isN_int, isN_str, isN_tup, isN_lst, isN_ref, isN_obj, pTru, pFld, pStar, pMake, pSetF, pIt, pRng1, pRng2, forG, List.map_cons, List.map_nil, List.getElem?_cons_zero, List.getElem?_cons_succ, List.set_cons_zero, List.set_cons_succ, Option.some.injEq, exists_eq_left, exists_eq_left', true_and, and_true, wipeE, D.bl.injEq, D.int.injEq, D.str.injEq, D.tup.injEq, D.lst.injEq, Bool.not_true, decide_eq_true_eq, if_true, if_false, reduceIte, Bool.false_eq_true, Option.isNone_none, Option.isNone_some, Bool.not_false, List.length_nil, List.length_cons, List.nil_append, List.cons_append, D.ref.injEq, SO.lst.injEq, pCall, exists_const, and_self, Nat.zero_add, Nat.zero_le, Nat.reduceLeDiff, Nat.reduceAdd, eq_self, o_add, o_sub, o_mul, o_div, o_mod, o_cmp, o_int, o_lenl, o_lent, o_lens, o_tupl, o_tupt, o_min, o_max, q_int, ixk_tup, ixk_lst, ixk_scr, at0, at1, at2, at3, at4, at5, List.length_map]
        exact h
      simp only [pForD, pInsL, pExtA, pSeq, pAsg, pVar, pC, pOp, pNil, pCons, pTup, pLst, pLstM, pNot, pAndV, pOrV, pIf, pB, pAnd, pOr, pNotT, pNoPart, pPart, pCB, pUnN, pSl, pNext, pBreak, pCont, pRet, pRetN, pDrop, pIfS, pgName, pgNil, pgCons, pgTup_t, pAug, pApp, pYes, isk_non, nsk_non, isN_non, isN_bl, isN_int, isN_str, isN_tup, isN_lst, isN_ref, isN_obj, pTru, pFld, pStar, pMake, pSetF, pIt, pRng1, pRng2, forG, List.map_cons, List.map_nil, List.getElem?_cons_zero, List.getElem?_cons_succ, List.set_cons_zero, List.set_cons_succ, Option.some.injEq, exists_eq_left, exists_eq_left', true_and, and_true, wipeE, D.bl.injEq, D.int.injEq, D.str.injEq, D.tup.injEq, D.lst.injEq, Bool.not_true, decide_eq_true_eq, if_true, if_false, reduceIte, Bool.false_eq_true, Option.isNone_none, Option.isNone_some, Bool.not_false, List.length_nil, List.length_cons, List.nil_append, List.cons_append, D.ref.injEq, SO.lst.injEq, pCall, exists_const, and_self, Nat.zero_add, Nat.zero_le, Nat.reduceLeDiff, Nat.reduceAdd, eq_self, o_add, o_sub, o_mul, o_div, o_mod, o_cmp, o_int, o_lenl, o_lent, o_lens, o_tupl, o_tupt, o_min, o_max, q_int, ixk_tup, ixk_lst, ixk_scr, at0, at1, at2, at3, at4, at5, List.length_map, pl_quoted_at_1_d]
      refine ixS hget hl ?_
      simp only [pForD, pInsL, pExtA, pSeq, pAsg, pVar, pC, pOp, pNil, pCons, pTup, pLst, pLstM, pNot, pAndV, pOrV, pIf, pB, pAnd, pOr, pNotT, pNoPart, pPart, pCB, pUnN, pSl, pNext, pBreak, pCont, pRet, pRetN, pDrop, pIfS, pgName, pgNil, pgCons, pgTup_t, pAug, pApp, pYes, isk_non, nsk_non, isN_non, isN_bl, isN_int, isN_str, isN_tup, isN_lst, isN_ref, isN_obj, pTru, pFld, pStar, pMake, pSetF, pIt, pRng1, pRng2, forG, List.map_cons, List.map_nil, List.getElem?_cons_zero, List.getElem?_cons_succ, List.set_cons_zero, List.set_cons_succ, Option.some.injEq, exists_eq_left, exists_eq_left', true_and, and_true, wipeE, D.bl.injEq, D.int.injEq, D.str.injEq, D.tup.injEq, D.lst.injEq, Bool.not_true, decide_eq_true_eq, if_true, if_false, reduceIte, Bool.false_eq_true, Option.isNone_none, Option.isNone_some, Bool.not_false, List.length_nil, List.length_cons, List.nil_append, List.cons_append, D.ref.injEq, SO.lst.injEq, pCall, exists_const, and_self, Nat.zero_add, Nat.zero_le, Nat.reduceLeDiff, Nat.reduceAdd, eq_self, o_add, o_sub, o_mul, o_div, o_mod, o_cmp, o_int, o_lenl, o_lent, o_lens, o_tupl, o_tupt, o_min, o_max, q_int, ixk_tup, ixk_lst, ixk_scr, at0, at1, at2, at3, at4, at5, List.length_map, q_word, e_b, e_nl, S_inj]
      by_cases c3 : a = 92
      · subst c3
        refine Eq.mpr (if_pos rfl) ?_
        simp only [pForD, pInsL, pExtA, pSeq, pAsg, pVar, pC, pOp, pNil, pCons, pTup, pLst, pLstM, pNot, pAndV, pOrV, pIf, pB, pAnd, pOr, pNotT, pNoPart, pPart, pCB, pUnN, pSl, pNext, pBreak, pCont, pRet, pRetN, pDrop, pIfS, pgName, pgNil, pgCons, pgTup_t, pAug, pApp, pYes, isk_non, nsk_non, isN_non, isN_bl, isN_int, isN_str, isN_tup, isN_lst, isN_ref, isN_obj, pTru, pFld, pStar, pMake, pSetF, pIt, pRng1, pRng2, forG, List.map_cons, List.map_nil, List.getElem?_cons_zero, List.getElem?_cons_succ, List.set_cons_zero, List.set_cons_succ, Option.some.injEq, exists_eq_left, exists_eq_left', true_and, and_true, wipeE, D.bl.injEq, D.int.injEq, D.str.injEq, D.tup.injEq, D.lst.injEq, Bool.not_true, decide_eq_true_eq, if_true, if_false, reduceIte, Bool.false_eq_true, Option.isNone_none, Option.isNone_some, Bool.not_false, List.length_nil, List.length_cons, List.nil_append, List.cons_append, D.ref.injEq, SO.lst.injEq, pCall, exists_const, and_self, Nat.zero_add, Nat.zero_le, Nat.reduceLeDiff, Nat.reduceAdd, eq_self, o_add, o_sub, o_mul, o_div, o_mod, o_cmp, o_int, o_lenl, o_lent, o_lens, o_tupl, o_tupt, o_min, o_max, q_int, ixk_tup, ixk_lst, ixk_scr, at0, at1, at2, at3, at4, at5, List.length_map, pKget]
        show slk _ _ (some ((j + 1 : Nat) : Int)) (some ((j + 2 : Nat) : Int)) _
        refine midS hl (by omega) ?_
        rw [show j + 2 - (j + 1) = 1 by omega]
        cases hd : l.drop (j + 1) with
        | nil =>
          rw [hd] at hdrop
          rw [hq, hdrop] at hk
          show pr_quoted_at_1 _ [_, _, _, some ((tabAt tab_ESCAPES (SX.S [])).getD .non)] _
          rw [esc_tab0]
          exact fail _ (j + 1) (rt_pure rfl hk)
        | cons d r2 =>
          rw [hd] at hdrop
          have h2 : l.drop (j + 2) = r2 := by
            have := congrArg (List.drop 1) hd
            rw [List.drop_drop] at this
            exact this
          have hlt : j + 1 < l.length := by
            have := congrArg List.length hd
            rw [List.length_drop, List.length_cons] at this
            omega
          show pr_quoted_at_1 _ [_, _, _, some ((tabAt tab_ESCAPES (SX.S [d])).getD .non)] _
          rw [esc_tab]
          cases he : esc d with
          | none =>
            rw [hq, hdrop, q_bs, he] at hk
            exact fail _ (j + 1) (rt_pure rfl hk)
          | some x =>
            refine next _ _ (j + 1) x (by omega) hlt ?_
            rw [hdrop, q_bs, he, ← h2]
      · rw [if_neg (by simpa using c3)]
        by_cases c4 : a = 10
        · subst c4
          refine Eq.mpr (if_pos rfl) ?_
          have hn : quotL (l.drop j) = none := by
            rw [hdrop, quotL.eq_def]
            rfl
          rw [hq, hn] at hk
          exact rt_pure rfl hk
        · rw [if_neg (by simpa using c4)]
          refine next _ _ j a (Nat.le_refl _) c ?_
          rw [hdrop, q_ch c2 c3 c4]
  · rw [if_neg (by omega)]
    have h := stop (.inl (by omega))
    simp only [pForD, pInsL, pExtA, pSeq, pAsg, pVar, pC, pOp, pNil, pCons, pTup, pLst, pLstM, pNot, pAndV, pOrV, pIf, pB, pAnd, pOr, pNotT, pNoPart, pPart, pCB, pUnN, pSl, pNext, pBreak, pCont, pRet, pRetN, pDrop, pIfS, pgName, pgNil, pgCons, pgTup_t, pAug, pApp, pYes, isk_non, nsk_non, isN_non, isN_bl, isN_int, isN_str, isN_tup, isN_lst, isN_ref, isN_obj, pTru, pFld, pStar, pMake, pSetF, pIt, pRng1, pRng2, forG, List.map_cons, List.map_nil, List.getElem?_cons_zero, List.getElem?_cons_succ, List.set_cons_zero, List.set_cons_succ, Option.some.injEq, exists_eq_left, exists_eq_left', true_and, and_true, wipeE, D.bl.injEq, D.int.injEq, D.str.injEq, D.tup.injEq, D.lst.injEq, Bool.not_true, decide_eq_true_eq, if_true, if_false, reduceIte, Bool.false_eq_true, Option.isNone_none, Option.isNone_some, Bool.not_false, List.length_nil, List.length_cons, List.nil_append, List.cons_append, D.ref.injEq, SO.lst.injEq, pCall, exists_const, and_self, Nat.zero_add, Nat.zero_le, Nat.reduceLeDiff, Nat.reduceAdd, eq_self, o_add, o_sub, o_mul, o_div, o_mod, o_cmp, o_int, o_lenl, o_lent, o_lens, o_tupl, o_tupt, o_min, o_max, q_int, ixk_tup, ixk_lst, ixk_scr, at0, at1, at2, at3, at4, at5, List.length_map] at h
    exact h
theorem ok_quoted_at {P : Program} {w : World} {K : PySem.W.Frag} {cl : Cl} {mg : Str → Option Value} {base : Heap} (D : Df K mg "quoted_at" s_quoted_at ["line", "at"]) (T : Txt K cl mg) (hw : cl.w = w)  : C8.Cal P w K mg base 1 "quoted_at" (spP K cl F_quoted_at) [] := by
  subst hw
  refine D.cal sc_quoted_at (spP_len (n := 2) len_quoted_at) (fun f cdv  A outer s H vs Q E hr h => ?_)
  refine ⟨_,
    (pss_cons (ps_set (i := 2) sc_quoted_at.nd rfl (.inl rfl) (pe_lst pa_nil))
    (pss_cons (ps_aug (i := 1) sc_quoted_at.nd rfl (.inl rfl) pe_int ip_add)
    (pss_cons (ps_while PassesOwn.never (PW.pt (pw_and (pt_cmpR op_lt (pv 1) (pe_callB (show CallR _ (.builtin "len") (uLen K) from ucall_len) (by rfl) T.n_len PySem.boot_len (pa_cons (pv 0) pa_nil)) (nomark _)) (pw_and1 (pt_cmpR (show OpR _ _ (rNeP K) from op_neP hr.units) (pe_ix (show IxR _ (uIx K) from uix) (pv 0) (pv 1) (fun _ _ => rfl)) pe_str (nomark _)))))
      (pss_cons (ps_set (i := 3) sc_quoted_at.nd rfl (.inl rfl) (pe_ix (show IxR _ (uIx K) from uix) (pv 0) (pv 1) (fun _ _ => rfl)))
      (pss_cons (ps_if (pt_cmpR (show OpR _ _ (rEqP K) from op_eqP hr.units) (pv 3) pe_str (nomark _))
        (pss_cons (ps_aug (i := 1) sc_quoted_at.nd rfl (.inl rfl) pe_int ip_add)
        (pss_one (ps_set (i := 3) sc_quoted_at.nd rfl (.inl rfl) (pe_kget hr.units (by rfl) T.tb_ESCAPES (pe_slice (show SlR _ (uSl K) from usl) (pv 0) (po_some (pv 1)) (po_some (pe_op (show OpR _ _ (uAdd K) from uop_add) (pv 1) pe_int))) ⟨rfl, rfl, rfl, rfl⟩))))
        (pss_one (ps_if (pt_cmpR (show OpR _ _ (rEqP K) from op_eqP hr.units) (pv 3) pe_str (nomark _))
          (pss_one (ps_ret pe_non))
          pss_nil)))
      (pss_cons (ps_if (pt_cmpR op_isN (pv 3) pe_non (nomark _))
        (pss_one (ps_ret pe_non))
        pss_nil)
      (pss_cons (ps_expr (pe_bm PySem.F.plainAttrs_list PySem.F.slot_list_append PySem.F.type_list_append mt_append (pv 2) (pa_cons (pv 3) pa_nil)))
      (pss_one (ps_aug (i := 1) sc_quoted_at.nd rfl (.inl rfl) pe_int ip_add)))))))
    (pss_cons (ps_if (pt_cmpR op_ge (pv 1) (pe_callB (show CallR _ (.builtin "len") (uLen K) from ucall_len) (by rfl) T.n_len PySem.boot_len (pa_cons (pv 0) pa_nil)) (nomark _))
      (pss_one (ps_ret pe_non))
      pss_nil)
    (pss_one (ps_ret (pe_tup (pa_cons (pe_tup (pa_cons pe_str (pa_cons (pe_join pe_str (pv 2)) pa_nil))) (pa_cons (pe_op (show OpR _ _ (uAdd K) from uop_add) (pv 1) pe_int) pa_nil))))))))), ?_⟩
  exact fn_ok (N := ["line", "at", "signs", "sign"]) (show SmS K cl _ ps_quoted_at from
    (sm_seq (sm_asg (sm_lstM sm_nil) sm_gname)
    (sm_seq (sm_aug sm_int)
    (sm_seq (sm_while (sm_and (sm_test (sm_op smr_cmp sm_var (sm_cb smc_len (sm_cons sm_var sm_nil)))) (sm_test (sm_op smr_ne (sm_op smr_ix sm_var sm_var) sm_str)))
      (sm_seq (sm_asg (sm_op smr_ix sm_var sm_var) sm_gname)
      (sm_seq (sm_ifS (sm_test (sm_op smr_eq sm_var sm_str))
        (sm_seq (sm_aug sm_int)
        ((sm_asg (sm_kget (sm_sl sm_var (sm_part sm_var) (sm_part (sm_op smr_add sm_var sm_int)))) sm_gname)))
        ((sm_ifS (sm_test (sm_op smr_eq sm_var sm_str))
          ((sm_ret sm_non))
          sm_next)))
      (sm_seq (sm_ifS (sm_test (sm_op smr_is sm_var sm_non))
        ((sm_ret sm_non))
        sm_next)
      (sm_seq (sm_app sm_var sm_var)
      ((sm_aug sm_int)))))))
    (sm_seq (sm_ifS (sm_test (sm_op smr_cmp sm_var (sm_cb smc_len (sm_cons sm_var sm_nil))))
      ((sm_ret sm_non))
      sm_next)
    ((sm_ret (sm_tup (sm_cons (sm_tup (sm_cons sm_str (sm_cons (sm_tjoin sm_str sm_var) sm_nil))) (sm_cons (sm_op smr_add sm_var sm_int) sm_nil)))))))))) body_quoted_at h
def pr_part_at_1 : PSx :=
    (pSeq (pAsg (pSl (pVar 0) (pPart (pVar 1)) (pPart (pVar 2))) (pgName 3))
    (pSeq (pIfS (pB (pOp eqk (pVar 3) (pC (.str (Str.ofString "")))))
      ((pRet (pC .non)))
      pNext)
    (pSeq (pIfS (pB (pOp nik (pOp ixk (pVar 3) (pC (.int 0))) (pC (.str (Str.ofString "0123456789")))))
      ((pRet (pTup (pCons (pTup (pCons (pC (.str (Str.ofString "word"))) (pCons (pVar 3) pNil))) (pCons (pVar 2) pNil)))))
      pNext)
    (pSeq (pAsg (pCall F_number_of (pCons (pVar 3) pNil)) (pgName 4))
    (pSeq (pIfS (pB (pOp isk (pVar 4) (pC .non)))
      ((pRet (pC .non)))
      pNext)
    ((pRet (pTup (pCons (pTup (pCons (pC (.str (Str.ofString "number"))) (pCons (pVar 4) pNil))) (pCons (pVar 2) pNil))))))))))
def ps_part_at : PSx :=
    (pSeq (pIfS (pB (pOp eqk (pSl (pVar 0) (pPart (pVar 1)) (pPart (pOp addk (pVar 1) (pC (.int 1))))) (pC (.str (Str.ofString "\"")))))
      ((pRet (pCall F_quoted_at (pCons (pVar 0) (pCons (pVar 1) pNil)))))
      pNext)
    (pSeq (pAsg (pFind3 (pVar 0) (pC (.str (Str.ofString " "))) (pVar 1)) (pgName 2))
    (pSeq (pIfS (pB (pOp (cmpk fun i j => decide (i < j)) (pVar 2) (pC (.int 0))))
      ((pAsg (pCB lenk (pCons (pVar 0) pNil)) (pgName 2)))
      pNext)
    pr_part_at_1)))
theorem start_part_at : ∀ a0 a1 : D, startE 5 [a0, a1] = [some a0, some a1, none, none, none] := fun _ _ => rfl
def F_part_at : PFn := fun ds k => ∃ (l : List Nat) (i : Nat), ds = [.str (SX.S l), .int (i : Int)] ∧ l.length ≤ 1000 ∧ i ≤ l.length ∧ k (found l.length (partL (l.drop i)))
theorem len_part_at : ∀ ds k, F_part_at ds k → ds.length = 2 := by
  rintro _ _ ⟨_, _, rfl, _⟩
  rfl
theorem body_part_at : ∀ ds k, F_part_at ds k → ps_part_at { nx := fun _ _ => k .non, rt := fun d S => (d.frz S).noRef = true ∧ k (d.frz S) } (startE 5 ds) [] := by
  rintro _ k ⟨l, i, rfl, hl, hi, hk⟩
  rw [start_part_at]
  unfold ps_part_at
  have hd0 : (l.drop i).take 1 = [34] ↔ (l.drop i).head? = some 34 := by
    cases l.drop i with
    | nil => exact ⟨nofun, nofun⟩
    | cons a r => exact ⟨fun h => by cases h; rfl, fun h => by cases h; rfl⟩
  simp only [pForD, pInsL, pExtA, pSeq, pAsg, pVar, pC, pOp, pNil, pCons, pTup, pLst, pLstM, pNot, pAndV, pOrV, pIf, pB, pAnd, pOr, pNotT, pNoPart, pPart, pCB, pUnN, pSl, pNext, pBreak, pCont, pRet, pRetN, pDrop, pIfS, pgName, pgNil, pgCons, pgTup_t, pAug, pApp, pYes, isk_non, nsk_non, isN_non, isN_bl, isN_int, isN_str, isN_tup, isN_lst, isN_ref, isN_obj, pTru, pFld, pStar, pMake, pSetF, pIt, pRng1, pRng2, forG, List.map_cons, List.map_nil, List.getElem?_cons_zero, List.getElem?_cons_succ, List.set_cons_zero, List.set_cons_succ, Option.some.injEq, exists_eq_left, exists_eq_left', true_and, and_true, wipeE, D.bl.injEq, D.int.injEq, D.str.injEq, D.tup.injEq, D.lst.injEq, Bool.not_true, decide_eq_true_eq, if_true, if_false, reduceIte, Bool.false_eq_true, Option.isNone_none, Option.isNone_some, Bool.not_false, List.length_nil, List.length_cons, List.nil_append, List.cons_append, D.ref.injEq, SO.lst.injEq, pCall, exists_const, and_self, Nat.zero_add, Nat.zero_le, Nat.reduceLeDiff, Nat.reduceAdd, eq_self, o_add, o_sub, o_mul, o_div, o_mod, o_cmp, o_int, o_lenl, o_lent, o_lens, o_tupl, o_tupt, o_min, o_max, q_int, ixk_tup, ixk_lst, ixk_scr, at0, at1, at2, at3, at4, at5, List.length_map, q_word, e_q, S_inj]
  show slk _ _ (some (i : Int)) (some ((i + 1 : Nat) : Int)) _
  refine midS hl (by omega) ?_
  rw [show i + 1 - i = 1 by omega]
  simp only [pForD, pInsL, pExtA, pSeq, pAsg, pVar, pC, pOp, pNil, pCons, pTup, pLst, pLstM, pNot, pAndV, pOrV, pIf, pB, pAnd, pOr, pNotT, pNoPart, pPart, pCB, pUnN, pSl, pNext, pBreak, pCont, pRet, pRetN, pDrop, pIfS, pgName, pgNil, pgCons, pgTup_t, pAug, pApp, pYes, isk_non, nsk_non, isN_non, isN_bl, isN_int, isN_str, isN_tup, isN_lst, isN_ref, isN_obj, pTru, pFld, pStar, pMake, pSetF, pIt, pRng1, pRng2, forG, List.map_cons, List.map_nil, List.getElem?_cons_zero, List.getElem?_cons_succ, List.set_cons_zero, List.set_cons_succ, Option.some.injEq, exists_eq_left, exists_eq_left', true_and, and_true, wipeE, D.bl.injEq, D.int.injEq, D.str.injEq, D.tup.injEq, D.lst.injEq, Bool.not_true, decide_eq_true_eq, if_true, if_false, reduceIte, Bool.false_eq_true, Option.isNone_none, Option.isNone_some, Bool.not_false, List.length_nil, List.length_cons, List.nil_append, List.cons_append, D.ref.injEq, SO.lst.injEq, pCall, exists_const, and_self, Nat.zero_add, Nat.zero_le, Nat.reduceLeDiff, Nat.reduceAdd, eq_self, o_add, o_sub, o_mul, o_div, o_mod, o_cmp, o_int, o_lenl, o_lent, o_lens, o_tupl, o_tupt, o_min, o_max, q_int, ixk_tup, ixk_lst, ixk_scr, at0, at1, at2, at3, at4, at5, List.length_map, q_word, e_q, S_inj]
  by_cases c : (l.drop i).head? = some 34
  · rw [if_pos (by simpa using hd0.mpr c)]
    have hlt : i < l.length := by
      by_cases q : i < l.length
      · exact q
      · rw [List.drop_eq_nil_of_le (by omega)] at c
        cases c
    refine call_of rfl ⟨l, i, rfl, hl, hlt, ?_⟩
    have e : partL (l.drop i) = (quotL (l.drop (i + 1))).map fun p => (.qt p.1, p.2) := by
      unfold partL
      rw [if_pos c, List.tail_drop]
    rw [e] at hk
    exact rt_pure (pu_found _ _) hk
  · rw [if_neg (by simpa using fun z => c (hd0.mp z))]
    have hp : partL (l.drop i) = wordL ((l.drop i).takeWhile notSp) ((l.drop i).dropWhile notSp) := by
      unfold partL
      rw [if_neg c]
    rw [hp] at hk
    have hsplit := List.takeWhile_append_dropWhile (p := notSp) (l := l.drop i)
    have htk : ∀ w r : List Nat, w ++ r = l.drop i → (l.drop i).take (i + w.length - i) = w := fun w r h => by
      rw [← h, Nat.add_sub_cancel_left, List.take_left]
    have hlen : ∀ w r : List Nat, w ++ r = l.drop i → l.length - r.length = i + w.length ∧ w.length ≤ l.length := fun w r h => by
      have := congrArg List.length h
      rw [List.length_append, List.length_drop] at this
      omega
    have rest : ∀ (w r : List Nat), w ++ r = l.drop i → k (found l.length (wordL w r)) → pr_part_at_1 { nx := fun _ _ => k .non, rt := fun d S => (d.frz S).noRef = true ∧ k (d.frz S) } [some (.str (SX.S l)), some (.int (i : Int)), some (.int ((i + w.length : Nat) : Int)), none, none] [] := fun w r h hk => by
      obtain ⟨h2, h3⟩ := hlen w r h
      unfold pr_part_at_1
      simp only [pForD, pInsL, pExtA, pSeq, pAsg, pVar, pC, pOp, pNil, pCons, pTup, pLst, pLstM, pNot, pAndV, pOrV, pIf, pB, pAnd, pOr, pNotT, pNoPart, pPart, pCB, pUnN, pSl, pNext, pBreak, pCont, pRet, pRetN, pDrop, pIfS, pgName, pgNil, pgCons, pgTup_t, pAug, pApp, pYes, isk_non, nsk_non, isN_non, isN_bl, isN_int, isN_str, isN_tup, isN_lst, isN_ref, isN_obj, pTru, pFld, pStar, pMake, pSetF, pIt, pRng1, pRng2, forG, List.map_cons, List.map_nil, List.getElem?_cons_zero, List.getElem?_cons_succ, List.set_cons_zero, List.set_cons_succ, Option.some.injEq, exists_eq_left, exists_eq_left', true_and, and_true, wipeE, D.bl.injEq, D.int.injEq, D.str.injEq, D.tup.injEq, D.lst.injEq, Bool.not_true, decide_eq_true_eq, if_true, if_false, reduceIte, Bool.false_eq_true, Option.isNone_none, Option.isNone_some, Bool.not_false, List.length_nil, List.length_cons, List.nil_append, List.cons_append, D.ref.injEq, SO.lst.injEq, pCall, exists_const, and_self, Nat.zero_add, Nat.zero_le, Nat.reduceLeDiff, Nat.reduceAdd, eq_self, o_add, o_sub, o_mul, o_div, o_mod, o_cmp, o_int, o_lenl, o_lent, o_lens, o_tupl, o_tupt, o_min, o_max, q_int, ixk_tup, ixk_lst, ixk_scr, at0, at1, at2, at3, at4, at5, List.length_map]
      refine midS hl (by omega) ?_
      rw [htk w r h]
      simp only [pForD, pInsL, pExtA, pSeq, pAsg, pVar, pC, pOp, pNil, pCons, pTup, pLst, pLstM, pNot, pAndV, pOrV, pIf, pB, pAnd, pOr, pNotT, pNoPart, pPart, pCB, pUnN, pSl, pNext, pBreak, pCont, pRet, pRetN, pDrop, pIfS, pgName, pgNil, pgCons, pgTup_t, pAug, pApp, pYes, isk_non, nsk_non, isN_non, isN_bl, isN_int, isN_str, isN_tup, isN_lst, isN_ref, isN_obj, pTru, pFld, pStar, pMake, pSetF, pIt, pRng1, pRng2, forG, List.map_cons, List.map_nil, List.getElem?_cons_zero, List.getElem?_cons_succ, List.set_cons_zero, List.set_cons_succ, Option.some.injEq, exists_eq_left, exists_eq_left', true_and, and_true, wipeE, D.bl.injEq, D.int.injEq, D.str.injEq, D.tup.injEq, D.lst.injEq, Bool.not_true, decide_eq_true_eq, if_true, if_false, reduceIte, Bool.false_eq_true, Option.isNone_none, Option.isNone_some, Bool.not_false, List.length_nil, List.length_cons, List.nil_append, List.cons_append, D.ref.injEq, SO.lst.injEq, pCall, exists_const, and_self, Nat.zero_add, Nat.zero_le, Nat.reduceLeDiff, Nat.reduceAdd, eq_self, o_add, o_sub, o_mul, o_div, o_mod, o_cmp, o_int, o_lenl, o_lent, o_lens, o_tupl, o_tupt, o_min, o_max, q_int, ixk_tup, ixk_lst, ixk_scr, at0, at1, at2, at3, at4, at5, List.length_map, q_word, e_no, S_inj, e_dgs]
      cases w with
      | nil =>
        refine Eq.mpr (if_pos rfl) ?_
        exact rt_pure rfl hk
      | cons a w =>
        refine Eq.mpr (if_neg nofun) ?_
        refine ixS (j := 0) (l := a :: w) rfl (by omega) ?_
        simp only [pForD, pInsL, pExtA, pSeq, pAsg, pVar, pC, pOp, pNil, pCons, pTup, pLst, pLstM, pNot, pAndV, pOrV, pIf, pB, pAnd, pOr, pNotT, pNoPart, pPart, pCB, pUnN, pSl, pNext, pBreak, pCont, pRet, pRetN, pDrop, pIfS, pgName, pgNil, pgCons, pgTup_t, pAug, pApp, pYes, isk_non, nsk_non, isN_non, isN_bl, isN_int, isN_str, isN_tup, isN_lst, isN_ref, isN_obj, pTru, pFld, pStar, pMake, pSetF, pIt, pRng1, pRng2, forG, List.map_cons, List.map_nil, List.getElem?_cons_zero, List.getElem?_cons_succ, List.set_cons_zero, List.set_cons_succ, Option.some.injEq, exists_eq_left, exists_eq_left', true_and, and_true, wipeE, D.bl.injEq, D.int.injEq, D.str.injEq, D.tup.injEq, D.lst.injEq, Bool.not_true, decide_eq_true_eq, if_true, if_false, reduceIte, Bool.false_eq_true, Option.isNone_none, Option.isNone_some, Bool.not_false, List.length_nil, List.length_cons, List.nil_append, List.cons_append, D.ref.injEq, SO.lst.injEq, pCall, exists_const, and_self, Nat.zero_add, Nat.zero_le, Nat.reduceLeDiff, Nat.reduceAdd, eq_self, o_add, o_sub, o_mul, o_div, o_mod, o_cmp, o_int, o_lenl, o_lent, o_lens, o_tupl, o_tupt, o_min, o_max, q_int, ixk_tup, ixk_lst, ixk_scr, at0, at1, at2, at3, at4, at5, List.length_map]
        refine ⟨a, rfl, ?_⟩
        rw [dig_mem]
        unfold wordL at hk
        simp only at hk
        cases q : isDig a with
        | false =>
          rw [q] at hk
          refine ⟨_, rfl, Eq.mpr (if_pos rfl) ?_⟩
          have hk : k (.tup [.tup [.str (Str.ofString "word"), dS (a :: w)], .int ((l.length - r.length : Nat) : Int)]) := hk
          rw [h2] at hk
          exact rt_pure rfl hk
        | true =>
          rw [q] at hk
          refine ⟨_, rfl, Eq.mpr (if_neg (by decide)) ?_⟩
          refine call_of rfl ⟨a :: w, rfl, by omega, ?_⟩
          have hk : k (found l.length ((Par.numL (a :: w)).map fun n => (.nm n, r))) := hk
          cases hn : Par.numL (a :: w) with
          | none =>
            rw [hn] at hk
            unfold oN
            simp only [pForD, pInsL, pExtA, pSeq, pAsg, pVar, pC, pOp, pNil, pCons, pTup, pLst, pLstM, pNot, pAndV, pOrV, pIf, pB, pAnd, pOr, pNotT, pNoPart, pPart, pCB, pUnN, pSl, pNext, pBreak, pCont, pRet, pRetN, pDrop, pIfS, pgName, pgNil, pgCons, pgTup_t, pAug, pApp, pYes, isk_non, nsk_non, isN_non, isN_bl, isN_int, isN_str, isN_tup, isN_lst, isN_ref, isN_obj, pTru, pFld, pStar, pMake, pSetF, pIt, pRng1, pRng2, forG, List.map_cons, List.map_nil, List.getElem?_cons_zero, List.getElem?_cons_succ, List.set_cons_zero, List.set_cons_succ, Option.some.injEq, exists_eq_left, exists_eq_left', true_and, and_true, wipeE, D.bl.injEq, D.int.injEq, D.str.injEq, D.tup.injEq, D.lst.injEq, Bool.not_true, decide_eq_true_eq, if_true, if_false, reduceIte, Bool.false_eq_true, Option.isNone_none, Option.isNone_some, Bool.not_false, List.length_nil, List.length_cons, List.nil_append, List.cons_append, D.ref.injEq, SO.lst.injEq, pCall, exists_const, and_self, Nat.zero_add, Nat.zero_le, Nat.reduceLeDiff, Nat.reduceAdd, eq_self, o_add, o_sub, o_mul, o_div, o_mod, o_cmp, o_int, o_lenl, o_lent, o_lens, o_tupl, o_tupt, o_min, o_max, q_int, ixk_tup, ixk_lst, ixk_scr, at0, at1, at2, at3, at4, at5, List.length_map]
            exact rt_pure rfl hk
          | some n =>
            rw [hn] at hk
            unfold oN
            simp only [pForD, pInsL, pExtA, pSeq, pAsg, pVar, pC, pOp, pNil, pCons, pTup, pLst, pLstM, pNot, pAndV, pOrV, pIf, pB, pAnd, pOr, pNotT, pNoPart, pPart, pCB, pUnN, pSl, pNext, pBreak, pCont, pRet, pRetN, pDrop, pIfS, pgName, pgNil, pgCons, pgTup_t, pAug, pApp, pYes, isk_non, nsk_non, isN_non, isN_bl, isN_int, isN_str, isN_tup, isN_lst, isN_ref, isN_obj, pTru, pFld, pStar, pMake, pSetF, pIt, pRng1, pRng2, forG, List.map_cons, List.map_nil, List.getElem?_cons_zero, List.getElem?_cons_succ, List.set_cons_zero, List.set_cons_succ, Option.some.injEq, exists_eq_left, exists_eq_left', true_and, and_true, wipeE, D.bl.injEq, D.int.injEq, D.str.injEq, D.tup.injEq, D.lst.injEq, Bool.not_true, decide_eq_true_eq, if_true, if_false, reduceIte, Bool.false_eq_true, Option.isNone_none, Option.isNone_some, Bool.not_false, List.length_nil, List.length_cons, List.nil_append, List.cons_append, D.ref.injEq, SO.lst.injEq, pCall, exists_const, and_self, Nat.zero_add, Nat.zero_le, Nat.reduceLeDiff, Nat.reduceAdd, eq_self, o_add, o_sub, o_mul, o_div, o_mod, o_cmp, o_int, o_lenl, o_lent, o_lens, o_tupl, o_tupt, o_min, o_max, q_int, ixk_tup, ixk_lst, ixk_scr, at0, at1, at2, at3, at4, at5, List.length_map]
            have hk : k (.tup [.tup [.str (Str.ofString "number"), .int n], .int ((l.length - r.length : Nat) : Int)]) := hk
            rw [h2] at hk
            exact rt_pure rfl hk
    simp only [pForD, pInsL, pExtA, pSeq, pAsg, pVar, pC, pOp, pNil, pCons, pTup, pLst, pLstM, pNot, pAndV, pOrV, pIf, pB, pAnd, pOr, pNotT, pNoPart, pPart, pCB, pUnN, pSl, pNext, pBreak, pCont, pRet, pRetN, pDrop, pIfS, pgName, pgNil, pgCons, pgTup_t, pAug, pApp, pYes, isk_non, nsk_non, isN_non, isN_bl, isN_int, isN_str, isN_tup, isN_lst, isN_ref, isN_obj, pTru, pFld, pStar, pMake, pSetF, pIt, pRng1, pRng2, forG, List.map_cons, List.map_nil, List.getElem?_cons_zero, List.getElem?_cons_succ, List.set_cons_zero, List.set_cons_succ, Option.some.injEq, exists_eq_left, exists_eq_left', true_and, and_true, wipeE, D.bl.injEq, D.int.injEq, D.str.injEq, D.tup.injEq, D.lst.injEq, Bool.not_true, decide_eq_true_eq, if_true, if_false, reduceIte, Bool.false_eq_true, Option.isNone_none, Option.isNone_some, Bool.not_false, List.length_nil, List.length_cons, List.nil_append, List.cons_append, D.ref.injEq, SO.lst.injEq, pCall, exists_const, and_self, Nat.zero_add, Nat.zero_le, Nat.reduceLeDiff, Nat.reduceAdd, eq_self, o_add, o_sub, o_mul, o_div, o_mod, o_cmp, o_int, o_lenl, o_lent, o_lens, o_tupl, o_tupt, o_min, o_max, q_int, ixk_tup, ixk_lst, ixk_scr, at0, at1, at2, at3, at4, at5, List.length_map, pFind3, e_sp]
    have hf := find3_is l 32 i hi
    have hlen2 := hlen _ _ hsplit
    by_cases hm : 32 ∈ l.drop i
    · rw [if_pos hm] at hf
      rw [hf, if_neg (by omega)]
      exact rest _ _ hsplit hk
    · rw [if_neg hm] at hf
      rw [hf, if_pos (by decide)]
      refine lenS hl ?_
      have ht : (l.drop i).takeWhile notSp = l.drop i := tw_none 32 (l.drop i) hm
      have e : ((l.length : Nat) : Int) = ((i + ((l.drop i).takeWhile notSp).length : Nat) : Int) := by
        rw [ht, List.length_drop]
        omega
      rw [e]
      exact rest _ _ hsplit hk
theorem ok_part_at {P : Program} {w : World} {K : PySem.W.Frag} {cl : Cl} {mg : Str → Option Value} {base : Heap} (D : Df K mg "part_at" s_part_at ["line", "at"]) (T : Txt K cl mg) (hw : cl.w = w) (G_number_of : C8.Cal P w K mg base 2 "number_of" (spP K cl F_number_of) []) (G_quoted_at : C8.Cal P w K mg base 1 "quoted_at" (spP K cl F_quoted_at) []) : C8.Cal P w K mg base 3 "part_at" (spP K cl F_part_at) [] := by
  subst hw
  refine D.cal sc_part_at (spP_len (n := 2) len_part_at) (fun f cdv  A outer s H vs Q E hr h => ?_)
  refine ⟨_,
    (pss_cons (ps_if (pt_cmpR (show OpR _ _ (rEqP K) from op_eqP hr.units) (pe_slice (show SlR _ (uSl K) from usl) (pv 0) (po_some (pv 1)) (po_some (pe_op (show OpR _ _ (uAdd K) from uop_add) (pv 1) pe_int))) pe_str (nomark _))
      (pss_one (ps_ret (C8.pe_c G_quoted_at hr (by decide) (by rfl) (pa_cons (pv 0) (pa_cons (pv 1) pa_nil)))))
      pss_nil)
    (pss_cons (ps_set (i := 2) sc_part_at.nd rfl (.inl rfl) (pe_s2 PySem.F.slot_str_find PySem.F.type_str_find mt_find3 (pv 0) pe_str (pv 1) ⟨rfl, rfl, rfl, rfl⟩))
    (pss_cons (ps_if (pt_cmpR op_lt (pv 2) pe_int (nomark _))
      (pss_one (ps_set (i := 2) sc_part_at.nd rfl (.inl rfl) (pe_callB (show CallR _ (.builtin "len") (uLen K) from ucall_len) (by rfl) T.n_len PySem.boot_len (pa_cons (pv 0) pa_nil))))
      pss_nil)
    (pss_cons (ps_set (i := 3) sc_part_at.nd rfl (.inl rfl) (pe_slice (show SlR _ (uSl K) from usl) (pv 0) (po_some (pv 1)) (po_some (pv 2))))
    (pss_cons (ps_if (pt_cmpR (show OpR _ _ (rEqP K) from op_eqP hr.units) (pv 3) pe_str (nomark _))
      (pss_one (ps_ret pe_non))
      pss_nil)
    (pss_cons (ps_if (pt_cmpR (show OpR _ _ (uNi K) from uop_ni hr.units) (pe_ix (show IxR _ (uIx K) from uix) (pv 3) pe_int (fun _ _ => rfl)) (C8.pe_gc (by rfl) T.g_DIGITS) (by with_unfolding_all rfl))
      (pss_one (ps_ret (pe_tup (pa_cons (pe_tup (pa_cons pe_str (pa_cons (pv 3) pa_nil))) (pa_cons (pv 2) pa_nil)))))
      pss_nil)
    (pss_cons (ps_set (i := 4) sc_part_at.nd rfl (.inl rfl) (C8.pe_c G_number_of hr (by decide) (by rfl) (pa_cons (pv 3) pa_nil)))
    (pss_cons (ps_if (pt_cmpR op_isN (pv 4) pe_non (nomark _))
      (pss_one (ps_ret pe_non))
      pss_nil)
    (pss_one (ps_ret (pe_tup (pa_cons (pe_tup (pa_cons pe_str (pa_cons (pv 4) pa_nil))) (pa_cons (pv 2) pa_nil))))))))))))), ?_⟩
  exact fn_ok (N := ["line", "at", "end", "word", "number"]) (show SmS K cl _ ps_part_at from
    (sm_seq (sm_ifS (sm_test (sm_op smr_eq (sm_sl sm_var (sm_part sm_var) (sm_part (sm_op smr_add sm_var sm_int))) sm_str))
      ((sm_ret (sm_call (sm_cons sm_var (sm_cons sm_var sm_nil)))))
      sm_next)
    (sm_seq (sm_asg (sm_find3 sm_var sm_str sm_var) sm_gname)
    (sm_seq (sm_ifS (sm_test (sm_op smr_cmp sm_var sm_int))
      ((sm_asg (sm_cb smc_len (sm_cons sm_var sm_nil)) sm_gname))
      sm_next)
    (sm_seq (sm_asg (sm_sl sm_var (sm_part sm_var) (sm_part sm_var)) sm_gname)
    (sm_seq (sm_ifS (sm_test (sm_op smr_eq sm_var sm_str))
      ((sm_ret sm_non))
      sm_next)
    (sm_seq (sm_ifS (sm_test (sm_op smr_ni (sm_op smr_ix sm_var sm_int) sm_str))
      ((sm_ret (sm_tup (sm_cons (sm_tup (sm_cons sm_str (sm_cons sm_var sm_nil))) (sm_cons sm_var sm_nil)))))
      sm_next)
    (sm_seq (sm_asg (sm_call (sm_cons sm_var sm_nil)) sm_gname)
    (sm_seq (sm_ifS (sm_test (sm_op smr_is sm_var sm_non))
      ((sm_ret sm_non))
      sm_next)
    ((sm_ret (sm_tup (sm_cons (sm_tup (sm_cons sm_str (sm_cons sm_var sm_nil))) (sm_cons sm_var sm_nil)))))))))))))) body_part_at h
def pl_parts_of_1 : PSx :=
      (pSeq (pAsg (pCall F_part_at (pCons (pVar 0) (pCons (pVar 2) pNil))) (pgName 3))
      (pSeq (pIfS (pB (pOp isk (pVar 3) (pC .non)))
        ((pRet (pC .non)))
        pNext)
      (pSeq (pAsg (pVar 3) (pgTup 2 (pgCons (pgName 4) (pgCons (pgName 5) pgNil))))
      (pSeq (pApp (pVar 1) (pVar 4))
      (pSeq (pIfS (pAnd (pB (pOp (cmpk fun i j => decide (i < j)) (pVar 5) (pCB lenk (pCons (pVar 0) pNil)))) (pB (pOp nek (pOp ixk (pVar 0) (pVar 5)) (pC (.str (Str.ofString " "))))))
        ((pRet (pC .non)))
        pNext)
      ((pAsg (pOp addk (pVar 5) (pC (.int 1))) (pgName 2))))))))
theorem pl_parts_of_1_d (P : PEnds) (env : Pw.Env) (S : Sto) : pl_parts_of_1 P env S = (
      (pSeq (pAsg (pCall F_part_at (pCons (pVar 0) (pCons (pVar 2) pNil))) (pgName 3))
      (pSeq (pIfS (pB (pOp isk (pVar 3) (pC .non)))
        ((pRet (pC .non)))
        pNext)
      (pSeq (pAsg (pVar 3) (pgTup 2 (pgCons (pgName 4) (pgCons (pgName 5) pgNil))))
      (pSeq (pApp (pVar 1) (pVar 4))
      (pSeq (pIfS (pAnd (pB (pOp (cmpk fun i j => decide (i < j)) (pVar 5) (pCB lenk (pCons (pVar 0) pNil)))) (pB (pOp nek (pOp ixk (pVar 0) (pVar 5)) (pC (.str (Str.ofString " "))))))
        ((pRet (pC .non)))
        pNext)
      ((pAsg (pOp addk (pVar 5) (pC (.int 1))) (pgName 2))))))))) P env S := rfl
def ps_parts_of : PSx :=
    (pSeq (pAsg (pLstM pNil) (pgName 1))
    (pSeq (pAsg (pC (.int 0)) (pgName 2))
    (pSeq (pWhile (pB (pOp (cmpk fun i j => decide (i ≤ j)) (pVar 2) (pCB lenk (pCons (pVar 0) pNil)))) pl_parts_of_1)
    ((pRet (pVar 1))))))
theorem start_parts_of : ∀ a0 : D, startE 6 [a0] = [some a0, none, none, none, none, none] := fun _ => rfl
def ePts (ps : List Pt) : D := .lst (ps.map ePt)
def oPts (o : Option (List Pt)) : D := match o with
  | none => .non
  | some ps => ePts ps
theorem pu_pts : ∀ ps : List Pt, pureAll (ps.map ePt) = true
  | [] => rfl
  | p :: ps => by rw [List.map_cons, pureAll, pu_pt, pu_pts ps]; rfl
def F_parts_of : PFn := fun ds k => ∃ l : List Nat, ds = [.str (SX.S l)] ∧ l.length ≤ 1000 ∧ k (oPts (PL l))
theorem len_parts_of : ∀ ds k, F_parts_of ds k → ds.length = 1 := by
  rintro _ _ ⟨_, rfl, _⟩
  rfl
theorem body_parts_of : ∀ ds k, F_parts_of ds k → ps_parts_of { nx := fun _ _ => k .non, rt := fun d S => (d.frz S).noRef = true ∧ k (d.frz S) } (startE 6 ds) [] := by
  rintro _ k ⟨l, rfl, hl, hk⟩
  rw [start_parts_of]
  unfold ps_parts_of
  simp only [pForD, pInsL, pExtA, pSeq, pAsg, pVar, pC, pOp, pNil, pCons, pTup, pLst, pLstM, pNot, pAndV, pOrV, pIf, pB, pAnd, pOr, pNotT, pNoPart, pPart, pCB, pUnN, pSl, pNext, pBreak, pCont, pRet, pRetN, pDrop, pIfS, pgName, pgNil, pgCons, pgTup_t, pAug, pApp, pYes, isk_non, nsk_non, isN_non, isN_bl, isN_int, isN_str, isN_tup, isN_lst, isN_ref, isN_obj, pTru, pFld, pStar, pMake, pSetF, pIt, pRng1, pRng2, forG, List.map_cons, List.map_nil, List.getElem?_cons_zero, List.getElem?_cons_succ, List.set_cons_zero, List.set_cons_succ, Option.some.injEq, exists_eq_left, exists_eq_left', true_and, and_true, wipeE, D.bl.injEq, D.int.injEq, D.str.injEq, D.tup.injEq, D.lst.injEq, Bool.not_true, decide_eq_true_eq, if_true, if_false, reduceIte, Bool.false_eq_true, Option.isNone_none, Option.isNone_some, Bool.not_false, List.length_nil, List.length_cons, List.nil_append, List.cons_append, D.ref.injEq, SO.lst.injEq, pCall, exists_const, and_self, Nat.zero_add, Nat.zero_le, Nat.reduceLeDiff, Nat.reduceAdd, eq_self, o_add, o_sub, o_mul, o_div, o_mod, o_cmp, o_int, o_lenl, o_lent, o_lens, o_tupl, o_tupt, o_min, o_max, q_int, ixk_tup, ixk_lst, ixk_scr, at0, at1, at2, at3, at4, at5, List.length_map]
  refine ⟨fun m env S => ∃ (j : Nat) (acc : List Pt) (x3 x4 x5 : Option D), env = [some (.str (SX.S l)), some (.ref 0), some (.int (j : Int)), x3, x4, x5] ∧ S = [.lst (acc.map ePt)] ∧ j ≤ l.length + 1 ∧ m = l.length + 1 - j ∧ acc.length ≤ j ∧ PL l = if j ≤ l.length then (PL (l.drop j)).map (acc ++ ·) else some acc, ⟨_, 0, [], _, _, _, rfl, rfl, by omega, rfl, Nat.zero_le _, by
    rw [if_pos (by omega), List.drop_zero]
    cases PL l <;> rfl⟩, ?_⟩
  rintro m env S ⟨j, acc, x3, x4, x5, rfl, rfl, hj, rfl, hac, hq⟩
  simp only [pForD, pInsL, pExtA, pSeq, pAsg, pVar, pC, pOp, pNil, pCons, pTup, pLst, pLstM, pNot, pAndV, pOrV, pIf, pB, pAnd, pOr, pNotT, pNoPart, pPart, pCB, pUnN, pSl, pNext, pBreak, pCont, pRet, pRetN, pDrop, pIfS, pgName, pgNil, pgCons, pgTup_t, pAug, pApp, pYes, isk_non, nsk_non, isN_non, isN_bl, isN_int, isN_str, isN_tup, isN_lst, isN_ref, isN_obj, pTru, pFld, pStar, pMake, pSetF, pIt, pRng1, pRng2, forG, List.map_cons, List.map_nil, List.getElem?_cons_zero, List.getElem?_cons_succ, List.set_cons_zero, List.set_cons_succ, Option.some.injEq, exists_eq_left, exists_eq_left', true_and, and_true, wipeE, D.bl.injEq, D.int.injEq, D.str.injEq, D.tup.injEq, D.lst.injEq, Bool.not_true, decide_eq_true_eq, if_true, if_false, reduceIte, Bool.false_eq_true, Option.isNone_none, Option.isNone_some, Bool.not_false, List.length_nil, List.length_cons, List.nil_append, List.cons_append, D.ref.injEq, SO.lst.injEq, pCall, exists_const, and_self, Nat.zero_add, Nat.zero_le, Nat.reduceLeDiff, Nat.reduceAdd, eq_self, o_add, o_sub, o_mul, o_div, o_mod, o_cmp, o_int, o_lenl, o_lent, o_lens, o_tupl, o_tupt, o_min, o_max, q_int, ixk_tup, ixk_lst, ixk_scr, at0, at1, at2, at3, at4, at5, List.length_map]
  refine lenS hl ?_
  simp only [pForD, pInsL, pExtA, pSeq, pAsg, pVar, pC, pOp, pNil, pCons, pTup, pLst, pLstM, pNot, pAndV, pOrV, pIf, pB, pAnd, pOr, pNotT, pNoPart, pPart, pCB, pUnN, pSl, pNext, pBreak, pCont, pRet, pRetN, pDrop, pIfS, pgName, pgNil, pgCons, pgTup_t, pAug, pApp, pYes, isk_non, nsk_non, isN_non, isN_bl, isN_int, isN_str, isN_tup, isN_lst, isN_ref, isN_obj, pTru, pFld, pStar, pMake, pSetF, pIt, pRng1, pRng2, forG, List.map_cons, List.map_nil, List.getElem?_cons_zero, List.getElem?_cons_succ, List.set_cons_zero, List.set_cons_succ, Option.some.injEq, exists_eq_left, exists_eq_left', true_and, and_true, wipeE, D.bl.injEq, D.int.injEq, D.str.injEq, D.tup.injEq, D.lst.injEq, Bool.not_true, decide_eq_true_eq, if_true, if_false, reduceIte, Bool.false_eq_true, Option.isNone_none, Option.isNone_some, Bool.not_false, List.length_nil, List.length_cons, List.nil_append, List.cons_append, D.ref.injEq, SO.lst.injEq, pCall, exists_const, and_self, Nat.zero_add, Nat.zero_le, Nat.reduceLeDiff, Nat.reduceAdd, eq_self, o_add, o_sub, o_mul, o_div, o_mod, o_cmp, o_int, o_lenl, o_lent, o_lens, o_tupl, o_tupt, o_min, o_max, q_int, ixk_tup, ixk_lst, ixk_scr, at0, at1, at2, at3, at4, at5, List.length_map]
  by_cases c : j ≤ l.length
  · rw [if_pos (by omega)]
    rw [if_pos c] at hq
    refine ⟨fun env S => ∃ (j' : Nat) (acc' : List Pt) (x3 x4 x5 : Option D), env = [some (.str (SX.S l)), some (.ref 0), some (.int (j' : Int)), x3, x4, x5] ∧ S = [.lst (acc'.map ePt)] ∧ j' ≤ l.length + 1 ∧ j < j' ∧ acc'.length ≤ j' ∧ PL l = if j' ≤ l.length then (PL (l.drop j')).map (acc' ++ ·) else some acc', fun env S ⟨j', acc', x3, x4, x5, h1, h2, h3, h4, h5, h6⟩ => ⟨l.length + 1 - j', by omega, j', acc', x3, x4, x5, h1, h2, h3, rfl, h5, h6⟩, ?_⟩
    simp only [pForD, pInsL, pExtA, pSeq, pAsg, pVar, pC, pOp, pNil, pCons, pTup, pLst, pLstM, pNot, pAndV, pOrV, pIf, pB, pAnd, pOr, pNotT, pNoPart, pPart, pCB, pUnN, pSl, pNext, pBreak, pCont, pRet, pRetN, pDrop, pIfS, pgName, pgNil, pgCons, pgTup_t, pAug, pApp, pYes, isk_non, nsk_non, isN_non, isN_bl, isN_int, isN_str, isN_tup, isN_lst, isN_ref, isN_obj, pTru, pFld, pStar, pMake, pSetF, pIt, pRng1, pRng2, forG, List.map_cons, List.map_nil, List.getElem?_cons_zero, List.getElem?_cons_succ, List.set_cons_zero, List.set_cons_succ, Option.some.injEq, exists_eq_left, exists_eq_left', true_and, and_true, wipeE, D.bl.injEq, D.int.injEq, D.str.injEq, D.tup.injEq, D.lst.injEq, Bool.not_true, decide_eq_true_eq, if_true, if_false, reduceIte, Bool.false_eq_true, Option.isNone_none, Option.isNone_some, Bool.not_false, List.length_nil, List.length_cons, List.nil_append, List.cons_append, D.ref.injEq, SO.lst.injEq, pCall, exists_const, and_self, Nat.zero_add, Nat.zero_le, Nat.reduceLeDiff, Nat.reduceAdd, eq_self, o_add, o_sub, o_mul, o_div, o_mod, o_cmp, o_int, o_lenl, o_lent, o_lens, o_tupl, o_tupt, o_min, o_max, q_int, ixk_tup, ixk_lst, ixk_scr, at0, at1, at2, at3, at4, at5, List.length_map, pl_parts_of_1_d]
    refine call_of rfl ⟨l, j, rfl, hl, c, ?_⟩
    cases hp : partL (l.drop j) with
    | none =>
      rw [hq, PL_none hp] at hk
      unfold found
      simp only [pForD, pInsL, pExtA, pSeq, pAsg, pVar, pC, pOp, pNil, pCons, pTup, pLst, pLstM, pNot, pAndV, pOrV, pIf, pB, pAnd, pOr, pNotT, pNoPart, pPart, pCB, pUnN, pSl, pNext, pBreak, pCont, pRet, pRetN, pDrop, pIfS, pgName, pgNil, pgCons, pgTup_t, pAug, pApp, pYes, isk_non, nsk_non, isN_non, isN_bl, isN_int, isN_str, isN_tup, isN_lst, isN_ref, isN_obj, pTru, pFld, pStar, pMake, pSetF, pIt, pRng1, pRng2, forG, List.map_cons, List.map_nil, List.getElem?_cons_zero, List.getElem?_cons_succ, List.set_cons_zero, List.set_cons_succ, Option.some.injEq, exists_eq_left, exists_eq_left', true_and, and_true, wipeE, D.bl.injEq, D.int.injEq, D.str.injEq, D.tup.injEq, D.lst.injEq, Bool.not_true, decide_eq_true_eq, if_true, if_false, reduceIte, Bool.false_eq_true, Option.isNone_none, Option.isNone_some, Bool.not_false, List.length_nil, List.length_cons, List.nil_append, List.cons_append, D.ref.injEq, SO.lst.injEq, pCall, exists_const, and_self, Nat.zero_add, Nat.zero_le, Nat.reduceLeDiff, Nat.reduceAdd, eq_self, o_add, o_sub, o_mul, o_div, o_mod, o_cmp, o_int, o_lenl, o_lent, o_lens, o_tupl, o_tupt, o_min, o_max, q_int, ixk_tup, ixk_lst, ixk_scr, at0, at1, at2, at3, at4, at5, List.length_map]
      exact rt_pure rfl hk
    | some q =>
      obtain ⟨p, r⟩ := q
      obtain ⟨u, hu, _, hun, _⟩ := part_inv hp
      have hun' := List.length_pos_iff.mpr hun
      have hlr := congrArg List.length hu
      rw [List.length_drop, List.length_append] at hlr
      have hr : r = l.drop (l.length - r.length) := by
        have h1 : l.drop (j + u.length) = r := by
          rw [← List.drop_drop, hu, List.drop_left]
        rw [← h1, List.length_drop]
        congr 1
        omega
      unfold found
      simp only [pForD, pInsL, pExtA, pSeq, pAsg, pVar, pC, pOp, pNil, pCons, pTup, pLst, pLstM, pNot, pAndV, pOrV, pIf, pB, pAnd, pOr, pNotT, pNoPart, pPart, pCB, pUnN, pSl, pNext, pBreak, pCont, pRet, pRetN, pDrop, pIfS, pgName, pgNil, pgCons, pgTup_t, pAug, pApp, pYes, isk_non, nsk_non, isN_non, isN_bl, isN_int, isN_str, isN_tup, isN_lst, isN_ref, isN_obj, pTru, pFld, pStar, pMake, pSetF, pIt, pRng1, pRng2, forG, List.map_cons, List.map_nil, List.getElem?_cons_zero, List.getElem?_cons_succ, List.set_cons_zero, List.set_cons_succ, Option.some.injEq, exists_eq_left, exists_eq_left', true_and, and_true, wipeE, D.bl.injEq, D.int.injEq, D.str.injEq, D.tup.injEq, D.lst.injEq, Bool.not_true, decide_eq_true_eq, if_true, if_false, reduceIte, Bool.false_eq_true, Option.isNone_none, Option.isNone_some, Bool.not_false, List.length_nil, List.length_cons, List.nil_append, List.cons_append, D.ref.injEq, SO.lst.injEq, pCall, exists_const, and_self, Nat.zero_add, Nat.zero_le, Nat.reduceLeDiff, Nat.reduceAdd, eq_self, o_add, o_sub, o_mul, o_div, o_mod, o_cmp, o_int, o_lenl, o_lent, o_lens, o_tupl, o_tupt, o_min, o_max, q_int, ixk_tup, ixk_lst, ixk_scr, at0, at1, at2, at3, at4, at5, List.length_map]
      generalize he : l.length - r.length = e at hr ⊢
      have he2 : e = j + u.length := by omega
      refine ⟨by omega, ?_⟩
      refine lenS hl ?_
      simp only [pForD, pInsL, pExtA, pSeq, pAsg, pVar, pC, pOp, pNil, pCons, pTup, pLst, pLstM, pNot, pAndV, pOrV, pIf, pB, pAnd, pOr, pNotT, pNoPart, pPart, pCB, pUnN, pSl, pNext, pBreak, pCont, pRet, pRetN, pDrop, pIfS, pgName, pgNil, pgCons, pgTup_t, pAug, pApp, pYes, isk_non, nsk_non, isN_non, isN_bl, isN_int, isN_str, isN_tup, isN_lst, isN_ref, isN_obj, pTru, pFld, pStar, pMake, pSetF, pIt, pRng1, pRng2, forG, List.map_cons, List.map_nil, List.getElem?_cons_zero, List.getElem?_cons_succ, List.set_cons_zero, List.set_cons_succ, Option.some.injEq, exists_eq_left, exists_eq_left', true_and, and_true, wipeE, D.bl.injEq, D.int.injEq, D.str.injEq, D.tup.injEq, D.lst.injEq, Bool.not_true, decide_eq_true_eq, if_true, if_false, reduceIte, Bool.false_eq_true, Option.isNone_none, Option.isNone_some, Bool.not_false, List.length_nil, List.length_cons, List.nil_append, List.cons_append, D.ref.injEq, SO.lst.injEq, pCall, exists_const, and_self, Nat.zero_add, Nat.zero_le, Nat.reduceLeDiff, Nat.reduceAdd, eq_self, o_add, o_sub, o_mul, o_div, o_mod, o_cmp, o_int, o_lenl, o_lent, o_lens, o_tupl, o_tupt, o_min, o_max, q_int, ixk_tup, ixk_lst, ixk_scr, at0, at1, at2, at3, at4, at5, List.length_map]
      by_cases c2 : e < l.length
      · rw [if_pos (by omega)]
        have hd : l.drop e = l[e] :: l.drop (e + 1) := List.drop_eq_getElem_cons c2
        refine ixS (List.getElem?_eq_getElem c2) hl ?_
        generalize l[e] = a at hd ⊢
        rw [hd] at hr
        subst hr
        simp only [pForD, pInsL, pExtA, pSeq, pAsg, pVar, pC, pOp, pNil, pCons, pTup, pLst, pLstM, pNot, pAndV, pOrV, pIf, pB, pAnd, pOr, pNotT, pNoPart, pPart, pCB, pUnN, pSl, pNext, pBreak, pCont, pRet, pRetN, pDrop, pIfS, pgName, pgNil, pgCons, pgTup_t, pAug, pApp, pYes, isk_non, nsk_non, isN_non, isN_bl, isN_int, isN_str, isN_tup, isN_lst, isN_ref, isN_obj, pTru, pFld, pStar, pMake, pSetF, pIt, pRng1, pRng2, forG, List.map_cons, List.map_nil, List.getElem?_cons_zero, List.getElem?_cons_succ, List.set_cons_zero, List.set_cons_succ, Option.some.injEq, exists_eq_left, exists_eq_left', true_and, and_true, wipeE, D.bl.injEq, D.int.injEq, D.str.injEq, D.tup.injEq, D.lst.injEq, Bool.not_true, decide_eq_true_eq, if_true, if_false, reduceIte, Bool.false_eq_true, Option.isNone_none, Option.isNone_some, Bool.not_false, List.length_nil, List.length_cons, List.nil_append, List.cons_append, D.ref.injEq, SO.lst.injEq, pCall, exists_const, and_self, Nat.zero_add, Nat.zero_le, Nat.reduceLeDiff, Nat.reduceAdd, eq_self, o_add, o_sub, o_mul, o_div, o_mod, o_cmp, o_int, o_lenl, o_lent, o_lens, o_tupl, o_tupt, o_min, o_max, q_int, ixk_tup, ixk_lst, ixk_scr, at0, at1, at2, at3, at4, at5, List.length_map, n_word, e_sp, S_inj]
        by_cases c3 : a = 32
        · subst c3
          refine Eq.mpr (if_neg (by decide)) ?_
          refine ⟨e + 1, acc ++ [p], _, _, _, rfl, by rw [List.map_append]; rfl, by omega, by omega, by rw [List.length_append, List.length_singleton]; omega, ?_⟩
          rw [if_pos (by omega), hq, PL_on hp, Option.map_map]
          cases PL (l.drop (e + 1)) with
          | none => rfl
          | some qs =>
            show some (acc ++ p :: qs) = some (acc ++ [p] ++ qs)
            rw [List.append_assoc]
            rfl
        · rw [decide_eq_false (by simpa using c3)]
          refine Eq.mpr (if_pos rfl) ?_
          rw [hq, PL_no hp c3] at hk
          exact rt_pure rfl hk
      · rw [if_neg (by omega)]
        have hn : r = [] := by
          rw [hr]
          exact List.drop_eq_nil_of_le (by omega)
        subst hn
        rw [List.length_nil] at he hlr
        refine ⟨e + 1, acc ++ [p], _, _, _, rfl, by rw [List.map_append]; rfl, by omega, by omega, by rw [List.length_append, List.length_singleton]; omega, ?_⟩
        rw [if_neg (by omega), hq, PL_end hp]
        rfl
  · rw [if_neg (by omega)]
    rw [if_neg c] at hq
    rw [hq] at hk
    exact ⟨pure_noRef _ (show (D.lst (acc.map ePt)).pure = true from pu_pts acc), hk⟩
theorem ok_parts_of {P : Program} {w : World} {K : PySem.W.Frag} {cl : Cl} {mg : Str → Option Value} {base : Heap} (D : Df K mg "parts_of" s_parts_of ["line"]) (T : Txt K cl mg) (hw : cl.w = w) (G_part_at : C8.Cal P w K mg base 3 "part_at" (spP K cl F_part_at) []) : C8.Cal P w K mg base 4 "parts_of" (spP K cl F_parts_of) [] := by
  subst hw
  refine D.cal sc_parts_of (spP_len (n := 1) len_parts_of) (fun f cdv  A outer s H vs Q E hr h => ?_)
  refine ⟨_,
    (pss_cons (ps_set (i := 1) sc_parts_of.nd rfl (.inl rfl) (pe_lst pa_nil))
    (pss_cons (ps_set (i := 2) sc_parts_of.nd rfl (.inl rfl) pe_int)
    (pss_cons (ps_while PassesOwn.never (pt_cmpR op_le (pv 2) (pe_callB (show CallR _ (.builtin "len") (uLen K) from ucall_len) (by rfl) T.n_len PySem.boot_len (pa_cons (pv 0) pa_nil)) (nomark _))
      (pss_cons (ps_set (i := 3) sc_parts_of.nd rfl (.inl rfl) (C8.pe_c G_part_at hr (by decide) (by rfl) (pa_cons (pv 0) (pa_cons (pv 2) pa_nil))))
      (pss_cons (ps_if (pt_cmpR op_isN (pv 3) pe_non (nomark _))
        (pss_one (ps_ret pe_non))
        pss_nil)
      (pss_cons (ps_asg (pv 3) (pg_tup rfl (pgs_cons (pg_name (i := 4) sc_parts_of.nd rfl (Or.inl rfl)) (pgs_cons (pg_name (i := 5) sc_parts_of.nd rfl (Or.inl rfl)) pgs_nil))))
      (pss_cons (ps_expr (pe_bm PySem.F.plainAttrs_list PySem.F.slot_list_append PySem.F.type_list_append mt_append (pv 1) (pa_cons (pv 4) pa_nil)))
      (pss_cons (ps_if (PW.pt (pw_and (pt_cmpR op_lt (pv 5) (pe_callB (show CallR _ (.builtin "len") (uLen K) from ucall_len) (by rfl) T.n_len PySem.boot_len (pa_cons (pv 0) pa_nil)) (nomark _)) (pw_and1 (pt_cmpR (show OpR _ _ (rNeP K) from op_neP hr.units) (pe_ix (show IxR _ (uIx K) from uix) (pv 0) (pv 5) (fun _ _ => rfl)) pe_str (nomark _)))))
        (pss_one (ps_ret pe_non))
        pss_nil)
      (pss_one (ps_set (i := 2) sc_parts_of.nd rfl (.inl rfl) (pe_op (show OpR _ _ (uAdd K) from uop_add) (pv 5) pe_int)))))))))
    (pss_one (ps_ret (pv 1)))))), ?_⟩
  exact fn_ok (N := ["line", "parts", "at", "found", "part", "end"]) (show SmS K cl _ ps_parts_of from
    (sm_seq (sm_asg (sm_lstM sm_nil) sm_gname)
    (sm_seq (sm_asg sm_int sm_gname)
    (sm_seq (sm_while (sm_test (sm_op smr_cmp sm_var (sm_cb smc_len (sm_cons sm_var sm_nil))))
      (sm_seq (sm_asg (sm_call (sm_cons sm_var (sm_cons sm_var sm_nil))) sm_gname)
      (sm_seq (sm_ifS (sm_test (sm_op smr_is sm_var sm_non))
        ((sm_ret sm_non))
        sm_next)
      (sm_seq (sm_asg sm_var (sm_gtup (sm_gcons sm_gname (sm_gcons sm_gname sm_gnil))))
      (sm_seq (sm_app sm_var sm_var)
      (sm_seq (sm_ifS (sm_and (sm_test (sm_op smr_cmp sm_var (sm_cb smc_len (sm_cons sm_var sm_nil)))) (sm_test (sm_op smr_ne (sm_op smr_ix sm_var sm_var) sm_str)))
        ((sm_ret sm_non))
        sm_next)
      ((sm_asg (sm_op smr_add sm_var sm_int) sm_gname))))))))
    ((sm_ret sm_var)))))) body_parts_of h
def ps_form_number : PSx :=
    (pSeq (pIfS (pOr (pB (pOp eqk (pVar 0) (pLst pNil))) (pB (pOp nek (pOp ixk (pOp ixk (pVar 0) (pC (.int 0))) (pC (.int 0))) (pC (.str (Str.ofString "number"))))))
      ((pRet (pC .non)))
      pNext)
    ((pRet (pTup (pCons (pOp ixk (pOp ixk (pVar 0) (pC (.int 0))) (pC (.int 1))) (pCons (pC (.int 1)) pNil))))))
theorem start_form_number : ∀ a0 : D, startE 1 [a0] = [some a0] := fun _ => rfl
theorem py_strs1 (p : Pt) : (ePt p).py.depth ≤ 1 := by cases p <;> exact Nat.le_refl 1
theorem dep_pts0 : ∀ ps : List Pt, PyData.depthAll (pyAll (ps.map ePt)) ≤ 1
  | [] => Nat.zero_le 1
  | p :: ps => by
    show max (ePt p).py.depth (PyData.depthAll (pyAll (ps.map ePt))) ≤ 1
    have := py_strs1 p
    have := dep_pts0 ps
    omega
theorem dep_pts (ps : List Pt) : (ePts ps).dep ≤ 60 := by
  show PyData.depthAll (pyAll (ps.map ePt)) + 1 ≤ 60
  have := dep_pts0 ps
  omega
theorem pu_ePts (ps : List Pt) : (ePts ps).pure = true := pu_pts ps
theorem q_nil (S : Sto) (ps : List Pt) (k : D → Prop) : Pw.eqk S (ePts ps) (.lst []) k = k (.bl (decide (ps = []))) := by
  rw [eqk_pure (pu_ePts ps) rfl (dep_pts ps)]
  cases ps <;> rfl
theorem n_nil (S : Sto) (ps : List Pt) (k : D → Prop) : nek S (ePts ps) (.lst []) k = k (.bl (!decide (ps = []))) := by
  rw [nek_pure (pu_ePts ps) rfl (dep_pts ps)]
  cases ps <;> rfl
theorem cut_r {l : List D} {j : Nat} (h : j ≤ l.length) : Pw.cutD l (some (j : Int)) none = l.drop j := by
  unfold Pw.cutD
  have h1 : HT.sIx l.length l.length none = l.length := rfl
  have h2 : HT.sIx l.length 0 (some (j : Int)) = j := by
    unfold HT.sIx
    have hz : ¬ ((j : Int) < 0) := by omega
    simp [hz]
    omega
  rw [h1, h2]
  exact List.take_of_length_le (by rw [List.length_drop]; omega)
theorem cut_one (l : List D) : Pw.cutD l none (some (1 : Int)) = l.take 1 := by
  unfold Pw.cutD
  have h1 : HT.sIx l.length 0 none = 0 := rfl
  have h2 : HT.sIx l.length l.length (some (1 : Int)) = min 1 l.length := HT.sIx_nat _ _ 1
  rw [h1, h2, List.drop_zero, Nat.sub_zero]
  cases l with
  | nil => rfl
  | cons a l =>
    rw [List.length_cons, Nat.min_eq_left (by omega)]
theorem cut_dr (ps : List Pt) (j : Nat) : Pw.cutD (ps.map ePt) (some (j : Int)) none = (ps.drop j).map ePt := by
  by_cases h : j ≤ ps.length
  · rw [cut_r (by rw [List.length_map]; exact h), List.map_drop]
  · unfold Pw.cutD
    rw [List.drop_eq_nil_of_le (show ps.length ≤ j by omega)]
    have h2 : HT.sIx (ps.map ePt).length 0 (some (j : Int)) = min j (ps.map ePt).length := HT.sIx_nat _ _ j
    rw [h2, List.length_map, Nat.min_eq_right (by omega), List.drop_eq_nil_of_le (by rw [List.length_map]; exact Nat.le_refl _), List.take_nil]
    rfl
def headIs (ps : List Pt) (w : List Nat) : Bool := decide (ps.head? = some (.wd w))
theorem eqv_wd (p : Pt) (w : List Nat) : D.eqv (ePt p) (ePt (.wd w)) = decide (p = .wd w) := by
  cases p with
  | wd v =>
    show D.eqv (.tup [.str (Str.ofString "word"), dS v]) (.tup [.str (Str.ofString "word"), dS w]) = _
    rw [eqv_two, eqv_dS, Bool.and_true]
    have : D.eqv (.str (Str.ofString "word")) (.str (Str.ofString "word")) = true := beq_self_eq_true _
    rw [this, Bool.true_and, decide_eq_decide]
    exact ⟨fun h => by rw [h], fun h => by cases h; rfl⟩
  | nm n => rfl
  | qt t => rfl
theorem hd_eqv (ps : List Pt) (w : List Nat) : D.eqv (.lst ((ps.map ePt).take 1)) (.lst [ePt (.wd w)]) = headIs ps w := by
  unfold headIs
  cases ps with
  | nil => rfl
  | cons p ps =>
    show (D.eqv (ePt p) (ePt (.wd w)) && true) = _
    rw [eqv_wd, Bool.and_true, decide_eq_decide]
    exact ⟨fun h => by rw [h]; rfl, fun h => by cases h; rfl⟩
theorem pu_tk (ps : List Pt) : (D.lst ((ps.map ePt).take 1)).pure = true := by
  rw [← List.map_take]
  exact pu_pts _
theorem de_tk (ps : List Pt) : (D.lst ((ps.map ePt).take 1)).dep ≤ 60 := by
  rw [← List.map_take]
  exact dep_pts _
theorem q_hd (S : Sto) (ps : List Pt) (w : List Nat) (k : D → Prop) : Pw.eqk S (.lst ((ps.map ePt).take 1)) (.lst [.tup [.str (Str.ofString "word"), .str (SX.S w)]]) k = k (.bl (headIs ps w)) := by
  rw [eqk_pure (pu_tk ps) rfl (de_tk ps)]
  exact congrArg (fun b => k (.bl b)) (hd_eqv ps w)
theorem n_hd (S : Sto) (ps : List Pt) (w : List Nat) (k : D → Prop) : nek S (.lst ((ps.map ePt).take 1)) (.lst [.tup [.str (Str.ofString "word"), .str (SX.S w)]]) k = k (.bl (!headIs ps w)) := by
  rw [nek_pure (pu_tk ps) rfl (de_tk ps)]
  exact congrArg (fun b => k (.bl (!b))) (hd_eqv ps w)
def oF (o : Option (D × Nat)) : D := match o with
  | none => .non
  | some (d, n) => .tup [d, .int n]
theorem ix0 {S : Sto} {p : Pt} {ps : List Pt} {k : D → Prop} (h : k (ePt p)) : ixk S (ePts (p :: ps)) (.int 0) k := ⟨_, _, rfl, L2.atI_nat (xs := (p :: ps).map ePt) (j := 0) rfl, h⟩
theorem ixt {S : Sto} {ds : List D} {j : Nat} {d : D} {k : D → Prop} (h : ds[j]? = some d) (hk : k d) : ixk S (.tup ds) (.int (j : Int)) k := ⟨_, _, rfl, L2.atI_nat h, hk⟩
def F_form_number : PFn := fun ds k => ∃ ps : List Pt, ds = [ePts ps] ∧ k (oF (numF ps))
theorem len_form_number : ∀ ds k, F_form_number ds k → ds.length = 1 := by
  rintro _ _ ⟨_, rfl, _⟩
  rfl
theorem body_form_number : ∀ ds k, F_form_number ds k → ps_form_number { nx := fun _ _ => k .non, rt := fun d S => (d.frz S).noRef = true ∧ k (d.frz S) } (startE 1 ds) [] := by
  rintro _ k ⟨ps, rfl, hk⟩
  rw [start_form_number]
  unfold ps_form_number
  simp only [pForD, pInsL, pExtA, pSeq, pAsg, pVar, pC, pOp, pNil, pCons, pTup, pLst, pLstM, pNot, pAndV, pOrV, pIf, pB, pAnd, pOr, pNotT, pNoPart, pPart, pCB, pUnN, pSl, pNext, pBreak, pCont, pRet, pRetN, pDrop, pIfS, pgName, pgNil, pgCons, pgTup_t, pAug, pApp, pYes, isk_non, nsk_non, isN_non, isN_bl, isN_int, isN_str, isN_tup, isN_lst, isN_ref, isN_obj, pTru, pFld, pStar, pMake, pSetF, pIt, pRng1, pRng2, forG, List.map_cons, List.map_nil, List.getElem?_cons_zero, List.getElem?_cons_succ, List.set_cons_zero, List.set_cons_succ, Option.some.injEq, exists_eq_left, exists_eq_left', true_and, and_true, wipeE, D.bl.injEq, D.int.injEq, D.str.injEq, D.tup.injEq, D.lst.injEq, Bool.not_true, decide_eq_true_eq, if_true, if_false, reduceIte, Bool.false_eq_true, Option.isNone_none, Option.isNone_some, Bool.not_false, List.length_nil, List.length_cons, List.nil_append, List.cons_append, D.ref.injEq, SO.lst.injEq, pCall, exists_const, and_self, Nat.zero_add, Nat.zero_le, Nat.reduceLeDiff, Nat.reduceAdd, eq_self, o_add, o_sub, o_mul, o_div, o_mod, o_cmp, o_int, o_lenl, o_lent, o_lens, o_tupl, o_tupt, o_min, o_max, q_int, ixk_tup, ixk_lst, ixk_scr, at0, at1, at2, at3, at4, at5, List.length_map, q_nil]
  cases ps with
  | nil => exact Eq.mpr (if_pos rfl) (rt_pure rfl hk)
  | cons p ps =>
    refine Eq.mpr (if_neg nofun) ?_
    refine ix0 ?_
    cases p with
    | nm n =>
      refine ixt (j := 0) rfl ?_
      refine Eq.mpr (n_word _ _ _ _) ⟨_, rfl, Eq.mpr (if_neg (by decide +kernel)) ?_⟩
      refine ix0 (ixt (j := 1) rfl ?_)
      exact rt_pure rfl hk
    | wd w =>
      refine ixt (j := 0) rfl ?_
      exact Eq.mpr (n_word _ _ _ _) ⟨_, rfl, Eq.mpr (if_pos (by decide +kernel)) (rt_pure rfl hk)⟩
    | qt t =>
      refine ixt (j := 0) rfl ?_
      exact Eq.mpr (n_word _ _ _ _) ⟨_, rfl, Eq.mpr (if_pos (by decide +kernel)) (rt_pure rfl hk)⟩
theorem ok_form_number {P : Program} {w : World} {K : PySem.W.Frag} {cl : Cl} {mg : Str → Option Value} {base : Heap} (D : Df K mg "form_number" s_form_number ["parts"]) (T : Txt K cl mg) (hw : cl.w = w)  : C8.Cal P w K mg base 1 "form_number" (spP K cl F_form_number) [] := by
  subst hw
  refine D.cal sc_form_number (spP_len (n := 1) len_form_number) (fun f cdv  A outer s H vs Q E hr h => ?_)
  refine ⟨_,
    (pss_cons (ps_if (PW.pt (pw_or (pt_cmpR (show OpR _ _ (rEqP K) from op_eqP hr.units) (pv 0) (pe_lst pa_nil) (nomark _)) (pw_or1 (pt_cmpR (show OpR _ _ (rNeP K) from op_neP hr.units) (pe_ix (show IxR _ (uIx K) from uix) (pe_ix (show IxR _ (uIx K) from uix) (pv 0) pe_int (fun _ _ => rfl)) pe_int (fun _ _ => rfl)) pe_str (nomark _)))))
      (pss_one (ps_ret pe_non))
      pss_nil)
    (pss_one (ps_ret (pe_tup (pa_cons (pe_ix (show IxR _ (uIx K) from uix) (pe_ix (show IxR _ (uIx K) from uix) (pv 0) pe_int (fun _ _ => rfl)) pe_int (fun _ _ => rfl)) (pa_cons pe_int pa_nil)))))), ?_⟩
  exact fn_ok (N := ["parts"]) (show SmS K cl _ ps_form_number from
    (sm_seq (sm_ifS (sm_or (sm_test (sm_op smr_eq sm_var (sm_lst sm_nil))) (sm_test (sm_op smr_ne (sm_op smr_ix (sm_op smr_ix sm_var sm_int) sm_int) sm_str)))
      ((sm_ret sm_non))
      sm_next)
    ((sm_ret (sm_tup (sm_cons (sm_op smr_ix (sm_op smr_ix sm_var sm_int) sm_int) (sm_cons sm_int sm_nil))))))) body_form_number h
def ps_form_text : PSx :=
    (pSeq (pIfS (pOr (pB (pOp eqk (pVar 0) (pLst pNil))) (pB (pOp nek (pOp ixk (pOp ixk (pVar 0) (pC (.int 0))) (pC (.int 0))) (pC (.str (Str.ofString "quoted"))))))
      ((pRet (pC .non)))
      pNext)
    ((pRet (pTup (pCons (pOp ixk (pOp ixk (pVar 0) (pC (.int 0))) (pC (.int 1))) (pCons (pC (.int 1)) pNil))))))
theorem start_form_text : ∀ a0 : D, startE 1 [a0] = [some a0] := fun _ => rfl
def F_form_text : PFn := fun ds k => ∃ ps : List Pt, ds = [ePts ps] ∧ k (oF (textF ps))
theorem len_form_text : ∀ ds k, F_form_text ds k → ds.length = 1 := by
  rintro _ _ ⟨_, rfl, _⟩
  rfl
theorem body_form_text : ∀ ds k, F_form_text ds k → ps_form_text { nx := fun _ _ => k .non, rt := fun d S => (d.frz S).noRef = true ∧ k (d.frz S) } (startE 1 ds) [] := by
  rintro _ k ⟨ps, rfl, hk⟩
  rw [start_form_text]
  unfold ps_form_text
  simp only [pForD, pInsL, pExtA, pSeq, pAsg, pVar, pC, pOp, pNil, pCons, pTup, pLst, pLstM, pNot, pAndV, pOrV, pIf, pB, pAnd, pOr, pNotT, pNoPart, pPart, pCB, pUnN, pSl, pNext, pBreak, pCont, pRet, pRetN, pDrop, pIfS, pgName, pgNil, pgCons, pgTup_t, pAug, pApp, pYes, isk_non, nsk_non, isN_non, isN_bl, isN_int, isN_str, isN_tup, isN_lst, isN_ref, isN_obj, pTru, pFld, pStar, pMake, pSetF, pIt, pRng1, pRng2, forG, List.map_cons, List.map_nil, List.getElem?_cons_zero, List.getElem?_cons_succ, List.set_cons_zero, List.set_cons_succ, Option.some.injEq, exists_eq_left, exists_eq_left', true_and, and_true, wipeE, D.bl.injEq, D.int.injEq, D.str.injEq, D.tup.injEq, D.lst.injEq, Bool.not_true, decide_eq_true_eq, if_true, if_false, reduceIte, Bool.false_eq_true, Option.isNone_none, Option.isNone_some, Bool.not_false, List.length_nil, List.length_cons, List.nil_append, List.cons_append, D.ref.injEq, SO.lst.injEq, pCall, exists_const, and_self, Nat.zero_add, Nat.zero_le, Nat.reduceLeDiff, Nat.reduceAdd, eq_self, o_add, o_sub, o_mul, o_div, o_mod, o_cmp, o_int, o_lenl, o_lent, o_lens, o_tupl, o_tupt, o_min, o_max, q_int, ixk_tup, ixk_lst, ixk_scr, at0, at1, at2, at3, at4, at5, List.length_map, q_nil]
  cases ps with
  | nil => exact Eq.mpr (if_pos rfl) (rt_pure rfl hk)
  | cons p ps =>
    refine Eq.mpr (if_neg nofun) ?_
    refine ix0 ?_
    cases p with
    | qt n =>
      refine ixt (j := 0) rfl ?_
      refine Eq.mpr (n_word _ _ _ _) ⟨_, rfl, Eq.mpr (if_neg (by decide +kernel)) ?_⟩
      refine ix0 (ixt (j := 1) rfl ?_)
      exact rt_pure rfl hk
    | wd w =>
      refine ixt (j := 0) rfl ?_
      exact Eq.mpr (n_word _ _ _ _) ⟨_, rfl, Eq.mpr (if_pos (by decide +kernel)) (rt_pure rfl hk)⟩
    | nm t =>
      refine ixt (j := 0) rfl ?_
      exact Eq.mpr (n_word _ _ _ _) ⟨_, rfl, Eq.mpr (if_pos (by decide +kernel)) (rt_pure rfl hk)⟩
theorem ok_form_text {P : Program} {w : World} {K : PySem.W.Frag} {cl : Cl} {mg : Str → Option Value} {base : Heap} (D : Df K mg "form_text" s_form_text ["parts"]) (T : Txt K cl mg) (hw : cl.w = w)  : C8.Cal P w K mg base 1 "form_text" (spP K cl F_form_text) [] := by
  subst hw
  refine D.cal sc_form_text (spP_len (n := 1) len_form_text) (fun f cdv  A outer s H vs Q E hr h => ?_)
  refine ⟨_,
    (pss_cons (ps_if (PW.pt (pw_or (pt_cmpR (show OpR _ _ (rEqP K) from op_eqP hr.units) (pv 0) (pe_lst pa_nil) (nomark _)) (pw_or1 (pt_cmpR (show OpR _ _ (rNeP K) from op_neP hr.units) (pe_ix (show IxR _ (uIx K) from uix) (pe_ix (show IxR _ (uIx K) from uix) (pv 0) pe_int (fun _ _ => rfl)) pe_int (fun _ _ => rfl)) pe_str (nomark _)))))
      (pss_one (ps_ret pe_non))
      pss_nil)
    (pss_one (ps_ret (pe_tup (pa_cons (pe_ix (show IxR _ (uIx K) from uix) (pe_ix (show IxR _ (uIx K) from uix) (pv 0) pe_int (fun _ _ => rfl)) pe_int (fun _ _ => rfl)) (pa_cons pe_int pa_nil)))))), ?_⟩
  exact fn_ok (N := ["parts"]) (show SmS K cl _ ps_form_text from
    (sm_seq (sm_ifS (sm_or (sm_test (sm_op smr_eq sm_var (sm_lst sm_nil))) (sm_test (sm_op smr_ne (sm_op smr_ix (sm_op smr_ix sm_var sm_int) sm_int) sm_str)))
      ((sm_ret sm_non))
      sm_next)
    ((sm_ret (sm_tup (sm_cons (sm_op smr_ix (sm_op smr_ix sm_var sm_int) sm_int) (sm_cons sm_int sm_nil))))))) body_form_text h
def ps_form_path : PSx :=
    (pSeq (pAsg (pCall F_form_text (pCons (pVar 0) pNil)) (pgName 1))
    (pSeq (pIfS (pB (pOp isk (pVar 1) (pC .non)))
      ((pRet (pC .non)))
      pNext)
    (pSeq (pAsg (pCall F_read_path (pCons (pOp ixk (pVar 1) (pC (.int 0))) pNil)) (pgName 2))
    (pSeq (pIfS (pB (pOp isk (pVar 2) (pC .non)))
      ((pRet (pC .non)))
      pNext)
    ((pRet (pTup (pCons (pVar 2) (pCons (pC (.int 1)) pNil)))))))))
theorem start_form_path : ∀ a0 : D, startE 3 [a0] = [some a0, none, none] := fun _ => rfl
def SmPts (ps : List Pt) : Prop := ∀ t, .qt t ∈ ps → t.length ≤ 1000
def F_form_path : PFn := fun ds k => ∃ ps : List Pt, ds = [ePts ps] ∧ SmPts ps ∧ k (oF (Par.pathF ps))
theorem len_form_path : ∀ ds k, F_form_path ds k → ds.length = 1 := by
  rintro _ _ ⟨_, rfl, _⟩
  rfl
theorem body_form_path : ∀ ds k, F_form_path ds k → ps_form_path { nx := fun _ _ => k .non, rt := fun d S => (d.frz S).noRef = true ∧ k (d.frz S) } (startE 3 ds) [] := by
  rintro _ k ⟨ps, rfl, hs, hk⟩
  rw [start_form_path]
  unfold ps_form_path
  simp only [pForD, pInsL, pExtA, pSeq, pAsg, pVar, pC, pOp, pNil, pCons, pTup, pLst, pLstM, pNot, pAndV, pOrV, pIf, pB, pAnd, pOr, pNotT, pNoPart, pPart, pCB, pUnN, pSl, pNext, pBreak, pCont, pRet, pRetN, pDrop, pIfS, pgName, pgNil, pgCons, pgTup_t, pAug, pApp, pYes, isk_non, nsk_non, isN_non, isN_bl, isN_int, isN_str, isN_tup, isN_lst, isN_ref, isN_obj, pTru, pFld, pStar, pMake, pSetF, pIt, pRng1, pRng2, forG, List.map_cons, List.map_nil, List.getElem?_cons_zero, List.getElem?_cons_succ, List.set_cons_zero, List.set_cons_succ, Option.some.injEq, exists_eq_left, exists_eq_left', true_and, and_true, wipeE, D.bl.injEq, D.int.injEq, D.str.injEq, D.tup.injEq, D.lst.injEq, Bool.not_true, decide_eq_true_eq, if_true, if_false, reduceIte, Bool.false_eq_true, Option.isNone_none, Option.isNone_some, Bool.not_false, List.length_nil, List.length_cons, List.nil_append, List.cons_append, D.ref.injEq, SO.lst.injEq, pCall, exists_const, and_self, Nat.zero_add, Nat.zero_le, Nat.reduceLeDiff, Nat.reduceAdd, eq_self, o_add, o_sub, o_mul, o_div, o_mod, o_cmp, o_int, o_lenl, o_lent, o_lens, o_tupl, o_tupt, o_min, o_max, q_int, ixk_tup, ixk_lst, ixk_scr, at0, at1, at2, at3, at4, at5, List.length_map]
  refine call_of (by simp only [pureAll, pu_ePts, Bool.and_self]) ⟨ps, rfl, ?_⟩
  have no : textF ps = none → Par.pathF ps = none := fun h => by
    unfold textF at h
    unfold Par.pathF
    split at h
    · cases h
    · rfl
  cases ht : textF ps with
  | none =>
    rw [no ht] at hk
    simp only [pForD, pInsL, pExtA, pSeq, pAsg, pVar, pC, pOp, pNil, pCons, pTup, pLst, pLstM, pNot, pAndV, pOrV, pIf, pB, pAnd, pOr, pNotT, pNoPart, pPart, pCB, pUnN, pSl, pNext, pBreak, pCont, pRet, pRetN, pDrop, pIfS, pgName, pgNil, pgCons, pgTup_t, pAug, pApp, pYes, isk_non, nsk_non, isN_non, isN_bl, isN_int, isN_str, isN_tup, isN_lst, isN_ref, isN_obj, pTru, pFld, pStar, pMake, pSetF, pIt, pRng1, pRng2, forG, List.map_cons, List.map_nil, List.getElem?_cons_zero, List.getElem?_cons_succ, List.set_cons_zero, List.set_cons_succ, Option.some.injEq, exists_eq_left, exists_eq_left', true_and, and_true, wipeE, D.bl.injEq, D.int.injEq, D.str.injEq, D.tup.injEq, D.lst.injEq, Bool.not_true, decide_eq_true_eq, if_true, if_false, reduceIte, Bool.false_eq_true, Option.isNone_none, Option.isNone_some, Bool.not_false, List.length_nil, List.length_cons, List.nil_append, List.cons_append, D.ref.injEq, SO.lst.injEq, pCall, exists_const, and_self, Nat.zero_add, Nat.zero_le, Nat.reduceLeDiff, Nat.reduceAdd, eq_self, o_add, o_sub, o_mul, o_div, o_mod, o_cmp, o_int, o_lenl, o_lent, o_lens, o_tupl, o_tupt, o_min, o_max, q_int, ixk_tup, ixk_lst, ixk_scr, at0, at1, at2, at3, at4, at5, List.length_map, oF]
    exact rt_pure rfl hk
  | some q =>
    obtain ⟨d, n⟩ := q
    have : ∃ t r, ps = .qt t :: r ∧ d = dS t ∧ n = 1 := by
      unfold textF at ht
      split at ht
      · cases ht
        exact ⟨_, _, rfl, rfl, rfl⟩
      · cases ht
    obtain ⟨t, r, rfl, rfl, rfl⟩ := this
    simp only [pForD, pInsL, pExtA, pSeq, pAsg, pVar, pC, pOp, pNil, pCons, pTup, pLst, pLstM, pNot, pAndV, pOrV, pIf, pB, pAnd, pOr, pNotT, pNoPart, pPart, pCB, pUnN, pSl, pNext, pBreak, pCont, pRet, pRetN, pDrop, pIfS, pgName, pgNil, pgCons, pgTup_t, pAug, pApp, pYes, isk_non, nsk_non, isN_non, isN_bl, isN_int, isN_str, isN_tup, isN_lst, isN_ref, isN_obj, pTru, pFld, pStar, pMake, pSetF, pIt, pRng1, pRng2, forG, List.map_cons, List.map_nil, List.getElem?_cons_zero, List.getElem?_cons_succ, List.set_cons_zero, List.set_cons_succ, Option.some.injEq, exists_eq_left, exists_eq_left', true_and, and_true, wipeE, D.bl.injEq, D.int.injEq, D.str.injEq, D.tup.injEq, D.lst.injEq, Bool.not_true, decide_eq_true_eq, if_true, if_false, reduceIte, Bool.false_eq_true, Option.isNone_none, Option.isNone_some, Bool.not_false, List.length_nil, List.length_cons, List.nil_append, List.cons_append, D.ref.injEq, SO.lst.injEq, pCall, exists_const, and_self, Nat.zero_add, Nat.zero_le, Nat.reduceLeDiff, Nat.reduceAdd, eq_self, o_add, o_sub, o_mul, o_div, o_mod, o_cmp, o_int, o_lenl, o_lent, o_lens, o_tupl, o_tupt, o_min, o_max, q_int, ixk_tup, ixk_lst, ixk_scr, at0, at1, at2, at3, at4, at5, List.length_map, oF]
    refine call_of rfl ⟨t, rfl, hs t List.mem_cons_self, ?_⟩
    have hk : k (oF ((readP t).map fun p => (dP p, 1))) := hk
    cases hp : readP t with
    | none =>
      rw [hp] at hk
      unfold oP
      simp only [pForD, pInsL, pExtA, pSeq, pAsg, pVar, pC, pOp, pNil, pCons, pTup, pLst, pLstM, pNot, pAndV, pOrV, pIf, pB, pAnd, pOr, pNotT, pNoPart, pPart, pCB, pUnN, pSl, pNext, pBreak, pCont, pRet, pRetN, pDrop, pIfS, pgName, pgNil, pgCons, pgTup_t, pAug, pApp, pYes, isk_non, nsk_non, isN_non, isN_bl, isN_int, isN_str, isN_tup, isN_lst, isN_ref, isN_obj, pTru, pFld, pStar, pMake, pSetF, pIt, pRng1, pRng2, forG, List.map_cons, List.map_nil, List.getElem?_cons_zero, List.getElem?_cons_succ, List.set_cons_zero, List.set_cons_succ, Option.some.injEq, exists_eq_left, exists_eq_left', true_and, and_true, wipeE, D.bl.injEq, D.int.injEq, D.str.injEq, D.tup.injEq, D.lst.injEq, Bool.not_true, decide_eq_true_eq, if_true, if_false, reduceIte, Bool.false_eq_true, Option.isNone_none, Option.isNone_some, Bool.not_false, List.length_nil, List.length_cons, List.nil_append, List.cons_append, D.ref.injEq, SO.lst.injEq, pCall, exists_const, and_self, Nat.zero_add, Nat.zero_le, Nat.reduceLeDiff, Nat.reduceAdd, eq_self, o_add, o_sub, o_mul, o_div, o_mod, o_cmp, o_int, o_lenl, o_lent, o_lens, o_tupl, o_tupt, o_min, o_max, q_int, ixk_tup, ixk_lst, ixk_scr, at0, at1, at2, at3, at4, at5, List.length_map]
      exact rt_pure rfl hk
    | some p =>
      rw [hp] at hk
      unfold oP
      simp only [pForD, pInsL, pExtA, pSeq, pAsg, pVar, pC, pOp, pNil, pCons, pTup, pLst, pLstM, pNot, pAndV, pOrV, pIf, pB, pAnd, pOr, pNotT, pNoPart, pPart, pCB, pUnN, pSl, pNext, pBreak, pCont, pRet, pRetN, pDrop, pIfS, pgName, pgNil, pgCons, pgTup_t, pAug, pApp, pYes, isk_non, nsk_non, isN_non, isN_bl, isN_int, isN_str, isN_tup, isN_lst, isN_ref, isN_obj, pTru, pFld, pStar, pMake, pSetF, pIt, pRng1, pRng2, forG, List.map_cons, List.map_nil, List.getElem?_cons_zero, List.getElem?_cons_succ, List.set_cons_zero, List.set_cons_succ, Option.some.injEq, exists_eq_left, exists_eq_left', true_and, and_true, wipeE, D.bl.injEq, D.int.injEq, D.str.injEq, D.tup.injEq, D.lst.injEq, Bool.not_true, decide_eq_true_eq, if_true, if_false, reduceIte, Bool.false_eq_true, Option.isNone_none, Option.isNone_some, Bool.not_false, List.length_nil, List.length_cons, List.nil_append, List.cons_append, D.ref.injEq, SO.lst.injEq, pCall, exists_const, and_self, Nat.zero_add, Nat.zero_le, Nat.reduceLeDiff, Nat.reduceAdd, eq_self, o_add, o_sub, o_mul, o_div, o_mod, o_cmp, o_int, o_lenl, o_lent, o_lens, o_tupl, o_tupt, o_min, o_max, q_int, ixk_tup, ixk_lst, ixk_scr, at0, at1, at2, at3, at4, at5, List.length_map]
      exact rt_pure (by show ((dP p).pure && true) = true; rw [pu_dP]; rfl) hk
theorem ok_form_path {P : Program} {w : World} {K : PySem.W.Frag} {cl : Cl} {mg : Str → Option Value} {base : Heap} (D : Df K mg "form_path" s_form_path ["parts"]) (T : Txt K cl mg) (hw : cl.w = w) (G_read_path : C8.Cal P w K mg base 2 "read_path" (spP K cl F_read_path) []) (G_form_text : C8.Cal P w K mg base 1 "form_text" (spP K cl F_form_text) []) : C8.Cal P w K mg base 3 "form_path" (spP K cl F_form_path) [] := by
  subst hw
  refine D.cal sc_form_path (spP_len (n := 1) len_form_path) (fun f cdv  A outer s H vs Q E hr h => ?_)
  refine ⟨_,
    (pss_cons (ps_set (i := 1) sc_form_path.nd rfl (.inl rfl) (C8.pe_c G_form_text hr (by decide) (by rfl) (pa_cons (pv 0) pa_nil)))
    (pss_cons (ps_if (pt_cmpR op_isN (pv 1) pe_non (nomark _))
      (pss_one (ps_ret pe_non))
      pss_nil)
    (pss_cons (ps_set (i := 2) sc_form_path.nd rfl (.inl rfl) (C8.pe_c G_read_path hr (by decide) (by rfl) (pa_cons (pe_ix (show IxR _ (uIx K) from uix) (pv 1) pe_int (fun _ _ => rfl)) pa_nil)))
    (pss_cons (ps_if (pt_cmpR op_isN (pv 2) pe_non (nomark _))
      (pss_one (ps_ret pe_non))
      pss_nil)
    (pss_one (ps_ret (pe_tup (pa_cons (pv 2) (pa_cons pe_int pa_nil))))))))), ?_⟩
  exact fn_ok (N := ["parts", "read", "path"]) (show SmS K cl _ ps_form_path from
    (sm_seq (sm_asg (sm_call (sm_cons sm_var sm_nil)) sm_gname)
    (sm_seq (sm_ifS (sm_test (sm_op smr_is sm_var sm_non))
      ((sm_ret sm_non))
      sm_next)
    (sm_seq (sm_asg (sm_call (sm_cons (sm_op smr_ix sm_var sm_int) sm_nil)) sm_gname)
    (sm_seq (sm_ifS (sm_test (sm_op smr_is sm_var sm_non))
      ((sm_ret sm_non))
      sm_next)
    ((sm_ret (sm_tup (sm_cons sm_var (sm_cons sm_int sm_nil)))))))))) body_form_path h
def ps_form_runs : PSx :=
    (pSeq (pIfS (pB (pOp eqk (pSl (pVar 0) pNoPart (pPart (pC (.int 1)))) (pLst (pCons (pTup (pCons (pC (.str (Str.ofString "word"))) (pCons (pC (.str (Str.ofString "runs"))) pNil))) pNil))))
      ((pRet (pTup (pCons (pC (.bl true)) (pCons (pC (.int 1)) pNil)))))
      pNext)
    (pSeq (pIfS (pB (pOp eqk (pSl (pVar 0) pNoPart (pPart (pC (.int 1)))) (pLst (pCons (pTup (pCons (pC (.str (Str.ofString "word"))) (pCons (pC (.str (Str.ofString "plain"))) pNil))) pNil))))
      ((pRet (pTup (pCons (pC (.bl false)) (pCons (pC (.int 1)) pNil)))))
      pNext)
    ((pRet (pC .non)))))
theorem start_form_runs : ∀ a0 : D, startE 1 [a0] = [some a0] := fun _ => rfl
def F_form_runs : PFn := fun ds k => ∃ ps : List Pt, ds = [ePts ps] ∧ k (oF (runsF ps))
theorem len_form_runs : ∀ ds k, F_form_runs ds k → ds.length = 1 := by
  rintro _ _ ⟨_, rfl, _⟩
  rfl
theorem e_runs : Str.ofString "runs" = SX.S w_runs := by decide +kernel
theorem e_plain : Str.ofString "plain" = SX.S w_plain := by decide +kernel
theorem e_folder : Str.ofString "folder" = SX.S w_folder := by decide +kernel
theorem e_outside : Str.ofString "outside" = SX.S w_outside := by decide +kernel
theorem e_in : Str.ofString "in" = SX.S w_in := by decide +kernel
theorem e_thing : Str.ofString "thing" = SX.S w_thing := by decide +kernel
theorem e_wish : Str.ofString "wish" = SX.S w_wish := by decide +kernel
theorem sl1 {S : Sto} {ps : List Pt} {k : D → Prop} (h : k (.lst ((ps.map ePt).take 1))) : slk S (ePts ps) none (some (1 : Int)) k := ⟨_, rfl, by rw [cut_one]; exact h⟩
theorem sld {S : Sto} {ps : List Pt} {j : Nat} {k : D → Prop} (h : k (ePts (ps.drop j))) : slk S (ePts ps) (some (j : Int)) none k := ⟨_, rfl, by rw [cut_dr]; exact h⟩
theorem hd_yes {ps : List Pt} {w : List Nat} (h : headIs ps w = true) : ∃ r, ps = .wd w :: r := by
  unfold headIs at h
  have := of_decide_eq_true h
  cases ps with
  | nil => cases this
  | cons p r => cases this; exact ⟨r, rfl⟩
theorem hd_no {r : List Pt} {v w : List Nat} (h : headIs (.wd v :: r) w = false) : v ≠ w := fun z => by
  subst z
  unfold headIs at h
  exact absurd (of_decide_eq_false h) (fun q => q rfl)
theorem body_form_runs : ∀ ds k, F_form_runs ds k → ps_form_runs { nx := fun _ _ => k .non, rt := fun d S => (d.frz S).noRef = true ∧ k (d.frz S) } (startE 1 ds) [] := by
  rintro _ k ⟨ps, rfl, hk⟩
  rw [start_form_runs]
  unfold ps_form_runs
  simp only [pForD, pInsL, pExtA, pSeq, pAsg, pVar, pC, pOp, pNil, pCons, pTup, pLst, pLstM, pNot, pAndV, pOrV, pIf, pB, pAnd, pOr, pNotT, pNoPart, pPart, pCB, pUnN, pSl, pNext, pBreak, pCont, pRet, pRetN, pDrop, pIfS, pgName, pgNil, pgCons, pgTup_t, pAug, pApp, pYes, isk_non, nsk_non, isN_non, isN_bl, isN_int, isN_str, isN_tup, isN_lst, isN_ref, isN_obj, pTru, pFld, pStar, pMake, pSetF, pIt, pRng1, pRng2, forG, List.map_cons, List.map_nil, List.getElem?_cons_zero, List.getElem?_cons_succ, List.set_cons_zero, List.set_cons_succ, Option.some.injEq, exists_eq_left, exists_eq_left', true_and, and_true, wipeE, D.bl.injEq, D.int.injEq, D.str.injEq, D.tup.injEq, D.lst.injEq, Bool.not_true, decide_eq_true_eq, if_true, if_false, reduceIte, Bool.false_eq_true, Option.isNone_none, Option.isNone_some, Bool.not_false, List.length_nil, List.length_cons, List.nil_append, List.cons_append, D.ref.injEq, SO.lst.injEq, pCall, exists_const, and_self, Nat.zero_add, Nat.zero_le, Nat.reduceLeDiff, Nat.reduceAdd, eq_self, o_add, o_sub, o_mul, o_div, o_mod, o_cmp, o_int, o_lenl, o_lent, o_lens, o_tupl, o_tupt, o_min, o_max, q_int, ixk_tup, ixk_lst, ixk_scr, at0, at1, at2, at3, at4, at5, List.length_map, e_runs, e_plain]
  refine sl1 ?_
  refine Eq.mpr (q_hd _ _ _ _) ⟨_, rfl, ?_⟩
  cases h1 : headIs ps w_runs with
  | true =>
    obtain ⟨r, rfl⟩ := hd_yes h1
    exact Eq.mpr (if_pos rfl) (rt_pure rfl hk)
  | false =>
    refine Eq.mpr (if_neg (by decide)) ?_
    refine sl1 ?_
    refine Eq.mpr (q_hd _ _ _ _) ⟨_, rfl, ?_⟩
    cases h2 : headIs ps w_plain with
    | true =>
      obtain ⟨r, rfl⟩ := hd_yes h2
      exact Eq.mpr (if_pos rfl) (rt_pure rfl hk)
    | false =>
      refine Eq.mpr (if_neg (by decide)) ?_
      have e : runsF ps = none := by
        unfold runsF
        split
        · rw [if_neg (hd_no h1), if_neg (hd_no h2)]
        · rfl
      rw [e] at hk
      exact rt_pure rfl hk
theorem ok_form_runs {P : Program} {w : World} {K : PySem.W.Frag} {cl : Cl} {mg : Str → Option Value} {base : Heap} (D : Df K mg "form_runs" s_form_runs ["parts"]) (T : Txt K cl mg) (hw : cl.w = w)  : C8.Cal P w K mg base 1 "form_runs" (spP K cl F_form_runs) [] := by
  subst hw
  refine D.cal sc_form_runs (spP_len (n := 1) len_form_runs) (fun f cdv  A outer s H vs Q E hr h => ?_)
  refine ⟨_,
    (pss_cons (ps_if (pt_cmpR (show OpR _ _ (rEqP K) from op_eqP hr.units) (pe_slice (show SlR _ (uSl K) from usl) (pv 0) po_none (po_some pe_int)) (pe_lst (pa_cons (pe_tup (pa_cons pe_str (pa_cons pe_str pa_nil))) pa_nil)) (nomark _))
      (pss_one (ps_ret (pe_tup (pa_cons pe_bl (pa_cons pe_int pa_nil)))))
      pss_nil)
    (pss_cons (ps_if (pt_cmpR (show OpR _ _ (rEqP K) from op_eqP hr.units) (pe_slice (show SlR _ (uSl K) from usl) (pv 0) po_none (po_some pe_int)) (pe_lst (pa_cons (pe_tup (pa_cons pe_str (pa_cons pe_str pa_nil))) pa_nil)) (nomark _))
      (pss_one (ps_ret (pe_tup (pa_cons pe_bl (pa_cons pe_int pa_nil)))))
      pss_nil)
    (pss_one (ps_ret pe_non)))), ?_⟩
  exact fn_ok (N := ["parts"]) (show SmS K cl _ ps_form_runs from
    (sm_seq (sm_ifS (sm_test (sm_op smr_eq (sm_sl sm_var sm_noPart (sm_part sm_int)) (sm_lst (sm_cons (sm_tup (sm_cons sm_str (sm_cons sm_str sm_nil))) sm_nil))))
      ((sm_ret (sm_tup (sm_cons sm_bl (sm_cons sm_int sm_nil)))))
      sm_next)
    (sm_seq (sm_ifS (sm_test (sm_op smr_eq (sm_sl sm_var sm_noPart (sm_part sm_int)) (sm_lst (sm_cons (sm_tup (sm_cons sm_str (sm_cons sm_str sm_nil))) sm_nil))))
      ((sm_ret (sm_tup (sm_cons sm_bl (sm_cons sm_int sm_nil)))))
      sm_next)
    ((sm_ret sm_non))))) body_form_runs h
def pr_form_spot_1 : PSx :=
    (pSeq (pAsg (pCall F_form_path (pCons (pSl (pVar 0) (pPart (pVar 1)) pNoPart) pNil)) (pgName 3))
    (pSeq (pIfS (pB (pOp isk (pVar 3) (pC .non)))
      ((pRet (pC .non)))
      pNext)
    ((pRet (pTup (pCons (pTup (pCons (pVar 2) (pCons (pOp ixk (pVar 3) (pC (.int 0))) pNil))) (pCons (pOp addk (pVar 1) (pC (.int 1))) pNil)))))))
def ps_form_spot : PSx :=
    (pSeq (pAsg (pC (.int 1)) (pgName 1))
    (pSeq (pIfS (pOr (pB (pOp eqk (pSl (pVar 0) pNoPart (pPart (pC (.int 1)))) (pLst (pCons (pTup (pCons (pC (.str (Str.ofString "word"))) (pCons (pC (.str (Str.ofString "folder"))) pNil))) pNil)))) (pB (pOp eqk (pSl (pVar 0) pNoPart (pPart (pC (.int 1)))) (pLst (pCons (pTup (pCons (pC (.str (Str.ofString "word"))) (pCons (pC (.str (Str.ofString "outside"))) pNil))) pNil)))))
      ((pAsg (pOp ixk (pOp ixk (pVar 0) (pC (.int 0))) (pC (.int 1))) (pgName 2)))
      ((pIfS (pAnd (pB (pOp eqk (pSl (pVar 0) pNoPart (pPart (pC (.int 1)))) (pLst (pCons (pTup (pCons (pC (.str (Str.ofString "word"))) (pCons (pC (.str (Str.ofString "in"))) pNil))) pNil)))) (pB (pOp nsk (pCall F_form_number (pCons (pSl (pVar 0) (pPart (pC (.int 1))) pNoPart) pNil)) (pC .non))))
        (pSeq (pAsg (pOp ixk (pOp ixk (pVar 0) (pC (.int 1))) (pC (.int 1))) (pgName 2))
        ((pAsg (pC (.int 2)) (pgName 1))))
        ((pRet (pC .non))))))
    pr_form_spot_1))
theorem start_form_spot : ∀ a0 : D, startE 4 [a0] = [some a0, none, none, none] := fun _ => rfl
def F_form_spot : PFn := fun ds k => ∃ ps : List Pt, ds = [ePts ps] ∧ SmPts ps ∧ k (oF (spotF ps))
theorem len_form_spot : ∀ ds k, F_form_spot ds k → ds.length = 1 := by
  rintro _ _ ⟨_, rfl, _⟩
  rfl
theorem SmPts.drop {ps : List Pt} (h : SmPts ps) (n : Nat) : SmPts (ps.drop n) := fun t ht => h t (List.mem_of_mem_drop ht)
theorem body_form_spot : ∀ ds k, F_form_spot ds k → ps_form_spot { nx := fun _ _ => k .non, rt := fun d S => (d.frz S).noRef = true ∧ k (d.frz S) } (startE 4 ds) [] := by
  rintro _ k ⟨ps, rfl, hs, hk⟩
  rw [start_form_spot]
  unfold ps_form_spot
  have rest : ∀ (j : Nat) (b : D), b.pure = true → k (oF ((Par.pathF (ps.drop j)).map fun q => (.tup [b, q.1], j + 1))) → pr_form_spot_1 { nx := fun _ _ => k .non, rt := fun d S => (d.frz S).noRef = true ∧ k (d.frz S) } [some (ePts ps), some (.int (j : Int)), some b, none] [] := fun j b hb hk => by
    unfold pr_form_spot_1
    simp only [pForD, pInsL, pExtA, pSeq, pAsg, pVar, pC, pOp, pNil, pCons, pTup, pLst, pLstM, pNot, pAndV, pOrV, pIf, pB, pAnd, pOr, pNotT, pNoPart, pPart, pCB, pUnN, pSl, pNext, pBreak, pCont, pRet, pRetN, pDrop, pIfS, pgName, pgNil, pgCons, pgTup_t, pAug, pApp, pYes, isk_non, nsk_non, isN_non, isN_bl, isN_int, isN_str, isN_tup, isN_lst, isN_ref, isN_obj, pTru, pFld, pStar, pMake, pSetF, pIt, pRng1, pRng2, forG, List.map_cons, List.map_nil, List.getElem?_cons_zero, List.getElem?_cons_succ, List.set_cons_zero, List.set_cons_succ, Option.some.injEq, exists_eq_left, exists_eq_left', true_and, and_true, wipeE, D.bl.injEq, D.int.injEq, D.str.injEq, D.tup.injEq, D.lst.injEq, Bool.not_true, decide_eq_true_eq, if_true, if_false, reduceIte, Bool.false_eq_true, Option.isNone_none, Option.isNone_some, Bool.not_false, List.length_nil, List.length_cons, List.nil_append, List.cons_append, D.ref.injEq, SO.lst.injEq, pCall, exists_const, and_self, Nat.zero_add, Nat.zero_le, Nat.reduceLeDiff, Nat.reduceAdd, eq_self, o_add, o_sub, o_mul, o_div, o_mod, o_cmp, o_int, o_lenl, o_lent, o_lens, o_tupl, o_tupt, o_min, o_max, q_int, ixk_tup, ixk_lst, ixk_scr, at0, at1, at2, at3, at4, at5, List.length_map]
    refine sld ?_
    refine call_of (by simp only [pureAll, pu_ePts, Bool.and_self]) ⟨ps.drop j, rfl, hs.drop j, ?_⟩
    cases hp : Par.pathF (ps.drop j) with
    | none =>
      rw [hp] at hk
      simp only [pForD, pInsL, pExtA, pSeq, pAsg, pVar, pC, pOp, pNil, pCons, pTup, pLst, pLstM, pNot, pAndV, pOrV, pIf, pB, pAnd, pOr, pNotT, pNoPart, pPart, pCB, pUnN, pSl, pNext, pBreak, pCont, pRet, pRetN, pDrop, pIfS, pgName, pgNil, pgCons, pgTup_t, pAug, pApp, pYes, isk_non, nsk_non, isN_non, isN_bl, isN_int, isN_str, isN_tup, isN_lst, isN_ref, isN_obj, pTru, pFld, pStar, pMake, pSetF, pIt, pRng1, pRng2, forG, List.map_cons, List.map_nil, List.getElem?_cons_zero, List.getElem?_cons_succ, List.set_cons_zero, List.set_cons_succ, Option.some.injEq, exists_eq_left, exists_eq_left', true_and, and_true, wipeE, D.bl.injEq, D.int.injEq, D.str.injEq, D.tup.injEq, D.lst.injEq, Bool.not_true, decide_eq_true_eq, if_true, if_false, reduceIte, Bool.false_eq_true, Option.isNone_none, Option.isNone_some, Bool.not_false, List.length_nil, List.length_cons, List.nil_append, List.cons_append, D.ref.injEq, SO.lst.injEq, pCall, exists_const, and_self, Nat.zero_add, Nat.zero_le, Nat.reduceLeDiff, Nat.reduceAdd, eq_self, o_add, o_sub, o_mul, o_div, o_mod, o_cmp, o_int, o_lenl, o_lent, o_lens, o_tupl, o_tupt, o_min, o_max, q_int, ixk_tup, ixk_lst, ixk_scr, at0, at1, at2, at3, at4, at5, List.length_map, oF]
      exact rt_pure rfl hk
    | some q =>
      obtain ⟨d, n⟩ := q
      rw [hp] at hk
      simp only [pForD, pInsL, pExtA, pSeq, pAsg, pVar, pC, pOp, pNil, pCons, pTup, pLst, pLstM, pNot, pAndV, pOrV, pIf, pB, pAnd, pOr, pNotT, pNoPart, pPart, pCB, pUnN, pSl, pNext, pBreak, pCont, pRet, pRetN, pDrop, pIfS, pgName, pgNil, pgCons, pgTup_t, pAug, pApp, pYes, isk_non, nsk_non, isN_non, isN_bl, isN_int, isN_str, isN_tup, isN_lst, isN_ref, isN_obj, pTru, pFld, pStar, pMake, pSetF, pIt, pRng1, pRng2, forG, List.map_cons, List.map_nil, List.getElem?_cons_zero, List.getElem?_cons_succ, List.set_cons_zero, List.set_cons_succ, Option.some.injEq, exists_eq_left, exists_eq_left', true_and, and_true, wipeE, D.bl.injEq, D.int.injEq, D.str.injEq, D.tup.injEq, D.lst.injEq, Bool.not_true, decide_eq_true_eq, if_true, if_false, reduceIte, Bool.false_eq_true, Option.isNone_none, Option.isNone_some, Bool.not_false, List.length_nil, List.length_cons, List.nil_append, List.cons_append, D.ref.injEq, SO.lst.injEq, pCall, exists_const, and_self, Nat.zero_add, Nat.zero_le, Nat.reduceLeDiff, Nat.reduceAdd, eq_self, o_add, o_sub, o_mul, o_div, o_mod, o_cmp, o_int, o_lenl, o_lent, o_lens, o_tupl, o_tupt, o_min, o_max, q_int, ixk_tup, ixk_lst, ixk_scr, at0, at1, at2, at3, at4, at5, List.length_map, oF]
      have hd : d.pure = true := by
        unfold Par.pathF at hp
        split at hp
        · obtain ⟨p, _, e⟩ := Option.map_eq_some_iff.mp hp
          cases e
          exact pu_dP p
        · cases hp
      exact rt_pure (by simp only [D.pure, pureAll, hb, hd, Bool.and_self]) hk
  have one : ∀ (w : List Nat), (w = w_folder ∨ w = w_outside) → headIs ps w = true → ixk [] (ePts ps) (D.int 0) fun z => ixk [] z (D.int 1) fun z => pr_form_spot_1 { nx := fun _ _ => k .non, rt := fun d S => (d.frz S).noRef = true ∧ k (d.frz S) } [some (ePts ps), some (D.int 1), some z, none] [] := fun w hw h => by
    obtain ⟨r, rfl⟩ := hd_yes h
    refine ix0 (ixt (j := 1) rfl ?_)
    refine rest 1 (dS w) rfl ?_
    have e : (Par.pathF ((.wd w :: r).drop 1)).map (fun q => (D.tup [dS w, q.1], 1 + 1)) = spotF (.wd w :: r) := by
      unfold spotF Par.pathF
      simp only [if_pos hw, List.drop_succ_cons, List.drop_zero]
      split
      · rename_i t _
        cases readP t <;> rfl
      · rfl
    rw [e]
    exact hk
  simp only [pForD, pInsL, pExtA, pSeq, pAsg, pVar, pC, pOp, pNil, pCons, pTup, pLst, pLstM, pNot, pAndV, pOrV, pIf, pB, pAnd, pOr, pNotT, pNoPart, pPart, pCB, pUnN, pSl, pNext, pBreak, pCont, pRet, pRetN, pDrop, pIfS, pgName, pgNil, pgCons, pgTup_t, pAug, pApp, pYes, isk_non, nsk_non, isN_non, isN_bl, isN_int, isN_str, isN_tup, isN_lst, isN_ref, isN_obj, pTru, pFld, pStar, pMake, pSetF, pIt, pRng1, pRng2, forG, List.map_cons, List.map_nil, List.getElem?_cons_zero, List.getElem?_cons_succ, List.set_cons_zero, List.set_cons_succ, Option.some.injEq, exists_eq_left, exists_eq_left', true_and, and_true, wipeE, D.bl.injEq, D.int.injEq, D.str.injEq, D.tup.injEq, D.lst.injEq, Bool.not_true, decide_eq_true_eq, if_true, if_false, reduceIte, Bool.false_eq_true, Option.isNone_none, Option.isNone_some, Bool.not_false, List.length_nil, List.length_cons, List.nil_append, List.cons_append, D.ref.injEq, SO.lst.injEq, pCall, exists_const, and_self, Nat.zero_add, Nat.zero_le, Nat.reduceLeDiff, Nat.reduceAdd, eq_self, o_add, o_sub, o_mul, o_div, o_mod, o_cmp, o_int, o_lenl, o_lent, o_lens, o_tupl, o_tupt, o_min, o_max, q_int, ixk_tup, ixk_lst, ixk_scr, at0, at1, at2, at3, at4, at5, List.length_map, e_folder, e_outside, e_in]
  refine sl1 ?_
  refine Eq.mpr (q_hd _ _ _ _) ⟨_, rfl, ?_⟩
  cases h1 : headIs ps w_folder with
  | true => exact Eq.mpr (if_pos rfl) (one _ (.inl rfl) h1)
  | false =>
    refine Eq.mpr (if_neg (by decide)) ?_
    refine sl1 ?_
    refine Eq.mpr (q_hd _ _ _ _) ⟨_, rfl, ?_⟩
    cases h2 : headIs ps w_outside with
    | true => exact Eq.mpr (if_pos rfl) (one _ (.inr rfl) h2)
    | false =>
      refine Eq.mpr (if_neg (by decide)) ?_
      refine sl1 ?_
      refine Eq.mpr (q_hd _ _ _ _) ⟨_, rfl, ?_⟩
      cases h3 : headIs ps w_in with
      | false =>
        refine Eq.mpr (if_neg (by decide)) ?_
        have e : spotF ps = none := by
          unfold spotF
          split
          · rw [if_neg fun z => z.elim (hd_no h1) (hd_no h2), if_neg (hd_no h3)]
          · rfl
        rw [e] at hk
        exact rt_pure rfl hk
      | true =>
        obtain ⟨r, rfl⟩ := hd_yes h3
        refine Eq.mpr (if_pos rfl) ?_
        refine sld (j := 1) ?_
        refine call_of (by simp only [pureAll, pu_ePts, Bool.and_self]) ⟨r, rfl, ?_⟩
        have hw : ¬ (w_in = w_folder ∨ w_in = w_outside) := by decide
        cases hn : numF r with
        | none =>
          refine Eq.mpr (if_neg (by show ¬ (!Pw.isNon D.non) = true; decide)) ?_
          have e : spotF (.wd w_in :: r) = none := by
            unfold spotF
            simp only [if_neg hw, if_true]
            unfold numF at hn
            split at hn
            · cases hn
            · rename_i hx
              split
              · rename_i m t r'
                exact absurd rfl (hx m (.qt t :: r'))
              · rfl
          rw [e] at hk
          exact rt_pure rfl hk
        | some q =>
          obtain ⟨d, n⟩ := q
          have : ∃ m r', r = .nm m :: r' := by
            unfold numF at hn
            split at hn
            · exact ⟨_, _, rfl⟩
            · cases hn
          obtain ⟨m, r', rfl⟩ := this
          refine Eq.mpr (if_pos (by rfl)) ?_
          refine ⟨_, _, rfl, L2.atI_nat (xs := (Pt.wd w_in :: .nm m :: r').map ePt) (j := 1) rfl, ?_⟩
          refine ixt (j := 1) rfl ?_
          refine rest 2 (.int m) rfl ?_
          have e : (Par.pathF ((Pt.wd w_in :: .nm m :: r').drop 2)).map (fun q => (D.tup [.int m, q.1], 2 + 1)) = spotF (.wd w_in :: .nm m :: r') := by
            unfold spotF Par.pathF
            simp only [if_neg hw, if_true, List.drop_succ_cons, List.drop_zero]
            cases r' with
            | nil => rfl
            | cons p r' =>
              cases p with
              | qt t =>
                simp only
                cases readP t <;> rfl
              | wd _ => rfl
              | nm _ => rfl
          rw [e]
          exact hk
theorem ok_form_spot {P : Program} {w : World} {K : PySem.W.Frag} {cl : Cl} {mg : Str → Option Value} {base : Heap} (D : Df K mg "form_spot" s_form_spot ["parts"]) (T : Txt K cl mg) (hw : cl.w = w) (G_form_number : C8.Cal P w K mg base 1 "form_number" (spP K cl F_form_number) []) (G_form_path : C8.Cal P w K mg base 3 "form_path" (spP K cl F_form_path) []) : C8.Cal P w K mg base 4 "form_spot" (spP K cl F_form_spot) [] := by
  subst hw
  refine D.cal sc_form_spot (spP_len (n := 1) len_form_spot) (fun f cdv  A outer s H vs Q E hr h => ?_)
  refine ⟨_,
    (pss_cons (ps_set (i := 1) sc_form_spot.nd rfl (.inl rfl) pe_int)
    (pss_cons (ps_if (PW.pt (pw_or (pt_cmpR (show OpR _ _ (rEqP K) from op_eqP hr.units) (pe_slice (show SlR _ (uSl K) from usl) (pv 0) po_none (po_some pe_int)) (pe_lst (pa_cons (pe_tup (pa_cons pe_str (pa_cons pe_str pa_nil))) pa_nil)) (nomark _)) (pw_or1 (pt_cmpR (show OpR _ _ (rEqP K) from op_eqP hr.units) (pe_slice (show SlR _ (uSl K) from usl) (pv 0) po_none (po_some pe_int)) (pe_lst (pa_cons (pe_tup (pa_cons pe_str (pa_cons pe_str pa_nil))) pa_nil)) (nomark _)))))
      (pss_one (ps_set (i := 2) sc_form_spot.nd rfl (.inl rfl) (pe_ix (show IxR _ (uIx K) from uix) (pe_ix (show IxR _ (uIx K) from uix) (pv 0) pe_int (fun _ _ => rfl)) pe_int (fun _ _ => rfl))))
      (pss_one (ps_if (PW.pt (pw_and (pt_cmpR (show OpR _ _ (rEqP K) from op_eqP hr.units) (pe_slice (show SlR _ (uSl K) from usl) (pv 0) po_none (po_some pe_int)) (pe_lst (pa_cons (pe_tup (pa_cons pe_str (pa_cons pe_str pa_nil))) pa_nil)) (nomark _)) (pw_and1 (pt_cmpR op_notN (C8.pe_c G_form_number hr (by decide) (by rfl) (pa_cons (pe_slice (show SlR _ (uSl K) from usl) (pv 0) (po_some pe_int) po_none) pa_nil)) pe_non (nomark _)))))
        (pss_cons (ps_set (i := 2) sc_form_spot.nd rfl (.inl rfl) (pe_ix (show IxR _ (uIx K) from uix) (pe_ix (show IxR _ (uIx K) from uix) (pv 0) pe_int (fun _ _ => rfl)) pe_int (fun _ _ => rfl)))
        (pss_one (ps_set (i := 1) sc_form_spot.nd rfl (.inl rfl) pe_int)))
        (pss_one (ps_ret pe_non)))))
    (pss_cons (ps_set (i := 3) sc_form_spot.nd rfl (.inl rfl) (C8.pe_c G_form_path hr (by decide) (by rfl) (pa_cons (pe_slice (show SlR _ (uSl K) from usl) (pv 0) (po_some (pv 1)) po_none) pa_nil)))
    (pss_cons (ps_if (pt_cmpR op_isN (pv 3) pe_non (nomark _))
      (pss_one (ps_ret pe_non))
      pss_nil)
    (pss_one (ps_ret (pe_tup (pa_cons (pe_tup (pa_cons (pv 2) (pa_cons (pe_ix (show IxR _ (uIx K) from uix) (pv 3) pe_int (fun _ _ => rfl)) pa_nil))) (pa_cons (pe_op (show OpR _ _ (uAdd K) from uop_add) (pv 1) pe_int) pa_nil))))))))), ?_⟩
  exact fn_ok (N := ["parts", "taken", "base", "read"]) (show SmS K cl _ ps_form_spot from
    (sm_seq (sm_asg sm_int sm_gname)
    (sm_seq (sm_ifS (sm_or (sm_test (sm_op smr_eq (sm_sl sm_var sm_noPart (sm_part sm_int)) (sm_lst (sm_cons (sm_tup (sm_cons sm_str (sm_cons sm_str sm_nil))) sm_nil)))) (sm_test (sm_op smr_eq (sm_sl sm_var sm_noPart (sm_part sm_int)) (sm_lst (sm_cons (sm_tup (sm_cons sm_str (sm_cons sm_str sm_nil))) sm_nil)))))
      ((sm_asg (sm_op smr_ix (sm_op smr_ix sm_var sm_int) sm_int) sm_gname))
      ((sm_ifS (sm_and (sm_test (sm_op smr_eq (sm_sl sm_var sm_noPart (sm_part sm_int)) (sm_lst (sm_cons (sm_tup (sm_cons sm_str (sm_cons sm_str sm_nil))) sm_nil)))) (sm_test (sm_op smr_ns (sm_call (sm_cons (sm_sl sm_var (sm_part sm_int) sm_noPart) sm_nil)) sm_non)))
        (sm_seq (sm_asg (sm_op smr_ix (sm_op smr_ix sm_var sm_int) sm_int) sm_gname)
        ((sm_asg sm_int sm_gname)))
        ((sm_ret sm_non)))))
    (sm_seq (sm_asg (sm_call (sm_cons (sm_sl sm_var (sm_part sm_var) sm_noPart) sm_nil)) sm_gname)
    (sm_seq (sm_ifS (sm_test (sm_op smr_is sm_var sm_non))
      ((sm_ret sm_non))
      sm_next)
    ((sm_ret (sm_tup (sm_cons (sm_tup (sm_cons sm_var (sm_cons (sm_op smr_ix sm_var sm_int) sm_nil))) (sm_cons (sm_op smr_add sm_var sm_int) sm_nil)))))))))) body_form_spot h
def ps_form_target : PSx :=
    (pSeq (pIfS (pB (pOp nek (pSl (pVar 0) pNoPart (pPart (pC (.int 1)))) (pLst (pCons (pTup (pCons (pC (.str (Str.ofString "word"))) (pCons (pC (.str (Str.ofString "thing"))) pNil))) pNil))))
      ((pRet (pCall F_form_spot (pCons (pVar 0) pNil))))
      pNext)
    (pSeq (pAsg (pCall F_form_number (pCons (pSl (pVar 0) (pPart (pC (.int 1))) pNoPart) pNil)) (pgName 1))
    (pSeq (pIfS (pB (pOp isk (pVar 1) (pC .non)))
      ((pRet (pC .non)))
      pNext)
    ((pRet (pTup (pCons (pOp ixk (pVar 1) (pC (.int 0))) (pCons (pC (.int 2)) pNil))))))))
theorem start_form_target : ∀ a0 : D, startE 2 [a0] = [some a0, none] := fun _ => rfl
def F_form_target : PFn := fun ds k => ∃ ps : List Pt, ds = [ePts ps] ∧ SmPts ps ∧ k (oF (targetF ps))
theorem len_form_target : ∀ ds k, F_form_target ds k → ds.length = 1 := by
  rintro _ _ ⟨_, rfl, _⟩
  rfl
theorem pu_oF {f : Fm} {ps : List Pt} {d : D} {n : Nat} (h : formF f ps = some (d, n)) : d.pure = true := by
  have hpath : ∀ ps d n, Par.pathF ps = some (d, n) → d.pure = true := fun ps d n h => by
    unfold Par.pathF at h
    split at h
    · obtain ⟨p, _, e⟩ := Option.map_eq_some_iff.mp h
      cases e
      exact pu_dP p
    · cases h
  have hspot : ∀ ps d n, spotF ps = some (d, n) → d.pure = true := fun ps d n h => by
    rcases spot_cases h with ⟨w, t, p, r, hw, rfl, hp, rfl, rfl⟩ | ⟨m, t, p, r, rfl, hp, rfl, rfl⟩
    · simp only [D.pure, pureAll, pu_dP, Bool.and_self, dS]
    · simp only [D.pure, pureAll, pu_dP, Bool.and_self]
  cases f with
  | number =>
    have h : numF ps = some (d, n) := h
    unfold numF at h
    split at h
    · cases h; rfl
    · cases h
  | text =>
    have h : textF ps = some (d, n) := h
    unfold textF at h
    split at h
    · cases h; rfl
    · cases h
  | path => exact hpath ps d n h
  | runs =>
    have h : runsF ps = some (d, n) := h
    unfold runsF at h
    split at h
    · split at h
      · cases h; rfl
      · split at h
        · cases h; rfl
        · cases h
    · cases h
  | spot => exact hspot ps d n h
  | target =>
    rcases target_cases h with ⟨m, r, rfl, rfl, rfl⟩ | ⟨h1, _⟩
    · rfl
    · exact hspot ps d n h1
theorem pu_oFF (f : Fm) (ps : List Pt) : (oF (formF f ps)).pure = true := by
  cases h : formF f ps with
  | none => rfl
  | some q =>
    obtain ⟨d, n⟩ := q
    show (d.pure && true) = true
    rw [pu_oF h]
    rfl
theorem body_form_target : ∀ ds k, F_form_target ds k → ps_form_target { nx := fun _ _ => k .non, rt := fun d S => (d.frz S).noRef = true ∧ k (d.frz S) } (startE 2 ds) [] := by
  rintro _ k ⟨ps, rfl, hs, hk⟩
  rw [start_form_target]
  unfold ps_form_target
  simp only [pForD, pInsL, pExtA, pSeq, pAsg, pVar, pC, pOp, pNil, pCons, pTup, pLst, pLstM, pNot, pAndV, pOrV, pIf, pB, pAnd, pOr, pNotT, pNoPart, pPart, pCB, pUnN, pSl, pNext, pBreak, pCont, pRet, pRetN, pDrop, pIfS, pgName, pgNil, pgCons, pgTup_t, pAug, pApp, pYes, isk_non, nsk_non, isN_non, isN_bl, isN_int, isN_str, isN_tup, isN_lst, isN_ref, isN_obj, pTru, pFld, pStar, pMake, pSetF, pIt, pRng1, pRng2, forG, List.map_cons, List.map_nil, List.getElem?_cons_zero, List.getElem?_cons_succ, List.set_cons_zero, List.set_cons_succ, Option.some.injEq, exists_eq_left, exists_eq_left', true_and, and_true, wipeE, D.bl.injEq, D.int.injEq, D.str.injEq, D.tup.injEq, D.lst.injEq, Bool.not_true, decide_eq_true_eq, if_true, if_false, reduceIte, Bool.false_eq_true, Option.isNone_none, Option.isNone_some, Bool.not_false, List.length_nil, List.length_cons, List.nil_append, List.cons_append, D.ref.injEq, SO.lst.injEq, pCall, exists_const, and_self, Nat.zero_add, Nat.zero_le, Nat.reduceLeDiff, Nat.reduceAdd, eq_self, o_add, o_sub, o_mul, o_div, o_mod, o_cmp, o_int, o_lenl, o_lent, o_lens, o_tupl, o_tupt, o_min, o_max, q_int, ixk_tup, ixk_lst, ixk_scr, at0, at1, at2, at3, at4, at5, List.length_map, e_thing]
  refine sl1 ?_
  refine Eq.mpr (n_hd _ _ _ _) ⟨_, rfl, ?_⟩
  cases h1 : headIs ps w_thing with
  | false =>
    refine Eq.mpr (if_pos rfl) ?_
    refine call_of (by simp only [pureAll, pu_ePts, Bool.and_self]) ⟨ps, rfl, hs, ?_⟩
    have e : targetF ps = spotF ps := by
      unfold targetF
      split
      · rw [if_neg (hd_no h1)]
      · unfold spotF
        split
        · rename_i w r hx
          exact absurd rfl (hx w r)
        · rfl
    rw [e] at hk
    exact rt_pure (pu_oFF .spot ps) hk
  | true =>
    obtain ⟨r, rfl⟩ := hd_yes h1
    refine Eq.mpr (if_neg (by decide)) ?_
    refine sld (j := 1) ?_
    refine call_of (by simp only [pureAll, pu_ePts, Bool.and_self]) ⟨r, rfl, ?_⟩
    cases hn : numF r with
    | none =>
      have e : targetF (.wd w_thing :: r) = none := by
        unfold targetF
        simp only [if_true]
        split
        · rename_i m r'
          cases hn
        · rfl
      rw [e] at hk
      simp only [pForD, pInsL, pExtA, pSeq, pAsg, pVar, pC, pOp, pNil, pCons, pTup, pLst, pLstM, pNot, pAndV, pOrV, pIf, pB, pAnd, pOr, pNotT, pNoPart, pPart, pCB, pUnN, pSl, pNext, pBreak, pCont, pRet, pRetN, pDrop, pIfS, pgName, pgNil, pgCons, pgTup_t, pAug, pApp, pYes, isk_non, nsk_non, isN_non, isN_bl, isN_int, isN_str, isN_tup, isN_lst, isN_ref, isN_obj, pTru, pFld, pStar, pMake, pSetF, pIt, pRng1, pRng2, forG, List.map_cons, List.map_nil, List.getElem?_cons_zero, List.getElem?_cons_succ, List.set_cons_zero, List.set_cons_succ, Option.some.injEq, exists_eq_left, exists_eq_left', true_and, and_true, wipeE, D.bl.injEq, D.int.injEq, D.str.injEq, D.tup.injEq, D.lst.injEq, Bool.not_true, decide_eq_true_eq, if_true, if_false, reduceIte, Bool.false_eq_true, Option.isNone_none, Option.isNone_some, Bool.not_false, List.length_nil, List.length_cons, List.nil_append, List.cons_append, D.ref.injEq, SO.lst.injEq, pCall, exists_const, and_self, Nat.zero_add, Nat.zero_le, Nat.reduceLeDiff, Nat.reduceAdd, eq_self, o_add, o_sub, o_mul, o_div, o_mod, o_cmp, o_int, o_lenl, o_lent, o_lens, o_tupl, o_tupt, o_min, o_max, q_int, ixk_tup, ixk_lst, ixk_scr, at0, at1, at2, at3, at4, at5, List.length_map, oF]
      exact rt_pure rfl hk
    | some q =>
      obtain ⟨d, n⟩ := q
      have : ∃ m r', r = .nm m :: r' ∧ d = .int m := by
        unfold numF at hn
        split at hn
        · cases hn
          exact ⟨_, _, rfl, rfl⟩
        · cases hn
      obtain ⟨m, r', rfl, rfl⟩ := this
      simp only [pForD, pInsL, pExtA, pSeq, pAsg, pVar, pC, pOp, pNil, pCons, pTup, pLst, pLstM, pNot, pAndV, pOrV, pIf, pB, pAnd, pOr, pNotT, pNoPart, pPart, pCB, pUnN, pSl, pNext, pBreak, pCont, pRet, pRetN, pDrop, pIfS, pgName, pgNil, pgCons, pgTup_t, pAug, pApp, pYes, isk_non, nsk_non, isN_non, isN_bl, isN_int, isN_str, isN_tup, isN_lst, isN_ref, isN_obj, pTru, pFld, pStar, pMake, pSetF, pIt, pRng1, pRng2, forG, List.map_cons, List.map_nil, List.getElem?_cons_zero, List.getElem?_cons_succ, List.set_cons_zero, List.set_cons_succ, Option.some.injEq, exists_eq_left, exists_eq_left', true_and, and_true, wipeE, D.bl.injEq, D.int.injEq, D.str.injEq, D.tup.injEq, D.lst.injEq, Bool.not_true, decide_eq_true_eq, if_true, if_false, reduceIte, Bool.false_eq_true, Option.isNone_none, Option.isNone_some, Bool.not_false, List.length_nil, List.length_cons, List.nil_append, List.cons_append, D.ref.injEq, SO.lst.injEq, pCall, exists_const, and_self, Nat.zero_add, Nat.zero_le, Nat.reduceLeDiff, Nat.reduceAdd, eq_self, o_add, o_sub, o_mul, o_div, o_mod, o_cmp, o_int, o_lenl, o_lent, o_lens, o_tupl, o_tupt, o_min, o_max, q_int, ixk_tup, ixk_lst, ixk_scr, at0, at1, at2, at3, at4, at5, List.length_map, oF]
      rw [target1] at hk
      exact rt_pure rfl hk
theorem ok_form_target {P : Program} {w : World} {K : PySem.W.Frag} {cl : Cl} {mg : Str → Option Value} {base : Heap} (D : Df K mg "form_target" s_form_target ["parts"]) (T : Txt K cl mg) (hw : cl.w = w) (G_form_number : C8.Cal P w K mg base 1 "form_number" (spP K cl F_form_number) []) (G_form_spot : C8.Cal P w K mg base 4 "form_spot" (spP K cl F_form_spot) []) : C8.Cal P w K mg base 5 "form_target" (spP K cl F_form_target) [] := by
  subst hw
  refine D.cal sc_form_target (spP_len (n := 1) len_form_target) (fun f cdv  A outer s H vs Q E hr h => ?_)
  refine ⟨_,
    (pss_cons (ps_if (pt_cmpR (show OpR _ _ (rNeP K) from op_neP hr.units) (pe_slice (show SlR _ (uSl K) from usl) (pv 0) po_none (po_some pe_int)) (pe_lst (pa_cons (pe_tup (pa_cons pe_str (pa_cons pe_str pa_nil))) pa_nil)) (nomark _))
      (pss_one (ps_ret (C8.pe_c G_form_spot hr (by decide) (by rfl) (pa_cons (pv 0) pa_nil))))
      pss_nil)
    (pss_cons (ps_set (i := 1) sc_form_target.nd rfl (.inl rfl) (C8.pe_c G_form_number hr (by decide) (by rfl) (pa_cons (pe_slice (show SlR _ (uSl K) from usl) (pv 0) (po_some pe_int) po_none) pa_nil)))
    (pss_cons (ps_if (pt_cmpR op_isN (pv 1) pe_non (nomark _))
      (pss_one (ps_ret pe_non))
      pss_nil)
    (pss_one (ps_ret (pe_tup (pa_cons (pe_ix (show IxR _ (uIx K) from uix) (pv 1) pe_int (fun _ _ => rfl)) (pa_cons pe_int pa_nil)))))))), ?_⟩
  exact fn_ok (N := ["parts", "read"]) (show SmS K cl _ ps_form_target from
    (sm_seq (sm_ifS (sm_test (sm_op smr_ne (sm_sl sm_var sm_noPart (sm_part sm_int)) (sm_lst (sm_cons (sm_tup (sm_cons sm_str (sm_cons sm_str sm_nil))) sm_nil))))
      ((sm_ret (sm_call (sm_cons sm_var sm_nil))))
      sm_next)
    (sm_seq (sm_asg (sm_call (sm_cons (sm_sl sm_var (sm_part sm_int) sm_noPart) sm_nil)) sm_gname)
    (sm_seq (sm_ifS (sm_test (sm_op smr_is sm_var sm_non))
      ((sm_ret sm_non))
      sm_next)
    ((sm_ret (sm_tup (sm_cons (sm_op smr_ix sm_var sm_int) (sm_cons sm_int sm_nil))))))))) body_form_target h
def pl_read_forms_1 : PSx :=
      (pSeq (pTabC [(Str.ofString "number", F_form_number), (Str.ofString "text", F_form_text), (Str.ofString "path", F_form_path), (Str.ofString "runs", F_form_runs), (Str.ofString "spot", F_form_spot), (Str.ofString "target", F_form_target)] 4 5 (pVar 3) (pCons (pVar 1) pNil))
      (pSeq (pIfS (pB (pOp isk (pVar 5) (pC .non)))
        ((pRet (pC .non)))
        pNext)
      (pSeq (pApp (pVar 2) (pOp ixk (pVar 5) (pC (.int 0))))
      ((pAsg (pSl (pVar 1) (pPart (pOp ixk (pVar 5) (pC (.int 1)))) pNoPart) (pgName 1))))))
theorem pl_read_forms_1_d (P : PEnds) (env : Pw.Env) (S : Sto) : pl_read_forms_1 P env S = (
      (pSeq (pTabC [(Str.ofString "number", F_form_number), (Str.ofString "text", F_form_text), (Str.ofString "path", F_form_path), (Str.ofString "runs", F_form_runs), (Str.ofString "spot", F_form_spot), (Str.ofString "target", F_form_target)] 4 5 (pVar 3) (pCons (pVar 1) pNil))
      (pSeq (pIfS (pB (pOp isk (pVar 5) (pC .non)))
        ((pRet (pC .non)))
        pNext)
      (pSeq (pApp (pVar 2) (pOp ixk (pVar 5) (pC (.int 0))))
      ((pAsg (pSl (pVar 1) (pPart (pOp ixk (pVar 5) (pC (.int 1)))) pNoPart) (pgName 1))))))) P env S := rfl
def ps_read_forms : PSx :=
    (pSeq (pAsg (pLstM pNil) (pgName 2))
    (pSeq (pFor (pIt (pVar 0)) (pgName 3) pl_read_forms_1)
    (pSeq (pIfS (pB (pOp nek (pVar 1) (pLst pNil)))
      ((pRet (pC .non)))
      pNext)
    ((pRet (pCB tupk (pCons (pVar 2) pNil)))))))
theorem start_read_forms : ∀ a0 a1 : D, startE 6 [a0, a1] = [some a0, some a1, none, none, none, none] := fun _ _ => rfl
def fmS : Fm → Str
  | .number => Str.ofString "number"
  | .text => Str.ofString "text"
  | .path => Str.ofString "path"
  | .runs => Str.ofString "runs"
  | .spot => Str.ofString "spot"
  | .target => Str.ofString "target"
def eFms (fs : List Fm) : D := .tup (fs.map fun f => .str (fmS f))
def oT (o : Option (List D)) : D := match o with
  | none => .non
  | some ds => .tup ds
def F_read_forms : PFn := fun ds k => ∃ (fs : List Fm) (ps : List Pt), ds = [eFms fs, ePts ps] ∧ SmPts ps ∧ fs.length ≤ 10 ∧ k (oT (formsF fs ps))
theorem len_read_forms : ∀ ds k, F_read_forms ds k → ds.length = 2 := by
  rintro _ _ ⟨_, _, rfl, _⟩
  rfl
def runF : List Fm → List Pt → Option (List D × List Pt)
  | [], ps => some ([], ps)
  | f :: fs, ps => match formF f ps with
    | none => none
    | some (d, n) => (runF fs (ps.drop n)).map fun q => (d :: q.1, q.2)
theorem forms_run : ∀ (fs : List Fm) (ps : List Pt), formsF fs ps = (runF fs ps).bind fun q => if q.2 = [] then some q.1 else none
  | [], [] => rfl
  | [], _ :: _ => rfl
  | f :: fs, ps => by
    unfold formsF runF
    cases formF f ps with
    | none => rfl
    | some q =>
      obtain ⟨d, n⟩ := q
      simp only
      rw [forms_run fs (ps.drop n)]
      cases runF fs (ps.drop n) with
      | none => rfl
      | some q =>
        obtain ⟨ds, r⟩ := q
        show (if r = [] then some ds else none).map (d :: ·) = if r = [] then some (d :: ds) else none
        by_cases c : r = []
        · rw [if_pos c, if_pos c]
          rfl
        · rw [if_neg c, if_neg c]
          rfl
def fnT : List (Str × PFn) := [(Str.ofString "number", F_form_number), (Str.ofString "text", F_form_text), (Str.ofString "path", F_form_path), (Str.ofString "runs", F_form_runs), (Str.ofString "spot", F_form_spot), (Str.ofString "target", F_form_target)]
theorem tab_hit {T : Type} (z : Str) (d : T) (t : List (Str × T)) : tabAt ((z, d) :: t) z = some d := by
  unfold tabAt
  rw [List.find?_cons_of_pos (by simp)]
  rfl
theorem tab_miss {T : Type} {z z' : Str} (h : z' ≠ z) (d : T) (t : List (Str × T)) : tabAt ((z', d) :: t) z = tabAt t z := by
  unfold tabAt
  rw [List.find?_cons_of_neg (by simpa using h)]
theorem fn_at (f : Fm) {ps : List Pt} (hs : SmPts ps) : ∃ F, tabAt fnT (fmS f) = some F ∧ ∀ k : D → Prop, k (oF (formF f ps)) → F [ePts ps] k := by
  unfold fnT
  cases f with
  | number =>
    refine ⟨F_form_number, ?_, fun k h => ⟨ps, rfl, h⟩⟩
    show tabAt _ (Str.ofString "number") = _
    rw [tab_hit]
  | text =>
    refine ⟨F_form_text, ?_, fun k h => ⟨ps, rfl, h⟩⟩
    show tabAt _ (Str.ofString "text") = _
    rw [tab_miss (by decide +kernel), tab_hit]
  | path =>
    refine ⟨F_form_path, ?_, fun k h => ⟨ps, rfl, hs, h⟩⟩
    show tabAt _ (Str.ofString "path") = _
    rw [tab_miss (by decide +kernel), tab_miss (by decide +kernel), tab_hit]
  | runs =>
    refine ⟨F_form_runs, ?_, fun k h => ⟨ps, rfl, h⟩⟩
    show tabAt _ (Str.ofString "runs") = _
    rw [tab_miss (by decide +kernel), tab_miss (by decide +kernel), tab_miss (by decide +kernel), tab_hit]
  | spot =>
    refine ⟨F_form_spot, ?_, fun k h => ⟨ps, rfl, hs, h⟩⟩
    show tabAt _ (Str.ofString "spot") = _
    rw [tab_miss (by decide +kernel), tab_miss (by decide +kernel), tab_miss (by decide +kernel), tab_miss (by decide +kernel), tab_hit]
  | target =>
    refine ⟨F_form_target, ?_, fun k h => ⟨ps, rfl, hs, h⟩⟩
    show tabAt _ (Str.ofString "target") = _
    rw [tab_miss (by decide +kernel), tab_miss (by decide +kernel), tab_miss (by decide +kernel), tab_miss (by decide +kernel), tab_miss (by decide +kernel), tab_hit]
theorem loop_read_forms (c0 : Option D) (P : PEnds) : ∀ (fs : List Fm) (ps : List Pt) (acc : List D) (x3 x4 x5 : Option D), SmPts ps → acc.length + fs.length ≤ 1000 →
    (∀ ds r, runF fs ps = some (ds, r) → ∀ x3 x4 x5, P.nx [c0, some (ePts r), some (.ref 0), x3, x4, x5] [.lst (acc ++ ds)]) → (runF fs ps = none → ∀ S, P.rt .non S) →
    forG (pgName 3) pl_read_forms_1 P (fs.map fun f => D.str (fmS f)) [c0, some (ePts ps), some (.ref 0), x3, x4, x5] [.lst acc] := by
  intro fs
  induction fs with
  | nil =>
    intro ps acc x3 x4 x5 _ _ h _
    have := h [] ps rfl x3 x4 x5
    rw [List.append_nil] at this
    exact this
  | cons f fs ih =>
    intro ps acc x3 x4 x5 hs hl h1 h2
    obtain ⟨F, hF, hc⟩ := fn_at f hs
    rw [List.length_cons] at hl
    show pgName 3 (D.str (fmS f)) _ _ _
    simp only [pForD, pInsL, pExtA, pSeq, pAsg, pVar, pC, pOp, pNil, pCons, pTup, pLst, pLstM, pNot, pAndV, pOrV, pIf, pB, pAnd, pOr, pNotT, pNoPart, pPart, pCB, pUnN, pSl, pNext, pBreak, pCont, pRet, pRetN, pDrop, pIfS, pgName, pgNil, pgCons, pgTup_t, pAug, pApp, pYes, isk_non, nsk_non, isN_non, isN_bl, isN_int, isN_str, isN_tup, isN_lst, isN_ref, isN_obj, pTru, pFld, pStar, pMake, pSetF, pIt, pRng1, pRng2, forG, List.map_cons, List.map_nil, List.getElem?_cons_zero, List.getElem?_cons_succ, List.set_cons_zero, List.set_cons_succ, Option.some.injEq, exists_eq_left, exists_eq_left', true_and, and_true, wipeE, D.bl.injEq, D.int.injEq, D.str.injEq, D.tup.injEq, D.lst.injEq, Bool.not_true, decide_eq_true_eq, if_true, if_false, reduceIte, Bool.false_eq_true, Option.isNone_none, Option.isNone_some, Bool.not_false, List.length_nil, List.length_cons, List.nil_append, List.cons_append, D.ref.injEq, SO.lst.injEq, pCall, exists_const, and_self, Nat.zero_add, Nat.zero_le, Nat.reduceLeDiff, Nat.reduceAdd, eq_self, o_add, o_sub, o_mul, o_div, o_mod, o_cmp, o_int, o_lenl, o_lent, o_lens, o_tupl, o_tupt, o_min, o_max, q_int, ixk_tup, ixk_lst, ixk_scr, at0, at1, at2, at3, at4, at5, List.length_map, pl_read_forms_1_d, pTabC]
    refine ⟨_, F, rfl, hF, by show 4 < 6; decide, call_of (by simp only [pureAll, pu_ePts, Bool.and_self]) (hc _ ?_)⟩
    unfold runF at h1 h2
    cases hq : formF f ps with
    | none =>
      rw [hq] at h2
      simp only [pForD, pInsL, pExtA, pSeq, pAsg, pVar, pC, pOp, pNil, pCons, pTup, pLst, pLstM, pNot, pAndV, pOrV, pIf, pB, pAnd, pOr, pNotT, pNoPart, pPart, pCB, pUnN, pSl, pNext, pBreak, pCont, pRet, pRetN, pDrop, pIfS, pgName, pgNil, pgCons, pgTup_t, pAug, pApp, pYes, isk_non, nsk_non, isN_non, isN_bl, isN_int, isN_str, isN_tup, isN_lst, isN_ref, isN_obj, pTru, pFld, pStar, pMake, pSetF, pIt, pRng1, pRng2, forG, List.map_cons, List.map_nil, List.getElem?_cons_zero, List.getElem?_cons_succ, List.set_cons_zero, List.set_cons_succ, Option.some.injEq, exists_eq_left, exists_eq_left', true_and, and_true, wipeE, D.bl.injEq, D.int.injEq, D.str.injEq, D.tup.injEq, D.lst.injEq, Bool.not_true, decide_eq_true_eq, if_true, if_false, reduceIte, Bool.false_eq_true, Option.isNone_none, Option.isNone_some, Bool.not_false, List.length_nil, List.length_cons, List.nil_append, List.cons_append, D.ref.injEq, SO.lst.injEq, pCall, exists_const, and_self, Nat.zero_add, Nat.zero_le, Nat.reduceLeDiff, Nat.reduceAdd, eq_self, o_add, o_sub, o_mul, o_div, o_mod, o_cmp, o_int, o_lenl, o_lent, o_lens, o_tupl, o_tupt, o_min, o_max, q_int, ixk_tup, ixk_lst, ixk_scr, at0, at1, at2, at3, at4, at5, List.length_map, oF]
      exact h2 rfl _
    | some q =>
      obtain ⟨d, n⟩ := q
      rw [hq] at h1 h2
      simp only at h1 h2
      simp only [pForD, pInsL, pExtA, pSeq, pAsg, pVar, pC, pOp, pNil, pCons, pTup, pLst, pLstM, pNot, pAndV, pOrV, pIf, pB, pAnd, pOr, pNotT, pNoPart, pPart, pCB, pUnN, pSl, pNext, pBreak, pCont, pRet, pRetN, pDrop, pIfS, pgName, pgNil, pgCons, pgTup_t, pAug, pApp, pYes, isk_non, nsk_non, isN_non, isN_bl, isN_int, isN_str, isN_tup, isN_lst, isN_ref, isN_obj, pTru, pFld, pStar, pMake, pSetF, pIt, pRng1, pRng2, forG, List.map_cons, List.map_nil, List.getElem?_cons_zero, List.getElem?_cons_succ, List.set_cons_zero, List.set_cons_succ, Option.some.injEq, exists_eq_left, exists_eq_left', true_and, and_true, wipeE, D.bl.injEq, D.int.injEq, D.str.injEq, D.tup.injEq, D.lst.injEq, Bool.not_true, decide_eq_true_eq, if_true, if_false, reduceIte, Bool.false_eq_true, Option.isNone_none, Option.isNone_some, Bool.not_false, List.length_nil, List.length_cons, List.nil_append, List.cons_append, D.ref.injEq, SO.lst.injEq, pCall, exists_const, and_self, Nat.zero_add, Nat.zero_le, Nat.reduceLeDiff, Nat.reduceAdd, eq_self, o_add, o_sub, o_mul, o_div, o_mod, o_cmp, o_int, o_lenl, o_lent, o_lens, o_tupl, o_tupt, o_min, o_max, q_int, ixk_tup, ixk_lst, ixk_scr, at0, at1, at2, at3, at4, at5, List.length_map, oF]
      refine ⟨by omega, ?_⟩
      refine sld ?_
      refine ih (ps.drop n) (acc ++ [d]) _ _ _ (hs.drop n) (by rw [List.length_append, List.length_singleton]; omega) (fun ds r hr x3 x4 x5 => ?_) (fun hr S => ?_)
      · have := h1 (d :: ds) r (by rw [hr]; rfl) x3 x4 x5
        rw [List.append_assoc]
        exact this
      · exact h2 (by rw [hr]; rfl) S
theorem run_pure : ∀ (fs : List Fm) (ps : List Pt) (ds : List D) (r : List Pt), runF fs ps = some (ds, r) → pureAll ds = true
  | [], ps, ds, r, h => by cases h; rfl
  | f :: fs, ps, ds, r, h => by
    unfold runF at h
    split at h
    · cases h
    · rename_i d n hf
      obtain ⟨q, hq, e⟩ := Option.map_eq_some_iff.mp h
      cases e
      rw [pureAll, pu_oF hf, run_pure fs _ q.1 q.2 hq]
      rfl
theorem body_read_forms : ∀ ds k, F_read_forms ds k → ps_read_forms { nx := fun _ _ => k .non, rt := fun d S => (d.frz S).noRef = true ∧ k (d.frz S) } (startE 6 ds) [] := by
  rintro _ k ⟨fs, ps, rfl, hs, hfl, hk⟩
  rw [start_read_forms]
  unfold ps_read_forms
  rw [forms_run] at hk
  simp only [pForD, pInsL, pExtA, pSeq, pAsg, pVar, pC, pOp, pNil, pCons, pTup, pLst, pLstM, pNot, pAndV, pOrV, pIf, pB, pAnd, pOr, pNotT, pNoPart, pPart, pCB, pUnN, pSl, pNext, pBreak, pCont, pRet, pRetN, pDrop, pIfS, pgName, pgNil, pgCons, pgTup_t, pAug, pApp, pYes, isk_non, nsk_non, isN_non, isN_bl, isN_int, isN_str, isN_tup, isN_lst, isN_ref, isN_obj, pTru, pFld, pStar, pMake, pSetF, pIt, pRng1, pRng2, forG, List.map_cons, List.map_nil, List.getElem?_cons_zero, List.getElem?_cons_succ, List.set_cons_zero, List.set_cons_succ, Option.some.injEq, exists_eq_left, exists_eq_left', true_and, and_true, wipeE, D.bl.injEq, D.int.injEq, D.str.injEq, D.tup.injEq, D.lst.injEq, Bool.not_true, decide_eq_true_eq, if_true, if_false, reduceIte, Bool.false_eq_true, Option.isNone_none, Option.isNone_some, Bool.not_false, List.length_nil, List.length_cons, List.nil_append, List.cons_append, D.ref.injEq, SO.lst.injEq, pCall, exists_const, and_self, Nat.zero_add, Nat.zero_le, Nat.reduceLeDiff, Nat.reduceAdd, eq_self, o_add, o_sub, o_mul, o_div, o_mod, o_cmp, o_int, o_lenl, o_lent, o_lens, o_tupl, o_tupt, o_min, o_max, q_int, ixk_tup, ixk_lst, ixk_scr, at0, at1, at2, at3, at4, at5, List.length_map]
  refine for_go (src := eFms fs) (ds := fs.map fun f => D.str (fmS f)) (fun kk h => ⟨_, rfl, _, rfl, h⟩) (fun S => rfl) ?_
  refine loop_read_forms _ _ fs ps [] _ _ _ hs (by rw [List.length_nil]; omega) (fun ds r hr x3 x4 x5 => ?_) (fun hr S => ?_)
  · rw [hr] at hk
    simp only [pForD, pInsL, pExtA, pSeq, pAsg, pVar, pC, pOp, pNil, pCons, pTup, pLst, pLstM, pNot, pAndV, pOrV, pIf, pB, pAnd, pOr, pNotT, pNoPart, pPart, pCB, pUnN, pSl, pNext, pBreak, pCont, pRet, pRetN, pDrop, pIfS, pgName, pgNil, pgCons, pgTup_t, pAug, pApp, pYes, isk_non, nsk_non, isN_non, isN_bl, isN_int, isN_str, isN_tup, isN_lst, isN_ref, isN_obj, pTru, pFld, pStar, pMake, pSetF, pIt, pRng1, pRng2, forG, List.map_cons, List.map_nil, List.getElem?_cons_zero, List.getElem?_cons_succ, List.set_cons_zero, List.set_cons_succ, Option.some.injEq, exists_eq_left, exists_eq_left', true_and, and_true, wipeE, D.bl.injEq, D.int.injEq, D.str.injEq, D.tup.injEq, D.lst.injEq, Bool.not_true, decide_eq_true_eq, if_true, if_false, reduceIte, Bool.false_eq_true, Option.isNone_none, Option.isNone_some, Bool.not_false, List.length_nil, List.length_cons, List.nil_append, List.cons_append, D.ref.injEq, SO.lst.injEq, pCall, exists_const, and_self, Nat.zero_add, Nat.zero_le, Nat.reduceLeDiff, Nat.reduceAdd, eq_self, o_add, o_sub, o_mul, o_div, o_mod, o_cmp, o_int, o_lenl, o_lent, o_lens, o_tupl, o_tupt, o_min, o_max, q_int, ixk_tup, ixk_lst, ixk_scr, at0, at1, at2, at3, at4, at5, List.length_map, n_nil]
    by_cases c : r = []
    · refine Eq.mpr (if_neg (by simp [c])) ?_
      have hk : k (oT (if r = [] then some ds else none)) := hk
      rw [if_pos c] at hk
      refine ⟨_, rfl, ?_⟩
      exact rt_pure (run_pure fs ps ds r hr) hk
    · refine Eq.mpr (if_pos (by simp [c])) ?_
      have hk : k (oT (if r = [] then some ds else none)) := hk
      rw [if_neg c] at hk
      exact rt_pure rfl hk
  · rw [hr] at hk
    exact rt_pure rfl hk
theorem ok_read_forms {P : Program} {w : World} {K : PySem.W.Frag} {cl : Cl} {mg : Str → Option Value} {base : Heap} (D : Df K mg "read_forms" s_read_forms ["forms", "parts"]) (T : Txt K cl mg) (hw : cl.w = w) (G_form_number : C8.Cal P w K mg base 1 "form_number" (spP K cl F_form_number) []) (G_form_text : C8.Cal P w K mg base 1 "form_text" (spP K cl F_form_text) []) (G_form_path : C8.Cal P w K mg base 3 "form_path" (spP K cl F_form_path) []) (G_form_runs : C8.Cal P w K mg base 1 "form_runs" (spP K cl F_form_runs) []) (G_form_spot : C8.Cal P w K mg base 4 "form_spot" (spP K cl F_form_spot) []) (G_form_target : C8.Cal P w K mg base 5 "form_target" (spP K cl F_form_target) []) : C8.Cal P w K mg base 6 "read_forms" (spP K cl F_read_forms) [] := by
  subst hw
  refine D.cal sc_read_forms (spP_len (n := 2) len_read_forms) (fun f cdv  A outer s H vs Q E hr h => ?_)
  refine ⟨_,
    (pss_cons (ps_set (i := 2) sc_read_forms.nd rfl (.inl rfl) (pe_lst pa_nil))
    (pss_cons (ps_for PassesOwn.never rfl (show PI _ _ _ (uIt K _) from upi (pv 0)) (pg_name (i := 3) sc_read_forms.nd rfl (Or.inl rfl))
      (pss_cons (ps_set (i := 4) sc_read_forms.nd rfl (.inl rfl) (pe_kix hr.units (by rfl) T.tf_FORMS (pv 3) (fun _ _ => rfl)))
      (pss_cons (ps_set (i := 5) sc_read_forms.nd rfl (.inl rfl) (pe_callH (i := 4) (j := 5) hr (by decide) (by rfl) (by first | exact Or.inl rfl | exact Or.inr (Or.inl rfl) | exact Or.inr (Or.inr rfl)) (pa_cons (pv 1) pa_nil)))
      (pss_cons (ps_if (pt_cmpR op_isN (pv 5) pe_non (nomark _))
        (pss_one (ps_ret pe_non))
        pss_nil)
      (pss_cons (ps_expr (pe_bm PySem.F.plainAttrs_list PySem.F.slot_list_append PySem.F.type_list_append mt_append (pv 2) (pa_cons (pe_ix (show IxR _ (uIx K) from uix) (pv 5) pe_int (fun _ _ => rfl)) pa_nil)))
      (pss_one (ps_set (i := 1) sc_read_forms.nd rfl (.inl rfl) (pe_slice (show SlR _ (uSl K) from usl) (pv 1) (po_some (pe_ix (show IxR _ (uIx K) from uix) (pv 5) pe_int (fun _ _ => rfl))) po_none))))))))
    (pss_cons (ps_if (pt_cmpR (show OpR _ _ (rNeP K) from op_neP hr.units) (pv 1) (pe_lst pa_nil) (nomark _))
      (pss_one (ps_ret pe_non))
      pss_nil)
    (pss_one (ps_ret (pe_callTy (show CallR _ (.type "tuple") (uTup K) from call_tuple_of) (by rfl) T.n_tuple (by decide +kernel) (pa_cons (pv 2) pa_nil))))))), ?_⟩
  exact fn_ok (N := ["forms", "parts", "things", "form", "action", "read"]) (show SmS K cl _ ps_read_forms from
    (sm_seq (sm_asg (sm_lstM sm_nil) sm_gname)
    (sm_seq (sm_for (sm_it sm_var) sm_gname
      (sm_tabF (.cons G_form_number (by decide) (.cons G_form_text (by decide) (.cons G_form_path (by decide) (.cons G_form_runs (by decide) (.cons G_form_spot (by decide) (.cons G_form_target (by decide) .nil)))))) sm_var (sm_cons sm_var sm_nil)
      (sm_seq (sm_ifS (sm_test (sm_op smr_is sm_var sm_non))
        ((sm_ret sm_non))
        sm_next)
      (sm_seq (sm_app sm_var (sm_op smr_ix sm_var sm_int))
      ((sm_asg (sm_sl sm_var (sm_part (sm_op smr_ix sm_var sm_int)) sm_noPart) sm_gname))))))
    (sm_seq (sm_ifS (sm_test (sm_op smr_ne sm_var (sm_lst sm_nil)))
      ((sm_ret sm_non))
      sm_next)
    ((sm_ret (sm_cb smc_tup (sm_cons sm_var sm_nil)))))))) body_read_forms h
def ps_first_word : PSx :=
    (pSeq (pIfS (pOr (pB (pOp eqk (pVar 0) (pLst pNil))) (pB (pOp nek (pOp ixk (pOp ixk (pVar 0) (pC (.int 0))) (pC (.int 0))) (pC (.str (Str.ofString "word"))))))
      ((pRet (pC .non)))
      pNext)
    ((pRet (pOp ixk (pOp ixk (pVar 0) (pC (.int 0))) (pC (.int 1))))))
theorem start_first_word : ∀ a0 : D, startE 1 [a0] = [some a0] := fun _ => rfl
def oW (ps : List Pt) : Option (List Nat) := match ps with
  | .wd w :: _ => some w
  | _ => none
def oS (o : Option (List Nat)) : D := match o with
  | none => .non
  | some w => dS w
def F_first_word : PFn := fun ds k => ∃ ps : List Pt, ds = [ePts ps] ∧ k (oS (oW ps))
theorem len_first_word : ∀ ds k, F_first_word ds k → ds.length = 1 := by
  rintro _ _ ⟨_, rfl, _⟩
  rfl
theorem body_first_word : ∀ ds k, F_first_word ds k → ps_first_word { nx := fun _ _ => k .non, rt := fun d S => (d.frz S).noRef = true ∧ k (d.frz S) } (startE 1 ds) [] := by
  rintro _ k ⟨ps, rfl, hk⟩
  rw [start_first_word]
  unfold ps_first_word
  simp only [pForD, pInsL, pExtA, pSeq, pAsg, pVar, pC, pOp, pNil, pCons, pTup, pLst, pLstM, pNot, pAndV, pOrV, pIf, pB, pAnd, pOr, pNotT, pNoPart, pPart, pCB, pUnN, pSl, pNext, pBreak, pCont, pRet, pRetN, pDrop, pIfS, pgName, pgNil, pgCons, pgTup_t, pAug, pApp, pYes, isk_non, nsk_non, isN_non, isN_bl, isN_int, isN_str, isN_tup, isN_lst, isN_ref, isN_obj, pTru, pFld, pStar, pMake, pSetF, pIt, pRng1, pRng2, forG, List.map_cons, List.map_nil, List.getElem?_cons_zero, List.getElem?_cons_succ, List.set_cons_zero, List.set_cons_succ, Option.some.injEq, exists_eq_left, exists_eq_left', true_and, and_true, wipeE, D.bl.injEq, D.int.injEq, D.str.injEq, D.tup.injEq, D.lst.injEq, Bool.not_true, decide_eq_true_eq, if_true, if_false, reduceIte, Bool.false_eq_true, Option.isNone_none, Option.isNone_some, Bool.not_false, List.length_nil, List.length_cons, List.nil_append, List.cons_append, D.ref.injEq, SO.lst.injEq, pCall, exists_const, and_self, Nat.zero_add, Nat.zero_le, Nat.reduceLeDiff, Nat.reduceAdd, eq_self, o_add, o_sub, o_mul, o_div, o_mod, o_cmp, o_int, o_lenl, o_lent, o_lens, o_tupl, o_tupt, o_min, o_max, q_int, ixk_tup, ixk_lst, ixk_scr, at0, at1, at2, at3, at4, at5, List.length_map, q_nil]
  cases ps with
  | nil => exact Eq.mpr (if_pos rfl) (rt_pure rfl hk)
  | cons p ps =>
    refine Eq.mpr (if_neg nofun) ?_
    refine ix0 ?_
    cases p with
    | wd n =>
      refine ixt (j := 0) rfl ?_
      refine Eq.mpr (n_word _ _ _ _) ⟨_, rfl, Eq.mpr (if_neg (by decide +kernel)) ?_⟩
      refine ix0 (ixt (j := 1) rfl ?_)
      exact rt_pure rfl hk
    | nm w =>
      refine ixt (j := 0) rfl ?_
      exact Eq.mpr (n_word _ _ _ _) ⟨_, rfl, Eq.mpr (if_pos (by decide +kernel)) (rt_pure rfl hk)⟩
    | qt t =>
      refine ixt (j := 0) rfl ?_
      exact Eq.mpr (n_word _ _ _ _) ⟨_, rfl, Eq.mpr (if_pos (by decide +kernel)) (rt_pure rfl hk)⟩
theorem ok_first_word {P : Program} {w : World} {K : PySem.W.Frag} {cl : Cl} {mg : Str → Option Value} {base : Heap} (D : Df K mg "first_word" s_first_word ["parts"]) (T : Txt K cl mg) (hw : cl.w = w)  : C8.Cal P w K mg base 1 "first_word" (spP K cl F_first_word) [] := by
  subst hw
  refine D.cal sc_first_word (spP_len (n := 1) len_first_word) (fun f cdv  A outer s H vs Q E hr h => ?_)
  refine ⟨_,
    (pss_cons (ps_if (PW.pt (pw_or (pt_cmpR (show OpR _ _ (rEqP K) from op_eqP hr.units) (pv 0) (pe_lst pa_nil) (nomark _)) (pw_or1 (pt_cmpR (show OpR _ _ (rNeP K) from op_neP hr.units) (pe_ix (show IxR _ (uIx K) from uix) (pe_ix (show IxR _ (uIx K) from uix) (pv 0) pe_int (fun _ _ => rfl)) pe_int (fun _ _ => rfl)) pe_str (nomark _)))))
      (pss_one (ps_ret pe_non))
      pss_nil)
    (pss_one (ps_ret (pe_ix (show IxR _ (uIx K) from uix) (pe_ix (show IxR _ (uIx K) from uix) (pv 0) pe_int (fun _ _ => rfl)) pe_int (fun _ _ => rfl))))), ?_⟩
  exact fn_ok (N := ["parts"]) (show SmS K cl _ ps_first_word from
    (sm_seq (sm_ifS (sm_or (sm_test (sm_op smr_eq sm_var (sm_lst sm_nil))) (sm_test (sm_op smr_ne (sm_op smr_ix (sm_op smr_ix sm_var sm_int) sm_int) sm_str)))
      ((sm_ret sm_non))
      sm_next)
    ((sm_ret (sm_op smr_ix (sm_op smr_ix sm_var sm_int) sm_int))))) body_first_word h
def ps_read_behind_word : PSx :=
    (pSeq (pIfS (pB (pOp isk (pVar 0) (pC .non)))
      ((pRet (pC .non)))
      pNext)
    (pSeq (pAsg (pCall F_read_forms (pCons (pVar 0) (pCons (pSl (pVar 1) (pPart (pC (.int 1))) pNoPart) pNil))) (pgName 2))
    (pSeq (pIfS (pB (pOp isk (pVar 2) (pC .non)))
      ((pRet (pC .non)))
      pNext)
    ((pRet (pTup (pCons (pCall F_first_word (pCons (pVar 1) pNil)) (pStar (pVar 2) pNil))))))))
theorem start_read_behind_word : ∀ a0 a1 : D, startE 3 [a0, a1] = [some a0, some a1, none] := fun _ _ => rfl
def behO (fo : Option (List Fm)) (ps : List Pt) : D := match fo with
  | none => .non
  | some fs => match formsF fs (ps.drop 1) with
    | none => .non
    | some ds => .tup (oS (oW ps) :: ds)
def oFms (fo : Option (List Fm)) : D := match fo with
  | none => .non
  | some fs => eFms fs
def F_read_behind_word : PFn := fun ds k => ∃ (fo : Option (List Fm)) (ps : List Pt), ds = [oFms fo, ePts ps] ∧ SmPts ps ∧ (∀ fs, fo = some fs → fs.length ≤ 10) ∧ k (behO fo ps)
theorem len_read_behind_word : ∀ ds k, F_read_behind_word ds k → ds.length = 2 := by
  rintro _ _ ⟨_, _, rfl, _⟩
  rfl
theorem pu_fms : ∀ fs : List Fm, pureAll (fs.map fun f => D.str (fmS f)) = true
  | [] => rfl
  | f :: fs => by rw [List.map_cons, pureAll, pu_fms fs]; rfl
theorem pu_oS (o : Option (List Nat)) : (oS o).pure = true := by cases o <;> rfl
theorem forms_pure {fs : List Fm} {ps : List Pt} {ds : List D} (h : formsF fs ps = some ds) : pureAll ds = true := by
  rw [forms_run] at h
  obtain ⟨q, hq, e⟩ := Option.bind_eq_some_iff.mp h
  split at e
  · cases e
    exact run_pure fs ps q.1 q.2 hq
  · cases e
theorem run_len : ∀ (fs : List Fm) (ps : List Pt) (ds : List D) (r : List Pt), runF fs ps = some (ds, r) → ds.length = fs.length
  | [], ps, ds, r, h => by cases h; rfl
  | f :: fs, ps, ds, r, h => by
    unfold runF at h
    split at h
    · cases h
    · obtain ⟨q, hq, e⟩ := Option.map_eq_some_iff.mp h
      cases e
      rw [List.length_cons, run_len fs _ q.1 q.2 hq]
      rfl
theorem forms_len {fs : List Fm} {ps : List Pt} {ds : List D} (h : formsF fs ps = some ds) : ds.length = fs.length := by
  rw [forms_run] at h
  obtain ⟨q, hq, e⟩ := Option.bind_eq_some_iff.mp h
  split at e
  · cases e
    exact run_len fs ps q.1 q.2 hq
  · cases e
theorem body_read_behind_word : ∀ ds k, F_read_behind_word ds k → ps_read_behind_word { nx := fun _ _ => k .non, rt := fun d S => (d.frz S).noRef = true ∧ k (d.frz S) } (startE 3 ds) [] := by
  rintro _ k ⟨fo, ps, rfl, hs, hfl, hk⟩
  rw [start_read_behind_word]
  unfold ps_read_behind_word
  cases fo with
  | none =>
    simp only [pForD, pInsL, pExtA, pSeq, pAsg, pVar, pC, pOp, pNil, pCons, pTup, pLst, pLstM, pNot, pAndV, pOrV, pIf, pB, pAnd, pOr, pNotT, pNoPart, pPart, pCB, pUnN, pSl, pNext, pBreak, pCont, pRet, pRetN, pDrop, pIfS, pgName, pgNil, pgCons, pgTup_t, pAug, pApp, pYes, isk_non, nsk_non, isN_non, isN_bl, isN_int, isN_str, isN_tup, isN_lst, isN_ref, isN_obj, pTru, pFld, pStar, pMake, pSetF, pIt, pRng1, pRng2, forG, List.map_cons, List.map_nil, List.getElem?_cons_zero, List.getElem?_cons_succ, List.set_cons_zero, List.set_cons_succ, Option.some.injEq, exists_eq_left, exists_eq_left', true_and, and_true, wipeE, D.bl.injEq, D.int.injEq, D.str.injEq, D.tup.injEq, D.lst.injEq, Bool.not_true, decide_eq_true_eq, if_true, if_false, reduceIte, Bool.false_eq_true, Option.isNone_none, Option.isNone_some, Bool.not_false, List.length_nil, List.length_cons, List.nil_append, List.cons_append, D.ref.injEq, SO.lst.injEq, pCall, exists_const, and_self, Nat.zero_add, Nat.zero_le, Nat.reduceLeDiff, Nat.reduceAdd, eq_self, o_add, o_sub, o_mul, o_div, o_mod, o_cmp, o_int, o_lenl, o_lent, o_lens, o_tupl, o_tupt, o_min, o_max, q_int, ixk_tup, ixk_lst, ixk_scr, at0, at1, at2, at3, at4, at5, List.length_map, oFms]
    exact rt_pure rfl hk
  | some fs =>
    simp only [pForD, pInsL, pExtA, pSeq, pAsg, pVar, pC, pOp, pNil, pCons, pTup, pLst, pLstM, pNot, pAndV, pOrV, pIf, pB, pAnd, pOr, pNotT, pNoPart, pPart, pCB, pUnN, pSl, pNext, pBreak, pCont, pRet, pRetN, pDrop, pIfS, pgName, pgNil, pgCons, pgTup_t, pAug, pApp, pYes, isk_non, nsk_non, isN_non, isN_bl, isN_int, isN_str, isN_tup, isN_lst, isN_ref, isN_obj, pTru, pFld, pStar, pMake, pSetF, pIt, pRng1, pRng2, forG, List.map_cons, List.map_nil, List.getElem?_cons_zero, List.getElem?_cons_succ, List.set_cons_zero, List.set_cons_succ, Option.some.injEq, exists_eq_left, exists_eq_left', true_and, and_true, wipeE, D.bl.injEq, D.int.injEq, D.str.injEq, D.tup.injEq, D.lst.injEq, Bool.not_true, decide_eq_true_eq, if_true, if_false, reduceIte, Bool.false_eq_true, Option.isNone_none, Option.isNone_some, Bool.not_false, List.length_nil, List.length_cons, List.nil_append, List.cons_append, D.ref.injEq, SO.lst.injEq, pCall, exists_const, and_self, Nat.zero_add, Nat.zero_le, Nat.reduceLeDiff, Nat.reduceAdd, eq_self, o_add, o_sub, o_mul, o_div, o_mod, o_cmp, o_int, o_lenl, o_lent, o_lens, o_tupl, o_tupt, o_min, o_max, q_int, ixk_tup, ixk_lst, ixk_scr, at0, at1, at2, at3, at4, at5, List.length_map, oFms]
    refine Eq.mpr (if_neg (show ¬ Pw.isNon (eFms fs) = true from fun z => by cases z)) ?_
    refine sld (j := 1) ?_
    refine call_of (by simp only [pureAll, pu_ePts, show (eFms fs).pure = true from pu_fms fs, Bool.and_self]) ⟨fs, ps.drop 1, rfl, hs.drop 1, hfl fs rfl, ?_⟩
    unfold behO at hk
    simp only at hk
    cases hf : formsF fs (ps.drop 1) with
    | none =>
      rw [hf] at hk
      simp only [pForD, pInsL, pExtA, pSeq, pAsg, pVar, pC, pOp, pNil, pCons, pTup, pLst, pLstM, pNot, pAndV, pOrV, pIf, pB, pAnd, pOr, pNotT, pNoPart, pPart, pCB, pUnN, pSl, pNext, pBreak, pCont, pRet, pRetN, pDrop, pIfS, pgName, pgNil, pgCons, pgTup_t, pAug, pApp, pYes, isk_non, nsk_non, isN_non, isN_bl, isN_int, isN_str, isN_tup, isN_lst, isN_ref, isN_obj, pTru, pFld, pStar, pMake, pSetF, pIt, pRng1, pRng2, forG, List.map_cons, List.map_nil, List.getElem?_cons_zero, List.getElem?_cons_succ, List.set_cons_zero, List.set_cons_succ, Option.some.injEq, exists_eq_left, exists_eq_left', true_and, and_true, wipeE, D.bl.injEq, D.int.injEq, D.str.injEq, D.tup.injEq, D.lst.injEq, Bool.not_true, decide_eq_true_eq, if_true, if_false, reduceIte, Bool.false_eq_true, Option.isNone_none, Option.isNone_some, Bool.not_false, List.length_nil, List.length_cons, List.nil_append, List.cons_append, D.ref.injEq, SO.lst.injEq, pCall, exists_const, and_self, Nat.zero_add, Nat.zero_le, Nat.reduceLeDiff, Nat.reduceAdd, eq_self, o_add, o_sub, o_mul, o_div, o_mod, o_cmp, o_int, o_lenl, o_lent, o_lens, o_tupl, o_tupt, o_min, o_max, q_int, ixk_tup, ixk_lst, ixk_scr, at0, at1, at2, at3, at4, at5, List.length_map, oT]
      exact rt_pure rfl hk
    | some ds =>
      rw [hf] at hk
      simp only [pForD, pInsL, pExtA, pSeq, pAsg, pVar, pC, pOp, pNil, pCons, pTup, pLst, pLstM, pNot, pAndV, pOrV, pIf, pB, pAnd, pOr, pNotT, pNoPart, pPart, pCB, pUnN, pSl, pNext, pBreak, pCont, pRet, pRetN, pDrop, pIfS, pgName, pgNil, pgCons, pgTup_t, pAug, pApp, pYes, isk_non, nsk_non, isN_non, isN_bl, isN_int, isN_str, isN_tup, isN_lst, isN_ref, isN_obj, pTru, pFld, pStar, pMake, pSetF, pIt, pRng1, pRng2, forG, List.map_cons, List.map_nil, List.getElem?_cons_zero, List.getElem?_cons_succ, List.set_cons_zero, List.set_cons_succ, Option.some.injEq, exists_eq_left, exists_eq_left', true_and, and_true, wipeE, D.bl.injEq, D.int.injEq, D.str.injEq, D.tup.injEq, D.lst.injEq, Bool.not_true, decide_eq_true_eq, if_true, if_false, reduceIte, Bool.false_eq_true, Option.isNone_none, Option.isNone_some, Bool.not_false, List.length_nil, List.length_cons, List.nil_append, List.cons_append, D.ref.injEq, SO.lst.injEq, pCall, exists_const, and_self, Nat.zero_add, Nat.zero_le, Nat.reduceLeDiff, Nat.reduceAdd, eq_self, o_add, o_sub, o_mul, o_div, o_mod, o_cmp, o_int, o_lenl, o_lent, o_lens, o_tupl, o_tupt, o_min, o_max, q_int, ixk_tup, ixk_lst, ixk_scr, at0, at1, at2, at3, at4, at5, List.length_map, oT, pStar]
      refine call_of (by simp only [pureAll, pu_ePts, Bool.and_self]) ⟨ps, rfl, ?_⟩
      refine ⟨ds, rfl, by rw [List.append_nil, forms_len hf]; have := hfl fs rfl; omega, ?_⟩
      rw [List.append_nil]
      exact rt_pure (by show ((oS (oW ps)).pure && pureAll ds) = true; rw [pu_oS, forms_pure hf]; rfl) hk
theorem ok_read_behind_word {P : Program} {w : World} {K : PySem.W.Frag} {cl : Cl} {mg : Str → Option Value} {base : Heap} (D : Df K mg "read_behind_word" s_read_behind_word ["forms", "parts"]) (T : Txt K cl mg) (hw : cl.w = w) (G_read_forms : C8.Cal P w K mg base 6 "read_forms" (spP K cl F_read_forms) []) (G_first_word : C8.Cal P w K mg base 1 "first_word" (spP K cl F_first_word) []) : C8.Cal P w K mg base 7 "read_behind_word" (spP K cl F_read_behind_word) [] := by
  subst hw
  refine D.cal sc_read_behind_word (spP_len (n := 2) len_read_behind_word) (fun f cdv  A outer s H vs Q E hr h => ?_)
  refine ⟨_,
    (pss_cons (ps_if (pt_cmpR op_isN (pv 0) pe_non (nomark _))
      (pss_one (ps_ret pe_non))
      pss_nil)
    (pss_cons (ps_set (i := 2) sc_read_behind_word.nd rfl (.inl rfl) (C8.pe_c G_read_forms hr (by decide) (by rfl) (pa_cons (pv 0) (pa_cons (pe_slice (show SlR _ (uSl K) from usl) (pv 1) (po_some pe_int) po_none) pa_nil))))
    (pss_cons (ps_if (pt_cmpR op_isN (pv 2) pe_non (nomark _))
      (pss_one (ps_ret pe_non))
      pss_nil)
    (pss_one (ps_ret (pe_tup (pa_cons (C8.pe_c G_first_word hr (by decide) (by rfl) (pa_cons (pv 1) pa_nil)) (StX.pa_star (pv 2) pa_nil)))))))), ?_⟩
  exact fn_ok (N := ["forms", "parts", "things"]) (show SmS K cl _ ps_read_behind_word from
    (sm_seq (sm_ifS (sm_test (sm_op smr_is sm_var sm_non))
      ((sm_ret sm_non))
      sm_next)
    (sm_seq (sm_asg (sm_call (sm_cons sm_var (sm_cons (sm_sl sm_var (sm_part sm_int) sm_noPart) sm_nil))) sm_gname)
    (sm_seq (sm_ifS (sm_test (sm_op smr_is sm_var sm_non))
      ((sm_ret sm_non))
      sm_next)
    ((sm_ret (sm_tup (sm_cons (sm_call (sm_cons sm_var sm_nil)) (sm_star sm_var sm_nil))))))))) body_read_behind_word h
def ps_read_on_device : PSx :=
    (pSeq (pAsg (pCall F_first_word (pCons (pVar 1) pNil)) (pgName 2))
    (pSeq (pIfS (pB (pOp eqk (pVar 2) (pC (.str (Str.ofString "wish")))))
      (pSeq (pAsg (pCall F_read_behind_word (pCons (pKget tab_WISHES (pCall F_first_word (pCons (pSl (pVar 1) (pPart (pC (.int 1))) pNoPart) pNil))) (pCons (pSl (pVar 1) (pPart (pC (.int 1))) pNoPart) pNil))) (pgName 3))
      (pSeq (pIfS (pB (pOp isk (pVar 3) (pC .non)))
        ((pRet (pC .non)))
        pNext)
      ((pRet (pTup (pCons (pC (.str (Str.ofString "wish"))) (pCons (pVar 0) (pCons (pVar 3) pNil))))))))
      pNext)
    (pSeq (pAsg (pCall F_read_behind_word (pCons (pKget tab_DEEDS (pVar 2)) (pCons (pVar 1) pNil))) (pgName 4))
    (pSeq (pIfS (pB (pOp nsk (pVar 4) (pC .non)))
      ((pRet (pTup (pCons (pC (.str (Str.ofString "program"))) (pCons (pVar 0) (pCons (pVar 4) pNil))))))
      pNext)
    (pSeq (pAsg (pCall F_read_behind_word (pCons (pKget tab_ON_DEVICES (pVar 2)) (pCons (pVar 1) pNil))) (pgName 5))
    (pSeq (pIfS (pB (pOp isk (pVar 5) (pC .non)))
      ((pRet (pC .non)))
      pNext)
    ((pRet (pOp addk (pTup (pCons (pOp ixk (pVar 5) (pC (.int 0))) (pCons (pVar 0) pNil))) (pSl (pVar 5) (pPart (pC (.int 1))) pNoPart))))))))))
theorem start_read_on_device : ∀ a0 a1 : D, startE 6 [a0, a1] = [some a0, some a1, none, none, none, none] := fun _ _ => rfl
def tabS (t : Tab) : List (Str × D) := t.map fun p => (SX.S p.1, eFms p.2)
theorem tab_at (t : Tab) (w : List Nat) : (tabAt (tabS t) (SX.S w)).getD .non = oFms (at_ t w) := by
  unfold tabAt at_ tabS
  induction t with
  | nil => rfl
  | cons p t ih =>
    rw [List.map_cons]
    by_cases c : p.1 = w
    · rw [List.find?_cons_of_pos (by simp [c]), List.find?_cons_of_pos (by simpa using c)]
      rfl
    · rw [List.find?_cons_of_neg (by simpa [S_inj] using c), List.find?_cons_of_neg (by simpa using c)]
      exact ih
theorem tab_wishes : tab_WISHES = tabS wishesT := by
  unfold tab_WISHES tabS wishesT eFms
  simp only [List.map_cons, List.map_nil, fmS]
  congr <;> decide +kernel
theorem tab_deeds : tab_DEEDS = tabS deedsT := by
  unfold tab_DEEDS tabS deedsT eFms
  simp only [List.map_cons, List.map_nil, fmS]
  congr <;> decide +kernel
theorem tab_on : tab_ON_DEVICES = tabS onT := by
  unfold tab_ON_DEVICES tabS onT eFms
  simp only [List.map_cons, List.map_nil, fmS]
  congr <;> decide +kernel
theorem tab_let : tab_ON_LETTERS = tabS letT := by
  unfold tab_ON_LETTERS tabS letT eFms
  simp only [List.map_cons, List.map_nil, fmS]
  congr <;> decide +kernel
theorem at_len {t : Tab} (h : ∀ p ∈ t, p.2.length ≤ 10) {w : List Nat} {fs : List Fm} (he : at_ t w = some fs) : fs.length ≤ 10 := by
  unfold at_ at he
  obtain ⟨p, hp, rfl⟩ := Option.map_eq_some_iff.mp he
  exact h p (List.mem_of_find?_eq_some hp)
def behT (t : Tab) (ps : List Pt) : Option (List Fm) := (oW ps).bind (at_ t)
theorem beh_is (t : Tab) (ps : List Pt) : behO (behT t ps) ps = match behF t ps with
    | none => .non
    | some q => .tup (dS q.1 :: q.2) := by
  unfold behO behT behF oW
  cases ps with
  | nil => rfl
  | cons p ps =>
    cases p with
    | wd w =>
      show (match at_ t w with | none => D.non | some fs => match formsF fs ps with | none => D.non | some ds => D.tup (dS w :: ds)) = _
      simp only
      cases at_ t w with
      | none => rfl
      | some fs =>
        simp only
        cases formsF fs ps <;> rfl
    | nm _ => rfl
    | qt _ => rfl
theorem kget_is {t : Tab} {tab : List (Str × D)} (h : tab = tabS t) {o : Option (List Nat)} {S : Sto} {py : PEx} {env : Pw.Env} {k : D → Sto → Prop} (hpy : ∀ kk : D → Sto → Prop, kk (oS o) S → py env S kk) (hk : k (oFms (o.bind (at_ t))) S) : pKget tab py env S k := by
  subst h
  refine hpy _ ?_
  cases o with
  | none => exact hk
  | some w =>
    show k ((tabAt (tabS t) (SX.S w)).getD .non) S
    rw [tab_at]
    exact hk
def oD (o : Option D) : D := o.getD .non
def F_read_on_device : PFn := fun ds k => ∃ (n : Nat) (ps : List Pt), ds = [.int n, ePts ps] ∧ SmPts ps ∧ k (oD (devF n ps))
theorem len_read_on_device : ∀ ds k, F_read_on_device ds k → ds.length = 2 := by
  rintro _ _ ⟨_, _, rfl, _⟩
  rfl
theorem q_oS (S : Sto) (o : Option (List Nat)) (w : List Nat) (k : D → Prop) : Pw.eqk S (oS o) (.str (SX.S w)) k = k (.bl (decide (o = some w))) := by
  cases o with
  | none =>
    rw [eqk_pure (x := oS none) (y := .str (SX.S w)) rfl rfl (Nat.zero_le 60)]
    rfl
  | some v =>
    show Pw.eqk S (.str (SX.S v)) (.str (SX.S w)) k = _
    rw [q_word]
    have : decide (SX.S v = SX.S w) = decide (some v = some w) := by
      rw [decide_eq_decide, S_inj]
      exact ⟨fun h => by rw [h], fun h => by cases h; rfl⟩
    rw [this]
theorem pu_oFms (fo : Option (List Fm)) : (oFms fo).pure = true := by
  cases fo with
  | none => rfl
  | some fs => exact pu_fms fs
theorem beh_pure {t : Tab} {ps : List Pt} {w : List Nat} {ds : List D} (h : behF t ps = some (w, ds)) : pureAll ds = true ∧ True := by
  obtain ⟨r, fs, rfl, h1, h2⟩ := beh_cases h
  exact ⟨forms_pure h2, trivial⟩
theorem beh_len {t : Tab} (ht : ∀ p ∈ t, p.2.length ≤ 10) {ps : List Pt} {w : List Nat} {ds : List D} (h : behF t ps = some (w, ds)) : ds.length ≤ 10 := by
  obtain ⟨r, fs, rfl, h1, h2⟩ := beh_cases h
  rw [forms_len h2]
  exact at_len ht h1
theorem sl_tup {S : Sto} {ds : List D} {n : Nat} {k : D → Prop} (h : n ≤ ds.length) (hk : k (.tup (ds.drop n))) : slk S (.tup ds) (some (n : Int)) none k := by
  show k (.tup (Pw.cutD ds (some (n : Int)) none))
  rw [cut_r h]
  exact hk
theorem tabs_len : (∀ p ∈ wishesT, p.2.length ≤ 10) ∧ (∀ p ∈ deedsT, p.2.length ≤ 10) ∧ (∀ p ∈ onT, p.2.length ≤ 10) ∧ ∀ p ∈ letT, p.2.length ≤ 10 := by decide
theorem behT_len {t : Tab} (h : ∀ p ∈ t, p.2.length ≤ 10) {ps : List Pt} {fs : List Fm} (he : behT t ps = some fs) : fs.length ≤ 10 := by
  obtain ⟨w, _, h2⟩ := Option.bind_eq_some_iff.mp he
  exact at_len h h2
theorem body_read_on_device : ∀ ds k, F_read_on_device ds k → ps_read_on_device { nx := fun _ _ => k .non, rt := fun d S => (d.frz S).noRef = true ∧ k (d.frz S) } (startE 6 ds) [] := by
  rintro _ k ⟨n, ps, rfl, hs, hk⟩
  rw [start_read_on_device]
  unfold ps_read_on_device
  simp only [pForD, pInsL, pExtA, pSeq, pAsg, pVar, pC, pOp, pNil, pCons, pTup, pLst, pLstM, pNot, pAndV, pOrV, pIf, pB, pAnd, pOr, pNotT, pNoPart, pPart, pCB, pUnN, pSl, pNext, pBreak, pCont, pRet, pRetN, pDrop, pIfS, pgName, pgNil, pgCons, pgTup_t, pAug, pApp, pYes, isk_non, nsk_non, isN_non, isN_bl, isN_int, isN_str, isN_tup, isN_lst, isN_ref, isN_obj, pTru, pFld, pStar, pMake, pSetF, pIt, pRng1, pRng2, forG, List.map_cons, List.map_nil, List.getElem?_cons_zero, List.getElem?_cons_succ, List.set_cons_zero, List.set_cons_succ, Option.some.injEq, exists_eq_left, exists_eq_left', true_and, and_true, wipeE, D.bl.injEq, D.int.injEq, D.str.injEq, D.tup.injEq, D.lst.injEq, Bool.not_true, decide_eq_true_eq, if_true, if_false, reduceIte, Bool.false_eq_true, Option.isNone_none, Option.isNone_some, Bool.not_false, List.length_nil, List.length_cons, List.nil_append, List.cons_append, D.ref.injEq, SO.lst.injEq, pCall, exists_const, and_self, Nat.zero_add, Nat.zero_le, Nat.reduceLeDiff, Nat.reduceAdd, eq_self, o_add, o_sub, o_mul, o_div, o_mod, o_cmp, o_int, o_lenl, o_lent, o_lens, o_tupl, o_tupt, o_min, o_max, q_int, ixk_tup, ixk_lst, ixk_scr, at0, at1, at2, at3, at4, at5, List.length_map, e_wish]
  refine call_of (by simp only [pureAll, pu_ePts, Bool.and_self]) ⟨ps, rfl, ?_⟩
  refine Eq.mpr (q_oS _ _ _ _) ⟨_, rfl, ?_⟩
  have hhd : ps.head? = some (.wd w_wish) ↔ oW ps = some w_wish := by
    unfold oW
    cases ps with
    | nil => exact ⟨nofun, nofun⟩
    | cons p ps =>
      cases p with
      | wd v => exact ⟨fun h => by cases h; rfl, fun h => by cases h; rfl⟩
      | nm _ => exact ⟨nofun, nofun⟩
      | qt _ => exact ⟨nofun, nofun⟩
  unfold devF at hk
  by_cases c : oW ps = some w_wish
  · rw [if_pos (hhd.mpr c)] at hk
    refine Eq.mpr (if_pos (by simpa using c)) ?_
    refine kget_is tab_wishes (o := oW (ps.drop 1)) (fun kk h => ?_) ?_
    · simp only [pForD, pInsL, pExtA, pSeq, pAsg, pVar, pC, pOp, pNil, pCons, pTup, pLst, pLstM, pNot, pAndV, pOrV, pIf, pB, pAnd, pOr, pNotT, pNoPart, pPart, pCB, pUnN, pSl, pNext, pBreak, pCont, pRet, pRetN, pDrop, pIfS, pgName, pgNil, pgCons, pgTup_t, pAug, pApp, pYes, isk_non, nsk_non, isN_non, isN_bl, isN_int, isN_str, isN_tup, isN_lst, isN_ref, isN_obj, pTru, pFld, pStar, pMake, pSetF, pIt, pRng1, pRng2, forG, List.map_cons, List.map_nil, List.getElem?_cons_zero, List.getElem?_cons_succ, List.set_cons_zero, List.set_cons_succ, Option.some.injEq, exists_eq_left, exists_eq_left', true_and, and_true, wipeE, D.bl.injEq, D.int.injEq, D.str.injEq, D.tup.injEq, D.lst.injEq, Bool.not_true, decide_eq_true_eq, if_true, if_false, reduceIte, Bool.false_eq_true, Option.isNone_none, Option.isNone_some, Bool.not_false, List.length_nil, List.length_cons, List.nil_append, List.cons_append, D.ref.injEq, SO.lst.injEq, pCall, exists_const, and_self, Nat.zero_add, Nat.zero_le, Nat.reduceLeDiff, Nat.reduceAdd, eq_self, o_add, o_sub, o_mul, o_div, o_mod, o_cmp, o_int, o_lenl, o_lent, o_lens, o_tupl, o_tupt, o_min, o_max, q_int, ixk_tup, ixk_lst, ixk_scr, at0, at1, at2, at3, at4, at5, List.length_map]
      refine sld (j := 1) ?_
      exact call_of (by simp only [pureAll, pu_ePts, Bool.and_self]) ⟨ps.drop 1, rfl, h⟩
    refine sld (j := 1) ?_
    refine call_of (by simp only [pureAll, pu_ePts, pu_oFms, Bool.and_self]) ⟨behT wishesT (ps.drop 1), ps.drop 1, rfl, hs.drop 1, fun fs h => behT_len tabs_len.1 h, ?_⟩
    rw [beh_is]
    have ht : ps.tail = ps.drop 1 := by cases ps <;> rfl
    rw [ht] at hk
    cases hb : behF wishesT (ps.drop 1) with
    | none =>
      rw [hb] at hk
      simp only [pForD, pInsL, pExtA, pSeq, pAsg, pVar, pC, pOp, pNil, pCons, pTup, pLst, pLstM, pNot, pAndV, pOrV, pIf, pB, pAnd, pOr, pNotT, pNoPart, pPart, pCB, pUnN, pSl, pNext, pBreak, pCont, pRet, pRetN, pDrop, pIfS, pgName, pgNil, pgCons, pgTup_t, pAug, pApp, pYes, isk_non, nsk_non, isN_non, isN_bl, isN_int, isN_str, isN_tup, isN_lst, isN_ref, isN_obj, pTru, pFld, pStar, pMake, pSetF, pIt, pRng1, pRng2, forG, List.map_cons, List.map_nil, List.getElem?_cons_zero, List.getElem?_cons_succ, List.set_cons_zero, List.set_cons_succ, Option.some.injEq, exists_eq_left, exists_eq_left', true_and, and_true, wipeE, D.bl.injEq, D.int.injEq, D.str.injEq, D.tup.injEq, D.lst.injEq, Bool.not_true, decide_eq_true_eq, if_true, if_false, reduceIte, Bool.false_eq_true, Option.isNone_none, Option.isNone_some, Bool.not_false, List.length_nil, List.length_cons, List.nil_append, List.cons_append, D.ref.injEq, SO.lst.injEq, pCall, exists_const, and_self, Nat.zero_add, Nat.zero_le, Nat.reduceLeDiff, Nat.reduceAdd, eq_self, o_add, o_sub, o_mul, o_div, o_mod, o_cmp, o_int, o_lenl, o_lent, o_lens, o_tupl, o_tupt, o_min, o_max, q_int, ixk_tup, ixk_lst, ixk_scr, at0, at1, at2, at3, at4, at5, List.length_map]
      exact rt_pure rfl hk
    | some q =>
      obtain ⟨w, ds⟩ := q
      rw [hb] at hk
      have hp := (beh_pure hb).1
      simp only [pForD, pInsL, pExtA, pSeq, pAsg, pVar, pC, pOp, pNil, pCons, pTup, pLst, pLstM, pNot, pAndV, pOrV, pIf, pB, pAnd, pOr, pNotT, pNoPart, pPart, pCB, pUnN, pSl, pNext, pBreak, pCont, pRet, pRetN, pDrop, pIfS, pgName, pgNil, pgCons, pgTup_t, pAug, pApp, pYes, isk_non, nsk_non, isN_non, isN_bl, isN_int, isN_str, isN_tup, isN_lst, isN_ref, isN_obj, pTru, pFld, pStar, pMake, pSetF, pIt, pRng1, pRng2, forG, List.map_cons, List.map_nil, List.getElem?_cons_zero, List.getElem?_cons_succ, List.set_cons_zero, List.set_cons_succ, Option.some.injEq, exists_eq_left, exists_eq_left', true_and, and_true, wipeE, D.bl.injEq, D.int.injEq, D.str.injEq, D.tup.injEq, D.lst.injEq, Bool.not_true, decide_eq_true_eq, if_true, if_false, reduceIte, Bool.false_eq_true, Option.isNone_none, Option.isNone_some, Bool.not_false, List.length_nil, List.length_cons, List.nil_append, List.cons_append, D.ref.injEq, SO.lst.injEq, pCall, exists_const, and_self, Nat.zero_add, Nat.zero_le, Nat.reduceLeDiff, Nat.reduceAdd, eq_self, o_add, o_sub, o_mul, o_div, o_mod, o_cmp, o_int, o_lenl, o_lent, o_lens, o_tupl, o_tupt, o_min, o_max, q_int, ixk_tup, ixk_lst, ixk_scr, at0, at1, at2, at3, at4, at5, List.length_map]
      exact rt_pure (by simp only [D.pure, pureAll, hp, dS, Bool.and_self]) hk
  · rw [if_neg fun z => c (hhd.mp z)] at hk
    refine Eq.mpr (if_neg (by simpa using c)) ?_
    refine kget_is tab_deeds (o := oW ps) (fun kk h => ⟨_, rfl, h⟩) ?_
    refine call_of (by simp only [pureAll, pu_ePts, pu_oFms, Bool.and_self]) ⟨behT deedsT ps, ps, rfl, hs, fun fs h => behT_len tabs_len.2.1 h, ?_⟩
    rw [beh_is]
    cases hb : behF deedsT ps with
    | some q =>
      obtain ⟨w, ds⟩ := q
      rw [hb] at hk
      have hp := (beh_pure hb).1
      simp only [pForD, pInsL, pExtA, pSeq, pAsg, pVar, pC, pOp, pNil, pCons, pTup, pLst, pLstM, pNot, pAndV, pOrV, pIf, pB, pAnd, pOr, pNotT, pNoPart, pPart, pCB, pUnN, pSl, pNext, pBreak, pCont, pRet, pRetN, pDrop, pIfS, pgName, pgNil, pgCons, pgTup_t, pAug, pApp, pYes, isk_non, nsk_non, isN_non, isN_bl, isN_int, isN_str, isN_tup, isN_lst, isN_ref, isN_obj, pTru, pFld, pStar, pMake, pSetF, pIt, pRng1, pRng2, forG, List.map_cons, List.map_nil, List.getElem?_cons_zero, List.getElem?_cons_succ, List.set_cons_zero, List.set_cons_succ, Option.some.injEq, exists_eq_left, exists_eq_left', true_and, and_true, wipeE, D.bl.injEq, D.int.injEq, D.str.injEq, D.tup.injEq, D.lst.injEq, Bool.not_true, decide_eq_true_eq, if_true, if_false, reduceIte, Bool.false_eq_true, Option.isNone_none, Option.isNone_some, Bool.not_false, List.length_nil, List.length_cons, List.nil_append, List.cons_append, D.ref.injEq, SO.lst.injEq, pCall, exists_const, and_self, Nat.zero_add, Nat.zero_le, Nat.reduceLeDiff, Nat.reduceAdd, eq_self, o_add, o_sub, o_mul, o_div, o_mod, o_cmp, o_int, o_lenl, o_lent, o_lens, o_tupl, o_tupt, o_min, o_max, q_int, ixk_tup, ixk_lst, ixk_scr, at0, at1, at2, at3, at4, at5, List.length_map]
      exact rt_pure (by simp only [D.pure, pureAll, hp, dS, Bool.and_self]) hk
    | none =>
      rw [hb] at hk
      simp only at hk
      simp only [pForD, pInsL, pExtA, pSeq, pAsg, pVar, pC, pOp, pNil, pCons, pTup, pLst, pLstM, pNot, pAndV, pOrV, pIf, pB, pAnd, pOr, pNotT, pNoPart, pPart, pCB, pUnN, pSl, pNext, pBreak, pCont, pRet, pRetN, pDrop, pIfS, pgName, pgNil, pgCons, pgTup_t, pAug, pApp, pYes, isk_non, nsk_non, isN_non, isN_bl, isN_int, isN_str, isN_tup, isN_lst, isN_ref, isN_obj, pTru, pFld, pStar, pMake, pSetF, pIt, pRng1, pRng2, forG, List.map_cons, List.map_nil, List.getElem?_cons_zero, List.getElem?_cons_succ, List.set_cons_zero, List.set_cons_succ, Option.some.injEq, exists_eq_left, exists_eq_left', true_and, and_true, wipeE, D.bl.injEq, D.int.injEq, D.str.injEq, D.tup.injEq, D.lst.injEq, Bool.not_true, decide_eq_true_eq, if_true, if_false, reduceIte, Bool.false_eq_true, Option.isNone_none, Option.isNone_some, Bool.not_false, List.length_nil, List.length_cons, List.nil_append, List.cons_append, D.ref.injEq, SO.lst.injEq, pCall, exists_const, and_self, Nat.zero_add, Nat.zero_le, Nat.reduceLeDiff, Nat.reduceAdd, eq_self, o_add, o_sub, o_mul, o_div, o_mod, o_cmp, o_int, o_lenl, o_lent, o_lens, o_tupl, o_tupt, o_min, o_max, q_int, ixk_tup, ixk_lst, ixk_scr, at0, at1, at2, at3, at4, at5, List.length_map]
      refine kget_is tab_on (o := oW ps) (fun kk h => ⟨_, rfl, h⟩) ?_
      refine call_of (by simp only [pureAll, pu_ePts, pu_oFms, Bool.and_self]) ⟨behT onT ps, ps, rfl, hs, fun fs h => behT_len tabs_len.2.2.1 h, ?_⟩
      rw [beh_is]
      cases ho : behF onT ps with
      | none =>
        rw [ho] at hk
        simp only [pForD, pInsL, pExtA, pSeq, pAsg, pVar, pC, pOp, pNil, pCons, pTup, pLst, pLstM, pNot, pAndV, pOrV, pIf, pB, pAnd, pOr, pNotT, pNoPart, pPart, pCB, pUnN, pSl, pNext, pBreak, pCont, pRet, pRetN, pDrop, pIfS, pgName, pgNil, pgCons, pgTup_t, pAug, pApp, pYes, isk_non, nsk_non, isN_non, isN_bl, isN_int, isN_str, isN_tup, isN_lst, isN_ref, isN_obj, pTru, pFld, pStar, pMake, pSetF, pIt, pRng1, pRng2, forG, List.map_cons, List.map_nil, List.getElem?_cons_zero, List.getElem?_cons_succ, List.set_cons_zero, List.set_cons_succ, Option.some.injEq, exists_eq_left, exists_eq_left', true_and, and_true, wipeE, D.bl.injEq, D.int.injEq, D.str.injEq, D.tup.injEq, D.lst.injEq, Bool.not_true, decide_eq_true_eq, if_true, if_false, reduceIte, Bool.false_eq_true, Option.isNone_none, Option.isNone_some, Bool.not_false, List.length_nil, List.length_cons, List.nil_append, List.cons_append, D.ref.injEq, SO.lst.injEq, pCall, exists_const, and_self, Nat.zero_add, Nat.zero_le, Nat.reduceLeDiff, Nat.reduceAdd, eq_self, o_add, o_sub, o_mul, o_div, o_mod, o_cmp, o_int, o_lenl, o_lent, o_lens, o_tupl, o_tupt, o_min, o_max, q_int, ixk_tup, ixk_lst, ixk_scr, at0, at1, at2, at3, at4, at5, List.length_map]
        exact rt_pure rfl hk
      | some q =>
        obtain ⟨w, ds⟩ := q
        rw [ho] at hk
        have hp := (beh_pure ho).1
        simp only [pForD, pInsL, pExtA, pSeq, pAsg, pVar, pC, pOp, pNil, pCons, pTup, pLst, pLstM, pNot, pAndV, pOrV, pIf, pB, pAnd, pOr, pNotT, pNoPart, pPart, pCB, pUnN, pSl, pNext, pBreak, pCont, pRet, pRetN, pDrop, pIfS, pgName, pgNil, pgCons, pgTup_t, pAug, pApp, pYes, isk_non, nsk_non, isN_non, isN_bl, isN_int, isN_str, isN_tup, isN_lst, isN_ref, isN_obj, pTru, pFld, pStar, pMake, pSetF, pIt, pRng1, pRng2, forG, List.map_cons, List.map_nil, List.getElem?_cons_zero, List.getElem?_cons_succ, List.set_cons_zero, List.set_cons_succ, Option.some.injEq, exists_eq_left, exists_eq_left', true_and, and_true, wipeE, D.bl.injEq, D.int.injEq, D.str.injEq, D.tup.injEq, D.lst.injEq, Bool.not_true, decide_eq_true_eq, if_true, if_false, reduceIte, Bool.false_eq_true, Option.isNone_none, Option.isNone_some, Bool.not_false, List.length_nil, List.length_cons, List.nil_append, List.cons_append, D.ref.injEq, SO.lst.injEq, pCall, exists_const, and_self, Nat.zero_add, Nat.zero_le, Nat.reduceLeDiff, Nat.reduceAdd, eq_self, o_add, o_sub, o_mul, o_div, o_mod, o_cmp, o_int, o_lenl, o_lent, o_lens, o_tupl, o_tupt, o_min, o_max, q_int, ixk_tup, ixk_lst, ixk_scr, at0, at1, at2, at3, at4, at5, List.length_map]
        have hlen := beh_len tabs_len.2.2.1 ho
        refine sl_tup (n := 1) (by rw [List.length_cons]; omega) ?_
        refine ⟨by show 2 + ds.length ≤ 100000; omega, ?_⟩
        exact rt_pure (by show pureAll ([dS w, .int n] ++ ds) = true; simp only [List.cons_append, List.nil_append, pureAll, hp, dS, D.pure, Bool.and_self]) hk
theorem ok_read_on_device {P : Program} {w : World} {K : PySem.W.Frag} {cl : Cl} {mg : Str → Option Value} {base : Heap} (D : Df K mg "read_on_device" s_read_on_device ["device", "parts"]) (T : Txt K cl mg) (hw : cl.w = w) (G_first_word : C8.Cal P w K mg base 1 "first_word" (spP K cl F_first_word) []) (G_read_behind_word : C8.Cal P w K mg base 7 "read_behind_word" (spP K cl F_read_behind_word) []) : C8.Cal P w K mg base 8 "read_on_device" (spP K cl F_read_on_device) [] := by
  subst hw
  refine D.cal sc_read_on_device (spP_len (n := 2) len_read_on_device) (fun f cdv  A outer s H vs Q E hr h => ?_)
  refine ⟨_,
    (pss_cons (ps_set (i := 2) sc_read_on_device.nd rfl (.inl rfl) (C8.pe_c G_first_word hr (by decide) (by rfl) (pa_cons (pv 1) pa_nil)))
    (pss_cons (ps_if (pt_cmpR (show OpR _ _ (rEqP K) from op_eqP hr.units) (pv 2) pe_str (nomark _))
      (pss_cons (ps_set (i := 3) sc_read_on_device.nd rfl (.inl rfl) (C8.pe_c G_read_behind_word hr (by decide) (by rfl) (pa_cons (pe_kget hr.units (by rfl) T.tb_WISHES (C8.pe_c G_first_word hr (by decide) (by rfl) (pa_cons (pe_slice (show SlR _ (uSl K) from usl) (pv 1) (po_some pe_int) po_none) pa_nil)) ⟨rfl, rfl, rfl, rfl⟩) (pa_cons (pe_slice (show SlR _ (uSl K) from usl) (pv 1) (po_some pe_int) po_none) pa_nil))))
      (pss_cons (ps_if (pt_cmpR op_isN (pv 3) pe_non (nomark _))
        (pss_one (ps_ret pe_non))
        pss_nil)
      (pss_one (ps_ret (pe_tup (pa_cons pe_str (pa_cons (pv 0) (pa_cons (pv 3) pa_nil))))))))
      pss_nil)
    (pss_cons (ps_set (i := 4) sc_read_on_device.nd rfl (.inl rfl) (C8.pe_c G_read_behind_word hr (by decide) (by rfl) (pa_cons (pe_kget hr.units (by rfl) T.tb_DEEDS (pv 2) ⟨rfl, rfl, rfl, rfl⟩) (pa_cons (pv 1) pa_nil))))
    (pss_cons (ps_if (pt_cmpR op_notN (pv 4) pe_non (nomark _))
      (pss_one (ps_ret (pe_tup (pa_cons pe_str (pa_cons (pv 0) (pa_cons (pv 4) pa_nil))))))
      pss_nil)
    (pss_cons (ps_set (i := 5) sc_read_on_device.nd rfl (.inl rfl) (C8.pe_c G_read_behind_word hr (by decide) (by rfl) (pa_cons (pe_kget hr.units (by rfl) T.tb_ON_DEVICES (pv 2) ⟨rfl, rfl, rfl, rfl⟩) (pa_cons (pv 1) pa_nil))))
    (pss_cons (ps_if (pt_cmpR op_isN (pv 5) pe_non (nomark _))
      (pss_one (ps_ret pe_non))
      pss_nil)
    (pss_one (ps_ret (pe_op (show OpR _ _ (uAdd K) from uop_add) (pe_tup (pa_cons (pe_ix (show IxR _ (uIx K) from uix) (pv 5) pe_int (fun _ _ => rfl)) (pa_cons (pv 0) pa_nil))) (pe_slice (show SlR _ (uSl K) from usl) (pv 5) (po_some pe_int) po_none)))))))))), ?_⟩
  exact fn_ok (N := ["device", "parts", "word", "wished", "deed", "event"]) (show SmS K cl _ ps_read_on_device from
    (sm_seq (sm_asg (sm_call (sm_cons sm_var sm_nil)) sm_gname)
    (sm_seq (sm_ifS (sm_test (sm_op smr_eq sm_var sm_str))
      (sm_seq (sm_asg (sm_call (sm_cons (sm_kget (sm_call (sm_cons (sm_sl sm_var (sm_part sm_int) sm_noPart) sm_nil))) (sm_cons (sm_sl sm_var (sm_part sm_int) sm_noPart) sm_nil))) sm_gname)
      (sm_seq (sm_ifS (sm_test (sm_op smr_is sm_var sm_non))
        ((sm_ret sm_non))
        sm_next)
      ((sm_ret (sm_tup (sm_cons sm_str (sm_cons sm_var (sm_cons sm_var sm_nil))))))))
      sm_next)
    (sm_seq (sm_asg (sm_call (sm_cons (sm_kget sm_var) (sm_cons sm_var sm_nil))) sm_gname)
    (sm_seq (sm_ifS (sm_test (sm_op smr_ns sm_var sm_non))
      ((sm_ret (sm_tup (sm_cons sm_str (sm_cons sm_var (sm_cons sm_var sm_nil))))))
      sm_next)
    (sm_seq (sm_asg (sm_call (sm_cons (sm_kget sm_var) (sm_cons sm_var sm_nil))) sm_gname)
    (sm_seq (sm_ifS (sm_test (sm_op smr_is sm_var sm_non))
      ((sm_ret sm_non))
      sm_next)
    ((sm_ret (sm_op smr_add (sm_tup (sm_cons (sm_op smr_ix sm_var sm_int) (sm_cons sm_var sm_nil))) (sm_sl sm_var (sm_part sm_int) sm_noPart))))))))))) body_read_on_device h
def ps_read_event : PSx :=
    (pSeq (pAsg (pCall F_parts_of (pCons (pVar 0) pNil)) (pgName 1))
    (pSeq (pIfS (pB (pOp isk (pVar 1) (pC .non)))
      ((pRet (pC .non)))
      pNext)
    (pSeq (pIfS (pB (pOp eqk (pOp ixk (pOp ixk (pVar 1) (pC (.int 0))) (pC (.int 0))) (pC (.str (Str.ofString "number")))))
      ((pRet (pCall F_read_on_device (pCons (pOp ixk (pOp ixk (pVar 1) (pC (.int 0))) (pC (.int 1))) (pCons (pSl (pVar 1) (pPart (pC (.int 1))) pNoPart) pNil)))))
      pNext)
    ((pRet (pCall F_read_behind_word (pCons (pKget tab_ON_LETTERS (pCall F_first_word (pCons (pVar 1) pNil))) (pCons (pVar 1) pNil))))))))
theorem start_read_event : ∀ a0 : D, startE 2 [a0] = [some a0, none] := fun _ => rfl
theorem part_sm {l r : List Nat} {p : Pt} (h : partL l = some (p, r)) : ∀ t, p = .qt t → t.length ≤ l.length := by
  intro t ht
  subst ht
  obtain ⟨u, e, hp, _⟩ := part_inv h
  have hp : u = 34 :: (escL t ++ [34]) := hp
  have hl : ∀ t : List Nat, t.length ≤ (escL t).length := by
    intro t
    induction t with
    | nil => exact Nat.le_refl _
    | cons c t ih =>
      unfold escL at ih ⊢
      rw [List.flatMap_cons, List.length_append, List.length_cons]
      have : 1 ≤ (if c = 10 then [92, 110] else if c = 34 ∨ c = 92 then [92, c] else [c]).length := by
        split
        · decide
        · split
          · show 1 ≤ 2; decide
          · exact Nat.le_refl 1
      omega
  have := hl t
  rw [e, hp]
  simp
  omega
theorem PL_sm : ∀ (n : Nat) (l : List Nat) (ps : List Pt), l.length ≤ n → PL l = some ps → ∀ t, .qt t ∈ ps → t.length ≤ l.length := by
  intro n
  induction n with
  | zero =>
    intro l ps hl h
    rw [List.length_eq_zero_iff.mp (Nat.le_zero.mp hl)] at h
    cases h
  | succ n ih =>
    intro l ps hl h t ht
    cases e : partL l with
    | none => rw [PL_none e] at h; cases h
    | some q =>
      obtain ⟨p, r⟩ := q
      have hlt := part_lt e
      cases r with
      | nil =>
        rw [PL_end e] at h
        cases h
        exact part_sm e t (List.mem_singleton.mp ht).symm
      | cons c r =>
        by_cases hc : c = 32
        · subst hc
          rw [PL_on e] at h
          obtain ⟨qs, h1, h2⟩ := Option.map_eq_some_iff.mp h
          subst h2
          rw [List.length_cons] at hlt
          rcases List.mem_cons.mp ht with z | z
          · exact part_sm e t z.symm
          · have := ih r qs (by omega) h1 t z
            omega
        · rw [PL_no e hc] at h
          cases h
theorem pu_ev (ps : List Pt) : (oD (evF ps)).pure = true := by
  cases h : evF ps with
  | none => rfl
  | some e =>
    show e.pure = true
    cases ev_k h with
    | wish h1 h2 => simp only [D.pure, pureAll, forms_pure h2, dS, Bool.and_self]
    | prog h1 h2 => simp only [D.pure, pureAll, forms_pure h2, dS, Bool.and_self]
    | dev h1 h2 => simp only [D.pure, pureAll, forms_pure h2, dS, Bool.and_self]
    | lett h1 h2 => simp only [D.pure, pureAll, forms_pure h2, dS, Bool.and_self]
def F_read_event : PFn := fun ds k => ∃ l : List Nat, ds = [.str (SX.S l)] ∧ l.length ≤ 1000 ∧ k (oD (lineF l))
theorem len_read_event : ∀ ds k, F_read_event ds k → ds.length = 1 := by
  rintro _ _ ⟨_, rfl, _⟩
  rfl
theorem body_read_event : ∀ ds k, F_read_event ds k → ps_read_event { nx := fun _ _ => k .non, rt := fun d S => (d.frz S).noRef = true ∧ k (d.frz S) } (startE 2 ds) [] := by
  rintro _ k ⟨l, rfl, hl, hk⟩
  rw [start_read_event]
  unfold ps_read_event
  unfold lineF at hk
  simp only [pForD, pInsL, pExtA, pSeq, pAsg, pVar, pC, pOp, pNil, pCons, pTup, pLst, pLstM, pNot, pAndV, pOrV, pIf, pB, pAnd, pOr, pNotT, pNoPart, pPart, pCB, pUnN, pSl, pNext, pBreak, pCont, pRet, pRetN, pDrop, pIfS, pgName, pgNil, pgCons, pgTup_t, pAug, pApp, pYes, isk_non, nsk_non, isN_non, isN_bl, isN_int, isN_str, isN_tup, isN_lst, isN_ref, isN_obj, pTru, pFld, pStar, pMake, pSetF, pIt, pRng1, pRng2, forG, List.map_cons, List.map_nil, List.getElem?_cons_zero, List.getElem?_cons_succ, List.set_cons_zero, List.set_cons_succ, Option.some.injEq, exists_eq_left, exists_eq_left', true_and, and_true, wipeE, D.bl.injEq, D.int.injEq, D.str.injEq, D.tup.injEq, D.lst.injEq, Bool.not_true, decide_eq_true_eq, if_true, if_false, reduceIte, Bool.false_eq_true, Option.isNone_none, Option.isNone_some, Bool.not_false, List.length_nil, List.length_cons, List.nil_append, List.cons_append, D.ref.injEq, SO.lst.injEq, pCall, exists_const, and_self, Nat.zero_add, Nat.zero_le, Nat.reduceLeDiff, Nat.reduceAdd, eq_self, o_add, o_sub, o_mul, o_div, o_mod, o_cmp, o_int, o_lenl, o_lent, o_lens, o_tupl, o_tupt, o_min, o_max, q_int, ixk_tup, ixk_lst, ixk_scr, at0, at1, at2, at3, at4, at5, List.length_map]
  refine call_of rfl ⟨l, rfl, hl, ?_⟩
  cases hp : PL l with
  | none =>
    rw [hp] at hk
    simp only [pForD, pInsL, pExtA, pSeq, pAsg, pVar, pC, pOp, pNil, pCons, pTup, pLst, pLstM, pNot, pAndV, pOrV, pIf, pB, pAnd, pOr, pNotT, pNoPart, pPart, pCB, pUnN, pSl, pNext, pBreak, pCont, pRet, pRetN, pDrop, pIfS, pgName, pgNil, pgCons, pgTup_t, pAug, pApp, pYes, isk_non, nsk_non, isN_non, isN_bl, isN_int, isN_str, isN_tup, isN_lst, isN_ref, isN_obj, pTru, pFld, pStar, pMake, pSetF, pIt, pRng1, pRng2, forG, List.map_cons, List.map_nil, List.getElem?_cons_zero, List.getElem?_cons_succ, List.set_cons_zero, List.set_cons_succ, Option.some.injEq, exists_eq_left, exists_eq_left', true_and, and_true, wipeE, D.bl.injEq, D.int.injEq, D.str.injEq, D.tup.injEq, D.lst.injEq, Bool.not_true, decide_eq_true_eq, if_true, if_false, reduceIte, Bool.false_eq_true, Option.isNone_none, Option.isNone_some, Bool.not_false, List.length_nil, List.length_cons, List.nil_append, List.cons_append, D.ref.injEq, SO.lst.injEq, pCall, exists_const, and_self, Nat.zero_add, Nat.zero_le, Nat.reduceLeDiff, Nat.reduceAdd, eq_self, o_add, o_sub, o_mul, o_div, o_mod, o_cmp, o_int, o_lenl, o_lent, o_lens, o_tupl, o_tupt, o_min, o_max, q_int, ixk_tup, ixk_lst, ixk_scr, at0, at1, at2, at3, at4, at5, List.length_map, oPts]
    exact rt_pure rfl hk
  | some ps =>
    rw [hp] at hk
    have hs : SmPts ps := fun t ht => by
      have := PL_sm l.length l ps (Nat.le_refl _) hp t ht
      omega
    have hk : k (oD (evF ps)) := hk
    simp only [pForD, pInsL, pExtA, pSeq, pAsg, pVar, pC, pOp, pNil, pCons, pTup, pLst, pLstM, pNot, pAndV, pOrV, pIf, pB, pAnd, pOr, pNotT, pNoPart, pPart, pCB, pUnN, pSl, pNext, pBreak, pCont, pRet, pRetN, pDrop, pIfS, pgName, pgNil, pgCons, pgTup_t, pAug, pApp, pYes, isk_non, nsk_non, isN_non, isN_bl, isN_int, isN_str, isN_tup, isN_lst, isN_ref, isN_obj, pTru, pFld, pStar, pMake, pSetF, pIt, pRng1, pRng2, forG, List.map_cons, List.map_nil, List.getElem?_cons_zero, List.getElem?_cons_succ, List.set_cons_zero, List.set_cons_succ, Option.some.injEq, exists_eq_left, exists_eq_left', true_and, and_true, wipeE, D.bl.injEq, D.int.injEq, D.str.injEq, D.tup.injEq, D.lst.injEq, Bool.not_true, decide_eq_true_eq, if_true, if_false, reduceIte, Bool.false_eq_true, Option.isNone_none, Option.isNone_some, Bool.not_false, List.length_nil, List.length_cons, List.nil_append, List.cons_append, D.ref.injEq, SO.lst.injEq, pCall, exists_const, and_self, Nat.zero_add, Nat.zero_le, Nat.reduceLeDiff, Nat.reduceAdd, eq_self, o_add, o_sub, o_mul, o_div, o_mod, o_cmp, o_int, o_lenl, o_lent, o_lens, o_tupl, o_tupt, o_min, o_max, q_int, ixk_tup, ixk_lst, ixk_scr, at0, at1, at2, at3, at4, at5, List.length_map, oPts]
    refine Eq.mpr (if_neg (show ¬ Pw.isNon (ePts ps) = true from fun z => by cases z)) ?_
    cases ps with
    | nil => exact absurd hp (PL_ne l)
    | cons p r =>
      refine ix0 ?_
      have other : (∀ n, p ≠ .nm n) → pKget tab_ON_LETTERS (pCall F_first_word (pCons (pVar 1) pNil)) [some (.str (SX.S l)), some (ePts (p :: r))] [] fun x S1 => callk F_read_behind_word S1 [x, ePts (p :: r)] fun d => (D.frz S1 d).noRef = true ∧ k (D.frz S1 d) := fun hne => by
        have e : evF (p :: r) = (behF letT (p :: r)).map fun p => .tup (dS p.1 :: p.2) := by
          cases p with
          | nm n => exact absurd rfl (hne n)
          | wd _ => rfl
          | qt _ => rfl
        rw [e] at hk
        refine kget_is tab_let (o := oW (p :: r)) (fun kk h => ?_) ?_
        · simp only [pForD, pInsL, pExtA, pSeq, pAsg, pVar, pC, pOp, pNil, pCons, pTup, pLst, pLstM, pNot, pAndV, pOrV, pIf, pB, pAnd, pOr, pNotT, pNoPart, pPart, pCB, pUnN, pSl, pNext, pBreak, pCont, pRet, pRetN, pDrop, pIfS, pgName, pgNil, pgCons, pgTup_t, pAug, pApp, pYes, isk_non, nsk_non, isN_non, isN_bl, isN_int, isN_str, isN_tup, isN_lst, isN_ref, isN_obj, pTru, pFld, pStar, pMake, pSetF, pIt, pRng1, pRng2, forG, List.map_cons, List.map_nil, List.getElem?_cons_zero, List.getElem?_cons_succ, List.set_cons_zero, List.set_cons_succ, Option.some.injEq, exists_eq_left, exists_eq_left', true_and, and_true, wipeE, D.bl.injEq, D.int.injEq, D.str.injEq, D.tup.injEq, D.lst.injEq, Bool.not_true, decide_eq_true_eq, if_true, if_false, reduceIte, Bool.false_eq_true, Option.isNone_none, Option.isNone_some, Bool.not_false, List.length_nil, List.length_cons, List.nil_append, List.cons_append, D.ref.injEq, SO.lst.injEq, pCall, exists_const, and_self, Nat.zero_add, Nat.zero_le, Nat.reduceLeDiff, Nat.reduceAdd, eq_self, o_add, o_sub, o_mul, o_div, o_mod, o_cmp, o_int, o_lenl, o_lent, o_lens, o_tupl, o_tupt, o_min, o_max, q_int, ixk_tup, ixk_lst, ixk_scr, at0, at1, at2, at3, at4, at5, List.length_map]
          exact call_of (by simp only [pureAll, pu_ePts, Bool.and_self]) ⟨p :: r, rfl, h⟩
        refine call_of (by simp only [pureAll, pu_ePts, pu_oFms, Bool.and_self]) ⟨behT letT (p :: r), p :: r, rfl, hs, fun fs h => behT_len tabs_len.2.2.2 h, ?_⟩
        rw [beh_is]
        cases hb : behF letT (p :: r) with
        | none =>
          rw [hb] at hk
          exact rt_pure rfl hk
        | some q =>
          obtain ⟨w, ds⟩ := q
          rw [hb] at hk
          have hp := (beh_pure hb).1
          exact rt_pure (by simp only [D.pure, pureAll, hp, dS, Bool.and_self]) hk
      cases p with
      | nm n =>
        refine ixt (j := 0) rfl ?_
        refine Eq.mpr (q_word _ _ _ _) ⟨_, rfl, Eq.mpr (if_pos (by decide +kernel)) ?_⟩
        refine ix0 (ixt (j := 1) rfl ?_)
        refine sld (j := 1) ?_
        refine call_of (by simp only [pureAll, pu_ePts, D.pure, Bool.and_self]) ⟨n, r, rfl, hs.drop 1, ?_⟩
        exact rt_pure (pu_ev (.nm n :: r)) hk
      | wd w =>
        refine ixt (j := 0) rfl ?_
        exact Eq.mpr (q_word _ _ _ _) ⟨_, rfl, Eq.mpr (if_neg (by decide +kernel)) (other nofun)⟩
      | qt t =>
        refine ixt (j := 0) rfl ?_
        exact Eq.mpr (q_word _ _ _ _) ⟨_, rfl, Eq.mpr (if_neg (by decide +kernel)) (other nofun)⟩
theorem ok_read_event {P : Program} {w : World} {K : PySem.W.Frag} {cl : Cl} {mg : Str → Option Value} {base : Heap} (D : Df K mg "read_event" s_read_event ["line"]) (T : Txt K cl mg) (hw : cl.w = w) (G_parts_of : C8.Cal P w K mg base 4 "parts_of" (spP K cl F_parts_of) []) (G_first_word : C8.Cal P w K mg base 1 "first_word" (spP K cl F_first_word) []) (G_read_behind_word : C8.Cal P w K mg base 7 "read_behind_word" (spP K cl F_read_behind_word) []) (G_read_on_device : C8.Cal P w K mg base 8 "read_on_device" (spP K cl F_read_on_device) []) : C8.Cal P w K mg base 9 "read_event" (spP K cl F_read_event) [] := by
  subst hw
  refine D.cal sc_read_event (spP_len (n := 1) len_read_event) (fun f cdv  A outer s H vs Q E hr h => ?_)
  refine ⟨_,
    (pss_cons (ps_set (i := 1) sc_read_event.nd rfl (.inl rfl) (C8.pe_c G_parts_of hr (by decide) (by rfl) (pa_cons (pv 0) pa_nil)))
    (pss_cons (ps_if (pt_cmpR op_isN (pv 1) pe_non (nomark _))
      (pss_one (ps_ret pe_non))
      pss_nil)
    (pss_cons (ps_if (pt_cmpR (show OpR _ _ (rEqP K) from op_eqP hr.units) (pe_ix (show IxR _ (uIx K) from uix) (pe_ix (show IxR _ (uIx K) from uix) (pv 1) pe_int (fun _ _ => rfl)) pe_int (fun _ _ => rfl)) pe_str (nomark _))
      (pss_one (ps_ret (C8.pe_c G_read_on_device hr (by decide) (by rfl) (pa_cons (pe_ix (show IxR _ (uIx K) from uix) (pe_ix (show IxR _ (uIx K) from uix) (pv 1) pe_int (fun _ _ => rfl)) pe_int (fun _ _ => rfl)) (pa_cons (pe_slice (show SlR _ (uSl K) from usl) (pv 1) (po_some pe_int) po_none) pa_nil)))))
      pss_nil)
    (pss_one (ps_ret (C8.pe_c G_read_behind_word hr (by decide) (by rfl) (pa_cons (pe_kget hr.units (by rfl) T.tb_ON_LETTERS (C8.pe_c G_first_word hr (by decide) (by rfl) (pa_cons (pv 1) pa_nil)) ⟨rfl, rfl, rfl, rfl⟩) (pa_cons (pv 1) pa_nil)))))))), ?_⟩
  exact fn_ok (N := ["line", "parts"]) (show SmS K cl _ ps_read_event from
    (sm_seq (sm_asg (sm_call (sm_cons sm_var sm_nil)) sm_gname)
    (sm_seq (sm_ifS (sm_test (sm_op smr_is sm_var sm_non))
      ((sm_ret sm_non))
      sm_next)
    (sm_seq (sm_ifS (sm_test (sm_op smr_eq (sm_op smr_ix (sm_op smr_ix sm_var sm_int) sm_int) sm_str))
      ((sm_ret (sm_call (sm_cons (sm_op smr_ix (sm_op smr_ix sm_var sm_int) sm_int) (sm_cons (sm_sl sm_var (sm_part sm_int) sm_noPart) sm_nil)))))
      sm_next)
    ((sm_ret (sm_call (sm_cons (sm_kget (sm_call (sm_cons sm_var sm_nil))) (sm_cons sm_var sm_nil))))))))) body_read_event h
def pr_law_cells_1 : PSx :=
        (pSeq (pAsg (pOp modk (pCB int1k (pCons (pOp addk (pOp mulk (pOp addk (pOp addk (pVar 4) (pOp mulk (pC (.int 131)) (pVar 3))) (pC (.int 7))) (pC (.int 48271))) (pOp mulk (pOp mulk (pVar 3) (pVar 3)) (pC (.int 69621)))) pNil)) (pC (.int 1000000007))) (pgName 4))
        ((pAsg (pOp modk (pCB int1k (pCons (pOp mulk (pOp addk (pOp addk (pVar 4) (pOp mulk (pC (.int 17)) (pVar 3))) (pC (.int 3))) (pC (.int 2862933555777941757))) pNil)) (pC (.int 18446744073709551557))) (pgName 4))))
def pr_law_cells_2 : PSx :=
        (pSeq (pIfS (pB (pOp (cmpk fun i j => decide (i < j)) (pVar 4) (pC (.int 0))))
          ((pAsg (pOp subk (pC (.int 1)) (pOp mulk (pC (.int 2)) (pVar 4))) (pgName 4)))
          pNext)
        pr_law_cells_1)
def pr_law_cells_3 : PSx :=
      ((pApp (pVar 2) (pVar 4)))
def pr_law_cells_4 : PSx :=
      (pSeq (pIfS (pOr (pB (pOp (cmpk fun i j => decide (j ≤ i)) (pVar 3) (pCB lenk (pCons (pVar 0) pNil)))) (pB (pOp (cmpk fun i j => decide (i < j)) (pVar 4) (pC (.int 1000000000)))))
        (pSeq (pIfS (pB (pOp (cmpk fun i j => decide (j < i)) (pCB lenk (pCons (pVar 0) pNil)) (pC (.int 0))))
          ((pAsg (pCB int1k (pCons (pOp ixk (pVar 0) (pOp modk (pCB int1k (pCons (pVar 3) pNil)) (pCB lenk (pCons (pVar 0) pNil)))) pNil)) (pgName 4)))
          pNext)
        pr_law_cells_2)
        pNext)
      pr_law_cells_3)
def pr_law_cells_5 : PSx :=
      (pSeq (pIfS (pB (pOp (cmpk fun i j => decide (i < j)) (pVar 4) (pC (.int 0))))
        ((pAsg (pOp subk (pC (.int 1)) (pOp mulk (pC (.int 2)) (pVar 4))) (pgName 4)))
        pNext)
      pr_law_cells_4)
def pl_law_cells_1 : PSx :=
      (pSeq (pAsg (pC (.int 0)) (pgName 4))
      (pSeq (pIfS (pB (pOp (cmpk fun i j => decide (i < j)) (pVar 3) (pCB lenk (pCons (pVar 0) pNil))))
        ((pAsg (pCB int1k (pCons (pOp ixk (pVar 0) (pVar 3)) pNil)) (pgName 4)))
        pNext)
      pr_law_cells_5))
theorem pl_law_cells_1_d (P : PEnds) (env : Pw.Env) (S : Sto) : pl_law_cells_1 P env S = (
      (pSeq (pAsg (pC (.int 0)) (pgName 4))
      (pSeq (pIfS (pB (pOp (cmpk fun i j => decide (i < j)) (pVar 3) (pCB lenk (pCons (pVar 0) pNil))))
        ((pAsg (pCB int1k (pCons (pOp ixk (pVar 0) (pVar 3)) pNil)) (pgName 4)))
        pNext)
      pr_law_cells_5))) P env S := rfl
def ps_law_cells : PSx :=
    (pSeq (pAsg (pLstM pNil) (pgName 2))
    (pSeq (pFor (pRng1 (pCons (pVar 1) pNil)) (pgName 3) pl_law_cells_1)
    ((pRet (pVar 2)))))
theorem start_law_cells : ∀ a0 a1 : D, startE 5 [a0, a1] = [some a0, some a1, none, none, none] := fun _ _ => rfl
theorem loop_law_cells (ns : List Int) (hns : ns.length ≤ 63) (c0 : D) (P : PEnds) : ∀ (is : List Nat) (acc : List Int) (x1 x2 : Option D), (∀ i ∈ is, i < 1000) → acc.length + is.length ≤ 1000 →
    (∀ (rs : List Int) (x1 x2 : Option D), rs.length = acc.length + is.length → P.nx [some (.scr (ns.map D.int)), some c0, some (.ref 0), x1, x2] [.lst (rs.map D.int)]) →
    forG (pgName 3) pl_law_cells_1 P (is.map fun (i : Nat) => D.int (i : Int)) [some (.scr (ns.map D.int)), some c0, some (.ref 0), x1, x2] [.lst (acc.map D.int)] := by
  intro is
  induction is with
  | nil => exact fun acc x1 x2 _ _ h => h acc x1 x2 (by simp)
  | cons i is ih =>
    intro acc x1 x2 hb0 hl h
    have hi0 := hb0 i List.mem_cons_self
    have hb' : ∀ i ∈ is, i < 1000 := fun j hj => hb0 j (List.mem_cons_of_mem _ hj)
    rw [List.length_cons] at hl h
    have r3 : ∀ c : Int, pr_law_cells_3 { P with nx := forG (pgName 3) pl_law_cells_1 P (is.map fun (i : Nat) => D.int (i : Int)), ct := forG (pgName 3) pl_law_cells_1 P (is.map fun (i : Nat) => D.int (i : Int)), bk := P.nx } [some (.scr (ns.map D.int)), some c0, some (.ref 0), some (.int i), some (.int c)] [.lst (acc.map D.int)] := by
      intro c
      unfold pr_law_cells_3
      simp only [pForD, pInsL, pExtA, pSeq, pAsg, pVar, pC, pOp, pNil, pCons, pTup, pLst, pLstM, pNot, pAndV, pOrV, pIf, pB, pAnd, pOr, pNotT, pNoPart, pPart, pCB, pUnN, pSl, pNext, pBreak, pCont, pRet, pRetN, pDrop, pIfS, pgName, pgNil, pgCons, pgTup_t, pAug, pApp, pYes, isk_non, nsk_non, isN_non, isN_bl, isN_int, isN_str, isN_tup, isN_lst, isN_ref, isN_obj, pTru, pFld, pStar, pMake, pSetF, pIt, pRng1, pRng2, forG, List.map_cons, List.map_nil, List.getElem?_cons_zero, List.getElem?_cons_succ, List.set_cons_zero, List.set_cons_succ, Option.some.injEq, exists_eq_left, exists_eq_left', true_and, and_true, wipeE, D.bl.injEq, D.int.injEq, D.str.injEq, D.tup.injEq, D.lst.injEq, Bool.not_true, decide_eq_true_eq, if_true, if_false, reduceIte, Bool.false_eq_true, Option.isNone_none, Option.isNone_some, Bool.not_false, List.length_nil, List.length_cons, List.nil_append, List.cons_append, D.ref.injEq, SO.lst.injEq, pCall, exists_const, and_self, Nat.zero_add, Nat.zero_le, Nat.reduceLeDiff, Nat.reduceAdd, eq_self, o_add, o_sub, o_mul, o_div, o_mod, o_cmp, o_int, o_lenl, o_lent, o_lens, o_tupl, o_tupt, o_min, o_max, q_int, ixk_tup, ixk_lst, ixk_scr, at0, at1, at2, at3, at4, at5, List.length_map]
      refine ⟨by omega, ?_⟩
      have := ih (acc ++ [c]) (some (.int i)) (some (.int c)) hb' (by rw [List.length_append, List.length_singleton]; omega) (fun rs x1 x2 hr => h rs x1 x2 (by rw [hr, List.length_append, List.length_singleton]; omega))
      rw [List.map_append] at this
      exact this
    have r1 : ∀ c : Int, pr_law_cells_1 { P with nx := pr_law_cells_3 { P with nx := forG (pgName 3) pl_law_cells_1 P (is.map fun (i : Nat) => D.int (i : Int)), ct := forG (pgName 3) pl_law_cells_1 P (is.map fun (i : Nat) => D.int (i : Int)), bk := P.nx }, ct := forG (pgName 3) pl_law_cells_1 P (is.map fun (i : Nat) => D.int (i : Int)), bk := P.nx } [some (.scr (ns.map D.int)), some c0, some (.ref 0), some (.int i), some (.int c)] [.lst (acc.map D.int)] := by
      intro c
      unfold pr_law_cells_1
      simp only [pForD, pInsL, pExtA, pSeq, pAsg, pVar, pC, pOp, pNil, pCons, pTup, pLst, pLstM, pNot, pAndV, pOrV, pIf, pB, pAnd, pOr, pNotT, pNoPart, pPart, pCB, pUnN, pSl, pNext, pBreak, pCont, pRet, pRetN, pDrop, pIfS, pgName, pgNil, pgCons, pgTup_t, pAug, pApp, pYes, isk_non, nsk_non, isN_non, isN_bl, isN_int, isN_str, isN_tup, isN_lst, isN_ref, isN_obj, pTru, pFld, pStar, pMake, pSetF, pIt, pRng1, pRng2, forG, List.map_cons, List.map_nil, List.getElem?_cons_zero, List.getElem?_cons_succ, List.set_cons_zero, List.set_cons_succ, Option.some.injEq, exists_eq_left, exists_eq_left', true_and, and_true, wipeE, D.bl.injEq, D.int.injEq, D.str.injEq, D.tup.injEq, D.lst.injEq, Bool.not_true, decide_eq_true_eq, if_true, if_false, reduceIte, Bool.false_eq_true, Option.isNone_none, Option.isNone_some, Bool.not_false, List.length_nil, List.length_cons, List.nil_append, List.cons_append, D.ref.injEq, SO.lst.injEq, pCall, exists_const, and_self, Nat.zero_add, Nat.zero_le, Nat.reduceLeDiff, Nat.reduceAdd, eq_self, o_add, o_sub, o_mul, o_div, o_mod, o_cmp, o_int, o_lenl, o_lent, o_lens, o_tupl, o_tupt, o_min, o_max, q_int, ixk_tup, ixk_lst, ixk_scr, at0, at1, at2, at3, at4, at5, List.length_map]
      exact ⟨.inl (by decide), .inr (by decide), .inl (by omega), .inr (by decide), by decide, .inl (by decide), .inr (by decide), by decide, r3 _⟩
    have r2 : ∀ c : Int, pr_law_cells_2 { P with nx := pr_law_cells_3 { P with nx := forG (pgName 3) pl_law_cells_1 P (is.map fun (i : Nat) => D.int (i : Int)), ct := forG (pgName 3) pl_law_cells_1 P (is.map fun (i : Nat) => D.int (i : Int)), bk := P.nx }, ct := forG (pgName 3) pl_law_cells_1 P (is.map fun (i : Nat) => D.int (i : Int)), bk := P.nx } [some (.scr (ns.map D.int)), some c0, some (.ref 0), some (.int i), some (.int c)] [.lst (acc.map D.int)] := by
      intro c
      unfold pr_law_cells_2
      simp only [pForD, pInsL, pExtA, pSeq, pAsg, pVar, pC, pOp, pNil, pCons, pTup, pLst, pLstM, pNot, pAndV, pOrV, pIf, pB, pAnd, pOr, pNotT, pNoPart, pPart, pCB, pUnN, pSl, pNext, pBreak, pCont, pRet, pRetN, pDrop, pIfS, pgName, pgNil, pgCons, pgTup_t, pAug, pApp, pYes, isk_non, nsk_non, isN_non, isN_bl, isN_int, isN_str, isN_tup, isN_lst, isN_ref, isN_obj, pTru, pFld, pStar, pMake, pSetF, pIt, pRng1, pRng2, forG, List.map_cons, List.map_nil, List.getElem?_cons_zero, List.getElem?_cons_succ, List.set_cons_zero, List.set_cons_succ, Option.some.injEq, exists_eq_left, exists_eq_left', true_and, and_true, wipeE, D.bl.injEq, D.int.injEq, D.str.injEq, D.tup.injEq, D.lst.injEq, Bool.not_true, decide_eq_true_eq, if_true, if_false, reduceIte, Bool.false_eq_true, Option.isNone_none, Option.isNone_some, Bool.not_false, List.length_nil, List.length_cons, List.nil_append, List.cons_append, D.ref.injEq, SO.lst.injEq, pCall, exists_const, and_self, Nat.zero_add, Nat.zero_le, Nat.reduceLeDiff, Nat.reduceAdd, eq_self, o_add, o_sub, o_mul, o_div, o_mod, o_cmp, o_int, o_lenl, o_lent, o_lens, o_tupl, o_tupt, o_min, o_max, q_int, ixk_tup, ixk_lst, ixk_scr, at0, at1, at2, at3, at4, at5, List.length_map]
      split
      · exact ⟨.inl (by decide), r1 _⟩
      · exact r1 _
    have r4 : ∀ c : Int, pr_law_cells_4 { P with nx := forG (pgName 3) pl_law_cells_1 P (is.map fun (i : Nat) => D.int (i : Int)), ct := forG (pgName 3) pl_law_cells_1 P (is.map fun (i : Nat) => D.int (i : Int)), bk := P.nx } [some (.scr (ns.map D.int)), some c0, some (.ref 0), some (.int i), some (.int c)] [.lst (acc.map D.int)] := by
      intro c
      have inner : (if (0 : Int) < ((ns.length : Nat) : Int) then 0 < ((ns.length : Nat) : Int) ∧ ∃ d, atI (ns.map D.int) ((i : Int) % ((ns.length : Nat) : Int)) = some d ∧ int1k [.lst (acc.map D.int)] [d] fun d => pr_law_cells_2 { P with nx := pr_law_cells_3 { P with nx := forG (pgName 3) pl_law_cells_1 P (is.map fun (i : Nat) => D.int (i : Int)), ct := forG (pgName 3) pl_law_cells_1 P (is.map fun (i : Nat) => D.int (i : Int)), bk := P.nx }, ct := forG (pgName 3) pl_law_cells_1 P (is.map fun (i : Nat) => D.int (i : Int)), bk := P.nx } [some (.scr (ns.map D.int)), some c0, some (.ref 0), some (.int i), some d] [.lst (acc.map D.int)] else pr_law_cells_2 { P with nx := pr_law_cells_3 { P with nx := forG (pgName 3) pl_law_cells_1 P (is.map fun (i : Nat) => D.int (i : Int)), ct := forG (pgName 3) pl_law_cells_1 P (is.map fun (i : Nat) => D.int (i : Int)), bk := P.nx }, ct := forG (pgName 3) pl_law_cells_1 P (is.map fun (i : Nat) => D.int (i : Int)), bk := P.nx } [some (.scr (ns.map D.int)), some c0, some (.ref 0), some (.int i), some (.int c)] [.lst (acc.map D.int)]) := by
        by_cases hp : (0 : Int) < ((ns.length : Nat) : Int)
        · rw [if_pos hp]
          have h0 := Int.emod_nonneg (i : Int) (show ((ns.length : Nat) : Int) ≠ 0 by omega)
          have h1 := Int.emod_lt_of_pos (i : Int) hp
          have hix : ((i : Int) % ((ns.length : Nat) : Int)).toNat < ns.length := by omega
          have hat := at_map (f := D.int) (List.getElem?_eq_getElem hix)
          rw [Int.toNat_of_nonneg h0] at hat
          exact ⟨hp, _, hat, r2 _⟩
        · rw [if_neg hp]
          exact r2 _
      unfold pr_law_cells_4
      simp only [pForD, pInsL, pExtA, pSeq, pAsg, pVar, pC, pOp, pNil, pCons, pTup, pLst, pLstM, pNot, pAndV, pOrV, pIf, pB, pAnd, pOr, pNotT, pNoPart, pPart, pCB, pUnN, pSl, pNext, pBreak, pCont, pRet, pRetN, pDrop, pIfS, pgName, pgNil, pgCons, pgTup_t, pAug, pApp, pYes, isk_non, nsk_non, isN_non, isN_bl, isN_int, isN_str, isN_tup, isN_lst, isN_ref, isN_obj, pTru, pFld, pStar, pMake, pSetF, pIt, pRng1, pRng2, forG, List.map_cons, List.map_nil, List.getElem?_cons_zero, List.getElem?_cons_succ, List.set_cons_zero, List.set_cons_succ, Option.some.injEq, exists_eq_left, exists_eq_left', true_and, and_true, wipeE, D.bl.injEq, D.int.injEq, D.str.injEq, D.tup.injEq, D.lst.injEq, Bool.not_true, decide_eq_true_eq, if_true, if_false, reduceIte, Bool.false_eq_true, Option.isNone_none, Option.isNone_some, Bool.not_false, List.length_nil, List.length_cons, List.nil_append, List.cons_append, D.ref.injEq, SO.lst.injEq, pCall, exists_const, and_self, Nat.zero_add, Nat.zero_le, Nat.reduceLeDiff, Nat.reduceAdd, eq_self, o_add, o_sub, o_mul, o_div, o_mod, o_cmp, o_int, o_lenl, o_lent, o_lens, o_tupl, o_tupt, o_min, o_max, q_int, ixk_tup, ixk_lst, ixk_scr, at0, at1, at2, at3, at4, at5, List.length_map]
      split
      · exact inner
      · split
        · exact inner
        · exact r3 _
    have r5 : ∀ c : Int, pr_law_cells_5 { P with nx := forG (pgName 3) pl_law_cells_1 P (is.map fun (i : Nat) => D.int (i : Int)), ct := forG (pgName 3) pl_law_cells_1 P (is.map fun (i : Nat) => D.int (i : Int)), bk := P.nx } [some (.scr (ns.map D.int)), some c0, some (.ref 0), some (.int i), some (.int c)] [.lst (acc.map D.int)] := by
      intro c
      unfold pr_law_cells_5
      simp only [pForD, pInsL, pExtA, pSeq, pAsg, pVar, pC, pOp, pNil, pCons, pTup, pLst, pLstM, pNot, pAndV, pOrV, pIf, pB, pAnd, pOr, pNotT, pNoPart, pPart, pCB, pUnN, pSl, pNext, pBreak, pCont, pRet, pRetN, pDrop, pIfS, pgName, pgNil, pgCons, pgTup_t, pAug, pApp, pYes, isk_non, nsk_non, isN_non, isN_bl, isN_int, isN_str, isN_tup, isN_lst, isN_ref, isN_obj, pTru, pFld, pStar, pMake, pSetF, pIt, pRng1, pRng2, forG, List.map_cons, List.map_nil, List.getElem?_cons_zero, List.getElem?_cons_succ, List.set_cons_zero, List.set_cons_succ, Option.some.injEq, exists_eq_left, exists_eq_left', true_and, and_true, wipeE, D.bl.injEq, D.int.injEq, D.str.injEq, D.tup.injEq, D.lst.injEq, Bool.not_true, decide_eq_true_eq, if_true, if_false, reduceIte, Bool.false_eq_true, Option.isNone_none, Option.isNone_some, Bool.not_false, List.length_nil, List.length_cons, List.nil_append, List.cons_append, D.ref.injEq, SO.lst.injEq, pCall, exists_const, and_self, Nat.zero_add, Nat.zero_le, Nat.reduceLeDiff, Nat.reduceAdd, eq_self, o_add, o_sub, o_mul, o_div, o_mod, o_cmp, o_int, o_lenl, o_lent, o_lens, o_tupl, o_tupt, o_min, o_max, q_int, ixk_tup, ixk_lst, ixk_scr, at0, at1, at2, at3, at4, at5, List.length_map]
      split
      · exact ⟨.inl (by decide), r4 _⟩
      · exact r4 _
    simp only [pForD, pInsL, pExtA, pSeq, pAsg, pVar, pC, pOp, pNil, pCons, pTup, pLst, pLstM, pNot, pAndV, pOrV, pIf, pB, pAnd, pOr, pNotT, pNoPart, pPart, pCB, pUnN, pSl, pNext, pBreak, pCont, pRet, pRetN, pDrop, pIfS, pgName, pgNil, pgCons, pgTup_t, pAug, pApp, pYes, isk_non, nsk_non, isN_non, isN_bl, isN_int, isN_str, isN_tup, isN_lst, isN_ref, isN_obj, pTru, pFld, pStar, pMake, pSetF, pIt, pRng1, pRng2, forG, List.map_cons, List.map_nil, List.getElem?_cons_zero, List.getElem?_cons_succ, List.set_cons_zero, List.set_cons_succ, Option.some.injEq, exists_eq_left, exists_eq_left', true_and, and_true, wipeE, D.bl.injEq, D.int.injEq, D.str.injEq, D.tup.injEq, D.lst.injEq, Bool.not_true, decide_eq_true_eq, if_true, if_false, reduceIte, Bool.false_eq_true, Option.isNone_none, Option.isNone_some, Bool.not_false, List.length_nil, List.length_cons, List.nil_append, List.cons_append, D.ref.injEq, SO.lst.injEq, pCall, exists_const, and_self, Nat.zero_add, Nat.zero_le, Nat.reduceLeDiff, Nat.reduceAdd, eq_self, o_add, o_sub, o_mul, o_div, o_mod, o_cmp, o_int, o_lenl, o_lent, o_lens, o_tupl, o_tupt, o_min, o_max, q_int, ixk_tup, ixk_lst, ixk_scr, at0, at1, at2, at3, at4, at5, List.length_map, pl_law_cells_1_d]
    by_cases hb : (i : Int) < (ns.length : Int)
    · rw [if_pos hb]
      have hi : i < ns.length := by omega
      refine ⟨.int ns[i], at_map (List.getElem?_eq_getElem hi), ?_⟩
      simp only [pForD, pInsL, pExtA, pSeq, pAsg, pVar, pC, pOp, pNil, pCons, pTup, pLst, pLstM, pNot, pAndV, pOrV, pIf, pB, pAnd, pOr, pNotT, pNoPart, pPart, pCB, pUnN, pSl, pNext, pBreak, pCont, pRet, pRetN, pDrop, pIfS, pgName, pgNil, pgCons, pgTup_t, pAug, pApp, pYes, isk_non, nsk_non, isN_non, isN_bl, isN_int, isN_str, isN_tup, isN_lst, isN_ref, isN_obj, pTru, pFld, pStar, pMake, pSetF, pIt, pRng1, pRng2, forG, List.map_cons, List.map_nil, List.getElem?_cons_zero, List.getElem?_cons_succ, List.set_cons_zero, List.set_cons_succ, Option.some.injEq, exists_eq_left, exists_eq_left', true_and, and_true, wipeE, D.bl.injEq, D.int.injEq, D.str.injEq, D.tup.injEq, D.lst.injEq, Bool.not_true, decide_eq_true_eq, if_true, if_false, reduceIte, Bool.false_eq_true, Option.isNone_none, Option.isNone_some, Bool.not_false, List.length_nil, List.length_cons, List.nil_append, List.cons_append, D.ref.injEq, SO.lst.injEq, pCall, exists_const, and_self, Nat.zero_add, Nat.zero_le, Nat.reduceLeDiff, Nat.reduceAdd, eq_self, o_add, o_sub, o_mul, o_div, o_mod, o_cmp, o_int, o_lenl, o_lent, o_lens, o_tupl, o_tupt, o_min, o_max, q_int, ixk_tup, ixk_lst, ixk_scr, at0, at1, at2, at3, at4, at5, List.length_map]
      exact r5 _
    · rw [if_neg hb]
      exact r5 _
def F_law_cells : PFn := fun ds k => ∃ (ns : List Int) (n : Nat), ds = [.scr (ns.map D.int), .int (n : Int)] ∧ ns.length ≤ 63 ∧ n ≤ 1000 ∧ ∀ rs : List Int, rs.length = n → k (.lst (rs.map D.int))
theorem len_law_cells : ∀ ds k, F_law_cells ds k → ds.length = 2 := by
  rintro _ _ ⟨_, _, rfl, _⟩
  rfl
theorem pu_intsL : ∀ rs : List Int, pureAll (rs.map D.int) = true
  | [] => rfl
  | r :: rs => by rw [List.map_cons, pureAll, pu_intsL rs]; rfl
theorem body_law_cells : ∀ ds k, F_law_cells ds k → ps_law_cells { nx := fun _ _ => k .non, rt := fun d S => (d.frz S).noRef = true ∧ k (d.frz S) } (startE 5 ds) [] := by
  rintro _ k ⟨ns, n, rfl, hl, hn, hk⟩
  rw [start_law_cells]
  unfold ps_law_cells
  simp only [pForD, pInsL, pExtA, pSeq, pAsg, pVar, pC, pOp, pNil, pCons, pTup, pLst, pLstM, pNot, pAndV, pOrV, pIf, pB, pAnd, pOr, pNotT, pNoPart, pPart, pCB, pUnN, pSl, pNext, pBreak, pCont, pRet, pRetN, pDrop, pIfS, pgName, pgNil, pgCons, pgTup_t, pAug, pApp, pYes, isk_non, nsk_non, isN_non, isN_bl, isN_int, isN_str, isN_tup, isN_lst, isN_ref, isN_obj, pTru, pFld, pStar, pMake, pSetF, pIt, pRng1, pRng2, forG, List.map_cons, List.map_nil, List.getElem?_cons_zero, List.getElem?_cons_succ, List.set_cons_zero, List.set_cons_succ, Option.some.injEq, exists_eq_left, exists_eq_left', true_and, and_true, wipeE, D.bl.injEq, D.int.injEq, D.str.injEq, D.tup.injEq, D.lst.injEq, Bool.not_true, decide_eq_true_eq, if_true, if_false, reduceIte, Bool.false_eq_true, Option.isNone_none, Option.isNone_some, Bool.not_false, List.length_nil, List.length_cons, List.nil_append, List.cons_append, D.ref.injEq, SO.lst.injEq, pCall, exists_const, and_self, Nat.zero_add, Nat.zero_le, Nat.reduceLeDiff, Nat.reduceAdd, eq_self, o_add, o_sub, o_mul, o_div, o_mod, o_cmp, o_int, o_lenl, o_lent, o_lens, o_tupl, o_tupt, o_min, o_max, q_int, ixk_tup, ixk_lst, ixk_scr, at0, at1, at2, at3, at4, at5, List.length_map]
  refine for_go (src := .lst (rngD n)) (ds := rngD n) (fun kk h => ⟨_, rfl, _, rfl, ⟨by omega, by omega⟩, h⟩) (fun S => rfl) ?_
  refine loop_law_cells ns hl _ _ (List.range n) [] _ _ (fun i hi => by have := List.mem_range.mp hi; omega) (by rw [List.length_range, List.length_nil]; omega) (fun rs x1 x2 hr => ?_)
  simp only [pForD, pInsL, pExtA, pSeq, pAsg, pVar, pC, pOp, pNil, pCons, pTup, pLst, pLstM, pNot, pAndV, pOrV, pIf, pB, pAnd, pOr, pNotT, pNoPart, pPart, pCB, pUnN, pSl, pNext, pBreak, pCont, pRet, pRetN, pDrop, pIfS, pgName, pgNil, pgCons, pgTup_t, pAug, pApp, pYes, isk_non, nsk_non, isN_non, isN_bl, isN_int, isN_str, isN_tup, isN_lst, isN_ref, isN_obj, pTru, pFld, pStar, pMake, pSetF, pIt, pRng1, pRng2, forG, List.map_cons, List.map_nil, List.getElem?_cons_zero, List.getElem?_cons_succ, List.set_cons_zero, List.set_cons_succ, Option.some.injEq, exists_eq_left, exists_eq_left', true_and, and_true, wipeE, D.bl.injEq, D.int.injEq, D.str.injEq, D.tup.injEq, D.lst.injEq, Bool.not_true, decide_eq_true_eq, if_true, if_false, reduceIte, Bool.false_eq_true, Option.isNone_none, Option.isNone_some, Bool.not_false, List.length_nil, List.length_cons, List.nil_append, List.cons_append, D.ref.injEq, SO.lst.injEq, pCall, exists_const, and_self, Nat.zero_add, Nat.zero_le, Nat.reduceLeDiff, Nat.reduceAdd, eq_self, o_add, o_sub, o_mul, o_div, o_mod, o_cmp, o_int, o_lenl, o_lent, o_lens, o_tupl, o_tupt, o_min, o_max, q_int, ixk_tup, ixk_lst, ixk_scr, at0, at1, at2, at3, at4, at5, List.length_map]
  rw [List.length_range, List.length_nil, Nat.zero_add] at hr
  exact ⟨pure_noRef _ (show (D.lst (rs.map D.int)).pure = true from pu_intsL rs), hk rs hr⟩
theorem ok_law_cells {P : Program} {w : World} {K : PySem.W.Frag} {cl : Cl} {mg : Str → Option Value} {base : Heap} (D : Df K mg "_law_cells" s_law_cells ["script", "count"]) (T : Txt K cl mg) (hw : cl.w = w)  : C8.Cal P w K mg base 1 "_law_cells" (spP K cl F_law_cells) [] := by
  subst hw
  refine D.cal sc_law_cells (spP_len (n := 2) len_law_cells) (fun f cdv  A outer s H vs Q E hr h => ?_)
  refine ⟨_,
    (pss_cons (ps_set (i := 2) sc_law_cells.nd rfl (.inl rfl) (pe_lst pa_nil))
    (pss_cons (ps_for PassesOwn.never rfl (pi_range1 (by rfl) T.n_range (pa_cons (pv 1) pa_nil)) (pg_name (i := 3) sc_law_cells.nd rfl (Or.inl rfl))
      (pss_cons (ps_set (i := 4) sc_law_cells.nd rfl (.inl rfl) pe_int)
      (pss_cons (ps_if (pt_cmpR op_lt (pv 3) (pe_callB (show CallR _ (.builtin "len") (uLen K) from ucall_len) (by rfl) T.n_len PySem.boot_len (pa_cons (pv 0) pa_nil)) (nomark _))
        (pss_one (ps_set (i := 4) sc_law_cells.nd rfl (.inl rfl) (pe_callTy call_int1 (by rfl) T.n_int (by decide +kernel) (pa_cons (pe_ix (show IxR _ (uIx K) from uix) (pv 0) (pv 3) (fun _ _ => rfl)) pa_nil))))
        pss_nil)
      (pss_cons (ps_if (pt_cmpR op_lt (pv 4) pe_int (nomark _))
        (pss_one (ps_set (i := 4) sc_law_cells.nd rfl (.inl rfl) (pe_op op_sub pe_int (pe_op uop_mul pe_int (pv 4)))))
        pss_nil)
      (pss_cons (ps_if (PW.pt (pw_or (pt_cmpR op_ge (pv 3) (pe_callB (show CallR _ (.builtin "len") (uLen K) from ucall_len) (by rfl) T.n_len PySem.boot_len (pa_cons (pv 0) pa_nil)) (nomark _)) (pw_or1 (pt_cmpR op_lt (pv 4) pe_int (nomark _)))))
        (pss_cons (ps_if (pt_cmpR op_gt (pe_callB (show CallR _ (.builtin "len") (uLen K) from ucall_len) (by rfl) T.n_len PySem.boot_len (pa_cons (pv 0) pa_nil)) pe_int (nomark _))
          (pss_one (ps_set (i := 4) sc_law_cells.nd rfl (.inl rfl) (pe_callTy call_int1 (by rfl) T.n_int (by decide +kernel) (pa_cons (pe_ix (show IxR _ (uIx K) from uix) (pv 0) (pe_op op_mod (pe_callTy call_int1 (by rfl) T.n_int (by decide +kernel) (pa_cons (pv 3) pa_nil)) (pe_callB (show CallR _ (.builtin "len") (uLen K) from ucall_len) (by rfl) T.n_len PySem.boot_len (pa_cons (pv 0) pa_nil))) (fun _ _ => rfl)) pa_nil))))
          pss_nil)
        (pss_cons (ps_if (pt_cmpR op_lt (pv 4) pe_int (nomark _))
          (pss_one (ps_set (i := 4) sc_law_cells.nd rfl (.inl rfl) (pe_op op_sub pe_int (pe_op uop_mul pe_int (pv 4)))))
          pss_nil)
        (pss_cons (ps_set (i := 4) sc_law_cells.nd rfl (.inl rfl) (pe_op op_mod (pe_callTy call_int1 (by rfl) T.n_int (by decide +kernel) (pa_cons (pe_op (show OpR _ _ (uAdd K) from uop_add) (pe_op uop_mul (pe_op (show OpR _ _ (uAdd K) from uop_add) (pe_op (show OpR _ _ (uAdd K) from uop_add) (pv 4) (pe_op uop_mul pe_int (pv 3))) pe_int) pe_int) (pe_op uop_mul (pe_op uop_mul (pv 3) (pv 3)) pe_int)) pa_nil)) pe_int))
        (pss_one (ps_set (i := 4) sc_law_cells.nd rfl (.inl rfl) (pe_op op_mod (pe_callTy call_int1 (by rfl) T.n_int (by decide +kernel) (pa_cons (pe_op uop_mul (pe_op (show OpR _ _ (uAdd K) from uop_add) (pe_op (show OpR _ _ (uAdd K) from uop_add) (pv 4) (pe_op uop_mul pe_int (pv 3))) pe_int) pe_int) pa_nil)) pe_int))))))
        pss_nil)
      (pss_one (ps_expr (pe_bm PySem.F.plainAttrs_list PySem.F.slot_list_append PySem.F.type_list_append mt_append (pv 2) (pa_cons (pv 4) pa_nil)))))))))
    (pss_one (ps_ret (pv 2))))), ?_⟩
  exact fn_ok (N := ["script", "count", "cells", "k", "cell"]) (show SmS K cl _ ps_law_cells from
    (sm_seq (sm_asg (sm_lstM sm_nil) sm_gname)
    (sm_seq (sm_for (sm_rng1 (sm_cons sm_var sm_nil)) sm_gname
      (sm_seq (sm_asg sm_int sm_gname)
      (sm_seq (sm_ifS (sm_test (sm_op smr_cmp sm_var (sm_cb smc_len (sm_cons sm_var sm_nil))))
        ((sm_asg (sm_cb smc_int (sm_cons (sm_op smr_ix sm_var sm_var) sm_nil)) sm_gname))
        sm_next)
      (sm_seq (sm_ifS (sm_test (sm_op smr_cmp sm_var sm_int))
        ((sm_asg (sm_op smr_sub sm_int (sm_op smr_mul sm_int sm_var)) sm_gname))
        sm_next)
      (sm_seq (sm_ifS (sm_or (sm_test (sm_op smr_cmp sm_var (sm_cb smc_len (sm_cons sm_var sm_nil)))) (sm_test (sm_op smr_cmp sm_var sm_int)))
        (sm_seq (sm_ifS (sm_test (sm_op smr_cmp (sm_cb smc_len (sm_cons sm_var sm_nil)) sm_int))
          ((sm_asg (sm_cb smc_int (sm_cons (sm_op smr_ix sm_var (sm_op smr_mod (sm_cb smc_int (sm_cons sm_var sm_nil)) (sm_cb smc_len (sm_cons sm_var sm_nil)))) sm_nil)) sm_gname))
          sm_next)
        (sm_seq (sm_ifS (sm_test (sm_op smr_cmp sm_var sm_int))
          ((sm_asg (sm_op smr_sub sm_int (sm_op smr_mul sm_int sm_var)) sm_gname))
          sm_next)
        (sm_seq (sm_asg (sm_op smr_mod (sm_cb smc_int (sm_cons (sm_op smr_add (sm_op smr_mul (sm_op smr_add (sm_op smr_add sm_var (sm_op smr_mul sm_int sm_var)) sm_int) sm_int) (sm_op smr_mul (sm_op smr_mul sm_var sm_var) sm_int)) sm_nil)) sm_int) sm_gname)
        ((sm_asg (sm_op smr_mod (sm_cb smc_int (sm_cons (sm_op smr_mul (sm_op smr_add (sm_op smr_add sm_var (sm_op smr_mul sm_int sm_var)) sm_int) sm_int) sm_nil)) sm_int) sm_gname)))))
        sm_next)
      ((sm_app sm_var sm_var)))))))
    ((sm_ret sm_var))))) body_law_cells h
def pl_law_quoted_1 : PSx :=
      ((pIfS (pB (pOp eqk (pVar 2) (pC (.str (Str.ofString "\n")))))
        ((pApp (pVar 1) (pC (.str (Str.ofString "\\n")))))
        ((pIfS (pOr (pB (pOp eqk (pVar 2) (pC (.str (Str.ofString "\""))))) (pB (pOp eqk (pVar 2) (pC (.str (Str.ofString "\\"))))))
          ((pApp (pVar 1) (pOp addk (pC (.str (Str.ofString "\\"))) (pVar 2))))
          ((pApp (pVar 1) (pVar 2)))))))
theorem pl_law_quoted_1_d (P : PEnds) (env : Pw.Env) (S : Sto) : pl_law_quoted_1 P env S = (
      ((pIfS (pB (pOp eqk (pVar 2) (pC (.str (Str.ofString "\n")))))
        ((pApp (pVar 1) (pC (.str (Str.ofString "\\n")))))
        ((pIfS (pOr (pB (pOp eqk (pVar 2) (pC (.str (Str.ofString "\""))))) (pB (pOp eqk (pVar 2) (pC (.str (Str.ofString "\\"))))))
          ((pApp (pVar 1) (pOp addk (pC (.str (Str.ofString "\\"))) (pVar 2))))
          ((pApp (pVar 1) (pVar 2)))))))) P env S := rfl
def ps_law_quoted : PSx :=
    (pSeq (pAsg (pLstM pNil) (pgName 1))
    (pSeq (pFor (pIt (pVar 0)) (pgName 2) pl_law_quoted_1)
    ((pRet (pOp addk (pOp addk (pC (.str (Str.ofString "\""))) (pTJoin (pC (.str (Str.ofString ""))) (pVar 1))) (pC (.str (Str.ofString "\""))))))))
theorem start_law_quoted : ∀ a0 : D, startE 3 [a0] = [some a0, none, none] := fun _ => rfl
def quoL (t : List Nat) : List Nat := 34 :: (escL t ++ [34])
def F_law_quoted : PFn := fun ds k => ∃ t : List Nat, ds = [.str (SX.S t)] ∧ t.length ≤ 400 ∧ k (dS (quoL t))
theorem len_law_quoted : ∀ ds k, F_law_quoted ds k → ds.length = 1 := by
  rintro _ _ ⟨_, rfl, _⟩
  rfl
def esc1 (c : Nat) : List Nat := if c = 10 then [92, 110] else if c = 34 ∨ c = 92 then [92, c] else [c]
theorem e_bn : Str.ofString "\\n" = SX.S [92, 110] := by decide +kernel
theorem loop_law_quoted (c0 : Option D) (P : PEnds) : ∀ (t : List Nat) (acc : List (List Nat)) (x2 : Option D), acc.length + t.length ≤ 1000 →
    (∀ x2, P.nx [c0, some (.ref 0), x2] [.lst ((acc ++ t.map esc1).map dS)]) →
    forG (pgName 2) pl_law_quoted_1 P (t.map fun c => D.str (SX.S [c])) [c0, some (.ref 0), x2] [.lst (acc.map dS)] := by
  intro t
  induction t with
  | nil =>
    intro acc x2 _ h
    have := h x2
    rw [List.map_nil, List.append_nil] at this
    exact this
  | cons c t ih =>
    intro acc x2 hl h
    rw [List.length_cons] at hl
    have next : ∀ x, x = esc1 c → ∀ x2, forG (pgName 2) pl_law_quoted_1 P (t.map fun c => D.str (SX.S [c])) [c0, some (.ref 0), x2] [.lst (acc.map dS ++ [dS x])] := fun x hx x2 => by
      have := ih (acc ++ [x]) x2 (by rw [List.length_append, List.length_singleton]; omega) (fun x2 => by
        have := h x2
        rw [List.map_cons, ← hx] at this
        rw [List.append_assoc]
        exact this)
      rw [List.map_append] at this
      exact this
    show pgName 2 (D.str (SX.S [c])) _ _ _
    simp only [pForD, pInsL, pExtA, pSeq, pAsg, pVar, pC, pOp, pNil, pCons, pTup, pLst, pLstM, pNot, pAndV, pOrV, pIf, pB, pAnd, pOr, pNotT, pNoPart, pPart, pCB, pUnN, pSl, pNext, pBreak, pCont, pRet, pRetN, pDrop, pIfS, pgName, pgNil, pgCons, pgTup_t, pAug, pApp, pYes, isk_non, nsk_non, isN_non, isN_bl, isN_int, isN_str, isN_tup, isN_lst, isN_ref, isN_obj, pTru, pFld, pStar, pMake, pSetF, pIt, pRng1, pRng2, forG, List.map_cons, List.map_nil, List.getElem?_cons_zero, List.getElem?_cons_succ, List.set_cons_zero, List.set_cons_succ, Option.some.injEq, exists_eq_left, exists_eq_left', true_and, and_true, wipeE, D.bl.injEq, D.int.injEq, D.str.injEq, D.tup.injEq, D.lst.injEq, Bool.not_true, decide_eq_true_eq, if_true, if_false, reduceIte, Bool.false_eq_true, Option.isNone_none, Option.isNone_some, Bool.not_false, List.length_nil, List.length_cons, List.nil_append, List.cons_append, D.ref.injEq, SO.lst.injEq, pCall, exists_const, and_self, Nat.zero_add, Nat.zero_le, Nat.reduceLeDiff, Nat.reduceAdd, eq_self, o_add, o_sub, o_mul, o_div, o_mod, o_cmp, o_int, o_lenl, o_lent, o_lens, o_tupl, o_tupt, o_min, o_max, q_int, ixk_tup, ixk_lst, ixk_scr, at0, at1, at2, at3, at4, at5, List.length_map, pl_law_quoted_1_d, q_word, e_nl, e_q, e_b, e_bn, S_inj]
    by_cases c1 : c = 10
    · rw [if_pos (by rw [c1])]
      exact ⟨by omega, next _ (by unfold esc1; rw [if_pos c1]) _⟩
    rw [if_neg (by simpa using c1)]
    have two : (c = 34 ∨ c = 92) → addk [SO.lst (List.map dS acc)] (D.str (SX.S [92])) (D.str (SX.S [c])) fun z => acc.length < 90000 ∧ forG (pgName 2) pl_law_quoted_1 P (List.map (fun c => D.str (SX.S [c])) t) [c0, some (D.ref 0), some (D.str (SX.S [c]))] [SO.lst (List.map dS acc ++ [z])] := fun h => by
      refine ⟨by show 1 + 1 ≤ 100000; decide, ?_⟩
      rw [SX.S_cat]
      exact ⟨by omega, next _ (by unfold esc1; rw [if_neg c1, if_pos h]; rfl) _⟩
    by_cases c2 : c = 34
    · rw [if_pos (by rw [c2])]
      exact two (.inl c2)
    rw [if_neg (by simpa using c2)]
    by_cases c3 : c = 92
    · rw [if_pos (by rw [c3])]
      exact two (.inr c3)
    rw [if_neg (by simpa using c3)]
    exact ⟨by omega, next _ (by unfold esc1; rw [if_neg c1, if_neg fun z => z.elim c2 c3]) _⟩
theorem joinL_nil : ∀ ys : List (List Nat), TL.joinL [] ys = ys.flatten
  | [] => rfl
  | [y] => by show y = [y].flatten; simp
  | y :: z :: ys => by
    show y ++ ([] ++ TL.joinL [] (z :: ys)) = _
    rw [joinL_nil (z :: ys), List.nil_append]
    rfl
theorem esc_flat (t : List Nat) : (t.map esc1).flatten = escL t := rfl
theorem esc_len : ∀ t : List Nat, (escL t).length ≤ 2 * t.length
  | [] => Nat.le_refl _
  | c :: t => by
    have h := esc_len t
    have e : escL (c :: t) = esc1 c ++ escL t := rfl
    rw [e, List.length_append, List.length_cons]
    have : (esc1 c).length ≤ 2 := by
      unfold esc1
      split
      · exact Nat.le_refl 2
      · split
        · exact Nat.le_refl 2
        · show 1 ≤ 2; decide
    omega
theorem sum_esc : ∀ t : List Nat, (((t.map esc1).map SX.S).map (·.length)).sum = (escL t).length
  | [] => rfl
  | c :: t => by
    have e : escL (c :: t) = esc1 c ++ escL t := rfl
    rw [e, List.length_append, List.map_cons, List.map_cons, List.map_cons, List.sum_cons, sum_esc t, len_S]
theorem body_law_quoted : ∀ ds k, F_law_quoted ds k → ps_law_quoted { nx := fun _ _ => k .non, rt := fun d S => (d.frz S).noRef = true ∧ k (d.frz S) } (startE 3 ds) [] := by
  rintro _ k ⟨t, rfl, hl, hk⟩
  rw [start_law_quoted]
  unfold ps_law_quoted
  simp only [pForD, pInsL, pExtA, pSeq, pAsg, pVar, pC, pOp, pNil, pCons, pTup, pLst, pLstM, pNot, pAndV, pOrV, pIf, pB, pAnd, pOr, pNotT, pNoPart, pPart, pCB, pUnN, pSl, pNext, pBreak, pCont, pRet, pRetN, pDrop, pIfS, pgName, pgNil, pgCons, pgTup_t, pAug, pApp, pYes, isk_non, nsk_non, isN_non, isN_bl, isN_int, isN_str, isN_tup, isN_lst, isN_ref, isN_obj, pTru, pFld, pStar, pMake, pSetF, pIt, pRng1, pRng2, forG, List.map_cons, List.map_nil, List.getElem?_cons_zero, List.getElem?_cons_succ, List.set_cons_zero, List.set_cons_succ, Option.some.injEq, exists_eq_left, exists_eq_left', true_and, and_true, wipeE, D.bl.injEq, D.int.injEq, D.str.injEq, D.tup.injEq, D.lst.injEq, Bool.not_true, decide_eq_true_eq, if_true, if_false, reduceIte, Bool.false_eq_true, Option.isNone_none, Option.isNone_some, Bool.not_false, List.length_nil, List.length_cons, List.nil_append, List.cons_append, D.ref.injEq, SO.lst.injEq, pCall, exists_const, and_self, Nat.zero_add, Nat.zero_le, Nat.reduceLeDiff, Nat.reduceAdd, eq_self, o_add, o_sub, o_mul, o_div, o_mod, o_cmp, o_int, o_lenl, o_lent, o_lens, o_tupl, o_tupt, o_min, o_max, q_int, ixk_tup, ixk_lst, ixk_scr, at0, at1, at2, at3, at4, at5, List.length_map]
  refine for_go (src := .str (SX.S t)) (ds := t.map fun c => D.str (SX.S [c])) (fun kk h => ⟨_, rfl, _, it_str t _, h⟩) (it_str t) ?_
  refine loop_law_quoted _ _ t [] _ (by rw [List.length_nil]; omega) fun x2 => ?_
  simp only [pForD, pInsL, pExtA, pSeq, pAsg, pVar, pC, pOp, pNil, pCons, pTup, pLst, pLstM, pNot, pAndV, pOrV, pIf, pB, pAnd, pOr, pNotT, pNoPart, pPart, pCB, pUnN, pSl, pNext, pBreak, pCont, pRet, pRetN, pDrop, pIfS, pgName, pgNil, pgCons, pgTup_t, pAug, pApp, pYes, isk_non, nsk_non, isN_non, isN_bl, isN_int, isN_str, isN_tup, isN_lst, isN_ref, isN_obj, pTru, pFld, pStar, pMake, pSetF, pIt, pRng1, pRng2, forG, List.map_cons, List.map_nil, List.getElem?_cons_zero, List.getElem?_cons_succ, List.set_cons_zero, List.set_cons_succ, Option.some.injEq, exists_eq_left, exists_eq_left', true_and, and_true, wipeE, D.bl.injEq, D.int.injEq, D.str.injEq, D.tup.injEq, D.lst.injEq, Bool.not_true, decide_eq_true_eq, if_true, if_false, reduceIte, Bool.false_eq_true, Option.isNone_none, Option.isNone_some, Bool.not_false, List.length_nil, List.length_cons, List.nil_append, List.cons_append, D.ref.injEq, SO.lst.injEq, pCall, exists_const, and_self, Nat.zero_add, Nat.zero_le, Nat.reduceLeDiff, Nat.reduceAdd, eq_self, o_add, o_sub, o_mul, o_div, o_mod, o_cmp, o_int, o_lenl, o_lent, o_lens, o_tupl, o_tupt, o_min, o_max, q_int, ixk_tup, ixk_lst, ixk_scr, at0, at1, at2, at3, at4, at5, List.length_map, pTJoin, e_q, e_no]
  have hel := esc_len t
  refine ⟨(t.map esc1).map SX.S, by rw [show ((t.map esc1).map SX.S).map D.str = (t.map esc1).map dS from List.map_map ..]; rfl, ?_, ?_⟩
  · rw [sum_esc, List.length_map, List.length_map]
    show _ + _ * 0 ≤ _
    omega
  rw [SX.join_S, joinL_nil, esc_flat]
  refine addS (by show 1 + _ ≤ _; omega) ?_
  refine addS (by show ([34] ++ escL t).length + 1 ≤ _; rw [List.length_append]; show 1 + _ + 1 ≤ _; omega) ?_
  exact rt_pure rfl hk
theorem ok_law_quoted {P : Program} {w : World} {K : PySem.W.Frag} {cl : Cl} {mg : Str → Option Value} {base : Heap} (D : Df K mg "_law_quoted" s_law_quoted ["text"]) (T : Txt K cl mg) (hw : cl.w = w)  : C8.Cal P w K mg base 1 "_law_quoted" (spP K cl F_law_quoted) [] := by
  subst hw
  refine D.cal sc_law_quoted (spP_len (n := 1) len_law_quoted) (fun f cdv  A outer s H vs Q E hr h => ?_)
  refine ⟨_,
    (pss_cons (ps_set (i := 1) sc_law_quoted.nd rfl (.inl rfl) (pe_lst pa_nil))
    (pss_cons (ps_for PassesOwn.never rfl (show PI _ _ _ (uIt K _) from upi (pv 0)) (pg_name (i := 2) sc_law_quoted.nd rfl (Or.inl rfl))
      (pss_one (ps_if (pt_cmpR (show OpR _ _ (rEqP K) from op_eqP hr.units) (pv 2) pe_str (nomark _))
        (pss_one (ps_expr (pe_bm PySem.F.plainAttrs_list PySem.F.slot_list_append PySem.F.type_list_append mt_append (pv 1) (pa_cons pe_str pa_nil))))
        (pss_one (ps_if (PW.pt (pw_or (pt_cmpR (show OpR _ _ (rEqP K) from op_eqP hr.units) (pv 2) pe_str (nomark _)) (pw_or1 (pt_cmpR (show OpR _ _ (rEqP K) from op_eqP hr.units) (pv 2) pe_str (nomark _)))))
          (pss_one (ps_expr (pe_bm PySem.F.plainAttrs_list PySem.F.slot_list_append PySem.F.type_list_append mt_append (pv 1) (pa_cons (pe_op (show OpR _ _ (uAdd K) from uop_add) pe_str (pv 2)) pa_nil))))
          (pss_one (ps_expr (pe_bm PySem.F.plainAttrs_list PySem.F.slot_list_append PySem.F.type_list_append mt_append (pv 1) (pa_cons (pv 2) pa_nil)))))))))
    (pss_one (ps_ret (pe_op (show OpR _ _ (uAdd K) from uop_add) (pe_op (show OpR _ _ (uAdd K) from uop_add) pe_str (pe_join pe_str (pv 1))) pe_str))))), ?_⟩
  exact fn_ok (N := ["text", "signs", "sign"]) (show SmS K cl _ ps_law_quoted from
    (sm_seq (sm_asg (sm_lstM sm_nil) sm_gname)
    (sm_seq (sm_for (sm_it sm_var) sm_gname
      ((sm_ifS (sm_test (sm_op smr_eq sm_var sm_str))
        ((sm_app sm_var sm_str))
        ((sm_ifS (sm_or (sm_test (sm_op smr_eq sm_var sm_str)) (sm_test (sm_op smr_eq sm_var sm_str)))
          ((sm_app sm_var (sm_op smr_add sm_str sm_var)))
          ((sm_app sm_var sm_var)))))))
    ((sm_ret (sm_op smr_add (sm_op smr_add sm_str (sm_tjoin sm_str sm_var)) sm_str)))))) body_law_quoted h
def ps_law_text : PSx :=
    ((pRet (pOp ixk (pLst (pCons (pC (.str (Str.ofString ""))) (pCons (pC (.str (Str.ofString "x"))) (pCons (pC (.str (Str.ofString "a b"))) (pCons (pC (.str (Str.ofString "q\"q"))) (pCons (pC (.str (Str.ofString "b\\b"))) (pCons (pC (.str (Str.ofString "l\nl"))) (pCons (pC (.str (Str.ofString " "))) (pCons (pC (.str (Str.ofString "\\n"))) (pCons (pC (.str (Str.ofString "in 3"))) pNil)))))))))) (pOp modk (pCB int1k (pCons (pVar 0) pNil)) (pC (.int 9))))))
theorem start_law_text : ∀ a0 : D, startE 1 [a0] = [some a0] := fun _ => rfl
def txsL : List (List Nat) := [codes "", codes "x", codes "a b", codes "q\"q", codes "b\\b", codes "l\nl", codes " ", codes "\\n", codes "in 3"]
def F_law_text : PFn := fun ds k => ∃ c : Int, ds = [.int c] ∧ ∀ t : List Nat, t ∈ txsL → k (dS t)
theorem len_law_text : ∀ ds k, F_law_text ds k → ds.length = 1 := by
  rintro _ _ ⟨_, rfl, _⟩
  rfl
theorem txs_is : [Str.ofString "", Str.ofString "x", Str.ofString "a b", Str.ofString "q\"q", Str.ofString "b\\b", Str.ofString "l\nl", Str.ofString " ", Str.ofString "\\n", Str.ofString "in 3"] = txsL.map SX.S := by decide +kernel
theorem body_law_text : ∀ ds k, F_law_text ds k → ps_law_text { nx := fun _ _ => k .non, rt := fun d S => (d.frz S).noRef = true ∧ k (d.frz S) } (startE 1 ds) [] := by
  rintro _ k ⟨c, rfl, hk⟩
  rw [start_law_text]
  unfold ps_law_text
  have h0 := Int.emod_nonneg c (show (9 : Int) ≠ 0 by decide)
  have h1 := Int.emod_lt_of_pos c (show (0 : Int) < 9 by decide)
  simp only [pForD, pInsL, pExtA, pSeq, pAsg, pVar, pC, pOp, pNil, pCons, pTup, pLst, pLstM, pNot, pAndV, pOrV, pIf, pB, pAnd, pOr, pNotT, pNoPart, pPart, pCB, pUnN, pSl, pNext, pBreak, pCont, pRet, pRetN, pDrop, pIfS, pgName, pgNil, pgCons, pgTup_t, pAug, pApp, pYes, isk_non, nsk_non, isN_non, isN_bl, isN_int, isN_str, isN_tup, isN_lst, isN_ref, isN_obj, pTru, pFld, pStar, pMake, pSetF, pIt, pRng1, pRng2, forG, List.map_cons, List.map_nil, List.getElem?_cons_zero, List.getElem?_cons_succ, List.set_cons_zero, List.set_cons_succ, Option.some.injEq, exists_eq_left, exists_eq_left', true_and, and_true, wipeE, D.bl.injEq, D.int.injEq, D.str.injEq, D.tup.injEq, D.lst.injEq, Bool.not_true, decide_eq_true_eq, if_true, if_false, reduceIte, Bool.false_eq_true, Option.isNone_none, Option.isNone_some, Bool.not_false, List.length_nil, List.length_cons, List.nil_append, List.cons_append, D.ref.injEq, SO.lst.injEq, pCall, exists_const, and_self, Nat.zero_add, Nat.zero_le, Nat.reduceLeDiff, Nat.reduceAdd, eq_self, o_add, o_sub, o_mul, o_div, o_mod, o_cmp, o_int, o_lenl, o_lent, o_lens, o_tupl, o_tupt, o_min, o_max, q_int, ixk_tup, ixk_lst, ixk_scr, at0, at1, at2, at3, at4, at5, List.length_map]
  have hix : (c % 9).toNat < txsL.length := by show (c % 9).toNat < 9; omega
  have hat := at_map (f := dS) (l := txsL) (List.getElem?_eq_getElem hix)
  rw [Int.toNat_of_nonneg h0] at hat
  have hm : txsL.map dS = [.str (Str.ofString ""), .str (Str.ofString "x"), .str (Str.ofString "a b"), .str (Str.ofString "q\"q"), .str (Str.ofString "b\\b"), .str (Str.ofString "l\nl"), .str (Str.ofString " "), .str (Str.ofString "\\n"), .str (Str.ofString "in 3")] := by
    have := congrArg (List.map D.str) txs_is
    rw [List.map_map] at this
    exact this.symm
  rw [hm] at hat
  exact ⟨by decide, _, hat, rt_pure rfl (hk _ (List.getElem_mem hix))⟩
theorem ok_law_text {P : Program} {w : World} {K : PySem.W.Frag} {cl : Cl} {mg : Str → Option Value} {base : Heap} (D : Df K mg "_law_text" s_law_text ["cell"]) (T : Txt K cl mg) (hw : cl.w = w)  : C8.Cal P w K mg base 1 "_law_text" (spP K cl F_law_text) [] := by
  subst hw
  refine D.cal sc_law_text (spP_len (n := 1) len_law_text) (fun f cdv  A outer s H vs Q E hr h => ?_)
  refine ⟨_,
    (pss_one (ps_ret (pe_ix (show IxR _ (uIx K) from uix) (pe_lst (pa_cons pe_str (pa_cons pe_str (pa_cons pe_str (pa_cons pe_str (pa_cons pe_str (pa_cons pe_str (pa_cons pe_str (pa_cons pe_str (pa_cons pe_str pa_nil)))))))))) (pe_op op_mod (pe_callTy call_int1 (by rfl) T.n_int (by decide +kernel) (pa_cons (pv 0) pa_nil)) pe_int) (fun _ _ => rfl)))), ?_⟩
  exact fn_ok (N := ["cell"]) (show SmS K cl _ ps_law_text from
    ((sm_ret (sm_op smr_ix (sm_lst (sm_cons sm_str (sm_cons sm_str (sm_cons sm_str (sm_cons sm_str (sm_cons sm_str (sm_cons sm_str (sm_cons sm_str (sm_cons sm_str (sm_cons sm_str sm_nil)))))))))) (sm_op smr_mod (sm_cb smc_int (sm_cons sm_var sm_nil)) sm_int))))) body_law_text h
def ps_law_path : PSx :=
    (pSeq (pAsg (pLst (pCons (pC (.str (Str.ofString "a"))) (pCons (pC (.str (Str.ofString "b c"))) (pCons (pC (.str (Str.ofString "q\""))) (pCons (pC (.str (Str.ofString "d\\"))) (pCons (pC (.str (Str.ofString "folder"))) (pCons (pC (.str (Str.ofString "7"))) (pCons (pC (.str (Str.ofString "\\n"))) pNil)))))))) (pgName 1))
    ((pRet (pCB tupk (pCons (pLc (pRng1 (pCons (pOp modk (pOp divk (pCB int1k (pCons (pVar 0) pNil)) (pC (.int 2401))) (pC (.int 4))) pNil)) (pgName 2) pYes (pOp ixk (pVar 1) (pOp modk (pOp divk (pCB int1k (pCons (pVar 0) pNil)) (pOp ixk (pLst (pCons (pC (.int 1)) (pCons (pC (.int 7)) (pCons (pC (.int 49)) pNil)))) (pVar 2))) (pC (.int 7)))) [2]) pNil)))))
theorem start_law_path : ∀ a0 : D, startE 3 [a0] = [some a0, none, none] := fun _ => rfl
def namL : List (List Nat) := [codes "a", codes "b c", codes "q\"", codes "d\\", codes "folder", codes "7", codes "\\n"]
def F_law_path : PFn := fun ds k => ∃ c : Int, ds = [.int c] ∧ ∀ p : List (List Nat), p.length ≤ 3 → (∀ x ∈ p, x ∈ namL) → k (dP p)
theorem len_law_path : ∀ ds k, F_law_path ds k → ds.length = 1 := by
  rintro _ _ ⟨_, rfl, _⟩
  rfl
theorem nam_is : [Str.ofString "a", Str.ofString "b c", Str.ofString "q\"", Str.ofString "d\\", Str.ofString "folder", Str.ofString "7", Str.ofString "\\n"] = namL.map SX.S := by decide +kernel
theorem body_law_path : ∀ ds k, F_law_path ds k → ps_law_path { nx := fun _ _ => k .non, rt := fun d S => (d.frz S).noRef = true ∧ k (d.frz S) } (startE 3 ds) [] := by
  rintro _ k ⟨c, rfl, hk⟩
  rw [start_law_path]
  unfold ps_law_path
  have hm : [D.str (Str.ofString "a"), .str (Str.ofString "b c"), .str (Str.ofString "q\""), .str (Str.ofString "d\\"), .str (Str.ofString "folder"), .str (Str.ofString "7"), .str (Str.ofString "\\n")] = namL.map dS := by
    have := congrArg (List.map D.str) nam_is
    rw [List.map_map] at this
    exact this
  have h0 := Int.emod_nonneg (c / 2401) (show (4 : Int) ≠ 0 by decide)
  have h1 := Int.emod_lt_of_pos (c / 2401) (show (0 : Int) < 4 by decide)
  obtain ⟨n, hn⟩ : ∃ n : Nat, c / 2401 % 4 = (n : Int) := ⟨(c / 2401 % 4).toNat, by omega⟩
  have hn4 : n ≤ 3 := by omega
  let dv : Nat → Int := fun i => [1, 7, 49].getD i 1
  have hdv : ∀ i, 0 < dv i := fun i => by
    show 0 < [1, 7, 49].getD i 1
    rcases i with _ | _ | _ | i
    · decide
    · decide
    · decide
    · show (0 : Int) < 1
      decide
  have hix : ∀ i, (c / dv i % 7).toNat < namL.length := fun i => by
    have h2 := Int.emod_nonneg (c / dv i) (show (7 : Int) ≠ 0 by decide)
    have h3 := Int.emod_lt_of_pos (c / dv i) (show (0 : Int) < 7 by decide)
    show _ < 7
    omega
  simp only [pForD, pInsL, pExtA, pSeq, pAsg, pVar, pC, pOp, pNil, pCons, pTup, pLst, pLstM, pNot, pAndV, pOrV, pIf, pB, pAnd, pOr, pNotT, pNoPart, pPart, pCB, pUnN, pSl, pNext, pBreak, pCont, pRet, pRetN, pDrop, pIfS, pgName, pgNil, pgCons, pgTup_t, pAug, pApp, pYes, isk_non, nsk_non, isN_non, isN_bl, isN_int, isN_str, isN_tup, isN_lst, isN_ref, isN_obj, pTru, pFld, pStar, pMake, pSetF, pIt, pRng1, pRng2, forG, List.map_cons, List.map_nil, List.getElem?_cons_zero, List.getElem?_cons_succ, List.set_cons_zero, List.set_cons_succ, Option.some.injEq, exists_eq_left, exists_eq_left', true_and, and_true, wipeE, D.bl.injEq, D.int.injEq, D.str.injEq, D.tup.injEq, D.lst.injEq, Bool.not_true, decide_eq_true_eq, if_true, if_false, reduceIte, Bool.false_eq_true, Option.isNone_none, Option.isNone_some, Bool.not_false, List.length_nil, List.length_cons, List.nil_append, List.cons_append, D.ref.injEq, SO.lst.injEq, pCall, exists_const, and_self, Nat.zero_add, Nat.zero_le, Nat.reduceLeDiff, Nat.reduceAdd, eq_self, o_add, o_sub, o_mul, o_div, o_mod, o_cmp, o_int, o_lenl, o_lent, o_lens, o_tupl, o_tupt, o_min, o_max, q_int, ixk_tup, ixk_lst, ixk_scr, at0, at1, at2, at3, at4, at5, List.length_map]
  rw [hm]
  refine lc_go (src := .lst (rngD n)) (as := List.range n) (enc := fun i : Nat => .int i) (fun _ => true) (fun i => dS (namL[(c / dv i % 7).toNat]'(hix i))) (fun kk h => ?_) (fun S => rfl) (by rw [List.length_range]; omega) (fun i hi k2 k3 h => ?_) ?_
  · simp only [pForD, pInsL, pExtA, pSeq, pAsg, pVar, pC, pOp, pNil, pCons, pTup, pLst, pLstM, pNot, pAndV, pOrV, pIf, pB, pAnd, pOr, pNotT, pNoPart, pPart, pCB, pUnN, pSl, pNext, pBreak, pCont, pRet, pRetN, pDrop, pIfS, pgName, pgNil, pgCons, pgTup_t, pAug, pApp, pYes, isk_non, nsk_non, isN_non, isN_bl, isN_int, isN_str, isN_tup, isN_lst, isN_ref, isN_obj, pTru, pFld, pStar, pMake, pSetF, pIt, pRng1, pRng2, forG, List.map_cons, List.map_nil, List.getElem?_cons_zero, List.getElem?_cons_succ, List.set_cons_zero, List.set_cons_succ, Option.some.injEq, exists_eq_left, exists_eq_left', true_and, and_true, wipeE, D.bl.injEq, D.int.injEq, D.str.injEq, D.tup.injEq, D.lst.injEq, Bool.not_true, decide_eq_true_eq, if_true, if_false, reduceIte, Bool.false_eq_true, Option.isNone_none, Option.isNone_some, Bool.not_false, List.length_nil, List.length_cons, List.nil_append, List.cons_append, D.ref.injEq, SO.lst.injEq, pCall, exists_const, and_self, Nat.zero_add, Nat.zero_le, Nat.reduceLeDiff, Nat.reduceAdd, eq_self, o_add, o_sub, o_mul, o_div, o_mod, o_cmp, o_int, o_lenl, o_lent, o_lens, o_tupl, o_tupt, o_min, o_max, q_int, ixk_tup, ixk_lst, ixk_scr, at0, at1, at2, at3, at4, at5, List.length_map]
    refine ⟨⟨by decide, by decide⟩, by decide, _, rfl, ⟨by omega, by omega⟩, ?_⟩
    rw [show (c / 2401 % 4).toNat = n by omega]
    exact h
  · rw [if_pos rfl] at h
    have hi3 : i < 3 := by
      have := List.mem_range.mp hi
      omega
    have hd : L2.atI [D.int 1, D.int 7, D.int 49] (i : Int) = some (.int (dv i)) := by
      match i, hi3 with
      | 0, _ => rfl
      | 1, _ => rfl
      | 2, _ => rfl
    have hd2 : dv i < 1073741824 := by
      match i, hi3 with
      | 0, _ => exact (by decide : (1 : Int) < 1073741824)
      | 1, _ => exact (by decide : (7 : Int) < 1073741824)
      | 2, _ => exact (by decide : (49 : Int) < 1073741824)
    have hat := at_map (f := dS) (l := namL) (List.getElem?_eq_getElem (hix i))
    rw [Int.toNat_of_nonneg (Int.emod_nonneg _ (by decide))] at hat
    simp only [pForD, pInsL, pExtA, pSeq, pAsg, pVar, pC, pOp, pNil, pCons, pTup, pLst, pLstM, pNot, pAndV, pOrV, pIf, pB, pAnd, pOr, pNotT, pNoPart, pPart, pCB, pUnN, pSl, pNext, pBreak, pCont, pRet, pRetN, pDrop, pIfS, pgName, pgNil, pgCons, pgTup_t, pAug, pApp, pYes, isk_non, nsk_non, isN_non, isN_bl, isN_int, isN_str, isN_tup, isN_lst, isN_ref, isN_obj, pTru, pFld, pStar, pMake, pSetF, pIt, pRng1, pRng2, forG, List.map_cons, List.map_nil, List.getElem?_cons_zero, List.getElem?_cons_succ, List.set_cons_zero, List.set_cons_succ, Option.some.injEq, exists_eq_left, exists_eq_left', true_and, and_true, wipeE, D.bl.injEq, D.int.injEq, D.str.injEq, D.tup.injEq, D.lst.injEq, Bool.not_true, decide_eq_true_eq, if_true, if_false, reduceIte, Bool.false_eq_true, Option.isNone_none, Option.isNone_some, Bool.not_false, List.length_nil, List.length_cons, List.nil_append, List.cons_append, D.ref.injEq, SO.lst.injEq, pCall, exists_const, and_self, Nat.zero_add, Nat.zero_le, Nat.reduceLeDiff, Nat.reduceAdd, eq_self, o_add, o_sub, o_mul, o_div, o_mod, o_cmp, o_int, o_lenl, o_lent, o_lens, o_tupl, o_tupt, o_min, o_max, q_int, ixk_tup, ixk_lst, ixk_scr, at0, at1, at2, at3, at4, at5, List.length_map]
    refine ⟨_, hd, ?_⟩
    simp only [pForD, pInsL, pExtA, pSeq, pAsg, pVar, pC, pOp, pNil, pCons, pTup, pLst, pLstM, pNot, pAndV, pOrV, pIf, pB, pAnd, pOr, pNotT, pNoPart, pPart, pCB, pUnN, pSl, pNext, pBreak, pCont, pRet, pRetN, pDrop, pIfS, pgName, pgNil, pgCons, pgTup_t, pAug, pApp, pYes, isk_non, nsk_non, isN_non, isN_bl, isN_int, isN_str, isN_tup, isN_lst, isN_ref, isN_obj, pTru, pFld, pStar, pMake, pSetF, pIt, pRng1, pRng2, forG, List.map_cons, List.map_nil, List.getElem?_cons_zero, List.getElem?_cons_succ, List.set_cons_zero, List.set_cons_succ, Option.some.injEq, exists_eq_left, exists_eq_left', true_and, and_true, wipeE, D.bl.injEq, D.int.injEq, D.str.injEq, D.tup.injEq, D.lst.injEq, Bool.not_true, decide_eq_true_eq, if_true, if_false, reduceIte, Bool.false_eq_true, Option.isNone_none, Option.isNone_some, Bool.not_false, List.length_nil, List.length_cons, List.nil_append, List.cons_append, D.ref.injEq, SO.lst.injEq, pCall, exists_const, and_self, Nat.zero_add, Nat.zero_le, Nat.reduceLeDiff, Nat.reduceAdd, eq_self, o_add, o_sub, o_mul, o_div, o_mod, o_cmp, o_int, o_lenl, o_lent, o_lens, o_tupl, o_tupt, o_min, o_max, q_int, ixk_tup, ixk_lst, ixk_scr, at0, at1, at2, at3, at4, at5, List.length_map]
    refine ⟨⟨hdv i, hd2⟩, by decide, ?_⟩
    exact ⟨_, hat, h⟩
  · rw [flt_all]
    refine ⟨_, rfl, ?_⟩
    have e : (List.range n).map (fun i => dS (namL[(c / dv i % 7).toNat]'(hix i))) = ((List.range n).map fun i => namL[(c / dv i % 7).toNat]'(hix i)).map dS := by
      rw [List.map_map]
      rfl
    rw [e]
    refine rt_pure (pu_dP _) (hk _ (by rw [List.length_map, List.length_range]; omega) fun x hx => ?_)
    obtain ⟨i, _, rfl⟩ := List.mem_map.mp hx
    exact List.getElem_mem _
theorem ok_law_path {P : Program} {w : World} {K : PySem.W.Frag} {cl : Cl} {mg : Str → Option Value} {base : Heap} (D : Df K mg "_law_path" s_law_path ["cell"]) (T : Txt K cl mg) (hw : cl.w = w)  : C8.Cal P w K mg base 1 "_law_path" (spP K cl F_law_path) [] := by
  subst hw
  refine D.cal sc_law_path (spP_len (n := 1) len_law_path) (fun f cdv  A outer s H vs Q E hr h => ?_)
  refine ⟨_,
    (pss_cons (ps_set (i := 1) sc_law_path.nd rfl (.inr rfl) (pe_lst (pa_cons pe_str (pa_cons pe_str (pa_cons pe_str (pa_cons pe_str (pa_cons pe_str (pa_cons pe_str (pa_cons pe_str pa_nil)))))))))
    (pss_one (ps_ret (pe_callTy (show CallR _ (.type "tuple") (uTup K) from call_tuple_of) (by rfl) T.n_tuple (by decide +kernel) (pa_cons (pe_lc (own := [("k", 2)]) (g := gName 2) (tt := tYes) rfl sc_law_path.nd (pi_range1 (by rfl) T.n_range (pa_cons (pe_op op_mod (pe_op op_fdiv (pe_callTy call_int1 (by rfl) T.n_int (by decide +kernel) (pa_cons (pv 0) pa_nil)) pe_int) pe_int) pa_nil)) (blkOk_by (own := [("k", 2)]) (N := ["cell", "names", "k"]) (sc := defScope s_law_path) (by decide +kernel)) (fun _ _ _ _ _ => (pg_name (i := 2) sc_law_path.nd rfl (Or.inl rfl))) (fun _ _ _ _ _ => pts_nil) (fun _ _ _ _ _ => (pe_ix (show IxR _ (uIx K) from uix) (pv 1) (pe_op op_mod (pe_op op_fdiv (pe_callTy call_int1 (by rfl) T.n_int (by decide +kernel) (pa_cons (pv 0) pa_nil)) (pe_ix (show IxR _ (uIx K) from uix) (pe_lst (pa_cons pe_int (pa_cons pe_int (pa_cons pe_int pa_nil)))) (pv 2) (fun _ _ => rfl))) pe_int) (fun _ _ => rfl)))) pa_nil))))), ?_⟩
  exact fn_ok (N := ["cell", "names", "k"]) (show SmS K cl _ ps_law_path from
    (sm_seq (sm_asg (sm_lst (sm_cons sm_str (sm_cons sm_str (sm_cons sm_str (sm_cons sm_str (sm_cons sm_str (sm_cons sm_str (sm_cons sm_str sm_nil)))))))) sm_gname)
    ((sm_ret (sm_cb smc_tup (sm_cons (sm_lc (sm_rng1 (sm_cons (sm_op smr_mod (sm_op smr_div (sm_cb smc_int (sm_cons sm_var sm_nil)) sm_int) sm_int) sm_nil)) (gok_name (by decide)) sm_gname sm_yes (sm_op smr_ix sm_var (sm_op smr_mod (sm_op smr_div (sm_cb smc_int (sm_cons sm_var sm_nil)) (sm_op smr_ix (sm_lst (sm_cons sm_int (sm_cons sm_int (sm_cons sm_int sm_nil)))) sm_var)) sm_int))) sm_nil)))))) body_law_path h
def ps_law_number : PSx :=
    ((pRet (pOp ixk (pLst (pCons (pC (.int 0)) (pCons (pC (.int 1)) (pCons (pC (.int 9)) (pCons (pC (.int 10)) (pCons (pC (.int 4294967295)) (pCons (pC (.int 12)) pNil))))))) (pOp modk (pCB int1k (pCons (pVar 0) pNil)) (pC (.int 6))))))
theorem start_law_number : ∀ a0 : D, startE 1 [a0] = [some a0] := fun _ => rfl
def nmsL : List (Nat × List Nat) := [(0, codes "0"), (1, codes "1"), (9, codes "9"), (10, codes "10"), (4294967295, codes "4294967295"), (12, codes "12")]
theorem nms_good : ∀ p ∈ nmsL, Par.numL p.2 = some p.1 ∧ p.2.length ≤ 10 ∧ (p.1 : Int).natAbs.log2 < 1920 ∧ (Str.ofString (toString ((p.1 : Nat) : Int))) = SX.S p.2 := by decide +kernel
def F_law_number : PFn := fun ds k => ∃ c : Int, ds = [.int c] ∧ ∀ p : Nat × List Nat, p ∈ nmsL → k (.int (p.1 : Int))
theorem len_law_number : ∀ ds k, F_law_number ds k → ds.length = 1 := by
  rintro _ _ ⟨_, rfl, _⟩
  rfl
theorem body_law_number : ∀ ds k, F_law_number ds k → ps_law_number { nx := fun _ _ => k .non, rt := fun d S => (d.frz S).noRef = true ∧ k (d.frz S) } (startE 1 ds) [] := by
  rintro _ k ⟨c, rfl, hk⟩
  rw [start_law_number]
  unfold ps_law_number
  have h0 := Int.emod_nonneg c (show (6 : Int) ≠ 0 by decide)
  have h1 := Int.emod_lt_of_pos c (show (0 : Int) < 6 by decide)
  simp only [pForD, pInsL, pExtA, pSeq, pAsg, pVar, pC, pOp, pNil, pCons, pTup, pLst, pLstM, pNot, pAndV, pOrV, pIf, pB, pAnd, pOr, pNotT, pNoPart, pPart, pCB, pUnN, pSl, pNext, pBreak, pCont, pRet, pRetN, pDrop, pIfS, pgName, pgNil, pgCons, pgTup_t, pAug, pApp, pYes, isk_non, nsk_non, isN_non, isN_bl, isN_int, isN_str, isN_tup, isN_lst, isN_ref, isN_obj, pTru, pFld, pStar, pMake, pSetF, pIt, pRng1, pRng2, forG, List.map_cons, List.map_nil, List.getElem?_cons_zero, List.getElem?_cons_succ, List.set_cons_zero, List.set_cons_succ, Option.some.injEq, exists_eq_left, exists_eq_left', true_and, and_true, wipeE, D.bl.injEq, D.int.injEq, D.str.injEq, D.tup.injEq, D.lst.injEq, Bool.not_true, decide_eq_true_eq, if_true, if_false, reduceIte, Bool.false_eq_true, Option.isNone_none, Option.isNone_some, Bool.not_false, List.length_nil, List.length_cons, List.nil_append, List.cons_append, D.ref.injEq, SO.lst.injEq, pCall, exists_const, and_self, Nat.zero_add, Nat.zero_le, Nat.reduceLeDiff, Nat.reduceAdd, eq_self, o_add, o_sub, o_mul, o_div, o_mod, o_cmp, o_int, o_lenl, o_lent, o_lens, o_tupl, o_tupt, o_min, o_max, q_int, ixk_tup, ixk_lst, ixk_scr, at0, at1, at2, at3, at4, at5, List.length_map]
  have hix : (c % 6).toNat < nmsL.length := by show (c % 6).toNat < 6; omega
  have hat := at_map (f := fun p : Nat × List Nat => D.int (p.1 : Int)) (l := nmsL) (List.getElem?_eq_getElem hix)
  rw [Int.toNat_of_nonneg h0] at hat
  exact ⟨by decide, _, hat, rt_pure rfl (hk _ (List.getElem_mem hix))⟩
theorem strI {S : Sto} {p : Nat × List Nat} (hp : p ∈ nmsL) {k : D → Prop} (hk : k (dS p.2)) : strIk S [.int (p.1 : Int)] k := by
  obtain ⟨_, _, h3, h4⟩ := nms_good p hp
  refine ⟨h3, ?_⟩
  have e : (D.str (Str.ofString (toString ((p.1 : Nat) : Int)))) = dS p.2 := by rw [h4]; rfl
  show k (.str (Str.ofString (toString ((p.1 : Nat) : Int))))
  rw [e]
  exact hk
theorem ok_law_number {P : Program} {w : World} {K : PySem.W.Frag} {cl : Cl} {mg : Str → Option Value} {base : Heap} (D : Df K mg "_law_number" s_law_number ["cell"]) (T : Txt K cl mg) (hw : cl.w = w)  : C8.Cal P w K mg base 1 "_law_number" (spP K cl F_law_number) [] := by
  subst hw
  refine D.cal sc_law_number (spP_len (n := 1) len_law_number) (fun f cdv  A outer s H vs Q E hr h => ?_)
  refine ⟨_,
    (pss_one (ps_ret (pe_ix (show IxR _ (uIx K) from uix) (pe_lst (pa_cons pe_int (pa_cons pe_int (pa_cons pe_int (pa_cons pe_int (pa_cons pe_int (pa_cons pe_int pa_nil))))))) (pe_op op_mod (pe_callTy call_int1 (by rfl) T.n_int (by decide +kernel) (pa_cons (pv 0) pa_nil)) pe_int) (fun _ _ => rfl)))), ?_⟩
  exact fn_ok (N := ["cell"]) (show SmS K cl _ ps_law_number from
    ((sm_ret (sm_op smr_ix (sm_lst (sm_cons sm_int (sm_cons sm_int (sm_cons sm_int (sm_cons sm_int (sm_cons sm_int (sm_cons sm_int sm_nil))))))) (sm_op smr_mod (sm_cb smc_int (sm_cons sm_var sm_nil)) sm_int))))) body_law_number h
def ps_law_spot : PSx :=
    (pSeq (pAsg (pCall F_law_path (pCons (pOp divk (pVar 0) (pC (.int 3))) pNil)) (pgName 1))
    (pSeq (pIfS (pB (pOp (cmpk fun i j => decide (i < j)) (pOp modk (pCB int1k (pCons (pVar 0) pNil)) (pC (.int 3))) (pC (.int 2))))
      (pSeq (pAsg (pOp ixk (pLst (pCons (pC (.str (Str.ofString "folder"))) (pCons (pC (.str (Str.ofString "outside"))) pNil))) (pOp modk (pCB int1k (pCons (pVar 0) pNil)) (pC (.int 3)))) (pgName 2))
      ((pRet (pTup (pCons (pTup (pCons (pVar 2) (pCons (pVar 1) pNil))) (pCons (pOp addk (pOp addk (pVar 2) (pC (.str (Str.ofString " ")))) (pCall F_law_quoted (pCons (pTJoin (pC (.str (Str.ofString "/"))) (pVar 1)) pNil))) pNil))))))
      pNext)
    (pSeq (pAsg (pCall F_law_number (pCons (pOp divk (pVar 0) (pC (.int 70))) pNil)) (pgName 3))
    ((pRet (pTup (pCons (pTup (pCons (pVar 3) (pCons (pVar 1) pNil))) (pCons (pOp addk (pOp addk (pOp addk (pC (.str (Str.ofString "in "))) (pCB strIk (pCons (pVar 3) pNil))) (pC (.str (Str.ofString " ")))) (pCall F_law_quoted (pCons (pTJoin (pC (.str (Str.ofString "/"))) (pVar 1)) pNil))) pNil))))))))
theorem start_law_spot : ∀ a0 : D, startE 4 [a0] = [some a0, none, none, none] := fun _ => rfl
structure Told (f : Fm) (d : D) (l : List Nat) (n : Nat) : Prop where
  ex : ∃ ps, LnOf ps l ∧ formF f ps = some (d, ps.length) ∧ l.length ≤ n
  pu : d.pure = true
theorem nam_good : ∀ x ∈ namL, nameL x = true ∧ 47 ∉ x ∧ x ≠ [] ∧ x.length ≤ 6 := by decide
theorem read_join {ls : List (List Nat)} (h : ∀ l ∈ ls, nameL l = true ∧ 47 ∉ l ∧ l ≠ []) : readP (TL.joinL [47] ls) = some ls := by
  unfold readP
  by_cases hn : ls = []
  · subst hn
    rfl
  · have hne : TL.joinL [47] ls ≠ [] := by
      cases ls with
      | nil => exact absurd rfl hn
      | cons l ls =>
        have hl := (h l List.mem_cons_self).2.2
        cases ls with
        | nil => exact hl
        | cons m ls =>
          show l ++ _ ≠ []
          simp [hl]
    have hc : cutL (TL.joinL [47] ls) = ls := SX.spl_join hn fun p hp => (h p hp).2.1
    rw [if_neg hne, hc, if_pos]
    rw [List.all_eq_true]
    exact fun l hl => (h l hl).1
theorem join_len : ∀ {ls : List (List Nat)} {b : Nat}, (∀ l ∈ ls, l.length ≤ b) → (TL.joinL [47] ls).length ≤ ls.length * (b + 1)
  | [], _, _ => Nat.zero_le _
  | [l], b, h => by
    have := h l List.mem_cons_self
    show l.length ≤ 1 * (b + 1)
    omega
  | l :: m :: ls, b, h => by
    have h1 := h l List.mem_cons_self
    have h2 := join_len (ls := m :: ls) (b := b) fun x hx => h x (List.mem_cons_of_mem _ hx)
    show (l ++ ([47] ++ TL.joinL [47] (m :: ls))).length ≤ _
    rw [List.length_append, List.length_append, List.length_cons (a := l), Nat.succ_mul]
    show _ + (1 + _) ≤ _
    omega
def PathOk (p : List (List Nat)) : Prop := p.length ≤ 3 ∧ ∀ x ∈ p, x ∈ namL
theorem path_read {p : List (List Nat)} (h : PathOk p) : readP (TL.joinL [47] p) = some p ∧ (TL.joinL [47] p).length ≤ 21 := by
  refine ⟨read_join fun x hx => ?_, ?_⟩
  · have := nam_good x (h.2 x hx)
    exact ⟨this.1, this.2.1, this.2.2.1⟩
  · have := join_len (ls := p) (b := 6) fun x hx => (nam_good x (h.2 x hx)).2.2.2
    have := h.1
    omega
theorem quo_gd (t : List Nat) : Gd (.qt t) (quoL t) := rfl
def F_law_spot : PFn := fun ds k => ∃ c : Int, ds = [.int c] ∧ ∀ (d : D) (l : List Nat), Told .spot d l 80 → k (.tup [d, dS l])
theorem len_law_spot : ∀ ds k, F_law_spot ds k → ds.length = 1 := by
  rintro _ _ ⟨_, rfl, _⟩
  rfl
theorem w_gd : ∀ w ∈ [w_folder, w_outside, w_in, w_thing, w_runs, w_plain, w_wish], w ≠ [] ∧ 32 ∉ w ∧ w.head? ≠ some 34 ∧ ∀ c, w.head? = some c → isDig c = false := by decide
theorem pj {S : Sto} {p : List (List Nat)} {pb : PEx} {env : Pw.Env} {k : D → Sto → Prop} (hp : PathOk p) (hb : ∀ kk : D → Sto → Prop, kk (dP p) S → pb env S kk) (hk : k (dS (TL.joinL [47] p)) S) : pTJoin (pC (.str (Str.ofString "/"))) pb env S k := by
  refine ⟨Str.ofString "/", rfl, hb _ ⟨p.map SX.S, ?_, ?_, ?_⟩⟩
  · rw [show (p.map SX.S).map D.str = p.map dS from List.map_map ..]
    rfl
  · have h1 : ∀ q : List (List Nat), (∀ x ∈ q, x.length ≤ 6) → ((q.map SX.S).map (·.length)).sum ≤ q.length * 6 := by
      intro q
      induction q with
      | nil => exact fun _ => Nat.le_refl _
      | cons x q ih =>
        intro h
        have := ih fun y hy => h y (List.mem_cons_of_mem _ hy)
        have hx := h x List.mem_cons_self
        rw [List.map_cons, List.map_cons, List.sum_cons, List.length_cons, len_S]
        omega
    have := h1 p fun x hx => (nam_good x (hp.2 x hx)).2.2.2
    have h3 := hp.1
    have h4 : (Str.ofString "/").length = 1 := by decide +kernel
    rw [h4, List.length_map]
    omega
  · rw [e_sl, SX.join_S]
    exact hk
theorem e_in_ : Str.ofString "in " = SX.S [105, 110, 32] := by decide +kernel
theorem body_law_spot : ∀ ds k, F_law_spot ds k → ps_law_spot { nx := fun _ _ => k .non, rt := fun d S => (d.frz S).noRef = true ∧ k (d.frz S) } (startE 4 ds) [] := by
  rintro _ k ⟨c, rfl, hk⟩
  rw [start_law_spot]
  unfold ps_law_spot
  simp only [pForD, pInsL, pExtA, pSeq, pAsg, pVar, pC, pOp, pNil, pCons, pTup, pLst, pLstM, pNot, pAndV, pOrV, pIf, pB, pAnd, pOr, pNotT, pNoPart, pPart, pCB, pUnN, pSl, pNext, pBreak, pCont, pRet, pRetN, pDrop, pIfS, pgName, pgNil, pgCons, pgTup_t, pAug, pApp, pYes, isk_non, nsk_non, isN_non, isN_bl, isN_int, isN_str, isN_tup, isN_lst, isN_ref, isN_obj, pTru, pFld, pStar, pMake, pSetF, pIt, pRng1, pRng2, forG, List.map_cons, List.map_nil, List.getElem?_cons_zero, List.getElem?_cons_succ, List.set_cons_zero, List.set_cons_succ, Option.some.injEq, exists_eq_left, exists_eq_left', true_and, and_true, wipeE, D.bl.injEq, D.int.injEq, D.str.injEq, D.tup.injEq, D.lst.injEq, Bool.not_true, decide_eq_true_eq, if_true, if_false, reduceIte, Bool.false_eq_true, Option.isNone_none, Option.isNone_some, Bool.not_false, List.length_nil, List.length_cons, List.nil_append, List.cons_append, D.ref.injEq, SO.lst.injEq, pCall, exists_const, and_self, Nat.zero_add, Nat.zero_le, Nat.reduceLeDiff, Nat.reduceAdd, eq_self, o_add, o_sub, o_mul, o_div, o_mod, o_cmp, o_int, o_lenl, o_lent, o_lens, o_tupl, o_tupt, o_min, o_max, q_int, ixk_tup, ixk_lst, ixk_scr, at0, at1, at2, at3, at4, at5, List.length_map, e_folder, e_outside, e_sp, e_in_]
  refine ⟨by decide, call_of rfl ⟨_, rfl, fun p hp1 hp2 => ?_⟩⟩
  have hp : PathOk p := ⟨hp1, hp2⟩
  obtain ⟨hr, hjl⟩ := path_read hp
  have hel := esc_len (TL.joinL [47] p)
  have hql : (quoL (TL.joinL [47] p)).length ≤ 44 := by
    show (34 :: (escL (TL.joinL [47] p) ++ [34])).length ≤ 44
    rw [List.length_cons, List.length_append, List.length_singleton]
    omega
  have m0 := Int.emod_nonneg c (show (3 : Int) ≠ 0 by decide)
  refine ⟨by decide, ?_⟩
  by_cases c1 : c % 3 < 2
  · rw [if_pos c1]
    have base : ∀ w : List Nat, (w = w_folder ∨ w = w_outside) → addk [] (dS w) (D.str (SX.S [32])) fun z => pTJoin (pC (.str (Str.ofString "/"))) (pVar 1) [some (D.int c), some (dP p), some (dS w), none] [] fun x S1 => callk F_law_quoted S1 [x] fun d_2 => addk S1 z d_2 fun z => (D.frz S1 (D.tup [D.tup [dS w, dP p], z])).noRef = true ∧ k (D.frz S1 (D.tup [D.tup [dS w, dP p], z])) := fun w hw => by
      have hg := w_gd w (by rcases hw with rfl | rfl <;> simp)
      have hwl : w.length ≤ 7 := by rcases hw with rfl | rfl <;> decide
      refine addS (by show w.length + 1 ≤ _; omega) ?_
      refine pj hp (fun kk h => ⟨_, rfl, h⟩) ?_
      refine call_of rfl ⟨_, rfl, by omega, ?_⟩
      refine addS (by rw [List.length_append, List.length_singleton]; omega) ?_
      refine rt_pure (by simp only [D.pure, pureAll, pu_dP, dS, Bool.and_self]) (hk (.tup [dS w, dP p]) _ ⟨⟨[.wd w, .qt (TL.joinL [47] p)], ?_, spot1 [] hw hr, by rw [List.length_append, List.length_append, List.length_singleton]; omega⟩, by simp only [D.pure, pureAll, pu_dP, dS, Bool.and_self]⟩)
      rw [List.append_assoc]
      exact .cons ⟨rfl, hg⟩ (.one (quo_gd _))
    rcases (show c % 3 = 0 ∨ c % 3 = 1 by omega) with h | h
    · rw [h]
      exact ⟨by decide, _, rfl, base w_folder (.inl rfl)⟩
    · rw [h]
      exact ⟨by decide, _, rfl, base w_outside (.inr rfl)⟩
  · rw [if_neg c1]
    refine ⟨⟨by decide, by decide⟩, call_of rfl ⟨_, rfl, fun q hq => ?_⟩⟩
    obtain ⟨g1, g2, _, _⟩ := nms_good q hq
    refine strI hq ?_
    refine addS (by show 3 + q.2.length ≤ _; omega) ?_
    refine addS (by rw [List.length_append]; show 3 + q.2.length + 1 ≤ _; omega) ?_
    refine pj hp (fun kk h => ⟨_, rfl, h⟩) ?_
    refine call_of rfl ⟨_, rfl, by omega, ?_⟩
    have hl : ([105, 110, 32] ++ q.2 ++ [32]).length = q.2.length + 4 := by
      rw [List.length_append, List.length_append]
      show 3 + q.2.length + 1 = _
      omega
    refine addS (by rw [hl]; omega) ?_
    refine rt_pure (by simp only [D.pure, pureAll, pu_dP, dS, Bool.and_self]) (hk (.tup [.int q.1, dP p]) _ ⟨⟨[.wd w_in, .nm q.1, .qt (TL.joinL [47] p)], ?_, spot2 q.1 [] hr, by rw [List.length_append, hl]; omega⟩, by simp only [D.pure, pureAll, pu_dP, Bool.and_self]⟩)
    have e : [105, 110, 32] ++ q.2 ++ [32] ++ quoL (TL.joinL [47] p) = w_in ++ 32 :: (q.2 ++ 32 :: quoL (TL.joinL [47] p)) := by
      rw [List.append_assoc, List.append_assoc]
      rfl
    rw [e]
    exact .cons ⟨rfl, w_gd w_in (by simp)⟩ (.cons (show Par.numL q.2 = some q.1 from g1) (.one (quo_gd _)))
theorem ok_law_spot {P : Program} {w : World} {K : PySem.W.Frag} {cl : Cl} {mg : Str → Option Value} {base : Heap} (D : Df K mg "_law_spot" s_law_spot ["cell"]) (T : Txt K cl mg) (hw : cl.w = w) (G_law_quoted : C8.Cal P w K mg base 1 "_law_quoted" (spP K cl F_law_quoted) []) (G_law_path : C8.Cal P w K mg base 1 "_law_path" (spP K cl F_law_path) []) (G_law_number : C8.Cal P w K mg base 1 "_law_number" (spP K cl F_law_number) []) : C8.Cal P w K mg base 2 "_law_spot" (spP K cl F_law_spot) [] := by
  subst hw
  refine D.cal sc_law_spot (spP_len (n := 1) len_law_spot) (fun f cdv  A outer s H vs Q E hr h => ?_)
  refine ⟨_,
    (pss_cons (ps_set (i := 1) sc_law_spot.nd rfl (.inl rfl) (C8.pe_c G_law_path hr (by decide) (by rfl) (pa_cons (pe_op op_fdiv (pv 0) pe_int) pa_nil)))
    (pss_cons (ps_if (pt_cmpR op_lt (pe_op op_mod (pe_callTy call_int1 (by rfl) T.n_int (by decide +kernel) (pa_cons (pv 0) pa_nil)) pe_int) pe_int (nomark _))
      (pss_cons (ps_set (i := 2) sc_law_spot.nd rfl (.inl rfl) (pe_ix (show IxR _ (uIx K) from uix) (pe_lst (pa_cons pe_str (pa_cons pe_str pa_nil))) (pe_op op_mod (pe_callTy call_int1 (by rfl) T.n_int (by decide +kernel) (pa_cons (pv 0) pa_nil)) pe_int) (fun _ _ => rfl)))
      (pss_one (ps_ret (pe_tup (pa_cons (pe_tup (pa_cons (pv 2) (pa_cons (pv 1) pa_nil))) (pa_cons (pe_op (show OpR _ _ (uAdd K) from uop_add) (pe_op (show OpR _ _ (uAdd K) from uop_add) (pv 2) pe_str) (C8.pe_c G_law_quoted hr (by decide) (by rfl) (pa_cons (pe_join pe_str (pv 1)) pa_nil))) pa_nil))))))
      pss_nil)
    (pss_cons (ps_set (i := 3) sc_law_spot.nd rfl (.inl rfl) (C8.pe_c G_law_number hr (by decide) (by rfl) (pa_cons (pe_op op_fdiv (pv 0) pe_int) pa_nil)))
    (pss_one (ps_ret (pe_tup (pa_cons (pe_tup (pa_cons (pv 3) (pa_cons (pv 1) pa_nil))) (pa_cons (pe_op (show OpR _ _ (uAdd K) from uop_add) (pe_op (show OpR _ _ (uAdd K) from uop_add) (pe_op (show OpR _ _ (uAdd K) from uop_add) pe_str (pe_callTy call_str_int (by rfl) T.n_str (by decide +kernel) (pa_cons (pv 3) pa_nil))) pe_str) (C8.pe_c G_law_quoted hr (by decide) (by rfl) (pa_cons (pe_join pe_str (pv 1)) pa_nil))) pa_nil)))))))), ?_⟩
  exact fn_ok (N := ["cell", "path", "base", "thing"]) (show SmS K cl _ ps_law_spot from
    (sm_seq (sm_asg (sm_call (sm_cons (sm_op smr_div sm_var sm_int) sm_nil)) sm_gname)
    (sm_seq (sm_ifS (sm_test (sm_op smr_cmp (sm_op smr_mod (sm_cb smc_int (sm_cons sm_var sm_nil)) sm_int) sm_int))
      (sm_seq (sm_asg (sm_op smr_ix (sm_lst (sm_cons sm_str (sm_cons sm_str sm_nil))) (sm_op smr_mod (sm_cb smc_int (sm_cons sm_var sm_nil)) sm_int)) sm_gname)
      ((sm_ret (sm_tup (sm_cons (sm_tup (sm_cons sm_var (sm_cons sm_var sm_nil))) (sm_cons (sm_op smr_add (sm_op smr_add sm_var sm_str) (sm_call (sm_cons (sm_tjoin sm_str sm_var) sm_nil))) sm_nil))))))
      sm_next)
    (sm_seq (sm_asg (sm_call (sm_cons (sm_op smr_div sm_var sm_int) sm_nil)) sm_gname)
    ((sm_ret (sm_tup (sm_cons (sm_tup (sm_cons sm_var (sm_cons sm_var sm_nil))) (sm_cons (sm_op smr_add (sm_op smr_add (sm_op smr_add sm_str (sm_cb smc_strI (sm_cons sm_var sm_nil))) sm_str) (sm_call (sm_cons (sm_tjoin sm_str sm_var) sm_nil))) sm_nil))))))))) body_law_spot h
def ps_law_target : PSx :=
    (pSeq (pIfS (pB (pOp eqk (pOp modk (pCB int1k (pCons (pVar 0) pNil)) (pC (.int 3))) (pC (.int 0))))
      (pSeq (pAsg (pCall F_law_number (pCons (pOp divk (pVar 0) (pC (.int 3))) pNil)) (pgName 1))
      ((pRet (pTup (pCons (pVar 1) (pCons (pOp addk (pC (.str (Str.ofString "thing "))) (pCB strIk (pCons (pVar 1) pNil))) pNil))))))
      pNext)
    ((pRet (pCall F_law_spot (pCons (pOp divk (pVar 0) (pC (.int 3))) pNil)))))
theorem start_law_target : ∀ a0 : D, startE 2 [a0] = [some a0, none] := fun _ => rfl
def F_law_target : PFn := fun ds k => ∃ c : Int, ds = [.int c] ∧ ∀ (d : D) (l : List Nat), Told .target d l 80 → k (.tup [d, dS l])
theorem len_law_target : ∀ ds k, F_law_target ds k → ds.length = 1 := by
  rintro _ _ ⟨_, rfl, _⟩
  rfl
theorem e_thing_ : Str.ofString "thing " = SX.S [116, 104, 105, 110, 103, 32] := by decide +kernel
theorem body_law_target : ∀ ds k, F_law_target ds k → ps_law_target { nx := fun _ _ => k .non, rt := fun d S => (d.frz S).noRef = true ∧ k (d.frz S) } (startE 2 ds) [] := by
  rintro _ k ⟨c, rfl, hk⟩
  rw [start_law_target]
  unfold ps_law_target
  simp only [pForD, pInsL, pExtA, pSeq, pAsg, pVar, pC, pOp, pNil, pCons, pTup, pLst, pLstM, pNot, pAndV, pOrV, pIf, pB, pAnd, pOr, pNotT, pNoPart, pPart, pCB, pUnN, pSl, pNext, pBreak, pCont, pRet, pRetN, pDrop, pIfS, pgName, pgNil, pgCons, pgTup_t, pAug, pApp, pYes, isk_non, nsk_non, isN_non, isN_bl, isN_int, isN_str, isN_tup, isN_lst, isN_ref, isN_obj, pTru, pFld, pStar, pMake, pSetF, pIt, pRng1, pRng2, forG, List.map_cons, List.map_nil, List.getElem?_cons_zero, List.getElem?_cons_succ, List.set_cons_zero, List.set_cons_succ, Option.some.injEq, exists_eq_left, exists_eq_left', true_and, and_true, wipeE, D.bl.injEq, D.int.injEq, D.str.injEq, D.tup.injEq, D.lst.injEq, Bool.not_true, decide_eq_true_eq, if_true, if_false, reduceIte, Bool.false_eq_true, Option.isNone_none, Option.isNone_some, Bool.not_false, List.length_nil, List.length_cons, List.nil_append, List.cons_append, D.ref.injEq, SO.lst.injEq, pCall, exists_const, and_self, Nat.zero_add, Nat.zero_le, Nat.reduceLeDiff, Nat.reduceAdd, eq_self, o_add, o_sub, o_mul, o_div, o_mod, o_cmp, o_int, o_lenl, o_lent, o_lens, o_tupl, o_tupt, o_min, o_max, q_int, ixk_tup, ixk_lst, ixk_scr, at0, at1, at2, at3, at4, at5, List.length_map, e_thing_]
  refine ⟨by decide, ?_⟩
  by_cases c1 : c % 3 = 0
  · rw [if_pos c1]
    refine ⟨⟨by decide, by decide⟩, call_of rfl ⟨_, rfl, fun q hq => ?_⟩⟩
    obtain ⟨g1, g2, _, _⟩ := nms_good q hq
    refine strI hq ?_
    refine addS (by show 6 + q.2.length ≤ _; omega) ?_
    refine rt_pure rfl (hk (.int q.1) _ ⟨⟨[.wd w_thing, .nm q.1], ?_, target1 q.1 [], by rw [List.length_append]; show 6 + q.2.length ≤ _; omega⟩, rfl⟩)
    exact .cons (u := w_thing) ⟨rfl, w_gd w_thing (by simp)⟩ (.one (show Par.numL q.2 = some q.1 from g1))
  · rw [if_neg c1]
    refine ⟨⟨by decide, by decide⟩, call_of rfl ⟨_, rfl, fun d l ht => ?_⟩⟩
    obtain ⟨ps, h1, h2, h3⟩ := ht.ex
    exact rt_pure (by simp only [D.pure, pureAll, ht.pu, dS, Bool.and_self]) (hk d l ⟨⟨ps, h1, target2 h2, h3⟩, ht.pu⟩)
theorem ok_law_target {P : Program} {w : World} {K : PySem.W.Frag} {cl : Cl} {mg : Str → Option Value} {base : Heap} (D : Df K mg "_law_target" s_law_target ["cell"]) (T : Txt K cl mg) (hw : cl.w = w) (G_law_number : C8.Cal P w K mg base 1 "_law_number" (spP K cl F_law_number) []) (G_law_spot : C8.Cal P w K mg base 2 "_law_spot" (spP K cl F_law_spot) []) : C8.Cal P w K mg base 3 "_law_target" (spP K cl F_law_target) [] := by
  subst hw
  refine D.cal sc_law_target (spP_len (n := 1) len_law_target) (fun f cdv  A outer s H vs Q E hr h => ?_)
  refine ⟨_,
    (pss_cons (ps_if (pt_cmpR (show OpR _ _ (rEqP K) from op_eqP hr.units) (pe_op op_mod (pe_callTy call_int1 (by rfl) T.n_int (by decide +kernel) (pa_cons (pv 0) pa_nil)) pe_int) pe_int (nomark _))
      (pss_cons (ps_set (i := 1) sc_law_target.nd rfl (.inl rfl) (C8.pe_c G_law_number hr (by decide) (by rfl) (pa_cons (pe_op op_fdiv (pv 0) pe_int) pa_nil)))
      (pss_one (ps_ret (pe_tup (pa_cons (pv 1) (pa_cons (pe_op (show OpR _ _ (uAdd K) from uop_add) pe_str (pe_callTy call_str_int (by rfl) T.n_str (by decide +kernel) (pa_cons (pv 1) pa_nil))) pa_nil))))))
      pss_nil)
    (pss_one (ps_ret (C8.pe_c G_law_spot hr (by decide) (by rfl) (pa_cons (pe_op op_fdiv (pv 0) pe_int) pa_nil))))), ?_⟩
  exact fn_ok (N := ["cell", "thing"]) (show SmS K cl _ ps_law_target from
    (sm_seq (sm_ifS (sm_test (sm_op smr_eq (sm_op smr_mod (sm_cb smc_int (sm_cons sm_var sm_nil)) sm_int) sm_int))
      (sm_seq (sm_asg (sm_call (sm_cons (sm_op smr_div sm_var sm_int) sm_nil)) sm_gname)
      ((sm_ret (sm_tup (sm_cons sm_var (sm_cons (sm_op smr_add sm_str (sm_cb smc_strI (sm_cons sm_var sm_nil))) sm_nil))))))
      sm_next)
    ((sm_ret (sm_call (sm_cons (sm_op smr_div sm_var sm_int) sm_nil)))))) body_law_target h
def ps_law_runs : PSx :=
    (pSeq (pIfS (pB (pOp eqk (pOp modk (pCB int1k (pCons (pVar 0) pNil)) (pC (.int 2))) (pC (.int 0))))
      ((pRet (pTup (pCons (pC (.bl true)) (pCons (pC (.str (Str.ofString "runs"))) pNil)))))
      pNext)
    ((pRet (pTup (pCons (pC (.bl false)) (pCons (pC (.str (Str.ofString "plain"))) pNil))))))
theorem start_law_runs : ∀ a0 : D, startE 1 [a0] = [some a0] := fun _ => rfl
def F_law_runs : PFn := fun ds k => ∃ c : Int, ds = [.int c] ∧ ∀ (d : D) (l : List Nat), Told .runs d l 5 → k (.tup [d, dS l])
theorem len_law_runs : ∀ ds k, F_law_runs ds k → ds.length = 1 := by
  rintro _ _ ⟨_, rfl, _⟩
  rfl
theorem body_law_runs : ∀ ds k, F_law_runs ds k → ps_law_runs { nx := fun _ _ => k .non, rt := fun d S => (d.frz S).noRef = true ∧ k (d.frz S) } (startE 1 ds) [] := by
  rintro _ k ⟨c, rfl, hk⟩
  rw [start_law_runs]
  unfold ps_law_runs
  simp only [pForD, pInsL, pExtA, pSeq, pAsg, pVar, pC, pOp, pNil, pCons, pTup, pLst, pLstM, pNot, pAndV, pOrV, pIf, pB, pAnd, pOr, pNotT, pNoPart, pPart, pCB, pUnN, pSl, pNext, pBreak, pCont, pRet, pRetN, pDrop, pIfS, pgName, pgNil, pgCons, pgTup_t, pAug, pApp, pYes, isk_non, nsk_non, isN_non, isN_bl, isN_int, isN_str, isN_tup, isN_lst, isN_ref, isN_obj, pTru, pFld, pStar, pMake, pSetF, pIt, pRng1, pRng2, forG, List.map_cons, List.map_nil, List.getElem?_cons_zero, List.getElem?_cons_succ, List.set_cons_zero, List.set_cons_succ, Option.some.injEq, exists_eq_left, exists_eq_left', true_and, and_true, wipeE, D.bl.injEq, D.int.injEq, D.str.injEq, D.tup.injEq, D.lst.injEq, Bool.not_true, decide_eq_true_eq, if_true, if_false, reduceIte, Bool.false_eq_true, Option.isNone_none, Option.isNone_some, Bool.not_false, List.length_nil, List.length_cons, List.nil_append, List.cons_append, D.ref.injEq, SO.lst.injEq, pCall, exists_const, and_self, Nat.zero_add, Nat.zero_le, Nat.reduceLeDiff, Nat.reduceAdd, eq_self, o_add, o_sub, o_mul, o_div, o_mod, o_cmp, o_int, o_lenl, o_lent, o_lens, o_tupl, o_tupt, o_min, o_max, q_int, ixk_tup, ixk_lst, ixk_scr, at0, at1, at2, at3, at4, at5, List.length_map, e_runs, e_plain]
  refine ⟨by decide, ?_⟩
  by_cases c1 : c % 2 = 0
  · rw [if_pos c1]
    exact rt_pure rfl (hk (.bl true) w_runs ⟨⟨[.wd w_runs], .one ⟨rfl, w_gd w_runs (by simp)⟩, rfl, by decide⟩, rfl⟩)
  · rw [if_neg c1]
    exact rt_pure rfl (hk (.bl false) w_plain ⟨⟨[.wd w_plain], .one ⟨rfl, w_gd w_plain (by simp)⟩, rfl, by decide⟩, rfl⟩)
theorem ok_law_runs {P : Program} {w : World} {K : PySem.W.Frag} {cl : Cl} {mg : Str → Option Value} {base : Heap} (D : Df K mg "_law_runs" s_law_runs ["cell"]) (T : Txt K cl mg) (hw : cl.w = w)  : C8.Cal P w K mg base 1 "_law_runs" (spP K cl F_law_runs) [] := by
  subst hw
  refine D.cal sc_law_runs (spP_len (n := 1) len_law_runs) (fun f cdv  A outer s H vs Q E hr h => ?_)
  refine ⟨_,
    (pss_cons (ps_if (pt_cmpR (show OpR _ _ (rEqP K) from op_eqP hr.units) (pe_op op_mod (pe_callTy call_int1 (by rfl) T.n_int (by decide +kernel) (pa_cons (pv 0) pa_nil)) pe_int) pe_int (nomark _))
      (pss_one (ps_ret (pe_tup (pa_cons pe_bl (pa_cons pe_str pa_nil)))))
      pss_nil)
    (pss_one (ps_ret (pe_tup (pa_cons pe_bl (pa_cons pe_str pa_nil)))))), ?_⟩
  exact fn_ok (N := ["cell"]) (show SmS K cl _ ps_law_runs from
    (sm_seq (sm_ifS (sm_test (sm_op smr_eq (sm_op smr_mod (sm_cb smc_int (sm_cons sm_var sm_nil)) sm_int) sm_int))
      ((sm_ret (sm_tup (sm_cons sm_bl (sm_cons sm_str sm_nil)))))
      sm_next)
    ((sm_ret (sm_tup (sm_cons sm_bl (sm_cons sm_str sm_nil))))))) body_law_runs h
def ps_law_deed : PSx :=
    (pSeq (pAsg (pCall F_law_spot (pCons (pOp ixk (pVar 1) (pC (.int 0))) pNil)) (pgTup 2 (pgCons (pgName 2) (pgCons (pgName 3) pgNil))))
    (pSeq (pAsg (pCall F_law_target (pCons (pOp ixk (pVar 1) (pC (.int 1))) pNil)) (pgTup 2 (pgCons (pgName 4) (pgCons (pgName 5) pgNil))))
    (pSeq (pAsg (pCall F_law_runs (pCons (pOp ixk (pVar 1) (pC (.int 2))) pNil)) (pgTup 2 (pgCons (pgName 6) (pgCons (pgName 7) pgNil))))
    (pSeq (pAsg (pCall F_law_text (pCons (pOp ixk (pVar 1) (pC (.int 3))) pNil)) (pgName 8))
    (pSeq (pAsg (pCall F_law_number (pCons (pOp ixk (pVar 1) (pC (.int 4))) pNil)) (pgName 9))
    (pSeq (pIfS (pB (pOp eqk (pVar 0) (pC (.int 0))))
      ((pRet (pTup (pCons (pTup (pCons (pC (.str (Str.ofString "make"))) (pCons (pVar 2) (pCons (pVar 8) (pCons (pVar 6) pNil))))) (pCons (pOp addk (pOp addk (pOp addk (pOp addk (pOp addk (pC (.str (Str.ofString "make "))) (pVar 3)) (pC (.str (Str.ofString " ")))) (pCall F_law_quoted (pCons (pVar 8) pNil))) (pC (.str (Str.ofString " ")))) (pVar 7)) pNil)))))
      pNext)
    (pSeq (pIfS (pB (pOp (cmpk fun i j => decide (i < j)) (pVar 0) (pC (.int 6))))
      (pSeq (pAsg (pOp ixk (pLst (pCons (pC (.str (Str.ofString "make_folder"))) (pCons (pC (.str (Str.ofString "make_other"))) (pCons (pC (.str (Str.ofString "remove"))) (pCons (pC (.str (Str.ofString "remove_folder"))) (pCons (pC (.str (Str.ofString "open"))) pNil)))))) (pOp subk (pVar 0) (pC (.int 1)))) (pgName 10))
      ((pRet (pTup (pCons (pTup (pCons (pVar 10) (pCons (pVar 2) pNil))) (pCons (pOp addk (pOp addk (pVar 10) (pC (.str (Str.ofString " ")))) (pVar 3)) pNil))))))
      pNext)
    (pSeq (pIfS (pB (pOp eqk (pVar 0) (pC (.int 6))))
      (pSeq (pAsg (pCall F_law_spot (pCons (pOp ixk (pVar 1) (pC (.int 5))) pNil)) (pgTup 2 (pgCons (pgName 11) (pgCons (pgName 12) pgNil))))
      ((pRet (pTup (pCons (pTup (pCons (pC (.str (Str.ofString "rename"))) (pCons (pVar 2) (pCons (pVar 11) pNil)))) (pCons (pOp addk (pOp addk (pOp addk (pC (.str (Str.ofString "rename "))) (pVar 3)) (pC (.str (Str.ofString " ")))) (pVar 12)) pNil))))))
      pNext)
    (pSeq (pIfS (pB (pOp eqk (pVar 0) (pC (.int 7))))
      ((pRet (pTup (pCons (pTup (pCons (pC (.str (Str.ofString "cut"))) (pCons (pVar 4) pNil))) (pCons (pOp addk (pC (.str (Str.ofString "cut "))) (pVar 5)) pNil)))))
      pNext)
    (pSeq (pIfS (pB (pOp eqk (pVar 0) (pC (.int 8))))
      ((pRet (pTup (pCons (pTup (pCons (pC (.str (Str.ofString "write"))) (pCons (pVar 4) (pCons (pVar 9) (pCons (pVar 8) pNil))))) (pCons (pOp addk (pOp addk (pOp addk (pOp addk (pOp addk (pC (.str (Str.ofString "write "))) (pVar 5)) (pC (.str (Str.ofString " ")))) (pCB strIk (pCons (pVar 9) pNil))) (pC (.str (Str.ofString " ")))) (pCall F_law_quoted (pCons (pVar 8) pNil))) pNil)))))
      pNext)
    (pSeq (pIfS (pB (pOp eqk (pVar 0) (pC (.int 9))))
      ((pRet (pTup (pCons (pTup (pCons (pC (.str (Str.ofString "set_runs"))) (pCons (pVar 4) (pCons (pVar 6) pNil)))) (pCons (pOp addk (pOp addk (pOp addk (pC (.str (Str.ofString "set_runs "))) (pVar 5)) (pC (.str (Str.ofString " ")))) (pVar 7)) pNil)))))
      pNext)
    (pSeq (pIfS (pB (pOp eqk (pVar 0) (pC (.int 10))))
      ((pRet (pTup (pCons (pTup (pCons (pC (.str (Str.ofString "read"))) (pCons (pVar 4) pNil))) (pCons (pOp addk (pC (.str (Str.ofString "read "))) (pVar 5)) pNil)))))
      pNext)
    ((pRet (pTup (pCons (pTup (pCons (pC (.str (Str.ofString "close"))) (pCons (pVar 9) pNil))) (pCons (pOp addk (pC (.str (Str.ofString "close "))) (pCB strIk (pCons (pVar 9) pNil))) pNil)))))))))))))))))
theorem start_law_deed : ∀ a0 a1 : D, startE 13 [a0, a1] = [some a0, some a1, none, none, none, none, none, none, none, none, none, none, none] := fun _ _ => rfl
theorem c_make_ : Str.ofString "make " = SX.S [109, 97, 107, 101, 32] := by decide +kernel
theorem c_rename_ : Str.ofString "rename " = SX.S [114, 101, 110, 97, 109, 101, 32] := by decide +kernel
theorem c_cut_ : Str.ofString "cut " = SX.S [99, 117, 116, 32] := by decide +kernel
theorem c_write_ : Str.ofString "write " = SX.S [119, 114, 105, 116, 101, 32] := by decide +kernel
theorem c_set_runs_ : Str.ofString "set_runs " = SX.S [115, 101, 116, 95, 114, 117, 110, 115, 32] := by decide +kernel
theorem c_read_ : Str.ofString "read " = SX.S [114, 101, 97, 100, 32] := by decide +kernel
theorem c_close_ : Str.ofString "close " = SX.S [99, 108, 111, 115, 101, 32] := by decide +kernel
theorem c_put_away_ : Str.ofString "put_away " = SX.S [112, 117, 116, 95, 97, 119, 97, 121, 32] := by decide +kernel
theorem c_fetch_ : Str.ofString "fetch " = SX.S [102, 101, 116, 99, 104, 32] := by decide +kernel
theorem c_trim_ : Str.ofString "trim " = SX.S [116, 114, 105, 109, 32] := by decide +kernel
theorem c_restore_ : Str.ofString "restore " = SX.S [114, 101, 115, 116, 111, 114, 101, 32] := by decide +kernel
theorem c__wish_ : Str.ofString " wish " = SX.S [32, 119, 105, 115, 104, 32] := by decide +kernel
theorem c__speak_ : Str.ofString " speak " = SX.S [32, 115, 112, 101, 97, 107, 32] := by decide +kernel
theorem c_make_folder : Str.ofString "make_folder" = SX.S [109, 97, 107, 101, 95, 102, 111, 108, 100, 101, 114] := by decide +kernel
theorem c_make_other : Str.ofString "make_other" = SX.S [109, 97, 107, 101, 95, 111, 116, 104, 101, 114] := by decide +kernel
theorem c_remove : Str.ofString "remove" = SX.S [114, 101, 109, 111, 118, 101] := by decide +kernel
theorem c_remove_folder : Str.ofString "remove_folder" = SX.S [114, 101, 109, 111, 118, 101, 95, 102, 111, 108, 100, 101, 114] := by decide +kernel
theorem c_open : Str.ofString "open" = SX.S [111, 112, 101, 110] := by decide +kernel
theorem c_scan : Str.ofString "scan" = SX.S [115, 99, 97, 110] := by decide +kernel
theorem c_step : Str.ofString "step" = SX.S [115, 116, 101, 112] := by decide +kernel
theorem c_refuse : Str.ofString "refuse" = SX.S [114, 101, 102, 117, 115, 101] := by decide +kernel
theorem c_unanswered : Str.ofString "unanswered" = SX.S [117, 110, 97, 110, 115, 119, 101, 114, 101, 100] := by decide +kernel
theorem c_crash : Str.ofString "crash" = SX.S [99, 114, 97, 115, 104] := by decide +kernel
theorem c_deliver : Str.ofString "deliver" = SX.S [100, 101, 108, 105, 118, 101, 114] := by decide +kernel
theorem c_lose : Str.ofString "lose" = SX.S [108, 111, 115, 101] := by decide +kernel
theorem c_again : Str.ofString "again" = SX.S [97, 103, 97, 105, 110] := by decide +kernel
theorem c_make : Str.ofString "make" = SX.S [109, 97, 107, 101] := by decide +kernel
theorem c_rename : Str.ofString "rename" = SX.S [114, 101, 110, 97, 109, 101] := by decide +kernel
theorem c_cut : Str.ofString "cut" = SX.S [99, 117, 116] := by decide +kernel
theorem c_write : Str.ofString "write" = SX.S [119, 114, 105, 116, 101] := by decide +kernel
theorem c_set_runs : Str.ofString "set_runs" = SX.S [115, 101, 116, 95, 114, 117, 110, 115] := by decide +kernel
theorem c_read : Str.ofString "read" = SX.S [114, 101, 97, 100] := by decide +kernel
theorem c_close : Str.ofString "close" = SX.S [99, 108, 111, 115, 101] := by decide +kernel
theorem c_put_away : Str.ofString "put_away" = SX.S [112, 117, 116, 95, 97, 119, 97, 121] := by decide +kernel
theorem c_fetch : Str.ofString "fetch" = SX.S [102, 101, 116, 99, 104] := by decide +kernel
theorem c_trim : Str.ofString "trim" = SX.S [116, 114, 105, 109] := by decide +kernel
theorem c_restore : Str.ofString "restore" = SX.S [114, 101, 115, 116, 111, 114, 101] := by decide +kernel
theorem c_program : Str.ofString "program" = SX.S [112, 114, 111, 103, 114, 97, 109] := by decide +kernel
theorem c_speak : Str.ofString "speak" = SX.S [115, 112, 101, 97, 107] := by decide +kernel
structure TellT (t : Tab) (d : D) (l : List Nat) : Prop where
  ex : ∃ w fs r ds, at_ t w = some fs ∧ formsF fs r = some ds ∧ d = .tup (dS w :: ds) ∧ LnOf (.wd w :: r) l ∧ l.length ≤ 200
  pu : d.pure = true
def GdW (w : List Nat) : Prop := w ≠ [] ∧ 32 ∉ w ∧ w.head? ≠ some 34 ∧ ∀ c, w.head? = some c → isDig c = false
theorem key_gd : (∀ w ∈ deedsT.map (·.1), GdW w) ∧ (∀ w ∈ wishesT.map (·.1), GdW w) ∧ (∀ w ∈ onT.map (·.1), GdW w) ∧ ∀ w ∈ letT.map (·.1), GdW w := by
  unfold GdW
  decide
theorem forms1 {f : Fm} {d : D} {ps : List Pt} (h : formF f ps = some (d, ps.length)) : formsF [f] ps = some [d] := forms_mk h (by rw [List.drop_length]; rfl)
theorem forms_app {f : Fm} {fs : List Fm} {d : D} {es : List D} {ps qs : List Pt} (h : formF f ps = some (d, ps.length)) (h' : formsF fs qs = some es) : formsF (f :: fs) (ps ++ qs) = some (d :: es) :=
  forms_mk ((inj_fm f).app ps qs d _ h).1 (by rw [List.drop_left]; exact h')
theorem told_w {t : Tab} {w : List Nat} {fs : List Fm} {r : List Pt} {ds : List D} {l : List Nat} (hw : GdW w) (h1 : at_ t w = some fs) (h2 : formsF fs r = some ds) (h3 : LnOf r l) (h4 : w.length + 1 + l.length ≤ 200) : TellT t (.tup (dS w :: ds)) (w ++ 32 :: l) :=
  ⟨⟨w, fs, r, ds, h1, h2, rfl, .cons ⟨rfl, hw⟩ h3, by rw [List.length_append, List.length_cons]; omega⟩, by show ((dS w).pure && pureAll ds) = true; rw [forms_pure h2]; rfl⟩
theorem tell1 {t : Tab} {w : List Nat} {f : Fm} {d : D} {l : List Nat} {n : Nat} (hw : GdW w) (h1 : at_ t w = some [f]) (h : Told f d l n) (hn : w.length + 1 + n ≤ 200) : TellT t (.tup [dS w, d]) (w ++ 32 :: l) := by
  obtain ⟨ps, a, b, c⟩ := h.ex
  exact told_w hw h1 (forms1 b) a (by omega)
theorem tell2 {t : Tab} {w : List Nat} {f g : Fm} {d e : D} {l m : List Nat} {n n' : Nat} (hw : GdW w) (h1 : at_ t w = some [f, g]) (h : Told f d l n) (h' : Told g e m n') (hn : w.length + 1 + (n + 1 + n') ≤ 200) : TellT t (.tup [dS w, d, e]) (w ++ 32 :: (l ++ 32 :: m)) := by
  obtain ⟨ps, a, b, c⟩ := h.ex
  obtain ⟨qs, a', b', c'⟩ := h'.ex
  exact told_w hw h1 (forms_app b (forms1 b')) (a.app a') (by rw [List.length_append, List.length_cons]; omega)
theorem tell3 {t : Tab} {w : List Nat} {f g i : Fm} {d e o : D} {l m q : List Nat} {n n' n'' : Nat} (hw : GdW w) (h1 : at_ t w = some [f, g, i]) (h : Told f d l n) (h' : Told g e m n') (h'' : Told i o q n'') (hn : w.length + 1 + (n + 1 + (n' + 1 + n'')) ≤ 200) : TellT t (.tup [dS w, d, e, o]) (w ++ 32 :: (l ++ 32 :: (m ++ 32 :: q))) := by
  obtain ⟨ps, a, b, c⟩ := h.ex
  obtain ⟨qs, a', b', c'⟩ := h'.ex
  obtain ⟨rs, a'', b'', c''⟩ := h''.ex
  exact told_w hw h1 (forms_app b (forms_app b' (forms1 b''))) (a.app (a'.app a'')) (by rw [List.length_append, List.length_cons, List.length_append, List.length_cons]; omega)
theorem told_num {q : Nat × List Nat} (hq : q ∈ nmsL) : Told .number (.int (q.1 : Int)) q.2 10 := by
  obtain ⟨g1, g2, _, _⟩ := nms_good q hq
  exact ⟨⟨[.nm q.1], .one (show Par.numL q.2 = some q.1 from g1), rfl, g2⟩, rfl⟩
theorem txs_good : ∀ t ∈ txsL, t.length ≤ 4 := by decide
theorem told_text {t : List Nat} (ht : t ∈ txsL) : Told .text (dS t) (quoL t) 10 := by
  have h := esc_len t
  have h2 := txs_good t ht
  exact ⟨⟨[.qt t], .one (quo_gd t), rfl, by show (34 :: (escL t ++ [34])).length ≤ 10; rw [List.length_cons, List.length_append, List.length_singleton]; omega⟩, rfl⟩
theorem told_path {p : List (List Nat)} (hp : PathOk p) : Told .path (dP p) (quoL (TL.joinL [47] p)) 44 := by
  obtain ⟨hr, hjl⟩ := path_read hp
  have hel := esc_len (TL.joinL [47] p)
  refine ⟨⟨[.qt (TL.joinL [47] p)], .one (quo_gd _), ?_, by show (34 :: (escL (TL.joinL [47] p) ++ [34])).length ≤ 44; rw [List.length_cons, List.length_append, List.length_singleton]; omega⟩, pu_dP p⟩
  show (readP (TL.joinL [47] p)).map _ = _
  rw [hr]
  rfl
theorem Told.le {f : Fm} {d : D} {l : List Nat} {n : Nat} (h : Told f d l n) : l.length ≤ n := by
  obtain ⟨_, _, _, h⟩ := h.ex
  exact h
def F_law_deed : PFn := fun ds k => ∃ (kd : Nat) (cs : List Int), ds = [.int (kd : Int), .lst (cs.map D.int)] ∧ kd < 12 ∧ 6 ≤ cs.length ∧ ∀ (d : D) (l : List Nat), TellT deedsT d l → k (.tup [d, dS l])
theorem len_law_deed : ∀ ds k, F_law_deed ds k → ds.length = 2 := by
  rintro _ _ ⟨_, _, rfl, _⟩
  rfl
theorem cell_at {cs : List Int} {n : Nat} (h : n < cs.length) : ∃ v, L2.atI (cs.map D.int) (n : Int) = some (.int v) := ⟨cs[n], at_map (List.getElem?_eq_getElem h)⟩
theorem body_law_deed : ∀ ds k, F_law_deed ds k → ps_law_deed { nx := fun _ _ => k .non, rt := fun d S => (d.frz S).noRef = true ∧ k (d.frz S) } (startE 13 ds) [] := by
  rintro _ k ⟨kd, cs, rfl, hkd, hcs, hk⟩
  rw [start_law_deed]
  unfold ps_law_deed
  obtain ⟨v0, e0⟩ := cell_at (cs := cs) (n := 0) (by omega)
  obtain ⟨v1, e1⟩ := cell_at (cs := cs) (n := 1) (by omega)
  obtain ⟨v2, e2⟩ := cell_at (cs := cs) (n := 2) (by omega)
  obtain ⟨v3, e3⟩ := cell_at (cs := cs) (n := 3) (by omega)
  obtain ⟨v4, e4⟩ := cell_at (cs := cs) (n := 4) (by omega)
  obtain ⟨v5, e5⟩ := cell_at (cs := cs) (n := 5) (by omega)
  simp only [pForD, pInsL, pExtA, pSeq, pAsg, pVar, pC, pOp, pNil, pCons, pTup, pLst, pLstM, pNot, pAndV, pOrV, pIf, pB, pAnd, pOr, pNotT, pNoPart, pPart, pCB, pUnN, pSl, pNext, pBreak, pCont, pRet, pRetN, pDrop, pIfS, pgName, pgNil, pgCons, pgTup_t, pAug, pApp, pYes, isk_non, nsk_non, isN_non, isN_bl, isN_int, isN_str, isN_tup, isN_lst, isN_ref, isN_obj, pTru, pFld, pStar, pMake, pSetF, pIt, pRng1, pRng2, forG, List.map_cons, List.map_nil, List.getElem?_cons_zero, List.getElem?_cons_succ, List.set_cons_zero, List.set_cons_succ, Option.some.injEq, exists_eq_left, exists_eq_left', true_and, and_true, wipeE, D.bl.injEq, D.int.injEq, D.str.injEq, D.tup.injEq, D.lst.injEq, Bool.not_true, decide_eq_true_eq, if_true, if_false, reduceIte, Bool.false_eq_true, Option.isNone_none, Option.isNone_some, Bool.not_false, List.length_nil, List.length_cons, List.nil_append, List.cons_append, D.ref.injEq, SO.lst.injEq, pCall, exists_const, and_self, Nat.zero_add, Nat.zero_le, Nat.reduceLeDiff, Nat.reduceAdd, eq_self, o_add, o_sub, o_mul, o_div, o_mod, o_cmp, o_int, o_lenl, o_lent, o_lens, o_tupl, o_tupt, o_min, o_max, q_int, ixk_tup, ixk_lst, ixk_scr, at0, at1, at2, at3, at4, at5, List.length_map, c_make_, c_rename_, c_cut_, c_write_, c_set_runs_, c_read_, c_close_, c_put_away_, c_fetch_, c_trim_, c_restore_, c__wish_, c__speak_, c_make_folder, c_make_other, c_remove, c_remove_folder, c_open, c_scan, c_step, c_refuse, c_unanswered, c_crash, c_deliver, c_lose, c_again, c_make, c_rename, c_cut, c_write, c_set_runs, c_read, c_close, c_put_away, c_fetch, c_trim, c_restore, c_program, c_speak, e_sp]
  refine ⟨_, e0, call_of rfl ⟨_, rfl, fun sp told hsp => ?_⟩⟩
  simp only [pForD, pInsL, pExtA, pSeq, pAsg, pVar, pC, pOp, pNil, pCons, pTup, pLst, pLstM, pNot, pAndV, pOrV, pIf, pB, pAnd, pOr, pNotT, pNoPart, pPart, pCB, pUnN, pSl, pNext, pBreak, pCont, pRet, pRetN, pDrop, pIfS, pgName, pgNil, pgCons, pgTup_t, pAug, pApp, pYes, isk_non, nsk_non, isN_non, isN_bl, isN_int, isN_str, isN_tup, isN_lst, isN_ref, isN_obj, pTru, pFld, pStar, pMake, pSetF, pIt, pRng1, pRng2, forG, List.map_cons, List.map_nil, List.getElem?_cons_zero, List.getElem?_cons_succ, List.set_cons_zero, List.set_cons_succ, Option.some.injEq, exists_eq_left, exists_eq_left', true_and, and_true, wipeE, D.bl.injEq, D.int.injEq, D.str.injEq, D.tup.injEq, D.lst.injEq, Bool.not_true, decide_eq_true_eq, if_true, if_false, reduceIte, Bool.false_eq_true, Option.isNone_none, Option.isNone_some, Bool.not_false, List.length_nil, List.length_cons, List.nil_append, List.cons_append, D.ref.injEq, SO.lst.injEq, pCall, exists_const, and_self, Nat.zero_add, Nat.zero_le, Nat.reduceLeDiff, Nat.reduceAdd, eq_self, o_add, o_sub, o_mul, o_div, o_mod, o_cmp, o_int, o_lenl, o_lent, o_lens, o_tupl, o_tupt, o_min, o_max, q_int, ixk_tup, ixk_lst, ixk_scr, at0, at1, at2, at3, at4, at5, List.length_map]
  refine ⟨_, e1, call_of rfl ⟨_, rfl, fun tg aim htg => ?_⟩⟩
  simp only [pForD, pInsL, pExtA, pSeq, pAsg, pVar, pC, pOp, pNil, pCons, pTup, pLst, pLstM, pNot, pAndV, pOrV, pIf, pB, pAnd, pOr, pNotT, pNoPart, pPart, pCB, pUnN, pSl, pNext, pBreak, pCont, pRet, pRetN, pDrop, pIfS, pgName, pgNil, pgCons, pgTup_t, pAug, pApp, pYes, isk_non, nsk_non, isN_non, isN_bl, isN_int, isN_str, isN_tup, isN_lst, isN_ref, isN_obj, pTru, pFld, pStar, pMake, pSetF, pIt, pRng1, pRng2, forG, List.map_cons, List.map_nil, List.getElem?_cons_zero, List.getElem?_cons_succ, List.set_cons_zero, List.set_cons_succ, Option.some.injEq, exists_eq_left, exists_eq_left', true_and, and_true, wipeE, D.bl.injEq, D.int.injEq, D.str.injEq, D.tup.injEq, D.lst.injEq, Bool.not_true, decide_eq_true_eq, if_true, if_false, reduceIte, Bool.false_eq_true, Option.isNone_none, Option.isNone_some, Bool.not_false, List.length_nil, List.length_cons, List.nil_append, List.cons_append, D.ref.injEq, SO.lst.injEq, pCall, exists_const, and_self, Nat.zero_add, Nat.zero_le, Nat.reduceLeDiff, Nat.reduceAdd, eq_self, o_add, o_sub, o_mul, o_div, o_mod, o_cmp, o_int, o_lenl, o_lent, o_lens, o_tupl, o_tupt, o_min, o_max, q_int, ixk_tup, ixk_lst, ixk_scr, at0, at1, at2, at3, at4, at5, List.length_map]
  refine ⟨_, e2, call_of rfl ⟨_, rfl, fun rn word hrn => ?_⟩⟩
  simp only [pForD, pInsL, pExtA, pSeq, pAsg, pVar, pC, pOp, pNil, pCons, pTup, pLst, pLstM, pNot, pAndV, pOrV, pIf, pB, pAnd, pOr, pNotT, pNoPart, pPart, pCB, pUnN, pSl, pNext, pBreak, pCont, pRet, pRetN, pDrop, pIfS, pgName, pgNil, pgCons, pgTup_t, pAug, pApp, pYes, isk_non, nsk_non, isN_non, isN_bl, isN_int, isN_str, isN_tup, isN_lst, isN_ref, isN_obj, pTru, pFld, pStar, pMake, pSetF, pIt, pRng1, pRng2, forG, List.map_cons, List.map_nil, List.getElem?_cons_zero, List.getElem?_cons_succ, List.set_cons_zero, List.set_cons_succ, Option.some.injEq, exists_eq_left, exists_eq_left', true_and, and_true, wipeE, D.bl.injEq, D.int.injEq, D.str.injEq, D.tup.injEq, D.lst.injEq, Bool.not_true, decide_eq_true_eq, if_true, if_false, reduceIte, Bool.false_eq_true, Option.isNone_none, Option.isNone_some, Bool.not_false, List.length_nil, List.length_cons, List.nil_append, List.cons_append, D.ref.injEq, SO.lst.injEq, pCall, exists_const, and_self, Nat.zero_add, Nat.zero_le, Nat.reduceLeDiff, Nat.reduceAdd, eq_self, o_add, o_sub, o_mul, o_div, o_mod, o_cmp, o_int, o_lenl, o_lent, o_lens, o_tupl, o_tupt, o_min, o_max, q_int, ixk_tup, ixk_lst, ixk_scr, at0, at1, at2, at3, at4, at5, List.length_map]
  refine ⟨_, e3, call_of rfl ⟨_, rfl, fun t ht => ?_⟩⟩
  refine ⟨_, e4, call_of rfl ⟨_, rfl, fun q hq => ?_⟩⟩
  have b1 := hsp.le
  have b2 := htg.le
  have b3 := hrn.le
  have b4 := (told_text ht).le
  have b5 := (told_num hq).le
  simp only [pForD, pInsL, pExtA, pSeq, pAsg, pVar, pC, pOp, pNil, pCons, pTup, pLst, pLstM, pNot, pAndV, pOrV, pIf, pB, pAnd, pOr, pNotT, pNoPart, pPart, pCB, pUnN, pSl, pNext, pBreak, pCont, pRet, pRetN, pDrop, pIfS, pgName, pgNil, pgCons, pgTup_t, pAug, pApp, pYes, isk_non, nsk_non, isN_non, isN_bl, isN_int, isN_str, isN_tup, isN_lst, isN_ref, isN_obj, pTru, pFld, pStar, pMake, pSetF, pIt, pRng1, pRng2, forG, List.map_cons, List.map_nil, List.getElem?_cons_zero, List.getElem?_cons_succ, List.set_cons_zero, List.set_cons_succ, Option.some.injEq, exists_eq_left, exists_eq_left', true_and, and_true, wipeE, D.bl.injEq, D.int.injEq, D.str.injEq, D.tup.injEq, D.lst.injEq, Bool.not_true, decide_eq_true_eq, if_true, if_false, reduceIte, Bool.false_eq_true, Option.isNone_none, Option.isNone_some, Bool.not_false, List.length_nil, List.length_cons, List.nil_append, List.cons_append, D.ref.injEq, SO.lst.injEq, pCall, exists_const, and_self, Nat.zero_add, Nat.zero_le, Nat.reduceLeDiff, Nat.reduceAdd, eq_self, o_add, o_sub, o_mul, o_div, o_mod, o_cmp, o_int, o_lenl, o_lent, o_lens, o_tupl, o_tupt, o_min, o_max, q_int, ixk_tup, ixk_lst, ixk_scr, at0, at1, at2, at3, at4, at5, List.length_map]
  by_cases c0 : (kd : Int) = 0
  · rw [if_pos c0]
    refine addS (by simp only [List.length_append, List.length_cons, List.length_nil]; omega) (addS (by simp only [List.length_append, List.length_cons, List.length_nil]; omega) (call_of rfl ⟨t, rfl, by have := txs_good t ht; omega, addS (by simp only [List.length_append, List.length_cons, List.length_nil]; omega) (addS (by simp only [List.length_append, List.length_cons, List.length_nil]; omega) (addS (by simp only [List.length_append, List.length_cons, List.length_nil]; omega) ?_))⟩))
    refine rt_pure (by simp only [D.pure, pureAll, dS, hsp.pu, htg.pu, hrn.pu, Bool.and_self]) (hk (.tup [dS [109, 97, 107, 101], sp, dS t, rn]) _ ?_)
    have e : [109, 97, 107, 101, 32] ++ told ++ [32] ++ quoL t ++ [32] ++ word = [109, 97, 107, 101] ++ 32 :: (told ++ 32 :: (quoL t ++ 32 :: word)) := by simp only [List.append_assoc]; rfl
    rw [e]
    exact tell3 (key_gd.1 [109, 97, 107, 101] (by decide +kernel)) (by decide +kernel) hsp (told_text ht) hrn (by decide)
  rw [if_neg c0]
  by_cases c1 : (kd : Int) < 6
  · rw [if_pos c1]
    have base : ∀ w : List Nat, w ∈ deedsT.map (·.1) → at_ deedsT w = some [.spot] → w.length ≤ 20 → addk [] (dS w) (D.str (SX.S [32])) fun z => addk [] z (dS told) fun z => (D.frz [] (D.tup [D.tup [dS w, sp], z])).noRef = true ∧ k (D.frz [] (D.tup [D.tup [dS w, sp], z])) := fun w hw h1 hl => by
      refine addS (by simp only [List.length_append, List.length_cons, List.length_nil]; omega) (addS (by simp only [List.length_append, List.length_cons, List.length_nil]; omega) ?_)
      refine rt_pure (by simp only [D.pure, pureAll, dS, hsp.pu, htg.pu, hrn.pu, Bool.and_self]) (hk (.tup [dS w, sp]) _ ?_)
      rw [List.append_assoc]
      exact tell1 (key_gd.1 w hw) h1 hsp (by omega)
    rcases (show kd = 1 ∨ kd = 2 ∨ kd = 3 ∨ kd = 4 ∨ kd = 5 by omega) with rfl | rfl | rfl | rfl | rfl
    · exact ⟨_, rfl, base _ (by decide +kernel) (by decide +kernel) (by decide)⟩
    · exact ⟨_, rfl, base _ (by decide +kernel) (by decide +kernel) (by decide)⟩
    · exact ⟨_, rfl, base _ (by decide +kernel) (by decide +kernel) (by decide)⟩
    · exact ⟨_, rfl, base _ (by decide +kernel) (by decide +kernel) (by decide)⟩
    · exact ⟨_, rfl, base _ (by decide +kernel) (by decide +kernel) (by decide)⟩
  rw [if_neg c1]
  by_cases c2 : (kd : Int) = 6
  · rw [if_pos c2]
    refine ⟨_, e5, call_of rfl ⟨_, rfl, fun gl there hgl => ?_⟩⟩
    have b6 := hgl.le
    simp only [pForD, pInsL, pExtA, pSeq, pAsg, pVar, pC, pOp, pNil, pCons, pTup, pLst, pLstM, pNot, pAndV, pOrV, pIf, pB, pAnd, pOr, pNotT, pNoPart, pPart, pCB, pUnN, pSl, pNext, pBreak, pCont, pRet, pRetN, pDrop, pIfS, pgName, pgNil, pgCons, pgTup_t, pAug, pApp, pYes, isk_non, nsk_non, isN_non, isN_bl, isN_int, isN_str, isN_tup, isN_lst, isN_ref, isN_obj, pTru, pFld, pStar, pMake, pSetF, pIt, pRng1, pRng2, forG, List.map_cons, List.map_nil, List.getElem?_cons_zero, List.getElem?_cons_succ, List.set_cons_zero, List.set_cons_succ, Option.some.injEq, exists_eq_left, exists_eq_left', true_and, and_true, wipeE, D.bl.injEq, D.int.injEq, D.str.injEq, D.tup.injEq, D.lst.injEq, Bool.not_true, decide_eq_true_eq, if_true, if_false, reduceIte, Bool.false_eq_true, Option.isNone_none, Option.isNone_some, Bool.not_false, List.length_nil, List.length_cons, List.nil_append, List.cons_append, D.ref.injEq, SO.lst.injEq, pCall, exists_const, and_self, Nat.zero_add, Nat.zero_le, Nat.reduceLeDiff, Nat.reduceAdd, eq_self, o_add, o_sub, o_mul, o_div, o_mod, o_cmp, o_int, o_lenl, o_lent, o_lens, o_tupl, o_tupt, o_min, o_max, q_int, ixk_tup, ixk_lst, ixk_scr, at0, at1, at2, at3, at4, at5, List.length_map]
    refine addS (by simp only [List.length_append, List.length_cons, List.length_nil]; omega) (addS (by simp only [List.length_append, List.length_cons, List.length_nil]; omega) (addS (by simp only [List.length_append, List.length_cons, List.length_nil]; omega) ?_))
    refine rt_pure (by simp only [D.pure, pureAll, dS, hsp.pu, hgl.pu, Bool.and_self]) (hk (.tup [dS [114, 101, 110, 97, 109, 101], sp, gl]) _ ?_)
    have e : [114, 101, 110, 97, 109, 101, 32] ++ told ++ [32] ++ there = [114, 101, 110, 97, 109, 101] ++ 32 :: (told ++ 32 :: there) := by simp only [List.append_assoc]; rfl
    rw [e]
    exact tell2 (key_gd.1 [114, 101, 110, 97, 109, 101] (by decide +kernel)) (by decide +kernel) hsp hgl (by decide)
  rw [if_neg c2]
  by_cases c3 : (kd : Int) = 7
  · rw [if_pos c3]
    refine addS (by simp only [List.length_append, List.length_cons, List.length_nil]; omega) ?_
    refine rt_pure (by simp only [D.pure, pureAll, dS, hsp.pu, htg.pu, hrn.pu, Bool.and_self]) (hk (.tup [dS [99, 117, 116], tg]) _ ?_)
    exact tell1 (w := [99, 117, 116]) (key_gd.1 [99, 117, 116] (by decide +kernel)) (by decide +kernel) htg (by decide)
  rw [if_neg c3]
  by_cases c4 : (kd : Int) = 8
  · rw [if_pos c4]
    refine addS (by simp only [List.length_append, List.length_cons, List.length_nil]; omega) (addS (by simp only [List.length_append, List.length_cons, List.length_nil]; omega) (strI hq (addS (by simp only [List.length_append, List.length_cons, List.length_nil]; omega) (addS (by simp only [List.length_append, List.length_cons, List.length_nil]; omega) (call_of rfl ⟨t, rfl, by have := txs_good t ht; omega, addS (by simp only [List.length_append, List.length_cons, List.length_nil]; omega) ?_⟩)))))
    refine rt_pure (by simp only [D.pure, pureAll, dS, hsp.pu, htg.pu, hrn.pu, Bool.and_self]) (hk (.tup [dS [119, 114, 105, 116, 101], tg, .int q.1, dS t]) _ ?_)
    have e : [119, 114, 105, 116, 101, 32] ++ aim ++ [32] ++ q.2 ++ [32] ++ quoL t = [119, 114, 105, 116, 101] ++ 32 :: (aim ++ 32 :: (q.2 ++ 32 :: quoL t)) := by simp only [List.append_assoc]; rfl
    rw [e]
    exact tell3 (key_gd.1 [119, 114, 105, 116, 101] (by decide +kernel)) (by decide +kernel) htg (told_num hq) (told_text ht) (by decide)
  rw [if_neg c4]
  by_cases c5 : (kd : Int) = 9
  · rw [if_pos c5]
    refine addS (by simp only [List.length_append, List.length_cons, List.length_nil]; omega) (addS (by simp only [List.length_append, List.length_cons, List.length_nil]; omega) (addS (by simp only [List.length_append, List.length_cons, List.length_nil]; omega) ?_))
    refine rt_pure (by simp only [D.pure, pureAll, dS, hsp.pu, htg.pu, hrn.pu, Bool.and_self]) (hk (.tup [dS [115, 101, 116, 95, 114, 117, 110, 115], tg, rn]) _ ?_)
    have e : [115, 101, 116, 95, 114, 117, 110, 115, 32] ++ aim ++ [32] ++ word = [115, 101, 116, 95, 114, 117, 110, 115] ++ 32 :: (aim ++ 32 :: word) := by simp only [List.append_assoc]; rfl
    rw [e]
    exact tell2 (key_gd.1 [115, 101, 116, 95, 114, 117, 110, 115] (by decide +kernel)) (by decide +kernel) htg hrn (by decide)
  rw [if_neg c5]
  by_cases c6 : (kd : Int) = 10
  · rw [if_pos c6]
    refine addS (by simp only [List.length_append, List.length_cons, List.length_nil]; omega) ?_
    refine rt_pure (by simp only [D.pure, pureAll, dS, hsp.pu, htg.pu, hrn.pu, Bool.and_self]) (hk (.tup [dS [114, 101, 97, 100], tg]) _ ?_)
    exact tell1 (w := [114, 101, 97, 100]) (key_gd.1 [114, 101, 97, 100] (by decide +kernel)) (by decide +kernel) htg (by decide)
  rw [if_neg c6]
  refine strI hq (addS (by simp only [List.length_append, List.length_cons, List.length_nil]; omega) ?_)
  refine rt_pure (by simp only [D.pure, pureAll, dS, hsp.pu, htg.pu, hrn.pu, Bool.and_self]) (hk (.tup [dS [99, 108, 111, 115, 101], .int q.1]) _ ?_)
  exact tell1 (w := [99, 108, 111, 115, 101]) (key_gd.1 [99, 108, 111, 115, 101] (by decide +kernel)) (by decide +kernel) (told_num hq) (by decide)
theorem ok_law_deed {P : Program} {w : World} {K : PySem.W.Frag} {cl : Cl} {mg : Str → Option Value} {base : Heap} (D : Df K mg "_law_deed" s_law_deed ["kind", "cells"]) (T : Txt K cl mg) (hw : cl.w = w) (G_law_quoted : C8.Cal P w K mg base 1 "_law_quoted" (spP K cl F_law_quoted) []) (G_law_text : C8.Cal P w K mg base 1 "_law_text" (spP K cl F_law_text) []) (G_law_number : C8.Cal P w K mg base 1 "_law_number" (spP K cl F_law_number) []) (G_law_spot : C8.Cal P w K mg base 2 "_law_spot" (spP K cl F_law_spot) []) (G_law_target : C8.Cal P w K mg base 3 "_law_target" (spP K cl F_law_target) []) (G_law_runs : C8.Cal P w K mg base 1 "_law_runs" (spP K cl F_law_runs) []) : C8.Cal P w K mg base 4 "_law_deed" (spP K cl F_law_deed) [] := by
  subst hw
  refine D.cal sc_law_deed (spP_len (n := 2) len_law_deed) (fun f cdv  A outer s H vs Q E hr h => ?_)
  refine ⟨_,
    (pss_cons (ps_asg (C8.pe_c G_law_spot hr (by decide) (by rfl) (pa_cons (pe_ix (show IxR _ (uIx K) from uix) (pv 1) pe_int (fun _ _ => rfl)) pa_nil)) (pg_tup rfl (pgs_cons (pg_name (i := 2) sc_law_deed.nd rfl (Or.inl rfl)) (pgs_cons (pg_name (i := 3) sc_law_deed.nd rfl (Or.inl rfl)) pgs_nil))))
    (pss_cons (ps_asg (C8.pe_c G_law_target hr (by decide) (by rfl) (pa_cons (pe_ix (show IxR _ (uIx K) from uix) (pv 1) pe_int (fun _ _ => rfl)) pa_nil)) (pg_tup rfl (pgs_cons (pg_name (i := 4) sc_law_deed.nd rfl (Or.inl rfl)) (pgs_cons (pg_name (i := 5) sc_law_deed.nd rfl (Or.inl rfl)) pgs_nil))))
    (pss_cons (ps_asg (C8.pe_c G_law_runs hr (by decide) (by rfl) (pa_cons (pe_ix (show IxR _ (uIx K) from uix) (pv 1) pe_int (fun _ _ => rfl)) pa_nil)) (pg_tup rfl (pgs_cons (pg_name (i := 6) sc_law_deed.nd rfl (Or.inl rfl)) (pgs_cons (pg_name (i := 7) sc_law_deed.nd rfl (Or.inl rfl)) pgs_nil))))
    (pss_cons (ps_set (i := 8) sc_law_deed.nd rfl (.inl rfl) (C8.pe_c G_law_text hr (by decide) (by rfl) (pa_cons (pe_ix (show IxR _ (uIx K) from uix) (pv 1) pe_int (fun _ _ => rfl)) pa_nil)))
    (pss_cons (ps_set (i := 9) sc_law_deed.nd rfl (.inl rfl) (C8.pe_c G_law_number hr (by decide) (by rfl) (pa_cons (pe_ix (show IxR _ (uIx K) from uix) (pv 1) pe_int (fun _ _ => rfl)) pa_nil)))
    (pss_cons (ps_if (pt_cmpR (show OpR _ _ (rEqP K) from op_eqP hr.units) (pv 0) pe_int (nomark _))
      (pss_one (ps_ret (pe_tup (pa_cons (pe_tup (pa_cons pe_str (pa_cons (pv 2) (pa_cons (pv 8) (pa_cons (pv 6) pa_nil))))) (pa_cons (pe_op (show OpR _ _ (uAdd K) from uop_add) (pe_op (show OpR _ _ (uAdd K) from uop_add) (pe_op (show OpR _ _ (uAdd K) from uop_add) (pe_op (show OpR _ _ (uAdd K) from uop_add) (pe_op (show OpR _ _ (uAdd K) from uop_add) pe_str (pv 3)) pe_str) (C8.pe_c G_law_quoted hr (by decide) (by rfl) (pa_cons (pv 8) pa_nil))) pe_str) (pv 7)) pa_nil)))))
      pss_nil)
    (pss_cons (ps_if (pt_cmpR op_lt (pv 0) pe_int (nomark _))
      (pss_cons (ps_set (i := 10) sc_law_deed.nd rfl (.inl rfl) (pe_ix (show IxR _ (uIx K) from uix) (pe_lst (pa_cons pe_str (pa_cons pe_str (pa_cons pe_str (pa_cons pe_str (pa_cons pe_str pa_nil)))))) (pe_op op_sub (pv 0) pe_int) (fun _ _ => rfl)))
      (pss_one (ps_ret (pe_tup (pa_cons (pe_tup (pa_cons (pv 10) (pa_cons (pv 2) pa_nil))) (pa_cons (pe_op (show OpR _ _ (uAdd K) from uop_add) (pe_op (show OpR _ _ (uAdd K) from uop_add) (pv 10) pe_str) (pv 3)) pa_nil))))))
      pss_nil)
    (pss_cons (ps_if (pt_cmpR (show OpR _ _ (rEqP K) from op_eqP hr.units) (pv 0) pe_int (nomark _))
      (pss_cons (ps_asg (C8.pe_c G_law_spot hr (by decide) (by rfl) (pa_cons (pe_ix (show IxR _ (uIx K) from uix) (pv 1) pe_int (fun _ _ => rfl)) pa_nil)) (pg_tup rfl (pgs_cons (pg_name (i := 11) sc_law_deed.nd rfl (Or.inl rfl)) (pgs_cons (pg_name (i := 12) sc_law_deed.nd rfl (Or.inl rfl)) pgs_nil))))
      (pss_one (ps_ret (pe_tup (pa_cons (pe_tup (pa_cons pe_str (pa_cons (pv 2) (pa_cons (pv 11) pa_nil)))) (pa_cons (pe_op (show OpR _ _ (uAdd K) from uop_add) (pe_op (show OpR _ _ (uAdd K) from uop_add) (pe_op (show OpR _ _ (uAdd K) from uop_add) pe_str (pv 3)) pe_str) (pv 12)) pa_nil))))))
      pss_nil)
    (pss_cons (ps_if (pt_cmpR (show OpR _ _ (rEqP K) from op_eqP hr.units) (pv 0) pe_int (nomark _))
      (pss_one (ps_ret (pe_tup (pa_cons (pe_tup (pa_cons pe_str (pa_cons (pv 4) pa_nil))) (pa_cons (pe_op (show OpR _ _ (uAdd K) from uop_add) pe_str (pv 5)) pa_nil)))))
      pss_nil)
    (pss_cons (ps_if (pt_cmpR (show OpR _ _ (rEqP K) from op_eqP hr.units) (pv 0) pe_int (nomark _))
      (pss_one (ps_ret (pe_tup (pa_cons (pe_tup (pa_cons pe_str (pa_cons (pv 4) (pa_cons (pv 9) (pa_cons (pv 8) pa_nil))))) (pa_cons (pe_op (show OpR _ _ (uAdd K) from uop_add) (pe_op (show OpR _ _ (uAdd K) from uop_add) (pe_op (show OpR _ _ (uAdd K) from uop_add) (pe_op (show OpR _ _ (uAdd K) from uop_add) (pe_op (show OpR _ _ (uAdd K) from uop_add) pe_str (pv 5)) pe_str) (pe_callTy call_str_int (by rfl) T.n_str (by decide +kernel) (pa_cons (pv 9) pa_nil))) pe_str) (C8.pe_c G_law_quoted hr (by decide) (by rfl) (pa_cons (pv 8) pa_nil))) pa_nil)))))
      pss_nil)
    (pss_cons (ps_if (pt_cmpR (show OpR _ _ (rEqP K) from op_eqP hr.units) (pv 0) pe_int (nomark _))
      (pss_one (ps_ret (pe_tup (pa_cons (pe_tup (pa_cons pe_str (pa_cons (pv 4) (pa_cons (pv 6) pa_nil)))) (pa_cons (pe_op (show OpR _ _ (uAdd K) from uop_add) (pe_op (show OpR _ _ (uAdd K) from uop_add) (pe_op (show OpR _ _ (uAdd K) from uop_add) pe_str (pv 5)) pe_str) (pv 7)) pa_nil)))))
      pss_nil)
    (pss_cons (ps_if (pt_cmpR (show OpR _ _ (rEqP K) from op_eqP hr.units) (pv 0) pe_int (nomark _))
      (pss_one (ps_ret (pe_tup (pa_cons (pe_tup (pa_cons pe_str (pa_cons (pv 4) pa_nil))) (pa_cons (pe_op (show OpR _ _ (uAdd K) from uop_add) pe_str (pv 5)) pa_nil)))))
      pss_nil)
    (pss_one (ps_ret (pe_tup (pa_cons (pe_tup (pa_cons pe_str (pa_cons (pv 9) pa_nil))) (pa_cons (pe_op (show OpR _ _ (uAdd K) from uop_add) pe_str (pe_callTy call_str_int (by rfl) T.n_str (by decide +kernel) (pa_cons (pv 9) pa_nil))) pa_nil))))))))))))))))), ?_⟩
  exact fn_ok (N := ["kind", "cells", "spot", "told", "target", "aim", "runs", "word", "text", "at", "name", "goal", "there"]) (show SmS K cl _ ps_law_deed from
    (sm_seq (sm_asg (sm_call (sm_cons (sm_op smr_ix sm_var sm_int) sm_nil)) (sm_gtup (sm_gcons sm_gname (sm_gcons sm_gname sm_gnil))))
    (sm_seq (sm_asg (sm_call (sm_cons (sm_op smr_ix sm_var sm_int) sm_nil)) (sm_gtup (sm_gcons sm_gname (sm_gcons sm_gname sm_gnil))))
    (sm_seq (sm_asg (sm_call (sm_cons (sm_op smr_ix sm_var sm_int) sm_nil)) (sm_gtup (sm_gcons sm_gname (sm_gcons sm_gname sm_gnil))))
    (sm_seq (sm_asg (sm_call (sm_cons (sm_op smr_ix sm_var sm_int) sm_nil)) sm_gname)
    (sm_seq (sm_asg (sm_call (sm_cons (sm_op smr_ix sm_var sm_int) sm_nil)) sm_gname)
    (sm_seq (sm_ifS (sm_test (sm_op smr_eq sm_var sm_int))
      ((sm_ret (sm_tup (sm_cons (sm_tup (sm_cons sm_str (sm_cons sm_var (sm_cons sm_var (sm_cons sm_var sm_nil))))) (sm_cons (sm_op smr_add (sm_op smr_add (sm_op smr_add (sm_op smr_add (sm_op smr_add sm_str sm_var) sm_str) (sm_call (sm_cons sm_var sm_nil))) sm_str) sm_var) sm_nil)))))
      sm_next)
    (sm_seq (sm_ifS (sm_test (sm_op smr_cmp sm_var sm_int))
      (sm_seq (sm_asg (sm_op smr_ix (sm_lst (sm_cons sm_str (sm_cons sm_str (sm_cons sm_str (sm_cons sm_str (sm_cons sm_str sm_nil)))))) (sm_op smr_sub sm_var sm_int)) sm_gname)
      ((sm_ret (sm_tup (sm_cons (sm_tup (sm_cons sm_var (sm_cons sm_var sm_nil))) (sm_cons (sm_op smr_add (sm_op smr_add sm_var sm_str) sm_var) sm_nil))))))
      sm_next)
    (sm_seq (sm_ifS (sm_test (sm_op smr_eq sm_var sm_int))
      (sm_seq (sm_asg (sm_call (sm_cons (sm_op smr_ix sm_var sm_int) sm_nil)) (sm_gtup (sm_gcons sm_gname (sm_gcons sm_gname sm_gnil))))
      ((sm_ret (sm_tup (sm_cons (sm_tup (sm_cons sm_str (sm_cons sm_var (sm_cons sm_var sm_nil)))) (sm_cons (sm_op smr_add (sm_op smr_add (sm_op smr_add sm_str sm_var) sm_str) sm_var) sm_nil))))))
      sm_next)
    (sm_seq (sm_ifS (sm_test (sm_op smr_eq sm_var sm_int))
      ((sm_ret (sm_tup (sm_cons (sm_tup (sm_cons sm_str (sm_cons sm_var sm_nil))) (sm_cons (sm_op smr_add sm_str sm_var) sm_nil)))))
      sm_next)
    (sm_seq (sm_ifS (sm_test (sm_op smr_eq sm_var sm_int))
      ((sm_ret (sm_tup (sm_cons (sm_tup (sm_cons sm_str (sm_cons sm_var (sm_cons sm_var (sm_cons sm_var sm_nil))))) (sm_cons (sm_op smr_add (sm_op smr_add (sm_op smr_add (sm_op smr_add (sm_op smr_add sm_str sm_var) sm_str) (sm_cb smc_strI (sm_cons sm_var sm_nil))) sm_str) (sm_call (sm_cons sm_var sm_nil))) sm_nil)))))
      sm_next)
    (sm_seq (sm_ifS (sm_test (sm_op smr_eq sm_var sm_int))
      ((sm_ret (sm_tup (sm_cons (sm_tup (sm_cons sm_str (sm_cons sm_var (sm_cons sm_var sm_nil)))) (sm_cons (sm_op smr_add (sm_op smr_add (sm_op smr_add sm_str sm_var) sm_str) sm_var) sm_nil)))))
      sm_next)
    (sm_seq (sm_ifS (sm_test (sm_op smr_eq sm_var sm_int))
      ((sm_ret (sm_tup (sm_cons (sm_tup (sm_cons sm_str (sm_cons sm_var sm_nil))) (sm_cons (sm_op smr_add sm_str sm_var) sm_nil)))))
      sm_next)
    ((sm_ret (sm_tup (sm_cons (sm_tup (sm_cons sm_str (sm_cons sm_var sm_nil))) (sm_cons (sm_op smr_add sm_str (sm_cb smc_strI (sm_cons sm_var sm_nil))) sm_nil)))))))))))))))))) body_law_deed h
def ps_law_wish : PSx :=
    (pSeq (pAsg (pCall F_law_path (pCons (pOp ixk (pVar 1) (pC (.int 0))) pNil)) (pgName 2))
    (pSeq (pAsg (pCall F_law_quoted (pCons (pTJoin (pC (.str (Str.ofString "/"))) (pVar 2)) pNil)) (pgName 3))
    (pSeq (pAsg (pCall F_law_number (pCons (pOp ixk (pVar 1) (pC (.int 1))) pNil)) (pgName 4))
    (pSeq (pIfS (pB (pOp eqk (pVar 0) (pC (.int 0))))
      ((pRet (pTup (pCons (pTup (pCons (pC (.str (Str.ofString "scan"))) pNil)) (pCons (pC (.str (Str.ofString "scan"))) pNil)))))
      pNext)
    (pSeq (pIfS (pB (pOp eqk (pVar 0) (pC (.int 1))))
      ((pRet (pTup (pCons (pTup (pCons (pC (.str (Str.ofString "put_away"))) (pCons (pVar 2) (pCons (pVar 4) pNil)))) (pCons (pOp addk (pOp addk (pOp addk (pC (.str (Str.ofString "put_away "))) (pVar 3)) (pC (.str (Str.ofString " ")))) (pCB strIk (pCons (pVar 4) pNil))) pNil)))))
      pNext)
    (pSeq (pIfS (pB (pOp eqk (pVar 0) (pC (.int 2))))
      ((pRet (pTup (pCons (pTup (pCons (pC (.str (Str.ofString "fetch"))) (pCons (pVar 2) pNil))) (pCons (pOp addk (pC (.str (Str.ofString "fetch "))) (pVar 3)) pNil)))))
      pNext)
    (pSeq (pIfS (pB (pOp eqk (pVar 0) (pC (.int 3))))
      ((pRet (pTup (pCons (pTup (pCons (pC (.str (Str.ofString "trim"))) (pCons (pVar 4) pNil))) (pCons (pOp addk (pC (.str (Str.ofString "trim "))) (pCB strIk (pCons (pVar 4) pNil))) pNil)))))
      pNext)
    ((pRet (pTup (pCons (pTup (pCons (pC (.str (Str.ofString "restore"))) (pCons (pVar 4) (pCons (pVar 2) pNil)))) (pCons (pOp addk (pOp addk (pOp addk (pC (.str (Str.ofString "restore "))) (pCB strIk (pCons (pVar 4) pNil))) (pC (.str (Str.ofString " ")))) (pVar 3)) pNil))))))))))))
theorem start_law_wish : ∀ a0 a1 : D, startE 5 [a0, a1] = [some a0, some a1, none, none, none] := fun _ _ => rfl
def F_law_wish : PFn := fun ds k => ∃ (kd : Nat) (cs : List Int), ds = [.int (kd : Int), .lst (cs.map D.int)] ∧ kd < 5 ∧ 6 ≤ cs.length ∧ ∀ (d : D) (l : List Nat), TellT wishesT d l → k (.tup [d, dS l])
theorem len_law_wish : ∀ ds k, F_law_wish ds k → ds.length = 2 := by
  rintro _ _ ⟨_, _, rfl, _⟩
  rfl
theorem body_law_wish : ∀ ds k, F_law_wish ds k → ps_law_wish { nx := fun _ _ => k .non, rt := fun d S => (d.frz S).noRef = true ∧ k (d.frz S) } (startE 5 ds) [] := by
  rintro _ k ⟨kd, cs, rfl, hkd, hcs, hk⟩
  rw [start_law_wish]
  unfold ps_law_wish
  obtain ⟨v0, e0⟩ := cell_at (cs := cs) (n := 0) (by omega)
  obtain ⟨v1, e1⟩ := cell_at (cs := cs) (n := 1) (by omega)
  simp only [pForD, pInsL, pExtA, pSeq, pAsg, pVar, pC, pOp, pNil, pCons, pTup, pLst, pLstM, pNot, pAndV, pOrV, pIf, pB, pAnd, pOr, pNotT, pNoPart, pPart, pCB, pUnN, pSl, pNext, pBreak, pCont, pRet, pRetN, pDrop, pIfS, pgName, pgNil, pgCons, pgTup_t, pAug, pApp, pYes, isk_non, nsk_non, isN_non, isN_bl, isN_int, isN_str, isN_tup, isN_lst, isN_ref, isN_obj, pTru, pFld, pStar, pMake, pSetF, pIt, pRng1, pRng2, forG, List.map_cons, List.map_nil, List.getElem?_cons_zero, List.getElem?_cons_succ, List.set_cons_zero, List.set_cons_succ, Option.some.injEq, exists_eq_left, exists_eq_left', true_and, and_true, wipeE, D.bl.injEq, D.int.injEq, D.str.injEq, D.tup.injEq, D.lst.injEq, Bool.not_true, decide_eq_true_eq, if_true, if_false, reduceIte, Bool.false_eq_true, Option.isNone_none, Option.isNone_some, Bool.not_false, List.length_nil, List.length_cons, List.nil_append, List.cons_append, D.ref.injEq, SO.lst.injEq, pCall, exists_const, and_self, Nat.zero_add, Nat.zero_le, Nat.reduceLeDiff, Nat.reduceAdd, eq_self, o_add, o_sub, o_mul, o_div, o_mod, o_cmp, o_int, o_lenl, o_lent, o_lens, o_tupl, o_tupt, o_min, o_max, q_int, ixk_tup, ixk_lst, ixk_scr, at0, at1, at2, at3, at4, at5, List.length_map, c_make_, c_rename_, c_cut_, c_write_, c_set_runs_, c_read_, c_close_, c_put_away_, c_fetch_, c_trim_, c_restore_, c__wish_, c__speak_, c_make_folder, c_make_other, c_remove, c_remove_folder, c_open, c_scan, c_step, c_refuse, c_unanswered, c_crash, c_deliver, c_lose, c_again, c_make, c_rename, c_cut, c_write, c_set_runs, c_read, c_close, c_put_away, c_fetch, c_trim, c_restore, c_program, c_speak, e_sp]
  refine ⟨_, e0, call_of rfl ⟨_, rfl, fun p hp1 hp2 => ?_⟩⟩
  have hp : PathOk p := ⟨hp1, hp2⟩
  refine pj hp (fun kk h => ⟨_, rfl, h⟩) ?_
  refine call_of rfl ⟨_, rfl, by have := (path_read hp).2; omega, ?_⟩
  refine ⟨_, e1, call_of rfl ⟨_, rfl, fun q hq => ?_⟩⟩
  have b4 := (told_path hp).le
  have b5 := (told_num hq).le
  simp only [pForD, pInsL, pExtA, pSeq, pAsg, pVar, pC, pOp, pNil, pCons, pTup, pLst, pLstM, pNot, pAndV, pOrV, pIf, pB, pAnd, pOr, pNotT, pNoPart, pPart, pCB, pUnN, pSl, pNext, pBreak, pCont, pRet, pRetN, pDrop, pIfS, pgName, pgNil, pgCons, pgTup_t, pAug, pApp, pYes, isk_non, nsk_non, isN_non, isN_bl, isN_int, isN_str, isN_tup, isN_lst, isN_ref, isN_obj, pTru, pFld, pStar, pMake, pSetF, pIt, pRng1, pRng2, forG, List.map_cons, List.map_nil, List.getElem?_cons_zero, List.getElem?_cons_succ, List.set_cons_zero, List.set_cons_succ, Option.some.injEq, exists_eq_left, exists_eq_left', true_and, and_true, wipeE, D.bl.injEq, D.int.injEq, D.str.injEq, D.tup.injEq, D.lst.injEq, Bool.not_true, decide_eq_true_eq, if_true, if_false, reduceIte, Bool.false_eq_true, Option.isNone_none, Option.isNone_some, Bool.not_false, List.length_nil, List.length_cons, List.nil_append, List.cons_append, D.ref.injEq, SO.lst.injEq, pCall, exists_const, and_self, Nat.zero_add, Nat.zero_le, Nat.reduceLeDiff, Nat.reduceAdd, eq_self, o_add, o_sub, o_mul, o_div, o_mod, o_cmp, o_int, o_lenl, o_lent, o_lens, o_tupl, o_tupt, o_min, o_max, q_int, ixk_tup, ixk_lst, ixk_scr, at0, at1, at2, at3, at4, at5, List.length_map]
  by_cases c0 : (kd : Int) = 0
  · rw [if_pos c0]
    exact rt_pure rfl (hk (.tup [dS [115, 99, 97, 110]]) [115, 99, 97, 110] ⟨⟨[115, 99, 97, 110], [], [], [], by decide +kernel, rfl, rfl, .one ⟨rfl, key_gd.2.1 [115, 99, 97, 110] (by decide +kernel)⟩, by decide⟩, rfl⟩)
  rw [if_neg c0]
  by_cases c1 : (kd : Int) = 1
  · rw [if_pos c1]
    refine addS (by simp only [List.length_append, List.length_cons, List.length_nil]; omega) (addS (by simp only [List.length_append, List.length_cons, List.length_nil]; omega) (strI hq (addS (by simp only [List.length_append, List.length_cons, List.length_nil]; omega) ?_)))
    refine rt_pure (by simp only [D.pure, pureAll, dS, pu_dP, Bool.and_self]) (hk (.tup [dS [112, 117, 116, 95, 97, 119, 97, 121], dP p, .int q.1]) _ ?_)
    have e : [112, 117, 116, 95, 97, 119, 97, 121, 32] ++ quoL (TL.joinL [47] p) ++ [32] ++ q.2 = [112, 117, 116, 95, 97, 119, 97, 121] ++ 32 :: (quoL (TL.joinL [47] p) ++ 32 :: q.2) := by simp only [List.append_assoc]; rfl
    rw [e]
    exact tell2 (key_gd.2.1 [112, 117, 116, 95, 97, 119, 97, 121] (by decide +kernel)) (by decide +kernel) (told_path hp) (told_num hq) (by decide)
  rw [if_neg c1]
  by_cases c2 : (kd : Int) = 2
  · rw [if_pos c2]
    refine addS (by simp only [List.length_append, List.length_cons, List.length_nil]; omega) ?_
    refine rt_pure (by simp only [D.pure, pureAll, dS, pu_dP, Bool.and_self]) (hk (.tup [dS [102, 101, 116, 99, 104], dP p]) _ ?_)
    exact tell1 (w := [102, 101, 116, 99, 104]) (key_gd.2.1 [102, 101, 116, 99, 104] (by decide +kernel)) (by decide +kernel) (told_path hp) (by decide)
  rw [if_neg c2]
  by_cases c3 : (kd : Int) = 3
  · rw [if_pos c3]
    refine strI hq (addS (by simp only [List.length_append, List.length_cons, List.length_nil]; omega) ?_)
    refine rt_pure (by simp only [D.pure, pureAll, dS, pu_dP, Bool.and_self]) (hk (.tup [dS [116, 114, 105, 109], .int q.1]) _ ?_)
    exact tell1 (w := [116, 114, 105, 109]) (key_gd.2.1 [116, 114, 105, 109] (by decide +kernel)) (by decide +kernel) (told_num hq) (by decide)
  rw [if_neg c3]
  refine strI hq (addS (by simp only [List.length_append, List.length_cons, List.length_nil]; omega) (addS (by simp only [List.length_append, List.length_cons, List.length_nil]; omega) (addS (by simp only [List.length_append, List.length_cons, List.length_nil]; omega) ?_)))
  refine rt_pure (by simp only [D.pure, pureAll, dS, pu_dP, Bool.and_self]) (hk (.tup [dS [114, 101, 115, 116, 111, 114, 101], .int q.1, dP p]) _ ?_)
  have e : [114, 101, 115, 116, 111, 114, 101, 32] ++ q.2 ++ [32] ++ quoL (TL.joinL [47] p) = [114, 101, 115, 116, 111, 114, 101] ++ 32 :: (q.2 ++ 32 :: quoL (TL.joinL [47] p)) := by simp only [List.append_assoc]; rfl
  rw [e]
  exact tell2 (key_gd.2.1 [114, 101, 115, 116, 111, 114, 101] (by decide +kernel)) (by decide +kernel) (told_num hq) (told_path hp) (by decide)
theorem ok_law_wish {P : Program} {w : World} {K : PySem.W.Frag} {cl : Cl} {mg : Str → Option Value} {base : Heap} (D : Df K mg "_law_wish" s_law_wish ["kind", "cells"]) (T : Txt K cl mg) (hw : cl.w = w) (G_law_quoted : C8.Cal P w K mg base 1 "_law_quoted" (spP K cl F_law_quoted) []) (G_law_path : C8.Cal P w K mg base 1 "_law_path" (spP K cl F_law_path) []) (G_law_number : C8.Cal P w K mg base 1 "_law_number" (spP K cl F_law_number) []) : C8.Cal P w K mg base 2 "_law_wish" (spP K cl F_law_wish) [] := by
  subst hw
  refine D.cal sc_law_wish (spP_len (n := 2) len_law_wish) (fun f cdv  A outer s H vs Q E hr h => ?_)
  refine ⟨_,
    (pss_cons (ps_set (i := 2) sc_law_wish.nd rfl (.inl rfl) (C8.pe_c G_law_path hr (by decide) (by rfl) (pa_cons (pe_ix (show IxR _ (uIx K) from uix) (pv 1) pe_int (fun _ _ => rfl)) pa_nil)))
    (pss_cons (ps_set (i := 3) sc_law_wish.nd rfl (.inl rfl) (C8.pe_c G_law_quoted hr (by decide) (by rfl) (pa_cons (pe_join pe_str (pv 2)) pa_nil)))
    (pss_cons (ps_set (i := 4) sc_law_wish.nd rfl (.inl rfl) (C8.pe_c G_law_number hr (by decide) (by rfl) (pa_cons (pe_ix (show IxR _ (uIx K) from uix) (pv 1) pe_int (fun _ _ => rfl)) pa_nil)))
    (pss_cons (ps_if (pt_cmpR (show OpR _ _ (rEqP K) from op_eqP hr.units) (pv 0) pe_int (nomark _))
      (pss_one (ps_ret (pe_tup (pa_cons (pe_tup (pa_cons pe_str pa_nil)) (pa_cons pe_str pa_nil)))))
      pss_nil)
    (pss_cons (ps_if (pt_cmpR (show OpR _ _ (rEqP K) from op_eqP hr.units) (pv 0) pe_int (nomark _))
      (pss_one (ps_ret (pe_tup (pa_cons (pe_tup (pa_cons pe_str (pa_cons (pv 2) (pa_cons (pv 4) pa_nil)))) (pa_cons (pe_op (show OpR _ _ (uAdd K) from uop_add) (pe_op (show OpR _ _ (uAdd K) from uop_add) (pe_op (show OpR _ _ (uAdd K) from uop_add) pe_str (pv 3)) pe_str) (pe_callTy call_str_int (by rfl) T.n_str (by decide +kernel) (pa_cons (pv 4) pa_nil))) pa_nil)))))
      pss_nil)
    (pss_cons (ps_if (pt_cmpR (show OpR _ _ (rEqP K) from op_eqP hr.units) (pv 0) pe_int (nomark _))
      (pss_one (ps_ret (pe_tup (pa_cons (pe_tup (pa_cons pe_str (pa_cons (pv 2) pa_nil))) (pa_cons (pe_op (show OpR _ _ (uAdd K) from uop_add) pe_str (pv 3)) pa_nil)))))
      pss_nil)
    (pss_cons (ps_if (pt_cmpR (show OpR _ _ (rEqP K) from op_eqP hr.units) (pv 0) pe_int (nomark _))
      (pss_one (ps_ret (pe_tup (pa_cons (pe_tup (pa_cons pe_str (pa_cons (pv 4) pa_nil))) (pa_cons (pe_op (show OpR _ _ (uAdd K) from uop_add) pe_str (pe_callTy call_str_int (by rfl) T.n_str (by decide +kernel) (pa_cons (pv 4) pa_nil))) pa_nil)))))
      pss_nil)
    (pss_one (ps_ret (pe_tup (pa_cons (pe_tup (pa_cons pe_str (pa_cons (pv 4) (pa_cons (pv 2) pa_nil)))) (pa_cons (pe_op (show OpR _ _ (uAdd K) from uop_add) (pe_op (show OpR _ _ (uAdd K) from uop_add) (pe_op (show OpR _ _ (uAdd K) from uop_add) pe_str (pe_callTy call_str_int (by rfl) T.n_str (by decide +kernel) (pa_cons (pv 4) pa_nil))) pe_str) (pv 3)) pa_nil)))))))))))), ?_⟩
  exact fn_ok (N := ["kind", "cells", "path", "told", "number"]) (show SmS K cl _ ps_law_wish from
    (sm_seq (sm_asg (sm_call (sm_cons (sm_op smr_ix sm_var sm_int) sm_nil)) sm_gname)
    (sm_seq (sm_asg (sm_call (sm_cons (sm_tjoin sm_str sm_var) sm_nil)) sm_gname)
    (sm_seq (sm_asg (sm_call (sm_cons (sm_op smr_ix sm_var sm_int) sm_nil)) sm_gname)
    (sm_seq (sm_ifS (sm_test (sm_op smr_eq sm_var sm_int))
      ((sm_ret (sm_tup (sm_cons (sm_tup (sm_cons sm_str sm_nil)) (sm_cons sm_str sm_nil)))))
      sm_next)
    (sm_seq (sm_ifS (sm_test (sm_op smr_eq sm_var sm_int))
      ((sm_ret (sm_tup (sm_cons (sm_tup (sm_cons sm_str (sm_cons sm_var (sm_cons sm_var sm_nil)))) (sm_cons (sm_op smr_add (sm_op smr_add (sm_op smr_add sm_str sm_var) sm_str) (sm_cb smc_strI (sm_cons sm_var sm_nil))) sm_nil)))))
      sm_next)
    (sm_seq (sm_ifS (sm_test (sm_op smr_eq sm_var sm_int))
      ((sm_ret (sm_tup (sm_cons (sm_tup (sm_cons sm_str (sm_cons sm_var sm_nil))) (sm_cons (sm_op smr_add sm_str sm_var) sm_nil)))))
      sm_next)
    (sm_seq (sm_ifS (sm_test (sm_op smr_eq sm_var sm_int))
      ((sm_ret (sm_tup (sm_cons (sm_tup (sm_cons sm_str (sm_cons sm_var sm_nil))) (sm_cons (sm_op smr_add sm_str (sm_cb smc_strI (sm_cons sm_var sm_nil))) sm_nil)))))
      sm_next)
    ((sm_ret (sm_tup (sm_cons (sm_tup (sm_cons sm_str (sm_cons sm_var (sm_cons sm_var sm_nil)))) (sm_cons (sm_op smr_add (sm_op smr_add (sm_op smr_add sm_str (sm_cb smc_strI (sm_cons sm_var sm_nil))) sm_str) sm_var) sm_nil))))))))))))) body_law_wish h
def ps_law_event : PSx :=
    (pSeq (pAsg (pOp modk (pCB int1k (pCons (pOp ixk (pVar 0) (pC (.int 0))) pNil)) (pC (.int 25))) (pgName 1))
    (pSeq (pAsg (pCall F_law_number (pCons (pOp ixk (pVar 0) (pC (.int 1))) pNil)) (pgName 2))
    (pSeq (pIfS (pB (pOp (cmpk fun i j => decide (i < j)) (pVar 1) (pC (.int 12))))
      (pSeq (pAsg (pCall F_law_deed (pCons (pVar 1) (pCons (pSl (pVar 0) (pPart (pC (.int 2))) pNoPart) pNil))) (pgTup 2 (pgCons (pgName 3) (pgCons (pgName 4) pgNil))))
      ((pRet (pTup (pCons (pTup (pCons (pC (.str (Str.ofString "program"))) (pCons (pVar 2) (pCons (pVar 3) pNil)))) (pCons (pOp addk (pOp addk (pCB strIk (pCons (pVar 2) pNil)) (pC (.str (Str.ofString " ")))) (pVar 4)) pNil))))))
      pNext)
    (pSeq (pIfS (pB (pOp (cmpk fun i j => decide (i < j)) (pVar 1) (pC (.int 17))))
      (pSeq (pAsg (pCall F_law_wish (pCons (pOp subk (pVar 1) (pC (.int 12))) (pCons (pSl (pVar 0) (pPart (pC (.int 2))) pNoPart) pNil))) (pgTup 2 (pgCons (pgName 5) (pgCons (pgName 4) pgNil))))
      ((pRet (pTup (pCons (pTup (pCons (pC (.str (Str.ofString "wish"))) (pCons (pVar 2) (pCons (pVar 5) pNil)))) (pCons (pOp addk (pOp addk (pCB strIk (pCons (pVar 2) pNil)) (pC (.str (Str.ofString " wish ")))) (pVar 4)) pNil))))))
      pNext)
    (pSeq (pIfS (pB (pOp (cmpk fun i j => decide (i < j)) (pVar 1) (pC (.int 21))))
      (pSeq (pAsg (pOp ixk (pLst (pCons (pC (.str (Str.ofString "step"))) (pCons (pC (.str (Str.ofString "refuse"))) (pCons (pC (.str (Str.ofString "unanswered"))) (pCons (pC (.str (Str.ofString "crash"))) pNil))))) (pOp subk (pVar 1) (pC (.int 17)))) (pgName 6))
      ((pRet (pTup (pCons (pTup (pCons (pVar 6) (pCons (pVar 2) pNil))) (pCons (pOp addk (pOp addk (pCB strIk (pCons (pVar 2) pNil)) (pC (.str (Str.ofString " ")))) (pVar 6)) pNil))))))
      pNext)
    (pSeq (pIfS (pB (pOp (cmpk fun i j => decide (i < j)) (pVar 1) (pC (.int 24))))
      (pSeq (pAsg (pOp ixk (pLst (pCons (pC (.str (Str.ofString "deliver"))) (pCons (pC (.str (Str.ofString "lose"))) (pCons (pC (.str (Str.ofString "again"))) pNil)))) (pOp subk (pVar 1) (pC (.int 21)))) (pgName 6))
      ((pRet (pTup (pCons (pTup (pCons (pVar 6) (pCons (pVar 2) pNil))) (pCons (pOp addk (pOp addk (pVar 6) (pC (.str (Str.ofString " ")))) (pCB strIk (pCons (pVar 2) pNil))) pNil))))))
      pNext)
    (pSeq (pAsg (pCall F_law_number (pCons (pOp ixk (pVar 0) (pC (.int 2))) pNil)) (pgName 7))
    ((pRet (pTup (pCons (pTup (pCons (pC (.str (Str.ofString "speak"))) (pCons (pVar 2) (pCons (pVar 7) pNil)))) (pCons (pOp addk (pOp addk (pCB strIk (pCons (pVar 2) pNil)) (pC (.str (Str.ofString " speak ")))) (pCB strIk (pCons (pVar 7) pNil))) pNil))))))))))))
theorem start_law_event : ∀ a0 : D, startE 8 [a0] = [some a0, none, none, none, none, none, none, none] := fun _ => rfl
structure EvT (d : D) (l : List Nat) : Prop where
  rd : lineF l = some d
  sp : 32 ∈ l
  len : l.length ≤ 230
  pu : d.pure = true
theorem dev_ev {ps : List Pt} {d : D} {l : List Nat} (h : LnOf ps l) (hk : EvK ps d) : lineF l = some d := by
  unfold lineF
  rw [h.read]
  exact k_ev hk
theorem cut_ints (cs : List Int) (j : Nat) (h : j ≤ cs.length) : Pw.cutD (cs.map D.int) (some (j : Int)) none = (cs.drop j).map D.int := by
  rw [cut_r (by rw [List.length_map]; exact h), List.map_drop]
theorem sl_ints {S : Sto} {cs : List Int} {j : Nat} (h : j ≤ cs.length) {k : D → Prop} (hk : k (.lst ((cs.drop j).map D.int))) : slk S (.lst (cs.map D.int)) (some (j : Int)) none k := ⟨_, rfl, by rw [cut_ints cs j h]; exact hk⟩
def F_law_event : PFn := fun ds k => ∃ cs : List Int, ds = [.lst (cs.map D.int)] ∧ cs.length = 12 ∧ ∀ (d : D) (l : List Nat), EvT d l → k (.tup [d, dS l])
theorem len_law_event : ∀ ds k, F_law_event ds k → ds.length = 1 := by
  rintro _ _ ⟨_, rfl, _⟩
  rfl
theorem gdW {w : List Nat} (h : GdW w) : Gd (.wd w) w := ⟨rfl, h⟩
theorem body_law_event : ∀ ds k, F_law_event ds k → ps_law_event { nx := fun _ _ => k .non, rt := fun d S => (d.frz S).noRef = true ∧ k (d.frz S) } (startE 8 ds) [] := by
  rintro _ k ⟨cs, rfl, hcs, hk⟩
  rw [start_law_event]
  unfold ps_law_event
  obtain ⟨v0, e0⟩ := cell_at (cs := cs) (n := 0) (by omega)
  obtain ⟨v1, e1⟩ := cell_at (cs := cs) (n := 1) (by omega)
  obtain ⟨v2, e2⟩ := cell_at (cs := cs) (n := 2) (by omega)
  have m0 := Int.emod_nonneg v0 (show (25 : Int) ≠ 0 by decide)
  have m1 := Int.emod_lt_of_pos v0 (show (0 : Int) < 25 by decide)
  obtain ⟨kd, hkd⟩ : ∃ n : Nat, v0 % 25 = (n : Int) := ⟨(v0 % 25).toNat, by omega⟩
  simp only [pForD, pInsL, pExtA, pSeq, pAsg, pVar, pC, pOp, pNil, pCons, pTup, pLst, pLstM, pNot, pAndV, pOrV, pIf, pB, pAnd, pOr, pNotT, pNoPart, pPart, pCB, pUnN, pSl, pNext, pBreak, pCont, pRet, pRetN, pDrop, pIfS, pgName, pgNil, pgCons, pgTup_t, pAug, pApp, pYes, isk_non, nsk_non, isN_non, isN_bl, isN_int, isN_str, isN_tup, isN_lst, isN_ref, isN_obj, pTru, pFld, pStar, pMake, pSetF, pIt, pRng1, pRng2, forG, List.map_cons, List.map_nil, List.getElem?_cons_zero, List.getElem?_cons_succ, List.set_cons_zero, List.set_cons_succ, Option.some.injEq, exists_eq_left, exists_eq_left', true_and, and_true, wipeE, D.bl.injEq, D.int.injEq, D.str.injEq, D.tup.injEq, D.lst.injEq, Bool.not_true, decide_eq_true_eq, if_true, if_false, reduceIte, Bool.false_eq_true, Option.isNone_none, Option.isNone_some, Bool.not_false, List.length_nil, List.length_cons, List.nil_append, List.cons_append, D.ref.injEq, SO.lst.injEq, pCall, exists_const, and_self, Nat.zero_add, Nat.zero_le, Nat.reduceLeDiff, Nat.reduceAdd, eq_self, o_add, o_sub, o_mul, o_div, o_mod, o_cmp, o_int, o_lenl, o_lent, o_lens, o_tupl, o_tupt, o_min, o_max, q_int, ixk_tup, ixk_lst, ixk_scr, at0, at1, at2, at3, at4, at5, List.length_map, c_make_, c_rename_, c_cut_, c_write_, c_set_runs_, c_read_, c_close_, c_put_away_, c_fetch_, c_trim_, c_restore_, c__wish_, c__speak_, c_make_folder, c_make_other, c_remove, c_remove_folder, c_open, c_scan, c_step, c_refuse, c_unanswered, c_crash, c_deliver, c_lose, c_again, c_make, c_rename, c_cut, c_write, c_set_runs, c_read, c_close, c_put_away, c_fetch, c_trim, c_restore, c_program, c_speak, e_sp]
  refine ⟨_, e0, ?_⟩
  simp only [pForD, pInsL, pExtA, pSeq, pAsg, pVar, pC, pOp, pNil, pCons, pTup, pLst, pLstM, pNot, pAndV, pOrV, pIf, pB, pAnd, pOr, pNotT, pNoPart, pPart, pCB, pUnN, pSl, pNext, pBreak, pCont, pRet, pRetN, pDrop, pIfS, pgName, pgNil, pgCons, pgTup_t, pAug, pApp, pYes, isk_non, nsk_non, isN_non, isN_bl, isN_int, isN_str, isN_tup, isN_lst, isN_ref, isN_obj, pTru, pFld, pStar, pMake, pSetF, pIt, pRng1, pRng2, forG, List.map_cons, List.map_nil, List.getElem?_cons_zero, List.getElem?_cons_succ, List.set_cons_zero, List.set_cons_succ, Option.some.injEq, exists_eq_left, exists_eq_left', true_and, and_true, wipeE, D.bl.injEq, D.int.injEq, D.str.injEq, D.tup.injEq, D.lst.injEq, Bool.not_true, decide_eq_true_eq, if_true, if_false, reduceIte, Bool.false_eq_true, Option.isNone_none, Option.isNone_some, Bool.not_false, List.length_nil, List.length_cons, List.nil_append, List.cons_append, D.ref.injEq, SO.lst.injEq, pCall, exists_const, and_self, Nat.zero_add, Nat.zero_le, Nat.reduceLeDiff, Nat.reduceAdd, eq_self, o_add, o_sub, o_mul, o_div, o_mod, o_cmp, o_int, o_lenl, o_lent, o_lens, o_tupl, o_tupt, o_min, o_max, q_int, ixk_tup, ixk_lst, ixk_scr, at0, at1, at2, at3, at4, at5, List.length_map]
  rw [hkd] at m0 m1 ⊢
  refine ⟨by decide, _, e1, call_of rfl ⟨_, rfl, fun q hq => ?_⟩⟩
  obtain ⟨g1, g2, _, _⟩ := nms_good q hq
  have hnum : Gd (.nm q.1) q.2 := g1
  by_cases c0 : (kd : Int) < 12
  · rw [if_pos c0]
    refine sl_ints (j := 2) (by omega) ?_
    refine call_of (by simp only [pureAll, D.pure, pu_intsL, Bool.and_self]) ⟨kd, cs.drop 2, rfl, by omega, by rw [List.length_drop]; omega, fun d l hd => ?_⟩
    obtain ⟨w, fs, r, ds, h1, h2, rfl, h4, h5⟩ := hd.ex
    simp only [pForD, pInsL, pExtA, pSeq, pAsg, pVar, pC, pOp, pNil, pCons, pTup, pLst, pLstM, pNot, pAndV, pOrV, pIf, pB, pAnd, pOr, pNotT, pNoPart, pPart, pCB, pUnN, pSl, pNext, pBreak, pCont, pRet, pRetN, pDrop, pIfS, pgName, pgNil, pgCons, pgTup_t, pAug, pApp, pYes, isk_non, nsk_non, isN_non, isN_bl, isN_int, isN_str, isN_tup, isN_lst, isN_ref, isN_obj, pTru, pFld, pStar, pMake, pSetF, pIt, pRng1, pRng2, forG, List.map_cons, List.map_nil, List.getElem?_cons_zero, List.getElem?_cons_succ, List.set_cons_zero, List.set_cons_succ, Option.some.injEq, exists_eq_left, exists_eq_left', true_and, and_true, wipeE, D.bl.injEq, D.int.injEq, D.str.injEq, D.tup.injEq, D.lst.injEq, Bool.not_true, decide_eq_true_eq, if_true, if_false, reduceIte, Bool.false_eq_true, Option.isNone_none, Option.isNone_some, Bool.not_false, List.length_nil, List.length_cons, List.nil_append, List.cons_append, D.ref.injEq, SO.lst.injEq, pCall, exists_const, and_self, Nat.zero_add, Nat.zero_le, Nat.reduceLeDiff, Nat.reduceAdd, eq_self, o_add, o_sub, o_mul, o_div, o_mod, o_cmp, o_int, o_lenl, o_lent, o_lens, o_tupl, o_tupt, o_min, o_max, q_int, ixk_tup, ixk_lst, ixk_scr, at0, at1, at2, at3, at4, at5, List.length_map]
    refine strI hq (addS (by simp only [List.length_append, List.length_cons, List.length_nil]; omega) (addS (by simp only [List.length_append, List.length_cons, List.length_nil]; omega) ?_))
    refine rt_pure (by simp only [D.pure, pureAll, dS, forms_pure h2, Bool.and_self]) (hk (.tup [dS [112, 114, 111, 103, 114, 97, 109], .int q.1, .tup (dS w :: ds)]) _ ?_)
    rw [List.append_assoc]
    exact ⟨dev_ev (.cons hnum h4) (.prog h1 h2), by simp, by simp only [List.length_append, List.length_cons, List.length_nil]; omega, by simp only [D.pure, pureAll, dS, forms_pure h2, Bool.and_self]⟩
  rw [if_neg c0]
  try simp only [pForD, pInsL, pExtA, pSeq, pAsg, pVar, pC, pOp, pNil, pCons, pTup, pLst, pLstM, pNot, pAndV, pOrV, pIf, pB, pAnd, pOr, pNotT, pNoPart, pPart, pCB, pUnN, pSl, pNext, pBreak, pCont, pRet, pRetN, pDrop, pIfS, pgName, pgNil, pgCons, pgTup_t, pAug, pApp, pYes, isk_non, nsk_non, isN_non, isN_bl, isN_int, isN_str, isN_tup, isN_lst, isN_ref, isN_obj, pTru, pFld, pStar, pMake, pSetF, pIt, pRng1, pRng2, forG, List.map_cons, List.map_nil, List.getElem?_cons_zero, List.getElem?_cons_succ, List.set_cons_zero, List.set_cons_succ, Option.some.injEq, exists_eq_left, exists_eq_left', true_and, and_true, wipeE, D.bl.injEq, D.int.injEq, D.str.injEq, D.tup.injEq, D.lst.injEq, Bool.not_true, decide_eq_true_eq, if_true, if_false, reduceIte, Bool.false_eq_true, Option.isNone_none, Option.isNone_some, Bool.not_false, List.length_nil, List.length_cons, List.nil_append, List.cons_append, D.ref.injEq, SO.lst.injEq, pCall, exists_const, and_self, Nat.zero_add, Nat.zero_le, Nat.reduceLeDiff, Nat.reduceAdd, eq_self, o_add, o_sub, o_mul, o_div, o_mod, o_cmp, o_int, o_lenl, o_lent, o_lens, o_tupl, o_tupt, o_min, o_max, q_int, ixk_tup, ixk_lst, ixk_scr, at0, at1, at2, at3, at4, at5, List.length_map, c_make_, c_rename_, c_cut_, c_write_, c_set_runs_, c_read_, c_close_, c_put_away_, c_fetch_, c_trim_, c_restore_, c__wish_, c__speak_, c_make_folder, c_make_other, c_remove, c_remove_folder, c_open, c_scan, c_step, c_refuse, c_unanswered, c_crash, c_deliver, c_lose, c_again, c_make, c_rename, c_cut, c_write, c_set_runs, c_read, c_close, c_put_away, c_fetch, c_trim, c_restore, c_program, c_speak, e_sp]
  by_cases c1 : (kd : Int) < 17
  · rw [if_pos c1]
    refine sl_ints (j := 2) (by omega) ?_
    refine call_of (by simp only [pureAll, D.pure, pu_intsL, Bool.and_self]) ⟨kd - 12, cs.drop 2, by rw [show ((kd - 12 : Nat) : Int) = (kd : Int) - 12 by omega], by omega, by rw [List.length_drop]; omega, fun d l hd => ?_⟩
    obtain ⟨w, fs, r, ds, h1, h2, rfl, h4, h5⟩ := hd.ex
    simp only [pForD, pInsL, pExtA, pSeq, pAsg, pVar, pC, pOp, pNil, pCons, pTup, pLst, pLstM, pNot, pAndV, pOrV, pIf, pB, pAnd, pOr, pNotT, pNoPart, pPart, pCB, pUnN, pSl, pNext, pBreak, pCont, pRet, pRetN, pDrop, pIfS, pgName, pgNil, pgCons, pgTup_t, pAug, pApp, pYes, isk_non, nsk_non, isN_non, isN_bl, isN_int, isN_str, isN_tup, isN_lst, isN_ref, isN_obj, pTru, pFld, pStar, pMake, pSetF, pIt, pRng1, pRng2, forG, List.map_cons, List.map_nil, List.getElem?_cons_zero, List.getElem?_cons_succ, List.set_cons_zero, List.set_cons_succ, Option.some.injEq, exists_eq_left, exists_eq_left', true_and, and_true, wipeE, D.bl.injEq, D.int.injEq, D.str.injEq, D.tup.injEq, D.lst.injEq, Bool.not_true, decide_eq_true_eq, if_true, if_false, reduceIte, Bool.false_eq_true, Option.isNone_none, Option.isNone_some, Bool.not_false, List.length_nil, List.length_cons, List.nil_append, List.cons_append, D.ref.injEq, SO.lst.injEq, pCall, exists_const, and_self, Nat.zero_add, Nat.zero_le, Nat.reduceLeDiff, Nat.reduceAdd, eq_self, o_add, o_sub, o_mul, o_div, o_mod, o_cmp, o_int, o_lenl, o_lent, o_lens, o_tupl, o_tupt, o_min, o_max, q_int, ixk_tup, ixk_lst, ixk_scr, at0, at1, at2, at3, at4, at5, List.length_map, c_make_, c_rename_, c_cut_, c_write_, c_set_runs_, c_read_, c_close_, c_put_away_, c_fetch_, c_trim_, c_restore_, c__wish_, c__speak_, c_make_folder, c_make_other, c_remove, c_remove_folder, c_open, c_scan, c_step, c_refuse, c_unanswered, c_crash, c_deliver, c_lose, c_again, c_make, c_rename, c_cut, c_write, c_set_runs, c_read, c_close, c_put_away, c_fetch, c_trim, c_restore, c_program, c_speak, e_sp, e_wish]
    refine strI hq (addS (by simp only [List.length_append, List.length_cons, List.length_nil]; omega) (addS (by simp only [List.length_append, List.length_cons, List.length_nil]; omega) ?_))
    refine rt_pure (by simp only [D.pure, pureAll, dS, forms_pure h2, Bool.and_self]) (hk (.tup [dS w_wish, .int q.1, .tup (dS w :: ds)]) _ ?_)
    have e : q.2 ++ [32, 119, 105, 115, 104, 32] ++ l = q.2 ++ 32 :: (w_wish ++ 32 :: l) := by simp only [List.append_assoc]; rfl
    rw [e]
    exact ⟨dev_ev (.cons hnum (.cons (gdW (w := w_wish) (w_gd w_wish (by simp))) h4)) (.wish h1 h2), by simp, by have : w_wish.length = 4 := rfl; simp only [List.length_append, List.length_cons]; omega, by simp only [D.pure, pureAll, dS, forms_pure h2, Bool.and_self]⟩
  rw [if_neg c1]
  try simp only [pForD, pInsL, pExtA, pSeq, pAsg, pVar, pC, pOp, pNil, pCons, pTup, pLst, pLstM, pNot, pAndV, pOrV, pIf, pB, pAnd, pOr, pNotT, pNoPart, pPart, pCB, pUnN, pSl, pNext, pBreak, pCont, pRet, pRetN, pDrop, pIfS, pgName, pgNil, pgCons, pgTup_t, pAug, pApp, pYes, isk_non, nsk_non, isN_non, isN_bl, isN_int, isN_str, isN_tup, isN_lst, isN_ref, isN_obj, pTru, pFld, pStar, pMake, pSetF, pIt, pRng1, pRng2, forG, List.map_cons, List.map_nil, List.getElem?_cons_zero, List.getElem?_cons_succ, List.set_cons_zero, List.set_cons_succ, Option.some.injEq, exists_eq_left, exists_eq_left', true_and, and_true, wipeE, D.bl.injEq, D.int.injEq, D.str.injEq, D.tup.injEq, D.lst.injEq, Bool.not_true, decide_eq_true_eq, if_true, if_false, reduceIte, Bool.false_eq_true, Option.isNone_none, Option.isNone_some, Bool.not_false, List.length_nil, List.length_cons, List.nil_append, List.cons_append, D.ref.injEq, SO.lst.injEq, pCall, exists_const, and_self, Nat.zero_add, Nat.zero_le, Nat.reduceLeDiff, Nat.reduceAdd, eq_self, o_add, o_sub, o_mul, o_div, o_mod, o_cmp, o_int, o_lenl, o_lent, o_lens, o_tupl, o_tupt, o_min, o_max, q_int, ixk_tup, ixk_lst, ixk_scr, at0, at1, at2, at3, at4, at5, List.length_map, c_make_, c_rename_, c_cut_, c_write_, c_set_runs_, c_read_, c_close_, c_put_away_, c_fetch_, c_trim_, c_restore_, c__wish_, c__speak_, c_make_folder, c_make_other, c_remove, c_remove_folder, c_open, c_scan, c_step, c_refuse, c_unanswered, c_crash, c_deliver, c_lose, c_again, c_make, c_rename, c_cut, c_write, c_set_runs, c_read, c_close, c_put_away, c_fetch, c_trim, c_restore, c_program, c_speak, e_sp]
  by_cases c2 : (kd : Int) < 21
  · rw [if_pos c2]
    have base : ∀ w : List Nat, w ∈ onT.map (·.1) → at_ onT w = some [] → w.length ≤ 20 → strIk [] [D.int (q.1 : Int)] fun d => addk [] d (D.str (SX.S [32])) fun z => addk [] z (dS w) fun z => (D.frz [] (D.tup [D.tup [dS w, .int q.1], z])).noRef = true ∧ k (D.frz [] (D.tup [D.tup [dS w, .int q.1], z])) := fun w hw h1 hl => by
      refine strI hq (addS (by simp only [List.length_append, List.length_cons, List.length_nil]; omega) (addS (by simp only [List.length_append, List.length_cons, List.length_nil]; omega) ?_))
      refine rt_pure rfl (hk (.tup [dS w, .int q.1]) _ ?_)
      rw [List.append_assoc]
      exact ⟨dev_ev (.cons hnum (.one (gdW (key_gd.2.2.1 w hw)))) (.dev h1 rfl), by simp, by simp only [List.length_append, List.length_cons, List.length_nil]; omega, rfl⟩
    rcases (show kd = 17 ∨ kd = 18 ∨ kd = 19 ∨ kd = 20 by omega) with rfl | rfl | rfl | rfl
    · exact ⟨_, rfl, base _ (by decide +kernel) (by decide +kernel) (by decide)⟩
    · exact ⟨_, rfl, base _ (by decide +kernel) (by decide +kernel) (by decide)⟩
    · exact ⟨_, rfl, base _ (by decide +kernel) (by decide +kernel) (by decide)⟩
    · exact ⟨_, rfl, base _ (by decide +kernel) (by decide +kernel) (by decide)⟩
  rw [if_neg c2]
  try simp only [pForD, pInsL, pExtA, pSeq, pAsg, pVar, pC, pOp, pNil, pCons, pTup, pLst, pLstM, pNot, pAndV, pOrV, pIf, pB, pAnd, pOr, pNotT, pNoPart, pPart, pCB, pUnN, pSl, pNext, pBreak, pCont, pRet, pRetN, pDrop, pIfS, pgName, pgNil, pgCons, pgTup_t, pAug, pApp, pYes, isk_non, nsk_non, isN_non, isN_bl, isN_int, isN_str, isN_tup, isN_lst, isN_ref, isN_obj, pTru, pFld, pStar, pMake, pSetF, pIt, pRng1, pRng2, forG, List.map_cons, List.map_nil, List.getElem?_cons_zero, List.getElem?_cons_succ, List.set_cons_zero, List.set_cons_succ, Option.some.injEq, exists_eq_left, exists_eq_left', true_and, and_true, wipeE, D.bl.injEq, D.int.injEq, D.str.injEq, D.tup.injEq, D.lst.injEq, Bool.not_true, decide_eq_true_eq, if_true, if_false, reduceIte, Bool.false_eq_true, Option.isNone_none, Option.isNone_some, Bool.not_false, List.length_nil, List.length_cons, List.nil_append, List.cons_append, D.ref.injEq, SO.lst.injEq, pCall, exists_const, and_self, Nat.zero_add, Nat.zero_le, Nat.reduceLeDiff, Nat.reduceAdd, eq_self, o_add, o_sub, o_mul, o_div, o_mod, o_cmp, o_int, o_lenl, o_lent, o_lens, o_tupl, o_tupt, o_min, o_max, q_int, ixk_tup, ixk_lst, ixk_scr, at0, at1, at2, at3, at4, at5, List.length_map, c_make_, c_rename_, c_cut_, c_write_, c_set_runs_, c_read_, c_close_, c_put_away_, c_fetch_, c_trim_, c_restore_, c__wish_, c__speak_, c_make_folder, c_make_other, c_remove, c_remove_folder, c_open, c_scan, c_step, c_refuse, c_unanswered, c_crash, c_deliver, c_lose, c_again, c_make, c_rename, c_cut, c_write, c_set_runs, c_read, c_close, c_put_away, c_fetch, c_trim, c_restore, c_program, c_speak, e_sp]
  by_cases c3 : (kd : Int) < 24
  · rw [if_pos c3]
    have base : ∀ w : List Nat, w ∈ letT.map (·.1) → at_ letT w = some [.number] → w.length ≤ 20 → addk [] (dS w) (D.str (SX.S [32])) fun z => strIk [] [D.int (q.1 : Int)] fun d => addk [] z d fun z => (D.frz [] (D.tup [D.tup [dS w, .int q.1], z])).noRef = true ∧ k (D.frz [] (D.tup [D.tup [dS w, .int q.1], z])) := fun w hw h1 hl => by
      refine addS (by simp only [List.length_append, List.length_cons, List.length_nil]; omega) (strI hq (addS (by simp only [List.length_append, List.length_cons, List.length_nil]; omega) ?_))
      refine rt_pure rfl (hk (.tup [dS w, .int q.1]) _ ?_)
      rw [List.append_assoc]
      exact ⟨dev_ev (.cons (gdW (key_gd.2.2.2 w hw)) (.one hnum)) (.lett h1 rfl), by simp, by simp only [List.length_append, List.length_cons, List.length_nil]; omega, rfl⟩
    rcases (show kd = 21 ∨ kd = 22 ∨ kd = 23 by omega) with rfl | rfl | rfl
    · exact ⟨_, rfl, base _ (by decide +kernel) (by decide +kernel) (by decide)⟩
    · exact ⟨_, rfl, base _ (by decide +kernel) (by decide +kernel) (by decide)⟩
    · exact ⟨_, rfl, base _ (by decide +kernel) (by decide +kernel) (by decide)⟩
  rw [if_neg c3]
  try simp only [pForD, pInsL, pExtA, pSeq, pAsg, pVar, pC, pOp, pNil, pCons, pTup, pLst, pLstM, pNot, pAndV, pOrV, pIf, pB, pAnd, pOr, pNotT, pNoPart, pPart, pCB, pUnN, pSl, pNext, pBreak, pCont, pRet, pRetN, pDrop, pIfS, pgName, pgNil, pgCons, pgTup_t, pAug, pApp, pYes, isk_non, nsk_non, isN_non, isN_bl, isN_int, isN_str, isN_tup, isN_lst, isN_ref, isN_obj, pTru, pFld, pStar, pMake, pSetF, pIt, pRng1, pRng2, forG, List.map_cons, List.map_nil, List.getElem?_cons_zero, List.getElem?_cons_succ, List.set_cons_zero, List.set_cons_succ, Option.some.injEq, exists_eq_left, exists_eq_left', true_and, and_true, wipeE, D.bl.injEq, D.int.injEq, D.str.injEq, D.tup.injEq, D.lst.injEq, Bool.not_true, decide_eq_true_eq, if_true, if_false, reduceIte, Bool.false_eq_true, Option.isNone_none, Option.isNone_some, Bool.not_false, List.length_nil, List.length_cons, List.nil_append, List.cons_append, D.ref.injEq, SO.lst.injEq, pCall, exists_const, and_self, Nat.zero_add, Nat.zero_le, Nat.reduceLeDiff, Nat.reduceAdd, eq_self, o_add, o_sub, o_mul, o_div, o_mod, o_cmp, o_int, o_lenl, o_lent, o_lens, o_tupl, o_tupt, o_min, o_max, q_int, ixk_tup, ixk_lst, ixk_scr, at0, at1, at2, at3, at4, at5, List.length_map, c_make_, c_rename_, c_cut_, c_write_, c_set_runs_, c_read_, c_close_, c_put_away_, c_fetch_, c_trim_, c_restore_, c__wish_, c__speak_, c_make_folder, c_make_other, c_remove, c_remove_folder, c_open, c_scan, c_step, c_refuse, c_unanswered, c_crash, c_deliver, c_lose, c_again, c_make, c_rename, c_cut, c_write, c_set_runs, c_read, c_close, c_put_away, c_fetch, c_trim, c_restore, c_program, c_speak, e_sp]
  refine ⟨_, e2, call_of rfl ⟨_, rfl, fun q' hq' => ?_⟩⟩
  obtain ⟨g3, g4, _, _⟩ := nms_good q' hq'
  refine strI hq (addS (by simp only [List.length_append, List.length_cons, List.length_nil]; omega) (strI hq' (addS (by simp only [List.length_append, List.length_cons, List.length_nil]; omega) ?_)))
  refine rt_pure rfl (hk (.tup [dS [115, 112, 101, 97, 107], .int q.1, .int q'.1]) _ ?_)
  have e : q.2 ++ [32, 115, 112, 101, 97, 107, 32] ++ q'.2 = q.2 ++ 32 :: ([115, 112, 101, 97, 107] ++ 32 :: q'.2) := by simp only [List.append_assoc]; rfl
  rw [e]
  exact ⟨dev_ev (.cons hnum (.cons (gdW (key_gd.2.2.1 _ (by decide +kernel))) (.one (show Gd (.nm q'.1) q'.2 from g3)))) (.dev (fs := [.number]) (by decide +kernel) rfl), by simp, by simp only [List.length_append, List.length_cons, List.length_nil]; omega, rfl⟩
theorem ok_law_event {P : Program} {w : World} {K : PySem.W.Frag} {cl : Cl} {mg : Str → Option Value} {base : Heap} (D : Df K mg "_law_event" s_law_event ["cells"]) (T : Txt K cl mg) (hw : cl.w = w) (G_law_number : C8.Cal P w K mg base 1 "_law_number" (spP K cl F_law_number) []) (G_law_deed : C8.Cal P w K mg base 4 "_law_deed" (spP K cl F_law_deed) []) (G_law_wish : C8.Cal P w K mg base 2 "_law_wish" (spP K cl F_law_wish) []) : C8.Cal P w K mg base 5 "_law_event" (spP K cl F_law_event) [] := by
  subst hw
  refine D.cal sc_law_event (spP_len (n := 1) len_law_event) (fun f cdv  A outer s H vs Q E hr h => ?_)
  refine ⟨_,
    (pss_cons (ps_set (i := 1) sc_law_event.nd rfl (.inl rfl) (pe_op op_mod (pe_callTy call_int1 (by rfl) T.n_int (by decide +kernel) (pa_cons (pe_ix (show IxR _ (uIx K) from uix) (pv 0) pe_int (fun _ _ => rfl)) pa_nil)) pe_int))
    (pss_cons (ps_set (i := 2) sc_law_event.nd rfl (.inl rfl) (C8.pe_c G_law_number hr (by decide) (by rfl) (pa_cons (pe_ix (show IxR _ (uIx K) from uix) (pv 0) pe_int (fun _ _ => rfl)) pa_nil)))
    (pss_cons (ps_if (pt_cmpR op_lt (pv 1) pe_int (nomark _))
      (pss_cons (ps_asg (C8.pe_c G_law_deed hr (by decide) (by rfl) (pa_cons (pv 1) (pa_cons (pe_slice (show SlR _ (uSl K) from usl) (pv 0) (po_some pe_int) po_none) pa_nil))) (pg_tup rfl (pgs_cons (pg_name (i := 3) sc_law_event.nd rfl (Or.inl rfl)) (pgs_cons (pg_name (i := 4) sc_law_event.nd rfl (Or.inl rfl)) pgs_nil))))
      (pss_one (ps_ret (pe_tup (pa_cons (pe_tup (pa_cons pe_str (pa_cons (pv 2) (pa_cons (pv 3) pa_nil)))) (pa_cons (pe_op (show OpR _ _ (uAdd K) from uop_add) (pe_op (show OpR _ _ (uAdd K) from uop_add) (pe_callTy call_str_int (by rfl) T.n_str (by decide +kernel) (pa_cons (pv 2) pa_nil)) pe_str) (pv 4)) pa_nil))))))
      pss_nil)
    (pss_cons (ps_if (pt_cmpR op_lt (pv 1) pe_int (nomark _))
      (pss_cons (ps_asg (C8.pe_c G_law_wish hr (by decide) (by rfl) (pa_cons (pe_op op_sub (pv 1) pe_int) (pa_cons (pe_slice (show SlR _ (uSl K) from usl) (pv 0) (po_some pe_int) po_none) pa_nil))) (pg_tup rfl (pgs_cons (pg_name (i := 5) sc_law_event.nd rfl (Or.inl rfl)) (pgs_cons (pg_name (i := 4) sc_law_event.nd rfl (Or.inl rfl)) pgs_nil))))
      (pss_one (ps_ret (pe_tup (pa_cons (pe_tup (pa_cons pe_str (pa_cons (pv 2) (pa_cons (pv 5) pa_nil)))) (pa_cons (pe_op (show OpR _ _ (uAdd K) from uop_add) (pe_op (show OpR _ _ (uAdd K) from uop_add) (pe_callTy call_str_int (by rfl) T.n_str (by decide +kernel) (pa_cons (pv 2) pa_nil)) pe_str) (pv 4)) pa_nil))))))
      pss_nil)
    (pss_cons (ps_if (pt_cmpR op_lt (pv 1) pe_int (nomark _))
      (pss_cons (ps_set (i := 6) sc_law_event.nd rfl (.inl rfl) (pe_ix (show IxR _ (uIx K) from uix) (pe_lst (pa_cons pe_str (pa_cons pe_str (pa_cons pe_str (pa_cons pe_str pa_nil))))) (pe_op op_sub (pv 1) pe_int) (fun _ _ => rfl)))
      (pss_one (ps_ret (pe_tup (pa_cons (pe_tup (pa_cons (pv 6) (pa_cons (pv 2) pa_nil))) (pa_cons (pe_op (show OpR _ _ (uAdd K) from uop_add) (pe_op (show OpR _ _ (uAdd K) from uop_add) (pe_callTy call_str_int (by rfl) T.n_str (by decide +kernel) (pa_cons (pv 2) pa_nil)) pe_str) (pv 6)) pa_nil))))))
      pss_nil)
    (pss_cons (ps_if (pt_cmpR op_lt (pv 1) pe_int (nomark _))
      (pss_cons (ps_set (i := 6) sc_law_event.nd rfl (.inl rfl) (pe_ix (show IxR _ (uIx K) from uix) (pe_lst (pa_cons pe_str (pa_cons pe_str (pa_cons pe_str pa_nil)))) (pe_op op_sub (pv 1) pe_int) (fun _ _ => rfl)))
      (pss_one (ps_ret (pe_tup (pa_cons (pe_tup (pa_cons (pv 6) (pa_cons (pv 2) pa_nil))) (pa_cons (pe_op (show OpR _ _ (uAdd K) from uop_add) (pe_op (show OpR _ _ (uAdd K) from uop_add) (pv 6) pe_str) (pe_callTy call_str_int (by rfl) T.n_str (by decide +kernel) (pa_cons (pv 2) pa_nil))) pa_nil))))))
      pss_nil)
    (pss_cons (ps_set (i := 7) sc_law_event.nd rfl (.inl rfl) (C8.pe_c G_law_number hr (by decide) (by rfl) (pa_cons (pe_ix (show IxR _ (uIx K) from uix) (pv 0) pe_int (fun _ _ => rfl)) pa_nil)))
    (pss_one (ps_ret (pe_tup (pa_cons (pe_tup (pa_cons pe_str (pa_cons (pv 2) (pa_cons (pv 7) pa_nil)))) (pa_cons (pe_op (show OpR _ _ (uAdd K) from uop_add) (pe_op (show OpR _ _ (uAdd K) from uop_add) (pe_callTy call_str_int (by rfl) T.n_str (by decide +kernel) (pa_cons (pv 2) pa_nil)) pe_str) (pe_callTy call_str_int (by rfl) T.n_str (by decide +kernel) (pa_cons (pv 7) pa_nil))) pa_nil)))))))))))), ?_⟩
  exact fn_ok (N := ["cells", "kind", "device", "deed", "told", "wished", "word", "other"]) (show SmS K cl _ ps_law_event from
    (sm_seq (sm_asg (sm_op smr_mod (sm_cb smc_int (sm_cons (sm_op smr_ix sm_var sm_int) sm_nil)) sm_int) sm_gname)
    (sm_seq (sm_asg (sm_call (sm_cons (sm_op smr_ix sm_var sm_int) sm_nil)) sm_gname)
    (sm_seq (sm_ifS (sm_test (sm_op smr_cmp sm_var sm_int))
      (sm_seq (sm_asg (sm_call (sm_cons sm_var (sm_cons (sm_sl sm_var (sm_part sm_int) sm_noPart) sm_nil))) (sm_gtup (sm_gcons sm_gname (sm_gcons sm_gname sm_gnil))))
      ((sm_ret (sm_tup (sm_cons (sm_tup (sm_cons sm_str (sm_cons sm_var (sm_cons sm_var sm_nil)))) (sm_cons (sm_op smr_add (sm_op smr_add (sm_cb smc_strI (sm_cons sm_var sm_nil)) sm_str) sm_var) sm_nil))))))
      sm_next)
    (sm_seq (sm_ifS (sm_test (sm_op smr_cmp sm_var sm_int))
      (sm_seq (sm_asg (sm_call (sm_cons (sm_op smr_sub sm_var sm_int) (sm_cons (sm_sl sm_var (sm_part sm_int) sm_noPart) sm_nil))) (sm_gtup (sm_gcons sm_gname (sm_gcons sm_gname sm_gnil))))
      ((sm_ret (sm_tup (sm_cons (sm_tup (sm_cons sm_str (sm_cons sm_var (sm_cons sm_var sm_nil)))) (sm_cons (sm_op smr_add (sm_op smr_add (sm_cb smc_strI (sm_cons sm_var sm_nil)) sm_str) sm_var) sm_nil))))))
      sm_next)
    (sm_seq (sm_ifS (sm_test (sm_op smr_cmp sm_var sm_int))
      (sm_seq (sm_asg (sm_op smr_ix (sm_lst (sm_cons sm_str (sm_cons sm_str (sm_cons sm_str (sm_cons sm_str sm_nil))))) (sm_op smr_sub sm_var sm_int)) sm_gname)
      ((sm_ret (sm_tup (sm_cons (sm_tup (sm_cons sm_var (sm_cons sm_var sm_nil))) (sm_cons (sm_op smr_add (sm_op smr_add (sm_cb smc_strI (sm_cons sm_var sm_nil)) sm_str) sm_var) sm_nil))))))
      sm_next)
    (sm_seq (sm_ifS (sm_test (sm_op smr_cmp sm_var sm_int))
      (sm_seq (sm_asg (sm_op smr_ix (sm_lst (sm_cons sm_str (sm_cons sm_str (sm_cons sm_str sm_nil)))) (sm_op smr_sub sm_var sm_int)) sm_gname)
      ((sm_ret (sm_tup (sm_cons (sm_tup (sm_cons sm_var (sm_cons sm_var sm_nil))) (sm_cons (sm_op smr_add (sm_op smr_add sm_var sm_str) (sm_cb smc_strI (sm_cons sm_var sm_nil))) sm_nil))))))
      sm_next)
    (sm_seq (sm_asg (sm_call (sm_cons (sm_op smr_ix sm_var sm_int) sm_nil)) sm_gname)
    ((sm_ret (sm_tup (sm_cons (sm_tup (sm_cons sm_str (sm_cons sm_var (sm_cons sm_var sm_nil)))) (sm_cons (sm_op smr_add (sm_op smr_add (sm_cb smc_strI (sm_cons sm_var sm_nil)) sm_str) (sm_cb smc_strI (sm_cons sm_var sm_nil))) sm_nil))))))))))))) body_law_event h
theorem dep_dP (p : List (List Nat)) : (dP p).py.depth ≤ 1 := by
  show PyData.depthAll (pyAll (p.map dS)) + 1 ≤ 1
  have : ∀ q : List (List Nat), PyData.depthAll (pyAll (q.map dS)) = 0 := by
    intro q
    induction q with
    | nil => rfl
    | cons x q ih =>
      show max 0 (PyData.depthAll (pyAll (q.map dS))) = 0
      rw [ih]
      rfl
  rw [this]
  exact Nat.le_refl _
theorem dep_form {f : Fm} {ps : List Pt} {d : D} {n : Nat} (h : formF f ps = some (d, n)) : d.py.depth ≤ 2 := by
  have hspot : ∀ ps d n, spotF ps = some (d, n) → d.py.depth ≤ 2 := fun ps d n h => by
    rcases spot_cases h with ⟨w, t, p, r, hw, rfl, hp, rfl, rfl⟩ | ⟨m, t, p, r, rfl, hp, rfl, rfl⟩
    · show max 0 (max (dP p).py.depth 0) + 1 ≤ 2
      have := dep_dP p
      omega
    · show max 0 (max (dP p).py.depth 0) + 1 ≤ 2
      have := dep_dP p
      omega
  cases f with
  | number =>
    have h : numF ps = some (d, n) := h
    unfold numF at h
    split at h
    · cases h; exact Nat.zero_le 2
    · cases h
  | text =>
    have h : textF ps = some (d, n) := h
    unfold textF at h
    split at h
    · cases h; exact Nat.zero_le 2
    · cases h
  | path =>
    have h : Par.pathF ps = some (d, n) := h
    unfold Par.pathF at h
    split at h
    · obtain ⟨p, _, e⟩ := Option.map_eq_some_iff.mp h
      cases e
      exact Nat.le_trans (dep_dP p) (by decide)
    · cases h
  | runs =>
    have h : runsF ps = some (d, n) := h
    unfold runsF at h
    split at h
    · split at h
      · cases h; exact Nat.zero_le 2
      · split at h
        · cases h; exact Nat.zero_le 2
        · cases h
    · cases h
  | spot => exact hspot ps d n h
  | target =>
    rcases target_cases h with ⟨m, r, rfl, rfl, rfl⟩ | ⟨h1, _⟩
    · exact Nat.zero_le 2
    · exact hspot ps d n h1
theorem dep_forms : ∀ (fs : List Fm) (ps : List Pt) (ds : List D), formsF fs ps = some ds → PyData.depthAll (pyAll ds) ≤ 2
  | [], [], ds, h => by cases h; exact Nat.zero_le 2
  | [], _ :: _, ds, h => by cases h
  | f :: fs, ps, ds, h => by
    obtain ⟨d, n, es, h1, h2, rfl⟩ := forms_cons h
    have a := dep_form h1
    have b := dep_forms fs _ es h2
    show max d.py.depth (PyData.depthAll (pyAll es)) ≤ 2
    omega
theorem dep_ev (ps : List Pt) : (oD (evF ps)).dep ≤ 60 := by
  cases h : evF ps with
  | none => exact Nat.zero_le 60
  | some e =>
    show e.py.depth ≤ 60
    cases ev_k h with
    | @wish n w fs r ds h1 h2 =>
      have := dep_forms fs r ds h2
      show max 0 (max 0 (max (max 0 (PyData.depthAll (pyAll ds)) + 1) 0)) + 1 ≤ 60
      omega
    | @prog n w fs r ds h1 h2 =>
      have := dep_forms fs r ds h2
      show max 0 (max 0 (max (max 0 (PyData.depthAll (pyAll ds)) + 1) 0)) + 1 ≤ 60
      omega
    | @dev n w fs r ds h1 h2 =>
      have := dep_forms fs r ds h2
      show max 0 (max 0 (PyData.depthAll (pyAll ds))) + 1 ≤ 60
      omega
    | @lett w fs r ds h1 h2 =>
      have := dep_forms fs r ds h2
      show max 0 (PyData.depthAll (pyAll ds)) + 1 ≤ 60
      omega
theorem line_pd (l : List Nat) : (oD (lineF l)).pure = true ∧ (oD (lineF l)).dep ≤ 60 := by
  unfold lineF
  cases PL l with
  | none => exact ⟨rfl, Nat.zero_le 60⟩
  | some ps => exact ⟨pu_ev ps, dep_ev ps⟩
theorem line_ne {l l' : List Nat} {d : D} (h : lineF l = some d) (hn : l' ≠ l) : D.eqv (oD (lineF l')) d = false := by
  cases h' : lineF l' with
  | none =>
    obtain ⟨ps, _, h2⟩ := Option.bind_eq_some_iff.mp h
    cases ev_k h2 <;> rfl
  | some e =>
    cases q : D.eqv e d with
    | false => exact q
    | true => exact absurd (line_inj h' h q) hn
theorem e_x : Str.ofString " x" = SX.S [32, 120] := by decide +kernel
theorem e_z : Str.ofString "z" = SX.S [122] := by decide +kernel
theorem e_spsp : Str.ofString "  " = SX.S [32, 32] := by decide +kernel
def ps_law : PSx :=
    (pSeq (pAsg (pCall F_law_cells (pCons (pVar 0) (pCons (pC (.int 12)) pNil))) (pgName 1))
    (pSeq (pAsg (pCall F_law_event (pCons (pVar 1) pNil)) (pgTup 2 (pgCons (pgName 2) (pgCons (pgName 3) pgNil))))
    (pSeq (pIfS (pB (pOp nek (pCall F_read_event (pCons (pVar 3) pNil)) (pVar 2)))
      ((pRet (pC (.bl false))))
      pNext)
    (pSeq (pAsg (pOp modk (pCB int1k (pCons (pOp ixk (pVar 1) (pC (.int 10))) pNil)) (pOp addk (pCB lenk (pCons (pVar 3) pNil)) (pC (.int 1)))) (pgName 4))
    (pSeq (pAsg (pLst (pCons (pOp addk (pC (.str (Str.ofString " "))) (pVar 3)) (pCons (pOp addk (pVar 3) (pC (.str (Str.ofString " ")))) (pCons (pOp addk (pVar 3) (pC (.str (Str.ofString " x")))) (pCons (pOp addk (pC (.str (Str.ofString "0"))) (pVar 3)) (pCons (pSl (pVar 3) (pPart (pC (.int 1))) pNoPart) (pCons (pOp addk (pVar 3) (pC (.str (Str.ofString "\"")))) (pCons (pRepl (Str.ofString " ") (Str.ofString "  ") (pVar 3)) pNil)))))))) (pgName 5))
    (pSeq (pIfS (pOr (pB (pOp nsk (pCall F_read_event (pCons (pOp ixk (pVar 5) (pC (.int 0))) pNil)) (pC .non))) (pB (pOp nsk (pCall F_read_event (pCons (pOp ixk (pVar 5) (pC (.int 1))) pNil)) (pC .non))))
      ((pRet (pC (.bl false))))
      pNext)
    (pSeq (pIfS (pOr (pB (pOp nsk (pCall F_read_event (pCons (pOp ixk (pVar 5) (pC (.int 2))) pNil)) (pC .non))) (pB (pOp nsk (pCall F_read_event (pCons (pOp ixk (pVar 5) (pC (.int 5))) pNil)) (pC .non))))
      ((pRet (pC (.bl false))))
      pNext)
    (pSeq (pIfS (pAnd (pB (pOp ink (pOp ixk (pVar 3) (pC (.int 0))) (pC (.str (Str.ofString "0123456789"))))) (pB (pOp nsk (pCall F_read_event (pCons (pOp ixk (pVar 5) (pC (.int 3))) pNil)) (pC .non))))
      ((pRet (pC (.bl false))))
      pNext)
    (pSeq (pIfS (pAnd (pB (pOp eqk (pCall F_read_event (pCons (pOp ixk (pVar 5) (pC (.int 6))) pNil)) (pVar 2))) (pB (pOp nik (pC (.str (Str.ofString "\""))) (pVar 3))))
      ((pRet (pC (.bl false))))
      pNext)
    (pSeq (pAsg (pOp addk (pOp addk (pSl (pVar 3) pNoPart (pPart (pVar 4))) (pC (.str (Str.ofString "z")))) (pSl (pVar 3) (pPart (pOp addk (pVar 4) (pC (.int 1)))) pNoPart)) (pgName 6))
    ((pRet (pOrV (pOp eqk (pVar 6) (pVar 3)) (pOp nek (pCall F_read_event (pCons (pVar 6) pNil)) (pVar 2)))))))))))))))
theorem start_law : ∀ a0 : D, startE 7 [a0] = [some a0, none, none, none, none, none, none] := fun _ => rfl
theorem body_law : ∀ ns : List Int, ns.length ≤ 63 → ps_law { nx := fun _ _ => False, rt := fun d _ => d = .bl true } (startE 7 [.scr (ns.map D.int)]) [] := by
  intro ns hl
  rw [start_law]
  unfold ps_law
  simp only [pForD, pInsL, pExtA, pSeq, pAsg, pVar, pC, pOp, pNil, pCons, pTup, pLst, pLstM, pNot, pAndV, pOrV, pIf, pB, pAnd, pOr, pNotT, pNoPart, pPart, pCB, pUnN, pSl, pNext, pBreak, pCont, pRet, pRetN, pDrop, pIfS, pgName, pgNil, pgCons, pgTup_t, pAug, pApp, pYes, isk_non, nsk_non, isN_non, isN_bl, isN_int, isN_str, isN_tup, isN_lst, isN_ref, isN_obj, pTru, pFld, pStar, pMake, pSetF, pIt, pRng1, pRng2, forG, List.map_cons, List.map_nil, List.getElem?_cons_zero, List.getElem?_cons_succ, List.set_cons_zero, List.set_cons_succ, Option.some.injEq, exists_eq_left, exists_eq_left', true_and, and_true, wipeE, D.bl.injEq, D.int.injEq, D.str.injEq, D.tup.injEq, D.lst.injEq, Bool.not_true, decide_eq_true_eq, if_true, if_false, reduceIte, Bool.false_eq_true, Option.isNone_none, Option.isNone_some, Bool.not_false, List.length_nil, List.length_cons, List.nil_append, List.cons_append, D.ref.injEq, SO.lst.injEq, pCall, exists_const, and_self, Nat.zero_add, Nat.zero_le, Nat.reduceLeDiff, Nat.reduceAdd, eq_self, o_add, o_sub, o_mul, o_div, o_mod, o_cmp, o_int, o_lenl, o_lent, o_lens, o_tupl, o_tupt, o_min, o_max, q_int, ixk_tup, ixk_lst, ixk_scr, at0, at1, at2, at3, at4, at5, List.length_map, e_sp, e_x, e_z, e_spsp, e_0, e_q, e_dgs]
  refine call_of (by simp only [pureAll, D.pure, pu_intsL, Bool.and_self]) ⟨ns, 12, rfl, hl, by decide, fun cs hcs => ?_⟩
  refine call_of (by simp only [pureAll, D.pure, pu_intsL, Bool.and_self]) ⟨cs, rfl, hcs, fun d l he => ?_⟩
  obtain ⟨v10, e10⟩ := cell_at (cs := cs) (n := 10) (by omega)
  have hl2 := he.len
  have hdd := (line_pd l).2
  rw [he.rd] at hdd
  have hdd : d.dep ≤ 60 := hdd
  have hrd := he.rd
  simp only [pForD, pInsL, pExtA, pSeq, pAsg, pVar, pC, pOp, pNil, pCons, pTup, pLst, pLstM, pNot, pAndV, pOrV, pIf, pB, pAnd, pOr, pNotT, pNoPart, pPart, pCB, pUnN, pSl, pNext, pBreak, pCont, pRet, pRetN, pDrop, pIfS, pgName, pgNil, pgCons, pgTup_t, pAug, pApp, pYes, isk_non, nsk_non, isN_non, isN_bl, isN_int, isN_str, isN_tup, isN_lst, isN_ref, isN_obj, pTru, pFld, pStar, pMake, pSetF, pIt, pRng1, pRng2, forG, List.map_cons, List.map_nil, List.getElem?_cons_zero, List.getElem?_cons_succ, List.set_cons_zero, List.set_cons_succ, Option.some.injEq, exists_eq_left, exists_eq_left', true_and, and_true, wipeE, D.bl.injEq, D.int.injEq, D.str.injEq, D.tup.injEq, D.lst.injEq, Bool.not_true, decide_eq_true_eq, if_true, if_false, reduceIte, Bool.false_eq_true, Option.isNone_none, Option.isNone_some, Bool.not_false, List.length_nil, List.length_cons, List.nil_append, List.cons_append, D.ref.injEq, SO.lst.injEq, pCall, exists_const, and_self, Nat.zero_add, Nat.zero_le, Nat.reduceLeDiff, Nat.reduceAdd, eq_self, o_add, o_sub, o_mul, o_div, o_mod, o_cmp, o_int, o_lenl, o_lent, o_lens, o_tupl, o_tupt, o_min, o_max, q_int, ixk_tup, ixk_lst, ixk_scr, at0, at1, at2, at3, at4, at5, List.length_map, e_sp, e_x, e_z, e_spsp, e_0, e_q, e_dgs]
  refine call_of rfl ⟨l, rfl, by omega, ?_⟩
  rw [hrd]
  refine Eq.mpr (n_refl he.pu hdd) ⟨_, rfl, Eq.mpr (if_neg (by decide)) ?_⟩
  refine ⟨_, e10, ?_⟩
  simp only [pForD, pInsL, pExtA, pSeq, pAsg, pVar, pC, pOp, pNil, pCons, pTup, pLst, pLstM, pNot, pAndV, pOrV, pIf, pB, pAnd, pOr, pNotT, pNoPart, pPart, pCB, pUnN, pSl, pNext, pBreak, pCont, pRet, pRetN, pDrop, pIfS, pgName, pgNil, pgCons, pgTup_t, pAug, pApp, pYes, isk_non, nsk_non, isN_non, isN_bl, isN_int, isN_str, isN_tup, isN_lst, isN_ref, isN_obj, pTru, pFld, pStar, pMake, pSetF, pIt, pRng1, pRng2, forG, List.map_cons, List.map_nil, List.getElem?_cons_zero, List.getElem?_cons_succ, List.set_cons_zero, List.set_cons_succ, Option.some.injEq, exists_eq_left, exists_eq_left', true_and, and_true, wipeE, D.bl.injEq, D.int.injEq, D.str.injEq, D.tup.injEq, D.lst.injEq, Bool.not_true, decide_eq_true_eq, if_true, if_false, reduceIte, Bool.false_eq_true, Option.isNone_none, Option.isNone_some, Bool.not_false, List.length_nil, List.length_cons, List.nil_append, List.cons_append, D.ref.injEq, SO.lst.injEq, pCall, exists_const, and_self, Nat.zero_add, Nat.zero_le, Nat.reduceLeDiff, Nat.reduceAdd, eq_self, o_add, o_sub, o_mul, o_div, o_mod, o_cmp, o_int, o_lenl, o_lent, o_lens, o_tupl, o_tupt, o_min, o_max, q_int, ixk_tup, ixk_lst, ixk_scr, at0, at1, at2, at3, at4, at5, List.length_map]
  refine lenS (l := l) (by omega) ?_
  simp only [pForD, pInsL, pExtA, pSeq, pAsg, pVar, pC, pOp, pNil, pCons, pTup, pLst, pLstM, pNot, pAndV, pOrV, pIf, pB, pAnd, pOr, pNotT, pNoPart, pPart, pCB, pUnN, pSl, pNext, pBreak, pCont, pRet, pRetN, pDrop, pIfS, pgName, pgNil, pgCons, pgTup_t, pAug, pApp, pYes, isk_non, nsk_non, isN_non, isN_bl, isN_int, isN_str, isN_tup, isN_lst, isN_ref, isN_obj, pTru, pFld, pStar, pMake, pSetF, pIt, pRng1, pRng2, forG, List.map_cons, List.map_nil, List.getElem?_cons_zero, List.getElem?_cons_succ, List.set_cons_zero, List.set_cons_succ, Option.some.injEq, exists_eq_left, exists_eq_left', true_and, and_true, wipeE, D.bl.injEq, D.int.injEq, D.str.injEq, D.tup.injEq, D.lst.injEq, Bool.not_true, decide_eq_true_eq, if_true, if_false, reduceIte, Bool.false_eq_true, Option.isNone_none, Option.isNone_some, Bool.not_false, List.length_nil, List.length_cons, List.nil_append, List.cons_append, D.ref.injEq, SO.lst.injEq, pCall, exists_const, and_self, Nat.zero_add, Nat.zero_le, Nat.reduceLeDiff, Nat.reduceAdd, eq_self, o_add, o_sub, o_mul, o_div, o_mod, o_cmp, o_int, o_lenl, o_lent, o_lens, o_tupl, o_tupt, o_min, o_max, q_int, ixk_tup, ixk_lst, ixk_scr, at0, at1, at2, at3, at4, at5, List.length_map]
  have hz : (0 : Int) < (l.length : Int) + 1 := by omega
  have z0 := Int.emod_nonneg v10 (show (l.length : Int) + 1 ≠ 0 by omega)
  have z1 := Int.emod_lt_of_pos v10 hz
  obtain ⟨a, ha⟩ : ∃ a : Nat, v10 % ((l.length : Int) + 1) = (a : Int) := ⟨(v10 % ((l.length : Int) + 1)).toNat, by omega⟩
  refine ⟨hz, ?_⟩
  rw [ha] at z0 z1 ⊢
  refine addS (by simp only [List.length_append, List.length_cons, List.length_nil]; omega) (addS (by simp only [List.length_append, List.length_cons, List.length_nil]; omega) (addS (by simp only [List.length_append, List.length_cons, List.length_nil]; omega) (addS (by simp only [List.length_append, List.length_cons, List.length_nil]; omega) ?_)))
  refine fromS (n := 1) (by omega) ?_
  refine addS (by simp only [List.length_append, List.length_cons, List.length_nil]; omega) ?_
  simp only [pForD, pInsL, pExtA, pSeq, pAsg, pVar, pC, pOp, pNil, pCons, pTup, pLst, pLstM, pNot, pAndV, pOrV, pIf, pB, pAnd, pOr, pNotT, pNoPart, pPart, pCB, pUnN, pSl, pNext, pBreak, pCont, pRet, pRetN, pDrop, pIfS, pgName, pgNil, pgCons, pgTup_t, pAug, pApp, pYes, isk_non, nsk_non, isN_non, isN_bl, isN_int, isN_str, isN_tup, isN_lst, isN_ref, isN_obj, pTru, pFld, pStar, pMake, pSetF, pIt, pRng1, pRng2, forG, List.map_cons, List.map_nil, List.getElem?_cons_zero, List.getElem?_cons_succ, List.set_cons_zero, List.set_cons_succ, Option.some.injEq, exists_eq_left, exists_eq_left', true_and, and_true, wipeE, D.bl.injEq, D.int.injEq, D.str.injEq, D.tup.injEq, D.lst.injEq, Bool.not_true, decide_eq_true_eq, if_true, if_false, reduceIte, Bool.false_eq_true, Option.isNone_none, Option.isNone_some, Bool.not_false, List.length_nil, List.length_cons, List.nil_append, List.cons_append, D.ref.injEq, SO.lst.injEq, pCall, exists_const, and_self, Nat.zero_add, Nat.zero_le, Nat.reduceLeDiff, Nat.reduceAdd, eq_self, o_add, o_sub, o_mul, o_div, o_mod, o_cmp, o_int, o_lenl, o_lent, o_lens, o_tupl, o_tupt, o_min, o_max, q_int, ixk_tup, ixk_lst, ixk_scr, at0, at1, at2, at3, at4, at5, List.length_map, pRepl]
  refine ⟨_, rfl, by rw [len_S]; omega, by decide, ?_⟩
  refine call_of rfl ⟨[32] ++ l, rfl, by simp only [List.length_append, List.length_cons, List.length_nil]; omega, ?_⟩
  rw [show lineF ([32] ++ l) = none from line_sp l]
  refine Eq.mpr (if_neg (by decide)) ?_
  refine call_of rfl ⟨l ++ [32], rfl, by simp only [List.length_append, List.length_cons, List.length_nil]; omega, ?_⟩
  rw [line_end hrd]
  refine Eq.mpr (if_neg (by decide)) ?_
  refine call_of rfl ⟨l ++ [32, 120], rfl, by simp only [List.length_append, List.length_cons, List.length_nil]; omega, ?_⟩
  rw [line_x hrd]
  refine Eq.mpr (if_neg (by decide)) ?_
  refine call_of rfl ⟨l ++ [34], rfl, by simp only [List.length_append, List.length_cons, List.length_nil]; omega, ?_⟩
  rw [line_q hrd]
  refine Eq.mpr (if_neg (by decide)) ?_
  have hne : l ≠ [] := fun z => by
    have := he.sp
    rw [z] at this
    cases this
  obtain ⟨hr1, hr2⟩ := repl_ne he.sp
  have hlr : (Txt.replace (SX.S l) (SX.S [32]) (SX.S [32, 32])).cps.toList ≠ l := fun z => hr1 (by rw [← SX.S_tl (Txt.replace (SX.S l) (SX.S [32]) (SX.S [32, 32]))]; exact congrArg SX.S z)
  have hlen : (Txt.replace (SX.S l) (SX.S [32]) (SX.S [32, 32])).cps.toList.length = (Txt.replace (SX.S l) (SX.S [32]) (SX.S [32, 32])).length := Array.length_toList
  obtain ⟨c, r, hcr⟩ := List.exists_cons_of_ne_nil hne
  have hget : l[0]? = some c := by rw [hcr]; rfl
  refine ixS (j := 0) hget (by omega) ?_
  refine ⟨c, rfl, ?_⟩
  rw [dig_mem]
  refine ⟨_, rfl, ?_⟩
  have rep := hr2
  cases q : isDig c with
  | true =>
    refine Eq.mpr (if_pos rfl) (call_of rfl ⟨48 :: l, rfl, by simp only [List.length_append, List.length_cons, List.length_nil]; omega, ?_⟩)
    have h0 : lineF (48 :: l) = none := by
      rw [hcr]
      exact line_0 (e := d) c q
    rw [h0]
    refine Eq.mpr (if_neg (by decide)) ?_
    refine ⟨_, rfl, call_of rfl ⟨(Txt.replace (SX.S l) (SX.S [32]) (SX.S [32, 32])).cps.toList, by rw [SX.S_tl], by rw [hlen]; omega, ?_⟩⟩
    refine Eq.mpr (eqk_pure (line_pd _).1 he.pu (line_pd _).2) ?_
    rw [line_ne hrd hlr]
    refine ⟨_, rfl, Eq.mpr (if_neg (by decide)) ?_⟩
    refine toS (n := a) (by omega) ?_
    refine addS (by simp only [List.length_append, List.length_cons, List.length_nil, List.length_take]; omega) ?_
    refine fromS (n := a + 1) (by omega) ?_
    refine addS (by simp only [List.length_append, List.length_cons, List.length_nil, List.length_take, List.length_drop]; omega) ?_
    refine Eq.mpr (q_word _ _ _ _) ⟨_, rfl, ?_⟩
    by_cases c9 : SX.S (l.take a ++ [122] ++ l.drop (a + 1)) = SX.S l
    · rw [decide_eq_true c9]
      exact Eq.mpr (if_pos rfl) trivial
    · rw [decide_eq_false c9]
      refine Eq.mpr (if_neg (by decide)) ?_
      refine call_of rfl ⟨_, rfl, by simp only [List.length_append, List.length_cons, List.length_nil, List.length_take, List.length_drop]; omega, ?_⟩
      refine Eq.mpr (nek_pure (line_pd _).1 he.pu (line_pd _).2) ?_
      rw [line_ne hrd fun z => c9 (congrArg SX.S z)]
      rfl
  | false =>
    refine Eq.mpr (if_neg (by decide)) ?_
    refine ⟨_, rfl, call_of rfl ⟨(Txt.replace (SX.S l) (SX.S [32]) (SX.S [32, 32])).cps.toList, by rw [SX.S_tl], by rw [hlen]; omega, ?_⟩⟩
    refine Eq.mpr (eqk_pure (line_pd _).1 he.pu (line_pd _).2) ?_
    rw [line_ne hrd hlr]
    refine ⟨_, rfl, Eq.mpr (if_neg (by decide)) ?_⟩
    refine toS (n := a) (by omega) ?_
    refine addS (by simp only [List.length_append, List.length_cons, List.length_nil, List.length_take]; omega) ?_
    refine fromS (n := a + 1) (by omega) ?_
    refine addS (by simp only [List.length_append, List.length_cons, List.length_nil, List.length_take, List.length_drop]; omega) ?_
    refine Eq.mpr (q_word _ _ _ _) ⟨_, rfl, ?_⟩
    by_cases c9 : SX.S (l.take a ++ [122] ++ l.drop (a + 1)) = SX.S l
    · rw [decide_eq_true c9]
      exact Eq.mpr (if_pos rfl) trivial
    · rw [decide_eq_false c9]
      refine Eq.mpr (if_neg (by decide)) ?_
      refine call_of rfl ⟨_, rfl, by simp only [List.length_append, List.length_cons, List.length_nil, List.length_take, List.length_drop]; omega, ?_⟩
      refine Eq.mpr (nek_pure (line_pd _).1 he.pu (line_pd _).2) ?_
      rw [line_ne hrd fun z => c9 (congrArg SX.S z)]
      rfl
theorem ok_law {P : Program} {w : World} {K : PySem.W.Frag} {cl : Cl} {mg : Str → Option Value} {base : Heap} {f : Addr} {fd : FuncData} (F : Fun K "law" "law" s_law f fd) (T : Txt K cl mg) (hw : cl.w = w) (G_read_event : C8.Cal P w K mg base 9 "read_event" (spP K cl F_read_event) []) (G_law_cells : C8.Cal P w K mg base 1 "_law_cells" (spP K cl F_law_cells) []) (G_law_event : C8.Cal P w K mg base 5 "_law_event" (spP K cl F_law_event) []) : FnOk P w K mg base CX0 10 f fd ["script"] (spLawT cl.tabs K) := by
  subst hw
  refine F.ok sc_law (fun vs H Q E h => ?_) (fun cdv A outer s H vs Q E hr h => ?_)
  · obtain ⟨a, ns, rfl, _⟩ := h
    rfl
  · refine ⟨_,
    (pss_cons (ps_set (i := 1) sc_law.nd rfl (.inl rfl) (C8.pe_c G_law_cells hr (by decide) (by rfl) (pa_cons (pv 0) (pa_cons pe_int pa_nil))))
    (pss_cons (ps_asg (C8.pe_c G_law_event hr (by decide) (by rfl) (pa_cons (pv 1) pa_nil)) (pg_tup rfl (pgs_cons (pg_name (i := 2) sc_law.nd rfl (Or.inl rfl)) (pgs_cons (pg_name (i := 3) sc_law.nd rfl (Or.inl rfl)) pgs_nil))))
    (pss_cons (ps_if (pt_cmpR (show OpR _ _ (rNeP K) from op_neP hr.units) (C8.pe_c G_read_event hr (by decide) (by rfl) (pa_cons (pv 3) pa_nil)) (pv 2) (nomark _))
      (pss_one (ps_ret pe_bl))
      pss_nil)
    (pss_cons (ps_set (i := 4) sc_law.nd rfl (.inl rfl) (pe_op op_mod (pe_callTy call_int1 (by rfl) T.n_int (by decide +kernel) (pa_cons (pe_ix (show IxR _ (uIx K) from uix) (pv 1) pe_int (fun _ _ => rfl)) pa_nil)) (pe_op (show OpR _ _ (uAdd K) from uop_add) (pe_callB (show CallR _ (.builtin "len") (uLen K) from ucall_len) (by rfl) T.n_len PySem.boot_len (pa_cons (pv 3) pa_nil)) pe_int)))
    (pss_cons (ps_set (i := 5) sc_law.nd rfl (.inl rfl) (pe_lst (pa1_cons (pe1_bin (show OpR _ _ (uAdd K) from uop_add) (pv 3)) (pat_cons (PET.of (pe_op (show OpR _ _ (uAdd K) from uop_add) (pv 3) pe_str)) (pat_cons (PET.of (pe_op (show OpR _ _ (uAdd K) from uop_add) (pv 3) pe_str)) (pat_cons (PET.of (pe_op (show OpR _ _ (uAdd K) from uop_add) pe_str (pv 3))) (pat_cons (PET.of (pe_slice (show SlR _ (uSl K) from usl) (pv 3) (po_some pe_int) po_none)) (pat_cons (PET.of (pe_op (show OpR _ _ (uAdd K) from uop_add) (pv 3) pe_str)) (pat_cons (pet_repl (by decide +kernel) (pv 3) ⟨rfl, rfl, rfl, rfl⟩) pat_nil)))))))))
    (pss_cons (ps_if (PW.pt (pw_or (pt_cmpR op_notN (C8.pe_c G_read_event hr (by decide) (by rfl) (pa_cons (pe_ix (show IxR _ (uIx K) from uix) (pv 5) pe_int (fun _ _ => rfl)) pa_nil)) pe_non (nomark _)) (pw_or1 (pt_cmpR op_notN (C8.pe_c G_read_event hr (by decide) (by rfl) (pa_cons (pe_ix (show IxR _ (uIx K) from uix) (pv 5) pe_int (fun _ _ => rfl)) pa_nil)) pe_non (nomark _)))))
      (pss_one (ps_ret pe_bl))
      pss_nil)
    (pss_cons (ps_if (PW.pt (pw_or (pt_cmpR op_notN (C8.pe_c G_read_event hr (by decide) (by rfl) (pa_cons (pe_ix (show IxR _ (uIx K) from uix) (pv 5) pe_int (fun _ _ => rfl)) pa_nil)) pe_non (nomark _)) (pw_or1 (pt_cmpR op_notN (C8.pe_c G_read_event hr (by decide) (by rfl) (pa_cons (pe_ix (show IxR _ (uIx K) from uix) (pv 5) pe_int (fun _ _ => rfl)) pa_nil)) pe_non (nomark _)))))
      (pss_one (ps_ret pe_bl))
      pss_nil)
    (pss_cons (ps_if (PW.pt (pw_and (pt_cmpR (show OpR _ _ (uIn K) from uop_in hr.units) (pe_ix (show IxR _ (uIx K) from uix) (pv 3) pe_int (fun _ _ => rfl)) pe_str (by with_unfolding_all rfl)) (pw_and1 (pt_cmpR op_notN (C8.pe_c G_read_event hr (by decide) (by rfl) (pa_cons (pe_ix (show IxR _ (uIx K) from uix) (pv 5) pe_int (fun _ _ => rfl)) pa_nil)) pe_non (nomark _)))))
      (pss_one (ps_ret pe_bl))
      pss_nil)
    (pss_cons (ps_if (PW.pt (pw_and (pt_cmpR (show OpR _ _ (rEqP K) from op_eqP hr.units) (C8.pe_c G_read_event hr (by decide) (by rfl) (pa_cons (pe_ix (show IxR _ (uIx K) from uix) (pv 5) pe_int (fun _ _ => rfl)) pa_nil)) (pv 2) (nomark _)) (pw_and1 (pt_cmpR (show OpR _ _ (uNi K) from uop_ni hr.units) pe_str (pv 3) (by with_unfolding_all rfl)))))
      (pss_one (ps_ret pe_bl))
      pss_nil)
    (pss_cons (ps_set (i := 6) sc_law.nd rfl (.inl rfl) (pe_op (show OpR _ _ (uAdd K) from uop_add) (pe_op (show OpR _ _ (uAdd K) from uop_add) (pe_slice (show SlR _ (uSl K) from usl) (pv 3) po_none (po_some (pv 4))) pe_str) (pe_slice (show SlR _ (uSl K) from usl) (pv 3) (po_some (pe_op (show OpR _ _ (uAdd K) from uop_add) (pv 4) pe_int)) po_none)))
    (pss_one (ps_ret (pe_or (pe_cmpR (show OpR _ _ (rEqP K) from op_eqP hr.units) (pv 6) (pv 3) (nomark _)) (pe_one (pe_cmpR (show OpR _ _ (rNeP K) from op_neP hr.units) (C8.pe_c G_read_event hr (by decide) (by rfl) (pa_cons (pv 6) pa_nil)) (pv 2) (nomark _)))))))))))))))), ?_⟩
    exact law_ok (cl := cl) (N := ["script", "cells", "event", "line", "at", "broken", "changed"]) (show SmS K cl _ ps_law from
    (sm_seq (sm_asg (sm_call (sm_cons sm_var (sm_cons sm_int sm_nil))) sm_gname)
    (sm_seq (sm_asg (sm_call (sm_cons sm_var sm_nil)) (sm_gtup (sm_gcons sm_gname (sm_gcons sm_gname sm_gnil))))
    (sm_seq (sm_ifS (sm_test (sm_op smr_ne (sm_call (sm_cons sm_var sm_nil)) sm_var))
      ((sm_ret sm_bl))
      sm_next)
    (sm_seq (sm_asg (sm_op smr_mod (sm_cb smc_int (sm_cons (sm_op smr_ix sm_var sm_int) sm_nil)) (sm_op smr_add (sm_cb smc_len (sm_cons sm_var sm_nil)) sm_int)) sm_gname)
    (sm_seq (sm_asg (sm_lst (sm_cons (sm_op smr_add sm_str sm_var) (sm_cons (sm_op smr_add sm_var sm_str) (sm_cons (sm_op smr_add sm_var sm_str) (sm_cons (sm_op smr_add sm_str sm_var) (sm_cons (sm_sl sm_var (sm_part sm_int) sm_noPart) (sm_cons (sm_op smr_add sm_var sm_str) (sm_cons (sm_repl sm_var) sm_nil)))))))) sm_gname)
    (sm_seq (sm_ifS (sm_or (sm_test (sm_op smr_ns (sm_call (sm_cons (sm_op smr_ix sm_var sm_int) sm_nil)) sm_non)) (sm_test (sm_op smr_ns (sm_call (sm_cons (sm_op smr_ix sm_var sm_int) sm_nil)) sm_non)))
      ((sm_ret sm_bl))
      sm_next)
    (sm_seq (sm_ifS (sm_or (sm_test (sm_op smr_ns (sm_call (sm_cons (sm_op smr_ix sm_var sm_int) sm_nil)) sm_non)) (sm_test (sm_op smr_ns (sm_call (sm_cons (sm_op smr_ix sm_var sm_int) sm_nil)) sm_non)))
      ((sm_ret sm_bl))
      sm_next)
    (sm_seq (sm_ifS (sm_and (sm_test (sm_op smr_in (sm_op smr_ix sm_var sm_int) sm_str)) (sm_test (sm_op smr_ns (sm_call (sm_cons (sm_op smr_ix sm_var sm_int) sm_nil)) sm_non)))
      ((sm_ret sm_bl))
      sm_next)
    (sm_seq (sm_ifS (sm_and (sm_test (sm_op smr_eq (sm_call (sm_cons (sm_op smr_ix sm_var sm_int) sm_nil)) sm_var)) (sm_test (sm_op smr_ni sm_str sm_var)))
      ((sm_ret sm_bl))
      sm_next)
    (sm_seq (sm_asg (sm_op smr_add (sm_op smr_add (sm_sl sm_var sm_noPart (sm_part sm_var)) sm_str) (sm_sl sm_var (sm_part (sm_op smr_add sm_var sm_int)) sm_noPart)) sm_gname)
    ((sm_ret (sm_orV (sm_op smr_eq sm_var sm_var) (sm_op smr_ne (sm_call (sm_cons sm_var sm_nil)) sm_var))))))))))))))) body_law h
theorem all_mk {l : PySem.W.OpenLaw} {w : World} {K : PySem.W.Frag} {h : Heap} {mg : Str → Option Value} {fa f1 f2 f3 f4 f5 f6 f7 f8 f9 f10 f11 f12 f13 f14 f15 f16 f17 f18 f19 f20 f21 f22 f23 f24 f25 f26 f27 f28 f29 f30 d_DEEDS u_DEEDS_0 u_DEEDS_1 u_DEEDS_2 u_DEEDS_3 u_DEEDS_4 u_DEEDS_5 u_DEEDS_6 u_DEEDS_7 u_DEEDS_8 u_DEEDS_9 u_DEEDS_10 u_DEEDS_11 d_ESCAPES d_FORMS d_ON_DEVICES u_ON_DEVICES_0 u_ON_DEVICES_1 u_ON_DEVICES_2 u_ON_DEVICES_3 u_ON_DEVICES_4 d_ON_LETTERS u_ON_LETTERS_0 u_ON_LETTERS_1 u_ON_LETTERS_2 d_WISHES u_WISHES_0 u_WISHES_1 u_WISHES_2 u_WISHES_3 u_WISHES_4 : Addr} (X : K.In h) (G : h.Ns mainGlobals mg) (hfa : mg "law" = some (.ref fa)) {t1 t2 t3 t4 t5 : Tok}
    {od1 an1 od2 an2 od3 an3 od4 an4 od5 an5 od6 an6 od7 an7 od8 an8 od9 an9 od10 an10 od11 an11 od12 an12 od13 an13 od14 an14 od15 an15 od16 an16 od17 an17 od18 an18 od19 an19 od20 an20 od21 an21 od22 an22 od23 an23 od24 an24 od25 an25 od26 an26 od27 an27 od28 an28 od29 an29 od30 an30 : Option Addr} {sl1 sl2 sl3 sl4 sl5 sl6 sl7 sl8 sl9 sl10 sl11 sl12 sl13 sl14 sl15 sl16 sl17 sl18 sl19 sl20 sl21 sl22 sl23 sl24 sl25 sl26 sl27 sl28 sl29 sl30 : Array (Option Value)} {oc1 kV1 dc1 pm1 cd1 ct1 oc2 kV2 dc2 pm2 cd2 ct2 oc3 kV3 dc3 pm3 cd3 ct3 oc4 kV4 dc4 pm4 cd4 ct4 oc5 kV5 dc5 pm5 cd5 ct5 oc6 kV6 dc6 pm6 cd6 ct6 oc7 kV7 dc7 pm7 cd7 ct7 oc8 kV8 dc8 pm8 cd8 ct8 oc9 kV9 dc9 pm9 cd9 ct9 oc10 kV10 dc10 pm10 cd10 ct10 oc11 kV11 dc11 pm11 cd11 ct11 oc12 kV12 dc12 pm12 cd12 ct12 oc13 kV13 dc13 pm13 cd13 ct13 oc14 kV14 dc14 pm14 cd14 ct14 oc15 kV15 dc15 pm15 cd15 ct15 oc16 kV16 dc16 pm16 cd16 ct16 oc17 kV17 dc17 pm17 cd17 ct17 oc18 kV18 dc18 pm18 cd18 ct18 oc19 kV19 dc19 pm19 cd19 ct19 oc20 kV20 dc20 pm20 cd20 ct20 oc21 kV21 dc21 pm21 cd21 ct21 oc22 kV22 dc22 pm22 cd22 ct22 oc23 kV23 dc23 pm23 cd23 ct23 oc24 kV24 dc24 pm24 cd24 ct24 oc25 kV25 dc25 pm25 cd25 ct25 oc26 kV26 dc26 pm26 cd26 ct26 oc27 kV27 dc27 pm27 cd27 ct27 oc28 kV28 dc28 pm28 cd28 ct28 oc29 kV29 dc29 pm29 cd29 ct29 oc30 kV30 dc30 pm30 cd30 ct30 : Value}
    (a1 : PySem.W.nsIn K mainGlobals "is_name" = some (some (.ref f1))) (l1 : K.lookup f1 = some ⟨oc1, od1, .func (PySem.W.fnOf "is_name" "is_name" (defArgs s_is_name) (defBody s_is_name) (defScope s_is_name) .none kV1 dc1 pm1 an1 cd1 ct1), sl1⟩) (c1 : PySem.W.codeIn K cd1 "is_name" = true) (k1 : PySem.W.keepIn K (.ref f1) = true)
    (a2 : PySem.W.nsIn K mainGlobals "read_path" = some (some (.ref f2))) (l2 : K.lookup f2 = some ⟨oc2, od2, .func (PySem.W.fnOf "read_path" "read_path" (defArgs s_read_path) (defBody s_read_path) (defScope s_read_path) .none kV2 dc2 pm2 an2 cd2 ct2), sl2⟩) (c2 : PySem.W.codeIn K cd2 "read_path" = true) (k2 : PySem.W.keepIn K (.ref f2) = true)
    (a3 : PySem.W.nsIn K mainGlobals "plain_number" = some (some (.ref f3))) (l3 : K.lookup f3 = some ⟨oc3, od3, .func (PySem.W.fnOf "plain_number" "plain_number" (defArgs s_plain_number) (defBody s_plain_number) (defScope s_plain_number) .none kV3 dc3 pm3 an3 cd3 ct3), sl3⟩) (c3 : PySem.W.codeIn K cd3 "plain_number" = true) (k3 : PySem.W.keepIn K (.ref f3) = true)
    (a4 : PySem.W.nsIn K mainGlobals "parts_of" = some (some (.ref f4))) (l4 : K.lookup f4 = some ⟨oc4, od4, .func (PySem.W.fnOf "parts_of" "parts_of" (defArgs s_parts_of) (defBody s_parts_of) (defScope s_parts_of) .none kV4 dc4 pm4 an4 cd4 ct4), sl4⟩) (c4 : PySem.W.codeIn K cd4 "parts_of" = true) (k4 : PySem.W.keepIn K (.ref f4) = true)
    (a5 : PySem.W.nsIn K mainGlobals "part_at" = some (some (.ref f5))) (l5 : K.lookup f5 = some ⟨oc5, od5, .func (PySem.W.fnOf "part_at" "part_at" (defArgs s_part_at) (defBody s_part_at) (defScope s_part_at) .none kV5 dc5 pm5 an5 cd5 ct5), sl5⟩) (c5 : PySem.W.codeIn K cd5 "part_at" = true) (k5 : PySem.W.keepIn K (.ref f5) = true)
    (a6 : PySem.W.nsIn K mainGlobals "number_of" = some (some (.ref f6))) (l6 : K.lookup f6 = some ⟨oc6, od6, .func (PySem.W.fnOf "number_of" "number_of" (defArgs s_number_of) (defBody s_number_of) (defScope s_number_of) .none kV6 dc6 pm6 an6 cd6 ct6), sl6⟩) (c6 : PySem.W.codeIn K cd6 "number_of" = true) (k6 : PySem.W.keepIn K (.ref f6) = true)
    (a7 : PySem.W.nsIn K mainGlobals "quoted_at" = some (some (.ref f7))) (l7 : K.lookup f7 = some ⟨oc7, od7, .func (PySem.W.fnOf "quoted_at" "quoted_at" (defArgs s_quoted_at) (defBody s_quoted_at) (defScope s_quoted_at) .none kV7 dc7 pm7 an7 cd7 ct7), sl7⟩) (c7 : PySem.W.codeIn K cd7 "quoted_at" = true) (k7 : PySem.W.keepIn K (.ref f7) = true)
    (a8 : PySem.W.nsIn K mainGlobals "form_number" = some (some (.ref f8))) (l8 : K.lookup f8 = some ⟨oc8, od8, .func (PySem.W.fnOf "form_number" "form_number" (defArgs s_form_number) (defBody s_form_number) (defScope s_form_number) .none kV8 dc8 pm8 an8 cd8 ct8), sl8⟩) (c8 : PySem.W.codeIn K cd8 "form_number" = true) (k8 : PySem.W.keepIn K (.ref f8) = true)
    (a9 : PySem.W.nsIn K mainGlobals "form_text" = some (some (.ref f9))) (l9 : K.lookup f9 = some ⟨oc9, od9, .func (PySem.W.fnOf "form_text" "form_text" (defArgs s_form_text) (defBody s_form_text) (defScope s_form_text) .none kV9 dc9 pm9 an9 cd9 ct9), sl9⟩) (c9 : PySem.W.codeIn K cd9 "form_text" = true) (k9 : PySem.W.keepIn K (.ref f9) = true)
    (a10 : PySem.W.nsIn K mainGlobals "form_path" = some (some (.ref f10))) (l10 : K.lookup f10 = some ⟨oc10, od10, .func (PySem.W.fnOf "form_path" "form_path" (defArgs s_form_path) (defBody s_form_path) (defScope s_form_path) .none kV10 dc10 pm10 an10 cd10 ct10), sl10⟩) (c10 : PySem.W.codeIn K cd10 "form_path" = true) (k10 : PySem.W.keepIn K (.ref f10) = true)
    (a11 : PySem.W.nsIn K mainGlobals "form_runs" = some (some (.ref f11))) (l11 : K.lookup f11 = some ⟨oc11, od11, .func (PySem.W.fnOf "form_runs" "form_runs" (defArgs s_form_runs) (defBody s_form_runs) (defScope s_form_runs) .none kV11 dc11 pm11 an11 cd11 ct11), sl11⟩) (c11 : PySem.W.codeIn K cd11 "form_runs" = true) (k11 : PySem.W.keepIn K (.ref f11) = true)
    (a12 : PySem.W.nsIn K mainGlobals "form_spot" = some (some (.ref f12))) (l12 : K.lookup f12 = some ⟨oc12, od12, .func (PySem.W.fnOf "form_spot" "form_spot" (defArgs s_form_spot) (defBody s_form_spot) (defScope s_form_spot) .none kV12 dc12 pm12 an12 cd12 ct12), sl12⟩) (c12 : PySem.W.codeIn K cd12 "form_spot" = true) (k12 : PySem.W.keepIn K (.ref f12) = true)
    (a13 : PySem.W.nsIn K mainGlobals "form_target" = some (some (.ref f13))) (l13 : K.lookup f13 = some ⟨oc13, od13, .func (PySem.W.fnOf "form_target" "form_target" (defArgs s_form_target) (defBody s_form_target) (defScope s_form_target) .none kV13 dc13 pm13 an13 cd13 ct13), sl13⟩) (c13 : PySem.W.codeIn K cd13 "form_target" = true) (k13 : PySem.W.keepIn K (.ref f13) = true)
    (a14 : PySem.W.nsIn K mainGlobals "read_forms" = some (some (.ref f14))) (l14 : K.lookup f14 = some ⟨oc14, od14, .func (PySem.W.fnOf "read_forms" "read_forms" (defArgs s_read_forms) (defBody s_read_forms) (defScope s_read_forms) .none kV14 dc14 pm14 an14 cd14 ct14), sl14⟩) (c14 : PySem.W.codeIn K cd14 "read_forms" = true) (k14 : PySem.W.keepIn K (.ref f14) = true)
    (a15 : PySem.W.nsIn K mainGlobals "first_word" = some (some (.ref f15))) (l15 : K.lookup f15 = some ⟨oc15, od15, .func (PySem.W.fnOf "first_word" "first_word" (defArgs s_first_word) (defBody s_first_word) (defScope s_first_word) .none kV15 dc15 pm15 an15 cd15 ct15), sl15⟩) (c15 : PySem.W.codeIn K cd15 "first_word" = true) (k15 : PySem.W.keepIn K (.ref f15) = true)
    (a16 : PySem.W.nsIn K mainGlobals "read_behind_word" = some (some (.ref f16))) (l16 : K.lookup f16 = some ⟨oc16, od16, .func (PySem.W.fnOf "read_behind_word" "read_behind_word" (defArgs s_read_behind_word) (defBody s_read_behind_word) (defScope s_read_behind_word) .none kV16 dc16 pm16 an16 cd16 ct16), sl16⟩) (c16 : PySem.W.codeIn K cd16 "read_behind_word" = true) (k16 : PySem.W.keepIn K (.ref f16) = true)
    (a17 : PySem.W.nsIn K mainGlobals "read_on_device" = some (some (.ref f17))) (l17 : K.lookup f17 = some ⟨oc17, od17, .func (PySem.W.fnOf "read_on_device" "read_on_device" (defArgs s_read_on_device) (defBody s_read_on_device) (defScope s_read_on_device) .none kV17 dc17 pm17 an17 cd17 ct17), sl17⟩) (c17 : PySem.W.codeIn K cd17 "read_on_device" = true) (k17 : PySem.W.keepIn K (.ref f17) = true)
    (a18 : PySem.W.nsIn K mainGlobals "read_event" = some (some (.ref f18))) (l18 : K.lookup f18 = some ⟨oc18, od18, .func (PySem.W.fnOf "read_event" "read_event" (defArgs s_read_event) (defBody s_read_event) (defScope s_read_event) .none kV18 dc18 pm18 an18 cd18 ct18), sl18⟩) (c18 : PySem.W.codeIn K cd18 "read_event" = true) (k18 : PySem.W.keepIn K (.ref f18) = true)
    (a19 : PySem.W.nsIn K mainGlobals "_law_cells" = some (some (.ref f19))) (l19 : K.lookup f19 = some ⟨oc19, od19, .func (PySem.W.fnOf "_law_cells" "_law_cells" (defArgs s_law_cells) (defBody s_law_cells) (defScope s_law_cells) .none kV19 dc19 pm19 an19 cd19 ct19), sl19⟩) (c19 : PySem.W.codeIn K cd19 "_law_cells" = true) (k19 : PySem.W.keepIn K (.ref f19) = true)
    (a20 : PySem.W.nsIn K mainGlobals "_law_quoted" = some (some (.ref f20))) (l20 : K.lookup f20 = some ⟨oc20, od20, .func (PySem.W.fnOf "_law_quoted" "_law_quoted" (defArgs s_law_quoted) (defBody s_law_quoted) (defScope s_law_quoted) .none kV20 dc20 pm20 an20 cd20 ct20), sl20⟩) (c20 : PySem.W.codeIn K cd20 "_law_quoted" = true) (k20 : PySem.W.keepIn K (.ref f20) = true)
    (a21 : PySem.W.nsIn K mainGlobals "_law_text" = some (some (.ref f21))) (l21 : K.lookup f21 = some ⟨oc21, od21, .func (PySem.W.fnOf "_law_text" "_law_text" (defArgs s_law_text) (defBody s_law_text) (defScope s_law_text) .none kV21 dc21 pm21 an21 cd21 ct21), sl21⟩) (c21 : PySem.W.codeIn K cd21 "_law_text" = true) (k21 : PySem.W.keepIn K (.ref f21) = true)
    (a22 : PySem.W.nsIn K mainGlobals "_law_path" = some (some (.ref f22))) (l22 : K.lookup f22 = some ⟨oc22, od22, .func (PySem.W.fnOf "_law_path" "_law_path" (defArgs s_law_path) (defBody s_law_path) (defScope s_law_path) .none kV22 dc22 pm22 an22 cd22 ct22), sl22⟩) (c22 : PySem.W.codeIn K cd22 "_law_path" = true) (k22 : PySem.W.keepIn K (.ref f22) = true)
    (a23 : PySem.W.nsIn K mainGlobals "_law_number" = some (some (.ref f23))) (l23 : K.lookup f23 = some ⟨oc23, od23, .func (PySem.W.fnOf "_law_number" "_law_number" (defArgs s_law_number) (defBody s_law_number) (defScope s_law_number) .none kV23 dc23 pm23 an23 cd23 ct23), sl23⟩) (c23 : PySem.W.codeIn K cd23 "_law_number" = true) (k23 : PySem.W.keepIn K (.ref f23) = true)
    (a24 : PySem.W.nsIn K mainGlobals "_law_spot" = some (some (.ref f24))) (l24 : K.lookup f24 = some ⟨oc24, od24, .func (PySem.W.fnOf "_law_spot" "_law_spot" (defArgs s_law_spot) (defBody s_law_spot) (defScope s_law_spot) .none kV24 dc24 pm24 an24 cd24 ct24), sl24⟩) (c24 : PySem.W.codeIn K cd24 "_law_spot" = true) (k24 : PySem.W.keepIn K (.ref f24) = true)
    (a25 : PySem.W.nsIn K mainGlobals "_law_target" = some (some (.ref f25))) (l25 : K.lookup f25 = some ⟨oc25, od25, .func (PySem.W.fnOf "_law_target" "_law_target" (defArgs s_law_target) (defBody s_law_target) (defScope s_law_target) .none kV25 dc25 pm25 an25 cd25 ct25), sl25⟩) (c25 : PySem.W.codeIn K cd25 "_law_target" = true) (k25 : PySem.W.keepIn K (.ref f25) = true)
    (a26 : PySem.W.nsIn K mainGlobals "_law_runs" = some (some (.ref f26))) (l26 : K.lookup f26 = some ⟨oc26, od26, .func (PySem.W.fnOf "_law_runs" "_law_runs" (defArgs s_law_runs) (defBody s_law_runs) (defScope s_law_runs) .none kV26 dc26 pm26 an26 cd26 ct26), sl26⟩) (c26 : PySem.W.codeIn K cd26 "_law_runs" = true) (k26 : PySem.W.keepIn K (.ref f26) = true)
    (a27 : PySem.W.nsIn K mainGlobals "_law_deed" = some (some (.ref f27))) (l27 : K.lookup f27 = some ⟨oc27, od27, .func (PySem.W.fnOf "_law_deed" "_law_deed" (defArgs s_law_deed) (defBody s_law_deed) (defScope s_law_deed) .none kV27 dc27 pm27 an27 cd27 ct27), sl27⟩) (c27 : PySem.W.codeIn K cd27 "_law_deed" = true) (k27 : PySem.W.keepIn K (.ref f27) = true)
    (a28 : PySem.W.nsIn K mainGlobals "_law_wish" = some (some (.ref f28))) (l28 : K.lookup f28 = some ⟨oc28, od28, .func (PySem.W.fnOf "_law_wish" "_law_wish" (defArgs s_law_wish) (defBody s_law_wish) (defScope s_law_wish) .none kV28 dc28 pm28 an28 cd28 ct28), sl28⟩) (c28 : PySem.W.codeIn K cd28 "_law_wish" = true) (k28 : PySem.W.keepIn K (.ref f28) = true)
    (a29 : PySem.W.nsIn K mainGlobals "_law_event" = some (some (.ref f29))) (l29 : K.lookup f29 = some ⟨oc29, od29, .func (PySem.W.fnOf "_law_event" "_law_event" (defArgs s_law_event) (defBody s_law_event) (defScope s_law_event) .none kV29 dc29 pm29 an29 cd29 ct29), sl29⟩) (c29 : PySem.W.codeIn K cd29 "_law_event" = true) (k29 : PySem.W.keepIn K (.ref f29) = true)
    (a30 : PySem.W.nsIn K mainGlobals "law" = some (some (.ref f30))) (l30 : K.lookup f30 = some ⟨oc30, od30, .func (PySem.W.fnOf "law" "law" (defArgs s_law) (defBody s_law) (defScope s_law) .none kV30 dc30 pm30 an30 cd30 ct30), sl30⟩) (c30 : PySem.W.codeIn K cd30 "law" = true) (k30 : PySem.W.keepIn K (.ref f30) = true)
    {h_DEEDS_0 : Int} {tt_DEEDS_0 : Tok} {od_DEEDS_0 : Option Addr} {n_DEEDS_0 : Nat} {sl_DEEDS_0 : Array (Option Value)} {tw_DEEDS_0_0 tw_DEEDS_0_1 tw_DEEDS_0_2 : Tok} {h_DEEDS_1 : Int} {tt_DEEDS_1 : Tok} {od_DEEDS_1 : Option Addr} {n_DEEDS_1 : Nat} {sl_DEEDS_1 : Array (Option Value)} {tw_DEEDS_1_0 : Tok} {h_DEEDS_2 : Int} {tt_DEEDS_2 : Tok} {od_DEEDS_2 : Option Addr} {n_DEEDS_2 : Nat} {sl_DEEDS_2 : Array (Option Value)} {tw_DEEDS_2_0 : Tok} {h_DEEDS_3 : Int} {tt_DEEDS_3 : Tok} {od_DEEDS_3 : Option Addr} {n_DEEDS_3 : Nat} {sl_DEEDS_3 : Array (Option Value)} {tw_DEEDS_3_0 : Tok} {h_DEEDS_4 : Int} {tt_DEEDS_4 : Tok} {od_DEEDS_4 : Option Addr} {n_DEEDS_4 : Nat} {sl_DEEDS_4 : Array (Option Value)} {tw_DEEDS_4_0 : Tok} {h_DEEDS_5 : Int} {tt_DEEDS_5 : Tok} {od_DEEDS_5 : Option Addr} {n_DEEDS_5 : Nat} {sl_DEEDS_5 : Array (Option Value)} {tw_DEEDS_5_0 tw_DEEDS_5_1 : Tok} {h_DEEDS_6 : Int} {tt_DEEDS_6 : Tok} {od_DEEDS_6 : Option Addr} {n_DEEDS_6 : Nat} {sl_DEEDS_6 : Array (Option Value)} {tw_DEEDS_6_0 : Tok} {h_DEEDS_7 : Int} {tt_DEEDS_7 : Tok} {od_DEEDS_7 : Option Addr} {n_DEEDS_7 : Nat} {sl_DEEDS_7 : Array (Option Value)} {tw_DEEDS_7_0 tw_DEEDS_7_1 tw_DEEDS_7_2 : Tok} {h_DEEDS_8 : Int} {tt_DEEDS_8 : Tok} {od_DEEDS_8 : Option Addr} {n_DEEDS_8 : Nat} {sl_DEEDS_8 : Array (Option Value)} {tw_DEEDS_8_0 tw_DEEDS_8_1 : Tok} {h_DEEDS_9 : Int} {tt_DEEDS_9 : Tok} {od_DEEDS_9 : Option Addr} {n_DEEDS_9 : Nat} {sl_DEEDS_9 : Array (Option Value)} {tw_DEEDS_9_0 : Tok} {h_DEEDS_10 : Int} {tt_DEEDS_10 : Tok} {od_DEEDS_10 : Option Addr} {n_DEEDS_10 : Nat} {sl_DEEDS_10 : Array (Option Value)} {tw_DEEDS_10_0 : Tok} {h_DEEDS_11 : Int} {tt_DEEDS_11 : Tok} {od_DEEDS_11 : Option Addr} {n_DEEDS_11 : Nat} {sl_DEEDS_11 : Array (Option Value)} {tw_DEEDS_11_0 : Tok} {nn_DEEDS : Nat} {tv_ESCAPES_0 : Tok} {h_ESCAPES_0 : Int} {tt_ESCAPES_0 : Tok} {tv_ESCAPES_1 : Tok} {h_ESCAPES_1 : Int} {tt_ESCAPES_1 : Tok} {tv_ESCAPES_2 : Tok} {h_ESCAPES_2 : Int} {tt_ESCAPES_2 : Tok} {nn_ESCAPES : Nat} {h_FORMS_0 : Int} {tt_FORMS_0 : Tok} {h_FORMS_1 : Int} {tt_FORMS_1 : Tok} {h_FORMS_2 : Int} {tt_FORMS_2 : Tok} {h_FORMS_3 : Int} {tt_FORMS_3 : Tok} {h_FORMS_4 : Int} {tt_FORMS_4 : Tok} {h_FORMS_5 : Int} {tt_FORMS_5 : Tok} {nn_FORMS : Nat} {h_ON_DEVICES_0 : Int} {tt_ON_DEVICES_0 : Tok} {od_ON_DEVICES_0 : Option Addr} {n_ON_DEVICES_0 : Nat} {sl_ON_DEVICES_0 : Array (Option Value)} {h_ON_DEVICES_1 : Int} {tt_ON_DEVICES_1 : Tok} {od_ON_DEVICES_1 : Option Addr} {n_ON_DEVICES_1 : Nat} {sl_ON_DEVICES_1 : Array (Option Value)} {h_ON_DEVICES_2 : Int} {tt_ON_DEVICES_2 : Tok} {od_ON_DEVICES_2 : Option Addr} {n_ON_DEVICES_2 : Nat} {sl_ON_DEVICES_2 : Array (Option Value)} {h_ON_DEVICES_3 : Int} {tt_ON_DEVICES_3 : Tok} {od_ON_DEVICES_3 : Option Addr} {n_ON_DEVICES_3 : Nat} {sl_ON_DEVICES_3 : Array (Option Value)} {h_ON_DEVICES_4 : Int} {tt_ON_DEVICES_4 : Tok} {od_ON_DEVICES_4 : Option Addr} {n_ON_DEVICES_4 : Nat} {sl_ON_DEVICES_4 : Array (Option Value)} {tw_ON_DEVICES_4_0 : Tok} {nn_ON_DEVICES : Nat} {h_ON_LETTERS_0 : Int} {tt_ON_LETTERS_0 : Tok} {od_ON_LETTERS_0 : Option Addr} {n_ON_LETTERS_0 : Nat} {sl_ON_LETTERS_0 : Array (Option Value)} {tw_ON_LETTERS_0_0 : Tok} {h_ON_LETTERS_1 : Int} {tt_ON_LETTERS_1 : Tok} {od_ON_LETTERS_1 : Option Addr} {n_ON_LETTERS_1 : Nat} {sl_ON_LETTERS_1 : Array (Option Value)} {tw_ON_LETTERS_1_0 : Tok} {h_ON_LETTERS_2 : Int} {tt_ON_LETTERS_2 : Tok} {od_ON_LETTERS_2 : Option Addr} {n_ON_LETTERS_2 : Nat} {sl_ON_LETTERS_2 : Array (Option Value)} {tw_ON_LETTERS_2_0 : Tok} {nn_ON_LETTERS : Nat} {h_WISHES_0 : Int} {tt_WISHES_0 : Tok} {od_WISHES_0 : Option Addr} {n_WISHES_0 : Nat} {sl_WISHES_0 : Array (Option Value)} {h_WISHES_1 : Int} {tt_WISHES_1 : Tok} {od_WISHES_1 : Option Addr} {n_WISHES_1 : Nat} {sl_WISHES_1 : Array (Option Value)} {tw_WISHES_1_0 tw_WISHES_1_1 : Tok} {h_WISHES_2 : Int} {tt_WISHES_2 : Tok} {od_WISHES_2 : Option Addr} {n_WISHES_2 : Nat} {sl_WISHES_2 : Array (Option Value)} {tw_WISHES_2_0 : Tok} {h_WISHES_3 : Int} {tt_WISHES_3 : Tok} {od_WISHES_3 : Option Addr} {n_WISHES_3 : Nat} {sl_WISHES_3 : Array (Option Value)} {tw_WISHES_3_0 : Tok} {h_WISHES_4 : Int} {tt_WISHES_4 : Tok} {od_WISHES_4 : Option Addr} {n_WISHES_4 : Nat} {sl_WISHES_4 : Array (Option Value)} {tw_WISHES_4_0 tw_WISHES_4_1 : Tok} {nn_WISHES : Nat} (aT_DEEDS : PySem.W.nsIn K mainGlobals "DEEDS" = some (some (.ref d_DEEDS))) (lT_DEEDS : K.lookup d_DEEDS = some ⟨.type "dict", none, .dict #[⟨h_DEEDS_0, .str (Str.ofString "make") tt_DEEDS_0, .ref u_DEEDS_0⟩, ⟨h_DEEDS_1, .str (Str.ofString "make_folder") tt_DEEDS_1, .ref u_DEEDS_1⟩, ⟨h_DEEDS_2, .str (Str.ofString "make_other") tt_DEEDS_2, .ref u_DEEDS_2⟩, ⟨h_DEEDS_3, .str (Str.ofString "remove") tt_DEEDS_3, .ref u_DEEDS_3⟩, ⟨h_DEEDS_4, .str (Str.ofString "remove_folder") tt_DEEDS_4, .ref u_DEEDS_4⟩, ⟨h_DEEDS_5, .str (Str.ofString "rename") tt_DEEDS_5, .ref u_DEEDS_5⟩, ⟨h_DEEDS_6, .str (Str.ofString "cut") tt_DEEDS_6, .ref u_DEEDS_6⟩, ⟨h_DEEDS_7, .str (Str.ofString "write") tt_DEEDS_7, .ref u_DEEDS_7⟩, ⟨h_DEEDS_8, .str (Str.ofString "set_runs") tt_DEEDS_8, .ref u_DEEDS_8⟩, ⟨h_DEEDS_9, .str (Str.ofString "read") tt_DEEDS_9, .ref u_DEEDS_9⟩, ⟨h_DEEDS_10, .str (Str.ofString "open") tt_DEEDS_10, .ref u_DEEDS_10⟩, ⟨h_DEEDS_11, .str (Str.ofString "close") tt_DEEDS_11, .ref u_DEEDS_11⟩] nn_DEEDS, #[]⟩) (lU_DEEDS_0 : K.lookup u_DEEDS_0 = some ⟨.type "tuple", od_DEEDS_0, .seq #[.str (Str.ofString "spot") tw_DEEDS_0_0, .str (Str.ofString "text") tw_DEEDS_0_1, .str (Str.ofString "runs") tw_DEEDS_0_2] n_DEEDS_0, sl_DEEDS_0⟩) (lU_DEEDS_1 : K.lookup u_DEEDS_1 = some ⟨.type "tuple", od_DEEDS_1, .seq #[.str (Str.ofString "spot") tw_DEEDS_1_0] n_DEEDS_1, sl_DEEDS_1⟩) (lU_DEEDS_2 : K.lookup u_DEEDS_2 = some ⟨.type "tuple", od_DEEDS_2, .seq #[.str (Str.ofString "spot") tw_DEEDS_2_0] n_DEEDS_2, sl_DEEDS_2⟩) (lU_DEEDS_3 : K.lookup u_DEEDS_3 = some ⟨.type "tuple", od_DEEDS_3, .seq #[.str (Str.ofString "spot") tw_DEEDS_3_0] n_DEEDS_3, sl_DEEDS_3⟩) (lU_DEEDS_4 : K.lookup u_DEEDS_4 = some ⟨.type "tuple", od_DEEDS_4, .seq #[.str (Str.ofString "spot") tw_DEEDS_4_0] n_DEEDS_4, sl_DEEDS_4⟩) (lU_DEEDS_5 : K.lookup u_DEEDS_5 = some ⟨.type "tuple", od_DEEDS_5, .seq #[.str (Str.ofString "spot") tw_DEEDS_5_0, .str (Str.ofString "spot") tw_DEEDS_5_1] n_DEEDS_5, sl_DEEDS_5⟩) (lU_DEEDS_6 : K.lookup u_DEEDS_6 = some ⟨.type "tuple", od_DEEDS_6, .seq #[.str (Str.ofString "target") tw_DEEDS_6_0] n_DEEDS_6, sl_DEEDS_6⟩) (lU_DEEDS_7 : K.lookup u_DEEDS_7 = some ⟨.type "tuple", od_DEEDS_7, .seq #[.str (Str.ofString "target") tw_DEEDS_7_0, .str (Str.ofString "number") tw_DEEDS_7_1, .str (Str.ofString "text") tw_DEEDS_7_2] n_DEEDS_7, sl_DEEDS_7⟩) (lU_DEEDS_8 : K.lookup u_DEEDS_8 = some ⟨.type "tuple", od_DEEDS_8, .seq #[.str (Str.ofString "target") tw_DEEDS_8_0, .str (Str.ofString "runs") tw_DEEDS_8_1] n_DEEDS_8, sl_DEEDS_8⟩) (lU_DEEDS_9 : K.lookup u_DEEDS_9 = some ⟨.type "tuple", od_DEEDS_9, .seq #[.str (Str.ofString "target") tw_DEEDS_9_0] n_DEEDS_9, sl_DEEDS_9⟩) (lU_DEEDS_10 : K.lookup u_DEEDS_10 = some ⟨.type "tuple", od_DEEDS_10, .seq #[.str (Str.ofString "spot") tw_DEEDS_10_0] n_DEEDS_10, sl_DEEDS_10⟩) (lU_DEEDS_11 : K.lookup u_DEEDS_11 = some ⟨.type "tuple", od_DEEDS_11, .seq #[.str (Str.ofString "number") tw_DEEDS_11_0] n_DEEDS_11, sl_DEEDS_11⟩) (hT_DEEDS_0 : h_DEEDS_0 = PyData.keyHash w.params (Str.ofString "make")) (hT_DEEDS_1 : h_DEEDS_1 = PyData.keyHash w.params (Str.ofString "make_folder")) (hT_DEEDS_2 : h_DEEDS_2 = PyData.keyHash w.params (Str.ofString "make_other")) (hT_DEEDS_3 : h_DEEDS_3 = PyData.keyHash w.params (Str.ofString "remove")) (hT_DEEDS_4 : h_DEEDS_4 = PyData.keyHash w.params (Str.ofString "remove_folder")) (hT_DEEDS_5 : h_DEEDS_5 = PyData.keyHash w.params (Str.ofString "rename")) (hT_DEEDS_6 : h_DEEDS_6 = PyData.keyHash w.params (Str.ofString "cut")) (hT_DEEDS_7 : h_DEEDS_7 = PyData.keyHash w.params (Str.ofString "write")) (hT_DEEDS_8 : h_DEEDS_8 = PyData.keyHash w.params (Str.ofString "set_runs")) (hT_DEEDS_9 : h_DEEDS_9 = PyData.keyHash w.params (Str.ofString "read")) (hT_DEEDS_10 : h_DEEDS_10 = PyData.keyHash w.params (Str.ofString "open")) (hT_DEEDS_11 : h_DEEDS_11 = PyData.keyHash w.params (Str.ofString "close")) (sT_DEEDS : (d_DEEDS == sysModules) = false) (aT_ESCAPES : PySem.W.nsIn K mainGlobals "ESCAPES" = some (some (.ref d_ESCAPES))) (lT_ESCAPES : K.lookup d_ESCAPES = some ⟨.type "dict", none, .dict #[⟨h_ESCAPES_0, .str (Str.ofString "\"") tt_ESCAPES_0, .str (Str.ofString "\"") tv_ESCAPES_0⟩, ⟨h_ESCAPES_1, .str (Str.ofString "\\") tt_ESCAPES_1, .str (Str.ofString "\\") tv_ESCAPES_1⟩, ⟨h_ESCAPES_2, .str (Str.ofString "n") tt_ESCAPES_2, .str (Str.ofString "\n") tv_ESCAPES_2⟩] nn_ESCAPES, #[]⟩) (hT_ESCAPES_0 : h_ESCAPES_0 = PyData.keyHash w.params (Str.ofString "\"")) (hT_ESCAPES_1 : h_ESCAPES_1 = PyData.keyHash w.params (Str.ofString "\\")) (hT_ESCAPES_2 : h_ESCAPES_2 = PyData.keyHash w.params (Str.ofString "n")) (sT_ESCAPES : (d_ESCAPES == sysModules) = false) (aT_FORMS : PySem.W.nsIn K mainGlobals "FORMS" = some (some (.ref d_FORMS))) (lT_FORMS : K.lookup d_FORMS = some ⟨.type "dict", none, .dict #[⟨h_FORMS_0, .str (Str.ofString "number") tt_FORMS_0, .ref f8⟩, ⟨h_FORMS_1, .str (Str.ofString "text") tt_FORMS_1, .ref f9⟩, ⟨h_FORMS_2, .str (Str.ofString "path") tt_FORMS_2, .ref f10⟩, ⟨h_FORMS_3, .str (Str.ofString "runs") tt_FORMS_3, .ref f11⟩, ⟨h_FORMS_4, .str (Str.ofString "spot") tt_FORMS_4, .ref f12⟩, ⟨h_FORMS_5, .str (Str.ofString "target") tt_FORMS_5, .ref f13⟩] nn_FORMS, #[]⟩) (hT_FORMS_0 : h_FORMS_0 = PyData.keyHash w.params (Str.ofString "number")) (hT_FORMS_1 : h_FORMS_1 = PyData.keyHash w.params (Str.ofString "text")) (hT_FORMS_2 : h_FORMS_2 = PyData.keyHash w.params (Str.ofString "path")) (hT_FORMS_3 : h_FORMS_3 = PyData.keyHash w.params (Str.ofString "runs")) (hT_FORMS_4 : h_FORMS_4 = PyData.keyHash w.params (Str.ofString "spot")) (hT_FORMS_5 : h_FORMS_5 = PyData.keyHash w.params (Str.ofString "target")) (sT_FORMS : (d_FORMS == sysModules) = false) (aT_ON_DEVICES : PySem.W.nsIn K mainGlobals "ON_DEVICES" = some (some (.ref d_ON_DEVICES))) (lT_ON_DEVICES : K.lookup d_ON_DEVICES = some ⟨.type "dict", none, .dict #[⟨h_ON_DEVICES_0, .str (Str.ofString "step") tt_ON_DEVICES_0, .ref u_ON_DEVICES_0⟩, ⟨h_ON_DEVICES_1, .str (Str.ofString "refuse") tt_ON_DEVICES_1, .ref u_ON_DEVICES_1⟩, ⟨h_ON_DEVICES_2, .str (Str.ofString "unanswered") tt_ON_DEVICES_2, .ref u_ON_DEVICES_2⟩, ⟨h_ON_DEVICES_3, .str (Str.ofString "crash") tt_ON_DEVICES_3, .ref u_ON_DEVICES_3⟩, ⟨h_ON_DEVICES_4, .str (Str.ofString "speak") tt_ON_DEVICES_4, .ref u_ON_DEVICES_4⟩] nn_ON_DEVICES, #[]⟩) (lU_ON_DEVICES_0 : K.lookup u_ON_DEVICES_0 = some ⟨.type "tuple", od_ON_DEVICES_0, .seq #[] n_ON_DEVICES_0, sl_ON_DEVICES_0⟩) (lU_ON_DEVICES_1 : K.lookup u_ON_DEVICES_1 = some ⟨.type "tuple", od_ON_DEVICES_1, .seq #[] n_ON_DEVICES_1, sl_ON_DEVICES_1⟩) (lU_ON_DEVICES_2 : K.lookup u_ON_DEVICES_2 = some ⟨.type "tuple", od_ON_DEVICES_2, .seq #[] n_ON_DEVICES_2, sl_ON_DEVICES_2⟩) (lU_ON_DEVICES_3 : K.lookup u_ON_DEVICES_3 = some ⟨.type "tuple", od_ON_DEVICES_3, .seq #[] n_ON_DEVICES_3, sl_ON_DEVICES_3⟩) (lU_ON_DEVICES_4 : K.lookup u_ON_DEVICES_4 = some ⟨.type "tuple", od_ON_DEVICES_4, .seq #[.str (Str.ofString "number") tw_ON_DEVICES_4_0] n_ON_DEVICES_4, sl_ON_DEVICES_4⟩) (hT_ON_DEVICES_0 : h_ON_DEVICES_0 = PyData.keyHash w.params (Str.ofString "step")) (hT_ON_DEVICES_1 : h_ON_DEVICES_1 = PyData.keyHash w.params (Str.ofString "refuse")) (hT_ON_DEVICES_2 : h_ON_DEVICES_2 = PyData.keyHash w.params (Str.ofString "unanswered")) (hT_ON_DEVICES_3 : h_ON_DEVICES_3 = PyData.keyHash w.params (Str.ofString "crash")) (hT_ON_DEVICES_4 : h_ON_DEVICES_4 = PyData.keyHash w.params (Str.ofString "speak")) (sT_ON_DEVICES : (d_ON_DEVICES == sysModules) = false) (aT_ON_LETTERS : PySem.W.nsIn K mainGlobals "ON_LETTERS" = some (some (.ref d_ON_LETTERS))) (lT_ON_LETTERS : K.lookup d_ON_LETTERS = some ⟨.type "dict", none, .dict #[⟨h_ON_LETTERS_0, .str (Str.ofString "deliver") tt_ON_LETTERS_0, .ref u_ON_LETTERS_0⟩, ⟨h_ON_LETTERS_1, .str (Str.ofString "lose") tt_ON_LETTERS_1, .ref u_ON_LETTERS_1⟩, ⟨h_ON_LETTERS_2, .str (Str.ofString "again") tt_ON_LETTERS_2, .ref u_ON_LETTERS_2⟩] nn_ON_LETTERS, #[]⟩) (lU_ON_LETTERS_0 : K.lookup u_ON_LETTERS_0 = some ⟨.type "tuple", od_ON_LETTERS_0, .seq #[.str (Str.ofString "number") tw_ON_LETTERS_0_0] n_ON_LETTERS_0, sl_ON_LETTERS_0⟩) (lU_ON_LETTERS_1 : K.lookup u_ON_LETTERS_1 = some ⟨.type "tuple", od_ON_LETTERS_1, .seq #[.str (Str.ofString "number") tw_ON_LETTERS_1_0] n_ON_LETTERS_1, sl_ON_LETTERS_1⟩) (lU_ON_LETTERS_2 : K.lookup u_ON_LETTERS_2 = some ⟨.type "tuple", od_ON_LETTERS_2, .seq #[.str (Str.ofString "number") tw_ON_LETTERS_2_0] n_ON_LETTERS_2, sl_ON_LETTERS_2⟩) (hT_ON_LETTERS_0 : h_ON_LETTERS_0 = PyData.keyHash w.params (Str.ofString "deliver")) (hT_ON_LETTERS_1 : h_ON_LETTERS_1 = PyData.keyHash w.params (Str.ofString "lose")) (hT_ON_LETTERS_2 : h_ON_LETTERS_2 = PyData.keyHash w.params (Str.ofString "again")) (sT_ON_LETTERS : (d_ON_LETTERS == sysModules) = false) (aT_WISHES : PySem.W.nsIn K mainGlobals "WISHES" = some (some (.ref d_WISHES))) (lT_WISHES : K.lookup d_WISHES = some ⟨.type "dict", none, .dict #[⟨h_WISHES_0, .str (Str.ofString "scan") tt_WISHES_0, .ref u_WISHES_0⟩, ⟨h_WISHES_1, .str (Str.ofString "put_away") tt_WISHES_1, .ref u_WISHES_1⟩, ⟨h_WISHES_2, .str (Str.ofString "fetch") tt_WISHES_2, .ref u_WISHES_2⟩, ⟨h_WISHES_3, .str (Str.ofString "trim") tt_WISHES_3, .ref u_WISHES_3⟩, ⟨h_WISHES_4, .str (Str.ofString "restore") tt_WISHES_4, .ref u_WISHES_4⟩] nn_WISHES, #[]⟩) (lU_WISHES_0 : K.lookup u_WISHES_0 = some ⟨.type "tuple", od_WISHES_0, .seq #[] n_WISHES_0, sl_WISHES_0⟩) (lU_WISHES_1 : K.lookup u_WISHES_1 = some ⟨.type "tuple", od_WISHES_1, .seq #[.str (Str.ofString "path") tw_WISHES_1_0, .str (Str.ofString "number") tw_WISHES_1_1] n_WISHES_1, sl_WISHES_1⟩) (lU_WISHES_2 : K.lookup u_WISHES_2 = some ⟨.type "tuple", od_WISHES_2, .seq #[.str (Str.ofString "path") tw_WISHES_2_0] n_WISHES_2, sl_WISHES_2⟩) (lU_WISHES_3 : K.lookup u_WISHES_3 = some ⟨.type "tuple", od_WISHES_3, .seq #[.str (Str.ofString "number") tw_WISHES_3_0] n_WISHES_3, sl_WISHES_3⟩) (lU_WISHES_4 : K.lookup u_WISHES_4 = some ⟨.type "tuple", od_WISHES_4, .seq #[.str (Str.ofString "number") tw_WISHES_4_0, .str (Str.ofString "path") tw_WISHES_4_1] n_WISHES_4, sl_WISHES_4⟩) (hT_WISHES_0 : h_WISHES_0 = PyData.keyHash w.params (Str.ofString "scan")) (hT_WISHES_1 : h_WISHES_1 = PyData.keyHash w.params (Str.ofString "put_away")) (hT_WISHES_2 : h_WISHES_2 = PyData.keyHash w.params (Str.ofString "fetch")) (hT_WISHES_3 : h_WISHES_3 = PyData.keyHash w.params (Str.ofString "trim")) (hT_WISHES_4 : h_WISHES_4 = PyData.keyHash w.params (Str.ofString "restore")) (sT_WISHES : (d_WISHES == sysModules) = false)
    (z1 : PySem.W.nsIn K mainGlobals "int" = some none) (z2 : PySem.W.nsIn K mainGlobals "len" = some none) (z3 : PySem.W.nsIn K mainGlobals "ord" = some none) (z4 : PySem.W.nsIn K mainGlobals "range" = some none) (z5 : PySem.W.nsIn K mainGlobals "str" = some none) (z6 : PySem.W.nsIn K mainGlobals "tuple" = some none) (g1 : PySem.W.nsIn K mainGlobals "DIGITS" = some (some (.str (Str.ofString "0123456789") t1))) (g2 : PySem.W.nsIn K mainGlobals "FIRST_SIGN" = some (some (.int 32 t2))) (g3 : PySem.W.nsIn K mainGlobals "MOST_DIGITS" = some (some (.int 10 t3))) (g4 : PySem.W.nsIn K mainGlobals "MOST_NUMBER" = some (some (.int 4294967295 t4))) (g5 : PySem.W.nsIn K mainGlobals "MOST_SIGNS" = some (some (.int 100 t5))) :
    ∃ fd : FuncData, (∀ (s : Shared) (v : Value), BindsTo s fd ⟨[v], []⟩ [("script", v)]) ∧ ∀ base : Heap, K.In base → base.Ns mainGlobals mg → FnOk l.prog w K mg base CX0 10 fa fd ["script"] (spLawT [] K) := by
  have e := hfa.symm.trans (PySem.W.mg_of X G a30)
  cases e
  have T : Txt K ({ w := w, f := fun _ => 0 } : Cl) mg := ⟨PySem.W.mg_none_of X G z1, PySem.W.mg_none_of X G z2, PySem.W.mg_none_of X G z3, PySem.W.mg_none_of X G z4, PySem.W.mg_none_of X G z5, PySem.W.mg_none_of X G z6, ⟨_, PySem.W.mg_of X G g1, ⟨_, rfl⟩⟩, ⟨_, PySem.W.mg_of X G g2, ⟨_, rfl⟩⟩, ⟨_, PySem.W.mg_of X G g3, ⟨_, rfl⟩⟩, ⟨_, PySem.W.mg_of X G g4, ⟨_, rfl⟩⟩, ⟨_, PySem.W.mg_of X G g5, ⟨_, rfl⟩⟩, ⟨_, PySem.W.mg_of X G aT_DEEDS, ⟨⟨_, _, lT_DEEDS, (.cons hT_DEEDS_0 ⟨.ref u_DEEDS_0, rfl, dfl_tup3 lU_DEEDS_0⟩ (.cons hT_DEEDS_1 ⟨.ref u_DEEDS_1, rfl, dfl_tup1 lU_DEEDS_1⟩ (.cons hT_DEEDS_2 ⟨.ref u_DEEDS_2, rfl, dfl_tup1 lU_DEEDS_2⟩ (.cons hT_DEEDS_3 ⟨.ref u_DEEDS_3, rfl, dfl_tup1 lU_DEEDS_3⟩ (.cons hT_DEEDS_4 ⟨.ref u_DEEDS_4, rfl, dfl_tup1 lU_DEEDS_4⟩ (.cons hT_DEEDS_5 ⟨.ref u_DEEDS_5, rfl, dfl_tup2 lU_DEEDS_5⟩ (.cons hT_DEEDS_6 ⟨.ref u_DEEDS_6, rfl, dfl_tup1 lU_DEEDS_6⟩ (.cons hT_DEEDS_7 ⟨.ref u_DEEDS_7, rfl, dfl_tup3 lU_DEEDS_7⟩ (.cons hT_DEEDS_8 ⟨.ref u_DEEDS_8, rfl, dfl_tup2 lU_DEEDS_8⟩ (.cons hT_DEEDS_9 ⟨.ref u_DEEDS_9, rfl, dfl_tup1 lU_DEEDS_9⟩ (.cons hT_DEEDS_10 ⟨.ref u_DEEDS_10, rfl, dfl_tup1 lU_DEEDS_10⟩ (.cons hT_DEEDS_11 ⟨.ref u_DEEDS_11, rfl, dfl_tup1 lU_DEEDS_11⟩ .nil))))))))))))⟩, sT_DEEDS, by decide +kernel⟩⟩, ⟨_, PySem.W.mg_of X G aT_ESCAPES, ⟨⟨_, _, lT_ESCAPES, (.cons hT_ESCAPES_0 ⟨.str _, ⟨_, rfl⟩, fun _ _ => .str _⟩ (.cons hT_ESCAPES_1 ⟨.str _, ⟨_, rfl⟩, fun _ _ => .str _⟩ (.cons hT_ESCAPES_2 ⟨.str _, ⟨_, rfl⟩, fun _ _ => .str _⟩ .nil)))⟩, sT_ESCAPES, by decide +kernel⟩⟩, ⟨_, PySem.W.mg_of X G aT_FORMS, ⟨⟨_, _, lT_FORMS, (.cons hT_FORMS_0 ⟨_, PySem.W.mg_of X G a8, rfl⟩ (.cons hT_FORMS_1 ⟨_, PySem.W.mg_of X G a9, rfl⟩ (.cons hT_FORMS_2 ⟨_, PySem.W.mg_of X G a10, rfl⟩ (.cons hT_FORMS_3 ⟨_, PySem.W.mg_of X G a11, rfl⟩ (.cons hT_FORMS_4 ⟨_, PySem.W.mg_of X G a12, rfl⟩ (.cons hT_FORMS_5 ⟨_, PySem.W.mg_of X G a13, rfl⟩ .nil))))))⟩, sT_FORMS, by decide +kernel⟩⟩, ⟨_, PySem.W.mg_of X G aT_ON_DEVICES, ⟨⟨_, _, lT_ON_DEVICES, (.cons hT_ON_DEVICES_0 ⟨.ref u_ON_DEVICES_0, rfl, dfl_tup lU_ON_DEVICES_0⟩ (.cons hT_ON_DEVICES_1 ⟨.ref u_ON_DEVICES_1, rfl, dfl_tup lU_ON_DEVICES_1⟩ (.cons hT_ON_DEVICES_2 ⟨.ref u_ON_DEVICES_2, rfl, dfl_tup lU_ON_DEVICES_2⟩ (.cons hT_ON_DEVICES_3 ⟨.ref u_ON_DEVICES_3, rfl, dfl_tup lU_ON_DEVICES_3⟩ (.cons hT_ON_DEVICES_4 ⟨.ref u_ON_DEVICES_4, rfl, dfl_tup1 lU_ON_DEVICES_4⟩ .nil)))))⟩, sT_ON_DEVICES, by decide +kernel⟩⟩, ⟨_, PySem.W.mg_of X G aT_ON_LETTERS, ⟨⟨_, _, lT_ON_LETTERS, (.cons hT_ON_LETTERS_0 ⟨.ref u_ON_LETTERS_0, rfl, dfl_tup1 lU_ON_LETTERS_0⟩ (.cons hT_ON_LETTERS_1 ⟨.ref u_ON_LETTERS_1, rfl, dfl_tup1 lU_ON_LETTERS_1⟩ (.cons hT_ON_LETTERS_2 ⟨.ref u_ON_LETTERS_2, rfl, dfl_tup1 lU_ON_LETTERS_2⟩ .nil)))⟩, sT_ON_LETTERS, by decide +kernel⟩⟩, ⟨_, PySem.W.mg_of X G aT_WISHES, ⟨⟨_, _, lT_WISHES, (.cons hT_WISHES_0 ⟨.ref u_WISHES_0, rfl, dfl_tup lU_WISHES_0⟩ (.cons hT_WISHES_1 ⟨.ref u_WISHES_1, rfl, dfl_tup2 lU_WISHES_1⟩ (.cons hT_WISHES_2 ⟨.ref u_WISHES_2, rfl, dfl_tup1 lU_WISHES_2⟩ (.cons hT_WISHES_3 ⟨.ref u_WISHES_3, rfl, dfl_tup1 lU_WISHES_3⟩ (.cons hT_WISHES_4 ⟨.ref u_WISHES_4, rfl, dfl_tup2 lU_WISHES_4⟩ .nil)))))⟩, sT_WISHES, by decide +kernel⟩⟩⟩
  have F1 := fun_mk (st := s_is_name) l1 c1 k1
  have D1 : Df K mg "is_name" s_is_name ["text"] := ⟨_, _, F1, PySem.W.mg_of X G a1, F1.binds (ps := ["text"]) fun _ _ _ _ _ _ us hl => match us, hl with | [_], _ => rfl⟩
  have F2 := fun_mk (st := s_read_path) l2 c2 k2
  have D2 : Df K mg "read_path" s_read_path ["text"] := ⟨_, _, F2, PySem.W.mg_of X G a2, F2.binds (ps := ["text"]) fun _ _ _ _ _ _ us hl => match us, hl with | [_], _ => rfl⟩
  have F3 := fun_mk (st := s_plain_number) l3 c3 k3
  have D3 : Df K mg "plain_number" s_plain_number ["word", "most"] := ⟨_, _, F3, PySem.W.mg_of X G a3, F3.binds (ps := ["word", "most"]) fun _ _ _ _ _ _ us hl => match us, hl with | [_, _], _ => rfl⟩
  have F4 := fun_mk (st := s_parts_of) l4 c4 k4
  have D4 : Df K mg "parts_of" s_parts_of ["line"] := ⟨_, _, F4, PySem.W.mg_of X G a4, F4.binds (ps := ["line"]) fun _ _ _ _ _ _ us hl => match us, hl with | [_], _ => rfl⟩
  have F5 := fun_mk (st := s_part_at) l5 c5 k5
  have D5 : Df K mg "part_at" s_part_at ["line", "at"] := ⟨_, _, F5, PySem.W.mg_of X G a5, F5.binds (ps := ["line", "at"]) fun _ _ _ _ _ _ us hl => match us, hl with | [_, _], _ => rfl⟩
  have F6 := fun_mk (st := s_number_of) l6 c6 k6
  have D6 : Df K mg "number_of" s_number_of ["word"] := ⟨_, _, F6, PySem.W.mg_of X G a6, F6.binds (ps := ["word"]) fun _ _ _ _ _ _ us hl => match us, hl with | [_], _ => rfl⟩
  have F7 := fun_mk (st := s_quoted_at) l7 c7 k7
  have D7 : Df K mg "quoted_at" s_quoted_at ["line", "at"] := ⟨_, _, F7, PySem.W.mg_of X G a7, F7.binds (ps := ["line", "at"]) fun _ _ _ _ _ _ us hl => match us, hl with | [_, _], _ => rfl⟩
  have F8 := fun_mk (st := s_form_number) l8 c8 k8
  have D8 : Df K mg "form_number" s_form_number ["parts"] := ⟨_, _, F8, PySem.W.mg_of X G a8, F8.binds (ps := ["parts"]) fun _ _ _ _ _ _ us hl => match us, hl with | [_], _ => rfl⟩
  have F9 := fun_mk (st := s_form_text) l9 c9 k9
  have D9 : Df K mg "form_text" s_form_text ["parts"] := ⟨_, _, F9, PySem.W.mg_of X G a9, F9.binds (ps := ["parts"]) fun _ _ _ _ _ _ us hl => match us, hl with | [_], _ => rfl⟩
  have F10 := fun_mk (st := s_form_path) l10 c10 k10
  have D10 : Df K mg "form_path" s_form_path ["parts"] := ⟨_, _, F10, PySem.W.mg_of X G a10, F10.binds (ps := ["parts"]) fun _ _ _ _ _ _ us hl => match us, hl with | [_], _ => rfl⟩
  have F11 := fun_mk (st := s_form_runs) l11 c11 k11
  have D11 : Df K mg "form_runs" s_form_runs ["parts"] := ⟨_, _, F11, PySem.W.mg_of X G a11, F11.binds (ps := ["parts"]) fun _ _ _ _ _ _ us hl => match us, hl with | [_], _ => rfl⟩
  have F12 := fun_mk (st := s_form_spot) l12 c12 k12
  have D12 : Df K mg "form_spot" s_form_spot ["parts"] := ⟨_, _, F12, PySem.W.mg_of X G a12, F12.binds (ps := ["parts"]) fun _ _ _ _ _ _ us hl => match us, hl with | [_], _ => rfl⟩
  have F13 := fun_mk (st := s_form_target) l13 c13 k13
  have D13 : Df K mg "form_target" s_form_target ["parts"] := ⟨_, _, F13, PySem.W.mg_of X G a13, F13.binds (ps := ["parts"]) fun _ _ _ _ _ _ us hl => match us, hl with | [_], _ => rfl⟩
  have F14 := fun_mk (st := s_read_forms) l14 c14 k14
  have D14 : Df K mg "read_forms" s_read_forms ["forms", "parts"] := ⟨_, _, F14, PySem.W.mg_of X G a14, F14.binds (ps := ["forms", "parts"]) fun _ _ _ _ _ _ us hl => match us, hl with | [_, _], _ => rfl⟩
  have F15 := fun_mk (st := s_first_word) l15 c15 k15
  have D15 : Df K mg "first_word" s_first_word ["parts"] := ⟨_, _, F15, PySem.W.mg_of X G a15, F15.binds (ps := ["parts"]) fun _ _ _ _ _ _ us hl => match us, hl with | [_], _ => rfl⟩
  have F16 := fun_mk (st := s_read_behind_word) l16 c16 k16
  have D16 : Df K mg "read_behind_word" s_read_behind_word ["forms", "parts"] := ⟨_, _, F16, PySem.W.mg_of X G a16, F16.binds (ps := ["forms", "parts"]) fun _ _ _ _ _ _ us hl => match us, hl with | [_, _], _ => rfl⟩
  have F17 := fun_mk (st := s_read_on_device) l17 c17 k17
  have D17 : Df K mg "read_on_device" s_read_on_device ["device", "parts"] := ⟨_, _, F17, PySem.W.mg_of X G a17, F17.binds (ps := ["device", "parts"]) fun _ _ _ _ _ _ us hl => match us, hl with | [_, _], _ => rfl⟩
  have F18 := fun_mk (st := s_read_event) l18 c18 k18
  have D18 : Df K mg "read_event" s_read_event ["line"] := ⟨_, _, F18, PySem.W.mg_of X G a18, F18.binds (ps := ["line"]) fun _ _ _ _ _ _ us hl => match us, hl with | [_], _ => rfl⟩
  have F19 := fun_mk (st := s_law_cells) l19 c19 k19
  have D19 : Df K mg "_law_cells" s_law_cells ["script", "count"] := ⟨_, _, F19, PySem.W.mg_of X G a19, F19.binds (ps := ["script", "count"]) fun _ _ _ _ _ _ us hl => match us, hl with | [_, _], _ => rfl⟩
  have F20 := fun_mk (st := s_law_quoted) l20 c20 k20
  have D20 : Df K mg "_law_quoted" s_law_quoted ["text"] := ⟨_, _, F20, PySem.W.mg_of X G a20, F20.binds (ps := ["text"]) fun _ _ _ _ _ _ us hl => match us, hl with | [_], _ => rfl⟩
  have F21 := fun_mk (st := s_law_text) l21 c21 k21
  have D21 : Df K mg "_law_text" s_law_text ["cell"] := ⟨_, _, F21, PySem.W.mg_of X G a21, F21.binds (ps := ["cell"]) fun _ _ _ _ _ _ us hl => match us, hl with | [_], _ => rfl⟩
  have F22 := fun_mk (st := s_law_path) l22 c22 k22
  have D22 : Df K mg "_law_path" s_law_path ["cell"] := ⟨_, _, F22, PySem.W.mg_of X G a22, F22.binds (ps := ["cell"]) fun _ _ _ _ _ _ us hl => match us, hl with | [_], _ => rfl⟩
  have F23 := fun_mk (st := s_law_number) l23 c23 k23
  have D23 : Df K mg "_law_number" s_law_number ["cell"] := ⟨_, _, F23, PySem.W.mg_of X G a23, F23.binds (ps := ["cell"]) fun _ _ _ _ _ _ us hl => match us, hl with | [_], _ => rfl⟩
  have F24 := fun_mk (st := s_law_spot) l24 c24 k24
  have D24 : Df K mg "_law_spot" s_law_spot ["cell"] := ⟨_, _, F24, PySem.W.mg_of X G a24, F24.binds (ps := ["cell"]) fun _ _ _ _ _ _ us hl => match us, hl with | [_], _ => rfl⟩
  have F25 := fun_mk (st := s_law_target) l25 c25 k25
  have D25 : Df K mg "_law_target" s_law_target ["cell"] := ⟨_, _, F25, PySem.W.mg_of X G a25, F25.binds (ps := ["cell"]) fun _ _ _ _ _ _ us hl => match us, hl with | [_], _ => rfl⟩
  have F26 := fun_mk (st := s_law_runs) l26 c26 k26
  have D26 : Df K mg "_law_runs" s_law_runs ["cell"] := ⟨_, _, F26, PySem.W.mg_of X G a26, F26.binds (ps := ["cell"]) fun _ _ _ _ _ _ us hl => match us, hl with | [_], _ => rfl⟩
  have F27 := fun_mk (st := s_law_deed) l27 c27 k27
  have D27 : Df K mg "_law_deed" s_law_deed ["kind", "cells"] := ⟨_, _, F27, PySem.W.mg_of X G a27, F27.binds (ps := ["kind", "cells"]) fun _ _ _ _ _ _ us hl => match us, hl with | [_, _], _ => rfl⟩
  have F28 := fun_mk (st := s_law_wish) l28 c28 k28
  have D28 : Df K mg "_law_wish" s_law_wish ["kind", "cells"] := ⟨_, _, F28, PySem.W.mg_of X G a28, F28.binds (ps := ["kind", "cells"]) fun _ _ _ _ _ _ us hl => match us, hl with | [_, _], _ => rfl⟩
  have F29 := fun_mk (st := s_law_event) l29 c29 k29
  have D29 : Df K mg "_law_event" s_law_event ["cells"] := ⟨_, _, F29, PySem.W.mg_of X G a29, F29.binds (ps := ["cells"]) fun _ _ _ _ _ _ us hl => match us, hl with | [_], _ => rfl⟩
  have F30 := fun_mk (st := s_law) l30 c30 k30
  refine ⟨PySem.W.fnOf "law" "law" (defArgs s_law) (defBody s_law) (defScope s_law) .none kV30 dc30 pm30 an30 cd30 ct30, fun s v => .of_eq rfl, fun base _ _ => ?_⟩
  have G_plain_number := ok_plain_number (P := l.prog) (w := w) (base := base) D3 T rfl
  have G_number_of := ok_number_of (P := l.prog) (w := w) (base := base) D6 T rfl G_plain_number
  have G_quoted_at := ok_quoted_at (P := l.prog) (w := w) (base := base) D7 T rfl
  have G_part_at := ok_part_at (P := l.prog) (w := w) (base := base) D5 T rfl G_number_of G_quoted_at
  have G_parts_of := ok_parts_of (P := l.prog) (w := w) (base := base) D4 T rfl G_part_at
  have G_first_word := ok_first_word (P := l.prog) (w := w) (base := base) D15 T rfl
  have G_form_number := ok_form_number (P := l.prog) (w := w) (base := base) D8 T rfl
  have G_form_text := ok_form_text (P := l.prog) (w := w) (base := base) D9 T rfl
  have G_is_name := ok_is_name (P := l.prog) (w := w) (base := base) D1 T rfl
  have G_read_path := ok_read_path (P := l.prog) (w := w) (base := base) D2 T rfl G_is_name
  have G_form_path := ok_form_path (P := l.prog) (w := w) (base := base) D10 T rfl G_read_path G_form_text
  have G_form_runs := ok_form_runs (P := l.prog) (w := w) (base := base) D11 T rfl
  have G_form_spot := ok_form_spot (P := l.prog) (w := w) (base := base) D12 T rfl G_form_number G_form_path
  have G_form_target := ok_form_target (P := l.prog) (w := w) (base := base) D13 T rfl G_form_number G_form_spot
  have G_read_forms := ok_read_forms (P := l.prog) (w := w) (base := base) D14 T rfl G_form_number G_form_text G_form_path G_form_runs G_form_spot G_form_target
  have G_read_behind_word := ok_read_behind_word (P := l.prog) (w := w) (base := base) D16 T rfl G_read_forms G_first_word
  have G_read_on_device := ok_read_on_device (P := l.prog) (w := w) (base := base) D17 T rfl G_first_word G_read_behind_word
  have G_read_event := ok_read_event (P := l.prog) (w := w) (base := base) D18 T rfl G_parts_of G_first_word G_read_behind_word G_read_on_device
  have G_law_cells := ok_law_cells (P := l.prog) (w := w) (base := base) D19 T rfl
  have G_law_number := ok_law_number (P := l.prog) (w := w) (base := base) D23 T rfl
  have G_law_quoted := ok_law_quoted (P := l.prog) (w := w) (base := base) D20 T rfl
  have G_law_text := ok_law_text (P := l.prog) (w := w) (base := base) D21 T rfl
  have G_law_path := ok_law_path (P := l.prog) (w := w) (base := base) D22 T rfl
  have G_law_spot := ok_law_spot (P := l.prog) (w := w) (base := base) D24 T rfl G_law_quoted G_law_path G_law_number
  have G_law_target := ok_law_target (P := l.prog) (w := w) (base := base) D25 T rfl G_law_number G_law_spot
  have G_law_runs := ok_law_runs (P := l.prog) (w := w) (base := base) D26 T rfl
  have G_law_deed := ok_law_deed (P := l.prog) (w := w) (base := base) D27 T rfl G_law_quoted G_law_text G_law_number G_law_spot G_law_target G_law_runs
  have G_law_wish := ok_law_wish (P := l.prog) (w := w) (base := base) D28 T rfl G_law_quoted G_law_path G_law_number
  have G_law_event := ok_law_event (P := l.prog) (w := w) (base := base) D29 T rfl G_law_number G_law_deed G_law_wish
  exact ok_law F30 T rfl G_read_event G_law_cells G_law_event
end K74
open PySem PySem.W PyProof.Rows
set_option maxHeartbeats 0 in
theorem PySem.Challenge.cw_foldkeep_k74_scripts_read_back_holds : PySem.Challenge.rw_foldkeep_k74_scripts_read_back.Holds := by
  w_on; o_law; k_head; (case hw => w_witness2)
  k_fill
  refine L2.walk_of (l := PySem.Challenge.rw_foldkeep_k74_scripts_read_back) (n := 63) (k := 10) (x := "script") (CX := fun _ => L2.CX0) (sp := fun w => Pw.spLawT [] _) rfl (by decide) rfl ⟨rfl, by decide, by decide⟩ (fun w h Y => PySem.W.kIn_of Y) ?F (fun _ _ a ns hl _ hS => ⟨a, ns, rfl, fun p hp => (by cases hp), hS, hl, fun _ => rfl⟩) (fun _ _ _ _ _ h => h)
  case F =>
    intro w mg fa h KX G hmg
    refine' K74.all_mk KX G hmg ?a1 ?l1 ?c1 ?k1 ?a2 ?l2 ?c2 ?k2 ?a3 ?l3 ?c3 ?k3 ?a4 ?l4 ?c4 ?k4 ?a5 ?l5 ?c5 ?k5 ?a6 ?l6 ?c6 ?k6 ?a7 ?l7 ?c7 ?k7 ?a8 ?l8 ?c8 ?k8 ?a9 ?l9 ?c9 ?k9 ?a10 ?l10 ?c10 ?k10 ?a11 ?l11 ?c11 ?k11 ?a12 ?l12 ?c12 ?k12 ?a13 ?l13 ?c13 ?k13 ?a14 ?l14 ?c14 ?k14 ?a15 ?l15 ?c15 ?k15 ?a16 ?l16 ?c16 ?k16 ?a17 ?l17 ?c17 ?k17 ?a18 ?l18 ?c18 ?k18 ?a19 ?l19 ?c19 ?k19 ?a20 ?l20 ?c20 ?k20 ?a21 ?l21 ?c21 ?k21 ?a22 ?l22 ?c22 ?k22 ?a23 ?l23 ?c23 ?k23 ?a24 ?l24 ?c24 ?k24 ?a25 ?l25 ?c25 ?k25 ?a26 ?l26 ?c26 ?k26 ?a27 ?l27 ?c27 ?k27 ?a28 ?l28 ?c28 ?k28 ?a29 ?l29 ?c29 ?k29 ?a30 ?l30 ?c30 ?k30 ?aT_DEEDS ?lT_DEEDS ?lU_DEEDS_0 ?lU_DEEDS_1 ?lU_DEEDS_2 ?lU_DEEDS_3 ?lU_DEEDS_4 ?lU_DEEDS_5 ?lU_DEEDS_6 ?lU_DEEDS_7 ?lU_DEEDS_8 ?lU_DEEDS_9 ?lU_DEEDS_10 ?lU_DEEDS_11 ?hT_DEEDS_0 ?hT_DEEDS_1 ?hT_DEEDS_2 ?hT_DEEDS_3 ?hT_DEEDS_4 ?hT_DEEDS_5 ?hT_DEEDS_6 ?hT_DEEDS_7 ?hT_DEEDS_8 ?hT_DEEDS_9 ?hT_DEEDS_10 ?hT_DEEDS_11 ?sT_DEEDS ?aT_ESCAPES ?lT_ESCAPES ?hT_ESCAPES_0 ?hT_ESCAPES_1 ?hT_ESCAPES_2 ?sT_ESCAPES ?aT_FORMS ?lT_FORMS ?hT_FORMS_0 ?hT_FORMS_1 ?hT_FORMS_2 ?hT_FORMS_3 ?hT_FORMS_4 ?hT_FORMS_5 ?sT_FORMS ?aT_ON_DEVICES ?lT_ON_DEVICES ?lU_ON_DEVICES_0 ?lU_ON_DEVICES_1 ?lU_ON_DEVICES_2 ?lU_ON_DEVICES_3 ?lU_ON_DEVICES_4 ?hT_ON_DEVICES_0 ?hT_ON_DEVICES_1 ?hT_ON_DEVICES_2 ?hT_ON_DEVICES_3 ?hT_ON_DEVICES_4 ?sT_ON_DEVICES ?aT_ON_LETTERS ?lT_ON_LETTERS ?lU_ON_LETTERS_0 ?lU_ON_LETTERS_1 ?lU_ON_LETTERS_2 ?hT_ON_LETTERS_0 ?hT_ON_LETTERS_1 ?hT_ON_LETTERS_2 ?sT_ON_LETTERS ?aT_WISHES ?lT_WISHES ?lU_WISHES_0 ?lU_WISHES_1 ?lU_WISHES_2 ?lU_WISHES_3 ?lU_WISHES_4 ?hT_WISHES_0 ?hT_WISHES_1 ?hT_WISHES_2 ?hT_WISHES_3 ?hT_WISHES_4 ?sT_WISHES ?z1 ?z2 ?z3 ?z4 ?z5 ?z6 ?g1 ?g2 ?g3 ?g4 ?g5
    (case a1 => k_is); (case l1 => k_is); (case c1 => k_is); (case k1 => k_is)
    (case a2 => k_is); (case l2 => k_is); (case c2 => k_is); (case k2 => k_is)
    (case a3 => k_is); (case l3 => k_is); (case c3 => k_is); (case k3 => k_is)
    (case a4 => k_is); (case l4 => k_is); (case c4 => k_is); (case k4 => k_is)
    (case a5 => k_is); (case l5 => k_is); (case c5 => k_is); (case k5 => k_is)
    (case a6 => k_is); (case l6 => k_is); (case c6 => k_is); (case k6 => k_is)
    (case a7 => k_is); (case l7 => k_is); (case c7 => k_is); (case k7 => k_is)
    (case a8 => k_is); (case l8 => k_is); (case c8 => k_is); (case k8 => k_is)
    (case a9 => k_is); (case l9 => k_is); (case c9 => k_is); (case k9 => k_is)
    (case a10 => k_is); (case l10 => k_is); (case c10 => k_is); (case k10 => k_is)
    (case a11 => k_is); (case l11 => k_is); (case c11 => k_is); (case k11 => k_is)
    (case a12 => k_is); (case l12 => k_is); (case c12 => k_is); (case k12 => k_is)
    (case a13 => k_is); (case l13 => k_is); (case c13 => k_is); (case k13 => k_is)
    (case a14 => k_is); (case l14 => k_is); (case c14 => k_is); (case k14 => k_is)
    (case a15 => k_is); (case l15 => k_is); (case c15 => k_is); (case k15 => k_is)
    (case a16 => k_is); (case l16 => k_is); (case c16 => k_is); (case k16 => k_is)
    (case a17 => k_is); (case l17 => k_is); (case c17 => k_is); (case k17 => k_is)
    (case a18 => k_is); (case l18 => k_is); (case c18 => k_is); (case k18 => k_is)
    (case a19 => k_is); (case l19 => k_is); (case c19 => k_is); (case k19 => k_is)
    (case a20 => k_is); (case l20 => k_is); (case c20 => k_is); (case k20 => k_is)
    (case a21 => k_is); (case l21 => k_is); (case c21 => k_is); (case k21 => k_is)
    (case a22 => k_is); (case l22 => k_is); (case c22 => k_is); (case k22 => k_is)
    (case a23 => k_is); (case l23 => k_is); (case c23 => k_is); (case k23 => k_is)
    (case a24 => k_is); (case l24 => k_is); (case c24 => k_is); (case k24 => k_is)
    (case a25 => k_is); (case l25 => k_is); (case c25 => k_is); (case k25 => k_is)
    (case a26 => k_is); (case l26 => k_is); (case c26 => k_is); (case k26 => k_is)
    (case a27 => k_is); (case l27 => k_is); (case c27 => k_is); (case k27 => k_is)
    (case a28 => k_is); (case l28 => k_is); (case c28 => k_is); (case k28 => k_is)
    (case a29 => k_is); (case l29 => k_is); (case c29 => k_is); (case k29 => k_is)
    (case a30 => k_is); (case l30 => k_is); (case c30 => k_is); (case k30 => k_is)
    (case aT_DEEDS => k_is); (case lT_DEEDS => k_is); (case lU_DEEDS_0 => k_is); (case lU_DEEDS_1 => k_is)
    (case lU_DEEDS_2 => k_is); (case lU_DEEDS_3 => k_is); (case lU_DEEDS_4 => k_is); (case lU_DEEDS_5 => k_is)
    (case lU_DEEDS_6 => k_is); (case lU_DEEDS_7 => k_is); (case lU_DEEDS_8 => k_is); (case lU_DEEDS_9 => k_is)
    (case lU_DEEDS_10 => k_is); (case lU_DEEDS_11 => k_is); (case hT_DEEDS_0 => first | k_is | kernel_rfl | rfl | decide +kernel); (case hT_DEEDS_1 => first | k_is | kernel_rfl | rfl | decide +kernel)
    (case hT_DEEDS_2 => first | k_is | kernel_rfl | rfl | decide +kernel); (case hT_DEEDS_3 => first | k_is | kernel_rfl | rfl | decide +kernel); (case hT_DEEDS_4 => first | k_is | kernel_rfl | rfl | decide +kernel); (case hT_DEEDS_5 => first | k_is | kernel_rfl | rfl | decide +kernel)
    (case hT_DEEDS_6 => first | k_is | kernel_rfl | rfl | decide +kernel); (case hT_DEEDS_7 => first | k_is | kernel_rfl | rfl | decide +kernel); (case hT_DEEDS_8 => first | k_is | kernel_rfl | rfl | decide +kernel); (case hT_DEEDS_9 => first | k_is | kernel_rfl | rfl | decide +kernel)
    (case hT_DEEDS_10 => first | k_is | kernel_rfl | rfl | decide +kernel); (case hT_DEEDS_11 => first | k_is | kernel_rfl | rfl | decide +kernel); (case sT_DEEDS => first | k_is | kernel_rfl | rfl | decide +kernel); (case aT_ESCAPES => k_is)
    (case lT_ESCAPES => k_is); (case hT_ESCAPES_0 => first | k_is | kernel_rfl | rfl | decide +kernel); (case hT_ESCAPES_1 => first | k_is | kernel_rfl | rfl | decide +kernel); (case hT_ESCAPES_2 => first | k_is | kernel_rfl | rfl | decide +kernel)
    (case sT_ESCAPES => first | k_is | kernel_rfl | rfl | decide +kernel); (case aT_FORMS => k_is); (case lT_FORMS => k_is); (case hT_FORMS_0 => first | k_is | kernel_rfl | rfl | decide +kernel)
    (case hT_FORMS_1 => first | k_is | kernel_rfl | rfl | decide +kernel); (case hT_FORMS_2 => first | k_is | kernel_rfl | rfl | decide +kernel); (case hT_FORMS_3 => first | k_is | kernel_rfl | rfl | decide +kernel); (case hT_FORMS_4 => first | k_is | kernel_rfl | rfl | decide +kernel)
    (case hT_FORMS_5 => first | k_is | kernel_rfl | rfl | decide +kernel); (case sT_FORMS => first | k_is | kernel_rfl | rfl | decide +kernel); (case aT_ON_DEVICES => k_is); (case lT_ON_DEVICES => k_is)
    (case lU_ON_DEVICES_0 => k_is); (case lU_ON_DEVICES_1 => k_is); (case lU_ON_DEVICES_2 => k_is); (case lU_ON_DEVICES_3 => k_is)
    (case lU_ON_DEVICES_4 => k_is); (case hT_ON_DEVICES_0 => first | k_is | kernel_rfl | rfl | decide +kernel); (case hT_ON_DEVICES_1 => first | k_is | kernel_rfl | rfl | decide +kernel); (case hT_ON_DEVICES_2 => first | k_is | kernel_rfl | rfl | decide +kernel)
    (case hT_ON_DEVICES_3 => first | k_is | kernel_rfl | rfl | decide +kernel); (case hT_ON_DEVICES_4 => first | k_is | kernel_rfl | rfl | decide +kernel); (case sT_ON_DEVICES => first | k_is | kernel_rfl | rfl | decide +kernel); (case aT_ON_LETTERS => k_is)
    (case lT_ON_LETTERS => k_is); (case lU_ON_LETTERS_0 => k_is); (case lU_ON_LETTERS_1 => k_is); (case lU_ON_LETTERS_2 => k_is)
    (case hT_ON_LETTERS_0 => first | k_is | kernel_rfl | rfl | decide +kernel); (case hT_ON_LETTERS_1 => first | k_is | kernel_rfl | rfl | decide +kernel); (case hT_ON_LETTERS_2 => first | k_is | kernel_rfl | rfl | decide +kernel); (case sT_ON_LETTERS => first | k_is | kernel_rfl | rfl | decide +kernel)
    (case aT_WISHES => k_is); (case lT_WISHES => k_is); (case lU_WISHES_0 => k_is); (case lU_WISHES_1 => k_is)
    (case lU_WISHES_2 => k_is); (case lU_WISHES_3 => k_is); (case lU_WISHES_4 => k_is); (case hT_WISHES_0 => first | k_is | kernel_rfl | rfl | decide +kernel)
    (case hT_WISHES_1 => first | k_is | kernel_rfl | rfl | decide +kernel); (case hT_WISHES_2 => first | k_is | kernel_rfl | rfl | decide +kernel); (case hT_WISHES_3 => first | k_is | kernel_rfl | rfl | decide +kernel); (case hT_WISHES_4 => first | k_is | kernel_rfl | rfl | decide +kernel)
    (case sT_WISHES => first | k_is | kernel_rfl | rfl | decide +kernel); (case z1 => k_is); (case z2 => k_is); (case z3 => k_is)
    (case z4 => k_is); (case z5 => k_is); (case z6 => k_is); (case g1 => k_is)
    (case g2 => k_is); (case g3 => k_is); (case g4 => k_is); (case g5 => k_is)
#print axioms PySem.Challenge.cw_foldkeep_k74_scripts_read_back_holds
