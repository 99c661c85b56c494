import PyProof.Rows.All
import Wide.All
import OpenK.AllK
import Wide.FinOn
import HandS.ForMost
import HandS.Codes
import HandS.Evl
import HandS.IsInst
import HandS.FStr
import HandS.StrMore
import KE.DataEq
import HandS.SetKeys
import HandS.MakeKwOnly
import HandS.SetFor
import HandS.Strs
import HandS.Conv
import KE.KeyNested
import PyProof.DictFindH
import PyProof.DictRoadsH
import PyProof.DictMoreH
import KE.KDictKeyed
import HandS.TupAny
import HandS.Star
import HandS.Lambda
import HandS.Steps
import HandS.Ends
import HandS.SortKw
import KE.DataMinMax
import HandS.DictComp
import HandS.Zip
import KE.DataCmp
import KE.SortData
import KE.KDictSum
import KE.KDictCopyH
import HandS.TupLe
import KE.SortKeyHeap
import HandS.EndTab
import KE.KPairComp
import KE.KDictWalk
import PyProof.DictItems
import HandS.More
import HandS.Style
import PySem.Challenge.RW_foldkeep_k44_the_shelf_is_put_right
set_option Elab.async false
set_option linter.all false
set_option maxRecDepth 100000
set_option maxHeartbeats 4000000
namespace Lw
open PySem PySem.Spec PyProof.Rows L2 Evl
section
variable {K : PySem.W.Frag} {σ : L2.St} {H H' : Hp} {ta tb te tx : TE} {t u : TT} {x y z v : V}
def rMulStr : R2 := fun x y H Q => ∃ (a : Str) (n : Int), x = .str a ∧ y = .int n ∧ 1 ≤ n ∧ n ≤ 20000 ∧ a.length ≤ 200 ∧ Q (.str (Txt.mul a n)) H
theorem op_mul_str {X : Cx} : OpR X (binaryOp .Mult) rMulStr := by
  intro pins s σ H x y v u Q I rx ry h
  obtain ⟨a, n, rfl, rfl, h1, h2, h3, q⟩ := h
  obtain ⟨t, rfl⟩ := rx
  obtain ⟨t', rfl⟩ := ry
  refine SB.mul (n := n) ⟨?_, fun _ _ => ?_, fun _ _ => ?_⟩ fun t' k => ⟨.str (Txt.mul a n), H, I.tok _, ⟨_, rfl⟩, q⟩
  · rw [decide_eq_false (by omega), decide_eq_false (by omega)]
    rfl
  · have : (2 ^ 63 - 1) / n ≥ 200 := by
      refine (Int.le_ediv_iff_mul_le (by omega)).mpr ?_
      omega
    omega
  · have e : a.length * n.toNat ≤ 200 * 20000 := Nat.mul_le_mul h3 (by omega)
    exact decide_eq_false (by show ¬ a.length * n.toNat > 2 ^ 24; omega)
end
section
variable {σ : L2.St} {H H' : Hp} {te : TE} {D : Ends} {tu tz : TS} {g : TG}
end
section
variable {K : PySem.W.Frag} {σ : L2.St} {H H' : Hp} {te : TE} {D : Ends} {tu tz : TS} {g : TG}
end
section
variable {K : PySem.W.Frag} {H H' : Hp} {x y : V}
theorem mod_bd (x m : Int) (h : 0 < m) : 0 ≤ x % m ∧ x % m < m := ⟨Int.emod_nonneg _ (by omega), Int.emod_lt_of_pos _ h⟩
end
def rEqP (K : PySem.W.Frag) : R2 := fun x y H Q => ∃ d e, Dp K H x d ∧ Dp K H y e ∧ d.plain = true ∧ e.plain = true ∧ d.depth ≤ 60 ∧ Q (.bl (PyData.eqv d e)) H
def rNeP (K : PySem.W.Frag) : R2 := fun x y H Q => ∃ d e, Dp K H x d ∧ Dp K H y e ∧ d.plain = true ∧ e.plain = true ∧ d.depth ≤ 60 ∧ Q (.bl (!PyData.eqv d e)) H
theorem op_eqP {X : Cx} (hu : X.A.units + 64 < cLine) : OpR X (compareOp .Eq) (rEqP X.K) := by
  intro pins s σ H x y v u Q I rx ry h
  obtain ⟨d, e, hd, he, pd, pe, dd, q⟩ := h
  obtain ⟨as, r1⟩ := Dp.reads I d x v hd rx
  obtain ⟨bs, r2⟩ := Dp.reads I e y u he ry
  exact SeqAt.eq_plain r1 r2 pd pe (by omega) ⟨.bl _, H, I, rfl, q⟩
theorem op_neP {X : Cx} (hu : X.A.units + 64 < cLine) : OpR X (compareOp .NotEq) (rNeP X.K) := by
  intro pins s σ H x y v u Q I rx ry h
  obtain ⟨d, e, hd, he, pd, pe, dd, q⟩ := h
  obtain ⟨as, r1⟩ := Dp.reads I d x v hd rx
  obtain ⟨bs, r2⟩ := Dp.reads I e y u he ry
  exact SeqAt.ne_plain r1 r2 pd pe (by omega) ⟨.bl _, H, I, rfl, q⟩
section
variable {K : PySem.W.Frag} {σ : L2.St} {H H' : Hp} {ta tb te : TE} {x y z v : V} {r : R2}
theorem depth_strs : ∀ ys : List Str, PyData.depthAll (ys.map PyData.str) = 0
  | [] => rfl
  | _ :: ys => by
    show max 0 (PyData.depthAll (ys.map PyData.str)) = 0
    rw [depth_strs ys]
    rfl
end
section
variable {K : PySem.W.Frag} {σ : L2.St} {H H' : Hp} {te : TE} {D : Ends} {tz : TS}
end
structure Df (K : PySem.W.Frag) (mg : Str → Option Value) (x : Str) (st : Stmt) (ps : List Str) : Prop where
  ex : ∃ (f : Addr) (fd : FuncData), L2.Fun K x x st f fd ∧ mg x = some (.ref f) ∧ Binds K fd ps []
theorem Df.cal {P : Program} {w : World} {K : PySem.W.Frag} {mg : Str → Option Value} {base : Heap} {x : Str} {st : Stmt} {N ps : List Str} {k : Nat} {sp : Sp} (D : Df K mg x st ps) (S : FnScope N ps (defScope st)) (len : ∀ vs H Q E, sp vs H Q E → vs.length = ps.length)
    (hbody : ∀ (f : Addr) (cdv : Value) (A : Around) (outer : List Env) (s : Shared) (H : Hp) (vs : List V) (Q : VK) (E : XK), Room k (A.deeper (envOfC x (defScope st) s.heap.objs.size f cdv)) → sp vs H Q E →
      ∃ t, PSs (cxOf L2.CX0 P w K mg base N x (defScope st) f cdv A outer s H E).nox (defBody st) t ∧ t { nx := fun _ H' => Q .non H', rt := Q } (start N vs) H) : C8.Cal P w K mg base (k + 1) x sp [] := by
  obtain ⟨f, fd, F, hm, hb⟩ := D.ex
  exact ⟨f, fd, ps, [], F.ok S len (hbody f), hm, F.kp, hb, .nil⟩
section
variable {K : PySem.W.Frag} {σ : L2.St} {H H' : Hp} {te td ty tx ts : TE} {tt : TT} {D : Ends} {tz tu : TS} {x v : V}
end
theorem eqv_strs : ∀ a b : List Str, PyData.eqvAll (a.map PyData.str) (b.map PyData.str) = decide (a = b)
  | [], [] => by rw [List.map_nil, PyData.eqvAll]; rfl
  | [], _ :: _ => by rw [List.map_nil, List.map_cons, PyData.eqvAll]; simp
  | _ :: _, [] => by rw [List.map_nil, List.map_cons, PyData.eqvAll]; simp
  | x :: xs, y :: ys => by
    rw [List.map_cons, List.map_cons, PyData.eqvAll, eqv_strs xs ys, PyData.eqv]
    by_cases h : x = y
    · rw [h, beq_self_eq_true]
      simp
    · have h1 : (x == y) = false := beq_eq_false_iff_ne.mpr h
      rw [h1]
      simp [h]
theorem take_up {α : Type} {l : List α} {i : Nat} {q : α} (h : l[i]? = some q) : l.take (i + 1) = l.take i ++ [q] := by
  rw [List.take_add_one, h]
  rfl
end Lw
namespace Dk
open PySem SeqAt
variable {prog : Program} {w : World} {A : Around} {E : Value → Shared → Prop} {s : Shared}
def KeyAt (h : Heap) (k : NestedKey) (v : Value) : Prop := NestedIs h k v ∧ k.depth ≤ 8
structure Ks (w : World) (h : Heap) (es : Array DictEntry) (xs : List NestedKey) : Prop where
  sz : es.size = xs.length
  ent : ∀ (i : Nat) k, xs[i]? = some k → ∃ e, es[i]? = some e ∧ e.hash = k.hash w ∧ KeyAt h k e.key
  nd : xs.Nodup
theorem Ks.key {h : Heap} {es : Array DictEntry} {xs : List NestedKey} (H : Ks w h es xs) {i : Nat} {e : DictEntry} (he : es[i]? = some e) : ∃ k, xs[i]? = some k ∧ e.hash = k.hash w ∧ KeyAt h k e.key := by
  obtain ⟨hi, _⟩ := Array.getElem?_eq_some_iff.mp he
  rw [H.sz] at hi
  obtain ⟨e', h1, h2, h3⟩ := H.ent i xs[i] (List.getElem?_eq_getElem hi)
  rw [h1] at he
  cases he
  exact ⟨_, List.getElem?_eq_getElem hi, h2, h3⟩
section
variable {d : Addr} {o : Obj} {es : Array DictEntry} {ep : Nat} {xs : List NestedKey} {k : NestedKey} {key : Value}
end
end Dk
namespace Dk
open PySem SeqAt
variable {prog : Program} {w : World} {A : Around} {E : Value → Shared → Prop} {s : Shared}
abbrev En := NestedKey × Value × Value
def enE (w : World) (x : En) : DictEntry := ⟨x.1.hash w, x.2.1, x.2.2⟩
structure DAt (w : World) (h : Heap) (d : Addr) (xs : List En) (o : Obj) (es : Array DictEntry) (ep : Nat) : Prop where
  ob : h.get? d = some o
  ex : o.ExactDict
  da : o.data = .dict es ep
  en : es.toList = xs.map (enE w)
  ks : ∀ x ∈ xs, KeyAt h x.1 x.2.1
  nd : (xs.map (·.1)).Nodup
def DOf (w : World) (h : Heap) (d : Addr) (xs : List En) : Prop := ∃ o es ep, DAt w h d xs o es ep
def putV (xs : List En) (k : NestedKey) (u v : Value) : List En := if k ∈ xs.map (·.1) then xs.map (fun x => if x.1 = k then (x.1, x.2.1, v) else x) else xs ++ [(k, u, v)]
section
variable {h : Heap} {d : Addr} {xs : List En} {o : Obj} {es : Array DictEntry} {ep : Nat} {k : NestedKey} {key : Value}
theorem DAt.at_ (H : DAt w h d xs o es ep) (i : Nat) : es[i]? = (xs[i]?).map (enE w) := by
  rw [← Array.getElem?_toList, H.en, List.getElem?_map]
theorem DAt.sz (H : DAt w h d xs o es ep) : es.size = xs.length := by rw [← Array.length_toList, H.en, List.length_map]
theorem DAt.kk (H : DAt w h d xs o es ep) : Ks w h es (xs.map (·.1)) where
  sz := by rw [H.sz, List.length_map]
  nd := H.nd
  ent := fun i k hi => by
    rw [List.getElem?_map] at hi
    obtain ⟨x, hx, rfl⟩ := Option.map_eq_some_iff.mp hi
    exact ⟨enE w x, by rw [H.at_, hx]; rfl, rfl, H.ks x (List.mem_of_getElem? hx)⟩
theorem KeyAt.but {h h' : Heap} {k : NestedKey} {v : Value} (hk : KeyAt h k v) {d : Addr} {o : Obj} {es ep} (ho : h.get? d = some o) (hd : o.data = .dict es ep) (hs : Heap.SameBut d h h') : KeyAt h' k v :=
  ⟨NestedIs.at (fun b ob vs n hb hc => (hs.2 b fun e => by
    subst e
    rw [ho] at hb
    cases hb
    rw [hd] at hc
    cases hc).trans hb) k v hk.1, hk.2⟩
theorem DOf.new (h : Heap) : DOf w (h.push { cls := .type "dict", data := .dict #[] }) h.objs.size [] :=
  ⟨_, #[], 0, ⟨Heap.get?_push_size _ rfl, ⟨rfl, rfl, rfl⟩, rfl, rfl, (fun _ hx => by cases hx), List.nodup_nil⟩⟩
theorem putV_new {u v : Value} (hn : k ∉ xs.map (·.1)) : putV xs k u v = xs ++ [(k, u, v)] := by
  unfold putV
  rw [if_neg hn]
theorem DAt.push {v : Value} (H : DAt w h d xs o es ep) (hk : KeyAt h k key) (hn : k ∉ xs.map (·.1)) : DOf w (h.update d (Obj.mapDictKeys fun es => es.push ⟨k.hash w, key, v⟩)) d (putV xs k key v) := by
  refine ⟨_, _, ep + 1, ⟨Heap.get?_update_self _ H.ob (Obj.isFreed_of_dict (Obj.data_mapDictKeys H.da _)), H.ex.mapDictKeys _, Obj.data_mapDictKeys H.da _, ?_, ?_, ?_⟩⟩
  · rw [putV_new hn]
    simp [H.en, enE]
  · intro x hx
    rw [putV_new hn] at hx
    rcases List.mem_append.mp hx with hx | hx
    · exact (H.ks x hx).but H.ob H.da (Heap.SameBut.update ..)
    · rw [List.mem_singleton.mp hx]
      exact hk.but H.ob H.da (Heap.SameBut.update ..)
  · rw [putV_new hn, List.map_append, List.nodup_append]
    refine ⟨H.nd, by simp, fun a ha b hb e => hn ?_⟩
    rw [List.map_singleton, List.mem_singleton] at hb
    subst e
    rw [hb] at ha
    exact ha
end
end Dk
namespace Dk
open PySem PySem.Spec PyProof.Rows L2 Evl Lw
mutual
inductive KV (K : PySem.W.Frag) (H : Hp) : NestedKey → V → Prop
  | none : KV K H .none .non
  | bool (b : Bool) : KV K H (.num (if b = true then 1 else 0)) (.bl b)
  | int (i : Int) : KV K H (.num i) (.int i)
  | text (x : Str) : KV K H (.text x) (.str x)
  | tup {a : Addr} {vs : List V} {ks : List NestedKey} : SqT K H a vs → KVs K H ks vs → KV K H (.tup ks) (.ref a)
inductive KVs (K : PySem.W.Frag) (H : Hp) : List NestedKey → List V → Prop
  | nil : KVs K H [] []
  | cons {k : NestedKey} {ks : List NestedKey} {v : V} {vs : List V} : KV K H k v → KVs K H ks vs → KVs K H (k :: ks) (v :: vs)
end
section
variable {X : Cx} {pins : List (Addr × Obj)} {σ : L2.St} {H H' : Hp} {s : Shared} {a : Addr}
mutual
theorem KV.nested (I : Inv X pins σ H s) : ∀ (k : NestedKey) (v : V) (u : Value), KV X.K H k v → RelV v u → NestedIs s.heap k u
  | .none, _, _, h, r => by
    cases h
    cases r
    exact .none
  | .num i, _, _, h, r => by
    cases h with
    | bool b => cases r; exact .bool rfl
    | int i =>
      obtain ⟨t, rfl⟩ := r
      exact .int i t
  | .text x, _, _, h, r => by
    cases h
    obtain ⟨t, rfl⟩ := r
    exact .text x t
  | .tup ks, _, _, h, r => by
    cases h with
    | tup hs ha =>
      cases r
      obtain ⟨its, hv, ⟨o, ho, hc, n, hd⟩, _⟩ := I.tuple hs
      exact .tup ho hc hd (KVs.nested I ks _ its ha hv)
theorem KVs.nested (I : Inv X pins σ H s) : ∀ (ks : List NestedKey) (vs : List V) (us : List Value), KVs X.K H ks vs → Vals vs us → NestedAll s.heap ks us
  | [], _, _, h, r => by
    cases h
    cases r
    exact .nil
  | k :: ks, _, _, h, r => by
    cases h with
    | cons h1 h2 =>
      cases r with
      | cons r1 r2 => exact .cons (KV.nested I k _ _ h1 r1) (KVs.nested I ks _ _ h2 r2)
end
mutual
theorem KV.up {K : PySem.W.Frag} (e : Ex H H') : ∀ (k : NestedKey) (v : V), KV K H k v → KV K H' k v
  | .none, _, h => by cases h; exact .none
  | .num _, _, h => by
    cases h with
    | bool b => exact .bool b
    | int => exact .int _
  | .text _, _, h => by cases h; exact .text _
  | .tup ks, _, h => by
    cases h with
    | tup hs ha => exact .tup (ex_t e hs) (KVs.up e ks _ ha)
theorem KVs.up {K : PySem.W.Frag} (e : Ex H H') : ∀ (ks : List NestedKey) (vs : List V), KVs K H ks vs → KVs K H' ks vs
  | [], _, h => by cases h; exact .nil
  | k :: ks, _, h => by
    cases h with
    | cons h1 h2 => exact .cons (KV.up e k _ h1) (KVs.up e ks _ h2)
end
abbrev EnV := NestedKey × V × V
def RelE (w : World) (x : EnV) (e : DictEntry) : Prop := e.hash = x.1.hash w ∧ RelV x.2.1 e.key ∧ RelV x.2.2 e.val
def DictV (w : World) (a : Addr) (l : List EnV) : Heap → Prop := fun h => (a == sysModules) = false ∧ ∃ o es ep, h.get? a = some o ∧ o.ExactDict ∧ o.data = .dict es ep ∧ Paired (RelE w) l es.toList
def DHO (w : World) (a : Addr) (l : List EnV) : HO := .ext (DictV w a l)
def DHOo (w : World) (a : Addr) (l : List EnV) (o : Obj) : HO := .ext fun h => DictV w a l h ∧ h.get? a = some o
structure IsDk (K : PySem.W.Frag) (w : World) (H : Hp) (a : Addr) (l : List EnV) : Prop where
  ho : H a = some (DHO w a l)
  ks : ∀ e ∈ l, KV K H e.1 e.2.1 ∧ e.1.depth ≤ 8
  nd : (l.map (·.1)).Nodup
def RelN (x : EnV) (y : En) : Prop := x.1 = y.1 ∧ RelV x.2.1 y.2.1 ∧ RelV x.2.2 y.2.2
theorem relN_keys : ∀ {l : List EnV} {xs : List En}, Paired RelN l xs → xs.map (·.1) = l.map (·.1)
  | _, _, .nil => rfl
  | _, _, .cons h t => by rw [List.map_cons, List.map_cons, relN_keys t, h.1]
theorem relE_of {w : World} : ∀ {l : List EnV} {es : List DictEntry}, Paired (RelE w) l es → ∃ xs : List En, Paired RelN l xs ∧ es = xs.map (enE w)
  | _, _, .nil => ⟨[], .nil, rfl⟩
  | _, _, .cons (a := x) (b := e) h t => by
    obtain ⟨xs, h1, h2⟩ := relE_of t
    refine ⟨(x.1, e.key, e.val) :: xs, .cons ⟨rfl, h.2.1, h.2.2⟩ h1, ?_⟩
    rw [List.map_cons, ← h2]
    obtain ⟨eh, ek, ev⟩ := e
    obtain rfl : eh = _ := h.1
    rfl
theorem IsDk.of {l : List EnV} (D : IsDk X.K X.w H a l) (I : Inv X pins σ H s) : (a == sysModules) = false ∧ ∃ xs, Paired RelN l xs ∧ DOf X.w s.heap a xs := by
  obtain ⟨⟨hs, o, es, ep, ho, hx, hd, hp⟩, _, _⟩ := (show ObjOk X.prog X.w H s.heap a (DHO X.w a l) from I.hok a _ D.ho)
  obtain ⟨xs, h1, h2⟩ := relE_of hp
  refine ⟨hs, xs, h1, o, es, ep, ⟨ho, hx, hd, h2, fun x hxm => ?_, by rw [relN_keys h1]; exact D.nd⟩⟩
  have : ∃ e ∈ l, RelN e x := by
    have aux : ∀ {l : List EnV} {xs : List En}, Paired RelN l xs → x ∈ xs → ∃ e ∈ l, RelN e x := by
      intro l xs h
      induction h with
      | nil => intro h; cases h
      | cons h1 _ ih =>
        intro hm
        rcases List.mem_cons.mp hm with rfl | hm
        · exact ⟨_, List.mem_cons_self, h1⟩
        · obtain ⟨e, he, hr⟩ := ih hm
          exact ⟨e, List.mem_cons_of_mem _ he, hr⟩
    exact aux h1 hxm
  obtain ⟨e, he, hr⟩ := this
  obtain ⟨q1, q2⟩ := D.ks e he
  exact ⟨by rw [← hr.1]; exact KV.nested I _ _ _ q1 hr.2.1, by rw [← hr.1]; exact q2⟩
theorem KV.at_ {k : NestedKey} {x : V} {u : Value} (I : Inv X pins σ H s) (h : KV X.K H k x) (hd : k.depth ≤ 8) (r : RelV x u) : KeyAt s.heap k u := ⟨KV.nested I k x u h r, hd⟩
end
end Dk
namespace Dk
open PySem PySem.Spec PyProof.Rows L2 Evl Lw
section
variable {X : Cx} {pos apos cpos tpos : Pos} {o e f i value : Expr} {td ty tx tv : TE} {pins : List (Addr × Obj)} {σ : L2.St} {H : Hp} {s : Shared} {a : Addr}
end
end Dk
namespace Dk
open PySem PySem.Spec PyProof.Rows L2 Evl Lw
theorem dho_ne {w : World} {a : Addr} {l : List EnV} (ps : Array Value) : DHO w a l ≠ .tbl ps := fun z => by
  unfold DHO at z
  cases z
theorem dho_code {w : World} {a : Addr} {l : List EnV} (c : Addr) (q : Str) : DHO w a l ≠ LamX.CodeO c q := fun z => by
  unfold DHO LamX.CodeO at z
  have e : DictV w a l = _ := HO.ext.inj z
  let ob : Obj := ⟨.none, none, .fields #[.none, .str q 0], #[]⟩
  let h0 : Heap := ⟨Array.replicate (c + 1) ob, {}⟩
  have hc : h0.get? c = some ob := by
    have : (Array.replicate (c + 1) ob)[c]? = some ob := by simp
    show (match (Array.replicate (c + 1) ob)[c]? with | some ⟨_, _, .freed, _⟩ => none | o => o) = _
    rw [this]
  have hd : DictV w a l h0 := by
    rw [e]
    exact ⟨ob, #[.none, .str q 0], 0, hc, rfl, rfl⟩
  obtain ⟨_, o, es, ep, h1, _, h2, _⟩ := hd
  have h3 : (Array.replicate (c + 1) ob)[a]? = some o := by
    have h1' : (match (Array.replicate (c + 1) ob)[a]? with | some ⟨_, _, .freed, _⟩ => none | o => o) = some o := h1
    split at h1'
    · cases h1'
    · exact h1'
  rw [Array.getElem?_replicate] at h3
  split at h3
  · cases h3
    cases h2
  · cases h3
def Pl (o : HO) : Prop := (∀ ps, o ≠ .tbl ps) ∧ ∀ c q, o ≠ LamX.CodeO c q
theorem pl_dho {w : World} {a : Addr} {l : List EnV} : Pl (DHO w a l) := ⟨dho_ne, dho_code⟩
theorem dhoo_ne {w : World} {a : Addr} {l : List EnV} {oo : Obj} (ps : Array Value) : DHOo w a l oo ≠ .tbl ps := fun z => by
  unfold DHOo at z
  cases z
theorem dhoo_code {w : World} {a : Addr} {l : List EnV} {oo : Obj} (c : Addr) (q : Str) : DHOo w a l oo ≠ LamX.CodeO c q := fun z => by
  unfold DHOo LamX.CodeO at z
  have e : (fun h : Heap => DictV w a l h ∧ h.get? a = some oo) = _ := HO.ext.inj z
  let ob : Obj := ⟨.none, none, .fields #[.none, .str q 0], #[]⟩
  let h0 : Heap := ⟨Array.replicate (c + 1) ob, {}⟩
  have hc : h0.get? c = some ob := by
    have : (Array.replicate (c + 1) ob)[c]? = some ob := by simp
    show (match (Array.replicate (c + 1) ob)[c]? with | some ⟨_, _, .freed, _⟩ => none | o => o) = _
    rw [this]
  have hd : DictV w a l h0 ∧ h0.get? a = some oo := by
    show (fun h : Heap => DictV w a l h ∧ h.get? a = some oo) h0
    rw [e]
    exact ⟨ob, #[.none, .str q 0], 0, hc, rfl, rfl⟩
  obtain ⟨⟨_, o, es, ep, h1, _, h2, _⟩, _⟩ := hd
  have h3 : (Array.replicate (c + 1) ob)[a]? = some o := by
    have h1' : (match (Array.replicate (c + 1) ob)[a]? with | some ⟨_, _, .freed, _⟩ => none | o => o) = some o := h1
    split at h1'
    · cases h1'
    · exact h1'
  rw [Array.getElem?_replicate] at h3
  split at h3
  · cases h3
    cases h2
  · cases h3
theorem pl_dhoo {w : World} {a : Addr} {l : List EnV} {oo : Obj} : Pl (DHOo w a l oo) := ⟨dhoo_ne, dhoo_code⟩
theorem lst_code {l : List V} (c : Addr) (q : Str) : (HO.lst l) ≠ LamX.CodeO c q := fun z => by
  unfold LamX.CodeO at z
  cases z
theorem ins_code {c0 dx : Addr} {fs : List (Str × V)} (c : Addr) (q : Str) : (HO.ins c0 dx fs) ≠ LamX.CodeO c q := fun z => by
  unfold LamX.CodeO at z
  cases z
theorem pl_lst {l : List V} : Pl (.lst l) := ⟨fun ps z => (by cases z), lst_code⟩
theorem pl_ins {c dx : Addr} {fs : List (Str × V)} : Pl (.ins c dx fs) := ⟨fun ps z => (by cases z), ins_code⟩
end Dk
namespace Pw
open PySem PySem.Spec PyProof.Rows L2 Evl Lw
inductive D where
  | non | bl (b : Bool) | int (i : Int) | str (s : Str) | ty (n : String)
  | tup (ds : List D) | lst (ds : List D) | scr (ds : List D) | obj (c : Nat) (ks : List Str) (ds : List D) | ref (n : Nat)
inductive SO where
  | lst (ds : List D) | obj (c : Nat) (ks : List Str) (ds : List D) | dct (kvs : List (D × D)) | dctL (kvs : List (D × D)) (o : Obj)
structure Cl where
  w : World
  f : Nat → Addr
  tabs : List (Addr × Str) := []
instance : CoeFun Cl (fun _ => Nat → Addr) := ⟨Cl.f⟩
mutual
def kOf : D → Option NestedKey
  | .non => some .none
  | .bl b => some (.num (if b = true then 1 else 0))
  | .int i => some (.num i)
  | .str s => some (.text s)
  | .tup ds => (kAll ds).map .tup
  | .lst _ | .scr _ | .obj _ _ _ | .ref _ | .ty _ => none
def kAll : List D → Option (List NestedKey)
  | [] => some []
  | d :: ds => (kOf d).bind fun k => (kAll ds).map fun ks => k :: ks
end
abbrev Sto := List SO
abbrev Env := List (Option D)
structure Ex (cl : Cl) (H H' : Hp) : Prop where
  n : LamX.ExtN H H'
  t : LamX.Tabs cl.tabs H → LamX.Tabs cl.tabs H'
theorem Ex.of {cl : Cl} {H H' : Hp} (e : Evl.Ex H H') : Ex cl H H' := ⟨LamX.ExtN.of e, fun h p hp => (h p hp).ext e⟩
theorem Ex.refl {cl : Cl} (H : Hp) : Ex cl H H := ⟨LamX.ExtN.refl H, fun h => h⟩
theorem Ex.trans {cl : Cl} {H H1 H2 : Hp} (a : Ex cl H H1) (b : Ex cl H1 H2) : Ex cl H H2 := ⟨a.n.trans b.n, fun h => b.t (a.t h)⟩
theorem Ex.lst {cl : Cl} {H H' : Hp} (e : Ex cl H H') {a : Addr} {l : List V} (h : H a = some (.lst l)) : H' a = some (.lst l) := e.n a _ h (fun ps z => by cases z)
theorem ex_rdL {cl : Cl} {H H' : Hp} {a : Addr} {l : List V} (e : Ex cl H H') (h : Rd H a (.lst l)) : Rd H' a (.lst l) := by
  rcases h with h | ⟨o, h⟩
  · exact .inl (e.n a _ h (fun ps z => by cases z))
  · exact .inr ⟨o, e.n a _ h (fun ps z => by cases z)⟩
theorem ex_rdT {cl : Cl} {H H' : Hp} {a : Addr} {l : List V} (e : Ex cl H H') (h : Rd H a (.tup l)) : Rd H' a (.tup l) := by
  rcases h with h | ⟨o, h⟩
  · exact .inl (e.n a _ h (fun ps z => by cases z))
  · exact .inr ⟨o, e.n a _ h (fun ps z => by cases z)⟩
theorem ex_l {K : PySem.W.Frag} {cl : Cl} {H H' : Hp} {a : Addr} {xs : List V} (e : Ex cl H H') (h : SqL K H a xs) : SqL K H' a xs := by
  rcases h with h | h
  · exact Or.inl (ex_rdL e h)
  · exact Or.inr h
theorem ex_t {K : PySem.W.Frag} {cl : Cl} {H H' : Hp} {a : Addr} {xs : List V} (e : Ex cl H H') (h : SqT K H a xs) : SqT K H' a xs := by
  rcases h with h | h
  · exact Or.inl (ex_rdT e h)
  · exact Or.inr h
noncomputable def cut (N : Addr → Prop) (H : Hp) : Hp := fun a => @ite _ (N a) (Classical.propDecidable _) none (H a)
section
variable {N N' : Addr → Prop} {H H' : Hp}
theorem cut_yes {a : Addr} (h : N a) : cut N H a = none := by unfold cut; simp [h]
theorem cut_no {a : Addr} (h : ¬ N a) : cut N H a = H a := by unfold cut; simp [h]
theorem cut_subE : Evl.Ex (cut N H) H := fun a o h => by
  by_cases n : N a
  · rw [cut_yes n] at h
    cases h
  · rw [cut_no n] at h
    exact h
theorem cut_sub {cl : Cl} : Ex cl (cut N H) H := .of cut_subE
theorem cut_ex {cl : Cl} (h : ∀ a o, ¬ N a → H a = some o → ¬ N' a ∧ H' a = some o) : Ex cl (cut N H) (cut N' H') := .of fun a o q => by
  by_cases n : N a
  · rw [cut_yes n] at q
    cases q
  · rw [cut_no n] at q
    obtain ⟨h1, h2⟩ := h a o n q
    rw [cut_no h1]
    exact h2
theorem cut_ex' {cl : Cl} (e : Ex cl (cut N H) (cut N' H')) {a : Addr} {o : HO} (n : ¬ N a) (h : H a = some o) (nt : ∀ ps, o ≠ .tbl ps) : ¬ N' a ∧ H' a = some o := by
  have q := e.n a o (by rw [cut_no n]; exact h) nt
  by_cases n' : N' a
  · rw [cut_yes n'] at q
    cases q
  · rw [cut_no n'] at q
    exact ⟨n', q⟩
end
def NM (M : Addr → Prop) (ρ : List Addr) : Addr → Prop := fun a => M a ∨ a ∈ ρ
mutual
inductive RelD (K : PySem.W.Frag) (cl : Cl) (ρ : List Addr) (H : Hp) : D → V → Prop
  | non : RelD K cl ρ H .non .non
  | bl (b : Bool) : RelD K cl ρ H (.bl b) (.bl b)
  | int (i : Int) : RelD K cl ρ H (.int i) (.int i)
  | str (s : Str) : RelD K cl ρ H (.str s) (.str s)
  | ty (n : String) : RelD K cl ρ H (.ty n) (.ty n)
  | tup {a : Addr} {vs : List V} {ds : List D} : SqT K H a vs → RelAll K cl ρ H ds vs → RelD K cl ρ H (.tup ds) (.ref a)
  | lst {a : Addr} {vs : List V} {ds : List D} : H a = some (.lst vs) → RelAll K cl ρ H ds vs → RelD K cl ρ H (.lst ds) (.ref a)
  | scr {a : Addr} {vs : List V} {ds : List D} : SqL K H a vs → RelAll K cl ρ H ds vs → RelD K cl ρ H (.scr ds) (.ref a)
  | obj {a dx : Addr} {c : Nat} {fs : List (Str × V)} {ks : List Str} {ds : List D} : H a = some (.ins (cl c) dx fs) → fs.map (·.1) = ks → RelAll K cl ρ H ds (fs.map (·.2)) → RelD K cl ρ H (.obj c ks ds) (.ref a)
  | ref {n : Nat} {a : Addr} : ρ[n]? = some a → RelD K cl ρ H (.ref n) (.ref a)
inductive RelAll (K : PySem.W.Frag) (cl : Cl) (ρ : List Addr) (H : Hp) : List D → List V → Prop
  | nil : RelAll K cl ρ H [] []
  | cons {d : D} {ds : List D} {v : V} {vs : List V} : RelD K cl ρ H d v → RelAll K cl ρ H ds vs → RelAll K cl ρ H (d :: ds) (v :: vs)
end
section
variable {K : PySem.W.Frag} {cl : Cl} {ρ ρ' : List Addr} {H H' : Hp}
theorem pre_get {α : Type} {ρ ρ' : List α} (p : ρ <+: ρ') {n : Nat} {a : α} (h : ρ[n]? = some a) : ρ'[n]? = some a := by
  obtain ⟨t, rfl⟩ := p
  rw [List.getElem?_append_left (List.getElem?_eq_some_iff.mp h).1]
  exact h
mutual
theorem RelD.up (p : ρ <+: ρ') (e : Ex cl H H') : ∀ (d : D) (v : V), RelD K cl ρ H d v → RelD K cl ρ' H' d v
  | .non, _, h => by cases h; exact .non
  | .bl b, _, h => by cases h; exact .bl b
  | .int i, _, h => by cases h; exact .int i
  | .str s, _, h => by cases h; exact .str s
  | .ty n, _, h => by cases h; exact .ty n
  | .tup ds, _, h => by
    cases h with
    | tup hs ha => exact .tup (ex_t e hs) (RelAll.up p e ds _ ha)
  | .lst ds, _, h => by
    cases h with
    | lst hs ha => exact .lst (e.lst hs) (RelAll.up p e ds _ ha)
  | .scr ds, _, h => by
    cases h with
    | scr hs ha => exact .scr (ex_l e hs) (RelAll.up p e ds _ ha)
  | .obj c ks ds, _, h => by
    cases h with
    | obj hs hk ha => exact .obj (e.n _ _ hs fun ps z => by cases z) hk (RelAll.up p e ds _ ha)
  | .ref n, _, h => by
    cases h with
    | ref hn => exact .ref (pre_get p hn)
theorem RelAll.up (p : ρ <+: ρ') (e : Ex cl H H') : ∀ (ds : List D) (vs : List V), RelAll K cl ρ H ds vs → RelAll K cl ρ' H' ds vs
  | [], _, h => by cases h; exact .nil
  | d :: ds, _, h => by
    cases h with
    | cons h1 h2 => exact .cons (RelD.up p e d _ h1) (RelAll.up p e ds _ h2)
end
theorem RelAll.len : ∀ {ds : List D} {vs : List V}, RelAll K cl ρ H ds vs → vs.length = ds.length
  | [], _, h => by cases h; rfl
  | d :: ds, _, h => by
    cases h with
    | cons h1 h2 => rw [List.length_cons, List.length_cons, RelAll.len h2]
theorem RelAll.get : ∀ {ds : List D} {vs : List V} {n : Nat} {d : D}, RelAll K cl ρ H ds vs → ds[n]? = some d → ∃ v, vs[n]? = some v ∧ RelD K cl ρ H d v
  | [], _, _, _, _, h => by simp at h
  | e :: ds, _, n, d, h, hd => by
    cases h with
    | cons h1 h2 =>
      cases n with
      | zero =>
        rw [List.getElem?_cons_zero] at hd ⊢
        cases hd
        exact ⟨_, rfl, h1⟩
      | succ n =>
        rw [List.getElem?_cons_succ] at hd ⊢
        exact RelAll.get h2 hd
theorem RelAll.back : ∀ {ds : List D} {vs : List V} {n : Nat} {v : V}, RelAll K cl ρ H ds vs → vs[n]? = some v → ∃ d, ds[n]? = some d ∧ RelD K cl ρ H d v
  | [], _, _, _, h, hv => by cases h; simp at hv
  | e :: ds, _, n, v, h, hv => by
    cases h with
    | cons h1 h2 =>
      cases n with
      | zero =>
        rw [List.getElem?_cons_zero] at hv ⊢
        cases hv
        exact ⟨_, rfl, h1⟩
      | succ n =>
        rw [List.getElem?_cons_succ] at hv ⊢
        exact RelAll.back h2 hv
theorem RelAll.app : ∀ {ds es : List D} {vs ws : List V}, RelAll K cl ρ H ds vs → RelAll K cl ρ H es ws → RelAll K cl ρ H (ds ++ es) (vs ++ ws)
  | [], _, _, _, h, k => by cases h; exact k
  | d :: ds, _, _, _, h, k => by
    cases h with
    | cons h1 h2 => exact .cons h1 (RelAll.app h2 k)
theorem RelAll.snoc {ds : List D} {vs : List V} {d : D} {y : V} (h : RelAll K cl ρ H ds vs) (k : RelD K cl ρ H d y) : RelAll K cl ρ H (ds ++ [d]) (vs ++ [y]) := h.app (.cons k .nil)
theorem RelAll.dropN : ∀ {ds : List D} {vs : List V} (n : Nat), RelAll K cl ρ H ds vs → RelAll K cl ρ H (ds.drop n) (vs.drop n)
  | _, _, 0, h => h
  | [], _, n + 1, h => by cases h; exact .nil
  | d :: ds, _, n + 1, h => by
    cases h with
    | cons h1 h2 => exact RelAll.dropN n h2
theorem RelAll.takeN : ∀ {ds : List D} {vs : List V} (n : Nat), RelAll K cl ρ H ds vs → RelAll K cl ρ H (ds.take n) (vs.take n)
  | _, _, 0, h => .nil
  | [], _, n + 1, h => by cases h; exact .nil
  | d :: ds, _, n + 1, h => by
    cases h with
    | cons h1 h2 => exact .cons h1 (RelAll.takeN n h2)
end
def RelKv (K : PySem.W.Frag) (cl : Cl) (ρ : List Addr) (H : Hp) (p : D × D) (x : Dk.EnV) : Prop := kOf p.1 = some x.1 ∧ x.1.depth ≤ 8 ∧ RelD K cl ρ H p.1 x.2.1 ∧ RelD K cl ρ H p.2 x.2.2
inductive RelSO (K : PySem.W.Frag) (cl : Cl) (ρ : List Addr) (H : Hp) (a : Addr) : SO → HO → Prop
  | lst {ds : List D} {vs : List V} : RelAll K cl ρ H ds vs → RelSO K cl ρ H a (.lst ds) (.lst vs)
  | obj {c : Nat} {dx : Addr} {fs : List (Str × V)} {ks : List Str} {ds : List D} : fs.map (·.1) = ks → RelAll K cl ρ H ds (fs.map (·.2)) → RelSO K cl ρ H a (.obj c ks ds) (.ins (cl c) dx fs)
  | dct {kvs : List (D × D)} {l : List Dk.EnV} : Paired (RelKv K cl ρ H) kvs l → (l.map (·.1)).Nodup → RelSO K cl ρ H a (.dct kvs) (Dk.DHO cl.w a l)
  | dctL {kvs : List (D × D)} {l : List Dk.EnV} {ob : Obj} : Paired (RelKv K cl ρ H) kvs l → (l.map (·.1)).Nodup → RelSO K cl ρ H a (.dctL kvs ob) (Dk.DHOo cl.w a l ob)
theorem RelSO.up {K : PySem.W.Frag} {cl : Cl} {ρ ρ' : List Addr} {H H' : Hp} {a : Addr} {o : SO} {u : HO} (p : ρ <+: ρ') (e : Ex cl H H') (h : RelSO K cl ρ H a o u) : RelSO K cl ρ' H' a o u := by
  cases h with
  | lst h => exact .lst (h.up p e _ _)
  | obj h1 h2 => exact .obj h1 (h2.up p e _ _)
  | dct h1 h2 => exact .dct (L2.Paired.mapP h1 fun x y h => ⟨h.1, h.2.1, RelD.up p e _ _ h.2.2.1, RelD.up p e _ _ h.2.2.2⟩) h2
  | dctL h1 h2 => exact .dctL (L2.Paired.mapP h1 fun x y h => ⟨h.1, h.2.1, RelD.up p e _ _ h.2.2.1, RelD.up p e _ _ h.2.2.2⟩) h2
structure G (K : PySem.W.Frag) (cl : Cl) (M : Addr → Prop) (ρ : List Addr) (S : Sto) (H : Hp) : Prop where
  live : ∀ a, M a → ∃ o, H a = some o ∧ Dk.Pl o
  dis : ∀ a ∈ ρ, ¬ M a
  nd : ρ.Nodup
  len : ρ.length = S.length
  sto : ∀ (n : Nat) o a, S[n]? = some o → ρ[n]? = some a → ∃ u, H a = some u ∧ RelSO K cl ρ (cut (NM M ρ) H) a o u
  tab : LamX.Tabs cl.tabs (cut (NM M ρ) H)
structure Stp (cl : Cl) (M : Addr → Prop) (ρ : List Addr) (H : Hp) (ρ' : List Addr) (H' : Hp) : Prop where
  pre : ρ <+: ρ'
  ex : Ex cl (cut (NM M ρ) H) (cut (NM M ρ') H')
  keep : ∀ a, M a → H' a = H a
theorem Stp.refl {cl : Cl} {M : Addr → Prop} {ρ : List Addr} {H : Hp} : Stp cl M ρ H ρ H := ⟨List.prefix_refl _, Ex.refl _, fun _ _ => rfl⟩
theorem Stp.trans {cl : Cl} {M : Addr → Prop} {ρ ρ1 ρ2 : List Addr} {H H1 H2 : Hp} (a : Stp cl M ρ H ρ1 H1) (b : Stp cl M ρ1 H1 ρ2 H2) : Stp cl M ρ H ρ2 H2 :=
  ⟨a.pre.trans b.pre, a.ex.trans b.ex, fun x m => (b.keep x m).trans (a.keep x m)⟩
structure RE (K : PySem.W.Frag) (cl : Cl) (ρ : List Addr) (H : Hp) (env : Env) (σ : L2.St) : Prop where
  len : env.length = σ.length
  at' : ∀ (i : Nat) d, env[i]? = some (some d) → ∃ v, σ[i]? = some (some v) ∧ RelD K cl ρ H d v
section
variable {K : PySem.W.Frag} {cl : Cl} {M : Addr → Prop} {ρ ρ' : List Addr} {S : Sto} {H H' : Hp} {env : Env} {σ : L2.St}
theorem RE.up (r : RE K cl ρ (cut (NM M ρ) H) env σ) (s : Stp cl M ρ H ρ' H') : RE K cl ρ' (cut (NM M ρ') H') env σ :=
  ⟨r.len, fun i d h => by
    obtain ⟨v, h1, h2⟩ := r.at' i d h
    exact ⟨v, h1, h2.up s.pre s.ex d v⟩⟩
theorem RE.set {H : Hp} (r : RE K cl ρ H env σ) {d : D} {v : V} (i : Nat) (h : RelD K cl ρ H d v) : RE K cl ρ H (env.set i (some d)) (σ.set i (some v)) :=
  ⟨by rw [List.length_set, List.length_set, r.len], fun j e he => by
    by_cases hij : i = j
    · subst hij
      have hl : i < env.length := by
        have := (List.getElem?_eq_some_iff.mp he).1
        rw [List.length_set] at this
        exact this
      rw [List.getElem?_set_self hl] at he
      cases he
      exact ⟨v, List.getElem?_set_self (by rw [← r.len]; exact hl), h⟩
    · rw [List.getElem?_set_ne hij] at he ⊢
      exact r.at' j e he⟩
theorem RE.none {H : Hp} (r : RE K cl ρ H env σ) (i : Nat) : RE K cl ρ H (env.set i .none) (σ.set i .none) :=
  ⟨by rw [List.length_set, List.length_set, r.len], fun j e he => by
    by_cases hij : i = j
    · subst hij
      have hl : i < env.length := by
        have := (List.getElem?_eq_some_iff.mp he).1
        rw [List.length_set] at this
        exact this
      rw [List.getElem?_set_self hl] at he
      cases he
    · rw [List.getElem?_set_ne hij] at he ⊢
      exact r.at' j e he⟩
def wipeE (env : Env) : List Nat → Env
  | [] => env
  | v :: vs => (wipeE env vs).set v .none
theorem RE.wipe {H : Hp} (r : RE K cl ρ H env σ) : ∀ ws : List Nat, RE K cl ρ H (wipeE env ws) (wipe σ ws)
  | [] => r
  | v :: vs => (RE.wipe r vs).none v
theorem RelSO.nt {K : PySem.W.Frag} {cl : Cl} {ρ : List Addr} {H : Hp} {a : Addr} {o : SO} {u : HO} (h : RelSO K cl ρ H a o u) : Dk.Pl u := by
  cases h with
  | lst => exact Dk.pl_lst
  | obj => exact Dk.pl_ins
  | dct => exact Dk.pl_dho
  | dctL => exact Dk.pl_dhoo
theorem G.liveR (g : G K cl M ρ S H) {a : Addr} (h : a ∈ ρ) : ∃ o, H a = some o ∧ Dk.Pl o := by
  obtain ⟨n, hn⟩ := List.mem_iff_getElem?.mp h
  have hl : n < S.length := by
    rw [← g.len]
    exact (List.getElem?_eq_some_iff.mp hn).1
  obtain ⟨u, hu, r⟩ := g.sto n _ a (List.getElem?_eq_getElem hl) hn
  exact ⟨u, hu, r.nt⟩
theorem G.off (g : G K cl M ρ S H) {p : Addr} (h : H p = none) : ¬ NM M ρ p := fun n => by
  obtain ⟨o, e, _⟩ := n.elim (g.live p) g.liveR
  rw [h] at e
  cases e
theorem G.new (g : G K cl M ρ S H) {p : Addr} (o : HO) (h : H p = none) : G K cl M ρ S (upd H p o) ∧ Stp cl M ρ H ρ (upd H p o) ∧ cut (NM M ρ) (upd H p o) p = some o := by
  have hp := g.off h
  have e : Ex cl (cut (NM M ρ) H) (cut (NM M ρ) (upd H p o)) := cut_ex fun a u n q => ⟨n, by rw [upd_ne (ne_of_none q h)]; exact q⟩
  have k : ∀ a, NM M ρ a → (upd H p o) a = H a := fun a n => upd_ne fun z => hp (z ▸ n)
  refine ⟨⟨fun a m => by rw [k a (.inl m)]; exact g.live a m, g.dis, g.nd, g.len, fun n so a hs ha => ?_, e.t g.tab⟩, ⟨List.prefix_refl _, e, fun a m => k a (.inl m)⟩, by rw [cut_no hp, upd_same]⟩
  obtain ⟨u, hu, r⟩ := g.sto n so a hs ha
  exact ⟨u, by rw [k a (.inr (List.mem_of_getElem? ha))]; exact hu, r.up (List.prefix_refl _) e⟩
theorem G.alloc (g : G K cl M ρ S H) {p : Addr} {o : HO} {so : SO} (h : H p = none) (r : RelSO K cl ρ (cut (NM M ρ) H) p so o) : G K cl M (ρ ++ [p]) (S ++ [so]) (upd H p o) ∧ Stp cl M ρ H (ρ ++ [p]) (upd H p o) := by
  have hp := g.off h
  have hpre : ρ <+: ρ ++ [p] := List.prefix_append _ _
  have e : Ex cl (cut (NM M ρ) H) (cut (NM M (ρ ++ [p])) (upd H p o)) := cut_ex fun a u n q => by
    have ne : a ≠ p := ne_of_none q h
    refine ⟨fun z => ?_, by rw [upd_ne ne]; exact q⟩
    rcases z with z | z
    · exact n (.inl z)
    · rcases List.mem_append.mp z with z | z
      · exact n (.inr z)
      · exact ne (List.mem_singleton.mp z)
  have k : ∀ a, NM M ρ a → (upd H p o) a = H a := fun a n => upd_ne fun z => hp (z ▸ n)
  refine ⟨⟨fun a m => by rw [k a (.inl m)]; exact g.live a m, fun a ha => ?_, ?_, by rw [List.length_append, List.length_append, g.len]; rfl, fun n s a hs ha => ?_, e.t g.tab⟩, ⟨hpre, e, fun a m => k a (.inl m)⟩⟩
  · rcases List.mem_append.mp ha with ha | ha
    · exact g.dis a ha
    · rw [List.mem_singleton.mp ha]
      exact fun m => hp (.inl m)
  · refine List.nodup_append.mpr ⟨g.nd, by simp, fun a ha b hb z => ?_⟩
    rw [List.mem_singleton.mp hb] at z
    exact hp (.inr (z ▸ ha))
  · by_cases hn : n < S.length
    · rw [List.getElem?_append_left hn] at hs
      rw [List.getElem?_append_left (by rw [g.len]; exact hn)] at ha
      obtain ⟨u, hu, r⟩ := g.sto n s a hs ha
      exact ⟨u, by rw [k a (.inr (List.mem_of_getElem? ha))]; exact hu, r.up hpre e⟩
    · have hl := (List.getElem?_eq_some_iff.mp hs).1
      rw [List.length_append] at hl
      have hn' : n = S.length := by
        have : [so].length = 1 := rfl
        omega
      subst hn'
      rw [List.getElem?_append_right (Nat.le_refl _), Nat.sub_self] at hs
      rw [List.getElem?_append_right (by rw [g.len]; exact Nat.le_refl _), g.len, Nat.sub_self] at ha
      cases hs
      cases ha
      exact ⟨o, upd_same, r.up hpre e⟩
theorem G.put (g : G K cl M ρ S H) {n : Nat} {a : Addr} {o : HO} {so : SO} (ha : ρ[n]? = some a) (r : RelSO K cl ρ (cut (NM M ρ) H) a so o) : G K cl M ρ (S.set n so) (upd H a o) ∧ Stp cl M ρ H ρ (upd H a o) := by
  have hm : a ∈ ρ := List.mem_of_getElem? ha
  have e : Ex cl (cut (NM M ρ) H) (cut (NM M ρ) (upd H a o)) := cut_ex fun b u nb q => ⟨nb, by rw [upd_ne fun z => nb (.inr (by rw [z]; exact hm))]; exact q⟩
  have k : ∀ b, M b → (upd H a o) b = H b := fun b m => upd_ne fun z => g.dis a hm (z ▸ m)
  refine ⟨⟨fun b m => by rw [k b m]; exact g.live b m, g.dis, g.nd, by rw [List.length_set, g.len], fun j s b hs hb => ?_, e.t g.tab⟩, ⟨List.prefix_refl _, e, k⟩⟩
  by_cases hj : n = j
  · subst hj
    rw [ha] at hb
    cases hb
    have hl : n < S.length := by
      rw [← g.len]
      exact (List.getElem?_eq_some_iff.mp ha).1
    rw [List.getElem?_set_self hl] at hs
    cases hs
    exact ⟨o, upd_same, r.up (List.prefix_refl _) e⟩
  · rw [List.getElem?_set_ne hj] at hs
    obtain ⟨u, hu, r⟩ := g.sto j s b hs hb
    have ne : b ≠ a := fun z => by
      rw [z] at hb
      obtain ⟨hl1, e1⟩ := List.getElem?_eq_some_iff.mp hb
      obtain ⟨hl2, e2⟩ := List.getElem?_eq_some_iff.mp ha
      exact hj ((List.getElem_inj g.nd).mp (e2.trans e1.symm))
    exact ⟨u, by rw [upd_ne ne]; exact hu, r.up (List.prefix_refl _) e⟩
end
end Pw
namespace Lw
open PySem PySem.Spec PyProof.Rows L2 Evl
noncomputable def cutN (N : Addr → Prop) (H : Hp) : Hp := fun a => @ite _ (N a) (Classical.propDecidable _) none (H a)
def Live (N : Addr → Prop) (H : Hp) : Prop := ∀ a, N a → H a ≠ none
section
variable {N : Addr → Prop} {H H' H1 : Hp}
theorem cutN_yes {a : Addr} (h : N a) : cutN N H a = none := by unfold cutN; simp [h]
theorem cutN_no {a : Addr} (h : ¬ N a) : cutN N H a = H a := by unfold cutN; simp [h]
theorem cutN_ex (e : Ex H H') : Ex (cutN N H) (cutN N H') := fun a o h => by
  by_cases n : N a
  · rw [cutN_yes n] at h
    cases h
  · rw [cutN_no n] at h ⊢
    exact e a o h
theorem Live.ex (L : Live N H) (e : Ex H H') : Live N H' := fun a n h => by
  cases q : H a with
  | none => exact L a n q
  | some o => rw [e a o q] at h; cases h
theorem Live.off (L : Live N H) {a : Addr} (h : H a = none) : ¬ N a := fun n => L a n h
def plusN (N : Addr → Prop) (p : Addr) : Addr → Prop := fun a => N a ∨ a = p
theorem Live.plus {p : Addr} {o : HO} (L : Live N H) (e : Ex H H') (h : H' p = some o) : Live (plusN N p) H' := fun a n => by
  rcases n with n | n
  · exact L.ex e a n
  · rw [n, h]
    intro z
    cases z
theorem cutN_plus {p : Addr} (hp : H p = none) (e : Ex H H') : Ex (cutN N H) (cutN (plusN N p) H') := fun a o h => by
  by_cases n : N a
  · rw [cutN_yes n] at h
    cases h
  · rw [cutN_no n] at h
    have ne : a ≠ p := fun z => by rw [z, hp] at h; cases h
    rw [cutN_no (fun z => z.elim n ne)]
    exact e a o h
end
end Lw
namespace L2
open PySem PySem.Spec PyProof.Rows Evl
mutual
theorem Dp.ex {K : PySem.W.Frag} {H H' : Hp} (e : Ex H H') : ∀ (d : PyData) (v : V), Dp K H v d → Dp K H' v d
  | .none, _, h => by
    cases h
    exact .non
  | .bool b, _, h => by
    cases h
    exact .bl b
  | .int i, _, h => by
    cases h
    exact .int i
  | .str x, _, h => by
    cases h
    exact .str x
  | .list ds, _, h => by
    cases h with
    | lst hs ha => exact .lst (ex_l e hs) (DpAll.ex e ds _ ha)
  | .tuple ds, _, h => by
    cases h with
    | tup hs ha => exact .tup (ex_t e hs) (DpAll.ex e ds _ ha)
  | .dict _, _, h => by cases h
theorem DpAll.ex {K : PySem.W.Frag} {H H' : Hp} (e : Ex H H') : ∀ (ds : List PyData) (vs : List V), DpAll K H vs ds → DpAll K H' vs ds
  | [], _, h => by
    cases h
    exact .nil
  | d :: ds, _, h => by
    cases h with
    | cons h1 h2 => exact .cons (Dp.ex e d _ h1) (DpAll.ex e ds _ h2)
end
section
variable {K : PySem.W.Frag} {H : Hp} {ds es : List PyData} {vs : List V} {d : PyData}
theorem DpAll.len : ∀ {ds : List PyData} {vs : List V}, DpAll K H vs ds → vs.length = ds.length
  | [], _, h => by cases h; rfl
  | d :: ds, _, h => by
    cases h with
    | cons h1 h2 => rw [List.length_cons, List.length_cons, DpAll.len h2]
theorem DpAll.get : ∀ {ds : List PyData} {vs : List V} {n : Nat} {d : PyData}, DpAll K H vs ds → ds[n]? = some d → ∃ v, vs[n]? = some v ∧ Dp K H v d
  | [], _, _, _, _, h => by simp at h
  | e :: ds, _, n, d, h, hd => by
    cases h with
    | cons h1 h2 =>
      cases n with
      | zero =>
        rw [List.getElem?_cons_zero] at hd ⊢
        cases hd
        exact ⟨_, rfl, h1⟩
      | succ n =>
        rw [List.getElem?_cons_succ] at hd ⊢
        exact DpAll.get h2 hd
theorem DpAll.back : ∀ {ds : List PyData} {vs : List V} {n : Nat} {v : V}, DpAll K H vs ds → vs[n]? = some v → ∃ d, ds[n]? = some d ∧ Dp K H v d
  | [], _, _, _, h, hv => by cases h; simp at hv
  | e :: ds, _, n, v, h, hv => by
    cases h with
    | cons h1 h2 =>
      cases n with
      | zero =>
        rw [List.getElem?_cons_zero] at hv ⊢
        cases hv
        exact ⟨_, rfl, h1⟩
      | succ n =>
        rw [List.getElem?_cons_succ] at hv ⊢
        exact DpAll.back h2 hv
theorem DpAll.app : ∀ {ds es : List PyData} {vs ws : List V}, DpAll K H vs ds → DpAll K H ws es → DpAll K H (vs ++ ws) (ds ++ es)
  | [], _, _, _, h, k => by cases h; exact k
  | d :: ds, _, _, _, h, k => by
    cases h with
    | cons h1 h2 => exact .cons h1 (DpAll.app h2 k)
theorem DpAll.snoc {y : V} (h : DpAll K H vs ds) (k : Dp K H y d) : DpAll K H (vs ++ [y]) (ds ++ [d]) := h.app (.cons k .nil)
end
end L2
namespace Lw
open PySem PySem.Spec PyProof.Rows L2 Evl
section
variable {K : PySem.W.Frag} {N : Addr → Prop} {σ : L2.St} {H H' : Hp} {te ta tb : TE} {tr : TA} {tt : TT} {D : Ends} {tz tu : TS} {v : V} {d d' : PyData} {ds es : List PyData} {vs : List V} {g : TG}
def EvD (K : PySem.W.Frag) (N : Addr → Prop) (te : TE) (σ : L2.St) (H : Hp) (d : PyData) : Prop := Live N H → ∀ H1, Ex H H1 → ∀ Q : VK, (∀ v H2, Ex H1 H2 → Dp K (cutN N H2) v d → Q v H2) → te σ H1 Q
theorem EvD.mono (e : Ex H H') (L : Live N H) (h : EvD K N te σ H d) : EvD K N te σ H' d := fun _ H1 a Q q => h L H1 (e.trans a) Q q
theorem EvD.is (h : EvD K N te σ H d) (e : d = d') : EvD K N te σ H d' := e ▸ h
def rInD (K : PySem.W.Frag) (neg : Bool) : R2 := fun x y H Q => ∃ d es, Dp K H x d ∧ (Dp K H y (.list es) ∨ Dp K H y (.tuple es)) ∧ PyData.plainAll es = true ∧ d.plain = true ∧ d.depth ≤ 60 ∧ Q (.bl (if neg = true then !es.any fun z => PyData.eqv z d else es.any fun z => PyData.eqv z d)) H
theorem op_inD {X : Cx} (hu : X.A.units + 64 < cLine) : OpR X (compareOp .In) (rInD X.K false) := by
  intro pins s σ H x y v u Q I rx ry h
  obtain ⟨d, es, hd, he, pe, pd, dd, q⟩ := h
  obtain ⟨as, r1⟩ := Dp.reads I d x v hd rx
  rcases he with he | he
  · obtain ⟨bs, r2⟩ := Dp.reads I _ y u he ry
    exact SeqAt.in_list_data r2 r1 pe pd (by omega) ⟨.bl _, H, I, rfl, q⟩
  · obtain ⟨bs, r2⟩ := Dp.reads I _ y u he ry
    exact SeqAt.in_tuple_data r2 r1 pe pd (by omega) ⟨.bl _, H, I, rfl, q⟩
theorem op_niD {X : Cx} (hu : X.A.units + 64 < cLine) : OpR X (compareOp .NotIn) (rInD X.K true) := by
  intro pins s σ H x y v u Q I rx ry h
  obtain ⟨d, es, hd, he, pe, pd, dd, q⟩ := h
  obtain ⟨as, r1⟩ := Dp.reads I d x v hd rx
  rcases he with he | he
  · obtain ⟨bs, r2⟩ := Dp.reads I _ y u he ry
    exact SeqAt.notIn_list_data r2 r1 pe pd (by omega) ⟨.bl _, H, I, rfl, q⟩
  · obtain ⟨bs, r2⟩ := Dp.reads I _ y u he ry
    exact SeqAt.notIn_tuple_data r2 r1 pe pd (by omega) ⟨.bl _, H, I, rfl, q⟩
end
section
variable {K : PySem.W.Frag} {N : Addr → Prop} {σ : L2.St} {H H' : Hp} {te ta tb : TE} {tr : TA} {tt : TT} {D : Ends} {tz tu : TS} {v : V} {d d' : PyData} {ds es : List PyData} {g : TG}
def Grw (K : PySem.W.Frag) (N : Addr → Prop) (H : Hp) (p : Addr) (es : List PyData) (H' : Hp) : Prop := H p = none ∧ Ex H H' ∧ ∃ acc, H' p = some (.lst acc) ∧ DpAll K (cutN (plusN N p) H') acc es
theorem Grw.ex {p : Addr} {H2 : Hp} (h : Grw K N H p es H') (e : Ex H' H2) : Grw K N H p es H2 := by
  obtain ⟨h1, h2, acc, h3, h4⟩ := h
  exact ⟨h1, h2.trans e, acc, e _ _ h3, DpAll.ex (cutN_ex e) _ _ h4⟩
theorem Grw.live {p : Addr} (L : Live N H) (h : Grw K N H p es H') : Live (plusN N p) H' := by
  obtain ⟨h1, h2, acc, h3, h4⟩ := h
  exact L.plus h2 h3
theorem Grw.sub {p : Addr} (h : Grw K N H p es H') : Ex (cutN N H) (cutN (plusN N p) H') := cutN_plus h.1 h.2.1
theorem Grw.nil {p : Addr} (hp : H p = none) (e : Ex H H') (h : H' p = some (.lst [])) : Grw K N H p [] H' := ⟨hp, e, [], h, .nil⟩
theorem Grw.dp {p : Addr} (L : Live N H) (h : Grw K N H p es H') : Dp K (cutN N H') (.ref p) (.list es) := by
  obtain ⟨h1, h2, acc, h3, h4⟩ := h
  refine .lst (sq_of ?_) (DpAll.ex (fun b o hb => ?_) _ _ h4)
  · rw [cutN_no (L.off h1)]
    exact h3
  · by_cases n : plusN N p b
    · rw [cutN_yes n] at hb
      cases hb
    · rw [cutN_no n] at hb
      rw [cutN_no (fun z => n (.inl z))]
      exact hb
end
end Lw
namespace Pw
open PySem PySem.Spec PyProof.Rows L2 Evl Lw
abbrev PEx := Env → Sto → (D → Sto → Prop) → Prop
abbrev PTx := Env → Sto → (Bool → Sto → Prop) → Prop
abbrev PAx := Env → Sto → (List D → Sto → Prop) → Prop
abbrev POx := Env → Sto → (Option Int → Sto → Prop) → Prop
structure PEnds where
  nx : Env → Sto → Prop
  rt : D → Sto → Prop
  bk : Env → Sto → Prop := fun _ _ => False
  ct : Env → Sto → Prop := fun _ _ => False
abbrev PSx := PEnds → Env → Sto → Prop
abbrev PGx := D → Env → Sto → (Env → Sto → Prop) → Prop
abbrev PIx := Env → Sto → (D → List D → Sto → Prop) → Prop
abbrev Op2 := Sto → D → D → (D → Prop) → Prop
abbrev OpN := Sto → List D → (D → Prop) → Prop
mutual
def D.pure : D → Bool
  | .non | .bl _ | .int _ | .str _ => true
  | .tup ds | .lst ds | .scr ds => pureAll ds
  | .ty _ | .obj _ _ _ | .ref _ => false
def pureAll : List D → Bool
  | [] => true
  | d :: ds => d.pure && pureAll ds
end
mutual
def D.py : D → PyData
  | .bl b => .bool b
  | .int i => .int i
  | .str s => .str s
  | .tup ds => .tuple (pyAll ds)
  | .lst ds | .scr ds => .list (pyAll ds)
  | .non | .ty _ | .obj _ _ _ | .ref _ => .none
def pyAll : List D → List PyData
  | [] => []
  | d :: ds => d.py :: pyAll ds
end
def D.dep (d : D) : Nat := d.py.depth
def D.eqv (a b : D) : Bool := PyData.eqv a.py b.py
mutual
theorem plain_py : ∀ d : D, d.py.plain = true
  | .non | .bl _ | .int _ | .str _ | .ty _ | .obj _ _ _ | .ref _ => by simp [D.py, PyData.plain]
  | .tup ds | .lst ds | .scr ds => by simp [D.py, PyData.plain, plain_pys ds]
theorem plain_pys : ∀ ds : List D, PyData.plainAll (pyAll ds) = true
  | [] => rfl
  | d :: ds => by simp [pyAll, PyData.plainAll, plain_py d, plain_pys ds]
end
mutual
theorem dp_of {K : PySem.W.Frag} {cl : Cl} {ρ : List Addr} {H : Hp} : ∀ (d : D) (v : V), d.pure = true → RelD K cl ρ H d v → Dp K H v d.py
  | .non, _, _, h => by cases h; exact .non
  | .bl b, _, _, h => by cases h; exact .bl b
  | .int i, _, _, h => by cases h; exact .int i
  | .str s, _, _, h => by cases h; exact .str s
  | .ty n, _, p, _ => by simp [D.pure] at p
  | .tup ds, _, p, h => by
    cases h with
    | tup hs ha => exact .tup hs (dps_of ds _ (by simpa [D.pure] using p) ha)
  | .lst ds, _, p, h => by
    cases h with
    | lst hs ha => exact .lst (sq_of hs) (dps_of ds _ (by simpa [D.pure] using p) ha)
  | .scr ds, _, p, h => by
    cases h with
    | scr hs ha => exact .lst hs (dps_of ds _ (by simpa [D.pure] using p) ha)
  | .obj _ _ _, _, p, _ => by simp [D.pure] at p
  | .ref _, _, p, _ => by simp [D.pure] at p
theorem dps_of {K : PySem.W.Frag} {cl : Cl} {ρ : List Addr} {H : Hp} : ∀ (ds : List D) (vs : List V), pureAll ds = true → RelAll K cl ρ H ds vs → DpAll K H vs (pyAll ds)
  | [], _, _, h => by cases h; exact .nil
  | d :: ds, _, p, h => by
    have p' : d.pure = true ∧ pureAll ds = true := by simpa [pureAll] using p
    cases h with
    | cons h1 h2 => exact .cons (dp_of d _ p'.1 h1) (dps_of ds _ p'.2 h2)
end
def itemsOf (S : Sto) : D → Option (List D)
  | .tup ds | .lst ds | .scr ds => some ds
  | .ref n => match S[n]? with
    | some (.lst ds) => some ds
    | _ => none
  | _ => none
def rs (S : Sto) : D → D
  | .ref n => match S[n]? with
    | some (.lst ds) => .lst ds
    | _ => .ref n
  | d => d
def isNon : D → Bool
  | .non => true
  | _ => false
section
variable {K : PySem.W.Frag} {cl : Cl} {M : Addr → Prop} {ρ ρ' : List Addr} {S : Sto} {H H' : Hp} {env : Env} {σ : L2.St}
theorem RelD.full {d : D} {v : V} (r : RelD K cl ρ (cut (NM M ρ) H) d v) : RelD K cl ρ H d v := r.up (List.prefix_refl _) cut_sub d v
theorem RelAll.full {d : List D} {v : List V} (r : RelAll K cl ρ (cut (NM M ρ) H) d v) : RelAll K cl ρ H d v := r.up (List.prefix_refl _) cut_sub d v
theorem G.lstAt (g : G K cl M ρ S H) {n : Nat} {a : Addr} {ds : List D} (ha : ρ[n]? = some a) (hs : S[n]? = some (.lst ds)) : ∃ vs, H a = some (.lst vs) ∧ RelAll K cl ρ (cut (NM M ρ) H) ds vs := by
  obtain ⟨u, hu, r⟩ := g.sto n _ a hs ha
  cases r with
  | lst r => exact ⟨_, hu, r⟩
theorem items_sq (g : G K cl M ρ S H) {d : D} {v : V} {ds : List D} (r : RelD K cl ρ (cut (NM M ρ) H) d v) (h : itemsOf S d = some ds) :
    ∃ a vs, v = .ref a ∧ (SqL K H a vs ∨ SqT K H a vs) ∧ RelAll K cl ρ (cut (NM M ρ) H) ds vs := by
  cases r with
  | tup hs ha => cases h; exact ⟨_, _, rfl, .inr (Evl.ex_t cut_subE hs), ha⟩
  | lst hs ha => cases h; exact ⟨_, _, rfl, .inl (sq_of (cut_subE _ _ hs)), ha⟩
  | scr hs ha => cases h; exact ⟨_, _, rfl, .inl (Evl.ex_l cut_subE hs), ha⟩
  | @ref n a hn =>
    unfold itemsOf at h
    simp only at h
    split at h
    · rename_i ds' he
      cases h
      obtain ⟨vs, hv, r⟩ := g.lstAt hn he
      exact ⟨a, vs, rfl, .inl (sq_of hv), r⟩
    · cases h
  | _ => cases h
theorem rs_rel (g : G K cl M ρ S H) {d : D} {v : V} (r : RelD K cl ρ (cut (NM M ρ) H) d v) : RelD K cl ρ H (rs S d) v := by
  cases r with
  | @ref n a hn =>
    unfold rs
    simp only
    split
    · rename_i ds' he
      obtain ⟨vs, hv, r⟩ := g.lstAt hn he
      exact .lst hv r.full
    · exact .ref hn
  | non => exact .non
  | bl => exact .bl _
  | int => exact .int _
  | str => exact .str _
  | ty => exact .ty _
  | tup hs ha => exact (RelD.tup hs ha).full
  | lst hs ha => exact (RelD.lst hs ha).full
  | scr hs ha => exact (RelD.scr hs ha).full
  | obj hs hk ha => exact (RelD.obj hs hk ha).full
theorem RelAll.atI {ds : List D} {vs : List V} {i : Int} {d : D} (r : RelAll K cl ρ H ds vs) (h : L2.atI ds i = some d) : ∃ v, L2.atI vs i = some v ∧ RelD K cl ρ H d v := by
  unfold L2.atI at h ⊢
  rw [r.len]
  cases e : ixN ds.length i with
  | none => rw [e] at h; cases h
  | some j =>
    rw [e] at h
    exact r.get h
end
section
variable (K : PySem.W.Frag) (cl : Cl)
def SmE (te : TE) (pe : PEx) : Prop := ∀ (M : Addr → Prop) (ρ : List Addr) (S : Sto) (H : Hp) (env : Env) (σ : L2.St), G K cl M ρ S H → RE K cl ρ (cut (NM M ρ) H) env σ → ∀ (k : D → Sto → Prop) (Q : VK), pe env S k →
  (∀ ρ' H' S' d v, Stp cl M ρ H ρ' H' → G K cl M ρ' S' H' → RelD K cl ρ' (cut (NM M ρ') H') d v → k d S' → Q v H') → te σ H Q
def SmT (te : TT) (pe : PTx) : Prop := ∀ (M : Addr → Prop) (ρ : List Addr) (S : Sto) (H : Hp) (env : Env) (σ : L2.St), G K cl M ρ S H → RE K cl ρ (cut (NM M ρ) H) env σ → ∀ (k : Bool → Sto → Prop) (Q : Bool → Hp → Prop), pe env S k →
  (∀ ρ' H' S' b, Stp cl M ρ H ρ' H' → G K cl M ρ' S' H' → k b S' → Q b H') → te σ H Q
def SmA (te : TA) (pe : PAx) : Prop := ∀ (M : Addr → Prop) (ρ : List Addr) (S : Sto) (H : Hp) (env : Env) (σ : L2.St), G K cl M ρ S H → RE K cl ρ (cut (NM M ρ) H) env σ → ∀ (k : List D → Sto → Prop) (Q : List V → Hp → Prop), pe env S k →
  (∀ ρ' H' S' ds vs, Stp cl M ρ H ρ' H' → G K cl M ρ' S' H' → RelAll K cl ρ' (cut (NM M ρ') H') ds vs → k ds S' → Q vs H') → te σ H Q
def SmO (te : TO) (pe : POx) : Prop := ∀ (M : Addr → Prop) (ρ : List Addr) (S : Sto) (H : Hp) (env : Env) (σ : L2.St), G K cl M ρ S H → RE K cl ρ (cut (NM M ρ) H) env σ → ∀ (k : Option Int → Sto → Prop) (Q : Option Int → Hp → Prop), pe env S k →
  (∀ ρ' H' S' b, Stp cl M ρ H ρ' H' → G K cl M ρ' S' H' → k b S' → Q b H') → te σ H Q
def SmR (r : R2) (op : Op2) : Prop := ∀ (M : Addr → Prop) (ρ : List Addr) (S : Sto) (H : Hp) (x y : D) (v w : V), G K cl M ρ S H → RelD K cl ρ (cut (NM M ρ) H) x v → RelD K cl ρ (cut (NM M ρ) H) y w → ∀ (k : D → Prop) (Q : VK), op S x y k →
  (∀ H' d u, Stp cl M ρ H ρ H' → G K cl M ρ S H' → RelD K cl ρ (cut (NM M ρ) H') d u → k d → Q u H') → r v w H Q
def SmC (r : List V → Hp → VK → Prop) (op : OpN) : Prop := ∀ (M : Addr → Prop) (ρ : List Addr) (S : Sto) (H : Hp) (xs : List D) (vs : List V), G K cl M ρ S H → RelAll K cl ρ (cut (NM M ρ) H) xs vs → ∀ (k : D → Prop) (Q : VK), op S xs k →
  (∀ H' d u, Stp cl M ρ H ρ H' → G K cl M ρ S H' → RelD K cl ρ (cut (NM M ρ) H') d u → k d → Q u H') → r vs H Q
end
def pVar (i : Nat) : PEx := fun env S k => ∃ d, env[i]? = some (some d) ∧ k d S
def pC (d : D) : PEx := fun _ S k => k d S
def pOp (op : Op2) (pa pb : PEx) : PEx := fun env S k => pa env S fun x S1 => pb env S1 fun y S2 => op S2 x y fun z => k z S2
def pNil : PAx := fun _ S k => k [] S
def pCons (pa : PEx) (pr : PAx) : PAx := fun env S k => pa env S fun x S1 => pr env S1 fun xs S2 => k (x :: xs) S2
def pTup (pa : PAx) : PEx := fun env S k => pa env S fun xs S1 => xs.length ≤ 100000 ∧ k (.tup xs) S1
def pLst (pa : PAx) : PEx := fun env S k => pa env S fun xs S1 => xs.length ≤ 100000 ∧ k (.lst xs) S1
def pLstM (pa : PAx) : PEx := fun env S k => pa env S fun xs S1 => xs.length ≤ 100000 ∧ k (.ref S1.length) (S1 ++ [.lst xs])
def pNot (pa : PEx) : PEx := fun env S k => pa env S fun x S1 => ∃ b, x = .bl b ∧ k (.bl (!b)) S1
def pAndV (pa pb : PEx) : PEx := fun env S k => pa env S fun x S1 => ∃ c, x = .bl c ∧ if c = true then pb env S1 k else k (.bl false) S1
def pOrV (pa pb : PEx) : PEx := fun env S k => pa env S fun x S1 => ∃ c, x = .bl c ∧ if c = true then k (.bl true) S1 else pb env S1 k
def pIf (pt : PTx) (pa pb : PEx) : PEx := fun env S k => pt env S fun c S1 => if c = true then pa env S1 k else pb env S1 k
def pB (pa : PEx) : PTx := fun env S k => pa env S fun x S1 => ∃ c, x = .bl c ∧ k c S1
def pAnd (pa pb : PTx) : PTx := fun env S k => pa env S fun c S1 => if c = true then pb env S1 k else k false S1
def pOr (pa pb : PTx) : PTx := fun env S k => pa env S fun c S1 => if c = true then k true S1 else pb env S1 k
def pNotT (pa : PTx) : PTx := fun env S k => pa env S fun c S1 => k (!c) S1
def pNoPart : POx := fun _ S k => k none S
def pPart (pa : PEx) : POx := fun env S k => pa env S fun x S1 => ∃ i, x = .int i ∧ k (some i) S1
def pCB (op : OpN) (pa : PAx) : PEx := fun env S k => pa env S fun xs S1 => op S1 xs fun d => k d S1
def pUnN (pa : PEx) : PEx := fun env S k => pa env S fun x S1 => ∃ i, x = .int i ∧ k (.int (-i)) S1
section
variable {K : PySem.W.Frag} {cl : Cl} {te ta tb : TE} {pe pa pb : PEx} {tt tu : TT} {pt pu : PTx} {tr : TA} {pr : PAx}
theorem sm_var {i : Nat} : SmE K cl (tVar i) (pVar i) := fun M ρ S H env σ g re k Q ⟨d, hd, hk⟩ q => by
  obtain ⟨v, hv, r⟩ := re.at' i d hd
  exact ⟨v, hv, q ρ H S d v .refl g r hk⟩
theorem sm_int {i : Int} : SmE K cl (tC (.int i)) (pC (.int i)) := fun M ρ S H env σ g re k Q h q => q ρ H S _ _ .refl g (.int i) h
theorem sm_str {i : Str} : SmE K cl (tC (.str i)) (pC (.str i)) := fun M ρ S H env σ g re k Q h q => q ρ H S _ _ .refl g (.str i) h
theorem sm_bl {i : Bool} : SmE K cl (tC (.bl i)) (pC (.bl i)) := fun M ρ S H env σ g re k Q h q => q ρ H S _ _ .refl g (.bl i) h
theorem sm_non : SmE K cl (tC .non) (pC .non) := fun M ρ S H env σ g re k Q h q => q ρ H S _ _ .refl g .non h
theorem sm_ty {i : String} : SmE K cl (tC (.ty i)) (pC (.ty i)) := fun M ρ S H env σ g re k Q h q => q ρ H S _ _ .refl g (.ty i) h
theorem sm_op {r : R2} {op : Op2} (hr : SmR K cl r op) (ha : SmE K cl ta pa) (hb : SmE K cl tb pb) : SmE K cl (tOp r ta tb) (pOp op pa pb) := fun M ρ S H env σ g re k Q h q =>
  ha M ρ S H env σ g re _ _ h fun ρ1 H1 S1 x v s1 g1 rx h1 => hb M ρ1 S1 H1 env σ g1 (re.up s1) _ _ h1 fun ρ2 H2 S2 y w s2 g2 ry h2 =>
    hr M ρ2 S2 H2 x y v w g2 (rx.up s2.pre s2.ex _ _) ry _ _ h2 fun H3 z u s3 g3 rz hk => q ρ2 H3 S2 z u ((s1.trans s2).trans s3) g3 rz hk
theorem sm_nil : SmA K cl tNil pNil := fun M ρ S H env σ g re k Q h q => q ρ H S _ _ .refl g .nil h
theorem sm_cons (ha : SmE K cl ta pa) (hr : SmA K cl tr pr) : SmA K cl (tCons ta tr) (pCons pa pr) := fun M ρ S H env σ g re k Q h q =>
  ha M ρ S H env σ g re _ _ h fun ρ1 H1 S1 x v s1 g1 rx h1 => hr M ρ1 S1 H1 env σ g1 (re.up s1) _ _ h1 fun ρ2 H2 S2 ys ws s2 g2 ry h2 =>
    q ρ2 H2 S2 _ _ (s1.trans s2) g2 (.cons (rx.up s2.pre s2.ex _ _) ry) h2
theorem sm_tup (hr : SmA K cl tr pr) : SmE K cl (tTup tr) (pTup pr) := fun M ρ S H env σ g re k Q h q =>
  hr M ρ S H env σ g re _ _ h fun ρ1 H1 S1 xs vs s1 g1 rx ⟨hl, hk⟩ => ⟨sz_of (by rw [rx.len]; exact hl), fun p hp => by
    obtain ⟨g2, s2, hc⟩ := g1.new (.tup vs) hp
    exact q ρ1 _ S1 _ _ (s1.trans s2) g2 (.tup (st_of hc) (rx.up s2.pre s2.ex _ _)) hk⟩
theorem sm_lst (hr : SmA K cl tr pr) : SmE K cl (tLst tr) (pLst pr) := fun M ρ S H env σ g re k Q h q =>
  hr M ρ S H env σ g re _ _ h fun ρ1 H1 S1 xs vs s1 g1 rx ⟨hl, hk⟩ => ⟨sz_of (by rw [rx.len]; exact hl), fun p hp => by
    obtain ⟨g2, s2, hc⟩ := g1.new (.lst vs) hp
    exact q ρ1 _ S1 _ _ (s1.trans s2) g2 (.lst hc (rx.up s2.pre s2.ex _ _)) hk⟩
theorem sm_lstM (hr : SmA K cl tr pr) : SmE K cl (tLst tr) (pLstM pr) := fun M ρ S H env σ g re k Q h q =>
  hr M ρ S H env σ g re _ _ h fun ρ1 H1 S1 xs vs s1 g1 rx ⟨hl, hk⟩ => ⟨sz_of (by rw [rx.len]; exact hl), fun p hp => by
    obtain ⟨g2, s2⟩ := g1.alloc (o := .lst vs) hp (.lst rx)
    exact q (ρ1 ++ [p]) _ _ _ _ (s1.trans s2) g2 (.ref (by rw [← g1.len, List.getElem?_append_right (Nat.le_refl _), Nat.sub_self]; rfl)) hk⟩
theorem rel_bl {ρ : List Addr} {H : Hp} {b : Bool} {v : V} (h : RelD K cl ρ H (.bl b) v) : v = .bl b := by cases h; rfl
theorem rel_int {ρ : List Addr} {H : Hp} {b : Int} {v : V} (h : RelD K cl ρ H (.int b) v) : v = .int b := by cases h; rfl
theorem rel_str {ρ : List Addr} {H : Hp} {b : Str} {v : V} (h : RelD K cl ρ H (.str b) v) : v = .str b := by cases h; rfl
theorem sm_if (hc : SmT K cl tt pt) (ha : SmE K cl ta pa) (hb : SmE K cl tb pb) : SmE K cl (tIf tt ta tb) (pIf pt pa pb) := fun M ρ S H env σ g re k Q h q =>
  hc M ρ S H env σ g re _ _ h fun ρ1 H1 S1 b s1 g1 hk => by
    cases b with
    | false => exact hb M ρ1 S1 H1 env σ g1 (re.up s1) _ _ hk fun ρ2 H2 S2 y w s2 g2 ry h2 => q ρ2 H2 S2 y w (s1.trans s2) g2 ry h2
    | true => exact ha M ρ1 S1 H1 env σ g1 (re.up s1) _ _ hk fun ρ2 H2 S2 y w s2 g2 ry h2 => q ρ2 H2 S2 y w (s1.trans s2) g2 ry h2
theorem sm_B (ha : SmE K cl ta pa) : SmT K cl (tB ta) (pB pa) := fun M ρ S H env σ g re k Q h q =>
  ha M ρ S H env σ g re _ _ h fun ρ1 H1 S1 x v s1 g1 rx ⟨b, e, hk⟩ => by
    subst e
    exact ⟨b, rel_bl rx, q ρ1 H1 S1 _ s1 g1 hk⟩
theorem sm_test (ha : SmE K cl ta pa) : SmT K cl (tTest ta) (pB pa) := fun M ρ S H env σ g re k Q h q =>
  ha M ρ S H env σ g re _ _ h fun ρ1 H1 S1 x v s1 g1 rx ⟨b, e, hk⟩ => by
    subst e
    exact ⟨b, rel_bl rx, q ρ1 H1 S1 _ s1 g1 hk⟩
theorem sm_and (ha : SmT K cl tt pt) (hb : SmT K cl tu pu) : SmT K cl (tAnd tt tu) (pAnd pt pu) := fun M ρ S H env σ g re k Q h q =>
  ha M ρ S H env σ g re _ _ h fun ρ1 H1 S1 b s1 g1 hk => by
    cases b with
    | true => exact hb M ρ1 S1 H1 env σ g1 (re.up s1) _ _ hk fun ρ2 H2 S2 y s2 g2 h2 => q ρ2 H2 S2 y (s1.trans s2) g2 h2
    | false => exact q ρ1 H1 S1 _ s1 g1 hk
theorem sm_or (ha : SmT K cl tt pt) (hb : SmT K cl tu pu) : SmT K cl (tOr tt tu) (pOr pt pu) := fun M ρ S H env σ g re k Q h q =>
  ha M ρ S H env σ g re _ _ h fun ρ1 H1 S1 b s1 g1 hk => by
    cases b with
    | false => exact hb M ρ1 S1 H1 env σ g1 (re.up s1) _ _ hk fun ρ2 H2 S2 y s2 g2 h2 => q ρ2 H2 S2 y (s1.trans s2) g2 h2
    | true => exact q ρ1 H1 S1 _ s1 g1 hk
theorem sm_notT (ha : SmT K cl tt pt) : SmT K cl (tNot tt) (pNotT pt) := fun M ρ S H env σ g re k Q h q =>
  ha M ρ S H env σ g re _ _ h fun ρ1 H1 S1 b s1 g1 hk => q ρ1 H1 S1 _ s1 g1 hk
theorem sm_noPart : SmO K cl tNoPart pNoPart := fun M ρ S H env σ g re k Q h q => q ρ H S _ .refl g h
theorem sm_part (ha : SmE K cl ta pa) : SmO K cl (tPart ta) (pPart pa) := fun M ρ S H env σ g re k Q h q =>
  ha M ρ S H env σ g re _ _ h fun ρ1 H1 S1 x v s1 g1 rx ⟨i, e, hk⟩ => by
    subst e
    exact ⟨i, rel_int rx, q ρ1 H1 S1 _ s1 g1 hk⟩
theorem sm_cb {r : List V → Hp → VK → Prop} {op : OpN} (hr : SmC K cl r op) (ha : SmA K cl tr pr) : SmE K cl (tCB r tr) (pCB op pr) := fun M ρ S H env σ g re k Q h q =>
  ha M ρ S H env σ g re _ _ h fun ρ1 H1 S1 xs vs s1 g1 rx h1 => hr M ρ1 S1 H1 xs vs g1 rx _ _ h1 fun H2 d u s2 g2 rd hk => q ρ1 H2 S1 d u (s1.trans s2) g2 rd hk
end
end Pw
namespace Pw
open PySem PySem.Spec PyProof.Rows L2 Evl Lw
theorem or2 {X : Cx} {f : Value → Value → Sem Value} {r r' : R2} (h : OpR X f r) (h' : OpR X f r') : OpR X f (fun x y H Q => r x y H Q ∨ r' x y H Q) := by
  intro pins s σ H x y v u Q I rx ry q
  rcases q with q | q
  · exact h pins s σ H x y v u Q I rx ry q
  · exact h' pins s σ H x y v u Q I rx ry q
def rCatS : R2 := fun x y H Q => ∃ i j, x = .str i ∧ y = .str j ∧ i.length + j.length ≤ sizeLine ∧ Q (.str (i ++ j)) H
def uAdd (K : PySem.W.Frag) : R2 := fun x y H Q => rI0 (fun i j => .int (i + j)) x y H Q ∨ rCatS x y H Q ∨ rCatA K x y H Q ∨ rCat x y H Q
theorem uop_add {X : Cx} : OpR X (binaryOp .Add) (uAdd X.K) := or2 op_add (or2 op_add_str (or2 op_catA op_cat))
def uMul : R2 := fun x y H Q => rI CMul (fun i j => .int (i * j)) x y H Q ∨ rMulStr x y H Q ∨ rRep x y H Q
theorem uop_mul {X : Cx} : OpR X (binaryOp .Mult) uMul := or2 op_mul (or2 op_mul_str op_rep)
def uIx (K : PySem.W.Frag) : R2 := fun x y H Q => rIxL K x y H Q ∨ rIxT K x y H Q ∨ rIxS x y H Q
theorem uix {X : Cx} : IxR X (uIx X.K) := ix_list.or (ix_tup.or ix_str)
def uIn (K : PySem.W.Frag) : R2 := fun x y H Q => rInD K false x y H Q ∨ rInS x y H Q
theorem uop_in {X : Cx} (hu : X.A.units + 64 < cLine) : OpR X (compareOp .In) (uIn X.K) := or2 (op_inD hu) op_inS
def uNi (K : PySem.W.Frag) : R2 := fun x y H Q => rInD K true x y H Q ∨ rNotInS x y H Q
theorem uop_ni {X : Cx} (hu : X.A.units + 64 < cLine) : OpR X (compareOp .NotIn) (uNi X.K) := or2 (op_niD hu) op_notInS
def uLen (K : PySem.W.Frag) : List V → Hp → VK → Prop := fun xs H Q => (∃ z, xs = [.str z] ∧ z.length ≤ sizeLine ∧ Q (.int z.length) H) ∨ (∃ p ys, xs = [.ref p] ∧ (SqL K H p ys ∨ SqT K H p ys) ∧ Q (.int ys.length) H)
theorem ucall_len {X : Cx} : CallR X (.builtin "len") (uLen X.K) := call_len_str.or call_len_seq
def uSl (K : PySem.W.Frag) : V → Option Int → Option Int → Hp → VK → Prop := fun x lo hi H Q => rSlL K x lo hi H Q ∨ rSlA K x lo hi H Q ∨ rSlS x lo hi H Q
theorem usl {X : Cx} : SlR X (uSl X.K) := sl_list.or (sl_tupA.or sl_str)
def listOf (S : Sto) : D → Option (List D)
  | .lst ds => some ds
  | .ref n => match S[n]? with
    | some (.lst ds) => some ds
    | _ => none
  | _ => none
def addk : Op2 := fun S x y k => match x, y with
  | .int i, .int j => k (.int (i + j))
  | .str a, .str b => a.length + b.length ≤ 100000 ∧ k (.str (a ++ b))
  | .tup a, .tup b => a.length + b.length ≤ 100000 ∧ k (.tup (a ++ b))
  | x, y => ∃ a b, listOf S x = some a ∧ listOf S y = some b ∧ a.length + b.length ≤ 100000 ∧ k (.lst (a ++ b))
def subk : Op2 := fun _ x y k => match x, y with
  | .int i, .int j => k (.int (i - j))
  | _, _ => False
def mulk : Op2 := fun S x y k => match x, y with
  | .int i, .int j => CMul i j ∧ k (.int (i * j))
  | .str a, .int n => (1 ≤ n ∧ n ≤ 20000 ∧ a.length ≤ 200) ∧ k (.str (Txt.mul a n))
  | x, .int n => ∃ a, listOf S x = some a ∧ (0 ≤ n ∧ n ≤ 10000 ∧ a.length ≤ 10) ∧ k (.lst (List.replicate n.toNat a).flatten)
  | _, _ => False
def divk : Op2 := fun _ x y k => match x, y with
  | .int i, .int j => (0 < j ∧ j < 1073741824) ∧ k (.int (i / j))
  | _, _ => False
def modk : Op2 := fun _ x y k => match x, y with
  | .int i, .int j => 0 < j ∧ k (.int (i % j))
  | _, _ => False
def cmpk (f : Int → Int → Bool) : Op2 := fun _ x y k => match x, y with
  | .int i, .int j => k (.bl (f i j))
  | _, _ => False
def eqk : Op2 := fun S x y k => (rs S x).pure = true ∧ (rs S y).pure = true ∧ (rs S x).dep ≤ 60 ∧ k (.bl (D.eqv (rs S x) (rs S y)))
def nek : Op2 := fun S x y k => (rs S x).pure = true ∧ (rs S y).pure = true ∧ (rs S x).dep ≤ 60 ∧ k (.bl (!D.eqv (rs S x) (rs S y)))
def isk : Op2 := fun _ x y k => y = .non ∧ k (.bl (isNon x))
def ink : Op2 := fun S x y k => match y with
  | .str z => ∃ c, x = .str ⟨#[c]⟩ ∧ k (.bl (decide (c ∈ z.cps.toList)))
  | y => ∃ es, itemsOf S y = some es ∧ pureAll es = true ∧ x.pure = true ∧ x.dep ≤ 60 ∧ k (.bl (es.any fun z => D.eqv z x))
def nik : Op2 := fun S x y k => match y with
  | .str z => ∃ c, x = .str ⟨#[c]⟩ ∧ k (.bl (!decide (c ∈ z.cps.toList)))
  | y => ∃ es, itemsOf S y = some es ∧ pureAll es = true ∧ x.pure = true ∧ x.dep ≤ 60 ∧ k (.bl (!es.any fun z => D.eqv z x))
def nsk : Op2 := fun _ x y k => y = .non ∧ k (.bl (!isNon x))
def ixk : Op2 := fun S x y k => match y with
  | .int i => match x with
    | .str z => ∃ c, z.length ≤ 100000 ∧ atI z.cps.toList i = some c ∧ k (.str ⟨#[c]⟩)
    | x => ∃ ds d, itemsOf S x = some ds ∧ atI ds i = some d ∧ k d
  | _ => False
def lenk : OpN := fun S xs k => match xs with
  | [.str z] => z.length ≤ 100000 ∧ k (.int z.length)
  | [x] => ∃ ds, itemsOf S x = some ds ∧ k (.int ds.length)
  | _ => False
def int1k : OpN := fun _ xs k => match xs with
  | [.int i] => k (.int i)
  | [.bl b] => k (.int (if b = true then 1 else 0))
  | _ => False
def max2k : OpN := fun _ xs k => match xs with
  | [.int i, .int j] => k (.int (if j > i then j else i))
  | _ => False
def min2k : OpN := fun _ xs k => match xs with
  | [.int i, .int j] => k (.int (if j < i then j else i))
  | _ => False
def tupk : OpN := fun S xs k => match xs with
  | [.tup ds] => k (.tup ds)
  | [x] => ∃ ds, listOf S x = some ds ∧ k (.tup ds)
  | _ => False
def lstk : OpN := fun S xs k => match xs with
  | [x] => ∃ ds, itemsOf S x = some ds ∧ k (.lst ds)
  | _ => False
def cutD (xs : List D) (lo hi : Option Int) : List D := (xs.drop (HT.sIx xs.length 0 lo)).take (HT.sIx xs.length xs.length hi - HT.sIx xs.length 0 lo)
def slk (S : Sto) (x : D) (lo hi : Option Int) (k : D → Prop) : Prop := match x with
  | .str z => z.length ≤ 100000 ∧ k (.str (cutS z lo hi))
  | .tup ds => k (.tup (cutD ds lo hi))
  | x => ∃ ds, listOf S x = some ds ∧ k (.lst (cutD ds lo hi))
def pSl (pa : PEx) (pl ph : POx) : PEx := fun env S k => pa env S fun x S1 => pl env S1 fun l S2 => ph env S2 fun u S3 => slk S3 x l u fun d => k d S3
section
variable {K : PySem.W.Frag} {cl : Cl} {M : Addr → Prop} {ρ ρ' : List Addr} {S : Sto} {H H' : Hp} {env : Env} {σ : L2.St}
theorem list_at (g : G K cl M ρ S H) {d : D} {v : V} {ds : List D} (r : RelD K cl ρ (cut (NM M ρ) H) d v) (h : listOf S d = some ds) :
    ∃ a vs, v = .ref a ∧ H a = some (.lst vs) ∧ RelAll K cl ρ (cut (NM M ρ) H) ds vs := by
  cases r with
  | lst hs ha => cases h; exact ⟨_, _, rfl, cut_subE _ _ hs, ha⟩
  | @ref n a hn =>
    unfold listOf at h
    simp only at h
    split at h
    · rename_i ds' he
      cases h
      obtain ⟨vs, hv, r⟩ := g.lstAt hn he
      exact ⟨a, vs, rfl, hv, r⟩
    · cases h
  | _ => cases h
theorem fin_lst (g : G K cl M ρ S H) {ds : List D} {vs : List V} (r : RelAll K cl ρ (cut (NM M ρ) H) ds vs) {k : D → Prop} {Q : VK} (hk : k (.lst ds))
    (q : ∀ H' d u, Stp cl M ρ H ρ H' → G K cl M ρ S H' → RelD K cl ρ (cut (NM M ρ) H') d u → k d → Q u H') (p : Addr) (hp : H p = none) : Q (.ref p) (upd H p (.lst vs)) := by
  obtain ⟨g2, s2, hc⟩ := g.new (.lst vs) hp
  exact q _ _ _ s2 g2 (.lst hc (r.up s2.pre s2.ex _ _)) hk
theorem fin_tup (g : G K cl M ρ S H) {ds : List D} {vs : List V} (r : RelAll K cl ρ (cut (NM M ρ) H) ds vs) {k : D → Prop} {Q : VK} (hk : k (.tup ds))
    (q : ∀ H' d u, Stp cl M ρ H ρ H' → G K cl M ρ S H' → RelD K cl ρ (cut (NM M ρ) H') d u → k d → Q u H') (p : Addr) (hp : H p = none) : Q (.ref p) (upd H p (.tup vs)) := by
  obtain ⟨g2, s2, hc⟩ := g.new (.tup vs) hp
  exact q _ _ _ s2 g2 (.tup (st_of hc) (r.up s2.pre s2.ex _ _)) hk
end
section
variable {K : PySem.W.Frag} {cl : Cl}
theorem smr_add : SmR K cl (uAdd K) addk := by
  intro M ρ S H x y v w g rx ry k Q h q
  have lists : (∃ a b, listOf S x = some a ∧ listOf S y = some b ∧ a.length + b.length ≤ 100000 ∧ k (.lst (a ++ b))) → uAdd K v w H Q := by
    rintro ⟨a, b, ha, hb, hl, hk⟩
    obtain ⟨p, vs, rfl, h1, r1⟩ := list_at g rx ha
    obtain ⟨p2, ws, rfl, h2, r2⟩ := list_at g ry hb
    exact .inr (.inr (.inr ⟨p, p2, vs, ws, rfl, rfl, h1, h2, sz_of (by rw [r1.len, r2.len]; exact hl), fin_lst g (r1.app r2) hk q⟩))
  cases x with
  | int i =>
    cases y with
    | int j =>
      rw [rel_int rx, rel_int ry]
      exact .inl ⟨i, j, rfl, rfl, q H _ _ .refl g (.int _) h⟩
    | _ => exact lists h
  | str i =>
    cases y with
    | str j =>
      rw [rel_str rx, rel_str ry]
      exact .inr (.inl ⟨i, j, rfl, rfl, sz_of h.1, q H _ _ .refl g (.str _) h.2⟩)
    | _ => exact lists h
  | tup a =>
    cases y with
    | tup b =>
      have hk := h.2
      have hr := h.1
      cases rx with
      | tup hs ha => cases ry with
        | tup ht hb =>
          refine .inr (.inr (.inl ⟨_, _, _, _, rfl, rfl, Evl.ex_t cut_subE hs, Evl.ex_t cut_subE ht, sz_of (by rw [ha.len, hb.len]; exact hr), fun h0 => ?_, fun h0 h1 => ?_, fun h0 h1 p hp => fin_tup g (ha.app hb) hk q p hp⟩))
          · subst h0
            cases ha
            exact q H _ _ .refl g (.tup ht hb) hk
          · subst h1
            cases hb
            rw [List.append_nil] at hk
            exact q H _ _ .refl g (.tup hs ha) hk
    | _ => exact lists h
  | _ => exact lists h
theorem smr_sub : SmR K cl (rI0 fun i j => .int (i - j)) subk := by
  intro M ρ S H x y v w g rx ry k Q h q
  cases x with
  | int i => cases y with
    | int j =>
      rw [rel_int rx, rel_int ry]
      exact ⟨i, j, rfl, rfl, q H _ _ .refl g (.int _) h⟩
    | _ => exact h.elim
  | _ => exact h.elim
theorem smr_mul : SmR K cl uMul mulk := by
  intro M ρ S H x y v w g rx ry k Q h q
  cases y with
  | int n =>
    have hw := rel_int ry
    subst hw
    have lists : (∃ a, listOf S x = some a ∧ (0 ≤ n ∧ n ≤ 10000 ∧ a.length ≤ 10) ∧ k (.lst (List.replicate n.toNat a).flatten)) → uMul v (.int n) H Q := by
      rintro ⟨a, ha, ⟨h1, h2, h3⟩, hk⟩
      obtain ⟨p, vs, rfl, hp, r1⟩ := list_at g rx ha
      have rep : ∀ m : Nat, RelAll K cl ρ (cut (NM M ρ) H) (List.replicate m a).flatten (List.replicate m vs).flatten := by
        intro m
        induction m with
        | zero => exact .nil
        | succ m ih =>
          rw [List.replicate_succ, List.replicate_succ, List.flatten_cons, List.flatten_cons]
          exact r1.app ih
      have hsz : vs.length * n.toNat ≤ 100000 := by
        rw [r1.len]
        have : n.toNat ≤ 10000 := by omega
        exact Nat.le_trans (Nat.mul_le_mul h3 this) (by decide)
      exact .inr (.inr ⟨p, n, vs, rfl, rfl, hp, by omega, by omega, sz_of hsz, fin_lst g (rep n.toNat) hk q⟩)
    cases x with
    | int i =>
      rw [rel_int rx]
      exact .inl ⟨i, n, rfl, rfl, h.1, q H _ _ .refl g (.int _) h.2⟩
    | str i =>
      rw [rel_str rx]
      exact .inr (.inl ⟨i, n, rfl, rfl, h.1.1, h.1.2.1, h.1.2.2, q H _ _ .refl g (.str _) h.2⟩)
    | _ => exact lists h
  | _ => cases x <;> exact h.elim
theorem smr_div : SmR K cl (rI CDiv fun i j => .int (i / j)) divk := by
  intro M ρ S H x y v w g rx ry k Q h q
  cases x with
  | int i => cases y with
    | int j =>
      rw [rel_int rx, rel_int ry]
      exact ⟨i, j, rfl, rfl, h.1, q H _ _ .refl g (.int _) h.2⟩
    | _ => exact h.elim
  | _ => exact h.elim
theorem smr_mod : SmR K cl (rI (fun _ j => 0 < j) fun i j => .int (i % j)) modk := by
  intro M ρ S H x y v w g rx ry k Q h q
  cases x with
  | int i => cases y with
    | int j =>
      rw [rel_int rx, rel_int ry]
      exact ⟨i, j, rfl, rfl, h.1, q H _ _ .refl g (.int _) h.2⟩
    | _ => exact h.elim
  | _ => exact h.elim
theorem smr_cmp {f : Int → Int → Bool} : SmR K cl (rI0 fun i j => .bl (f i j)) (cmpk f) := by
  intro M ρ S H x y v w g rx ry k Q h q
  cases x with
  | int i => cases y with
    | int j =>
      rw [rel_int rx, rel_int ry]
      exact ⟨i, j, rfl, rfl, q H _ _ .refl g (.bl _) h⟩
    | _ => exact h.elim
  | _ => exact h.elim
theorem smr_eq : SmR K cl (rEqP K) eqk := fun M ρ S H x y v w g rx ry k Q ⟨h1, h2, h3, hk⟩ q =>
  ⟨_, _, dp_of _ _ h1 (rs_rel g rx), dp_of _ _ h2 (rs_rel g ry), plain_py _, plain_py _, h3, q H _ _ .refl g (.bl _) hk⟩
theorem smr_ne : SmR K cl (rNeP K) nek := fun M ρ S H x y v w g rx ry k Q ⟨h1, h2, h3, hk⟩ q =>
  ⟨_, _, dp_of _ _ h1 (rs_rel g rx), dp_of _ _ h2 (rs_rel g ry), plain_py _, plain_py _, h3, q H _ _ .refl g (.bl _) hk⟩
theorem isNon_of {ρ : List Addr} {H : Hp} {d : D} {v : V} (h : RelD K cl ρ H d v) : decide (v = .non) = isNon d := by
  cases h <;> rfl
theorem smr_is : SmR K cl (fun x y H Q => y = .non ∧ Q (.bl (decide (x = .non))) H) isk := fun M ρ S H x y v w g rx ry k Q ⟨h1, hk⟩ q => by
  subst h1
  cases ry
  refine ⟨rfl, ?_⟩
  rw [isNon_of rx]
  exact q H _ _ .refl g (.bl _) hk
theorem smr_ns : SmR K cl (fun x y H Q => y = .non ∧ Q (.bl (!decide (x = .non))) H) nsk := fun M ρ S H x y v w g rx ry k Q ⟨h1, hk⟩ q => by
  subst h1
  cases ry
  refine ⟨rfl, ?_⟩
  rw [isNon_of rx]
  exact q H _ _ .refl g (.bl _) hk
theorem pys_map : ∀ ds : List D, pyAll ds = ds.map D.py
  | [] => rfl
  | d :: ds => by rw [pyAll, List.map_cons, pys_map ds]
theorem any_py (es : List D) (x : D) : ((pyAll es).any fun z => PyData.eqv z x.py) = es.any fun z => D.eqv z x := by
  rw [pys_map, List.any_map]
  rfl
theorem smr_in : SmR K cl (uIn K) ink := by
  intro M ρ S H x y v w g rx ry k Q h q
  have seqs : (∃ es, itemsOf S y = some es ∧ pureAll es = true ∧ x.pure = true ∧ x.dep ≤ 60 ∧ k (.bl (es.any fun z => D.eqv z x))) → uIn K v w H Q := by
    rintro ⟨es, he, hp, hx, hd, hk⟩
    obtain ⟨a, vs, rfl, hs, r⟩ := items_sq g ry he
    have dp := dps_of es vs hp r.full
    refine .inl ⟨x.py, pyAll es, dp_of x v hx rx.full, ?_, plain_pys _, plain_py _, hd, ?_⟩
    · rcases hs with hs | hs
      · exact .inl (.lst hs dp)
      · exact .inr (.tup hs dp)
    · rw [any_py]
      exact q H _ _ .refl g (.bl _) hk
  cases y with
  | str z =>
    obtain ⟨c, rfl, hk⟩ := h
    rw [rel_str rx, rel_str ry]
    exact .inr ⟨c, z, rfl, rfl, q H _ _ .refl g (.bl _) hk⟩
  | _ => exact seqs h
theorem smr_ni : SmR K cl (uNi K) nik := by
  intro M ρ S H x y v w g rx ry k Q h q
  have seqs : (∃ es, itemsOf S y = some es ∧ pureAll es = true ∧ x.pure = true ∧ x.dep ≤ 60 ∧ k (.bl (!es.any fun z => D.eqv z x))) → uNi K v w H Q := by
    rintro ⟨es, he, hp, hx, hd, hk⟩
    obtain ⟨a, vs, rfl, hs, r⟩ := items_sq g ry he
    have dp := dps_of es vs hp r.full
    refine .inl ⟨x.py, pyAll es, dp_of x v hx rx.full, ?_, plain_pys _, plain_py _, hd, ?_⟩
    · rcases hs with hs | hs
      · exact .inl (.lst hs dp)
      · exact .inr (.tup hs dp)
    · rw [if_pos rfl, any_py]
      exact q H _ _ .refl g (.bl _) hk
  cases y with
  | str z =>
    obtain ⟨c, rfl, hk⟩ := h
    rw [rel_str rx, rel_str ry]
    exact .inr ⟨c, z, rfl, rfl, q H _ _ .refl g (.bl _) hk⟩
  | _ => exact seqs h
theorem smr_ix : SmR K cl (uIx K) ixk := by
  intro M ρ S H x y v w g rx ry k Q h q
  cases y with
  | int i =>
    have hw := rel_int ry
    subst hw
    have seqs : (∃ ds d, itemsOf S x = some ds ∧ atI ds i = some d ∧ k d) → uIx K v (.int i) H Q := by
      rintro ⟨ds, d, he, hi, hk⟩
      obtain ⟨a, vs, rfl, hs, r⟩ := items_sq g rx he
      obtain ⟨u, hu, ru⟩ := r.atI hi
      rcases hs with hs | hs
      · exact .inl ⟨a, vs, i, u, rfl, rfl, hs, hu, q H _ _ .refl g ru hk⟩
      · exact .inr (.inl ⟨a, vs, i, u, rfl, rfl, hs, hu, q H _ _ .refl g ru hk⟩)
    cases x with
    | str z =>
      obtain ⟨c, hz, hc, hk⟩ := h
      rw [rel_str rx]
      exact .inr (.inr ⟨z, i, c, rfl, rfl, sz_of hz, hc, q H _ _ .refl g (.str _) hk⟩)
    | _ => exact seqs h
  | _ => exact h.elim
theorem all1 {ρ : List Addr} {H : Hp} {d : D} {vs : List V} (h : RelAll K cl ρ H [d] vs) : ∃ v, vs = [v] ∧ RelD K cl ρ H d v := by
  cases h with
  | cons a h => cases h; exact ⟨_, rfl, a⟩
theorem all2 {ρ : List Addr} {H : Hp} {d e : D} {vs : List V} (h : RelAll K cl ρ H [d, e] vs) : ∃ v w, vs = [v, w] ∧ RelD K cl ρ H d v ∧ RelD K cl ρ H e w := by
  cases h with
  | cons a h => cases h with
    | cons b h => cases h; exact ⟨_, _, rfl, a, b⟩
theorem smc_len : SmC K cl (uLen K) lenk := by
  intro M ρ S H xs vs g r k Q h q
  match xs, h with
  | [.str z], h =>
    obtain ⟨v, rfl, r1⟩ := all1 r
    rw [rel_str r1]
    exact .inl ⟨z, rfl, sz_of h.1, q H _ _ .refl g (.int _) h.2⟩
  | [.non], ⟨ds, e, hk⟩ | [.bl _], ⟨ds, e, hk⟩ | [.int _], ⟨ds, e, hk⟩ | [.ty _], ⟨ds, e, hk⟩ | [.obj _ _ _], ⟨ds, e, hk⟩ => cases e
  | [.tup _], ⟨ds, e, hk⟩ | [.lst _], ⟨ds, e, hk⟩ | [.scr _], ⟨ds, e, hk⟩ | [.ref _], ⟨ds, e, hk⟩ =>
    obtain ⟨v, rfl, r1⟩ := all1 r
    obtain ⟨a, ws, rfl, hs, r2⟩ := items_sq g r1 e
    refine .inr ⟨a, ws, rfl, hs, ?_⟩
    rw [r2.len]
    exact q H _ _ .refl g (.int _) hk
  | [], h => exact h.elim
  | _ :: _ :: _, h => simp [lenk] at h
theorem smc_int : SmC K cl (fun xs H Q => (∃ i, xs = [V.int i] ∧ Q (V.int i) H) ∨ ∃ k, xs = [V.bl k] ∧ Q (V.int (if k = true then 1 else 0)) H) int1k := by
  intro M ρ S H xs vs g r k Q h q
  match xs, h with
  | [.int i], h =>
    obtain ⟨v, rfl, r1⟩ := all1 r
    rw [rel_int r1]
    exact .inl ⟨i, rfl, q H _ _ .refl g (.int _) h⟩
  | [.bl b], h =>
    obtain ⟨v, rfl, r1⟩ := all1 r
    rw [rel_bl r1]
    exact .inr ⟨b, rfl, q H _ _ .refl g (.int _) h⟩
  | [.non], h | [.str _], h | [.ty _], h | [.obj _ _ _], h | [.tup _], h | [.lst _], h | [.scr _], h | [.ref _], h => exact h.elim
  | [], h => exact h.elim
  | _ :: _ :: _, h => simp [int1k] at h
theorem smc_min2 : SmC K cl (fun xs H Q => ∃ i j : Int, xs = [V.int i, V.int j] ∧ Q (V.int (if j < i then j else i)) H) min2k := by
  intro M ρ S H xs vs g r k Q h q
  unfold min2k at h
  split at h
  · obtain ⟨v, w, rfl, r1, r2⟩ := all2 r
    rw [rel_int r1, rel_int r2]
    exact ⟨_, _, rfl, q H _ _ .refl g (.int _) h⟩
  · exact h.elim
theorem smc_tup : SmC K cl (fun xs H Q => ∃ p ys, xs = [.ref p] ∧ ((SqL K H p ys ∧ ∀ l, H l = none → Q (.ref l) (upd H l (.tup ys))) ∨ (SqT K H p ys ∧ Q (.ref p) H))) tupk := by
  intro M ρ S H xs vs g r k Q h q
  have lists : ∀ x, xs = [x] → (∃ ds, listOf S x = some ds ∧ k (.tup ds)) → ∃ p ys, vs = [.ref p] ∧ ((SqL K H p ys ∧ ∀ l, H l = none → Q (.ref l) (upd H l (.tup ys))) ∨ (SqT K H p ys ∧ Q (.ref p) H)) := by
    rintro x rfl ⟨ds, e, hk⟩
    obtain ⟨v, rfl, r1⟩ := all1 r
    obtain ⟨a, ws, rfl, hs, r2⟩ := list_at g r1 e
    exact ⟨a, ws, rfl, .inl ⟨sq_of hs, fin_tup g r2 hk q⟩⟩
  unfold tupk at h
  split at h
  · obtain ⟨v, rfl, r1⟩ := all1 r
    cases r1 with
    | tup hs ha => exact ⟨_, _, rfl, .inr ⟨Evl.ex_t cut_subE hs, q H _ _ .refl g (.tup hs ha) h⟩⟩
  · exact lists _ rfl h
  · exact h.elim
theorem smc_lst : SmC K cl (fun xs H Q => ∃ p ys, xs = [.ref p] ∧ (SqL K H p ys ∨ SqT K H p ys) ∧ ∀ l, H l = none → Q (.ref l) (upd H l (.lst ys))) lstk := by
  intro M ρ S H xs vs g r k Q h q
  unfold lstk at h
  split at h
  · obtain ⟨ds, e, hk⟩ := h
    obtain ⟨v, rfl, r1⟩ := all1 r
    obtain ⟨a, ws, rfl, hs, r2⟩ := items_sq g r1 e
    exact ⟨a, ws, rfl, hs, fin_lst g r2 hk q⟩
  · exact h.elim
theorem relCut {ρ : List Addr} {H : Hp} {ds : List D} {vs : List V} (r : RelAll K cl ρ H ds vs) (lo hi : Option Int) : RelAll K cl ρ H (cutD ds lo hi) (cutV vs lo hi) := by
  unfold cutD cutV
  rw [r.len]
  exact (r.dropN _).takeN _
theorem sm_sl {te : TE} {tl th : TO} {pe : PEx} {pl ph : POx} (he : SmE K cl te pe) (hl : SmO K cl tl pl) (hh : SmO K cl th ph) : SmE K cl (tSl (uSl K) te tl th) (pSl pe pl ph) := fun M ρ S H env σ g re k Q h q =>
  he M ρ S H env σ g re _ _ h fun ρ1 H1 S1 x v s1 g1 rx h1 => hl M ρ1 S1 H1 env σ g1 (re.up s1) _ _ h1 fun ρ2 H2 S2 lo s2 g2 h2 =>
    hh M ρ2 S2 H2 env σ g2 (re.up (s1.trans s2)) _ _ h2 fun ρ3 H3 S3 hi s3 g3 h3 => by
      have s13 := s2.trans s3
      have rx3 := rx.up s13.pre s13.ex _ _
      have s03 := s1.trans s13
      have lists : (∃ ds, listOf S3 x = some ds ∧ k (.lst (cutD ds lo hi)) S3) → uSl K v lo hi H3 Q := by
        rintro ⟨ds, e, hk⟩
        obtain ⟨a, ws, rfl, hs, r2⟩ := list_at g3 rx3 e
        exact .inl ⟨a, ws, rfl, sq_of hs, fin_lst g3 (relCut r2 lo hi) (k := fun d => k d S3) hk fun H4 d u s4 g4 r4 hk => q ρ3 H4 S3 d u (s03.trans s4) g4 r4 hk⟩
      cases x with
      | str z =>
        rw [rel_str rx3]
        exact .inr (.inr ⟨z, rfl, sz_of h3.1, q ρ3 H3 S3 _ _ s03 g3 (.str _) h3.2⟩)
      | tup ds =>
        have hk : k (.tup (cutD ds lo hi)) S3 := h3
        cases rx3 with
        | tup hs ha =>
          refine .inr (.inl ⟨_, _, rfl, Evl.ex_t cut_subE hs, fun hw => ?_, fun hw p hp => ?_⟩)
          · have e : cutD ds lo hi = ds := by
              unfold cutD
              rw [← ha.len, hw.1, hw.2]
              simp [ha.len]
            rw [e] at hk
            exact q ρ3 H3 S3 _ _ s03 g3 (.tup hs ha) hk
          · exact fin_tup g3 (relCut ha lo hi) (k := fun d => k d S3) hk (fun H4 d u s4 g4 r4 hk => q ρ3 H4 S3 d u (s03.trans s4) g4 r4 hk) p hp
      | _ => exact lists h3
end
end Pw
namespace Pw
open PySem PySem.Spec PyProof.Rows L2 Evl Lw
def iterOf (S : Sto) : D → Option (List D)
  | .str z => some (z.cps.toList.map fun c => .str ⟨#[c]⟩)
  | d => itemsOf S d
def rngD (n : Nat) : List D := (List.range n).map fun (i : Nat) => .int (i : Int)
def rngD2 (lo : Int) (n : Nat) : List D := (List.range n).map fun (i : Nat) => .int (lo + (i : Int))
def uIt (K : PySem.W.Frag) (tl : TE) : TI := fun σ H R => tl σ H fun x H1 => (∃ a, x = .ref a ∧ (((∃ xs, SqL K H1 a xs) ∧ R (Itl K a) H1) ∨ ((∃ xs, SqT K H1 a xs) ∧ R (Itt K a) H1))) ∨ (∃ z, x = .str z ∧ R (Its z) H1)
theorem upi {X : Cx} {tg l : Expr} {tl : TE} (hl : PE X l tl) : PI X tg l (uIt X.K tl) := by
  refine ⟨fun pins s σ H R I h => thn (hl.run pins s σ H _ I h) fun v s1 ⟨x, H1, I1, r1, q⟩ => ?_⟩
  rcases q with ⟨a, ex, q⟩ | ⟨z, ex, q⟩
  · subst ex
    cases r1
    rcases q with ⟨⟨xs, hq⟩, q⟩ | ⟨⟨xs, hq⟩, q⟩
    · obtain ⟨its, _, p, _⟩ := I1.list hq
      refine wpAny_pyIter_list p.isList ⟨s1.heap.objs.size, [s1.heap.objs.size], _, _, H1, rfl, I1.kept (t' := s1.toks) fun b o e => Heap.get?_push_of_some _ e, turn_list a _, ⟨_, Heap.get?_push_size _ rfl, rfl, rfl⟩, fun b hb => ?_, q⟩
      obtain rfl : b = s1.heap.objs.size := List.mem_singleton.mp hb
      exact I1.fpOk (Nat.le_refl _) (I1.hok.fresh (Nat.le_refl _))
    · obtain ⟨its, _, p, _⟩ := I1.tuple hq
      refine wpAny_pyIter_tuple (show s1.heap.IsTuple a its.toArray from p) ⟨s1.heap.objs.size, [s1.heap.objs.size], _, _, H1, rfl, I1.kept (t' := s1.toks) fun b o e => Heap.get?_push_of_some _ e, turn_tuple a _, ⟨_, Heap.get?_push_size _ rfl, rfl, rfl⟩, fun b hb => ?_, q⟩
      obtain rfl : b = s1.heap.objs.size := List.mem_singleton.mp hb
      exact I1.fpOk (Nat.le_refl _) (I1.hok.fresh (Nat.le_refl _))
  · subst ex
    obtain ⟨t, rfl⟩ := r1
    cases ha : z.cps.all (· < 128)
    · exact wpAny_pyIter_wide ha (pi_one (tk := s1.toks) I1 _ (turn_str _ z t "str_iterator" (.inr rfl)) ⟨_, Heap.get?_push_size _ rfl, rfl, rfl⟩ q)
    · exact wpAny_pyIter_ascii ha (pi_one (tk := s1.toks) I1 _ (turn_str _ z t "str_ascii_iterator" (.inl rfl)) ⟨_, Heap.get?_push_size _ rfl, rfl, rfl⟩ q)
def pIt (pa : PEx) : PIx := fun env S k => pa env S fun x S1 => ∃ ds, iterOf S1 x = some ds ∧ k x ds S1
def pRng1 (pa : PAx) : PIx := fun env S k => pa env S fun xs S1 => ∃ n : Int, xs = [.int n] ∧ (-100000 ≤ n ∧ n ≤ 100000) ∧ k (.lst (rngD n.toNat)) (rngD n.toNat) S1
def pRng2 (pa : PAx) : PIx := fun env S k => pa env S fun xs S1 => ∃ lo n : Int, xs = [.int lo, .int n] ∧ (-100000 ≤ lo ∧ lo ≤ 100000 ∧ -100000 ≤ n ∧ n ≤ 100000) ∧ k (.lst (rngD2 lo (n - lo).toNat)) (rngD2 lo (n - lo).toNat) S1
section
variable (K : PySem.W.Frag) (cl : Cl)
def ItOk (J : It) (src : D) (ds : List D) (M : Addr → Prop) (ρ0 : List Addr) (H0 : Hp) : Prop := ∀ (M' : Addr → Prop) (ρ : List Addr) (S : Sto) (H : Hp), ρ0 <+: ρ → Ex cl (cut (NM M ρ0) H0) (cut (NM M' ρ) H) → G K cl M' ρ S H → iterOf S src = some ds →
  (∀ i, i < ds.length → J.go i H) ∧ (∀ i, ds.length ≤ i → J.stop i H) ∧ ∀ (i : Nat), i < ds.length → ∀ y H', J.yld i H y H' → G K cl M' ρ S H' ∧ Stp cl M' ρ H ρ H' ∧ ∃ d, ds[i]? = some d ∧ RelD K cl ρ (cut (NM M' ρ) H') d y
def SmI (wi : TI) (pi : PIx) : Prop := ∀ (M : Addr → Prop) (ρ : List Addr) (S : Sto) (H : Hp) (env : Env) (σ : L2.St), G K cl M ρ S H → RE K cl ρ (cut (NM M ρ) H) env σ → ∀ (k : D → List D → Sto → Prop) (R : It → Hp → Prop), pi env S k →
  (∀ ρ' H' S' src ds J, Stp cl M ρ H ρ' H' → G K cl M ρ' S' H' → ItOk K cl J src ds M ρ' H' → k src ds S' → R J H') → wi σ H R
end
section
variable {K : PySem.W.Frag} {cl : Cl} {M : Addr → Prop} {ρ : List Addr} {S : Sto} {H : Hp}
theorem it_same {M : Addr → Prop} {ρ : List Addr} {S : Sto} {H H2 : Hp} {ds : List D} {i : Nat} {y : V} (g : G K cl M ρ S H) (h1 : H2 = H) (r : ∃ d, ds[i]? = some d ∧ RelD K cl ρ (cut (NM M ρ) H) d y) : G K cl M ρ S H2 ∧ Stp cl M ρ H ρ H2 ∧ ∃ d, ds[i]? = some d ∧ RelD K cl ρ (cut (NM M ρ) H2) d y := by
  subst h1
  exact ⟨g, .refl, r⟩
theorem itOk_tup {a : Addr} {d : D} {ds : List D} (hd : ∀ (M' : Addr → Prop) (ρ' : List Addr) (S' : Sto) (H' : Hp), ρ <+: ρ' → Ex cl (cut (NM M ρ) H) (cut (NM M' ρ') H') → G K cl M' ρ' S' H' → iterOf S' d = some ds → ∃ vs, SqT K H' a vs ∧ RelAll K cl ρ' (cut (NM M' ρ') H') ds vs) : ItOk K cl (Itt K a) d ds M ρ H := fun M' ρ' S' H' p e g h => by
  obtain ⟨vs, hs, r⟩ := hd M' ρ' S' H' p e g h
  refine ⟨fun i hi => ?_, fun i hi => ⟨vs, hs, by rw [r.len]; exact hi⟩, fun i _ y H2 ⟨h1, h2⟩ => it_same g h1 ?_⟩
  · have : i < vs.length := by rw [r.len]; exact hi
    exact ⟨vs, vs[i], hs, List.getElem?_eq_getElem this⟩
  · exact r.back (h2 vs hs)
theorem sm_it {ta : TE} {pa : PEx} (ha : SmE K cl ta pa) : SmI K cl (uIt K ta) (pIt pa) := fun M ρ S H env σ g re k R h q =>
  ha M ρ S H env σ g re _ _ h fun ρ1 H1 S1 x v s1 g1 rx ⟨ds, hds, hk⟩ => by
    cases rx with
    | str z =>
      cases hds
      refine .inr ⟨z, rfl, q ρ1 H1 S1 _ _ _ s1 g1 (fun M' ρ' S' H' p e g h => ⟨fun i hi => ?_, fun i hi => ?_, fun i _ y H2 ⟨h1, c, h2, h3⟩ => it_same g h1 ⟨.str ⟨#[c]⟩, ?_, ?_⟩⟩) hk⟩
      · rw [List.length_map, Array.length_toList] at hi
        exact hi
      · rw [List.length_map, Array.length_toList] at hi
        exact hi
      · rw [List.getElem?_map, Array.getElem?_toList, h2]
        rfl
      · rw [h3]
        exact .str _
    | @tup a vs ds' hs ha =>
      have e : ds' = ds := by
        have : some ds' = some ds := hds
        exact Option.some.inj this
      subst e
      refine .inl ⟨a, rfl, .inr ⟨⟨vs, Evl.ex_t cut_subE hs⟩, q ρ1 H1 S1 _ _ _ s1 g1 (itOk_tup fun M' ρ' S' H' p e g h => ⟨vs, ex_t (e.trans cut_sub) hs, ha.up p e _ _⟩) hk⟩⟩
    | @lst a vs ds' hs ha =>
      have e : ds' = ds := by
        have : some ds' = some ds := hds
        exact Option.some.inj this
      subst e
      refine .inl ⟨a, rfl, .inl ⟨⟨vs, sq_of (cut_subE _ _ hs)⟩, q ρ1 H1 S1 _ _ _ s1 g1 (fun M' ρ' S' H' p e g h => ?_) hk⟩⟩
      have hs' : SqL K H' a vs := sq_of (cut_subE _ _ (e.lst hs))
      have r := ha.up p e _ _
      exact ⟨fun i hi => ⟨vs, vs[i]'(by rw [r.len]; exact hi), hs', List.getElem?_eq_getElem _⟩, fun i hi => ⟨vs, hs', by rw [r.len]; exact hi⟩, fun i _ y H2 ⟨h1, h2⟩ => it_same g h1 (r.back (h2 vs hs'))⟩
    | @scr a vs ds' hs ha =>
      have e : ds' = ds := by
        have : some ds' = some ds := hds
        exact Option.some.inj this
      subst e
      refine .inl ⟨a, rfl, .inl ⟨⟨vs, Evl.ex_l cut_subE hs⟩, q ρ1 H1 S1 _ _ _ s1 g1 (fun M' ρ' S' H' p e g h => ?_) hk⟩⟩
      have hs' : SqL K H' a vs := ex_l (e.trans cut_sub) hs
      have r := ha.up p e _ _
      exact ⟨fun i hi => ⟨vs, vs[i]'(by rw [r.len]; exact hi), hs', List.getElem?_eq_getElem _⟩, fun i hi => ⟨vs, hs', by rw [r.len]; exact hi⟩, fun i _ y H2 ⟨h1, h2⟩ => it_same g h1 (r.back (h2 vs hs'))⟩
    | @ref n a hn =>
      have h1 : ∀ S2 : Sto, iterOf S2 (.ref n) = some ds → S2[n]? = some (.lst ds) := fun S2 h => by
        unfold iterOf itemsOf at h
        simp only at h
        split at h
        · rename_i ds' he
          cases h
          exact he
        · cases h
      obtain ⟨vs, hv, r⟩ := g1.lstAt hn (h1 S1 hds)
      refine .inl ⟨a, rfl, .inl ⟨⟨vs, sq_of hv⟩, q ρ1 H1 S1 _ _ _ s1 g1 (fun M' ρ' S' H' p e g h => ?_) hk⟩⟩
      obtain ⟨ws, hw, r'⟩ := g.lstAt (pre_get p hn) (h1 S' h)
      have hs' : SqL K H' a ws := sq_of hw
      exact ⟨fun i hi => ⟨ws, ws[i]'(by rw [r'.len]; exact hi), hs', List.getElem?_eq_getElem _⟩, fun i hi => ⟨ws, hs', by rw [r'.len]; exact hi⟩, fun i _ y H2 ⟨h1, h2⟩ => it_same g h1 (r'.back (h2 ws hs'))⟩
    | _ => cases hds
theorem rngD_len (n : Nat) : (rngD n).length = n := by unfold rngD; rw [List.length_map, List.length_range]
theorem sm_rng1 {ta : TA} {pa : PAx} (ha : SmA K cl ta pa) : SmI K cl (iRng1 ta) (pRng1 pa) := fun M ρ S H env σ g re k R h q =>
  ha M ρ S H env σ g re _ _ h fun ρ1 H1 S1 xs vs s1 g1 rx ⟨n, hx, hn, hk⟩ => by
    subst hx
    obtain ⟨v, rfl, r1⟩ := all1 rx
    rw [rel_int r1]
    refine ⟨n, rfl, by omega, by omega, q ρ1 H1 S1 _ _ _ s1 g1 (fun M' ρ' S' H' p e g h => ⟨fun i hi => ?_, fun i hi => ?_, fun i hi y H2 ⟨h1, h2⟩ => it_same g h1 ⟨.int (i : Int), ?_, ?_⟩⟩) hk⟩
    · rw [rngD_len] at hi
      exact hi
    · rw [rngD_len] at hi
      exact hi
    · rw [rngD_len] at hi
      unfold rngD
      rw [List.getElem?_map, List.getElem?_range hi]
      rfl
    · rw [h2, Int.zero_add]
      exact .int _
end
def pSeq (p q : PSx) : PSx := fun P env S => p { P with nx := q P } env S
def pNext : PSx := fun P env S => P.nx env S
def pBreak : PSx := fun P env S => P.bk env S
def pCont : PSx := fun P env S => P.ct env S
def pAsg (pe : PEx) (g : PGx) : PSx := fun P env S => pe env S fun d S1 => g d env S1 P.nx
def pRet (pe : PEx) : PSx := fun P env S => pe env S P.rt
def pRetN : PSx := fun P _ S => P.rt .non S
def pDrop (pe : PEx) : PSx := fun P env S => pe env S fun _ S1 => P.nx env S1
def pIfS (pt : PTx) (p q : PSx) : PSx := fun P env S => pt env S fun b S1 => if b = true then p P env S1 else q P env S1
def pgName (i : Nat) : PGx := fun d env S k => k (env.set i (some d)) S
abbrev PGsx := List D → Env → Sto → (Env → Sto → Prop) → Prop
def pgNil : PGsx := fun ds env S k => ds = [] ∧ k env S
def pgCons (g : PGx) (gs : PGsx) : PGsx := fun ds env S k => match ds with
  | d :: r => g d env S fun env' S' => gs r env' S' k
  | [] => False
def pgTup (n : Nat) (gs : PGsx) : PGx := fun d env S k => match d with
  | .tup ds => ds.length = n ∧ gs ds env S k
  | _ => False
def pAug (i : Nat) (op : Int → Int → Int) (pe : PEx) : PSx := fun P env S => ∃ x, env[i]? = some (some (.int x)) ∧ pe env S fun d S1 => ∃ y, d = .int y ∧ P.nx (env.set i (some (.int (op x y)))) S1
def pApp (pa pe : PEx) : PSx := fun P env S => pa env S fun l S1 => ∃ n, l = .ref n ∧ ∃ ds0, S1[n]? = some (.lst ds0) ∧ pe env S1 fun d S2 => ∃ ds, S2[n]? = some (.lst ds) ∧ ds.length < 90000 ∧ P.nx env (S2.set n (.lst (ds ++ [d])))
def pFor (pi : PIx) (g : PGx) (tb : PSx) : PSx := fun P env S => pi env S fun src ds S1 => ∃ I : Nat → Env → Sto → Prop, I 0 env S1 ∧
  (∀ (i : Nat) d env S, ds[i]? = some d → I i env S → iterOf S src = some ds ∧ g d env S fun env1 S2 => tb { P with nx := I (i + 1), ct := I (i + 1), bk := P.nx } env1 S2) ∧ ∀ env S, I ds.length env S → iterOf S src = some ds ∧ P.nx env S
def pWhile (pt : PTx) (tb : PSx) : PSx := fun P env S => ∃ W : Nat → Env → Sto → Prop, (∃ m, W m env S) ∧ ∀ m env S, W m env S →
  pt env S fun b S1 => if b = true then ∃ N : Env → Sto → Prop, (∀ env' S', N env' S' → ∃ m', m' < m ∧ W m' env' S') ∧ tb { P with nx := N, ct := N, bk := P.nx } env S1 else P.nx env S1
def pLc (pi : PIx) (g : PGx) (pt : PTx) (pe : PEx) (ws : List Nat) : PEx := fun env S k => pi env S fun src ds S1 => ∃ I : Nat → List D → Sto → Prop, I 0 [] S1 ∧
  (∀ (i : Nat) d acc S, ds[i]? = some d → I i acc S → acc.length < 90000 ∧ iterOf S src = some ds ∧ g d (wipeE env ws) S fun env2 S2 => pt env2 S2 fun b S3 => if b = true then pe env2 S3 fun y S4 => I (i + 1) (acc ++ [y]) S4 else I (i + 1) acc S3) ∧
  ∀ acc S, I ds.length acc S → iterOf S src = some ds ∧ k (.lst acc) S
def pYes : PTx := fun _ S k => k true S
section
variable (K : PySem.W.Frag) (cl : Cl)
structure EndsOk (M : Addr → Prop) (ρ : List Addr) (H : Hp) (P : PEnds) (D : Ends) : Prop where
  nx : ∀ ρ' H' S' env' σ', Stp cl M ρ H ρ' H' → G K cl M ρ' S' H' → RE K cl ρ' (cut (NM M ρ') H') env' σ' → P.nx env' S' → D.nx σ' H'
  rt : ∀ ρ' H' S' d v, Stp cl M ρ H ρ' H' → G K cl M ρ' S' H' → RelD K cl ρ' (cut (NM M ρ') H') d v → P.rt d S' → D.rt v H'
  bk : ∀ ρ' H' S' env' σ', Stp cl M ρ H ρ' H' → G K cl M ρ' S' H' → RE K cl ρ' (cut (NM M ρ') H') env' σ' → P.bk env' S' → D.bk σ' H'
  ct : ∀ ρ' H' S' env' σ', Stp cl M ρ H ρ' H' → G K cl M ρ' S' H' → RE K cl ρ' (cut (NM M ρ') H') env' σ' → P.ct env' S' → D.ct σ' H'
def SmS (ts : TS) (ps : PSx) : Prop := ∀ (M : Addr → Prop) (ρ : List Addr) (S : Sto) (H : Hp) (env : Env) (σ : L2.St), G K cl M ρ S H → RE K cl ρ (cut (NM M ρ) H) env σ → ∀ (P : PEnds) (D : Ends), ps P env S → EndsOk K cl M ρ H P D → ts D σ H
def SmG (tg : TG) (pg : PGx) : Prop := ∀ (M : Addr → Prop) (ρ : List Addr) (S : Sto) (H : Hp) (env : Env) (σ : L2.St) (d : D) (v : V), G K cl M ρ S H → RE K cl ρ (cut (NM M ρ) H) env σ → RelD K cl ρ (cut (NM M ρ) H) d v → ∀ (k : Env → Sto → Prop) (Q : L2.St → Hp → Prop), pg d env S k →
  (∀ ρ' H' S' env' σ', Stp cl M ρ H ρ' H' → G K cl M ρ' S' H' → RE K cl ρ' (cut (NM M ρ') H') env' σ' → k env' S' → Q σ' H') → tg v σ H Q
def SmGs (tg : TGs) (pg : PGsx) : Prop := ∀ (M : Addr → Prop) (ρ : List Addr) (S : Sto) (H : Hp) (env : Env) (σ : L2.St) (d : List D) (v : List V), G K cl M ρ S H → RE K cl ρ (cut (NM M ρ) H) env σ → RelAll K cl ρ (cut (NM M ρ) H) d v → ∀ (k : Env → Sto → Prop) (Q : L2.St → Hp → Prop), pg d env S k →
  (∀ ρ' H' S' env' σ', Stp cl M ρ H ρ' H' → G K cl M ρ' S' H' → RE K cl ρ' (cut (NM M ρ') H') env' σ' → k env' S' → Q σ' H') → tg v σ H Q
end
section
variable {K : PySem.W.Frag} {cl : Cl} {M : Addr → Prop} {ρ ρ1 : List Addr} {S : Sto} {H H1 : Hp} {P : PEnds} {D : Ends} {tu tw : TS} {pu pw : PSx} {te ta : TE} {pe pa : PEx} {tg : TG} {pg : PGx} {tgs : TGs} {pgs : PGsx} {tt : TT} {pt : PTx}
theorem EndsOk.step (e : EndsOk K cl M ρ H P D) (s : Stp cl M ρ H ρ1 H1) : EndsOk K cl M ρ1 H1 P D :=
  ⟨fun _ _ _ _ _ s1 => e.nx _ _ _ _ _ (s.trans s1), fun _ _ _ _ _ s1 => e.rt _ _ _ _ _ (s.trans s1), fun _ _ _ _ _ s1 => e.bk _ _ _ _ _ (s.trans s1), fun _ _ _ _ _ s1 => e.ct _ _ _ _ _ (s.trans s1)⟩
theorem sm_seq (h1 : SmS K cl tu pu) (h2 : SmS K cl tw pw) : SmS K cl (tSeq tu tw) (pSeq pu pw) := fun M ρ S H env σ g re P D h e =>
  h1 M ρ S H env σ g re _ _ h ⟨fun ρ' H' S' env' σ' s g' re' h' => h2 M ρ' S' H' env' σ' g' re' P D h' (e.step s), e.rt, e.bk, e.ct⟩
theorem sm_next : SmS K cl tNext pNext := fun M ρ S H env σ g re P D h e => e.nx ρ H S env σ .refl g re h
theorem sm_asg (ha : SmE K cl te pe) (hg : SmG K cl tg pg) : SmS K cl (tAsg te tg) (pAsg pe pg) := fun M ρ S H env σ g re P D h e =>
  ha M ρ S H env σ g re _ _ h fun ρ1 H1 S1 d v s1 g1 r h1 => hg M ρ1 S1 H1 env σ d v g1 (re.up s1) r _ _ h1 fun ρ2 H2 S2 env' σ' s2 g2 re2 h2 => e.nx ρ2 H2 S2 env' σ' (s1.trans s2) g2 re2 h2
theorem sm_ret (ha : SmE K cl te pe) : SmS K cl (tRet te) (pRet pe) := fun M ρ S H env σ g re P D h e => ha M ρ S H env σ g re _ _ h fun ρ1 H1 S1 d v s1 g1 r h1 => e.rt ρ1 H1 S1 d v s1 g1 r h1
theorem sm_ifS (hc : SmT K cl tt pt) (h1 : SmS K cl tu pu) (h2 : SmS K cl tw pw) : SmS K cl (tIfS tt tu tw) (pIfS pt pu pw) := fun M ρ S H env σ g re P D h e =>
  hc M ρ S H env σ g re _ _ h fun ρ1 H1 S1 b s1 g1 hk => by
    cases b with
    | true => exact h1 M ρ1 S1 H1 env σ g1 (re.up s1) P D hk (e.step s1)
    | false => exact h2 M ρ1 S1 H1 env σ g1 (re.up s1) P D hk (e.step s1)
theorem sm_gname {i : Nat} : SmG K cl (gName i) (pgName i) := fun M ρ S H env σ d v g re r k Q h q => q ρ H S _ _ .refl g (re.set i r) h
theorem sm_gnil : SmGs K cl gNil pgNil := fun M ρ S H env σ d v g re r k Q ⟨h, hk⟩ q => by
  subst h
  cases r
  exact ⟨rfl, q ρ H S _ _ .refl g re hk⟩
theorem sm_gcons (h1 : SmG K cl tg pg) (h2 : SmGs K cl tgs pgs) : SmGs K cl (gCons tg tgs) (pgCons pg pgs) := fun M ρ S H env σ d v g re r k Q h q => by
  cases r with
  | nil => exact h.elim
  | cons a b => exact ⟨_, _, rfl, h1 M ρ S H env σ _ _ g re a _ _ h fun ρ1 H1 S1 env1 σ1 s1 g1 re1 k1 => h2 M ρ1 S1 H1 env1 σ1 _ _ g1 re1 (b.up s1.pre s1.ex _ _) _ _ k1 fun ρ2 H2 S2 env2 σ2 s2 g2 re2 k2 => q ρ2 H2 S2 env2 σ2 (s1.trans s2) g2 re2 k2⟩
theorem sm_gtup {n : Nat} (h : SmGs K cl tgs pgs) : SmG K cl (gTup K n tgs) (pgTup n pgs) := fun M ρ S H env σ d v g re r k Q h1 q => by
  cases r with
  | tup hs ha => exact ⟨_, _, rfl, Evl.ex_t cut_subE hs, by rw [ha.len]; exact h1.1, h M ρ S H env σ _ _ g re ha k Q h1.2 q⟩
  | _ => exact h1.elim
theorem sm_app (ha : SmE K cl ta pa) (he : SmE K cl te pe) : SmS K cl (tDrop (tBM K "list" rAppend ta (tCons te tNil))) (pApp pa pe) := fun M ρ S H env σ g re P D h e =>
  ha M ρ S H env σ g re _ _ h fun ρ1 H1 S1 l v s1 g1 rl ⟨n, hl, ds0, hs, h1⟩ => by
    subst hl
    cases rl with
    | @ref _ a hn =>
      obtain ⟨vs0, hv0, _⟩ := g1.lstAt hn hs
      refine ⟨.inl ⟨rfl, vs0, sq_of hv0⟩, he M ρ1 S1 H1 env σ g1 (re.up s1) _ _ h1 fun ρ2 H2 S2 d w s2 g2 rd ⟨ds, hs2, hl2, hk⟩ => ?_⟩
      have hn2 := pre_get s2.pre hn
      obtain ⟨vs, hv, r⟩ := g2.lstAt hn2 hs2
      refine ⟨a, vs, w, rfl, rfl, hv, sz_lt (by rw [r.len]; omega), ?_⟩
      obtain ⟨g3, s3⟩ := g2.put (o := .lst (vs ++ [w])) hn2 (.lst (r.snoc rd))
      exact e.nx ρ2 _ _ env σ ((s1.trans s2).trans s3) g3 (re.up ((s1.trans s2).trans s3)) hk
theorem sm_for {wi : TI} {pi : PIx} (hi : SmI K cl wi pi) (hg : SmG K cl tg pg) (hb : SmS K cl tu pu) : SmS K cl (tFor wi tg tu) (pFor pi pg pu) := fun M ρ S H env σ g re P D h e =>
  hi M ρ S H env σ g re _ _ h fun ρ1 H1 S1 src ds J s1 g1 ok ⟨I, hI0, hIs, hId⟩ => by
    refine ⟨fun i m σ' H' => m = ds.length - i ∧ i ≤ ds.length ∧ ∃ ρ' S' env', Stp cl M ρ1 H1 ρ' H' ∧ G K cl M ρ' S' H' ∧ RE K cl ρ' (cut (NM M ρ') H') env' σ' ∧ I i env' S', ⟨ds.length, by omega, Nat.zero_le _, ρ1, S1, env, .refl, g1, re.up s1, hI0⟩, ?_⟩
    rintro i m σ' H' ⟨rfl, hi, ρ', S', env', s2, g2, re2, hI⟩
    by_cases hlt : i < ds.length
    · have hd : ds[i]? = some ds[i] := List.getElem?_eq_getElem hlt
      obtain ⟨hit, hb'⟩ := hIs i _ env' S' hd hI
      obtain ⟨o1, _, o3⟩ := ok M ρ' S' H' s2.pre s2.ex g2 hit
      refine .inr ⟨o1 i hlt, fun σ2 H2 => ∃ ρ' S' env', Stp cl M ρ1 H1 ρ' H2 ∧ G K cl M ρ' S' H2 ∧ RE K cl ρ' (cut (NM M ρ') H2) env' σ2 ∧ I (i + 1) env' S', fun σ2 H2 p => ⟨ds.length - (i + 1), by omega, rfl, hlt, p⟩, fun y H2 hy => ?_⟩
      obtain ⟨gy, sy, d, hd', r⟩ := o3 i hlt y H2 hy
      rw [hd] at hd'
      cases hd'
      refine hg M ρ' S' H2 env' σ' _ y gy (re2.up sy) r _ _ hb' fun ρ3 H3 S3 env3 σ3 s3 g3 re3 h3 => ?_
      have s23 := (s2.trans sy).trans s3
      have e3 := (e.step s1).step s23
      refine hb M ρ3 S3 H3 env3 σ3 g3 re3 _ _ h3 ⟨fun ρ4 H4 S4 env4 σ4 s4 g4 re4 h4 => ⟨ρ4, S4, env4, s23.trans s4, g4, re4, h4⟩, fun ρ4 H4 S4 d v s4 g4 r4 h4 => e3.rt ρ4 H4 S4 d v s4 g4 r4 h4, fun ρ4 H4 S4 env4 σ4 s4 g4 re4 h4 => e3.nx ρ4 H4 S4 env4 σ4 s4 g4 re4 h4, fun ρ4 H4 S4 env4 σ4 s4 g4 re4 h4 => ⟨ρ4, S4, env4, s23.trans s4, g4, re4, h4⟩⟩
    · have hi' : i = ds.length := by omega
      subst hi'
      obtain ⟨hit, hk⟩ := hId env' S' hI
      obtain ⟨_, o2, _⟩ := ok M ρ' S' H' s2.pre s2.ex g2 hit
      exact .inl ⟨o2 _ (Nat.le_refl _), (e.step s1).nx ρ' H' S' env' σ' s2 g2 re2 hk⟩
theorem sm_while (hc : SmT K cl tt pt) (hb : SmS K cl tu pu) : SmS K cl (tWhile tt tu) (pWhile pt pu) := fun M ρ S H env σ g re P D ⟨W, ⟨m0, hW0⟩, hW⟩ e => by
  refine ⟨fun m σ' H' => ∃ ρ' S' env', Stp cl M ρ H ρ' H' ∧ G K cl M ρ' S' H' ∧ RE K cl ρ' (cut (NM M ρ') H') env' σ' ∧ W m env' S', ⟨m0, ρ, S, env, .refl, g, re, hW0⟩, ?_⟩
  rintro m σ' H' ⟨ρ', S', env', s2, g2, re2, hw⟩
  refine hc M ρ' S' H' env' σ' g2 re2 _ _ (hW m env' S' hw) fun ρ3 H3 S3 b s3 g3 h3 => ?_
  have s23 := s2.trans s3
  have e3 := e.step s23
  cases b with
  | true =>
    rw [if_pos rfl] at h3 ⊢
    obtain ⟨N, hN, hk⟩ := h3
    refine ⟨fun σ2 H2 => ∃ ρ' S' env', Stp cl M ρ H ρ' H2 ∧ G K cl M ρ' S' H2 ∧ RE K cl ρ' (cut (NM M ρ') H2) env' σ2 ∧ N env' S', fun σ2 H2 ⟨ρ4, S4, env4, s4, g4, re4, h4⟩ => ?_, ?_⟩
    · obtain ⟨m', hm, hw'⟩ := hN env4 S4 h4
      exact ⟨m', hm, ρ4, S4, env4, s4, g4, re4, hw'⟩
    · exact hb M ρ3 S3 H3 env' σ' g3 (re2.up s3) _ _ hk ⟨fun ρ4 H4 S4 env4 σ4 s4 g4 re4 h4 => ⟨ρ4, S4, env4, s23.trans s4, g4, re4, h4⟩, fun ρ4 H4 S4 d v s4 g4 r4 h4 => e3.rt ρ4 H4 S4 d v s4 g4 r4 h4, fun ρ4 H4 S4 env4 σ4 s4 g4 re4 h4 => e3.nx ρ4 H4 S4 env4 σ4 s4 g4 re4 h4, fun ρ4 H4 S4 env4 σ4 s4 g4 re4 h4 => ⟨ρ4, S4, env4, s23.trans s4, g4, re4, h4⟩⟩
  | false =>
    rw [if_neg (by decide)] at h3 ⊢
    exact e3.nx ρ3 H3 S3 env' σ' .refl g3 (re2.up s3) h3
theorem sm_yes : SmT K cl tYes pYes := fun M ρ S H env σ g re k Q h q => q ρ H S true .refl g h
theorem wipe_get {σ : L2.St} : ∀ {ws : List Nat} {j : Nat}, (wipe σ ws)[j]? = if j ∈ ws then (if j < σ.length then some none else none) else σ[j]?
  | [], j => by simp [wipe]
  | v :: vs, j => by
    unfold wipe
    rw [List.getElem?_set]
    by_cases h : v = j
    · subst h
      simp [wipe_length]
    · rw [if_neg h, wipe_get (ws := vs)]
      have : (j ∈ v :: vs) ↔ j ∈ vs := by simp [Ne.symm h]
      simp [this]
theorem wipe_eq {σ σ' : L2.St} {ws : List Nat} (hl : σ'.length = σ.length) (h : ∀ j, j ∉ ws → σ'[j]? = σ[j]?) : wipe σ' ws = wipe σ ws := by
  refine List.ext_getElem? fun j => ?_
  rw [wipe_get, wipe_get, hl]
  by_cases hj : j ∈ ws
  · simp [hj]
  · simp [hj, h j hj]
end
structure GOk (tg : TG) (ws : List Nat) : Prop where
  mono : ∀ v σ H (Q Q' : L2.St → Hp → Prop), (∀ σ2 H2, Q σ2 H2 → Q' σ2 H2) → tg v σ H Q → tg v σ H Q'
  own : ∀ v σ H (Q : L2.St → Hp → Prop), tg v σ H Q → tg v σ H fun σ2 H2 => (σ2.length = σ.length ∧ ∀ j, j ∉ ws → σ2[j]? = σ[j]?) ∧ Q σ2 H2
theorem gok_name {j : Nat} {ws : List Nat} (h : j ∈ ws) : GOk (gName j) ws := ⟨fun _ _ _ _ _ h q => h _ _ q, fun v σ H Q q => ⟨⟨List.length_set, fun i hi => List.getElem?_set_ne fun z => hi (by rw [← z]; exact h)⟩, q⟩⟩
section
variable {K : PySem.W.Frag} {cl : Cl} {te : TE} {pe : PEx} {tg : TG} {pg : PGx} {tt : TT} {pt : PTx}
theorem NM_plus {M : Addr → Prop} {p : Addr} {ρ : List Addr} {a : Addr} : NM (fun a => M a ∨ a = p) ρ a ↔ NM M ρ a ∨ a = p := by
  unfold NM
  constructor
  · rintro ((h | h) | h)
    · exact .inl (.inl h)
    · exact .inr h
    · exact .inl (.inr h)
  · rintro ((h | h) | h)
    · exact .inl (.inl h)
    · exact .inr h
    · exact .inl (.inr h)
def MP (M : Addr → Prop) (p : Addr) : Addr → Prop := fun a => M a ∨ a = p
theorem exMP {M : Addr → Prop} {p : Addr} {ρ : List Addr} {H : Hp} : Ex cl (cut (NM (MP M p) ρ) H) (cut (NM M ρ) H) := cut_ex fun a o n q => ⟨fun z => n (NM_plus.mpr (.inl z)), q⟩
theorem G.unMP {M : Addr → Prop} {p : Addr} {ρ : List Addr} {S : Sto} {H : Hp} (g : G K cl (MP M p) ρ S H) : G K cl M ρ S H :=
  ⟨fun a m => g.live a (.inl m), fun a ha m => g.dis a ha (.inl m), g.nd, g.len, fun n o a hs ha => by
    obtain ⟨u, hu, r⟩ := g.sto n o a hs ha
    exact ⟨u, hu, r.up (List.prefix_refl _) exMP⟩, exMP.t g.tab⟩
theorem G.mp {M : Addr → Prop} {p : Addr} {ρ : List Addr} {S : Sto} {H : Hp} {o : HO} (g : G K cl M ρ S H) (hp : H p = none) (ho : Dk.Pl o) :
    G K cl (MP M p) ρ S (upd H p o) ∧ Ex cl (cut (NM M ρ) H) (cut (NM (MP M p) ρ) (upd H p o)) ∧ ∀ a, M a → (upd H p o) a = H a := by
  have hpn : ¬ NM M ρ p := g.off hp
  have ex0 : Ex cl (cut (NM M ρ) H) (cut (NM (MP M p) ρ) (upd H p o)) := cut_ex fun a u n q => ⟨fun z => (NM_plus.mp z).elim n (ne_of_none q hp), by rw [upd_ne (ne_of_none q hp)]; exact q⟩
  have k : ∀ a, NM M ρ a → (upd H p o) a = H a := fun a n => upd_ne fun z => hpn (z ▸ n)
  refine ⟨⟨fun a m => ?_, fun a ha m => ?_, g.nd, g.len, fun n s a hs ha => ?_, ex0.t g.tab⟩, ex0, fun a m => k a (.inl m)⟩
  · rcases m with m | m
    · rw [k a (.inl m)]
      exact g.live a m
    · rw [m, upd_same]
      exact ⟨o, rfl, ho⟩
  · rcases m with m | m
    · exact g.dis a ha m
    · exact hpn (.inr (m ▸ ha))
  · obtain ⟨u, hu, r⟩ := g.sto n s a hs ha
    exact ⟨u, by rw [k a (.inr (List.mem_of_getElem? ha))]; exact hu, r.up (List.prefix_refl _) ex0⟩
theorem G.setMP {M : Addr → Prop} {p : Addr} {ρ : List Addr} {S : Sto} {H : Hp} {o : HO} (g : G K cl (MP M p) ρ S H) (ho : Dk.Pl o) :
    G K cl (MP M p) ρ S (upd H p o) ∧ Ex cl (cut (NM (MP M p) ρ) H) (cut (NM (MP M p) ρ) (upd H p o)) := by
  have ex0 : Ex cl (cut (NM (MP M p) ρ) H) (cut (NM (MP M p) ρ) (upd H p o)) := cut_ex fun a u n q => ⟨n, by rw [upd_ne fun z => n (.inl (.inr z))]; exact q⟩
  refine ⟨⟨fun a m => ?_, g.dis, g.nd, g.len, fun n s a hs ha => ?_, ex0.t g.tab⟩, ex0⟩
  · by_cases h : a = p
    · rw [h, upd_same]
      exact ⟨o, rfl, ho⟩
    · rw [upd_ne h]
      exact g.live a m
  · obtain ⟨u, hu, r⟩ := g.sto n s a hs ha
    have ne : a ≠ p := fun z => g.dis a (List.mem_of_getElem? ha) (.inr z)
    exact ⟨u, by rw [upd_ne ne]; exact hu, r.up (List.prefix_refl _) ex0⟩
structure LcSt (K : PySem.W.Frag) (cl : Cl) (M : Addr → Prop) (ρ1 : List Addr) (H1 : Hp) (Dl : Addr) (ρ' : List Addr) (S' : Sto) (acc : List D) (vs : List V) (H : Hp) : Prop where
  pre : ρ1 <+: ρ'
  ex : Ex cl (cut (NM M ρ1) H1) (cut (NM (MP M Dl) ρ') H)
  keep : ∀ a, M a → H a = H1 a
  g : G K cl (MP M Dl) ρ' S' H
  at' : H Dl = some (.lst vs)
  rel : RelAll K cl ρ' (cut (NM (MP M Dl) ρ') H) acc vs
theorem LcSt.step {M : Addr → Prop} {ρ1 ρ' ρ2 : List Addr} {H1 H H2 : Hp} {Dl : Addr} {S' S2 : Sto} {acc : List D} {vs : List V} (c : LcSt K cl M ρ1 H1 Dl ρ' S' acc vs H) (s : Stp cl (MP M Dl) ρ' H ρ2 H2) (g : G K cl (MP M Dl) ρ2 S2 H2) : LcSt K cl M ρ1 H1 Dl ρ2 S2 acc vs H2 :=
  ⟨c.pre.trans s.pre, c.ex.trans s.ex, fun a m => (s.keep a (.inl m)).trans (c.keep a m), g, (s.keep Dl (.inr rfl)).trans c.at', c.rel.up s.pre s.ex _ _⟩
theorem sm_lc {wi : TI} {pi : PIx} {ws : List Nat} (hi : SmI K cl wi pi) (hok : GOk tg ws) (hg : SmG K cl tg pg) (ht : SmT K cl tt pt) (he : SmE K cl te pe) : SmE K cl (tLc wi tg tt te ws) (pLc pi pg pt pe ws) := fun M ρ S H env σ g re k Q h q =>
  hi M ρ S H env σ g re _ _ h fun ρ1 H1 S1 src ds J s1 g1 ok ⟨I, hI0, hIs, hId⟩ => by
    intro Dl hD
    obtain ⟨gD, ex0, k0⟩ := g1.mp (o := .lst []) hD Dk.pl_lst
    have hDn : ¬ NM M ρ1 Dl := g1.off hD
    refine ⟨fun i m H' => m = ds.length - i ∧ i ≤ ds.length ∧ ∃ ρ' S' acc vs, LcSt K cl M ρ1 H1 Dl ρ' S' acc vs H' ∧ I i acc S', ⟨ds.length, by omega, Nat.zero_le _, ρ1, S1, [], [], ⟨List.prefix_refl _, ex0, k0, gD, upd_same, .nil⟩, hI0⟩, ?_⟩
    rintro i m H' ⟨rfl, hi, ρ', S', acc, vs, c, hI⟩
    by_cases hlt : i < ds.length
    · have hd : ds[i]? = some ds[i] := List.getElem?_eq_getElem hlt
      obtain ⟨hal, hit, hb'⟩ := hIs i _ acc S' hd hI
      obtain ⟨o1, _, o3⟩ := ok (MP M Dl) ρ' S' H' c.pre c.ex c.g hit
      refine .inr ⟨o1 i hlt, fun H2 => ∃ ρ' S' acc vs, LcSt K cl M ρ1 H1 Dl ρ' S' acc vs H2 ∧ I (i + 1) acc S', fun H2 p => ⟨ds.length - (i + 1), by omega, rfl, hlt, p⟩, fun y H2 hy => ?_⟩
      obtain ⟨gy, sy, d, hd', r⟩ := o3 i hlt y H2 hy
      have c := c.step sy gy
      rw [hd] at hd'
      cases hd'
      have reW : RE K cl ρ' (cut (NM (MP M Dl) ρ') H2) (wipeE env ws) (wipe σ ws) := by
        refine RE.wipe ?_ ws
        have r1 := re.up s1
        exact ⟨r1.len, fun j d hj => by
          obtain ⟨v, h1, h2⟩ := r1.at' j d hj
          exact ⟨v, h1, h2.up c.pre c.ex d v⟩⟩
      refine hok.mono _ _ _ _ _ (fun σ2 H3 ⟨⟨l1, k1⟩, q1⟩ => ⟨wipe_eq (l1.trans (wipe_length σ ws)) fun j hj => by rw [k1 j hj, wipe_get, if_neg hj], q1⟩) (hok.own _ _ _ _ (hg (MP M Dl) ρ' S' H2 (wipeE env ws) (wipe σ ws) _ y c.g reW r _ _ hb' fun ρ3 H3 S3 env3 σ3 s3 g3 re3 h3 => ?_))
      · refine ht (MP M Dl) ρ3 S3 H3 env3 σ3 g3 re3 _ _ h3 fun ρ4 H4 S4 b s4 g4 h4 => ?_
        have c4 := c.step (s3.trans s4) g4
        cases b with
        | true =>
          rw [if_pos rfl] at h4 ⊢
          refine he (MP M Dl) ρ4 S4 H4 env3 σ3 g4 (re3.up s4) _ _ h4 fun ρ5 H5 S5 d5 v5 s5 g5 r5 h5 => ?_
          have c5 := c4.step s5 g5
          obtain ⟨g6, e6⟩ := g5.setMP (o := .lst (vs ++ [v5])) Dk.pl_lst
          refine ⟨vs, c5.at', sz_lt (by rw [c5.rel.len]; omega), ρ5, S5, acc ++ [d5], vs ++ [v5], ⟨c5.pre, c5.ex.trans e6, fun a m => ?_, g6, upd_same, (c5.rel.snoc r5).up (List.prefix_refl _) e6 _ _⟩, h5⟩
          have ne : a ≠ Dl := fun z => hDn (.inl (z ▸ m))
          rw [upd_ne ne]
          exact c5.keep a m
        | false =>
          rw [if_neg (by decide)] at h4 ⊢
          exact ⟨ρ4, S4, acc, vs, c4, h4⟩
    · have hi' : i = ds.length := by omega
      subst hi'
      obtain ⟨hit, hk⟩ := hId acc S' hI
      obtain ⟨_, o2, _⟩ := ok (MP M Dl) ρ' S' H' c.pre c.ex c.g hit
      refine .inl ⟨o2 _ (Nat.le_refl _), ?_⟩
      have s2 : Stp cl M ρ1 H1 ρ' H' := ⟨c.pre, c.ex.trans exMP, c.keep⟩
      refine q ρ' H' S' _ _ (s1.trans s2) c.g.unMP (.lst ?_ (c.rel.up (List.prefix_refl _) exMP _ _)) hk
      rw [cut_no fun z => z.elim (fun m => hDn (.inl m)) fun m => c.g.dis Dl m (.inr rfl)]
      exact c.at'
end
end Pw
namespace Pw
open PySem PySem.Spec PyProof.Rows L2 Evl Lw
mutual
def D.noRef : D → Bool
  | .ref _ => false
  | .tup ds | .lst ds | .scr ds | .obj _ _ ds => noRefs ds
  | _ => true
def noRefs : List D → Bool
  | [] => true
  | d :: ds => d.noRef && noRefs ds
end
mutual
def D.noLst : D → Bool
  | .ref _ | .lst _ | .scr _ => false
  | .tup ds | .obj _ _ ds => noLsts ds
  | _ => true
def noLsts : List D → Bool
  | [] => true
  | d :: ds => d.noLst && noLsts ds
end
section
variable {K : PySem.W.Frag} {cl : Cl} {ρ ρ' : List Addr} {H H' : Hp}
mutual
theorem RelD.drop : ∀ (d : D) (v : V), d.noRef = true → RelD K cl ρ H d v → RelD K cl ρ' H d v
  | .non, _, _, h => by cases h; exact .non
  | .bl b, _, _, h => by cases h; exact .bl b
  | .int i, _, _, h => by cases h; exact .int i
  | .str s, _, _, h => by cases h; exact .str s
  | .ty n, _, _, h => by cases h; exact .ty n
  | .tup ds, _, p, h => by
    cases h with
    | tup hs ha => exact .tup hs (RelAll.drop ds _ (by simpa [D.noRef] using p) ha)
  | .lst ds, _, p, h => by
    cases h with
    | lst hs ha => exact .lst hs (RelAll.drop ds _ (by simpa [D.noRef] using p) ha)
  | .scr ds, _, p, h => by
    cases h with
    | scr hs ha => exact .scr hs (RelAll.drop ds _ (by simpa [D.noRef] using p) ha)
  | .obj c ks ds, _, p, h => by
    cases h with
    | obj hs hk ha => exact .obj hs hk (RelAll.drop ds _ (by simpa [D.noRef] using p) ha)
  | .ref n, _, p, _ => by simp [D.noRef] at p
theorem RelAll.drop : ∀ (ds : List D) (vs : List V), noRefs ds = true → RelAll K cl ρ H ds vs → RelAll K cl ρ' H ds vs
  | [], _, _, h => by cases h; exact .nil
  | d :: ds, _, p, h => by
    have p' : d.noRef = true ∧ noRefs ds = true := by simpa [noRefs] using p
    cases h with
    | cons h1 h2 => exact .cons (RelD.drop d _ p'.1 h1) (RelAll.drop ds _ p'.2 h2)
end
def ExT (H H' : Hp) : Prop := (∀ a o, H a = some o → (∀ xs, o ≠ .lst xs) → H' a = some o)
theorem ext_t {a : Addr} {xs : List V} (e : ExT H H') (h : SqT K H a xs) : SqT K H' a xs := by
  rcases h with h | h
  · rcases h with h | ⟨o, h⟩
    · exact .inl (.inl (e _ _ h fun ys z => by cases z))
    · exact .inl (.inr ⟨o, e _ _ h fun ys z => by cases z⟩)
  · exact .inr h
mutual
theorem RelD.noL (e : ExT H H') : ∀ (d : D) (v : V), d.noLst = true → RelD K cl ρ H d v → RelD K cl ρ' H' d v
  | .non, _, _, h => by cases h; exact .non
  | .bl b, _, _, h => by cases h; exact .bl b
  | .int i, _, _, h => by cases h; exact .int i
  | .str s, _, _, h => by cases h; exact .str s
  | .ty n, _, _, h => by cases h; exact .ty n
  | .tup ds, _, p, h => by
    cases h with
    | tup hs ha => exact .tup (ext_t e hs) (RelAll.noL e ds _ (by simpa [D.noLst] using p) ha)
  | .lst ds, _, p, _ => by simp [D.noLst] at p
  | .scr ds, _, p, _ => by simp [D.noLst] at p
  | .obj c ks ds, _, p, h => by
    cases h with
    | obj hs hk ha => exact .obj (e _ _ hs fun ys z => by cases z) hk (RelAll.noL e ds _ (by simpa [D.noLst] using p) ha)
  | .ref n, _, p, _ => by simp [D.noLst] at p
theorem RelAll.noL (e : ExT H H') : ∀ (ds : List D) (vs : List V), noLsts ds = true → RelAll K cl ρ H ds vs → RelAll K cl ρ' H' ds vs
  | [], _, _, h => by cases h; exact .nil
  | d :: ds, _, p, h => by
    have p' : d.noLst = true ∧ noLsts ds = true := by simpa [noLsts] using p
    cases h with
    | cons h1 h2 => exact .cons (RelD.noL e d _ p'.1 h1) (RelAll.noL e ds _ p'.2 h2)
end
end
mutual
def D.frz (S : Sto) : D → D
  | .ref m => match S[m]? with
    | some (.lst ds) => .lst ds
    | some (.obj c ks ds) => .obj c ks ds
    | some (.dct _) => .ref m
    | some (.dctL _ _) => .ref m
    | none => .ref m
  | .tup ds => .tup (frzs S ds)
  | .lst ds => .lst (frzs S ds)
  | .scr ds => .scr (frzs S ds)
  | .obj c ks ds => .obj c ks (frzs S ds)
  | d => d
def frzs (S : Sto) : List D → List D
  | [] => []
  | d :: ds => d.frz S :: frzs S ds
end
section
variable {K : PySem.W.Frag} {cl : Cl} {M : Addr → Prop} {ρ : List Addr} {S : Sto} {H : Hp}
theorem exNil : Ex cl (cut (NM M ρ) H) (cut (NM M []) H) := cut_ex fun a o n q => ⟨fun z => z.elim (fun m => n (.inl m)) (fun m => by cases m), q⟩
mutual
theorem frz_rel (g : G K cl M ρ S H) : ∀ (d : D) (v : V), RelD K cl ρ (cut (NM M ρ) H) d v → RelD K cl ρ (cut (NM M []) H) (d.frz S) v
  | .non, _, h => by cases h; exact .non
  | .bl b, _, h => by cases h; exact .bl b
  | .int i, _, h => by cases h; exact .int i
  | .str s, _, h => by cases h; exact .str s
  | .ty n, _, h => by cases h; exact .ty n
  | .tup ds, _, h => by
    cases h with
    | tup hs ha =>
      rw [D.frz]
      exact .tup (ex_t (exNil (cl := cl)) hs) (frzs_rel g ds _ ha)
  | .lst ds, _, h => by
    cases h with
    | lst hs ha =>
      rw [D.frz]
      exact .lst ((exNil (cl := cl)).lst hs) (frzs_rel g ds _ ha)
  | .scr ds, _, h => by
    cases h with
    | scr hs ha =>
      rw [D.frz]
      exact .scr (ex_l (exNil (cl := cl)) hs) (frzs_rel g ds _ ha)
  | .obj c ks ds, _, h => by
    cases h with
    | obj hs hk ha =>
      rw [D.frz]
      exact .obj ((exNil (cl := cl)).n _ _ hs fun ps z => by cases z) hk (frzs_rel g ds _ ha)
  | .ref n, _, h => by
    cases h with
    | @ref _ a hn =>
      have hm : ¬ NM M [] a := fun z => z.elim (g.dis a (List.mem_of_getElem? hn)) (fun m => by cases m)
      rw [D.frz]
      split
      · rename_i ds he
        obtain ⟨vs, hv, r⟩ := g.lstAt hn he
        exact .lst (by rw [cut_no hm]; exact hv) (r.up (List.prefix_refl _) exNil _ _)
      · rename_i c ks ds he
        obtain ⟨u, hu, r⟩ := g.sto n _ a he hn
        cases r with
        | obj hk ha => exact .obj (by rw [cut_no hm]; exact hu) hk (ha.up (List.prefix_refl _) exNil _ _)
      · exact .ref hn
      · exact .ref hn
      · exact .ref hn
theorem frzs_rel (g : G K cl M ρ S H) : ∀ (ds : List D) (vs : List V), RelAll K cl ρ (cut (NM M ρ) H) ds vs → RelAll K cl ρ (cut (NM M []) H) (frzs S ds) vs
  | [], _, h => by cases h; rw [frzs]; exact .nil
  | d :: ds, _, h => by
    cases h with
    | cons h1 h2 =>
      rw [frzs]
      exact .cons (frz_rel g d _ h1) (frzs_rel g ds _ h2)
end
end
abbrev PFn := List D → (D → Prop) → Prop
def spP (K : PySem.W.Frag) (cl : Cl) (F : PFn) : Sp := fun vs H Q _ => ∃ (M : Addr → Prop) (ds : List D) (k : D → Prop), (∀ a, M a → ∃ o, H a = some o ∧ Dk.Pl o) ∧ LamX.Tabs cl.tabs (cut (NM M []) H) ∧ RelAll K cl [] (cut (NM M []) H) ds vs ∧ F ds k ∧
  ∀ H' d v, Stp cl M [] H [] H' → RelD K cl [] (cut (NM M []) H') d v → k d → Q v H'
def startE (n : Nat) (ds : List D) : Env := ds.map some ++ List.replicate (n - ds.length) none
theorem re_start {K : PySem.W.Frag} {cl : Cl} {ρ : List Addr} {H : Hp} {ds : List D} {vs : List V} (N : List Str) (r : RelAll K cl ρ H ds vs) : RE K cl ρ H (startE N.length ds) (L2.start N vs) := by
  refine ⟨?_, fun i d h => ?_⟩
  · unfold startE L2.start
    rw [List.length_append, List.length_append, List.length_map, List.length_map, List.length_replicate, List.length_replicate, r.len]
  · unfold startE at h
    unfold L2.start
    by_cases hi : i < ds.length
    · rw [List.getElem?_append_left (by rw [List.length_map]; exact hi), List.getElem?_map, List.getElem?_eq_getElem hi] at h
      cases h
      obtain ⟨v, hv, rv⟩ := r.get (List.getElem?_eq_getElem hi)
      exact ⟨v, by rw [List.getElem?_append_left (by rw [List.length_map, r.len]; exact hi), List.getElem?_map, hv]; rfl, rv⟩
    · rw [List.getElem?_append_right (by rw [List.length_map]; omega)] at h
      have := List.mem_of_getElem? h
      rw [List.mem_replicate] at this
      cases this.2
theorem spP_len {K : PySem.W.Frag} {cl : Cl} {F : PFn} {n : Nat} (h : ∀ ds k, F ds k → ds.length = n) : ∀ vs H Q E, spP K cl F vs H Q E → vs.length = n := fun vs H Q E ⟨M, ds, k, _, _, r, hF, _⟩ => by
  rw [r.len]
  exact h ds k hF
theorem fn_ok {K : PySem.W.Frag} {cl : Cl} {F : PFn} {ts : TS} {ps : PSx} {N : List Str} {vs : List V} {H : Hp} {Q : VK} {E : XK} (hs : SmS K cl ts ps)
    (hp : ∀ ds k, F ds k → ps { nx := fun _ _ => k .non, rt := fun d S => (d.frz S).noRef = true ∧ k (d.frz S) } (startE N.length ds) []) (h : spP K cl F vs H Q E) : ts { nx := fun _ H' => Q .non H', rt := Q } (L2.start N vs) H := by
  obtain ⟨M, ds, k, hM, hT, r, hF, q⟩ := h
  have g : G K cl M [] [] H := ⟨hM, fun a ha => (by cases ha), List.nodup_nil, rfl, fun n o a hs => (by simp at hs), hT⟩
  have st : ∀ {ρ' H'}, Stp cl M [] H ρ' H' → Stp cl M [] H [] H' := fun s => ⟨List.prefix_refl _, s.ex.trans exNil, s.keep⟩
  refine hs M [] [] H _ _ g (re_start N r) _ _ (hp ds k hF) ⟨fun ρ' H' S' env' σ' s g' re' hk => q H' _ _ (st s) .non hk, fun ρ' H' S' d v s g' rd ⟨h1, hk⟩ => q H' _ _ (st s) ((frz_rel g' d v rd).drop _ _ h1) hk, fun _ _ _ _ _ _ _ _ h => h.elim, fun _ _ _ _ _ _ _ _ h => h.elim⟩
def callk (F : PFn) (S : Sto) (ds : List D) (k : D → Prop) : Prop := noRefs (ds.map (rs S)) = true ∧ F (ds.map (rs S)) fun d => (noRefs ds = true ∨ d.noLst = true) ∧ k d
def pCall (F : PFn) (pa : PAx) : PEx := fun env S k => pa env S fun ds S1 => callk F S1 ds fun d => k d S1
section
variable {K : PySem.W.Frag} {cl : Cl} {M : Addr → Prop} {ρ : List Addr} {S : Sto} {H H' : Hp} {F : PFn} {tr : TA} {pr : PAx} {E : XK}
theorem rs_id : ∀ ds : List D, noRefs ds = true → ds.map (rs S) = ds
  | [], _ => rfl
  | d :: ds, p => by
    have p' : d.noRef = true ∧ noRefs ds = true := by simpa [noRefs] using p
    rw [List.map_cons, rs_id ds p'.2]
    cases d <;> first | rfl | simp [D.noRef] at p'
theorem Ex.back {cl : Cl} {N N' : Addr → Prop} {H H' : Hp} (hN : ∀ a, N' a → N a) (hv : ∀ a o, N a → ¬ N' a → H' a = some o → ∃ l, o = .lst l) (e : Ex cl (cut N' H) (cut N' H')) : Ex cl (cut N H) (cut N H') := by
  have e1 : Ex cl (cut N H) (cut N' H) := cut_ex fun a o n q => ⟨fun z => n (hN a z), q⟩
  have up : ∀ b o, ¬ N b → cut N' H' b = some o → cut N H' b = some o := fun b o nb h => by
    rw [cut_no nb]
    rw [cut_no fun z => nb (hN b z)] at h
    exact h
  have notN : ∀ b o, cut N H b = some o → ¬ N b := fun b o h z => by
    rw [cut_yes z] at h
    cases h
  refine ⟨fun b o h nt => up b o (notN b o h) ((e1.trans e).n b o h nt), fun hT p hp => ?_⟩
  have hP : ¬ N p.1 := by
    obtain ⟨ps, h, _⟩ := hT p hp
    exact notN _ _ h
  obtain ⟨ps, h1, h2, h3⟩ := (e1.trans e).t hT p hp
  refine ⟨ps, up _ _ hP h1, h2, fun pos cv hc => ?_⟩
  obtain ⟨c, rfl, h4⟩ := h3 pos cv hc
  refine ⟨c, rfl, up _ _ (fun z => ?_) h4⟩
  have n' : ¬ N' c := fun z' => by
    rw [cut_yes z'] at h4
    cases h4
  rw [cut_no n'] at h4
  obtain ⟨l, hl⟩ := hv c _ z n' h4
  unfold LamX.CodeO at hl
  cases hl
theorem G.same (g : G K cl M ρ S H) (ex : Ex cl (cut (NM M ρ) H) (cut (NM M ρ) H')) (k : ∀ a, NM M ρ a → H' a = H a) : G K cl M ρ S H' ∧ Stp cl M ρ H ρ H' := by
  refine ⟨⟨fun a m => by rw [k a (.inl m)]; exact g.live a m, g.dis, g.nd, g.len, fun n o a hs ha => ?_, ex.t g.tab⟩, List.prefix_refl _, ex, fun a m => k a (.inl m)⟩
  obtain ⟨u, hu, r⟩ := g.sto n o a hs ha
  exact ⟨u, by rw [k a (.inr (List.mem_of_getElem? ha))]; exact hu, r.up (List.prefix_refl _) ex⟩
theorem sm_call (ha : SmA K cl tr pr) : SmE K cl (tCall (spP K cl F) [] E tr) (pCall F pr) := fun M ρ S H env σ g re k Q h q =>
  ha M ρ S H env σ g re _ _ h fun ρ1 H1 S1 ds vs s1 g1 r ⟨hn, hF⟩ => by
    show spP K cl F (vs ++ []) H1 Q E
    rw [List.append_nil]
    by_cases hr : noRefs ds = true
    · rw [rs_id ds hr] at hF
      have hset : ∀ a, NM (NM M ρ1) [] a ↔ NM M ρ1 a := fun a => ⟨fun z => z.elim id (fun m => by cases m), .inl⟩
      have e1 : ∀ H2 : Hp, Ex cl (cut (NM M ρ1) H2) (cut (NM (NM M ρ1) []) H2) := fun H2 => cut_ex fun a o n q => ⟨fun z => n ((hset a).mp z), q⟩
      have e2 : ∀ H2 : Hp, Ex cl (cut (NM (NM M ρ1) []) H2) (cut (NM M ρ1) H2) := fun H2 => cut_ex fun a o n q => ⟨fun z => n ((hset a).mpr z), q⟩
      refine ⟨NM M ρ1, ds, _, fun a m => m.elim (g1.live a) g1.liveR, (e1 H1).t g1.tab, (r.up (List.prefix_refl _) (e1 H1) _ _).drop _ _ hr, hF, fun H' d v s rd ⟨_, hk⟩ => ?_⟩
      obtain ⟨g2, s2⟩ := g1.same (H' := H') ((e1 H1).trans (s.ex.trans (e2 H'))) s.keep
      exact q ρ1 H' S1 d v (s1.trans s2) g2 (rd.up (List.nil_prefix) (e2 H') _ _) hk
    · let Vw : Addr → Prop := fun a => ∃ (n : Nat) (xs : List D), ρ1[n]? = some a ∧ S1[n]? = some (.lst xs)
      let M' : Addr → Prop := fun a => NM M ρ1 a ∧ ¬ Vw a
      have hset : ∀ a, NM M' [] a → NM M ρ1 a ∧ ¬ Vw a := fun a z => z.elim id (fun m => by cases m)
      have e1 : ∀ H2 : Hp, Ex cl (cut (NM M ρ1) H2) (cut (NM M' []) H2) := fun H2 => cut_ex fun a o n q => ⟨fun z => n (hset a z).1, q⟩
      have hview : ∀ a, Vw a → ∃ ws, H1 a = some (.lst ws) := fun a ⟨n, xs, hn, hs⟩ => by
        obtain ⟨ws, hw, _⟩ := g1.lstAt hn hs
        exact ⟨ws, hw⟩
      have rels : ∀ (ds : List D) (vs : List V), noRefs (ds.map (rs S1)) = true → RelAll K cl ρ1 (cut (NM M ρ1) H1) ds vs → RelAll K cl [] (cut (NM M' []) H1) (ds.map (rs S1)) vs := by
        intro ds
        induction ds with
        | nil =>
          intro vs _ h
          cases h
          exact .nil
        | cons d ds ih =>
          intro vs p h
          rw [List.map_cons] at p ⊢
          have p' : (rs S1 d).noRef = true ∧ noRefs (ds.map (rs S1)) = true := by simpa [noRefs] using p
          cases h with
          | @cons _ _ v0 _ h1 h2 =>
            refine .cons ?_ (ih _ p'.2 h2)
            have main : RelD K cl ρ1 (cut (NM M' []) H1) (rs S1 d) v0 := by
              cases h1 with
              | @ref n a hn =>
                have pr := p'.1
                unfold rs at pr ⊢
                simp only at pr ⊢
                split at pr
                · rename_i xs he
                  obtain ⟨ws, hw, rw'⟩ := g1.lstAt hn he
                  refine .lst ?_ (rw'.up (List.prefix_refl _) (e1 H1) _ _)
                  rw [cut_no fun z => (hset a z).2 ⟨n, xs, hn, he⟩]
                  exact hw
                · simp [D.noRef] at pr
              | non => exact .non
              | bl => exact .bl _
              | int => exact .int _
              | str => exact .str _
              | ty => exact .ty _
              | tup hs ha => exact (RelD.tup hs ha).up (List.prefix_refl _) (e1 H1) _ _
              | lst hs ha => exact (RelD.lst hs ha).up (List.prefix_refl _) (e1 H1) _ _
              | scr hs ha => exact (RelD.scr hs ha).up (List.prefix_refl _) (e1 H1) _ _
              | obj hs hk ha => exact (RelD.obj hs hk ha).up (List.prefix_refl _) (e1 H1) _ _
            exact main.drop _ _ p'.1
      refine ⟨M', ds.map (rs S1), _, fun a m => m.1.elim (g1.live a) g1.liveR, (e1 H1).t g1.tab, rels ds vs hn r, hF, fun H' d v s rd ⟨hl, hk⟩ => ?_⟩
      have hd : d.noLst = true := hl.elim (fun z => absurd z hr) id
      have keep : ∀ a, NM M ρ1 a → H' a = H1 a := fun a m => by
        by_cases hv : Vw a
        · obtain ⟨ws, hw⟩ := hview a hv
          rw [hw]
          exact (cut_ex' s.ex (fun z => (hset a z).2 hv) hw (fun ps z => by cases z)).2
        · exact s.keep a ⟨m, hv⟩
      obtain ⟨g2, s2⟩ := g1.same (H' := H') (Ex.back (fun a z => (hset a z).1) (fun a o h1 h2 h3 => by
        have hv : Vw a := Classical.byContradiction fun hv => h2 (.inl ⟨h1, hv⟩)
        obtain ⟨ws, hw⟩ := hview a hv
        rw [keep a h1, hw] at h3
        exact ⟨ws, (Option.some.inj h3).symm⟩) s.ex) keep
      refine q ρ1 H' S1 d v (s1.trans s2) g2 (RelD.noL (fun a o ho hl => ?_) d v hd rd) hk
      by_cases z : NM M' [] a
      · rw [cut_yes z] at ho
        cases ho
      · rw [cut_no z] at ho
        have n : ¬ NM M ρ1 a := fun m => by
          have hv : Vw a := Classical.byContradiction fun hv => z (.inl ⟨m, hv⟩)
          obtain ⟨ws, hw⟩ := hview a hv
          rw [keep a m, hw] at ho
          cases ho
          exact hl ws rfl
        rw [cut_no n]
        exact ho
end
abbrev SFn := List D → Sto → (D → Sto → Prop) → Prop
def spS (K : PySem.W.Frag) (cl : Cl) (R : SFn) : Sp := fun vs H Q _ => ∃ (M : Addr → Prop) (ρ : List Addr) (S : Sto) (ds : List D) (k : D → Sto → Prop), G K cl M ρ S H ∧ RelAll K cl ρ (cut (NM M ρ) H) ds vs ∧ R ds S k ∧
  ∀ ρ' H' S' d v, Stp cl M ρ H ρ' H' → G K cl M ρ' S' H' → RelD K cl ρ' (cut (NM M ρ') H') d v → k d S' → Q v H'
def pCallS (R : SFn) (pa : PAx) : PEx := fun env S k => pa env S fun ds S1 => R ds S1 k
theorem sm_callS {K : PySem.W.Frag} {cl : Cl} {R : SFn} {tr : TA} {pr : PAx} {E : XK} (ha : SmA K cl tr pr) : SmE K cl (tCall (spS K cl R) [] E tr) (pCallS R pr) := fun M ρ S H env σ g re k Q h q =>
  ha M ρ S H env σ g re _ _ h fun ρ1 H1 S1 ds vs s1 g1 r hR => ⟨M, ρ1, S1, ds, k, g1, by rw [List.append_nil]; exact r, hR, fun ρ' H' S' d v s2 g2 rd hk => q ρ' H' S' d v (s1.trans s2) g2 rd hk⟩
theorem spS_len {K : PySem.W.Frag} {cl : Cl} {R : SFn} {n : Nat} (h : ∀ ds S k, R ds S k → ds.length = n) : ∀ vs H Q E, spS K cl R vs H Q E → vs.length = n := fun vs H Q E ⟨M, ρ, S, ds, k, _, r, hF, _⟩ => by
  rw [r.len]
  exact h ds S k hF
theorem fnS_ok {K : PySem.W.Frag} {cl : Cl} {R : SFn} {ts : TS} {ps : PSx} {N : List Str} {vs : List V} {H : Hp} {Q : VK} {E : XK} (hs : SmS K cl ts ps)
    (hp : ∀ ds S k, R ds S k → ps { nx := fun _ S' => k .non S', rt := k } (startE N.length ds) S) (h : spS K cl R vs H Q E) : ts { nx := fun _ H' => Q .non H', rt := Q } (L2.start N vs) H := by
  obtain ⟨M, ρ, S, ds, k, g, r, hF, q⟩ := h
  exact hs M ρ S H _ _ g (re_start N r) _ _ (hp ds S k hF) ⟨fun ρ' H' S' env' σ' s g' re' hk => q ρ' H' S' _ _ s g' .non hk, q, fun _ _ _ _ _ _ _ _ h => h.elim, fun _ _ _ _ _ _ _ _ h => h.elim⟩
end Pw
namespace Pw
open PySem PySem.Spec PyProof.Rows L2 Evl Lw
abbrev uTup (K : PySem.W.Frag) : List V → Hp → VK → Prop := fun xs H Q => ∃ p ys, xs = [.ref p] ∧ ((SqL K H p ys ∧ ∀ l, H l = none → Q (.ref l) (upd H l (.tup ys))) ∨ (SqT K H p ys ∧ Q (.ref p) H))
abbrev uLst (K : PySem.W.Frag) : List V → Hp → VK → Prop := fun xs H Q => ∃ p ys, xs = [.ref p] ∧ (SqL K H p ys ∨ SqT K H p ys) ∧ ∀ l, H l = none → Q (.ref l) (upd H l (.lst ys))
def spLawT (tabs : List (Addr × Str)) (K : PySem.W.Frag) : Sp := fun vs H Q _ => ∃ (a : Addr) (ns : List Int), vs = [.ref a] ∧ (∀ p ∈ tabs, H p.1 = some (.tbl #[])) ∧ SqL K H a (ns.map V.int) ∧ ns.length ≤ 63 ∧ ∀ H', Q (.bl true) H'
theorem law_ok {K : PySem.W.Frag} {cl : Cl} {ts : TS} {ps : PSx} {N : List Str} {vs : List V} {H : Hp} {Q : VK} {E : XK} (hs : SmS K cl ts ps)
    (hp : ∀ ns : List Int, ns.length ≤ 63 → ps { nx := fun _ _ => False, rt := fun d _ => d = .bl true } (startE N.length [.scr (ns.map D.int)]) []) (h : spLawT cl.tabs K vs H Q E) : ts { nx := fun _ H' => Q .non H', rt := Q } (L2.start N vs) H := by
  obtain ⟨a, ns, rfl, hT, hS, hl, q⟩ := h
  have g : G K cl (fun _ => False) [] [] H := ⟨fun a m => m.elim, fun a ha => (by cases ha), List.nodup_nil, rfl, fun n o a hs => (by simp at hs), fun p hp => .nil (by rw [cut_no (fun z => z.elim id (fun m => by cases m))]; exact hT p hp)⟩
  have scrs : ∀ ns : List Int, RelAll K cl [] (cut (NM (fun _ => False) []) H) (ns.map D.int) (ns.map V.int) := fun ns => by
    induction ns with
    | nil => exact .nil
    | cons n ns ih => exact .cons (.int n) ih
  have ex : Ex cl H (cut (NM (fun _ => False) []) H) := .of fun a o h => by
    rw [cut_no (fun z => z.elim id (fun m => by cases m))]
    exact h
  refine hs _ [] [] H _ _ g (re_start N (.cons (.scr (ex_l ex hS) (scrs ns)) .nil)) _ _ (hp ns hl) ⟨fun ρ' H' S' env' σ' s g' re' hk => hk.elim, fun ρ' H' S' d v s g' rd hk => ?_, fun _ _ _ _ _ _ _ _ h => h.elim, fun _ _ _ _ _ _ _ _ h => h.elim⟩
  rw [hk] at rd
  rw [rel_bl rd]
  exact q H'
def pStar (pa : PEx) (pr : PAx) : PAx := fun env S k => pa env S fun x S1 => ∃ ds, itemsOf S1 x = some ds ∧ pr env S1 fun xs S2 => k (ds ++ xs) S2
def truk (S : Sto) (d : D) (k : Bool → Prop) : Prop := match d with
  | .non => k false
  | .bl b => k b
  | .int i => k (i != 0)
  | .str s => s.length ≤ 100000 ∧ k ((s.length : Int) != 0)
  | x => ∃ ds, itemsOf S x = some ds ∧ k (!ds.isEmpty)
def pTru (pa : PEx) : PTx := fun env S k => pa env S fun x S1 => truk S1 x fun b => k b S1
def fldOf (cs : List Nat) (f : Str) (S : Sto) : D → Option D
  | .obj c ks ds => if c ∈ cs then (ks.zip ds).lookup f else none
  | .ref n => match S[n]? with
    | some (.obj c ks ds) => if c ∈ cs then (ks.zip ds).lookup f else none
    | _ => none
  | _ => none
def pFld (f : Str) (cs : List Nat) (pa : PEx) : PEx := fun env S k => pa env S fun x S1 => ∃ d, fldOf cs f S1 x = some d ∧ k d S1
section
variable {K : PySem.W.Frag} {cl : Cl} {te ta tb : TE} {pe pa pb : PEx}
theorem sm_tru (ha : SmE K cl ta pa) : SmT K cl (fun σ H Q => ta σ H fun x H' => ∃ k, TruV K x H' k ∧ Q k H') (pTru pa) := fun M ρ S H env σ g re k Q h q =>
  ha M ρ S H env σ g re _ _ h fun ρ1 H1 S1 x v s1 g1 rx hk => by
    have seqs : (∃ ds, itemsOf S1 x = some ds ∧ k (!ds.isEmpty) S1) → ∃ k, TruV K v H1 k ∧ Q k H1 := by
      rintro ⟨ds, e, hk⟩
      obtain ⟨a, vs, rfl, hs, r⟩ := items_sq g1 rx e
      have he : (!ds.isEmpty) = !vs.isEmpty := by cases r <;> rfl
      refine ⟨_, ?_, q ρ1 H1 S1 _ s1 g1 hk⟩
      rcases hs with hs | hs
      · exact .inl ⟨vs, hs, he⟩
      · exact .inr (.inl ⟨vs, hs, he⟩)
    cases x with
    | non => cases rx; exact ⟨false, rfl, q ρ1 H1 S1 _ s1 g1 hk⟩
    | bl b => rw [rel_bl rx]; exact ⟨b, rfl, q ρ1 H1 S1 _ s1 g1 hk⟩
    | int i => rw [rel_int rx]; exact ⟨_, rfl, q ρ1 H1 S1 _ s1 g1 hk⟩
    | str y => rw [rel_str rx]; exact ⟨_, ⟨sz_of hk.1, rfl⟩, q ρ1 H1 S1 _ s1 g1 hk.2⟩
    | _ => exact seqs hk
theorem lookup_rel {ρ : List Addr} {H : Hp} {f : Str} : ∀ {fs : List (Str × V)} {ds : List D} {d : D}, RelAll K cl ρ H ds (fs.map (·.2)) → ((fs.map (·.1)).zip ds).lookup f = some d → ∃ v, fs.lookup f = some v ∧ RelD K cl ρ H d v
  | [], ds, d, r, h => by simp at h
  | (k, v) :: fs, ds, d, r, h => by
    cases r with
    | @cons d0 ds' _ _ h1 h2 =>
      rw [List.map_cons, List.zip_cons_cons, List.lookup_cons] at h
      rw [List.lookup_cons]
      cases hb : f == k with
      | true =>
        rw [hb] at h
        cases h
        exact ⟨v, rfl, h1⟩
      | false =>
        rw [hb] at h
        exact lookup_rel h2 h
theorem fld_at {M : Addr → Prop} {ρ : List Addr} {S : Sto} {H : Hp} (g : G K cl M ρ S H) {cs : List Nat} {f : Str} {x d : D} {v : V} (r : RelD K cl ρ (cut (NM M ρ) H) x v) (h : fldOf cs f S x = some d) :
    ∃ a c dx fs u, v = .ref a ∧ c ∈ cs ∧ H a = some (.ins (cl c) dx fs) ∧ fs.lookup f = some u ∧ RelD K cl ρ (cut (NM M ρ) H) d u := by
  cases r with
  | @obj a dx c fs ks ds hs hk ha =>
    unfold fldOf at h
    simp only at h
    split at h
    · rename_i hc
      rw [← hk] at h
      obtain ⟨u, hu, ru⟩ := lookup_rel ha h
      exact ⟨a, c, dx, fs, u, rfl, hc, cut_subE _ _ hs, hu, ru⟩
    · cases h
  | @ref n a hn =>
    unfold fldOf at h
    simp only at h
    split at h
    · rename_i c ks ds he
      split at h
      · rename_i hc
        obtain ⟨u, hu, r⟩ := g.sto n _ a he hn
        cases r with
        | @obj _ dx fs _ _ hk ha =>
          rw [← hk] at h
          obtain ⟨w, hw, rw'⟩ := lookup_rel ha h
          exact ⟨a, c, dx, fs, w, rfl, hc, hu, hw, rw'⟩
      · cases h
    · cases h
  | _ => cases h
theorem sm_fld {f : Str} {cs : List Nat} (hc : ∀ c ∈ cs, Cls K (cl c) ∧ NoAttr K (cl c) f) (ha : SmE K cl ta pa) : SmE K cl (tFld K ta f) (pFld f cs pa) := fun M ρ S H env σ g re k Q h q =>
  ha M ρ S H env σ g re _ _ h fun ρ1 H1 S1 x v s1 g1 rx ⟨d, hd, hk⟩ => by
    obtain ⟨a, c, dx, fs, u, rfl, hcs, hH, hu, ru⟩ := fld_at g1 rx hd
    exact ⟨a, cl c, dx, fs, u, rfl, hH, (hc c hcs).1, (hc c hcs).2, hu, q ρ1 H1 S1 d u s1 g1 ru hk⟩
theorem sm_star {tr : TA} {pr : PAx} (ha : SmE K cl ta pa) (hr : SmA K cl tr pr) : SmA K cl (StX.tStar K ta tr) (pStar pa pr) := fun M ρ S H env σ g re k Q h q =>
  ha M ρ S H env σ g re _ _ h fun ρ1 H1 S1 x v s1 g1 rx ⟨ds, hd, h1⟩ => by
    obtain ⟨a, vs, rfl, hs, r⟩ := items_sq g1 rx hd
    exact ⟨a, vs, rfl, hs.symm, hr M ρ1 S1 H1 env σ g1 (re.up s1) _ _ h1 fun ρ2 H2 S2 ys ws s2 g2 ry h2 => q ρ2 H2 S2 _ _ (s1.trans s2) g2 ((r.up s2.pre s2.ex _ _).app ry) h2⟩
end
def forG (g : PGx) (tb : PSx) (P : PEnds) : List D → Env → Sto → Prop
  | [], env, S => P.nx env S
  | d :: ds, env, S => g d env S fun env1 S1 => tb { P with nx := forG g tb P ds, ct := forG g tb P ds, bk := P.nx } env1 S1
theorem for_go {pi : PIx} {g : PGx} {tb : PSx} {P : PEnds} {env : Env} {S : Sto} {src : D} {ds : List D} (hpi : ∀ kk : D → List D → Sto → Prop, kk src ds S → pi env S kk) (hs : ∀ S', iterOf S' src = some ds) (h : forG g tb P ds env S) : pFor pi g tb P env S := by
  refine hpi _ ⟨fun i => forG g tb P (ds.drop i), h, fun i d env S hd hI => ⟨hs S, ?_⟩, fun env S hI => ⟨hs S, ?_⟩⟩
  · have hi := (List.getElem?_eq_some_iff.mp hd)
    have e : ds.drop i = d :: ds.drop (i + 1) := by
      rw [← hi.2]
      exact List.drop_eq_getElem_cons hi.1
    dsimp only at hI
    rw [e] at hI
    exact hI
  · dsimp only at hI
    rw [List.drop_of_length_le (Nat.le_refl _)] at hI
    exact hI
def forGR (src : D) (all : List D) (g : PGx) (tb : PSx) (P : PEnds) : List D → Env → Sto → Prop
  | [], env, S => iterOf S src = some all ∧ P.nx env S
  | d :: ds, env, S => iterOf S src = some all ∧ g d env S fun env1 S1 => tb { P with nx := forGR src all g tb P ds, ct := forGR src all g tb P ds, bk := P.nx } env1 S1
theorem for_ref {pi : PIx} {g : PGx} {tb : PSx} {P : PEnds} {env : Env} {S : Sto} {src : D} {ds : List D} (hpi : ∀ kk : D → List D → Sto → Prop, kk src ds S → pi env S kk) (h : forGR src ds g tb P ds env S) : pFor pi g tb P env S := by
  refine hpi _ ⟨fun i => forGR src ds g tb P (ds.drop i), h, fun i d env S hd hI => ?_, fun env S hI => ?_⟩
  · have hi := (List.getElem?_eq_some_iff.mp hd)
    have e : ds.drop i = d :: ds.drop (i + 1) := by
      rw [← hi.2]
      exact List.drop_eq_getElem_cons hi.1
    dsimp only at hI
    rw [e] at hI
    exact hI
  · dsimp only at hI
    rw [List.drop_of_length_le (Nat.le_refl _)] at hI
    exact hI
theorem lc_go {α : Type} {pi : PIx} {g : PGx} {pt : PTx} {pe : PEx} {ws : List Nat} {env : Env} {S : Sto} {k : D → Sto → Prop} {src : D} {as : List α} {enc : α → D} (f : α → Bool) (h : α → D)
    (hpi : ∀ kk : D → List D → Sto → Prop, kk src (as.map enc) S → pi env S kk) (hs : ∀ S', iterOf S' src = some (as.map enc)) (hl : as.length < 90000)
    (hd : ∀ a ∈ as, ∀ (k2 : D → Sto → Prop) (k3 : Sto → Prop), (if f a = true then k2 (h a) S else k3 S) → g (enc a) (wipeE env ws) S fun env2 S2 => pt env2 S2 fun b S3 => if b = true then pe env2 S3 k2 else k3 S3)
    (hk : k (.lst ((as.filter f).map h)) S) : pLc pi g pt pe ws env S k := by
  refine hpi _ ⟨fun i acc S' => S' = S ∧ acc = ((as.take i).filter f).map h, ⟨rfl, rfl⟩, ?_, ?_⟩
  · rintro i d acc S' hi ⟨rfl, rfl⟩
    rw [List.getElem?_map] at hi
    cases e : as[i]? with
    | none => rw [e] at hi; cases hi
    | some a =>
      rw [e] at hi
      cases hi
      have ht : as.take (i + 1) = as.take i ++ [a] := take_up e
      refine ⟨?_, hs S', hd a (List.mem_of_getElem? e) _ _ ?_⟩
      · rw [List.length_map]
        have := List.length_filter_le f (as.take i)
        rw [List.length_take] at this
        omega
      · dsimp only
        rw [ht, List.filter_append, List.map_append]
        cases hf : f a with
        | true => rw [if_pos rfl, List.filter_cons_of_pos hf]; exact ⟨rfl, rfl⟩
        | false => rw [if_neg (by decide), List.filter_cons_of_neg (by rw [hf]; decide)]; exact ⟨rfl, by simp⟩
  · rintro acc S' ⟨rfl, rfl⟩
    rw [List.length_map, List.take_of_length_le (Nat.le_refl _)]
    exact ⟨hs S', hk⟩
theorem lc_ref {α : Type} {pi : PIx} {g : PGx} {pt : PTx} {pe : PEx} {ws : List Nat} {env : Env} {S : Sto} {k : D → Sto → Prop} {src : D} {as : List α} {enc : α → D} (f : α → Bool) (h : α → D)
    (hpi : ∀ kk : D → List D → Sto → Prop, kk src (as.map enc) S → pi env S kk) (hs : iterOf S src = some (as.map enc)) (hl : as.length < 90000)
    (hd : ∀ a ∈ as, ∀ (k2 : D → Sto → Prop) (k3 : Sto → Prop), (if f a = true then k2 (h a) S else k3 S) → g (enc a) (wipeE env ws) S fun env2 S2 => pt env2 S2 fun b S3 => if b = true then pe env2 S3 k2 else k3 S3)
    (hk : k (.lst ((as.filter f).map h)) S) : pLc pi g pt pe ws env S k := by
  refine hpi _ ⟨fun i acc S' => S' = S ∧ acc = ((as.take i).filter f).map h, ⟨rfl, rfl⟩, ?_, ?_⟩
  · rintro i d acc S' hi ⟨rfl, rfl⟩
    rw [List.getElem?_map] at hi
    cases e : as[i]? with
    | none => rw [e] at hi; cases hi
    | some a =>
      rw [e] at hi
      cases hi
      have ht : as.take (i + 1) = as.take i ++ [a] := take_up e
      refine ⟨?_, hs, hd a (List.mem_of_getElem? e) _ _ ?_⟩
      · rw [List.length_map]
        have := List.length_filter_le f (as.take i)
        rw [List.length_take] at this
        omega
      · dsimp only
        rw [ht, List.filter_append, List.map_append]
        cases hf : f a with
        | true => rw [if_pos rfl, List.filter_cons_of_pos hf]; exact ⟨rfl, rfl⟩
        | false => rw [if_neg (by decide), List.filter_cons_of_neg (by rw [hf]; decide)]; exact ⟨rfl, by simp⟩
  · rintro acc S' ⟨rfl, rfl⟩
    rw [List.length_map, List.take_of_length_le (Nat.le_refl _)]
    exact ⟨hs, hk⟩
theorem pure_noRef : ∀ d : D, d.pure = true → d.noRef = true := by
  intro d
  refine D.rec (motive_1 := fun d => d.pure = true → d.noRef = true) (motive_2 := fun ds => pureAll ds = true → noRefs ds = true) ?_ ?_ ?_ ?_ ?_ ?_ ?_ ?_ ?_ ?_ ?_ ?_ d
  all_goals simp_all [D.pure, D.noRef, pureAll, noRefs]
theorem rs_pure {S : Sto} {d : D} (h : d.pure = true) : rs S d = d := by
  cases d <;> first | rfl | simp [D.pure] at h
theorem eqk_pure {S : Sto} {x y : D} {k : D → Prop} (hx : x.pure = true) (hy : y.pure = true) (hd : x.dep ≤ 60) : eqk S x y k = k (.bl (D.eqv x y)) := by
  unfold eqk
  rw [rs_pure hx, rs_pure hy, hx, hy]
  simp [hd]
theorem nek_pure {S : Sto} {x y : D} {k : D → Prop} (hx : x.pure = true) (hy : y.pure = true) (hd : x.dep ≤ 60) : nek S x y k = k (.bl (!D.eqv x y)) := by
  unfold nek
  rw [rs_pure hx, rs_pure hy, hx, hy]
  simp [hd]
theorem frz_pure (S : Sto) : ∀ d : D, d.pure = true → d.frz S = d := by
  intro d
  refine D.rec (motive_1 := fun d => d.pure = true → d.frz S = d) (motive_2 := fun ds => pureAll ds = true → frzs S ds = ds) ?_ ?_ ?_ ?_ ?_ ?_ ?_ ?_ ?_ ?_ ?_ ?_ d
  all_goals simp_all [D.pure, D.frz, pureAll, frzs]
theorem rt_pure {d : D} {S : Sto} {k : D → Prop} (h : d.pure = true) (hk : k d) : (d.frz S).noRef = true ∧ k (d.frz S) := by
  rw [frz_pure S d h]
  exact ⟨pure_noRef d h, hk⟩
theorem pgTup_t {n : Nat} {gs : PGsx} {ds : List D} {env : Env} {S : Sto} {k : Env → Sto → Prop} : pgTup n gs (.tup ds) env S k = (ds.length = n ∧ gs ds env S k) := rfl
theorem isk_non {S : Sto} {x : D} {k : D → Prop} : isk S x .non k = k (.bl (isNon x)) := by
  show (D.non = .non ∧ k (.bl (isNon x))) = _
  simp
theorem nsk_non {S : Sto} {x : D} {k : D → Prop} : nsk S x .non k = k (.bl (!isNon x)) := by
  show (D.non = .non ∧ k (.bl (!isNon x))) = _
  simp
theorem isN_non : isNon .non = true := rfl
theorem isN_bl {b : Bool} : isNon (.bl b) = false := rfl
theorem isN_int {b : Int} : isNon (.int b) = false := rfl
theorem isN_str {b : Str} : isNon (.str b) = false := rfl
theorem isN_tup {b : List D} : isNon (.tup b) = false := rfl
theorem isN_lst {b : List D} : isNon (.lst b) = false := rfl
theorem isN_ref {b : Nat} : isNon (.ref b) = false := rfl
theorem isN_obj {c : Nat} {ks : List Str} {b : List D} : isNon (.obj c ks b) = false := rfl
section
variable {S : Sto} {k : D → Prop}
theorem o_add {i j : Int} : addk S (.int i) (.int j) k = k (.int (i + j)) := rfl
theorem o_sub {i j : Int} : subk S (.int i) (.int j) k = k (.int (i - j)) := rfl
theorem o_mul {i j : Int} : mulk S (.int i) (.int j) k = (CMul i j ∧ k (.int (i * j))) := rfl
theorem o_div {i j : Int} : divk S (.int i) (.int j) k = ((0 < j ∧ j < 1073741824) ∧ k (.int (i / j))) := rfl
theorem o_mod {i j : Int} : modk S (.int i) (.int j) k = (0 < j ∧ k (.int (i % j))) := rfl
theorem o_cmp {f : Int → Int → Bool} {i j : Int} : cmpk f S (.int i) (.int j) k = k (.bl (f i j)) := rfl
theorem o_int {i : Int} : int1k S [.int i] k = k (.int i) := rfl
theorem o_min {i j : Int} : min2k S [.int i, .int j] k = k (.int (if j < i then j else i)) := rfl
theorem o_max {i j : Int} : max2k S [.int i, .int j] k = k (.int (if j > i then j else i)) := rfl
theorem o_lenl {ds : List D} : lenk S [.lst ds] k = k (.int ds.length) := by
  show (∃ es, itemsOf S (.lst ds) = some es ∧ k (.int es.length)) = _
  simp [itemsOf]
theorem o_lent {ds : List D} : lenk S [.tup ds] k = k (.int ds.length) := by
  show (∃ es, itemsOf S (.tup ds) = some es ∧ k (.int es.length)) = _
  simp [itemsOf]
theorem o_lens {ds : List D} : lenk S [.scr ds] k = k (.int ds.length) := by
  show (∃ es, itemsOf S (.scr ds) = some es ∧ k (.int es.length)) = _
  simp [itemsOf]
theorem o_tupt {ds : List D} : tupk S [.tup ds] k = k (.tup ds) := rfl
theorem o_tupl {ds : List D} : tupk S [.lst ds] k = k (.tup ds) := by
  show (∃ es, listOf S (.lst ds) = some es ∧ k (.tup es)) = _
  simp [listOf]
theorem o_tupr {n : Nat} : tupk S [.ref n] k = ∃ es, listOf S (.ref n) = some es ∧ k (.tup es) := rfl
theorem lo_ref {n : Nat} {ds : List D} (h : S[n]? = some (.lst ds)) : listOf S (.ref n) = some ds := by
  unfold listOf
  simp only [h]
theorem q_int {a b : Int} : eqk S (.int a) (.int b) k = k (.bl (decide (a = b))) := by
  rw [eqk_pure (x := .int a) (y := .int b) rfl rfl (show (D.int a).dep ≤ 60 from Nat.zero_le 60)]
  have : D.eqv (.int a) (.int b) = decide (a = b) := by
    show (a == b) = _
    rw [Bool.eq_iff_iff]
    simp
  rw [this]
theorem n_int {a b : Int} : nek S (.int a) (.int b) k = k (.bl (!decide (a = b))) := by
  rw [nek_pure (x := .int a) (y := .int b) rfl rfl (show (D.int a).dep ≤ 60 from Nat.zero_le 60)]
  have : D.eqv (.int a) (.int b) = decide (a = b) := by
    show (a == b) = _
    rw [Bool.eq_iff_iff]
    simp
  rw [this]
theorem at0 {α : Type} {a : α} {l : List α} : atI (a :: l) 0 = some a := atI_nat (j := 0) rfl
theorem at1 {α : Type} {a b : α} {l : List α} : atI (a :: b :: l) 1 = some b := atI_nat (j := 1) rfl
theorem at2 {α : Type} {a b c : α} {l : List α} : atI (a :: b :: c :: l) 2 = some c := atI_nat (j := 2) rfl
theorem at3 {α : Type} {a b c d : α} {l : List α} : atI (a :: b :: c :: d :: l) 3 = some d := atI_nat (j := 3) rfl
theorem at4 {α : Type} {a b c d e : α} {l : List α} : atI (a :: b :: c :: d :: e :: l) 4 = some e := atI_nat (j := 4) rfl
theorem at5 {α : Type} {a b c d e f : α} {l : List α} : atI (a :: b :: c :: d :: e :: f :: l) 5 = some f := atI_nat (j := 5) rfl
theorem ixk_tup {ds : List D} {i : Int} : ixk S (.tup ds) (.int i) k = ∃ d, atI ds i = some d ∧ k d := by
  show (∃ ds' d, itemsOf S (.tup ds) = some ds' ∧ atI ds' i = some d ∧ k d) = _
  simp [itemsOf]
theorem ixk_lst {ds : List D} {i : Int} : ixk S (.lst ds) (.int i) k = ∃ d, atI ds i = some d ∧ k d := by
  show (∃ ds' d, itemsOf S (.lst ds) = some ds' ∧ atI ds' i = some d ∧ k d) = _
  simp [itemsOf]
theorem ixk_scr {ds : List D} {i : Int} : ixk S (.scr ds) (.int i) k = ∃ d, atI ds i = some d ∧ k d := by
  show (∃ ds' d, itemsOf S (.scr ds) = some ds' ∧ atI ds' i = some d ∧ k d) = _
  simp [itemsOf]
theorem at_map {α : Type} {f : α → D} {l : List α} {i : Nat} {a : α} (h : l[i]? = some a) : atI (l.map f) (i : Int) = some (f a) := atI_nat (by rw [List.getElem?_map, h]; rfl)
end
mutual
theorem eqv_refl : ∀ d : PyData, d.plain = true → PyData.eqv d d = true
  | .none, _ => rfl
  | .bool b, _ => by simp [PyData.eqv]
  | .int i, _ => by simp [PyData.eqv]
  | .str x, _ => by simp [PyData.eqv]
  | .list xs, h => by
    rw [PyData.eqv]
    exact eqvs_refl xs (by simpa [PyData.plain] using h)
  | .tuple xs, h => by
    rw [PyData.eqv]
    exact eqvs_refl xs (by simpa [PyData.plain] using h)
  | .dict _, h => by simp [PyData.plain] at h
theorem eqvs_refl : ∀ ds : List PyData, PyData.plainAll ds = true → PyData.eqvAll ds ds = true
  | [], _ => by rw [PyData.eqvAll]
  | d :: ds, h => by
    have h' : d.plain = true ∧ PyData.plainAll ds = true := by simpa [PyData.plainAll] using h
    rw [PyData.eqvAll, eqv_refl d h'.1, eqvs_refl ds h'.2]
    rfl
end
theorem q_refl {S : Sto} {x : D} {k : D → Prop} (hx : x.pure = true) (hd : x.dep ≤ 60) : eqk S x x k = k (.bl true) := by
  rw [eqk_pure hx hx hd]
  unfold D.eqv
  rw [eqv_refl _ (plain_py x)]
theorem n_refl {S : Sto} {x : D} {k : D → Prop} (hx : x.pure = true) (hd : x.dep ≤ 60) : nek S x x k = k (.bl false) := by
  rw [nek_pure hx hx hd]
  unfold D.eqv
  rw [eqv_refl _ (plain_py x)]
  rfl
theorem q_word (S : Sto) (a b : Str) (k : D → Prop) : eqk S (.str a) (.str b) k = k (.bl (decide (a = b))) := by
  rw [eqk_pure (x := .str a) (y := .str b) rfl rfl (show (D.str a).dep ≤ 60 from Nat.zero_le 60)]
  have : D.eqv (.str a) (.str b) = decide (a = b) := by
    show (a == b) = _
    rw [Bool.eq_iff_iff]
    simp
  rw [this]
end Pw
namespace Pw
open PySem PySem.Spec PyProof.Rows L2 Evl Lw
def putK (f : Str) : List Str → List Str
  | [] => [f]
  | g :: r => if g = f then g :: r else g :: putK f r
def putD (f : Str) (d : D) : List Str → List D → List D
  | g :: r, e :: ds => if g = f then d :: ds else e :: putD f d r ds
  | _, _ => [d]
theorem put_rel {K : PySem.W.Frag} {cl : Cl} {ρ : List Addr} {H : Hp} {f : Str} {d : D} {v : V} (h : RelD K cl ρ H d v) : ∀ {fs : List (Str × V)} {ds : List D}, RelAll K cl ρ H ds (fs.map (·.2)) →
    (putF f v fs).map (·.1) = putK f (fs.map (·.1)) ∧ RelAll K cl ρ H (putD f d (fs.map (·.1)) ds) ((putF f v fs).map (·.2))
  | [], ds, r => by
    cases r
    exact ⟨rfl, .cons h .nil⟩
  | (g, x) :: fs, ds, r => by
    cases r with
    | @cons e ds' _ _ h1 h2 =>
      obtain ⟨i1, i2⟩ := put_rel h h2
      rw [List.map_cons]
      unfold putF putK putD
      by_cases hg : g = f
      · rw [if_pos hg, if_pos hg, if_pos hg]
        exact ⟨rfl, .cons h h2⟩
      · rw [if_neg hg, if_neg hg, if_neg hg]
        exact ⟨by rw [List.map_cons, i1], .cons h1 i2⟩
def pSetF (f : Str) (cs : List Nat) (pa pv : PEx) : PSx := fun P env S => pv env S fun d S1 => pa env S1 fun x S2 => ∃ n, x = .ref n ∧ ∃ c ks ds, S2[n]? = some (.obj c ks ds) ∧ c ∈ cs ∧ ks.length < 1000 ∧ P.nx env (S2.set n (.obj c (putK f ks) (putD f d ks ds)))
def makek (c : Nat) (R : SFn) (S : Sto) (ds : List D) (k : D → Sto → Prop) : Prop := R (.ref S.length :: ds) (S ++ [.obj c [] []]) fun d S' => d = .non ∧ ((∃ ks fs, S' = S ++ [.obj c ks fs] ∧ noRefs fs = true ∧ k (.obj c ks fs) S) ∨ k (.ref S.length) S')
def pMake (c : Nat) (R : SFn) (pa : PAx) : PEx := fun env S k => pa env S fun ds S1 => makek c R S1 ds k
section
variable {K : PySem.W.Frag} {cl : Cl} {te ta tv : TE} {pe pa pv : PEx}
theorem sm_setF {f : Str} {cs : List Nat} (hc : ∀ c ∈ cs, Cls K (cl c) ∧ NoAttr K (cl c) f) (ha : SmE K cl ta pa) (hv : SmE K cl tv pv) : SmS K cl (sFld K ta tv f) (pSetF f cs pa pv) := fun M ρ S H env σ g re P D h e =>
  hv M ρ S H env σ g re _ _ h fun ρ1 H1 S1 d v s1 g1 rd h1 => ha M ρ1 S1 H1 env σ g1 (re.up s1) _ _ h1 fun ρ2 H2 S2 x w s2 g2 rx ⟨n, hx, c, ks, ds, hs, hcs, hl, hk⟩ => by
    subst hx
    cases rx with
    | @ref _ a hn =>
      obtain ⟨u, hu, r⟩ := g2.sto n _ a hs hn
      cases r with
      | @obj _ dx fs _ _ hk2 ra =>
        subst hk2
        obtain ⟨i1, i2⟩ := put_rel (f := f) (rd.up s2.pre s2.ex _ _) ra
        refine ⟨a, cl c, dx, fs, rfl, hu, (hc c hcs).1, (hc c hcs).2, by rw [List.length_map] at hl; exact hl, ?_⟩
        obtain ⟨g3, s3⟩ := g2.put (o := .ins (cl c) dx (putF f v fs)) hn (.obj i1 i2)
        exact e.nx ρ2 _ _ env σ ((s1.trans s2).trans s3) g3 (re.up ((s1.trans s2).trans s3)) hk
theorem back_get {α : Type} {ρ ρ' : List α} (p : ρ <+: ρ') {n : Nat} {a b : α} (h : ρ[n]? = some a) (h' : ρ'[n]? = some b) : ρ[n]? = some b := by
  rw [pre_get p h] at h'
  cases h'
  exact h
mutual
theorem RelD.back2 {ρ ρ' : List Addr} {H H' : Hp} (p : ρ <+: ρ') : ∀ (d : D) (v v' : V), RelD K cl ρ H d v → RelD K cl ρ' H' d v' → RelD K cl ρ H' d v'
  | .non, _, _, _, h => by cases h; exact .non
  | .bl b, _, _, _, h => by cases h; exact .bl b
  | .int i, _, _, _, h => by cases h; exact .int i
  | .str s, _, _, _, h => by cases h; exact .str s
  | .ty n, _, _, _, h => by cases h; exact .ty n
  | .tup ds, _, _, h0, h => by
    cases h0 with
    | tup _ h0 => cases h with
      | tup hs ha => exact .tup hs (RelAll.back2 p ds _ _ h0 ha)
  | .lst ds, _, _, h0, h => by
    cases h0 with
    | lst _ h0 => cases h with
      | lst hs ha => exact .lst hs (RelAll.back2 p ds _ _ h0 ha)
  | .scr ds, _, _, h0, h => by
    cases h0 with
    | scr _ h0 => cases h with
      | scr hs ha => exact .scr hs (RelAll.back2 p ds _ _ h0 ha)
  | .obj c ks ds, _, _, h0, h => by
    cases h0 with
    | obj _ _ h0 => cases h with
      | obj hs hk ha => exact .obj hs hk (RelAll.back2 p ds _ _ h0 ha)
  | .ref n, _, _, h0, h => by
    cases h0 with
    | ref h0 => cases h with
      | ref hn => exact .ref (back_get p h0 hn)
theorem RelAll.back2 {ρ ρ' : List Addr} {H H' : Hp} (p : ρ <+: ρ') : ∀ (ds : List D) (vs vs' : List V), RelAll K cl ρ H ds vs → RelAll K cl ρ' H' ds vs' → RelAll K cl ρ H' ds vs'
  | [], _, _, _, h => by cases h; exact .nil
  | d :: ds, _, _, h0, h => by
    cases h0 with
    | cons a0 b0 => cases h with
      | cons a b => exact .cons (RelD.back2 p d _ _ a0 a) (RelAll.back2 p ds _ _ b0 b)
end
theorem kv_back2 {ρ ρ' : List Addr} {H H' : Hp} (p : ρ <+: ρ') : ∀ {kvs : List (D × D)} {l l' : List Dk.EnV}, Paired (RelKv K cl ρ H) kvs l → Paired (RelKv K cl ρ' H') kvs l' → Paired (RelKv K cl ρ H') kvs l'
  | _, _, _, .nil, .nil => .nil
  | _, _, _, .cons a0 b0, .cons a b => .cons ⟨a.1, a.2.1, RelD.back2 p _ _ _ a0.2.2.1 a.2.2.1, RelD.back2 p _ _ _ a0.2.2.2 a.2.2.2⟩ (kv_back2 p b0 b)
theorem exPre {M : Addr → Prop} {ρ ρ' : List Addr} {H : Hp} (p : ρ <+: ρ') : Ex cl (cut (NM M ρ') H) (cut (NM M ρ) H) := cut_ex fun a o n q => ⟨fun z => z.elim (fun m => n (.inl m)) (fun m => n (.inr (p.subset m))), q⟩
theorem G.pop {M : Addr → Prop} {ρ : List Addr} {x : Addr} {S : Sto} {o : SO} {H H' : Hp} (g0 : G K cl M ρ S H) (g : G K cl M (ρ ++ [x]) (S ++ [o]) H') : G K cl M ρ S H' :=
  ⟨g.live, fun a ha => g.dis a (List.mem_append.mpr (.inl ha)), (List.nodup_append.mp g.nd).1, g0.len, fun n s a hs ha => by
    obtain ⟨u0, _, r0⟩ := g0.sto n s a hs ha
    have hl : n < S.length := (List.getElem?_eq_some_iff.mp hs).1
    obtain ⟨u, hu, r⟩ := g.sto n s a (by rw [List.getElem?_append_left hl]; exact hs) (pre_get (List.prefix_append _ _) ha)
    refine ⟨u, hu, ?_⟩
    cases r with
    | lst r => cases r0 with
      | lst r0 => exact .lst ((RelAll.back2 (List.prefix_append _ _) _ _ _ r0 r).up (List.prefix_refl _) (exPre (List.prefix_append _ _)) _ _)
    | obj hk r => cases r0 with
      | obj _ r0 => exact .obj hk ((RelAll.back2 (List.prefix_append _ _) _ _ _ r0 r).up (List.prefix_refl _) (exPre (List.prefix_append _ _)) _ _)
    | dct r nd => cases r0 with
      | dct r0 _ => exact .dct (L2.Paired.mapP (kv_back2 (List.prefix_append _ _) r0 r) fun x y h => ⟨h.1, h.2.1, RelD.up (List.prefix_refl _) (exPre (List.prefix_append _ _)) _ _ h.2.2.1, RelD.up (List.prefix_refl _) (exPre (List.prefix_append _ _)) _ _ h.2.2.2⟩) nd
    | dctL r nd => cases r0 with
      | dctL r0 _ => exact .dctL (L2.Paired.mapP (kv_back2 (List.prefix_append _ _) r0 r) fun x y h => ⟨h.1, h.2.1, RelD.up (List.prefix_refl _) (exPre (List.prefix_append _ _)) _ _ h.2.2.1, RelD.up (List.prefix_refl _) (exPre (List.prefix_append _ _)) _ _ h.2.2.2⟩) nd, (exPre (List.prefix_append _ _)).t g.tab⟩
theorem make_run {c : Nat} {R : SFn} {M : Addr → Prop} {ρ1 : List Addr} {S1 : Sto} {H1 : Hp} {ds : List D} {vs : List V} {k : D → Sto → Prop} {Q : VK} {E : XK} (g1 : G K cl M ρ1 S1 H1) (r1 : RelAll K cl ρ1 (cut (NM M ρ1) H1) ds vs) (h : makek c R S1 ds k)
    (q : ∀ ρ' H' S' d v, Stp cl M ρ1 H1 ρ' H' → G K cl M ρ' S' H' → RelD K cl ρ' (cut (NM M ρ') H') d v → k d S' → Q v H') (x dx : Addr) (hx : H1 x = none) (hdx : H1 dx = none) (hne : dx ≠ x) :
    spS K cl R (.ref x :: vs) (upd (upd H1 dx (.own x)) x (.ins (cl c) dx [])) (fun v H2 => v = .non ∧ Q (.ref x) H2) E := by
  unfold makek at h
  obtain ⟨g2, s2, _⟩ := g1.new (.own x) hdx
  have hx2 : upd H1 dx (.own x) x = none := by rw [upd_ne (Ne.symm hne)]; exact hx
  obtain ⟨g3, s3⟩ := g2.alloc (o := .ins (cl c) dx []) (so := .obj c [] []) hx2 (.obj (fs := []) rfl .nil)
  have s23 := s2.trans s3
  have hself : (ρ1 ++ [x])[S1.length]? = some x := by rw [← g1.len, List.getElem?_append_right (Nat.le_refl _), Nat.sub_self]; rfl
  refine ⟨M, ρ1 ++ [x], S1 ++ [.obj c [] []], .ref S1.length :: ds, _, g3, .cons (.ref hself) (r1.up s23.pre s23.ex _ _), h, fun ρ' H' S' d v s4 g4 rd ⟨hd, alt⟩ => ?_⟩
  subst hd
  cases rd
  refine ⟨rfl, ?_⟩
  have s24 := s23.trans s4
  rcases alt with ⟨ks, fs, hS, hn, hk⟩ | hk
  · subst hS
    obtain ⟨t, ht⟩ := s4.pre
    have hlen := g4.len
    rw [← ht, List.length_append, List.length_append, List.length_append, g1.len] at hlen
    have : t = [] := List.length_eq_zero_iff.mp (by have : [x].length = 1 := rfl; have : [SO.obj c ks fs].length = 1 := rfl; omega)
    subst this
    rw [List.append_nil] at ht
    subst ht
    have g5 := G.pop g1 g4
    obtain ⟨u, hu, r⟩ := g4.sto S1.length (.obj c ks fs) x (by rw [List.getElem?_append_right (Nat.le_refl _), Nat.sub_self]; rfl) hself
    have hxn : ¬ NM M ρ1 x := g1.off hx
    have s5 : Stp cl M ρ1 H1 ρ1 H' := ⟨List.prefix_refl _, s24.ex.trans (exPre (List.prefix_append _ _)), s24.keep⟩
    cases r with
    | @obj _ dx' fs' _ _ hk2 ra =>
      refine q ρ1 H' S1 _ _ s5 g5 (.obj (dx := dx') (fs := fs') ?_ hk2 ((ra.up (List.prefix_refl _) (exPre (List.prefix_append _ _)) _ _).drop _ _ hn)) hk
      rw [cut_no hxn]
      exact hu
  · exact q ρ' H' S' _ _ s24 g4 (.ref (pre_get s4.pre hself)) hk
theorem sm_make {c : Nat} {R : SFn} {tr : TA} {pr : PAx} {E : XK} (ha : SmA K cl tr pr) : SmE K cl (tMake (cl c) (spS K cl R) [] E tr) (pMake c R pr) := fun M ρ S H env σ g re k Q h q =>
  ha M ρ S H env σ g re _ _ h fun ρ1 H1 S1 ds vs s1 g1 r1 h1 => by
    intro x dx hx hdx hne
    rw [List.append_nil]
    exact make_run g1 r1 h1 (fun ρ' H' S' d v s g' rd hk => q ρ' H' S' d v (s1.trans s) g' rd hk) x dx hx hdx hne
end
end Pw
namespace Ln
open PySem PySem.Spec PyProof.Rows L2 Evl Lw
abbrev Id := Int × Int
abbrev Ct := Int × Int × Int × Bool
structure Line where
  id : Id
  hd : Id
  ins : Option Id
  path : List Str
  ct : Option Ct
deriving DecidableEq
abbrev Place := Option Id × List Str × List Str
abbrev Mv := Option Id × Option Id × Place
inductive Edit where
  | write (id : Id) (pl : Place) (ct : Option Ct) (meant : Option Id) (heads : List Id)
  | drop (id : Id) (heads : List Id)
  | move (id : Id) (ms : List Mv)
def dId (i : Id) : PyData := .tuple [.int i.1, .int i.2]
def dOp {α : Type} (f : α → PyData) : Option α → PyData
  | none => .none
  | some a => f a
def dPath (p : List Str) : PyData := .tuple (p.map PyData.str)
def dCt (c : Ct) : PyData := .tuple [.int c.1, .int c.2.1, .int c.2.2.1, .bool c.2.2.2]
def dLn (l : Line) : PyData := .tuple [dId l.id, dId l.hd, dOp dId l.ins, dPath l.path, dOp dCt l.ct]
def dLs (ls : List Line) : PyData := .list (ls.map dLn)
theorem eqv_id (a b : Id) : PyData.eqv (dId a) (dId b) = decide (a = b) := by
  obtain ⟨a1, a2⟩ := a
  obtain ⟨b1, b2⟩ := b
  show PyData.eqv (.tuple [.int a1, .int a2]) (.tuple [.int b1, .int b2]) = _
  simp only [PyData.eqv, PyData.eqvAll]
  rw [Bool.eq_iff_iff]
  simp
theorem eqv_oid (a b : Option Id) : PyData.eqv (dOp dId a) (dOp dId b) = decide (a = b) := by
  cases a with
  | none => cases b with
    | none => rfl
    | some b => rfl
  | some a => cases b with
    | none => rfl
    | some b =>
      show PyData.eqv (dId a) (dId b) = _
      rw [eqv_id]
      simp
theorem eqv_path (a b : List Str) : PyData.eqv (dPath a) (dPath b) = decide (a = b) := by
  show PyData.eqv (.tuple _) (.tuple _) = _
  rw [PyData.eqv, eqv_strs]
theorem eqv_ct (a b : Ct) : PyData.eqv (dCt a) (dCt b) = decide (a = b) := by
  obtain ⟨a1, a2, a3, a4⟩ := a
  obtain ⟨b1, b2, b3, b4⟩ := b
  show PyData.eqv (.tuple [.int a1, .int a2, .int a3, .bool a4]) (.tuple [.int b1, .int b2, .int b3, .bool b4]) = _
  simp only [PyData.eqv, PyData.eqvAll]
  rw [Bool.eq_iff_iff]
  simp
theorem eqv_oct (a b : Option Ct) : PyData.eqv (dOp dCt a) (dOp dCt b) = decide (a = b) := by
  cases a with
  | none => cases b with
    | none => rfl
    | some b => rfl
  | some a => cases b with
    | none => rfl
    | some b =>
      show PyData.eqv (dCt a) (dCt b) = _
      rw [eqv_ct]
      simp
theorem eqv_ln (a b : Line) : PyData.eqv (dLn a) (dLn b) = decide (a = b) := by
  obtain ⟨a1, a2, a3, a4, a5⟩ := a
  obtain ⟨b1, b2, b3, b4, b5⟩ := b
  show PyData.eqv (.tuple [dId a1, dId a2, dOp dId a3, dPath a4, dOp dCt a5]) (.tuple [dId b1, dId b2, dOp dId b3, dPath b4, dOp dCt b5]) = _
  rw [PyData.eqv, PyData.eqvAll, PyData.eqvAll, PyData.eqvAll, PyData.eqvAll, PyData.eqvAll, PyData.eqvAll, eqv_id, eqv_id, eqv_oid, eqv_path, eqv_oct]
  simp [Bool.eq_iff_iff]
theorem eqv_lns : ∀ a b : List Line, PyData.eqvAll (a.map dLn) (b.map dLn) = decide (a = b)
  | [], [] => by rw [List.map_nil, PyData.eqvAll]; rfl
  | [], _ :: _ => by rw [List.map_nil, List.map_cons, PyData.eqvAll]; simp
  | _ :: _, [] => by rw [List.map_nil, List.map_cons, PyData.eqvAll]; simp
  | x :: xs, y :: ys => by
    rw [List.map_cons, List.map_cons, PyData.eqvAll, eqv_ln, eqv_lns xs ys]
    simp [Bool.eq_iff_iff]
theorem eqv_ls (a b : List Line) : PyData.eqv (dLs a) (dLs b) = decide (a = b) := by
  show PyData.eqv (.list _) (.list _) = _
  rw [PyData.eqv, eqv_lns]
theorem dp_id (i : Id) : (dId i).depth ≤ 1 := by
  show max 0 (max 0 0) + 1 ≤ 1
  decide
theorem dp_oid (i : Option Id) : (dOp dId i).depth ≤ 1 := by
  cases i with
  | none => exact Nat.zero_le 1
  | some i => exact dp_id i
theorem dp_path (p : List Str) : (dPath p).depth ≤ 1 := by
  show PyData.depthAll _ + 1 ≤ 1
  rw [depth_strs]
  decide
theorem dp_oct (c : Option Ct) : (dOp dCt c).depth ≤ 1 := by
  cases c with
  | none => exact Nat.zero_le 1
  | some c =>
    show max 0 (max 0 (max 0 (max 0 0))) + 1 ≤ 1
    decide
theorem dp_ln (l : Line) : (dLn l).depth ≤ 2 := by
  have h1 := dp_id l.id
  have h2 := dp_id l.hd
  have h3 := dp_oid l.ins
  have h4 := dp_path l.path
  have h5 := dp_oct l.ct
  show max (dId l.id).depth (max (dId l.hd).depth (max (dOp dId l.ins).depth (max (dPath l.path).depth (max (dOp dCt l.ct).depth 0)))) + 1 ≤ 2
  omega
theorem dp_all {α : Type} {f : α → PyData} {n : Nat} (h : ∀ a, (f a).depth ≤ n) : ∀ l : List α, PyData.depthAll (l.map f) ≤ n
  | [] => Nat.zero_le n
  | a :: l => by
    have h1 := h a
    have h2 := dp_all h l
    show max (f a).depth (PyData.depthAll (l.map f)) ≤ n
    omega
theorem dp_ls (ls : List Line) : (dLs ls).depth ≤ 3 := by
  have := dp_all dp_ln ls
  show PyData.depthAll (ls.map dLn) + 1 ≤ 3
  omega
def findLine (ls : List Line) (o : Option Id) : Option Line := ls.find? fun l => decide (some l.id = o)
def findHead (ls : List Line) (o : Option Id) : Option Line := ls.find? fun l => decide (some l.hd = o)
def settleF (ls : List Line) (pl : Place) : Option Id × List Str := match findLine ls pl.1 with
  | some f => if f.ct = none then (pl.1, pl.2.1) else (none, pl.2.2)
  | none => (none, pl.2.2)
def woLine (ls : List Line) (e : Line) : List Line := ls.flatMap fun k => if k.ins = some e.id then [{ k with ins := e.ins, path := e.path ++ k.path }] else if k.id ≠ e.id then [k] else []
def woHead (ls : List Line) (h : Id) : List Line := match findHead ls (some h) with
  | some e => woLine ls e
  | none => ls
def woHeads (ls : List Line) (hs : List Id) : List Line := hs.foldl woHead ls
def whereF (ls : List Line) (pl : Place) (meant : Option Id) : Option Id × List Str := match findLine ls meant with
  | some m => (m.ins, m.path)
  | none => settleF ls pl
def withNew (ls : List Line) (id : Id) (pl : Place) (ct : Option Ct) (meant : Option Id) : List Line := ls ++ [⟨id, id, (whereF ls pl meant).1, (whereF ls pl meant).2, ct⟩]
def firstRep (ls : List Line) (hs : List Id) : Option Line := ls.find? fun l => l.ct.isSome && decide (l.hd ∈ hs)
inductive SIn (ls : List Line) (x : Id) : Nat → Option Id → Bool → Prop where
  | root : SIn ls x 0 none false
  | hit : SIn ls x 0 (some x) true
  | up {i : Id} {f : Line} {n : Nat} {b : Bool} : i ≠ x → findLine ls (some i) = some f → SIn ls x n f.ins b → SIn ls x (n + 1) (some i) b
inductive Std (ls : List Line) : Nat → Option Id → List Str → List Str → Prop where
  | root (p : List Str) : Std ls 0 none p p
  | up {i : Id} {f : Line} {n : Nat} {p r : List Str} : findLine ls (some i) = some f → Std ls n f.ins (f.path ++ p) r → Std ls (n + 1) (some i) p r
theorem Std.len {ls : List Line} {n : Nat} {o : Option Id} {p r : List Str} (h : Std ls n o p r) : p.length ≤ r.length := by
  induction h with
  | root p => exact Nat.le_refl _
  | up _ _ ih =>
    rw [List.length_append] at ih
    omega
def Short (ls : List Line) : Prop := ls.length ≤ 1000 ∧ ∀ l ∈ ls, l.path.length ≤ 10000
theorem up {K : PySem.W.Frag} {N : Addr → Prop} {H H1 : Hp} {v : V} {d : PyData} (e : Ex H H1) (h : Dp K (cutN N H) v d) : Dp K (cutN N H1) v d := Dp.ex (cutN_ex e) d v h
def mvTo (ls : List Line) (l : Line) (w : Option Id × List Str) : List Line := ls.map fun k => if k.id = l.id then ⟨l.id, l.hd, w.1, w.2, l.ct⟩ else k
def meantBy (ls : List Line) (m : Mv) : Option Line := (findHead ls m.1).or (findLine ls m.2.1)
inductive MvR (ls : List Line) (m : Mv) : List Line → Prop where
  | no : meantBy ls m = none → MvR ls m ls
  | ring {l : Line} {n : Nat} : meantBy ls m = some l → SIn ls l.id n (settleF ls m.2.2).1 true → MvR ls m ls
  | yes {l : Line} {n : Nat} : meantBy ls m = some l → SIn ls l.id n (settleF ls m.2.2).1 false → MvR ls m (mvTo ls l (settleF ls m.2.2))
def textIn (ls : List Line) (id : Id) (pl : Place) (ct : Option Ct) (meant : Option Id) (hs : List Id) : List Line := match firstRep ls hs with
  | none => withNew ls id pl ct meant
  | some c => ls.map fun k => if k.id = c.id then ⟨c.id, id, c.ins, c.path, ct⟩ else k
def afterText (ls : List Line) (id : Id) (pl : Place) (ct : Option Ct) (meant : Option Id) (hs : List Id) : List Line := woHeads (textIn ls id pl ct meant hs) (hs.filter fun h => !decide (h = id))
inductive MvsR : List Line → List Mv → List Line → Prop where
  | nil (ls : List Line) : MvsR ls [] ls
  | cons {ls ls1 ls2 : List Line} {m : Mv} {ms : List Mv} : Short ls → MvR ls m ls1 → MvsR ls1 ms ls2 → MvsR ls (m :: ms) ls2
inductive AftR (ls : List Line) : Edit → List Line → Prop where
  | drop (id : Id) (hs : List Id) : (∀ i, Short (woHeads ls (hs.take i))) → AftR ls (.drop id hs) (woHeads ls hs)
  | move (id : Id) {ms : List Mv} {ls' : List Line} : MvsR ls ms ls' → AftR ls (.move id ms) ls'
  | mark (id : Id) (pl : Place) (meant : Option Id) (hs : List Id) : Short ls → (∀ i, Short (woHeads (withNew ls id pl none meant) (hs.take i))) → AftR ls (.write id pl none meant hs) (woHeads (withNew ls id pl none meant) hs)
  | text (id : Id) (pl : Place) (c : Ct) (meant : Option Id) (hs : List Id) : Short ls → hs.length ≤ 1000 → (∀ i, Short (woHeads (textIn ls id pl (some c) meant hs) ((hs.filter fun h => !decide (h = id)).take i))) → AftR ls (.write id pl (some c) meant hs) (afterText ls id pl (some c) meant hs)
inductive FoldR : List Line → List Edit → List Line → Prop where
  | nil (ls : List Line) : FoldR ls [] ls
  | cons {ls ls1 ls2 : List Line} {e : Edit} {es : List Edit} : AftR ls e ls1 → FoldR ls1 es ls2 → FoldR ls (e :: es) ls2
theorem mv_cases {ls ls' : List Line} {m : Mv} (h : MvR ls m ls') : (meantBy ls m = none ∧ ls' = ls) ∨ ∃ l n b, meantBy ls m = some l ∧ SIn ls l.id n (settleF ls m.2.2).1 b ∧ ls' = if b = true then ls else mvTo ls l (settleF ls m.2.2) := by
  cases h with
  | no h => exact .inl ⟨h, rfl⟩
  | ring h1 h2 => exact .inr ⟨_, _, true, h1, h2, rfl⟩
  | yes h1 h2 => exact .inr ⟨_, _, false, h1, h2, rfl⟩
theorem flt_all {α : Type} (l : List α) : l.filter (fun _ => true) = l := List.filter_eq_self.mpr fun _ _ => rfl
end Ln
namespace Ln
open PySem L2 Lw
structure OkW (ls : List Line) (U : List Id) (r : Id → Nat) (S : Id → List Id) : Prop where
  nd : (ls.map (·.id)).Nodup
  hnd : (ls.map (·.hd)).Nodup
  fol : ∀ l ∈ ls, l.ct = none → l.hd = l.id
  idU : ∀ l ∈ ls, l.id ∈ U ∧ l.hd ∈ U
  up : ∀ l ∈ ls, ∀ i, l.ins = some i → ∃ f ∈ ls, f.id = i ∧ f.ct = none ∧ r i < r l.id
  len : ∀ l ∈ ls, 1 ≤ l.path.length ∧ l.path.length ≤ 3 * ((S l.id).length + 1)
  snd : ∀ l ∈ ls, (S l.id).Nodup
  gone : ∀ l ∈ ls, ∀ x ∈ S l.id, x ∈ U ∧ ∀ k ∈ ls, k.id ≠ x
  sib : ∀ k ∈ ls, ∀ l ∈ ls, k.id ≠ l.id → ∀ x, x ∈ S k.id → x ∈ S l.id → k.ins = l.ins
theorem nodup_inj {α β : Type} {f : α → β} : ∀ {l : List α}, (l.map f).Nodup → ∀ a ∈ l, ∀ b ∈ l, f a = f b → a = b
  | [], _, a, ha, _, _, _ => by cases ha
  | x :: l, h, a, ha, b, hb, e => by
    rw [List.map_cons, List.nodup_cons] at h
    rcases List.mem_cons.mp ha with h1 | h1
    · rcases List.mem_cons.mp hb with h2 | h2
      · rw [h1, h2]
      · rw [h1] at e
        exact absurd (List.mem_map.mpr ⟨b, h2, e.symm⟩) h.1
    · rcases List.mem_cons.mp hb with h2 | h2
      · rw [h2] at e
        exact absurd (List.mem_map.mpr ⟨a, h1, e⟩) h.1
      · exact nodup_inj h.2 a h1 b h2 e
theorem nodup_sub {α : Type} [DecidableEq α] : ∀ {l u : List α}, l.Nodup → (∀ x ∈ l, x ∈ u) → l.length ≤ u.length
  | [], _, _, _ => Nat.zero_le _
  | x :: l, u, h, hs => by
    rw [List.nodup_cons] at h
    have hx := hs x (List.mem_cons_self ..)
    have h1 := nodup_sub (l := l) (u := u.erase x) h.2 fun y hy => (List.mem_erase_of_ne (fun e => h.1 (by rw [← e]; exact hy))).mpr (hs y (List.mem_cons_of_mem _ hy))
    rw [List.length_erase_of_mem hx] at h1
    have : 0 < u.length := List.length_pos_of_mem hx
    rw [List.length_cons]
    omega
section
variable {ls : List Line} {U : List Id} {r : Id → Nat} {S : Id → List Id}
theorem OkW.find (h : OkW ls U r S) {l : Line} (hl : l ∈ ls) : findLine ls (some l.id) = some l := by
  unfold findLine
  cases hf : ls.find? fun k => decide (some k.id = some l.id) with
  | none =>
    have := List.find?_eq_none.mp hf l hl
    simp at this
  | some k =>
    have h1 := List.mem_of_find?_eq_some hf
    have h2 := List.find?_some hf
    rw [nodup_inj h.nd k h1 l hl (Option.some.inj (of_decide_eq_true h2))]
theorem find_mem {o : Option Id} {l : Line} (h : findLine ls o = some l) : l ∈ ls ∧ o = some l.id := by
  unfold findLine at h
  have h2 := List.find?_some h
  exact ⟨List.mem_of_find?_eq_some h, (of_decide_eq_true h2).symm⟩
theorem findH_mem {o : Option Id} {l : Line} (h : findHead ls o = some l) : l ∈ ls ∧ o = some l.hd := by
  unfold findHead at h
  have h2 := List.find?_some h
  exact ⟨List.mem_of_find?_eq_some h, (of_decide_eq_true h2).symm⟩
def InLs (ls : List Line) (o : Option Id) : Prop := ∀ i, o = some i → ∃ f ∈ ls, f.id = i
theorem OkW.ins (h : OkW ls U r S) {l : Line} (hl : l ∈ ls) : InLs ls l.ins := fun i e => let ⟨f, h1, h2, _⟩ := h.up l hl i e; ⟨f, h1, h2⟩
theorem OkW.sin (h : OkW ls U r S) (x : Id) : ∀ (k : Nat) (o : Option Id), InLs ls o → (∀ i, o = some i → r i < k) → ∃ n b, SIn ls x n o b
  | _, none, _, _ => ⟨0, false, .root⟩
  | 0, some i, _, hk => absurd (hk i rfl) (Nat.not_lt_zero _)
  | k + 1, some i, ho, hk => by
    by_cases e : i = x
    · rw [e]
      exact ⟨0, true, .hit⟩
    · obtain ⟨f, hf, rfl⟩ := ho i rfl
      obtain ⟨n, b, hs⟩ := OkW.sin h x k f.ins (h.ins hf) fun j hj => by
        obtain ⟨g, _, rfl, _, hlt⟩ := h.up f hf j hj
        have := hk f.id rfl
        omega
      exact ⟨n + 1, b, .up e (h.find hf) hs⟩
theorem OkW.sin_any (h : OkW ls U r S) (x : Id) {o : Option Id} (ho : InLs ls o) : ∃ n b, SIn ls x n o b := by
  cases o with
  | none => exact ⟨0, false, .root⟩
  | some i => exact h.sin x (r i + 1) (some i) ho fun j hj => by cases hj; exact Nat.lt_succ_self _
theorem sin_one {x : Id} : ∀ {n : Nat} {o : Option Id} {b : Bool}, SIn ls x n o b → ∀ {m : Nat} {c : Bool}, SIn ls x m o c → b = c := by
  intro n o b h
  induction h with
  | root =>
    intro m c k
    cases k
    rfl
  | hit =>
    intro m c k
    cases k with
    | hit => rfl
    | up hne _ _ => exact absurd rfl hne
  | up hne hf hs ih =>
    intro m c k
    cases k with
    | hit => exact absurd rfl hne
    | up _ hf' hs' =>
      rw [hf] at hf'
      cases hf'
      exact ih hs'
theorem OkW.short (h : OkW ls U r S) (hU : U.length ≤ 500) : Short ls := by
  refine ⟨?_, fun l hl => ?_⟩
  · have := nodup_sub h.nd fun x hx => by
      obtain ⟨l, hl, rfl⟩ := List.mem_map.mp hx
      exact (h.idU l hl).1
    rw [List.length_map] at this
    omega
  · have h1 := nodup_sub (h.snd l hl) fun x hx => (h.gone l hl x hx).1
    have h2 := (h.len l hl).2
    omega
theorem mem_wo {e k : Line} : k ∈ woLine ls e ↔ ∃ l ∈ ls, (l.ins = some e.id ∧ k = { l with ins := e.ins, path := e.path ++ l.path }) ∨ (l.ins ≠ some e.id ∧ l.id ≠ e.id ∧ k = l) := by
  unfold woLine
  rw [List.mem_flatMap]
  constructor
  · rintro ⟨l, hl, hk⟩
    by_cases h1 : l.ins = some e.id
    · rw [if_pos h1] at hk
      exact ⟨l, hl, .inl ⟨h1, List.mem_singleton.mp hk⟩⟩
    · rw [if_neg h1] at hk
      by_cases h2 : l.id ≠ e.id
      · rw [if_pos h2] at hk
        exact ⟨l, hl, .inr ⟨h1, h2, List.mem_singleton.mp hk⟩⟩
      · rw [if_neg h2] at hk
        cases hk
  · rintro ⟨l, hl, ⟨h1, rfl⟩ | ⟨h1, h2, rfl⟩⟩
    · exact ⟨l, hl, by rw [if_pos h1]; exact List.mem_singleton_self _⟩
    · exact ⟨k, hl, by rw [if_neg h1, if_pos h2]; exact List.mem_singleton_self _⟩
theorem wo_map {β : Type} (f : Line → β) (e : Line) (hf : ∀ (l : Line) (o : Option Id) (p : List Str), f { l with ins := o, path := p } = f l) (h0 : ∀ l ∈ ls, l.ins = some e.id → l.id ≠ e.id) : (woLine ls e).map f = (ls.filter fun l => !decide (l.id = e.id)).map f := by
  unfold woLine
  induction ls with
  | nil => rfl
  | cons l ls ih =>
    have ih := ih fun k hk => h0 k (List.mem_cons_of_mem _ hk)
    rw [List.flatMap_cons, List.map_append, ih]
    by_cases h1 : l.ins = some e.id
    · have h2 := h0 l (List.mem_cons_self ..) h1
      rw [if_pos h1, List.filter_cons_of_pos (by rw [decide_eq_false h2]; rfl), List.map_cons]
      show [f _] ++ _ = _
      rw [hf]
      rfl
    · by_cases h2 : l.id = e.id
      · rw [if_neg h1, if_neg (fun h => h h2), List.filter_cons_of_neg (by rw [decide_eq_true h2]; decide)]
        rfl
      · rw [if_neg h1, if_pos h2, List.filter_cons_of_pos (by rw [decide_eq_false h2]; rfl), List.map_cons]
        rfl
theorem OkW.not_self (h : OkW ls U r S) {l : Line} (hl : l ∈ ls) : l.ins ≠ some l.id := fun e => by
  obtain ⟨f, _, _, _, hlt⟩ := h.up l hl l.id e
  omega
theorem OkW.wo (h : OkW ls U r S) {e : Line} (he : e ∈ ls) : ∃ S', OkW (woLine ls e) U r S' := by
  have hns : ∀ l ∈ ls, l.ins = some e.id → l.id ≠ e.id := fun l hl h1 h2 => by
    have : l = e := nodup_inj h.nd l hl e he h2
    rw [this] at h1
    exact h.not_self he h1
  classical
  let S' : Id → List Id := fun x => if ∃ l ∈ ls, l.id = x ∧ l.ins = some e.id then e.id :: (S e.id ++ S x) else S x
  have s1 : ∀ l ∈ ls, l.ins = some e.id → S' l.id = e.id :: (S e.id ++ S l.id) := fun l hl h1 => if_pos ⟨l, hl, rfl, h1⟩
  have s2 : ∀ l ∈ ls, l.ins ≠ some e.id → S' l.id = S l.id := fun l hl h1 => if_neg fun ⟨k, hk, h2, h3⟩ => h1 (by rw [← nodup_inj h.nd k hk l hl h2]; exact h3)
  have dj : ∀ l ∈ ls, l.ins = some e.id → ∀ x, x ∈ S e.id → x ∈ S l.id → False := fun l hl h1 x hx1 hx2 => by
    have h2 := h.sib e he l hl (fun z => hns l hl h1 z.symm) x hx1 hx2
    rw [h1] at h2
    exact h.not_self he h2
  refine ⟨S', ?_, ?_, ?_, ?_, ?_, ?_, ?_, ?_, ?_⟩
  · rw [wo_map (·.id) e (fun _ _ _ => rfl) hns]
    exact (List.filter_sublist.map _).nodup h.nd
  · rw [wo_map (·.hd) e (fun _ _ _ => rfl) hns]
    exact (List.filter_sublist.map _).nodup h.hnd
  · intro k hk hc
    obtain ⟨l, hl, ⟨_, rfl⟩ | ⟨_, _, rfl⟩⟩ := mem_wo.mp hk
    · exact h.fol l hl hc
    · exact h.fol k hl hc
  · intro k hk
    obtain ⟨l, hl, ⟨_, rfl⟩ | ⟨_, _, rfl⟩⟩ := mem_wo.mp hk
    · exact h.idU l hl
    · exact h.idU k hl
  · -- the way up
    have stay : ∀ f ∈ ls, f.id ≠ e.id → f.ct = none → ∃ g ∈ woLine ls e, g.id = f.id ∧ g.ct = none := fun f hf h1 h2 => by
      by_cases h3 : f.ins = some e.id
      · exact ⟨_, mem_wo.mpr ⟨f, hf, .inl ⟨h3, rfl⟩⟩, rfl, h2⟩
      · exact ⟨f, mem_wo.mpr ⟨f, hf, .inr ⟨h3, h1, rfl⟩⟩, rfl, h2⟩
    intro k hk i hi
    obtain ⟨l, hl, ⟨h1, rfl⟩ | ⟨h1, h2, rfl⟩⟩ := mem_wo.mp hk
    · obtain ⟨f, hf, rfl, h3, h4⟩ := h.up e he i hi
      obtain ⟨_, _, _, _, h5⟩ := h.up l hl e.id h1
      obtain ⟨g, g1, g2, g3⟩ := stay f hf (fun z => by rw [z] at h4; omega) h3
      exact ⟨g, g1, g2, g3, Nat.lt_trans h4 h5⟩
    · obtain ⟨f, hf, rfl, h3, h4⟩ := h.up k hl i hi
      obtain ⟨g, g1, g2, g3⟩ := stay f hf (fun z => h1 (by rw [hi, z])) h3
      exact ⟨g, g1, g2, g3, h4⟩
  · intro k hk
    obtain ⟨l, hl, ⟨h1, rfl⟩ | ⟨h1, h2, rfl⟩⟩ := mem_wo.mp hk
    · have a1 := h.len l hl
      have a2 := h.len e he
      show 1 ≤ (e.path ++ l.path).length ∧ (e.path ++ l.path).length ≤ 3 * ((S' l.id).length + 1)
      rw [s1 l hl h1, List.length_cons, List.length_append, List.length_append]
      omega
    · rw [s2 k hl h1]
      exact h.len k hl
  · intro k hk
    obtain ⟨l, hl, ⟨h1, rfl⟩ | ⟨h1, h2, rfl⟩⟩ := mem_wo.mp hk
    · show (S' l.id).Nodup
      rw [s1 l hl h1, List.nodup_cons, List.mem_append, List.nodup_append]
      refine ⟨?_, h.snd e he, h.snd l hl, fun a ha b hb z => dj l hl h1 a ha (z ▸ hb)⟩
      rintro (z | z)
      · exact (h.gone e he _ z).2 e he rfl
      · exact (h.gone l hl _ z).2 e he rfl
    · rw [s2 k hl h1]
      exact h.snd k hl
  · -- ended ids
    have old : ∀ x, x ∈ U → (∀ k ∈ ls, k.id ≠ x) → x ∈ U ∧ ∀ k ∈ woLine ls e, k.id ≠ x := fun x hu hx => ⟨hu, fun k hk => by
      obtain ⟨l, hl, ⟨_, rfl⟩ | ⟨_, _, rfl⟩⟩ := mem_wo.mp hk
      · exact hx l hl
      · exact hx k hl⟩
    intro k hk x hx
    obtain ⟨l, hl, ⟨h1, rfl⟩ | ⟨h1, h2, rfl⟩⟩ := mem_wo.mp hk
    · have hx' : x ∈ S' l.id := hx
      rw [s1 l hl h1, List.mem_cons, List.mem_append] at hx'
      rcases hx' with rfl | hx' | hx'
      · refine ⟨(h.idU e he).1, fun k hk => ?_⟩
        obtain ⟨m, hm, ⟨h5, rfl⟩ | ⟨_, h6, rfl⟩⟩ := mem_wo.mp hk
        · exact hns m hm h5
        · exact h6
      · exact old x (h.gone e he x hx').1 (h.gone e he x hx').2
      · exact old x (h.gone l hl x hx').1 (h.gone l hl x hx').2
    · rw [s2 k hl h1] at hx
      exact old x (h.gone k hl x hx).1 (h.gone k hl x hx).2
  · -- side by side
    have one : ∀ l ∈ ls, l.ins = some e.id → ∀ m ∈ ls, m.ins ≠ some e.id → m.id ≠ e.id → ∀ x, x ∈ S' l.id → x ∈ S m.id → e.ins = m.ins := fun l hl h1 m hm h3 h4 x hx1 hx2 => by
      rw [s1 l hl h1, List.mem_cons, List.mem_append] at hx1
      rcases hx1 with rfl | hx1 | hx1
      · exact absurd rfl ((h.gone m hm _ hx2).2 e he)
      · exact h.sib e he m hm (fun z => h4 z.symm) x hx1 hx2
      · have hne : l.id ≠ m.id := fun z => h3 (by rw [← nodup_inj h.nd l hl m hm z]; exact h1)
        have := h.sib l hl m hm hne x hx1 hx2
        rw [h1] at this
        exact absurd this.symm h3
    intro k hk k' hk' hne x hx hx'
    obtain ⟨l, hl, ⟨h1, rfl⟩ | ⟨h1, h2, rfl⟩⟩ := mem_wo.mp hk
    · obtain ⟨m, hm, ⟨h3, rfl⟩ | ⟨h3, h4, rfl⟩⟩ := mem_wo.mp hk'
      · rfl
      · rw [s2 k' hm h3] at hx'
        exact one l hl h1 k' hm h3 h4 x hx hx'
    · rw [s2 k hl h1] at hx
      obtain ⟨m, hm, ⟨h3, rfl⟩ | ⟨h3, h4, rfl⟩⟩ := mem_wo.mp hk'
      · exact (one m hm h3 k hl h1 h2 x hx' hx).symm
      · rw [s2 k' hm h3] at hx'
        exact h.sib k hl k' hm hne x hx hx'
def upR (r : Id → Nat) : Option Id → Nat
  | some i => r i + 1
  | none => 0
def Fol (ls : List Line) (o : Option Id) : Prop := ∀ i, o = some i → ∃ f ∈ ls, f.id = i ∧ f.ct = none
theorem OkW.add (h : OkW ls U r S) {id : Id} (hid : id ∉ U) {o : Option Id} {p : List Str} {T : List Id} (ct : Option Ct) (ho : Fol ls o) (hp : 1 ≤ p.length ∧ p.length ≤ 3 * (T.length + 1)) (hT : T.Nodup)
    (hg : ∀ x ∈ T, x ∈ U ∧ ∀ k ∈ ls, k.id ≠ x) (hs : ∀ k ∈ ls, ∀ x, x ∈ S k.id → x ∈ T → k.ins = o) : ∃ r' S', OkW (ls ++ [⟨id, id, o, p, ct⟩]) (id :: U) r' S' := by
  have hne : ∀ l ∈ ls, l.id ≠ id := fun l hl e => hid (e ▸ (h.idU l hl).1)
  have hnh : ∀ l ∈ ls, l.hd ≠ id := fun l hl e => hid (e ▸ (h.idU l hl).2)
  refine ⟨fun x => if x = id then upR r o else r x, fun x => if x = id then T else S x, ?_, ?_, ?_, ?_, ?_, ?_, ?_, ?_, ?_⟩
  · rw [List.map_append, List.nodup_append]
    refine ⟨h.nd, by simp, fun a ha b hb => ?_⟩
    obtain ⟨l, hl, rfl⟩ := List.mem_map.mp ha
    rw [List.mem_singleton.mp hb]
    exact hne l hl
  · rw [List.map_append, List.nodup_append]
    refine ⟨h.hnd, by simp, fun a ha b hb => ?_⟩
    obtain ⟨l, hl, rfl⟩ := List.mem_map.mp ha
    rw [List.mem_singleton.mp hb]
    exact hnh l hl
  · intro l hl hc
    rcases List.mem_append.mp hl with hl | hl
    · exact h.fol l hl hc
    · rw [List.mem_singleton.mp hl]
  · intro l hl
    rcases List.mem_append.mp hl with hl | hl
    · exact ⟨List.mem_cons_of_mem _ (h.idU l hl).1, List.mem_cons_of_mem _ (h.idU l hl).2⟩
    · rw [List.mem_singleton.mp hl]
      exact ⟨List.mem_cons_self .., List.mem_cons_self ..⟩
  · intro l hl i hi
    rcases List.mem_append.mp hl with hl | hl
    · obtain ⟨f, hf, rfl, h1, h2⟩ := h.up l hl i hi
      refine ⟨f, List.mem_append_left _ hf, rfl, h1, ?_⟩
      show (if f.id = id then _ else r f.id) < if l.id = id then _ else r l.id
      rw [if_neg (hne f hf), if_neg (hne l hl)]
      exact h2
    · obtain rfl := List.mem_singleton.mp hl
      obtain ⟨f, hf, rfl, h1⟩ := ho i hi
      refine ⟨f, List.mem_append_left _ hf, rfl, h1, ?_⟩
      have hi' : o = some f.id := hi
      show (if f.id = id then _ else r f.id) < if id = id then _ else _
      rw [if_neg (hne f hf), if_pos rfl, hi']
      exact Nat.lt_succ_self _
  · intro l hl
    rcases List.mem_append.mp hl with hl | hl
    · show 1 ≤ l.path.length ∧ l.path.length ≤ 3 * ((if l.id = id then T else S l.id).length + 1)
      rw [if_neg (hne l hl)]
      exact h.len l hl
    · obtain rfl := List.mem_singleton.mp hl
      show 1 ≤ p.length ∧ p.length ≤ 3 * ((if id = id then T else S id).length + 1)
      rw [if_pos rfl]
      exact hp
  · intro l hl
    rcases List.mem_append.mp hl with hl | hl
    · show (if l.id = id then T else S l.id).Nodup
      rw [if_neg (hne l hl)]
      exact h.snd l hl
    · obtain rfl := List.mem_singleton.mp hl
      show (if id = id then T else S id).Nodup
      rw [if_pos rfl]
      exact hT
  · have all : ∀ x, x ∈ U → (∀ k ∈ ls, k.id ≠ x) → x ∈ id :: U ∧ ∀ k ∈ ls ++ [(⟨id, id, o, p, ct⟩ : Line)], k.id ≠ x := fun x hx hk => ⟨List.mem_cons_of_mem _ hx, fun k hk' => by
      rcases List.mem_append.mp hk' with h1 | h1
      · exact hk k h1
      · rw [List.mem_singleton.mp h1]
        exact fun e => hid (by have e' : id = x := e; rw [e']; exact hx)⟩
    intro l hl x hx
    rcases List.mem_append.mp hl with hl | hl
    · have hx' : x ∈ if l.id = id then T else S l.id := hx
      rw [if_neg (hne l hl)] at hx'
      exact all x (h.gone l hl x hx').1 (h.gone l hl x hx').2
    · obtain rfl := List.mem_singleton.mp hl
      have hx' : x ∈ if id = id then T else S id := hx
      rw [if_pos rfl] at hx'
      exact all x (hg x hx').1 (hg x hx').2
  · intro k hk l hl hn x hx hx'
    have hx1 : x ∈ if k.id = id then T else S k.id := hx
    have hx2 : x ∈ if l.id = id then T else S l.id := hx'
    rcases List.mem_append.mp hk with hk | hk
    · rw [if_neg (hne k hk)] at hx1
      rcases List.mem_append.mp hl with hl | hl
      · rw [if_neg (hne l hl)] at hx2
        exact h.sib k hk l hl hn x hx1 hx2
      · obtain rfl := List.mem_singleton.mp hl
        rw [if_pos rfl] at hx2
        exact hs k hk x hx1 hx2
    · obtain rfl := List.mem_singleton.mp hk
      rw [if_pos rfl] at hx1
      rcases List.mem_append.mp hl with hl | hl
      · rw [if_neg (hne l hl)] at hx2
        exact (hs l hl x hx2 hx1).symm
      · obtain rfl := List.mem_singleton.mp hl
        exact absurd rfl hn
def textOn (ls : List Line) (c : Line) (id : Id) (ct : Option Ct) : List Line := ls.map fun k => if k.id = c.id then ⟨c.id, id, c.ins, c.path, ct⟩ else k
theorem OkW.text (h : OkW ls U r S) {c : Line} (hc : c ∈ ls) (hct : c.ct ≠ none) {id : Id} (hid : id ∉ U) (ct : Ct) : OkW (textOn ls c id (some ct)) (id :: U) r S := by
  have mem : ∀ {k : Line}, k ∈ textOn ls c id (some ct) → ∃ l ∈ ls, k.id = l.id ∧ k.ins = l.ins ∧ k.path = l.path ∧ ((l = c ∧ k.hd = id ∧ k.ct = some ct) ∨ (l ≠ c ∧ k = l)) := fun {k} hk => by
    obtain ⟨l, hl, rfl⟩ := List.mem_map.mp hk
    by_cases e : l.id = c.id
    · rw [if_pos e]
      have := nodup_inj h.nd l hl c hc e
      subst this
      exact ⟨l, hl, rfl, rfl, rfl, .inl ⟨rfl, rfl, rfl⟩⟩
    · rw [if_neg e]
      exact ⟨l, hl, rfl, rfl, rfl, .inr ⟨fun z => e (by rw [z]), rfl⟩⟩
  have ids : (textOn ls c id (some ct)).map (·.id) = ls.map (·.id) := by
    unfold textOn
    rw [List.map_map]
    refine List.map_congr_left fun l _ => ?_
    show (if l.id = c.id then (⟨c.id, id, c.ins, c.path, some ct⟩ : Line) else l).id = l.id
    split
    · next e => exact e.symm
    · rfl
  refine ⟨by rw [ids]; exact h.nd, ?_, ?_, ?_, ?_, ?_, ?_, ?_, ?_⟩
  · -- heads
    have hnh : ∀ l ∈ ls, l.hd ≠ id := fun l hl e => hid (e ▸ (h.idU l hl).2)
    have key : ∀ m : List Line, (∀ l ∈ m, l ∈ ls) → (m.map (·.id)).Nodup → (m.map (·.hd)).Nodup → ((textOn m c id (some ct)).map (·.hd)).Nodup := by
      intro m
      induction m with
      | nil => intro _ _ _; exact List.nodup_nil
      | cons l m ih =>
        intro hm h1 h2
        rw [List.map_cons, List.nodup_cons] at h1 h2
        unfold textOn
        rw [List.map_cons, List.map_cons, List.nodup_cons]
        refine ⟨fun hx => ?_, ih (fun k hk => hm k (List.mem_cons_of_mem _ hk)) h1.2 h2.2⟩
        obtain ⟨k, hk, e⟩ := List.mem_map.mp hx
        obtain ⟨k0, hk0, rfl⟩ := List.mem_map.mp hk
        have hk0' := hm k0 (List.mem_cons_of_mem _ hk0)
        have hl' := hm l (List.mem_cons_self ..)
        by_cases e1 : k0.id = c.id
        · by_cases e2 : l.id = c.id
          · exact h1.1 (List.mem_map.mpr ⟨k0, hk0, e1.trans e2.symm⟩)
          · rw [if_pos e1, if_neg e2] at e
            exact hnh l hl' e.symm
        · by_cases e2 : l.id = c.id
          · rw [if_neg e1, if_pos e2] at e
            exact hnh k0 hk0' e
          · rw [if_neg e1, if_neg e2] at e
            exact h2.1 (List.mem_map.mpr ⟨k0, hk0, e⟩)
    exact key ls (fun _ hl => hl) h.nd h.hnd
  · intro k hk hk2
    obtain ⟨l, hl, h1, h2, h3, ⟨rfl, h4, h5⟩ | ⟨h4, rfl⟩⟩ := mem hk
    · rw [h5] at hk2
      cases hk2
    · exact h.fol k hl hk2
  · intro k hk
    obtain ⟨l, hl, h1, h2, h3, ⟨rfl, h4, h5⟩ | ⟨h4, rfl⟩⟩ := mem hk
    · rw [h1, h4]
      exact ⟨List.mem_cons_of_mem _ (h.idU l hl).1, List.mem_cons_self ..⟩
    · exact ⟨List.mem_cons_of_mem _ (h.idU k hl).1, List.mem_cons_of_mem _ (h.idU k hl).2⟩
  · intro k hk i hi
    obtain ⟨l, hl, h1, h2, h3, _⟩ := mem hk
    rw [h2] at hi
    obtain ⟨f, hf, rfl, h5, h6⟩ := h.up l hl i hi
    have hfc : f.id ≠ c.id := fun e => hct (by rw [← nodup_inj h.nd f hf c hc e]; exact h5)
    exact ⟨f, List.mem_map.mpr ⟨f, hf, if_neg hfc⟩, rfl, h5, by rw [h1]; exact h6⟩
  · intro k hk
    obtain ⟨l, hl, h1, h2, h3, _⟩ := mem hk
    rw [h1, h3]
    exact h.len l hl
  · intro k hk
    obtain ⟨l, hl, h1, _⟩ := mem hk
    rw [h1]
    exact h.snd l hl
  · intro k hk x hx
    obtain ⟨l, hl, h1, _⟩ := mem hk
    rw [h1] at hx
    refine ⟨List.mem_cons_of_mem _ (h.gone l hl x hx).1, fun m hm => ?_⟩
    obtain ⟨n, hn, h5, _⟩ := mem hm
    rw [h5]
    exact (h.gone l hl x hx).2 n hn
  · intro k hk l hl hne x hx hx'
    obtain ⟨k0, hk0, h1, h2, _⟩ := mem hk
    obtain ⟨l0, hl0, h3, h4, _⟩ := mem hl
    rw [h1] at hx hne
    rw [h3] at hx' hne
    rw [h2, h4]
    exact h.sib k0 hk0 l0 hl0 hne x hx hx'
theorem OkW.mv (h : OkW ls U r S) {l : Line} (hl : l ∈ ls) {o : Option Id} {p : List Str} (ho : Fol ls o) (hp : 1 ≤ p.length ∧ p.length ≤ 3) {n : Nat} (hs : SIn ls l.id n o false) : ∃ r' S', OkW (mvTo ls l (o, p)) U r' S' := by
  classical
  let De : Id → Prop := fun x => ∃ n, SIn ls l.id n (some x) true
  let up : Nat := upR r o
  have dl : De l.id := ⟨0, .hit⟩
  have mem : ∀ {k : Line}, k ∈ mvTo ls l (o, p) → (k = ⟨l.id, l.hd, o, p, l.ct⟩) ∨ (k ∈ ls ∧ k.id ≠ l.id) := fun {k} hk => by
    obtain ⟨m, hm, rfl⟩ := List.mem_map.mp hk
    by_cases e : m.id = l.id
    · rw [if_pos e]
      exact .inl rfl
    · rw [if_neg e]
      exact .inr ⟨hm, e⟩
  have low : ∀ {k : Line}, k ∈ mvTo ls l (o, p) → ∃ m ∈ ls, k.id = m.id ∧ k.hd = m.hd ∧ k.ct = m.ct := fun {k} hk => by
    rcases mem hk with rfl | ⟨h1, _⟩
    · exact ⟨l, hl, rfl, rfl, rfl⟩
    · exact ⟨k, h1, rfl, rfl, rfl⟩
  have stay : ∀ f ∈ ls, f.ct = none → ∃ g ∈ mvTo ls l (o, p), g.id = f.id ∧ g.ct = none := fun f hf h1 => by
    by_cases e : f.id = l.id
    · refine ⟨⟨l.id, l.hd, o, p, l.ct⟩, List.mem_map.mpr ⟨f, hf, if_pos e⟩, e.symm, ?_⟩
      rw [← nodup_inj h.nd f hf l hl e]
      exact h1
    · exact ⟨f, List.mem_map.mpr ⟨f, hf, if_neg e⟩, rfl, h1⟩
  have eqs : ∀ {β : Type} (g : Line → β), g ⟨l.id, l.hd, o, p, l.ct⟩ = g l → (mvTo ls l (o, p)).map g = ls.map g := fun {β} g hg => by
    unfold mvTo
    rw [List.map_map]
    refine List.map_congr_left fun m hm => ?_
    show g (if m.id = l.id then _ else m) = g m
    by_cases e : m.id = l.id
    · rw [if_pos e, nodup_inj h.nd m hm l hl e]
      exact hg
    · rw [if_neg e]
  refine ⟨fun x => if De x then r x + up else r x, fun x => if x = l.id then [] else S x, ?_, ?_, ?_, ?_, ?_, ?_, ?_, ?_, ?_⟩
  · rw [eqs (·.id) rfl]
    exact h.nd
  · rw [eqs (·.hd) rfl]
    exact h.hnd
  · intro k hk hc
    obtain ⟨m, hm, h1, h2, h3⟩ := low hk
    rw [h1, h2]
    exact h.fol m hm (h3 ▸ hc)
  · intro k hk
    obtain ⟨m, hm, h1, h2, h3⟩ := low hk
    rw [h1, h2]
    exact h.idU m hm
  · intro k hk i hi
    rcases mem hk with rfl | ⟨h1, h2⟩
    · have hi' : o = some i := hi
      obtain ⟨f, hf, rfl, h3⟩ := ho i hi'
      obtain ⟨g, g1, g2, g3⟩ := stay f hf h3
      refine ⟨g, g1, g2, g3, ?_⟩
      have nd : ¬ De f.id := fun ⟨m, hm⟩ => by
        rw [hi'] at hs
        exact absurd (sin_one hs hm) (by decide)
      show (if De f.id then _ else r f.id) < if De l.id then r l.id + up else _
      rw [if_neg nd, if_pos dl]
      have : up = r f.id + 1 := by
        show upR r o = _
        rw [hi']
        rfl
      omega
    · obtain ⟨f, hf, rfl, h3, h4⟩ := h.up k h1 i hi
      obtain ⟨g, g1, g2, g3⟩ := stay f hf h3
      refine ⟨g, g1, g2, g3, ?_⟩
      have go : De f.id → De k.id := fun ⟨m, hm⟩ => ⟨m + 1, .up h2 (h.find h1) (by rw [hi]; exact hm)⟩
      show (if De f.id then r f.id + up else r f.id) < if De k.id then r k.id + up else r k.id
      by_cases d1 : De f.id
      · rw [if_pos d1, if_pos (go d1)]
        omega
      · rw [if_neg d1]
        split <;> omega
  · intro k hk
    rcases mem hk with rfl | ⟨h1, h2⟩
    · show 1 ≤ p.length ∧ p.length ≤ 3 * ((if l.id = l.id then [] else S l.id).length + 1)
      rw [if_pos rfl]
      exact ⟨hp.1, by show p.length ≤ 3 * (0 + 1); omega⟩
    · show 1 ≤ k.path.length ∧ k.path.length ≤ 3 * ((if k.id = l.id then [] else S k.id).length + 1)
      rw [if_neg h2]
      exact h.len k h1
  · intro k hk
    rcases mem hk with rfl | ⟨h1, h2⟩
    · show (if l.id = l.id then [] else S l.id).Nodup
      rw [if_pos rfl]
      exact List.nodup_nil
    · show (if k.id = l.id then [] else S k.id).Nodup
      rw [if_neg h2]
      exact h.snd k h1
  · intro k hk x hx
    rcases mem hk with rfl | ⟨h1, h2⟩
    · have hx' : x ∈ if l.id = l.id then [] else S l.id := hx
      rw [if_pos rfl] at hx'
      cases hx'
    · have hx' : x ∈ if k.id = l.id then [] else S k.id := hx
      rw [if_neg h2] at hx'
      refine ⟨(h.gone k h1 x hx').1, fun m hm => ?_⟩
      obtain ⟨m0, hm0, h3, _⟩ := low hm
      rw [h3]
      exact (h.gone k h1 x hx').2 m0 hm0
  · intro k hk m hm hne x hx hx'
    rcases mem hk with rfl | ⟨h1, h2⟩
    · have hx1 : x ∈ if l.id = l.id then [] else S l.id := hx
      rw [if_pos rfl] at hx1
      cases hx1
    · have hx1 : x ∈ if k.id = l.id then [] else S k.id := hx
      rw [if_neg h2] at hx1
      rcases mem hm with rfl | ⟨h3, h4⟩
      · have hx2 : x ∈ if l.id = l.id then [] else S l.id := hx'
        rw [if_pos rfl] at hx2
        cases hx2
      · have hx2 : x ∈ if m.id = l.id then [] else S m.id := hx'
        rw [if_neg h4] at hx2
        exact h.sib k h1 m h3 hne x hx1 hx2
def Ok (ls : List Line) (U : List Id) : Prop := ∃ r S, OkW ls U r S
theorem OkW.more (h : OkW ls U r S) {U' : List Id} (hu : ∀ x ∈ U, x ∈ U') : OkW ls U' r S :=
  ⟨h.nd, h.hnd, h.fol, fun l hl => ⟨hu _ (h.idU l hl).1, hu _ (h.idU l hl).2⟩, h.up, h.len, h.snd, fun l hl x hx => ⟨hu x (h.gone l hl x hx).1, (h.gone l hl x hx).2⟩, h.sib⟩
theorem Ok.more (h : Ok ls U) {U' : List Id} (hu : ∀ x ∈ U, x ∈ U') : Ok ls U' := let ⟨r, S, h⟩ := h; ⟨r, S, h.more hu⟩
theorem Ok.short (h : Ok ls U) (hU : U.length ≤ 500) : Short ls := let ⟨_, _, h⟩ := h; h.short hU
theorem ok_nil : Ok [] [] := by
  refine ⟨fun _ => 0, fun _ => [], ⟨by simp, by simp, ?_, ?_, ?_, ?_, ?_, ?_, ?_⟩⟩
  all_goals
    intro l hl
    cases hl
def GoodPl (pl : Place) : Prop := (1 ≤ pl.2.1.length ∧ pl.2.1.length ≤ 3) ∧ 1 ≤ pl.2.2.length ∧ pl.2.2.length ≤ 3
theorem settle_fol (ls : List Line) (pl : Place) : Fol ls (settleF ls pl).1 := fun i hi => by
  unfold settleF at hi
  cases hf : findLine ls pl.1 with
  | none => rw [hf] at hi; cases hi
  | some f =>
    rw [hf] at hi
    obtain ⟨h1, h2⟩ := find_mem hf
    by_cases hc : f.ct = none
    · have hi' : pl.1 = some i := by
        have : (if f.ct = none then (pl.1, pl.2.1) else (none, pl.2.2)).1 = some i := hi
        rw [if_pos hc] at this
        exact this
      rw [h2] at hi'
      exact ⟨f, h1, Option.some.inj hi', hc⟩
    · have : (if f.ct = none then (pl.1, pl.2.1) else (none, pl.2.2)).1 = some i := hi
      rw [if_neg hc] at this
      cases this
theorem settle_len (ls : List Line) {pl : Place} (h : GoodPl pl) : 1 ≤ (settleF ls pl).2.length ∧ (settleF ls pl).2.length ≤ 3 := by
  unfold settleF
  cases findLine ls pl.1 with
  | none => exact h.2
  | some f =>
    show 1 ≤ (if f.ct = none then (pl.1, pl.2.1) else (none, pl.2.2)).2.length ∧ (if f.ct = none then (pl.1, pl.2.1) else (none, pl.2.2)).2.length ≤ 3
    split
    · exact h.1
    · exact h.2
theorem Ok.head (h : Ok ls U) (x : Id) : Ok (woHead ls x) U := by
  unfold woHead
  cases hf : findHead ls (some x) with
  | none => exact h
  | some e =>
    obtain ⟨r, S, h⟩ := h
    obtain ⟨S', h'⟩ := h.wo (findH_mem hf).1
    exact ⟨r, S', h'⟩
theorem Ok.heads : ∀ (hs : List Id) {ls : List Line}, Ok ls U → Ok (woHeads ls hs) U
  | [], _, h => h
  | x :: hs, _, h => Ok.heads hs (h.head x)
theorem Ok.new (h : Ok ls U) {id : Id} (hid : id ∉ U) {pl : Place} (hp : GoodPl pl) (ct : Option Ct) (meant : Option Id) : Ok (withNew ls id pl ct meant) (id :: U) := by
  obtain ⟨r, S, h⟩ := h
  unfold withNew whereF
  cases hf : findLine ls meant with
  | none => exact h.add hid (T := []) ct (settle_fol ls pl) (by have := settle_len ls hp; simpa using this) List.nodup_nil (fun x hx => by cases hx) (fun _ _ x _ hx => by cases hx)
  | some m =>
    obtain ⟨h1, _⟩ := find_mem hf
    refine h.add hid (T := S m.id) ct (fun i hi => let ⟨f, a, b, c, _⟩ := h.up m h1 i hi; ⟨f, a, b, c⟩) (h.len m h1) (h.snd m h1) (h.gone m h1) fun k hk x hx1 hx2 => ?_
    by_cases e : k.id = m.id
    · rw [nodup_inj h.nd k hk m h1 e]
    · exact h.sib k hk m h1 e x hx1 hx2
theorem Ok.textIn (h : Ok ls U) {id : Id} (hid : id ∉ U) {pl : Place} (hp : GoodPl pl) (c : Ct) (meant : Option Id) (hs : List Id) : Ok (textIn ls id pl (some c) meant hs) (id :: U) := by
  unfold Ln.textIn
  cases hf : firstRep ls hs with
  | none => exact h.new hid hp _ _
  | some k =>
    obtain ⟨r, S, h⟩ := h
    unfold firstRep at hf
    have h1 := List.mem_of_find?_eq_some hf
    have h2 := List.find?_some hf
    rw [Bool.and_eq_true] at h2
    exact ⟨r, S, h.text h1 (fun e => by rw [e] at h2; cases h2.1) hid c⟩
theorem Ok.mv (h : Ok ls U) {m : Mv} (hm : GoodPl m.2.2) : ∃ ls', MvR ls m ls' ∧ Ok ls' U := by
  obtain ⟨r, S, h⟩ := h
  cases hf : meantBy ls m with
  | none => exact ⟨ls, .no hf, r, S, h⟩
  | some l =>
    have hl : l ∈ ls := by
      unfold meantBy at hf
      cases hh : findHead ls m.1 with
      | none =>
        rw [hh, Option.none_or] at hf
        exact (find_mem hf).1
      | some k =>
        rw [hh, Option.some_or] at hf
        cases hf
        exact (findH_mem hh).1
    have hfo := settle_fol ls m.2.2
    obtain ⟨n, b, hs⟩ := h.sin_any l.id (o := (settleF ls m.2.2).1) fun i hi => let ⟨f, a, b, _⟩ := hfo i hi; ⟨f, a, b⟩
    cases b with
    | true => exact ⟨ls, .ring hf hs, r, S, h⟩
    | false =>
      obtain ⟨r', S', h'⟩ := h.mv hl hfo (settle_len ls hm) hs
      exact ⟨_, .yes hf hs, r', S', h'⟩
theorem Ok.mvs (hU : U.length ≤ 500) : ∀ (ms : List Mv) {ls : List Line}, Ok ls U → (∀ m ∈ ms, GoodPl m.2.2) → ∃ ls', MvsR ls ms ls' ∧ Ok ls' U
  | [], ls, h, _ => ⟨ls, .nil ls, h⟩
  | m :: ms, ls, h, hm => by
    obtain ⟨l1, h1, h2⟩ := h.mv (hm m (List.mem_cons_self ..))
    obtain ⟨l2, h3, h4⟩ := Ok.mvs hU ms h2 fun k hk => hm k (List.mem_cons_of_mem _ hk)
    exact ⟨l2, .cons (h.short hU) h1 h3, h4⟩
def eId : Edit → Id
  | .write id .. => id
  | .drop id _ => id
  | .move id _ => id
def GoodEd : Edit → Prop
  | .write _ pl _ _ hs => GoodPl pl ∧ hs.length ≤ 1000
  | .drop _ _ => True
  | .move _ ms => ∀ m ∈ ms, GoodPl m.2.2
theorem Ok.edit (h : Ok ls U) (hU : U.length ≤ 400) {e : Edit} (hid : eId e ∉ U) (he : GoodEd e) : ∃ ls', AftR ls e ls' ∧ Ok ls' (eId e :: U) := by
  have hm : ∀ x ∈ U, x ∈ eId e :: U := fun x hx => List.mem_cons_of_mem _ hx
  have hU' : (eId e :: U).length ≤ 500 := by rw [List.length_cons]; omega
  cases e with
  | write id pl ct meant hs =>
    cases ct with
    | none => exact ⟨_, .mark id pl meant hs (h.short (by omega)) fun i => (Ok.heads _ (h.new hid he.1 none meant)).short hU', Ok.heads hs (h.new hid he.1 none meant)⟩
    | some c => exact ⟨_, .text id pl c meant hs (h.short (by omega)) he.2 fun i => (Ok.heads _ (h.textIn hid he.1 c meant hs)).short hU', Ok.heads _ (h.textIn hid he.1 c meant hs)⟩
  | drop id hs => exact ⟨_, .drop id hs fun i => (Ok.heads _ h).short (by omega), (Ok.heads hs h).more hm⟩
  | move id ms =>
    obtain ⟨ls', h1, h2⟩ := Ok.mvs (by omega) ms h he
    exact ⟨ls', .move id h1, h2.more hm⟩
theorem Ok.fold : ∀ (es : List Edit) {ls : List Line} {U : List Id}, Ok ls U → U.length + es.length ≤ 400 → (es.map eId).Nodup → (∀ e ∈ es, eId e ∉ U ∧ GoodEd e) → ∃ ls' U', FoldR ls es ls' ∧ Ok ls' U' ∧ U'.length = U.length + es.length ∧ ∀ x ∈ U', x ∈ U ∨ x ∈ es.map eId
  | [], ls, U, h, _, _, _ => ⟨ls, U, .nil ls, h, rfl, fun x hx => .inl hx⟩
  | e :: es, ls, U, h, hU, hn, hg => by
    rw [List.length_cons] at hU
    rw [List.map_cons, List.nodup_cons] at hn
    obtain ⟨l1, h1, h2⟩ := h.edit (by omega) (hg e (List.mem_cons_self ..)).1 (hg e (List.mem_cons_self ..)).2
    obtain ⟨l2, U2, h3, h4, h5, h6⟩ := Ok.fold es h2 (by rw [List.length_cons]; omega) hn.2 fun k hk => ⟨fun hx => by
      rcases List.mem_cons.mp hx with h | h
      · exact hn.1 (List.mem_map.mpr ⟨k, hk, h⟩)
      · exact (hg k (List.mem_cons_of_mem _ hk)).1 h, (hg k (List.mem_cons_of_mem _ hk)).2⟩
    refine ⟨l2, U2, .cons h1 h3, h4, by rw [h5, List.length_cons, List.length_cons]; omega, fun x hx => ?_⟩
    rcases h6 x hx with h | h
    · rcases List.mem_cons.mp h with h | h
      · exact .inr (by rw [List.map_cons, h]; exact List.mem_cons_self ..)
      · exact .inl h
    · exact .inr (by rw [List.map_cons]; exact List.mem_cons_of_mem _ h)
end
end Ln
namespace Ln
open PySem PySem.Spec PyProof.Rows L2 Evl Lw
def namesD : List Str := [Str.ofString "a", Str.ofString "b", Str.ofString "c.txt", Str.ofString "d"]
def pathF (row most : Int) : List Str := (List.range (1 + row / 5 % most).toNat).map fun (j : Nat) => namesD.getD (row / (11 * (j : Int) + 3) % 4).toNat Str.empty
def pickF (row : Int) (is : List Id) : Option Id := if is = [] ∨ row % 3 = 0 then none else if row / 7 % 2 = 0 then is[(row / 3 % (is.length : Int)).toNat]? else is[((is.length : Int) - 1 - row / 3 % min 3 (is.length : Int)).toNat]?
def placeF (row : Int) (is : List Id) : Place := (pickF (row / 2) is, pathF (row / 13) 2, pathF (row / 101) 3)
def headsF (row : Int) (is : List Id) : Nat → List Id
  | 0 => []
  | j + 1 => headsF row is j ++ (pickF (row / (23 * (j : Int) + 5)) is).toList
def headsA (row : Int) (is : List Id) : List Id := headsF row is (row / 17 % 4).toNat
def mvF (row : Int) (is : List Id) (j : Nat) : Mv := (pickF (1 + 3 * (row / (37 * (j : Int) + 2))) is, pickF (1 + 3 * (row / (41 * (j : Int) + 3))) is, placeF (row / (43 * (j : Int) + 7)) is)
def editF (row : Int) (id : Id) (is : List Id) : Edit :=
  if row % 6 = 0 then .write id (placeF (row / 6) is) none none (headsA row is)
  else if row % 6 ≤ 3 ∨ is.length = 0 then .write id (placeF (row / 6) is) (some (row / 19 % 3, row / 19 % 3, row / 19 % 3 + 1, false)) (pickF (row / 29) is) (headsA row is)
  else if row % 6 = 4 then .drop id (headsA (row / 3) is)
  else .move id ((List.range (1 + row / 31 % 2).toNat).map (mvF row is))
def idAt (k : Nat) : Id := ((k : Int) / 2 + 1, (k : Int) % 2)
def idsTo (n : Nat) : List Id := (List.range n).map idAt
def editsF (rs : List Int) (n : Nat) : List Edit := (List.range n).map fun k => editF (rs.getD k 0) (idAt k) (idsTo k)
theorem pathF_len {row most : Int} (h : 1 ≤ most) : 1 ≤ (pathF row most).length ∧ ((pathF row most).length : Int) ≤ most := by
  unfold pathF
  rw [List.length_map, List.length_range]
  have h1 := Int.emod_nonneg (row / 5) (show most ≠ 0 by omega)
  have h2 := Int.emod_lt_of_pos (row / 5) (show 0 < most by omega)
  omega
theorem placeF_good (row : Int) (is : List Id) : GoodPl (placeF row is) := by
  have h1 := pathF_len (row := row / 13) (most := 2) (by decide)
  have h2 := pathF_len (row := row / 101) (most := 3) (by decide)
  show (1 ≤ (pathF (row / 13) 2).length ∧ (pathF (row / 13) 2).length ≤ 3) ∧ 1 ≤ (pathF (row / 101) 3).length ∧ (pathF (row / 101) 3).length ≤ 3
  omega
theorem headsF_len (row : Int) (is : List Id) : ∀ n, (headsF row is n).length ≤ n
  | 0 => Nat.le_refl 0
  | n + 1 => by
    have ih := headsF_len row is n
    have h : (pickF (row / (23 * (n : Int) + 5)) is).toList.length ≤ 1 := by cases pickF (row / (23 * (n : Int) + 5)) is <;> simp
    show (headsF row is n ++ _).length ≤ n + 1
    rw [List.length_append]
    omega
theorem headsA_len (row : Int) (is : List Id) : (headsA row is).length ≤ 3 := by
  have h1 := headsF_len row is (row / 17 % 4).toNat
  have h2 := mod_bd (row / 17) 4 (by decide)
  unfold headsA
  omega
theorem editF_good (row : Int) (id : Id) (is : List Id) : GoodEd (editF row id is) := by
  unfold editF
  split
  · exact ⟨placeF_good _ _, Nat.le_trans (headsA_len _ _) (by decide)⟩
  · split
    · exact ⟨placeF_good _ _, Nat.le_trans (headsA_len _ _) (by decide)⟩
    · split
      · trivial
      · intro m hm
        obtain ⟨j, _, rfl⟩ := List.mem_map.mp hm
        exact placeF_good _ _
theorem editF_id (row : Int) (id : Id) (is : List Id) : eId (editF row id is) = id := by
  unfold editF
  split
  · rfl
  · split
    · rfl
    · split <;> rfl
theorem idAt_inj {j k : Nat} (h : idAt j = idAt k) : j = k := by
  have h1 : (j : Int) / 2 + 1 = (k : Int) / 2 + 1 := congrArg Prod.fst h
  have h2 : (j : Int) % 2 = (k : Int) % 2 := congrArg Prod.snd h
  omega
theorem drawn_fold (rs : List Int) (n : Nat) (hn : n ≤ 400) : ∃ ls U, FoldR [] (editsF rs n) ls ∧ Ok ls U ∧ U.length = n ∧ ∀ x ∈ U, x ∈ idsTo n := by
  have hmap : (editsF rs n).map eId = idsTo n := by
    unfold editsF idsTo
    rw [List.map_map]
    exact List.map_congr_left fun k _ => editF_id _ _ _
  obtain ⟨ls, U, h1, h2, h3, h4⟩ := Ok.fold (editsF rs n) ok_nil (by unfold editsF; rw [List.length_map, List.length_range]; show 0 + n ≤ 400; omega) (by
    rw [hmap]
    unfold idsTo
    exact List.Pairwise.map _ (fun a b hab e => hab (idAt_inj e)) (List.nodup_range)) (fun e he => ⟨by simp, by
      obtain ⟨k, _, rfl⟩ := List.mem_map.mp he
      exact editF_good _ _ _⟩)
  refine ⟨ls, U, h1, h2, ?_, fun x hx => ?_⟩
  · rw [h3]
    unfold editsF
    rw [List.length_map, List.length_range]
    exact Nat.zero_add n
  · rcases h4 x hx with h | h
    · cases h
    · rw [hmap] at h
      exact h
theorem idsTo_len (n : Nat) : (idsTo n).length = n := by unfold idsTo; rw [List.length_map, List.length_range]
theorem idsTo_up (n : Nat) : idsTo (n + 1) = idsTo n ++ [idAt n] := by unfold idsTo; rw [List.range_succ, List.map_append]; rfl
theorem editsF_up (rs : List Int) (n : Nat) : editsF rs (n + 1) = editsF rs n ++ [editF (rs.getD n 0) (idAt n) (idsTo n)] := by unfold editsF; rw [List.range_succ, List.map_append]; rfl
end Ln
namespace Ln
open PySem L2 Lw
section
variable {ls : List Line} {U : List Id} {r : Id → Nat} {S : Id → List Id}
theorem std_wo (h : OkW ls U r S) {e : Line} (he : e ∈ ls) {n : Nat} {o : Option Id} {p q : List Str} (hs : Std ls n o p q) : ∃ m, Std (woLine ls e) m (if o = some e.id then e.ins else o) (if o = some e.id then e.path ++ p else p) q := by
  obtain ⟨S', h'⟩ := h.wo he
  induction hs with
  | root p => exact ⟨0, .root p⟩
  | @up i f n p q hf hs ih =>
    obtain ⟨h1, h2⟩ := find_mem hf
    have h3 : i = f.id := Option.some.inj h2
    subst h3
    obtain ⟨m, ih⟩ := ih
    by_cases hi : f.id = e.id
    · have hfe := nodup_inj h.nd f h1 e he hi
      subst hfe
      rw [if_pos rfl, if_pos rfl]
      rw [if_neg (h.not_self h1), if_neg (h.not_self h1)] at ih
      exact ⟨m, ih⟩
    · rw [if_neg (fun z => hi (Option.some.inj z)), if_neg (fun z => hi (Option.some.inj z))]
      by_cases hfe : f.ins = some e.id
      · rw [if_pos hfe, if_pos hfe] at ih
        have hm : ({ f with ins := e.ins, path := e.path ++ f.path } : Line) ∈ woLine ls e := mem_wo.mpr ⟨f, h1, .inl ⟨hfe, rfl⟩⟩
        exact ⟨m + 1, Std.up (f := ({ f with ins := e.ins, path := e.path ++ f.path } : Line)) (h'.find hm) (by rw [← List.append_assoc] at ih; exact ih)⟩
      · rw [if_neg hfe, if_neg hfe] at ih
        have hm : f ∈ woLine ls e := mem_wo.mpr ⟨f, h1, .inr ⟨hfe, hi, rfl⟩⟩
        exact ⟨m + 1, .up (h'.find hm) ih⟩
def Stands (ls : List Line) (sp : Id → List Str) : Prop := ∀ l ∈ ls, ∃ n, Std ls n l.ins l.path (sp l.id)
theorem Stands.wo (h : OkW ls U r S) {e : Line} (he : e ∈ ls) {sp : Id → List Str} (hs : Stands ls sp) : Stands (woLine ls e) sp := fun k hk => by
  obtain ⟨l, hl, ⟨h1, rfl⟩ | ⟨h1, h2, rfl⟩⟩ := mem_wo.mp hk
  · obtain ⟨n, hn⟩ := hs l hl
    obtain ⟨m, hm⟩ := std_wo h he hn
    rw [if_pos h1, if_pos h1] at hm
    exact ⟨m, hm⟩
  · obtain ⟨n, hn⟩ := hs k hl
    obtain ⟨m, hm⟩ := std_wo h he hn
    rw [if_neg h1, if_neg h1] at hm
    exact ⟨m, hm⟩
end
end Ln
namespace Pw
open PySem PySem.Spec PyProof.Rows L2 Evl Lw
section
variable {K : PySem.W.Frag} {cl : Cl} {te ta tv : TE} {pe pa pv : PEx}
end
end Pw
namespace Le
open PySem PySem.Spec PyProof.Rows L2 Evl Lw Ln Pw
def eId (i : Id) : D := .tup [.int i.1, .int i.2]
def eOp {α : Type} (f : α → D) : Option α → D
  | none => .non
  | some a => f a
def ePath (p : List Str) : D := .tup (p.map D.str)
def eCt (c : Ct) : D := .tup [.int c.1, .int c.2.1, .int c.2.2.1, .bl c.2.2.2]
def eLn (l : Line) : D := .tup [eId l.id, eId l.hd, eOp eId l.ins, ePath l.path, eOp eCt l.ct]
def eLs (ls : List Line) : D := .lst (ls.map eLn)
def eIds (is : List Id) : D := .tup (is.map eId)
def ePl (p : Ln.Place) : D := .tup [eOp eId p.1, ePath p.2.1, ePath p.2.2]
def eMv (m : Mv) : D := .tup [eOp eId m.1, eOp eId m.2.1, ePl m.2.2]
def eEd : Edit → D
  | .write id pl ct meant heads => .tup [.str (Str.ofString "write"), eId id, ePl pl, eOp eCt ct, eOp eId meant, eIds heads]
  | .drop id heads => .tup [.str (Str.ofString "drop"), eId id, eIds heads]
  | .move id ms => .tup [.str (Str.ofString "move"), eId id, .tup (ms.map eMv)]
theorem py_map {α : Type} {f : α → D} {g : α → PyData} (h : ∀ a, (f a).py = g a) : ∀ l : List α, pyAll (l.map f) = l.map g
  | [] => rfl
  | a :: l => by rw [List.map_cons, List.map_cons, pyAll, h a, py_map h l]
theorem py_id (i : Id) : (eId i).py = dId i := rfl
theorem py_oid (o : Option Id) : (eOp eId o).py = dOp dId o := by cases o <;> rfl
theorem py_oct (o : Option Ct) : (eOp eCt o).py = dOp dCt o := by cases o <;> rfl
theorem py_path (p : List Str) : (ePath p).py = dPath p := by
  show PyData.tuple (pyAll (p.map D.str)) = _
  rw [py_map (g := PyData.str) (fun _ => rfl)]
  rfl
theorem py_ln (l : Line) : (eLn l).py = dLn l := by
  show PyData.tuple [(eId l.id).py, (eId l.hd).py, (eOp eId l.ins).py, (ePath l.path).py, (eOp eCt l.ct).py] = _
  rw [py_id, py_id, py_oid, py_path, py_oct]
  rfl
theorem py_ls (ls : List Line) : (eLs ls).py = dLs ls := by
  show PyData.list (pyAll (ls.map eLn)) = _
  rw [py_map py_ln]
  rfl
theorem pureAll_map {α : Type} {f : α → D} (h : ∀ a, (f a).pure = true) : ∀ l : List α, pureAll (l.map f) = true
  | [] => rfl
  | a :: l => by rw [List.map_cons, pureAll, h a, pureAll_map h l]; rfl
theorem pu_id (i : Id) : (eId i).pure = true := rfl
theorem pu_oid (o : Option Id) : (eOp eId o).pure = true := by cases o <;> rfl
theorem pu_oct (o : Option Ct) : (eOp eCt o).pure = true := by cases o <;> rfl
theorem pu_path (p : List Str) : (ePath p).pure = true := pureAll_map (fun _ => rfl) p
theorem pu_ln (l : Line) : (eLn l).pure = true := by
  show pureAll [eId l.id, eId l.hd, eOp eId l.ins, ePath l.path, eOp eCt l.ct] = true
  simp [pureAll, pu_id, pu_oid, pu_path, pu_oct]
theorem pu_ls (ls : List Line) : (eLs ls).pure = true := pureAll_map pu_ln ls
theorem pu_lsl (ls : List Line) : (D.lst (ls.map eLn)).pure = true := pu_ls ls
theorem pu_ids (is : List Id) : pureAll (is.map eId) = true := pureAll_map pu_id is
theorem de_id (i : Id) : (eId i).dep ≤ 60 := Nat.le_trans (dp_id i) (by decide)
theorem de_oid (o : Option Id) : (eOp eId o).dep ≤ 60 := by
  show (eOp eId o).py.depth ≤ 60
  rw [py_oid]
  exact Nat.le_trans (dp_oid o) (by decide)
theorem de_path (p : List Str) : (ePath p).dep ≤ 60 := by
  show (ePath p).py.depth ≤ 60
  rw [py_path]
  exact Nat.le_trans (dp_path p) (by decide)
theorem de_ln (l : Line) : (eLn l).dep ≤ 60 := by
  show (eLn l).py.depth ≤ 60
  rw [py_ln]
  exact Nat.le_trans (dp_ln l) (by decide)
theorem de_ls (ls : List Line) : (eLs ls).dep ≤ 60 := by
  show (eLs ls).py.depth ≤ 60
  rw [py_ls]
  exact Nat.le_trans (dp_ls ls) (by decide)
theorem ev_id (a b : Id) : D.eqv (eId a) (eId b) = decide (a = b) := eqv_id a b
theorem ev_oid (a b : Option Id) : D.eqv (eOp eId a) (eOp eId b) = decide (a = b) := by
  unfold D.eqv
  rw [py_oid, py_oid, eqv_oid]
theorem ev_ido (a : Id) (b : Option Id) : D.eqv (eId a) (eOp eId b) = decide (some a = b) := ev_oid (some a) b
theorem ev_oi (a : Option Id) (b : Id) : D.eqv (eOp eId a) (eId b) = decide (a = some b) := ev_oid a (some b)
theorem ev_path (a b : List Str) : D.eqv (ePath a) (ePath b) = decide (a = b) := by
  unfold D.eqv
  rw [py_path, py_path, eqv_path]
theorem ev_ln (a b : Line) : D.eqv (eLn a) (eLn b) = decide (a = b) := by
  unfold D.eqv
  rw [py_ln, py_ln, eqv_ln]
theorem ev_ls (a b : List Line) : D.eqv (eLs a) (eLs b) = decide (a = b) := by
  unfold D.eqv
  rw [py_ls, py_ls, eqv_ls]
theorem any_eid (i : Id) (is : List Id) : ((is.map eId).any fun z => D.eqv z (eId i)) = decide (i ∈ is) := by
  induction is with
  | nil => rfl
  | cons a is ih =>
    rw [List.map_cons, List.any_cons, ih, ev_id]
    simp [Bool.eq_iff_iff, eq_comm]
theorem non_oid (o : Option Id) : isNon (eOp eId o) = o.isNone := by cases o <;> rfl
theorem non_oln (o : Option Line) : isNon (eOp eLn o) = o.isNone := by cases o <;> rfl
theorem non_oct (o : Option Ct) : isNon (eOp eCt o) = o.isNone := by cases o <;> rfl
section
variable {S : Sto} {k : D → Prop}
theorem ln0 {l : Line} : ixk S (eLn l) (.int 0) k = k (eId l.id) := by unfold eLn; rw [ixk_tup, at0]; simp
theorem ln1 {l : Line} : ixk S (eLn l) (.int 1) k = k (eId l.hd) := by unfold eLn; rw [ixk_tup, at1]; simp
theorem ln2 {l : Line} : ixk S (eLn l) (.int 2) k = k (eOp eId l.ins) := by unfold eLn; rw [ixk_tup, at2]; simp
theorem ln3 {l : Line} : ixk S (eLn l) (.int 3) k = k (ePath l.path) := by unfold eLn; rw [ixk_tup, at3]; simp
theorem ln4 {l : Line} : ixk S (eLn l) (.int 4) k = k (eOp eCt l.ct) := by unfold eLn; rw [ixk_tup, at4]; simp
theorem lnS0 {l : Line} : ixk S (eOp eLn (some l)) (.int 0) k = k (eId l.id) := ln0
theorem lnS2 {l : Line} : ixk S (eOp eLn (some l)) (.int 2) k = k (eOp eId l.ins) := ln2
theorem lnS4 {l : Line} : ixk S (eOp eLn (some l)) (.int 4) k = k (eOp eCt l.ct) := ln4
theorem q_id {a b : Id} : Pw.eqk S (eId a) (eId b) k = k (.bl (decide (a = b))) := by rw [eqk_pure (pu_id a) (pu_id b) (de_id a), ev_id]
theorem q_ido {a : Id} {b : Option Id} : Pw.eqk S (eId a) (eOp eId b) k = k (.bl (decide (some a = b))) := by rw [eqk_pure (pu_id a) (pu_oid b) (de_id a), ev_ido]
theorem q_oi {a : Option Id} {b : Id} : Pw.eqk S (eOp eId a) (eId b) k = k (.bl (decide (a = some b))) := by rw [eqk_pure (pu_oid a) (pu_id b) (de_oid a), ev_oi]
theorem q_oid {a b : Option Id} : Pw.eqk S (eOp eId a) (eOp eId b) k = k (.bl (decide (a = b))) := by rw [eqk_pure (pu_oid a) (pu_oid b) (de_oid a), ev_oid]
theorem q_path {a b : List Str} : Pw.eqk S (ePath a) (ePath b) k = k (.bl (decide (a = b))) := by rw [eqk_pure (pu_path a) (pu_path b) (de_path a), ev_path]
theorem q_ln {a b : Line} : Pw.eqk S (eLn a) (eLn b) k = k (.bl (decide (a = b))) := by rw [eqk_pure (pu_ln a) (pu_ln b) (de_ln a), ev_ln]
theorem q_ls {a b : List Line} : Pw.eqk S (eLs a) (eLs b) k = k (.bl (decide (a = b))) := by rw [eqk_pure (pu_ls a) (pu_ls b) (de_ls a), ev_ls]
theorem n_id {a b : Id} : nek S (eId a) (eId b) k = k (.bl (!decide (a = b))) := by rw [nek_pure (pu_id a) (pu_id b) (de_id a), ev_id]
theorem n_path {a b : List Str} : nek S (ePath a) (ePath b) k = k (.bl (!decide (a = b))) := by rw [nek_pure (pu_path a) (pu_path b) (de_path a), ev_path]
theorem n_ln {a b : Line} : nek S (eLn a) (eLn b) k = k (.bl (!decide (a = b))) := by rw [nek_pure (pu_ln a) (pu_ln b) (de_ln a), ev_ln]
theorem n_ls {a b : List Line} : nek S (eLs a) (eLs b) k = k (.bl (!decide (a = b))) := by rw [nek_pure (pu_ls a) (pu_ls b) (de_ls a), ev_ls]
theorem ad_path {a b : List Str} : addk S (ePath a) (ePath b) k = (a.length + b.length ≤ 100000 ∧ k (ePath (a ++ b))) := by
  show ((a.map D.str).length + (b.map D.str).length ≤ 100000 ∧ k (.tup (a.map D.str ++ b.map D.str))) = _
  rw [List.length_map, List.length_map, ← List.map_append]
  rfl
theorem in_ids {a : Id} {is : List Id} : ink S (eId a) (eIds is) k = k (.bl (decide (a ∈ is))) := by
  show (∃ es, itemsOf S (eIds is) = some es ∧ pureAll es = true ∧ (eId a).pure = true ∧ (eId a).dep ≤ 60 ∧ k (.bl (es.any fun z => D.eqv z (eId a)))) = _
  simp only [eIds, itemsOf, Option.some.injEq, exists_eq_left', pu_ids, pu_id, de_id, true_and, any_eid]
theorem un_ln {l : Line} {env : Pw.Env} {S : Sto} {k : Pw.Env → Sto → Prop} {gs : PGsx} : pgTup 5 gs (eLn l) env S k = gs [eId l.id, eId l.hd, eOp eId l.ins, ePath l.path, eOp eCt l.ct] env S k := by
  show (5 = 5 ∧ _) = _
  simp
theorem un_pl {p : Ln.Place} {env : Pw.Env} {S : Sto} {k : Pw.Env → Sto → Prop} {gs : PGsx} : pgTup 3 gs (ePl p) env S k = gs [eOp eId p.1, ePath p.2.1, ePath p.2.2] env S k := by
  show (3 = 3 ∧ _) = _
  simp
theorem call_of {F : PFn} {S : Sto} {ds : List D} {k : D → Prop} (hp : pureAll ds = true) (h : F ds k) : callk F S ds k := by
  have hr : ∀ es : List D, pureAll es = true → es.map (rs S) = es ∧ noRefs es = true := by
    intro es
    induction es with
    | nil => exact fun _ => ⟨rfl, rfl⟩
    | cons e es ih =>
      intro h
      have h' : e.pure = true ∧ pureAll es = true := by simpa [pureAll] using h
      obtain ⟨h1, h2⟩ := ih h'.2
      rw [List.map_cons, rs_pure h'.1, h1, noRefs, pure_noRef e h'.1, h2]
      exact ⟨rfl, rfl⟩
  obtain ⟨h1, h2⟩ := hr ds hp
  unfold callk
  rw [h1, h2]
  refine ⟨rfl, ?_⟩
  have : (fun d : D => (true = true ∨ d.noLst = true) ∧ k d) = k := by
    funext d
    simp
  rw [this]
  exact h
end
theorem eOp_s {α : Type} {f : α → D} {a : α} : eOp f (some a) = f a := rfl
theorem eOp_n {α : Type} {f : α → D} : eOp f none = .non := rfl
theorem pu_oln (o : Option Line) : (eOp eLn o).pure = true := by
  cases o with
  | none => rfl
  | some l => exact pu_ln l
theorem pu_idst (is : List Id) : (eIds is).pure = true := pu_ids is
theorem pu_pl (p : Ln.Place) : (ePl p).pure = true := by
  show pureAll [eOp eId p.1, ePath p.2.1, ePath p.2.2] = true
  simp only [pureAll, pu_oid, pu_path, Bool.and_self]
theorem pu_mv (m : Mv) : (eMv m).pure = true := by
  show pureAll [eOp eId m.1, eOp eId m.2.1, ePl m.2.2] = true
  simp only [pureAll, pu_oid, pu_pl, Bool.and_self]
theorem pu_mvs (ms : List Mv) : (D.tup (ms.map eMv)).pure = true := pureAll_map pu_mv ms
theorem pu_str (x : Str) : (D.str x).pure = true := rfl
theorem pu_int (x : Int) : (D.int x).pure = true := rfl
theorem pu_bl (x : Bool) : (D.bl x).pure = true := rfl
theorem pu_non : D.non.pure = true := rfl
theorem pu_ed (e : Edit) : (eEd e).pure = true := by
  cases e with
  | write id pl ct meant hs =>
    show pureAll [.str (Str.ofString "write"), eId id, ePl pl, eOp eCt ct, eOp eId meant, eIds hs] = true
    simp only [pureAll, pu_str, pu_id, pu_pl, pu_oct, pu_oid, pu_idst, Bool.and_self]
  | drop id hs =>
    show pureAll [.str (Str.ofString "drop"), eId id, eIds hs] = true
    simp only [pureAll, pu_str, pu_id, pu_idst, Bool.and_self]
  | move id ms =>
    show pureAll [.str (Str.ofString "move"), eId id, .tup (ms.map eMv)] = true
    simp only [pureAll, pu_str, pu_id, pu_mvs, Bool.and_self]
theorem pu_eds (es : List Edit) : (D.lst (es.map eEd)).pure = true := pureAll_map pu_ed es
theorem lstk_ls {S : Sto} {ls : List Line} {k : D → Prop} : lstk S [eLs ls] k = k (eLs ls) := by
  show (∃ ds, itemsOf S (eLs ls) = some ds ∧ k (.lst ds)) = _
  simp [eLs, itemsOf]
theorem st_ls {S : Sto} {ls : List Line} : itemsOf S (eLs ls) = some (ls.map eLn) := rfl
theorem non_id (i : Id) : isNon (eId i) = false := rfl
theorem non_ln (l : Line) : isNon (eLn l) = false := rfl
theorem non_ct (c : Ct) : isNon (eCt c) = false := rfl
theorem non_path (p : List Str) : isNon (ePath p) = false := rfl
theorem noLsts_map {α : Type} {f : α → D} (h : ∀ a, (f a).noLst = true) : ∀ l : List α, noLsts (l.map f) = true
  | [] => rfl
  | a :: l => by rw [List.map_cons, noLsts, h a, noLsts_map h l]; rfl
theorem nl_id (i : Id) : (eId i).noLst = true := rfl
theorem nl_oid (o : Option Id) : (eOp eId o).noLst = true := by cases o <;> rfl
theorem nl_oct (o : Option Ct) : (eOp eCt o).noLst = true := by cases o <;> rfl
theorem nl_path (p : List Str) : (ePath p).noLst = true := noLsts_map (fun _ => rfl) p
theorem nl_ids (is : List Id) : (eIds is).noLst = true := noLsts_map nl_id is
theorem nl_pl (p : Ln.Place) : (ePl p).noLst = true := by
  show noLsts [eOp eId p.1, ePath p.2.1, ePath p.2.2] = true
  simp only [noLsts, nl_oid, nl_path, Bool.and_self]
theorem nl_mv (m : Mv) : (eMv m).noLst = true := by
  show noLsts [eOp eId m.1, eOp eId m.2.1, ePl m.2.2] = true
  simp only [noLsts, nl_oid, nl_pl, Bool.and_self]
theorem nl_ed (e : Edit) : (eEd e).noLst = true := by
  cases e with
  | write id pl ct meant hs =>
    show noLsts [.str (Str.ofString "write"), eId id, ePl pl, eOp eCt ct, eOp eId meant, eIds hs] = true
    simp only [noLsts, nl_id, nl_pl, nl_oct, nl_oid, nl_ids, Bool.and_self, show (D.str (Str.ofString "write")).noLst = true from rfl]
  | drop id hs =>
    show noLsts [.str (Str.ofString "drop"), eId id, eIds hs] = true
    simp only [noLsts, nl_id, nl_ids, Bool.and_self, show (D.str (Str.ofString "drop")).noLst = true from rfl]
  | move id ms =>
    show noLsts [.str (Str.ofString "move"), eId id, .tup (ms.map eMv)] = true
    simp only [noLsts, nl_id, show (D.tup (ms.map eMv)).noLst = true from noLsts_map nl_mv ms, Bool.and_self, show (D.str (Str.ofString "move")).noLst = true from rfl]
abbrev rs' := Pw.rs
end Le
namespace Le
open PySem PySem.Spec PyProof.Rows L2 Evl Lw Ln Pw
structure Plc where
  path : List Str
  names : List Str
  thing : Int
  count : Int
  cuts : Int
  ct : Option Ct
  ids : List Id
  line : Option Id
  seen : Bool
deriving DecidableEq
def plcKs : List Str := ["path", "names", "thing", "count", "cuts", "content", "ids", "line", "seen"]
def plcVs (e : Plc) : List D := [ePath e.path, ePath e.names, .int e.thing, .int e.count, .int e.cuts, eOp eCt e.ct, eIds e.ids, eOp eId e.line, .bl e.seen]
section
variable {S : Sto} {e : Plc}
end
theorem put_new {f : Str} {d : D} : ∀ {ks : List Str} {ds : List D}, ks.length = ds.length → (ks.all fun g => !decide (g = f)) = true → Pw.putK f ks = ks ++ [f] ∧ Pw.putD f d ks ds = ds ++ [d]
  | [], [], _, _ => ⟨rfl, rfl⟩
  | [], _ :: _, h, _ => by simp at h
  | _ :: _, [], h, _ => by simp at h
  | g :: ks, e :: ds, h, a => by
    rw [List.all_cons, Bool.and_eq_true] at a
    have hg : ¬ g = f := by simpa using a.1
    obtain ⟨i1, i2⟩ := put_new (d := d) (ks := ks) (ds := ds) (by simpa using h) a.2
    unfold Pw.putK Pw.putD
    rw [if_neg hg, if_neg hg, i1, i2]
    exact ⟨rfl, rfl⟩
theorem setF_new {f : Str} {cs : List Nat} {i n c : Nat} {P : PEnds} {q : PSx} {env : Pw.Env} {S : Sto} {ks : List Str} {ds : List D} {d : D} (hs : S[n]? = some (.obj c ks ds)) (h0 : env[0]? = some (some (.ref n))) (hi : env[i]? = some (some d)) (hc : c ∈ cs) (hl : ks.length = ds.length)
    (hn : (ks.all fun g => !decide (g = f)) = true) (hz : ks.length < 1000) (h : (S.set n (.obj c (ks ++ [f]) (ds ++ [d])))[n]? = some (.obj c (ks ++ [f]) (ds ++ [d])) → q P env (S.set n (.obj c (ks ++ [f]) (ds ++ [d])))) : pSeq (pSetF f cs (pVar 0) (pVar i)) q P env S := by
  obtain ⟨i1, i2⟩ := put_new (f := f) (d := d) hl hn
  refine ⟨d, hi, .ref n, h0, n, rfl, c, ks, ds, hs, hc, hz, ?_⟩
  rw [i1, i2]
  exact h (List.getElem?_set_self (List.getElem?_eq_some_iff.mp hs).1)
theorem setF_last {f : Str} {cs : List Nat} {i n c : Nat} {P : PEnds} {env : Pw.Env} {S : Sto} {ks : List Str} {ds : List D} {d : D} (hs : S[n]? = some (.obj c ks ds)) (h0 : env[0]? = some (some (.ref n))) (hi : env[i]? = some (some d)) (hc : c ∈ cs) (hl : ks.length = ds.length)
    (hn : (ks.all fun g => !decide (g = f)) = true) (hz : ks.length < 1000) (h : P.nx env (S.set n (.obj c (ks ++ [f]) (ds ++ [d])))) : pSetF f cs (pVar 0) (pVar i) P env S := by
  obtain ⟨i1, i2⟩ := put_new (f := f) (d := d) hl hn
  refine ⟨d, hi, .ref n, h0, n, rfl, c, ks, ds, hs, hc, hz, ?_⟩
  rw [i1, i2]
  exact h
end Le
namespace Pw
open PySem PySem.Spec PyProof.Rows L2 Evl Lw
end Pw
namespace Pw
open PySem PySem.Spec PyProof.Rows L2 Evl Lw
def ixS (f : Str) : List Str → Option Nat
  | [] => none
  | k :: r => if f = k then some 0 else (ixS f r).map (· + 1)
theorem lookup_ix {α : Type} {f : Str} : ∀ {ks : List Str} {ds : List α} {i : Nat} {d : α}, ixS f ks = some i → ds[i]? = some d → (ks.zip ds).lookup f = some d
  | [], _, i, _, h, _ => by simp [ixS] at h
  | k :: r, [], i, d, _, hd => by simp at hd
  | k :: r, x :: ds, i, d, h, hd => by
    unfold ixS at h
    rw [List.zip_cons_cons, List.lookup_cons]
    by_cases hk : f = k
    · rw [if_pos hk] at h
      cases h
      have : (f == k) = true := by simpa using hk
      rw [this]
      simpa using hd
    · rw [if_neg hk] at h
      have : (f == k) = false := by simpa using hk
      rw [this]
      cases e : ixS f r with
      | none => rw [e] at h; cases h
      | some j =>
        rw [e] at h
        cases h
        rw [List.getElem?_cons_succ] at hd
        exact lookup_ix e hd
theorem fo {cs : List Nat} {f : Str} {S : Sto} {c i : Nat} {ks : List Str} {ds : List D} {d : D} (hc : cs.contains c = true) (hi : ixS f ks = some i) (hd : ds[i]? = some d) : fldOf cs f S (.obj c ks ds) = some d := by
  show (if c ∈ cs then (ks.zip ds).lookup f else none) = _
  rw [if_pos (by simpa using hc)]
  exact lookup_ix hi hd
theorem call_nr {F : PFn} {S : Sto} {ds : List D} {k : D → Prop} (hp : noRefs ds = true) (h : F ds k) : callk F S ds k := by
  unfold callk
  rw [rs_id ds hp, hp]
  refine ⟨rfl, ?_⟩
  have : (fun d : D => (true = true ∨ d.noLst = true) ∧ k d) = k := by
    funext d
    simp
  rw [this]
  exact h
end Pw
namespace Le
open PySem PySem.Spec PyProof.Rows L2 Evl Lw Ln Pw
theorem nr_id (i : Id) : (eId i).noRef = true := rfl
theorem nr_oid (o : Option Id) : (eOp eId o).noRef = true := pure_noRef _ (pu_oid o)
theorem nr_oct (o : Option Ct) : (eOp eCt o).noRef = true := pure_noRef _ (pu_oct o)
theorem nr_path (p : List Str) : (ePath p).noRef = true := pure_noRef _ (pu_path p)
theorem nr_ln (l : Line) : (eLn l).noRef = true := pure_noRef _ (pu_ln l)
theorem nr_oln (l : Option Line) : (eOp eLn l).noRef = true := pure_noRef _ (pu_oln l)
theorem nr_ls (l : List Line) : (eLs l).noRef = true := pure_noRef _ (pu_ls l)
theorem nr_idst (l : List Id) : (eIds l).noRef = true := pure_noRef _ (pu_idst l)
theorem nr_pl (l : Ln.Place) : (ePl l).noRef = true := pure_noRef _ (pu_pl l)
theorem nr_mv (l : Mv) : (eMv l).noRef = true := pure_noRef _ (pu_mv l)
theorem nr_ed (l : Edit) : (eEd l).noRef = true := pure_noRef _ (pu_ed l)
theorem nr_ct (l : Ct) : (eCt l).noRef = true := rfl
theorem nr_all {α : Type} {f : α → D} (h : ∀ a, (f a).noRef = true) : ∀ l : List α, noRefs (l.map f) = true
  | [] => rfl
  | a :: l => by rw [List.map_cons, noRefs, h a, nr_all h l]; rfl
theorem nr_eds (l : List Edit) : (D.lst (l.map eEd)).noRef = true := nr_all nr_ed l
theorem nr_scr (l : List Int) : (D.scr (l.map D.int)).noRef = true := nr_all (fun _ => rfl) l
theorem nr_ints (l : List Int) : (D.lst (l.map D.int)).noRef = true := nr_all (fun _ => rfl) l
theorem dep_idst (is : List Ln.Id) : (eIds is).dep ≤ 60 := by
  have h : (D.tup (is.map Le.eId)).py.depth ≤ 2 := by
    show PyData.depthAll (pyAll (is.map Le.eId)) + 1 ≤ 2
    rw [py_map py_id]
    have := dp_all (n := 1) dp_id is
    omega
  exact Nat.le_trans h (by decide)
theorem tru_bl {S : Sto} {b : Bool} {k : Bool → Prop} : truk S (.bl b) k = k b := rfl
theorem nr_plcVs (e : Plc) : noRefs (plcVs e) = true := by
  show noRefs [ePath e.path, ePath e.names, .int e.thing, .int e.count, .int e.cuts, eOp eCt e.ct, eIds e.ids, eOp eId e.line, .bl e.seen] = true
  simp only [noRefs, nr_path, nr_oct, nr_oid, nr_idst, D.noRef, Bool.and_self]
theorem q_none {S : Sto} {is : List Id} {k : D → Prop} : Pw.eqk S (eIds is) (.tup []) k = k (.bl (decide (is = []))) := by
  have hd := dep_idst is
  rw [eqk_pure (x := eIds is) (y := .tup []) (pu_idst is) rfl hd]
  have : D.eqv (eIds is) (.tup []) = decide (is = []) := by
    cases is with
    | nil => rfl
    | cons a is =>
      rw [decide_eq_false (by simp)]
      show PyData.eqvAll ((eId a).py :: pyAll (is.map eId)) [] = false
      rw [PyData.eqvAll]
  rw [this]
end Le
namespace Pw
open PySem PySem.Spec PyProof.Rows L2 Evl Lw
section
variable {K : PySem.W.Frag} {x qual : Str} {params : Arguments} {body : List Stmt} {scope : Scope} {kws : List (Str × V)} {f : Addr} {fd : FuncData} {pos kwo : List Str}
end
end Pw
namespace Pw
open PySem PySem.Spec PyProof.Rows L2 Evl Lw
section
variable {K : PySem.W.Frag} {cl : Cl} {te ta tv : TE} {pe pa pv : PEx} {tr : TA} {pr : PAx}
end
end Pw
namespace Pw
open PySem PySem.Spec PyProof.Rows L2 Evl Lw
section
variable {K : PySem.W.Frag} {cl : Cl} {te ta tb : TE} {pe pa pb : PEx} {tt : TT} {pt : PTx} {tg : TG} {pg : PGx}
end
end Pw
namespace Pw
open PySem PySem.Spec PyProof.Rows L2 Evl Lw
section
variable {K : PySem.W.Frag} {cl : Cl} {M : Addr → Prop} {ρ : List Addr} {S : Sto} {H : Hp} {n : Nat} {a : Addr} {kvs : List (D × D)} {l : List Dk.EnV} {k : NestedKey}
end
section
variable {K : PySem.W.Frag} {cl : Cl} {td ty tv tz : TE} {pd py pv pz : PEx} {neg : Bool}
end
end Pw
namespace Pw
open PySem PySem.Spec PyProof.Rows L2 Evl Lw
section
variable {K : PySem.W.Frag} {cl : Cl} {ta tb : TE} {pa pb : PEx}
end
end Pw
namespace Pw
open PySem PySem.Spec PyProof.Rows L2 Evl Lw
def isLk : OpN := fun S xs k => match xs with
  | [.ref n, .ty t] => t = "list" ∧ (∃ ds, S[n]? = some (.lst ds)) ∧ k (.bl true)
  | [.lst _, .ty t] => t = "list" ∧ k (.bl true)
  | [.tup _, .ty t] => t = "list" ∧ k (.bl false)
  | _ => False
theorem smc_isL {K : PySem.W.Frag} {cl : Cl} : SmC K cl (rIsi K) isLk := by
  intro M ρ S H xs vs g r k Q h q
  have kl : PySem.W.kitOne K (.type "list") (.type "list") = some true := by
    unfold PySem.W.kitOne
    rw [if_pos (by decide +kernel)]
  match xs, h with
  | [.ref n, .ty t], h =>
    obtain ⟨v, w, rfl, r1, r2⟩ := all2 r
    obtain ⟨hn, ⟨ds, hs⟩, hk⟩ := h
    subst hn
    cases r2
    cases r1 with
    | @ref _ a ha =>
      obtain ⟨ws, hw, _⟩ := g.lstAt ha hs
      exact ⟨_, _, _, _, true, rfl, .ty _, .base (.lst hw), kl, q H _ _ .refl g (.bl _) hk⟩
  | [.lst ds, .ty t], h =>
    obtain ⟨v, w, rfl, r1, r2⟩ := all2 r
    obtain ⟨hn, hk⟩ := h
    subst hn
    cases r2
    cases r1 with
    | @lst a _ _ hs ha =>
      exact ⟨_, _, _, _, true, rfl, .ty _, .base (.lst (cut_subE _ _ hs)), kl, q H _ _ .refl g (.bl _) hk⟩
  | [.tup ds, .ty n], h =>
    obtain ⟨v, w, rfl, r1, r2⟩ := all2 r
    obtain ⟨hn, hk⟩ := h
    subst hn
    cases r2
    cases r1 with
    | @tup a _ _ hs ha =>
      have hs' := Evl.ex_t cut_subE hs
      have kt : PySem.W.kitOne K (.type "tuple") (.type "list") = some false := by
        unfold PySem.W.kitOne
        rfl
      have ty : TyX K H (.ref a) (.type "tuple") := by
        rcases hs' with hs' | ⟨o, its, m, h1, h2, _⟩
        · rcases hs' with e | ⟨o, e⟩
          · exact .base (.tup e)
          · exact .fTuple e
        · exact .kTuple h1 h2
      exact ⟨_, _, _, _, false, rfl, .ty _, ty, kt, q H _ _ .refl g (.bl _) hk⟩
theorem rs_lt {S : Sto} {n : Nat} {ds : List D} (h : rs S (.ref n) = .lst ds) : S[n]? = some (.lst ds) := by
  unfold rs at h
  simp only at h
  split at h
  · rename_i es he
    cases h
    exact he
  · cases h
theorem rs_of {S : Sto} {n : Nat} {ds : List D} (h : S[n]? = some (.lst ds)) : rs S (.ref n) = .lst ds := by
  unfold rs
  simp only [h]
end Pw
set_option maxHeartbeats 1000000
namespace Dk
open PySem PySem.Spec PyProof.Rows L2 Evl Lw
section
variable {X : Cx} {pins : List (Addr × Obj)} {σ : L2.St} {H : Hp} {s : Shared} {a : Addr}
end
end Dk
namespace Pw
open PySem PySem.Spec PyProof.Rows L2 Evl Lw
section
variable {X : Cx}
end
section
variable {K : PySem.W.Frag} {cl : Cl}
structure DcSt (K : PySem.W.Frag) (cl : Cl) (M : Addr → Prop) (ρ1 : List Addr) (H1 : Hp) (Dl : Addr) (ρ' : List Addr) (S' : Sto) (acc : List (D × D)) (l : List Dk.EnV) (H : Hp) : Prop where
  pre : ρ1 <+: ρ'
  ex : Ex cl (cut (NM M ρ1) H1) (cut (NM (MP M Dl) ρ') H)
  keep : ∀ a, M a → H a = H1 a
  g : G K cl (MP M Dl) ρ' S' H
  at' : H Dl = some (Dk.DHO cl.w Dl l)
  rel : Paired (RelKv K cl ρ' (cut (NM (MP M Dl) ρ') H)) acc l
  nd : (l.map (·.1)).Nodup
theorem kv_up {ρ ρ' : List Addr} {H H' : Hp} (p : ρ <+: ρ') (e : Ex cl H H') {acc : List (D × D)} {l : List Dk.EnV} (h : Paired (RelKv K cl ρ H) acc l) : Paired (RelKv K cl ρ' H') acc l := L2.Paired.mapP h fun x y h => ⟨h.1, h.2.1, RelD.up p e _ _ h.2.2.1, RelD.up p e _ _ h.2.2.2⟩
theorem DcSt.step {M : Addr → Prop} {ρ1 ρ' ρ2 : List Addr} {H1 H H2 : Hp} {Dl : Addr} {S' S2 : Sto} {acc : List (D × D)} {l : List Dk.EnV} (c : DcSt K cl M ρ1 H1 Dl ρ' S' acc l H) (s : Stp cl (MP M Dl) ρ' H ρ2 H2) (g : G K cl (MP M Dl) ρ2 S2 H2) : DcSt K cl M ρ1 H1 Dl ρ2 S2 acc l H2 :=
  ⟨c.pre.trans s.pre, c.ex.trans s.ex, fun a m => (s.keep a (.inl m)).trans (c.keep a m), g, (s.keep Dl (.inr rfl)).trans c.at', kv_up s.pre s.ex c.rel, c.nd⟩
variable {tk tv : TE} {pk pv : PEx} {tt : TT} {pt : PTx} {tg : TG} {pg : PGx}
end
end Pw
namespace Pw
open PySem PySem.Spec PyProof.Rows L2 Evl Lw
def forI (src : D) (ds : List D) (g : PGx) (tb : PSx) (P : PEnds) (env : Env) (S1 : Sto) : Prop := ∃ I : Nat → Env → Sto → Prop, I 0 env S1 ∧
  (∀ (i : Nat) d env S, ds[i]? = some d → I i env S → iterOf S src = some ds ∧ g d env S fun env1 S2 => tb { P with nx := I (i + 1), ct := I (i + 1), bk := P.nx } env1 S2) ∧ ∀ env S, I ds.length env S → iterOf S src = some ds ∧ P.nx env S
theorem pFor_I {pi : PIx} {g : PGx} {tb : PSx} {P : PEnds} {env : Env} {S : Sto} : pFor pi g tb P env S = pi env S fun src ds S1 => forI src ds g tb P env S1 := rfl
end Pw
namespace Dk
open PySem PySem.Spec PyProof.Rows L2 Evl Lw
section
variable {X : Cx}
end
end Dk
namespace Pw
open PySem PySem.Spec PyProof.Rows L2 Evl Lw
section
variable {K : PySem.W.Frag} {cl : Cl}
end
end Pw
namespace Dk
open PySem PySem.Spec PyProof.Rows L2 Evl Lw LamX
section
variable {prog : Program} {w : World} {A : Around} {s : Shared}
end
section
variable {X : Cx}
end
end Dk
namespace Pw
open PySem PySem.Spec PyProof.Rows L2 Evl Lw
section
variable {K : PySem.W.Frag} {cl : Cl}
end
structure LamC (cl : Cl) (base : Heap) (mg : Str → Option Value) (c P : Addr) (q : Str) : Prop where
  tb : LamX.TabB base mg c P
  mem : (P, q ++ ".<locals>." ++ "<lambda>") ∈ cl.tabs
  one : ∀ p ∈ cl.tabs, p.1 = P → p.2 = q ++ ".<locals>." ++ "<lambda>"
def LamD (cl : Cl) (base : Heap) (mg : Str → Option Value) (cdv : Value) (q : Str) : Prop := ∃ c P, cdv = .ref c ∧ LamC cl base mg c P q
structure DfL (K : PySem.W.Frag) (mg : Str → Option Value) (cl : Cl) (base : Heap) (x : Str) (st : Stmt) (ps : List Str) : Prop where
  ex : ∃ (f : Addr) (fd : FuncData), L2.Fun K x x st f fd ∧ mg x = some (.ref f) ∧ Binds K fd ps [] ∧ LamD cl base mg fd.code x
theorem fun_okL {P : Program} {w : World} {K : PySem.W.Frag} {cl : Cl} {mg : Str → Option Value} {base : Heap} {x : Str} {st : Stmt} {f : Addr} {fd : FuncData} {N ps : List Str} {k : Nat} {sp : Sp} (F : L2.Fun K x x st f fd) (L : LamD cl base mg fd.code x) (S : FnScope N ps (defScope st)) (len : ∀ vs H Q E, sp vs H Q E → vs.length = ps.length)
    (hbody : ∀ (cdv : Value), LamD cl base mg cdv x → ∀ (A : Around) (outer : List PySem.Env) (s : Shared) (H : Hp) (vs : List V) (Q : VK) (E : XK), Room k (A.deeper (envOfC x (defScope st) s.heap.objs.size f cdv)) → sp vs H Q E →
      ∃ t, PSs (cxOf L2.CX0 P w K mg base N x (defScope st) f cdv A outer s H E).nox (defBody st) t ∧ t { nx := fun _ H' => Q .non H', rt := Q } (start N vs) H) : FnOk P w K mg base L2.CX0 (k + 1) f fd ps sp := by
  obtain ⟨oc, od, kV, doc, pm, an, cdv, ct, osl, rfl, lk, hcd⟩ := F.ex
  refine fn_of lk hcd S len fun A outer s H vs Q E hr hsp => ?_
  obtain ⟨t, h, q⟩ := hbody cdv L A outer s H vs Q E hr hsp
  exact ⟨t, h.nox, q⟩
theorem DfL.cal {P : Program} {w : World} {K : PySem.W.Frag} {cl : Cl} {mg : Str → Option Value} {base : Heap} {x : Str} {st : Stmt} {N ps : List Str} {k : Nat} {sp : Sp} (D : DfL K mg cl base x st ps) (S : FnScope N ps (defScope st)) (len : ∀ vs H Q E, sp vs H Q E → vs.length = ps.length)
    (hbody : ∀ (f : Addr) (cdv : Value), LamD cl base mg cdv x → ∀ (A : Around) (outer : List PySem.Env) (s : Shared) (H : Hp) (vs : List V) (Q : VK) (E : XK), Room k (A.deeper (envOfC x (defScope st) s.heap.objs.size f cdv)) → sp vs H Q E →
      ∃ t, PSs (cxOf L2.CX0 P w K mg base N x (defScope st) f cdv A outer s H E).nox (defBody st) t ∧ t { nx := fun _ H' => Q .non H', rt := Q } (start N vs) H) : C8.Cal P w K mg base (k + 1) x sp [] := by
  obtain ⟨f, fd, F, hm, hb, L⟩ := D.ex
  exact ⟨f, fd, ps, [], fun_okL F L S len (hbody f), hm, F.kp, hb, .nil⟩
def AllTab (q : Program) (mg : Str → Option Value) (h : Heap) : Prop := ∀ d ∈ recsOf q, ∃ a o fd c P, mg d.name = some (.ref a) ∧ h.get? a = some o ∧ o.data = .func fd ∧ fd.code = .ref c ∧ PySem.W.CodeHd h c P ∧ h.get? P = some { cls := .none, data := .fields #[] }
def tabOf (K : PySem.W.Frag) (cd : Value) : Option Addr := match cd with
  | .ref c => match K.lookup c with
    | some ⟨_, _, .fields vs, _⟩ => match (vs[11]? : Option Value) with
      | some (.ref P) => some P
      | _ => none
    | _ => none
  | _ => none
def noTab (K : PySem.W.Frag) (cd : Value) : Bool := match tabOf K cd with
  | some P => (K.lookup P).isNone
  | none => false
theorem AllTab.at {q : Program} {K : PySem.W.Frag} {mg : Str → Option Value} {h : Heap} {x : Str} {f : Addr} {oc : Value} {od : Option Addr} {fd : FuncData} {osl : Array (Option Value)} (T : AllTab q mg h) (X : K.In h) (hx : ((recsOf q).any fun e => e.name == x) = true) (hm : mg x = some (.ref f)) (l : K.lookup f = some ⟨oc, od, .func fd, osl⟩) (hn : noTab K fd.code = true) :
    ∃ c P, fd.code = .ref c ∧ PySem.W.CodeHd h c P ∧ h.get? P = some { cls := .none, data := .fields #[] } ∧ K.lookup P = none ∧ tabOf K fd.code = some P := by
  obtain ⟨e, he, hxe⟩ := List.any_eq_true.mp hx
  have hxe' : e.name = x := beq_iff_eq.mp hxe
  obtain ⟨a, o, fd', c, P, h1, h2, h3, h4, h5, h6⟩ := T e he
  rw [hxe', hm] at h1
  cases h1
  have g := X _ _ l
  rw [g] at h2
  cases h2
  cases h3
  have ht : tabOf K fd.code = some P := by
    rw [h4] at hn ⊢
    unfold noTab at hn
    obtain ⟨o2, us, _, _, _, _, _, _, _, k1, _, k2, k3, _⟩ := h5
    unfold tabOf at hn ⊢
    simp only at hn ⊢
    cases hl : K.lookup c with
    | none =>
      rw [hl] at hn
      simp at hn
    | some ob =>
      have g2 := X _ _ hl
      rw [g2] at k1
      cases k1
      obtain ⟨b1, b2, b3, b4⟩ := o2
      simp only at k2
      subst k2
      simp only [k3]
  refine ⟨c, P, h4, h5, h6, ?_, ht⟩
  unfold noTab at hn
  rw [ht] at hn
  simpa using hn
end Pw
namespace Pw
open PySem PySem.Spec PyProof.Rows L2 Evl Lw
section
variable {K : PySem.W.Frag} {cl : Cl} {ta ti : TE} {pa pi : PEx}
theorem RelAll.set {ρ : List Addr} {H : Hp} : ∀ {ds : List D} {vs : List V} {j : Nat} {d : D} {v : V}, RelAll K cl ρ H ds vs → RelD K cl ρ H d v → RelAll K cl ρ H (ds.set j d) (vs.set j v)
  | _, _, _, _, _, .nil, _ => .nil
  | _, _, 0, _, _, .cons a b, h => .cons h b
  | _, _, j + 1, _, _, .cons a b, h => .cons a (RelAll.set b h)
end
end Pw
namespace Dk
open PySem PySem.Spec PyProof.Rows L2 Evl Lw
section
variable {X : Cx} {pins : List (Addr × Obj)} {σ : L2.St} {H : Hp} {s : Shared} {d : Addr}
end
section
variable {X : Cx} {e : Expr} {td : TE} {apos cpos : Pos}
end
end Dk
namespace Pw
open PySem PySem.Spec PyProof.Rows L2 Evl Lw
def pairD (p : D × D) : D := .tup [p.1, p.2]
def WalkD (n : Nat) (kvs : List (D × D)) (o : Obj) (g : PGx) (tb : PSx) (P : PEnds) (env : Env) (S : Sto) : Prop := ∃ I : Nat → Env → Sto → Prop, I 0 env S ∧
  (∀ (i : Nat) (p : D × D) env S, kvs[i]? = some p → I i env S → S[n]? = some (.dctL kvs o) ∧ g (pairD p) env S fun env1 S2 => tb { P with nx := I (i + 1), ct := I (i + 1), bk := P.nx } env1 S2) ∧ ∀ env S, I kvs.length env S → S[n]? = some (.dctL kvs o) ∧ P.nx env S
def pForD (pd : PEx) (g : PGx) (tb : PSx) : PSx := fun P env S => pd env S fun x S1 => ∃ n kvs, x = .ref n ∧ ((S1[n]? = some (.dct kvs) ∧ ∀ o, WalkD n kvs o g tb P env (S1.set n (.dctL kvs o))) ∨ ∃ o, S1[n]? = some (.dctL kvs o) ∧ WalkD n kvs o g tb P env S1)
section
variable {K : PySem.W.Frag} {cl : Cl} {td : TE} {pd : PEx} {tg : TG} {pg : PGx} {tu : TS} {pu : PSx}
end
end Pw
namespace Pw
open PySem PySem.Spec PyProof.Rows L2 Evl Lw
def pInsL (pa pi pe : PEx) : PSx := fun P env S => pa env S fun l S1 => ∃ n, l = .ref n ∧ ∃ ds0, S1[n]? = some (.lst ds0) ∧ pi env S1 fun y S2 => pe env S2 fun d S3 => ∃ (i : Nat) (ds : List D), y = .int (i : Int) ∧ i ≤ 100000 ∧ S3[n]? = some (.lst ds) ∧ ds.length < 90000 ∧ P.nx env (S3.set n (.lst (ds.take i ++ [d] ++ ds.drop i)))
section
variable {K : PySem.W.Frag} {cl : Cl}
theorem RelAll.take {ρ : List Addr} {H : Hp} : ∀ {ds : List D} {vs : List V} (i : Nat), RelAll K cl ρ H ds vs → RelAll K cl ρ H (ds.take i) (vs.take i)
  | _, _, 0, _ => .nil
  | _, _, i + 1, .nil => .nil
  | _, _, i + 1, .cons a b => .cons a (RelAll.take i b)
end
section
variable {K : PySem.W.Frag} {cl : Cl} {ta : TE} {pa : PEx}
end
def pExtA (pa pb : PEx) : PSx := fun P env S => pa env S fun x S1 => ∃ n, x = .ref n ∧ (∃ ds, S1[n]? = some (.lst ds)) ∧ pb env S1 fun y S2 => ∃ ds es, S2[n]? = some (.lst ds) ∧ listOf S2 y = some es ∧ ds.length + es.length < 90000 ∧ P.nx env (S2.set n (.lst (ds ++ es)))
section
variable {K : PySem.W.Frag} {cl : Cl} {ta tb : TE} {pa pb : PEx}
end
section
variable {X : Cx} {k j : Nat} {C : Addr} {x : Str} {sp : Sp} {dvs : List V} {p pos : Pos}
end
end Pw
namespace Pw
open PySem PySem.Spec PyProof.Rows L2 Evl Lw
section
variable {K : PySem.W.Frag} {cl : Cl}
end
theorem pre_take {α : Type} {as : List α} {i : Nat} {a : α} (h : as[i]? = some a) : as.take (i + 1) = as.take i ++ [a] := take_up h
theorem for_inv {α : Type} {pi : PIx} {g : PGx} {tb : PSx} {P : PEnds} {env : Env} {S : Sto} {src : D} (as : List α) (enc : α → D) (I : List α → Env → Sto → Prop)
    (hpi : ∀ kk : D → List D → Sto → Prop, kk src (as.map enc) S → pi env S kk)
    (h0 : I [] env S)
    (hs : ∀ pre env S, I pre env S → iterOf S src = some (as.map enc))
    (st : ∀ (i : Nat) (a : α), as[i]? = some a → ∀ env S, I (as.take i) env S → g (enc a) env S fun env1 S1 => tb { P with nx := I (as.take i ++ [a]), ct := I (as.take i ++ [a]), bk := P.nx } env1 S1)
    (fin : ∀ env S, I as env S → P.nx env S) : pFor pi g tb P env S := by
  rw [pFor_I]
  refine hpi _ ⟨fun i => I (as.take i), h0, fun i d env S hd hI => ?_, fun env S hI => ?_⟩
  · rw [List.getElem?_map] at hd
    cases e : as[i]? with
    | none => rw [e] at hd; cases hd
    | some a =>
      rw [e] at hd
      cases hd
      refine ⟨hs _ _ _ hI, ?_⟩
      have := st i a e env S hI
      rw [← pre_take e] at this
      exact this
  · dsimp only at hI
    rw [List.length_map, List.take_of_length_le (Nat.le_refl _)] at hI
    exact ⟨hs _ _ _ hI, fin _ _ hI⟩
theorem for_find {α β : Type} {pi : PIx} {g : PGx} {tb : PSx} {P : PEnds} {env : Env} {S : Sto} {src : D} (as : List α) (enc : α → D) (q : α → Bool) (E : β → Env) (R : α → Prop)
    (hpi : ∀ kk : D → List D → Sto → Prop, kk src (as.map enc) S → pi env S kk) (hs : iterOf S src = some (as.map enc)) (he : ∃ x, env = E x)
    (st : ∀ a ∈ as, ∀ (x : β) (J : Env → Sto → Prop), (if q a = true then R a else ∀ x, J (E x) S) → g (enc a) (E x) S fun env1 S1 => tb { P with nx := J, ct := J, bk := P.nx } env1 S1)
    (h : match as.find? q with | some a => R a | none => ∀ x, P.nx (E x) S) : pFor pi g tb P env S := by
  refine for_inv as enc (fun pre env S' => pre.find? q = none ∧ S' = S ∧ ∃ x, env = E x) hpi ⟨rfl, rfl, he⟩ (fun pre env S' hI => by rw [hI.2.1]; exact hs) (fun i a ha env S' hI => ?_) (fun env S' hI => ?_)
  · obtain ⟨h1, rfl, x, rfl⟩ := hI
    refine st a (List.mem_of_getElem? ha) x _ ?_
    cases hq : q a with
    | true =>
      rw [if_pos rfl]
      have hi := List.getElem?_eq_some_iff.mp ha
      have e : as = as.take i ++ a :: as.drop (i + 1) := by
        rw [← hi.2, ← List.drop_eq_getElem_cons hi.1, List.take_append_drop]
      have hf : as.find? q = some a := by
        rw [e, List.find?_append, h1, List.find?_cons_of_pos hq]
        rfl
      rw [hf] at h
      exact h
    | false =>
      rw [if_neg (by decide)]
      intro x
      refine ⟨?_, rfl, x, rfl⟩
      rw [List.find?_append, h1, List.find?_cons_of_neg (by rw [hq]; decide)]
      rfl
  · obtain ⟨h1, rfl, x, rfl⟩ := hI
    rw [h1] at h
    exact h x
def Sx (S S' : Sto) : Prop := ∀ i, i < S.length → S'[i]? = S[i]?
theorem Sx.refl (S : Sto) : Sx S S := fun _ _ => rfl
theorem Sx.get {S S' : Sto} (h : Sx S S') {n : Nat} {o : SO} (hn : S[n]? = some o) : S'[n]? = some o := (h n (List.getElem?_eq_some_iff.mp hn).1).trans hn
theorem Sx.len {S S' : Sto} (h : Sx S S') : S.length ≤ S'.length := by
  rcases Nat.lt_or_ge S'.length S.length with c | c
  · have h1 := h S'.length c
    rw [List.getElem?_eq_none (Nat.le_refl _), List.getElem?_eq_getElem c] at h1
    cases h1
  · exact c
theorem Sx.trans {S S1 S2 : Sto} (h : Sx S S1) (h2 : Sx S1 S2) : Sx S S2 := fun i hi => (h2 i (Nat.lt_of_lt_of_le hi h.len)).trans (h i hi)
theorem Sx.app (S T : Sto) : Sx S (S ++ T) := fun i hi => List.getElem?_append_left hi
theorem Sx.put {S S' : Sto} (h : Sx S S') {n : Nat} (hn : S.length ≤ n) (o : SO) : Sx S (S'.set n o) := fun i hi => by
  rw [List.getElem?_set_ne (by omega)]
  exact h i hi
theorem Sx.list {S S' : Sto} (h : Sx S S') {x : D} {ds : List D} (hx : listOf S x = some ds) : listOf S' x = some ds := by
  cases x with
  | ref n =>
    unfold listOf at hx ⊢
    simp only at hx ⊢
    cases e : S[n]? with
    | none => rw [e] at hx; cases hx
    | some o =>
      rw [h.get e]
      rw [e] at hx
      exact hx
  | _ => exact hx
theorem call_lr {F : PFn} {S : Sto} {x : D} {xs rest : List D} {k : D → Prop} (h : rs S x = .lst xs) (h1 : noRefs xs = true) (hr : noRefs rest = true) (hF : ∀ k' : D → Prop, (∀ d, d.noLst = true → k d → k' d) → F (.lst xs :: rest) k') : callk F S (x :: rest) k := by
  unfold callk
  rw [List.map_cons, h, rs_id rest hr]
  refine ⟨?_, hF _ fun d hd hk => ⟨.inr hd, hk⟩⟩
  show (noRefs xs && noRefs rest) = true
  rw [h1, hr]
  rfl
theorem Sx.rs {S S' : Sto} (h : Sx S S') {x : D} {ds : List D} (hx : Pw.rs S x = .lst ds) : Pw.rs S' x = .lst ds := by
  cases x with
  | ref n => exact rs_of (h.get (rs_lt hx))
  | _ => exact hx
theorem dep_lst {ds : List D} {n : Nat} (h : ∀ d ∈ ds, d.dep ≤ n) : (D.lst ds).dep ≤ n + 1 := by
  have : ∀ ds : List D, (∀ d ∈ ds, d.dep ≤ n) → PyData.depthAll (pyAll ds) ≤ n := fun ds => by
    induction ds with
    | nil => exact fun _ => Nat.zero_le _
    | cons d ds ih => exact fun h => Nat.max_le.mpr ⟨h d List.mem_cons_self, ih fun e he => h e (List.mem_cons_of_mem _ he)⟩
  exact Nat.succ_le_succ (this ds h)
theorem dep_tup {ds : List D} {n : Nat} (h : ∀ d ∈ ds, d.dep ≤ n) : (D.tup ds).dep ≤ n + 1 := dep_lst h
theorem dep_map {α : Type} {f : α → D} {n : Nat} (h : ∀ a, (f a).dep ≤ n) (l : List α) : ∀ d ∈ l.map f, d.dep ≤ n := fun d hd => by
  obtain ⟨a, _, rfl⟩ := List.mem_map.mp hd
  exact h a
theorem any_map {α : Type} [DecidableEq α] {f : α → D} (hf : ∀ a b, D.eqv (f a) (f b) = decide (a = b)) (a : α) (l : List α) : ((l.map f).any fun z => D.eqv z (f a)) = decide (a ∈ l) := by
  induction l with
  | nil => rfl
  | cons b l ih =>
    rw [List.map_cons, List.any_cons, ih, hf, Bool.eq_iff_iff]
    simp only [Bool.or_eq_true, decide_eq_true_eq, List.mem_cons]
    exact ⟨fun z => z.imp Eq.symm id, fun z => z.imp Eq.symm id⟩
end Pw
namespace Ln
open PySem PySem.Spec PyProof.Rows L2 Evl Lw
inductive Up (ls : List Line) : Nat → Option Id → List Id → Prop where
  | root : Up ls 0 none []
  | up {i : Id} {f : Line} {n : Nat} {is : List Id} : findLine ls (some i) = some f → Up ls n f.ins is → Up ls (n + 1) (some i) (i :: is)
section
variable {ls : List Line} {U : List Id} {r : Id → Nat} {S : Id → List Id}
theorem Up.len {n : Nat} {o : Option Id} {is : List Id} (h : Up ls n o is) : is.length = n := by
  induction h with
  | root => rfl
  | up _ _ ih => rw [List.length_cons, ih]
theorem Up.rank (h : OkW ls U r S) {n : Nat} {o : Option Id} {is : List Id} (hu : Up ls n o is) : ∀ k : Nat, (∀ i, o = some i → r i < k) → ∀ j ∈ is, r j < k := by
  induction hu with
  | root => exact fun k _ j hj => by cases hj
  | @up i f n is hf hu ih =>
    intro k hk j hj
    have hi := hk i rfl
    obtain ⟨hm, e⟩ := find_mem hf
    have e' := Option.some.inj e
    rcases List.mem_cons.mp hj with rfl | hj
    · exact hi
    · refine ih k (fun i' hi' => ?_) j hj
      obtain ⟨g, _, hg, _, hr⟩ := h.up f hm i' hi'
      rw [← e'] at hr
      omega
theorem Up.nodup (h : OkW ls U r S) {n : Nat} {o : Option Id} {is : List Id} (hu : Up ls n o is) : is.Nodup := by
  induction hu with
  | root => exact List.nodup_nil
  | @up i f n is hf hu ih =>
    refine List.nodup_cons.mpr ⟨fun hi => ?_, ih⟩
    obtain ⟨hm, e⟩ := find_mem hf
    have e' := Option.some.inj e
    have := hu.rank h (r i) (fun i' hi' => by
      obtain ⟨g, _, hg, _, hr⟩ := h.up f hm i' hi'
      rw [← e'] at hr
      exact hr) i hi
    omega
theorem Up.sin {x : Id} {n : Nat} {o : Option Id} {is : List Id} (hu : Up ls n o is) : ∃ m, SIn ls x m o (decide (x ∈ is)) := by
  induction hu with
  | root => exact ⟨0, by simpa using SIn.root⟩
  | @up i f n is hf hu ih =>
    by_cases hx : i = x
    · subst hx
      exact ⟨0, by simpa using SIn.hit⟩
    · obtain ⟨m, hm⟩ := ih
      have e : decide (x ∈ i :: is) = decide (x ∈ is) := decide_eq_decide.mpr ⟨fun h => (List.mem_cons.mp h).resolve_left fun z => hx z.symm, List.mem_cons_of_mem _⟩
      rw [e]
      exact ⟨m + 1, .up hx hf hm⟩
theorem OkW.ln (h : OkW ls U r S) : ls.length ≤ U.length := by
  have := nodup_sub h.nd fun x hx => by
    obtain ⟨k, hk, rfl⟩ := List.mem_map.mp hx
    exact (h.idU k hk).1
  rw [List.length_map] at this
  exact this
end
end Ln
namespace Ln
open PySem PySem.Spec PyProof.Rows L2 Evl Lw
theorem FoldR.split : ∀ {x y : List Edit} {a c : List Line}, FoldR a (x ++ y) c → ∃ b, FoldR a x b ∧ FoldR b y c
  | [], y, a, c, h => ⟨a, .nil a, h⟩
  | e :: x, y, a, c, h => by
    cases h with
    | cons h1 h2 =>
      obtain ⟨b, h3, h4⟩ := FoldR.split h2
      exact ⟨b, .cons h1 h3, h4⟩
theorem FoldR.snoc {ls l1 l2 : List Line} {es : List Edit} {e : Edit} (h : FoldR ls es l1) (h2 : AftR l1 e l2) : FoldR ls (es ++ [e]) l2 := by
  induction h with
  | nil ls => exact .cons h2 (.nil _)
  | cons h1 _ ih => exact .cons h1 (ih h2)
end Ln
namespace Ln
open PySem PySem.Spec PyProof.Rows L2 Evl Lw
section
variable {ls : List Line} {U : List Id}
end
inductive Reach (ls : List Line) : Option Id → Prop where
  | root : Reach ls none
  | step {l : Line} : l ∈ ls → Reach ls l.ins → Reach ls (some l.id)
def kids (ls : List Line) (o : Option Id) : List Id := (ls.filter fun l => decide (l.ins = o)).map (·.id)
theorem mem_kids {ls : List Line} {o : Option Id} {i : Id} : i ∈ kids ls o ↔ ∃ l ∈ ls, l.ins = o ∧ l.id = i := by
  unfold kids
  rw [List.mem_map]
  constructor
  · rintro ⟨l, hl, e⟩
    rw [List.mem_filter] at hl
    exact ⟨l, hl.1, of_decide_eq_true hl.2, e⟩
  · rintro ⟨l, hl, h, e⟩
    exact ⟨l, List.mem_filter.mpr ⟨hl, decide_eq_true h⟩, e⟩
theorem kids_nd {ls : List Line} (h : (ls.map (·.id)).Nodup) (o : Option Id) : (kids ls o).Nodup := (List.filter_sublist.map _).nodup h
structure Bfs (ls : List Line) (dn W : List (Option Id)) (r : Int) : Prop where
  nd : (dn ++ W).Nodup
  rt : none ∈ dn ++ W
  re : ∀ o ∈ dn ++ W, Reach ls o
  par : ∀ i, some i ∈ dn ++ W → ∃ l ∈ ls, l.id = i ∧ l.ins ∈ dn
  kid : ∀ o ∈ dn, ∀ l ∈ ls, l.ins = o → some l.id ∈ dn ++ W
  cnt : r + 1 = ((dn ++ W).length : Int)
theorem Bfs.start (ls : List Line) : Bfs ls [] [none] 0 := by
  refine ⟨by simp, by simp, fun o ho => ?_, fun i hi => by simp at hi, fun o ho => (by cases ho), rfl⟩
  rw [List.nil_append, List.mem_singleton] at ho
  rw [ho]
  exact .root
def allK (ls : List Line) : List (Option Id) := none :: ls.map fun l => some l.id
theorem Bfs.sub {ls : List Line} {dn W : List (Option Id)} {r : Int} (b : Bfs ls dn W r) : ∀ o ∈ dn ++ W, o ∈ allK ls := fun o ho => by
  cases o with
  | none => exact List.mem_cons_self
  | some i =>
    obtain ⟨l, hl, rfl, _⟩ := b.par i ho
    exact List.mem_cons_of_mem _ (List.mem_map.mpr ⟨l, hl, rfl⟩)
theorem Bfs.le {ls : List Line} {dn W : List (Option Id)} {r : Int} (b : Bfs ls dn W r) : (dn ++ W).length ≤ ls.length + 1 := by
  have := nodup_sub b.nd b.sub
  unfold allK at this
  rw [List.length_cons, List.length_map] at this
  exact this
theorem Bfs.next {ls : List Line} (nd : (ls.map (·.id)).Nodup) {dn W : List (Option Id)} {o : Option Id} {r : Int} (b : Bfs ls dn (W ++ [o]) r) : Bfs ls (o :: dn) (W ++ (kids ls o).map some) (r + ((kids ls o).length : Int)) := by
  have hmem : ∀ x, x ∈ o :: dn ++ (W ++ (kids ls o).map some) ↔ x ∈ dn ++ (W ++ [o]) ∨ x ∈ (kids ls o).map some := fun x => by
    simp only [List.mem_append, List.mem_cons, List.mem_singleton, List.not_mem_nil, or_false]
    constructor
    · rintro ((h | h) | h | h)
      · exact .inl (.inr (.inr h))
      · exact .inl (.inl h)
      · exact .inl (.inr (.inl h))
      · exact .inr h
    · rintro ((h | h | h) | h)
      · exact .inl (.inr h)
      · exact .inr (.inl h)
      · exact .inl (.inl h)
      · exact .inr (.inr h)
  obtain ⟨n1, n2, n3⟩ := List.nodup_append.mp b.nd
  obtain ⟨n4, n5, n6⟩ := List.nodup_append.mp n2
  have od : o ∉ dn := fun h => n3 o h o (List.mem_append_right _ (List.mem_singleton_self _)) rfl
  have ow : o ∉ W := fun h => n6 o h o (List.mem_singleton_self _) rfl
  have fresh : ∀ x ∈ (kids ls o).map some, x ∉ dn ++ (W ++ [o]) := fun x hx hm => by
    obtain ⟨i, hi, rfl⟩ := List.mem_map.mp hx
    obtain ⟨l, hl, h1, h2⟩ := mem_kids.mp hi
    obtain ⟨l', hl', h3, h4⟩ := b.par i hm
    have : l' = l := nodup_inj nd l' hl' l hl (h3.trans h2.symm)
    rw [this, h1] at h4
    exact od h4
  have kn : ((kids ls o).map some).Nodup := List.Pairwise.map _ (fun a b h e => h (Option.some.inj e)) (kids_nd nd o)
  refine ⟨?_, ?_, fun x hx => ?_, fun i hi => ?_, fun x hx l hl e => ?_, ?_⟩
  · rw [List.cons_append, List.nodup_cons]
    refine ⟨fun h => ?_, ?_⟩
    · rcases List.mem_append.mp h with h | h
      · exact od h
      · rcases List.mem_append.mp h with h | h
        · exact ow h
        · exact fresh o h (List.mem_append_right _ (List.mem_append_right _ (List.mem_singleton_self _)))
    · refine List.nodup_append.mpr ⟨n1, List.nodup_append.mpr ⟨n4, kn, fun x hx y hy e => ?_⟩, fun x hx y hy e => ?_⟩
      · subst e
        exact fresh x hy (List.mem_append_right _ (List.mem_append_left _ hx))
      · subst e
        rcases List.mem_append.mp hy with hy | hy
        · exact n3 x hx x (List.mem_append_left _ hy) rfl
        · exact fresh x hy (List.mem_append_left _ hx)
  · exact (hmem none).mpr (.inl b.rt)
  · rcases (hmem x).mp hx with h | h
    · exact b.re x h
    · obtain ⟨i, hi, rfl⟩ := List.mem_map.mp h
      obtain ⟨l, hl, h1, rfl⟩ := mem_kids.mp hi
      refine .step hl ?_
      rw [h1]
      exact b.re o (List.mem_append_right _ (List.mem_append_right _ (List.mem_singleton_self _)))
  · rcases (hmem _).mp hi with h | h
    · obtain ⟨l, hl, h1, h2⟩ := b.par i h
      exact ⟨l, hl, h1, List.mem_cons_of_mem _ h2⟩
    · obtain ⟨j, hj, e⟩ := List.mem_map.mp h
      obtain ⟨l, hl, h1, h2⟩ := mem_kids.mp hj
      exact ⟨l, hl, h2.trans (Option.some.inj e), by rw [h1]; exact List.mem_cons_self⟩
  · rw [hmem]
    rcases List.mem_cons.mp hx with h | h
    · exact .inr (List.mem_map.mpr ⟨l.id, mem_kids.mpr ⟨l, hl, e.trans h, rfl⟩, rfl⟩)
    · exact .inl (b.kid x h l hl e)
  · have := b.cnt
    simp only [List.length_append, List.length_cons, List.length_map, List.length_nil] at this ⊢
    omega
theorem Bfs.fin {ls : List Line} (nd : (ls.map (·.id)).Nodup) {dn : List (Option Id)} {r : Int} (b : Bfs ls dn [] r) : r = (ls.length : Int) ↔ ∀ l ∈ ls, Reach ls (some l.id) := by
  have hc := b.cnt
  have hs := b.sub
  have hn := b.nd
  rw [List.append_nil] at hc hs hn
  have hle := b.le
  rw [List.append_nil] at hle
  constructor
  · intro h l hl
    refine Classical.byContradiction fun q => ?_
    have hx : some l.id ∉ dn := fun m => q (b.re _ (List.mem_append_left _ m))
    have h1 : some l.id ∈ allK ls := List.mem_cons_of_mem _ (List.mem_map.mpr ⟨l, hl, rfl⟩)
    have h2 := nodup_sub (u := (allK ls).erase (some l.id)) hn fun o ho => (List.mem_erase_of_ne fun e => hx (by rw [← e]; exact ho)).mpr (hs o ho)
    rw [List.length_erase_of_mem h1] at h2
    unfold allK at h2
    rw [List.length_cons, List.length_map] at h2
    omega
  · intro h
    have hd : ∀ o, Reach ls o → o ∈ dn := by
      intro o ho
      induction ho with
      | root =>
        have := b.rt
        rw [List.append_nil] at this
        exact this
      | step hl _ ih =>
        have := b.kid _ ih _ hl rfl
        rw [List.append_nil] at this
        exact this
    have hk : (allK ls).Nodup := by
      unfold allK
      rw [List.nodup_cons]
      refine ⟨fun m => ?_, ?_⟩
      · obtain ⟨l, _, e⟩ := List.mem_map.mp m
        cases e
      · have : (ls.map fun l => some l.id) = (ls.map (·.id)).map some := by rw [List.map_map]; rfl
        rw [this]
        exact List.Pairwise.map _ (fun a b h e => h (Option.some.inj e)) nd
    have h3 := nodup_sub hk fun o ho => by
      unfold allK at ho
      rcases List.mem_cons.mp ho with rfl | ho
      · exact hd _ .root
      · obtain ⟨l, hl, rfl⟩ := List.mem_map.mp ho
        exact hd _ (h l hl)
    unfold allK at h3
    rw [List.length_cons, List.length_map] at h3
    omega
inductive Wrong (ls : List Line) (k : Nat) : List Line → Prop where
  | path {l : Line} : ls[k]? = some l → Wrong ls k (ls.set k { l with path := [] })
  | far {l : Line} : ls[k]? = some l → Wrong ls k (ls.set k { l with ins := some (77, 7) })
  | self {l : Line} : ls[k]? = some l → Wrong ls k (ls.set k { l with ins := some l.id })
  | head {l : Line} : ls[k]? = some l → l.ct = none → Wrong ls k (ls.set k { l with hd := (78, 0) })
  | swap {l b : Line} : 0 < k → ls[k]? = some l → ls[k - 1]? = some b → Wrong ls k (ls.take (k - 1) ++ ([l, b] ++ ls.drop (k + 1)))
  | twice {l b : Line} : 0 < k → ls[k]? = some l → ls[k - 1]? = some b → Wrong ls k (ls.set k { l with hd := b.hd })
  | file {l b : Line} : 0 < k → ls[k]? = some l → ls[k - 1]? = some b → b.ct ≠ none → Wrong ls k (ls.set k { l with ins := some b.id })
theorem Wrong.len {ls w : List Line} {k : Nat} (h : Wrong ls k w) : w.length = ls.length := by
  cases h with
  | swap h1 h2 h3 =>
    have := (List.getElem?_eq_some_iff.mp h2).1
    rw [List.length_append, List.length_append, List.length_take, List.length_drop]
    show min (k - 1) ls.length + (2 + (ls.length - (k + 1))) = ls.length
    omega
  | _ => exact List.length_set
end Ln
namespace K44
open PySem PySem.Spec PyProof.Rows L2 Evl Lw Pw Ln Le
def top (i : Nat) : Stmt := PySem.Challenge.pw_foldkeep_k44_the_shelf_is_put_right.main.body.getD i (.Pass ⟨0, 0, 0, 0⟩)
abbrev s_find_line : Stmt := top 2
abbrev s_find_head : Stmt := top 3
abbrev s_settle : Stmt := top 4
abbrev s_stands_in : Stmt := top 5
abbrev s_move_line : Stmt := top 6
abbrev s_without_line : Stmt := top 7
abbrev s_without_heads : Stmt := top 8
abbrev s_with_new_line : Stmt := top 9
abbrev s_first_replaced : Stmt := top 10
abbrev s_after_text : Stmt := top 11
abbrev s_after_move : Stmt := top 12
abbrev s_lines_after : Stmt := top 13
abbrev s_fold_lines : Stmt := top 14
abbrev s_lines_of : Stmt := top 15
abbrev s_Placed___init : Stmt := inClass (top 21) 0
abbrev s_Shelved___init : Stmt := inClass (top 22) 0
abbrev s_placed_row : Stmt := top 23
abbrev s_shelved_row : Stmt := top 24
abbrev s_holds_placed : Stmt := top 25
abbrev s_lying_at : Stmt := top 27
abbrev s_put_right : Stmt := top 28
abbrev s_right_entry : Stmt := top 29
abbrev s_law_rows : Stmt := top 58
abbrev s_law_path : Stmt := top 59
abbrev s_law_pick : Stmt := top 60
abbrev s_law_place : Stmt := top 61
abbrev s_law_heads : Stmt := top 62
abbrev s_law_edit : Stmt := top 63
abbrev s_law_edits : Stmt := top 64
abbrev s_law_mark : Stmt := top 65
abbrev s_law_was : Stmt := top 66
abbrev s_law_ids : Stmt := top 68
abbrev s_law_purpose : Stmt := top 69
abbrev s_law_shelf : Stmt := top 70
abbrev s_law_lying : Stmt := top 73
abbrev s_law_expected : Stmt := top 74
abbrev s_law : Stmt := top 75
theorem sc_find_line : FnScope ["lines", "line_id", "line"] ["lines", "line_id"] (defScope s_find_line) := ⟨rfl, rfl, rfl, by decide +kernel, rfl, by decide +kernel, by decide +kernel⟩
theorem sc_find_head : FnScope ["lines", "head", "line"] ["lines", "head"] (defScope s_find_head) := ⟨rfl, rfl, rfl, by decide +kernel, rfl, by decide +kernel, by decide +kernel⟩
theorem sc_settle : FnScope ["lines", "place", "inside", "below", "seen", "folder"] ["lines", "place"] (defScope s_settle) := ⟨rfl, rfl, rfl, by decide +kernel, rfl, by decide +kernel, by decide +kernel⟩
theorem sc_stands_in : FnScope ["lines", "inside", "line_id"] ["lines", "inside", "line_id"] (defScope s_stands_in) := ⟨rfl, rfl, rfl, by decide +kernel, rfl, by decide +kernel, by decide +kernel⟩
theorem sc_move_line : FnScope ["lines", "head", "line_id", "place", "line", "inside", "below", "moved", "known"] ["lines", "head", "line_id", "place"] (defScope s_move_line) := ⟨rfl, rfl, rfl, by decide +kernel, rfl, by decide +kernel, by decide +kernel⟩
theorem sc_without_line : FnScope ["lines", "ended", "left", "known", "line_id", "head", "inside", "below", "content"] ["lines", "ended"] (defScope s_without_line) := ⟨rfl, rfl, rfl, by decide +kernel, rfl, by decide +kernel, by decide +kernel⟩
theorem sc_without_heads : FnScope ["lines", "heads", "head", "ended"] ["lines", "heads"] (defScope s_without_heads) := ⟨rfl, rfl, rfl, by decide +kernel, rfl, by decide +kernel, by decide +kernel⟩
theorem sc_with_new_line : FnScope ["lines", "edit", "_", "edit_id", "place", "content", "meant_id", "meant", "inside", "below"] ["lines", "edit"] (defScope s_with_new_line) := ⟨rfl, rfl, rfl, by decide +kernel, rfl, by decide +kernel, by decide +kernel⟩
theorem sc_first_replaced : FnScope ["lines", "replaces", "line"] ["lines", "replaces"] (defScope s_first_replaced) := ⟨rfl, rfl, rfl, by decide +kernel, rfl, by decide +kernel, by decide +kernel⟩
theorem sc_after_text : FnScope ["lines", "edit", "_", "edit_id", "content", "replaces", "continued", "line_id", "inside", "below", "row", "known", "head"] ["lines", "edit"] (defScope s_after_text) := ⟨rfl, rfl, rfl, by decide +kernel, rfl, by decide +kernel, by decide +kernel⟩
theorem sc_after_move : FnScope ["lines", "edit", "head", "line_id", "place"] ["lines", "edit"] (defScope s_after_move) := ⟨rfl, rfl, rfl, by decide +kernel, rfl, by decide +kernel, by decide +kernel⟩
theorem sc_lines_after : FnScope ["lines", "edit"] ["lines", "edit"] (defScope s_lines_after) := ⟨rfl, rfl, rfl, by decide +kernel, rfl, by decide +kernel, by decide +kernel⟩
theorem sc_fold_lines : FnScope ["lines", "edits", "edit"] ["lines", "edits"] (defScope s_fold_lines) := ⟨rfl, rfl, rfl, by decide +kernel, rfl, by decide +kernel, by decide +kernel⟩
theorem sc_lines_of : FnScope ["edits"] ["edits"] (defScope s_lines_of) := ⟨rfl, rfl, rfl, by decide +kernel, rfl, by decide +kernel, by decide +kernel⟩
theorem sc_Placed___init : FnScope ["self", "path", "names", "thing", "count", "cuts", "content", "ids", "line", "seen"] ["self", "path", "names", "thing", "count", "cuts", "content", "ids", "line", "seen"] (defScope s_Placed___init) := ⟨rfl, rfl, rfl, by decide +kernel, rfl, by decide +kernel, by decide +kernel⟩
theorem sc_Shelved___init : FnScope ["self", "place", "thing", "count", "cuts", "length", "purpose"] ["self", "place", "thing", "count", "cuts", "length", "purpose"] (defScope s_Shelved___init) := ⟨rfl, rfl, rfl, by decide +kernel, rfl, by decide +kernel, by decide +kernel⟩
theorem sc_placed_row : FnScope ["entry"] ["entry"] (defScope s_placed_row) := ⟨rfl, rfl, rfl, by decide +kernel, rfl, by decide +kernel, by decide +kernel⟩
theorem sc_shelved_row : FnScope ["entry", "purpose"] ["entry"] (defScope s_shelved_row) := ⟨rfl, rfl, rfl, by decide +kernel, rfl, by decide +kernel, by decide +kernel⟩
theorem sc_holds_placed : FnScope ["purpose"] ["purpose"] (defScope s_holds_placed) := ⟨rfl, rfl, rfl, by decide +kernel, rfl, by decide +kernel, by decide +kernel⟩
theorem sc_lying_at : FnScope ["lying", "place", "row"] ["lying", "place"] (defScope s_lying_at) := ⟨rfl, rfl, rfl, by decide +kernel, rfl, by decide +kernel, by decide +kernel⟩
theorem sc_put_right : FnScope ["shelf", "lying", "right", "entry", "row"] ["shelf", "lying"] (defScope s_put_right) := ⟨rfl, rfl, rfl, by decide +kernel, rfl, by decide +kernel, by decide +kernel⟩
theorem sc_right_entry : FnScope ["entry", "row", "_", "thing", "count", "cuts", "length", "purpose"] ["entry", "row"] (defScope s_right_entry) := ⟨rfl, rfl, rfl, by decide +kernel, rfl, by decide +kernel, by decide +kernel⟩
theorem sc_law_rows : FnScope ["script", "count", "rows", "mixed", "k", "cell"] ["script", "count"] (defScope s_law_rows) := ⟨rfl, rfl, rfl, by decide +kernel, rfl, by decide +kernel, by decide +kernel⟩
theorem sc_law_path : FnScope ["row", "most", "names", "j"] ["row", "most"] (defScope s_law_path) := ⟨rfl, rfl, rfl, by decide +kernel, rfl, by decide +kernel, by decide +kernel⟩
theorem sc_law_pick : FnScope ["row", "ids"] ["row", "ids"] (defScope s_law_pick) := ⟨rfl, rfl, rfl, by decide +kernel, rfl, by decide +kernel, by decide +kernel⟩
theorem sc_law_place : FnScope ["row", "ids"] ["row", "ids"] (defScope s_law_place) := ⟨rfl, rfl, rfl, by decide +kernel, rfl, by decide +kernel, by decide +kernel⟩
theorem sc_law_heads : FnScope ["row", "ids", "heads", "j", "head"] ["row", "ids"] (defScope s_law_heads) := ⟨rfl, rfl, rfl, by decide +kernel, rfl, by decide +kernel, by decide +kernel⟩
theorem sc_law_edit : FnScope ["row", "edit_id", "ids", "place", "kind", "size", "moved", "j", "head", "line"] ["row", "edit_id", "ids"] (defScope s_law_edit) := ⟨rfl, rfl, rfl, by decide +kernel, rfl, by decide +kernel, by decide +kernel⟩
theorem sc_law_edits : FnScope ["script", "count", "rows", "edits", "ids", "k", "edit_id"] ["script", "count"] (defScope s_law_edits) := ⟨rfl, rfl, rfl, by decide +kernel, rfl, by decide +kernel, by decide +kernel⟩
theorem sc_law_mark : FnScope ["row", "size"] ["row"] (defScope s_law_mark) := ⟨rfl, rfl, rfl, by decide +kernel, rfl, by decide +kernel, by decide +kernel⟩
theorem sc_law_was : FnScope ["row", "path", "content", "ids", "line"] ["row", "path", "content", "ids", "line"] (defScope s_law_was) := ⟨rfl, rfl, rfl, by decide +kernel, rfl, by decide +kernel, by decide +kernel⟩
theorem sc_law_ids : FnScope ["row", "heads", "ids", "j", "head"] ["row", "heads"] (defScope s_law_ids) := ⟨rfl, rfl, rfl, by decide +kernel, rfl, by decide +kernel, by decide +kernel⟩
theorem sc_law_purpose : FnScope ["row", "lines", "line", "heads", "kind", "mark", "head", "was"] ["row", "lines"] (defScope s_law_purpose) := ⟨rfl, rfl, rfl, by decide +kernel, rfl, by decide +kernel, by decide +kernel⟩
theorem sc_law_shelf : FnScope ["rows", "lines", "shelf", "k", "row", "thing", "purpose", "length"] ["rows", "lines"] (defScope s_law_shelf) := ⟨rfl, rfl, rfl, by decide +kernel, rfl, by decide +kernel, by decide +kernel⟩
theorem sc_law_lying : FnScope ["rows", "shelf", "lying", "k", "entry", "row", "kind"] ["rows", "shelf"] (defScope s_law_lying) := ⟨rfl, rfl, rfl, by decide +kernel, rfl, by decide +kernel, by decide +kernel⟩
theorem sc_law_expected : FnScope ["row", "lying", "place", "thing", "count", "_law_cuts", "_law_length", "purpose", "lies", "there"] ["row", "lying"] (defScope s_law_expected) := ⟨rfl, rfl, rfl, by decide +kernel, rfl, by decide +kernel, by decide +kernel⟩
theorem sc_law : FnScope ["script", "rows", "lines", "shelf", "before", "lying", "k", "there", "found", "expected", "actual", "entry", "row", "lies"] ["script"] (defScope s_law) := ⟨rfl, rfl, rfl, by decide +kernel, rfl, by decide +kernel, by decide +kernel⟩
structure Txt (K : PySem.W.Frag) (cl : Cl) (mg : Str → Option Value) : Prop where
  cl_Placed : Cls K (cl 4)
  mg_Placed : mg "Placed" = some (.ref (cl 4))
  na_Placed_path : NoAttr K (cl 4) "path"
  na_Placed_names : NoAttr K (cl 4) "names"
  na_Placed_thing : NoAttr K (cl 4) "thing"
  na_Placed_count : NoAttr K (cl 4) "count"
  na_Placed_cuts : NoAttr K (cl 4) "cuts"
  na_Placed_content : NoAttr K (cl 4) "content"
  na_Placed_ids : NoAttr K (cl 4) "ids"
  na_Placed_line : NoAttr K (cl 4) "line"
  na_Placed_seen : NoAttr K (cl 4) "seen"
  cl_Shelved : Cls K (cl 5)
  mg_Shelved : mg "Shelved" = some (.ref (cl 5))
  na_Shelved_place : NoAttr K (cl 5) "place"
  na_Shelved_thing : NoAttr K (cl 5) "thing"
  na_Shelved_count : NoAttr K (cl 5) "count"
  na_Shelved_cuts : NoAttr K (cl 5) "cuts"
  na_Shelved_length : NoAttr K (cl 5) "length"
  na_Shelved_purpose : NoAttr K (cl 5) "purpose"
  n_int : mg "int" = none
  n_isinstance : mg "isinstance" = none
  n_len : mg "len" = none
  n_list : mg "list" = none
  n_min : mg "min" = none
  n_range : mg "range" = none
  n_tuple : mg "tuple" = none
theorem Txt.hc_content {K : PySem.W.Frag} {cl : Cl} {mg : Str → Option Value} (T : Txt K cl mg) : ∀ c ∈ [4], Cls K (cl c) ∧ NoAttr K (cl c) "content" := by
  intro c hc
  simp only [List.mem_cons, List.mem_nil_iff, or_false] at hc
  subst hc
  exact ⟨T.cl_Placed, T.na_Placed_content⟩
theorem Txt.hc_count {K : PySem.W.Frag} {cl : Cl} {mg : Str → Option Value} (T : Txt K cl mg) : ∀ c ∈ [4, 5], Cls K (cl c) ∧ NoAttr K (cl c) "count" := by
  intro c hc
  simp only [List.mem_cons, List.mem_nil_iff, or_false] at hc
  rcases hc with rfl | rfl
  · exact ⟨T.cl_Placed, T.na_Placed_count⟩
  · exact ⟨T.cl_Shelved, T.na_Shelved_count⟩
theorem Txt.hc_cuts {K : PySem.W.Frag} {cl : Cl} {mg : Str → Option Value} (T : Txt K cl mg) : ∀ c ∈ [4, 5], Cls K (cl c) ∧ NoAttr K (cl c) "cuts" := by
  intro c hc
  simp only [List.mem_cons, List.mem_nil_iff, or_false] at hc
  rcases hc with rfl | rfl
  · exact ⟨T.cl_Placed, T.na_Placed_cuts⟩
  · exact ⟨T.cl_Shelved, T.na_Shelved_cuts⟩
theorem Txt.hc_ids {K : PySem.W.Frag} {cl : Cl} {mg : Str → Option Value} (T : Txt K cl mg) : ∀ c ∈ [4], Cls K (cl c) ∧ NoAttr K (cl c) "ids" := by
  intro c hc
  simp only [List.mem_cons, List.mem_nil_iff, or_false] at hc
  subst hc
  exact ⟨T.cl_Placed, T.na_Placed_ids⟩
theorem Txt.hc_length {K : PySem.W.Frag} {cl : Cl} {mg : Str → Option Value} (T : Txt K cl mg) : ∀ c ∈ [5], Cls K (cl c) ∧ NoAttr K (cl c) "length" := by
  intro c hc
  simp only [List.mem_cons, List.mem_nil_iff, or_false] at hc
  subst hc
  exact ⟨T.cl_Shelved, T.na_Shelved_length⟩
theorem Txt.hc_line {K : PySem.W.Frag} {cl : Cl} {mg : Str → Option Value} (T : Txt K cl mg) : ∀ c ∈ [4], Cls K (cl c) ∧ NoAttr K (cl c) "line" := by
  intro c hc
  simp only [List.mem_cons, List.mem_nil_iff, or_false] at hc
  subst hc
  exact ⟨T.cl_Placed, T.na_Placed_line⟩
theorem Txt.hc_names {K : PySem.W.Frag} {cl : Cl} {mg : Str → Option Value} (T : Txt K cl mg) : ∀ c ∈ [4], Cls K (cl c) ∧ NoAttr K (cl c) "names" := by
  intro c hc
  simp only [List.mem_cons, List.mem_nil_iff, or_false] at hc
  subst hc
  exact ⟨T.cl_Placed, T.na_Placed_names⟩
theorem Txt.hc_path {K : PySem.W.Frag} {cl : Cl} {mg : Str → Option Value} (T : Txt K cl mg) : ∀ c ∈ [4], Cls K (cl c) ∧ NoAttr K (cl c) "path" := by
  intro c hc
  simp only [List.mem_cons, List.mem_nil_iff, or_false] at hc
  subst hc
  exact ⟨T.cl_Placed, T.na_Placed_path⟩
theorem Txt.hc_place {K : PySem.W.Frag} {cl : Cl} {mg : Str → Option Value} (T : Txt K cl mg) : ∀ c ∈ [5], Cls K (cl c) ∧ NoAttr K (cl c) "place" := by
  intro c hc
  simp only [List.mem_cons, List.mem_nil_iff, or_false] at hc
  subst hc
  exact ⟨T.cl_Shelved, T.na_Shelved_place⟩
theorem Txt.hc_purpose {K : PySem.W.Frag} {cl : Cl} {mg : Str → Option Value} (T : Txt K cl mg) : ∀ c ∈ [5], Cls K (cl c) ∧ NoAttr K (cl c) "purpose" := by
  intro c hc
  simp only [List.mem_cons, List.mem_nil_iff, or_false] at hc
  subst hc
  exact ⟨T.cl_Shelved, T.na_Shelved_purpose⟩
theorem Txt.hc_seen {K : PySem.W.Frag} {cl : Cl} {mg : Str → Option Value} (T : Txt K cl mg) : ∀ c ∈ [4], Cls K (cl c) ∧ NoAttr K (cl c) "seen" := by
  intro c hc
  simp only [List.mem_cons, List.mem_nil_iff, or_false] at hc
  subst hc
  exact ⟨T.cl_Placed, T.na_Placed_seen⟩
theorem Txt.hc_thing {K : PySem.W.Frag} {cl : Cl} {mg : Str → Option Value} (T : Txt K cl mg) : ∀ c ∈ [4, 5], Cls K (cl c) ∧ NoAttr K (cl c) "thing" := by
  intro c hc
  simp only [List.mem_cons, List.mem_nil_iff, or_false] at hc
  rcases hc with rfl | rfl
  · exact ⟨T.cl_Placed, T.na_Placed_thing⟩
  · exact ⟨T.cl_Shelved, T.na_Shelved_thing⟩
theorem at_new' {S : Sto} {o : SO} : (S ++ [o])[S.length]? = some o := by
  rw [List.getElem?_append_right (Nat.le_refl _), Nat.sub_self]
  rfl
section
variable {S : Sto} {l a b : List Nat} {n : Nat} {k : D → Prop}
end
def ps_Placed___init : PSx :=
    (pSeq (pSetF "path" [4] (pVar 0) (pVar 1))
    (pSeq (pSetF "names" [4] (pVar 0) (pVar 2))
    (pSeq (pSetF "thing" [4, 5] (pVar 0) (pVar 3))
    (pSeq (pSetF "count" [4, 5] (pVar 0) (pVar 4))
    (pSeq (pSetF "cuts" [4, 5] (pVar 0) (pVar 5))
    (pSeq (pSetF "content" [4] (pVar 0) (pVar 6))
    (pSeq (pSetF "ids" [4] (pVar 0) (pVar 7))
    (pSeq (pSetF "line" [4] (pVar 0) (pVar 8))
    ((pSetF "seen" [4] (pVar 0) (pVar 9)))))))))))
theorem start_Placed___init : ∀ a0 a1 a2 a3 a4 a5 a6 a7 a8 a9 : D, startE 10 [a0, a1, a2, a3, a4, a5, a6, a7, a8, a9] = [some a0, some a1, some a2, some a3, some a4, some a5, some a6, some a7, some a8, some a9] := fun _ _ _ _ _ _ _ _ _ _ => rfl
def ePc (w : Plc) : D := .obj 4 plcKs (plcVs w)
def F_Placed___init : SFn := fun ds S k => ∃ (n : Nat) (e : Plc), ds = .ref n :: plcVs e ∧ S[n]? = some (.obj 4 [] []) ∧ k .non (S.set n (.obj 4 plcKs (plcVs e)))
theorem len_Placed___init : ∀ ds S k, F_Placed___init ds S k → ds.length = 10 := by
  rintro _ _ _ ⟨_, _, rfl, _⟩
  rfl
theorem body_Placed___init : ∀ ds S k, F_Placed___init ds S k → ps_Placed___init { nx := fun _ S' => k .non S', rt := k } (startE 10 ds) S := by
  rintro _ S k ⟨n, e, rfl, hs, hk⟩
  unfold plcVs
  rw [start_Placed___init]
  unfold ps_Placed___init
  refine setF_new hs rfl rfl (by decide) rfl (by decide +kernel) (by decide) fun h1 => ?_
  refine setF_new h1 rfl rfl (by decide) rfl (by decide +kernel) (by decide) fun h2 => ?_
  refine setF_new h2 rfl rfl (by decide) rfl (by decide +kernel) (by decide) fun h3 => ?_
  refine setF_new h3 rfl rfl (by decide) rfl (by decide +kernel) (by decide) fun h4 => ?_
  refine setF_new h4 rfl rfl (by decide) rfl (by decide +kernel) (by decide) fun h5 => ?_
  refine setF_new h5 rfl rfl (by decide) rfl (by decide +kernel) (by decide) fun h6 => ?_
  refine setF_new h6 rfl rfl (by decide) rfl (by decide +kernel) (by decide) fun h7 => ?_
  refine setF_new h7 rfl rfl (by decide) rfl (by decide +kernel) (by decide) fun h8 => ?_
  refine setF_last h8 rfl rfl (by decide) rfl (by decide +kernel) (by decide) ?_
  rw [List.set_set, List.set_set, List.set_set, List.set_set, List.set_set, List.set_set, List.set_set, List.set_set]
  exact hk
theorem mk_pc {S : Sto} {e : Plc} {k : D → Sto → Prop} (h : k (ePc e) S) : makek 4 F_Placed___init S (plcVs e) k := by
  refine ⟨S.length, e, rfl, at_new', rfl, .inl ⟨plcKs, plcVs e, ?_, nr_plcVs e, h⟩⟩
  rw [List.set_append_right _ _ (Nat.le_refl _), Nat.sub_self]
  rfl
theorem nr_pc (w : Plc) : (ePc w).noRef = true := nr_plcVs w
theorem frz_pc (S : Sto) (w : Plc) : (ePc w).frz S = ePc w := by
  have h1 : ∀ d : D, d.pure = true → d.frz S = d := frz_pure S
  show D.obj 4 plcKs [(ePath w.path).frz S, (ePath w.names).frz S, (D.int w.thing).frz S, (D.int w.count).frz S, (D.int w.cuts).frz S, (eOp eCt w.ct).frz S, (eIds w.ids).frz S, (eOp Le.eId w.line).frz S, (D.bl w.seen).frz S] = _
  rw [h1 _ (pu_path _), h1 _ (pu_path _), h1 (.int w.thing) rfl, h1 (.int w.count) rfl, h1 (.int w.cuts) rfl, h1 _ (pu_oct _), h1 _ (pu_idst _), h1 _ (pu_oid _), h1 (.bl w.seen) rfl]
  rfl
theorem fl_Placed_path {S : Sto} {w : Plc} : fldOf [4] "path" S (ePc w) = some (ePath w.path) := fo (i := 0) (by decide) (by decide +kernel) rfl
theorem fl_Placed_names {S : Sto} {w : Plc} : fldOf [4] "names" S (ePc w) = some (ePath w.names) := fo (i := 1) (by decide) (by decide +kernel) rfl
theorem fl_Placed_thing {S : Sto} {w : Plc} : fldOf [4, 5] "thing" S (ePc w) = some (.int w.thing) := fo (i := 2) (by decide) (by decide +kernel) rfl
theorem fl_Placed_count {S : Sto} {w : Plc} : fldOf [4, 5] "count" S (ePc w) = some (.int w.count) := fo (i := 3) (by decide) (by decide +kernel) rfl
theorem fl_Placed_cuts {S : Sto} {w : Plc} : fldOf [4, 5] "cuts" S (ePc w) = some (.int w.cuts) := fo (i := 4) (by decide) (by decide +kernel) rfl
theorem fl_Placed_content {S : Sto} {w : Plc} : fldOf [4] "content" S (ePc w) = some (eOp eCt w.ct) := fo (i := 5) (by decide) (by decide +kernel) rfl
theorem fl_Placed_ids {S : Sto} {w : Plc} : fldOf [4] "ids" S (ePc w) = some (eIds w.ids) := fo (i := 6) (by decide) (by decide +kernel) rfl
theorem fl_Placed_line {S : Sto} {w : Plc} : fldOf [4] "line" S (ePc w) = some (eOp Le.eId w.line) := fo (i := 7) (by decide) (by decide +kernel) rfl
theorem fl_Placed_seen {S : Sto} {w : Plc} : fldOf [4] "seen" S (ePc w) = some (.bl w.seen) := fo (i := 8) (by decide) (by decide +kernel) rfl
inductive Pu where
  | com (h : Ln.Id) (m : Ct) | kept (w : Plc) | found (w : Plc) | back (w : Plc) (p : List Str) (n : Int)
deriving DecidableEq
def ePu : Pu → D
  | .com h m => .tup [.str (Str.ofString "coming"), Le.eId h, eCt m]
  | .kept w => .tup [.str (Str.ofString "kept"), ePc w]
  | .found w => .tup [.str (Str.ofString "found"), ePc w]
  | .back w p n => .tup [.str (Str.ofString "back"), ePc w, ePath p, .int n]
def Pu.isCom : Pu → Bool
  | .com _ _ => true
  | _ => false
def Pu.isKept : Pu → Bool
  | .kept _ => true
  | _ => false
structure Shv where
  place : Int
  thing : Int
  count : Int
  cuts : Int
  length : Int
  pu : Pu
deriving DecidableEq
def shKs : List Str := ["place", "thing", "count", "cuts", "length", "purpose"]
def shVs (s : Shv) : List D := [.int s.place, .int s.thing, .int s.count, .int s.cuts, .int s.length, ePu s.pu]
def eShv (s : Shv) : D := .obj 5 shKs (shVs s)
theorem nr_pu (p : Pu) : (ePu p).noRef = true := by
  cases p <;> simp only [ePu, D.noRef, noRefs, nr_pc, nr_id, nr_ct, nr_path, Bool.and_self]
theorem nr_shv (s : Shv) : (eShv s).noRef = true := by
  show noRefs (shVs s) = true
  simp only [shVs, D.noRef, noRefs, nr_pu, Bool.and_self]
theorem fl_Shelved_place {S : Sto} {s : Shv} : fldOf [5] "place" S (eShv s) = some (.int s.place) := fo (i := 0) (by decide) (by decide +kernel) rfl
theorem fl_Shelved_thing {S : Sto} {s : Shv} : fldOf [4, 5] "thing" S (eShv s) = some (.int s.thing) := fo (i := 1) (by decide) (by decide +kernel) rfl
theorem fl_Shelved_count {S : Sto} {s : Shv} : fldOf [4, 5] "count" S (eShv s) = some (.int s.count) := fo (i := 2) (by decide) (by decide +kernel) rfl
theorem fl_Shelved_cuts {S : Sto} {s : Shv} : fldOf [4, 5] "cuts" S (eShv s) = some (.int s.cuts) := fo (i := 3) (by decide) (by decide +kernel) rfl
theorem fl_Shelved_length {S : Sto} {s : Shv} : fldOf [5] "length" S (eShv s) = some (.int s.length) := fo (i := 4) (by decide) (by decide +kernel) rfl
theorem fl_Shelved_purpose {S : Sto} {s : Shv} : fldOf [5] "purpose" S (eShv s) = some (ePu s.pu) := fo (i := 5) (by decide) (by decide +kernel) rfl
theorem ok_Placed___init {P : Program} {w : World} {K : PySem.W.Frag} {cl : Cl} {mg : Str → Option Value} {base : Heap} {f : Addr} {fd : FuncData} (F : Fun K "__init__" "Placed.__init__" s_Placed___init f fd) (T : Txt K cl mg)  : FnOk P w K mg base CX0 1 f fd ["self", "path", "names", "thing", "count", "cuts", "content", "ids", "line", "seen"] (spS K cl F_Placed___init) := by
  refine F.ok sc_Placed___init (spS_len (n := 10) len_Placed___init) (fun cdv A outer s H vs Q E hr h => ?_)
  refine ⟨_,
    (pss_cons (ps_fld (pv 0) (pv 1) rfl)
    (pss_cons (ps_fld (pv 0) (pv 2) rfl)
    (pss_cons (ps_fld (pv 0) (pv 3) rfl)
    (pss_cons (ps_fld (pv 0) (pv 4) rfl)
    (pss_cons (ps_fld (pv 0) (pv 5) rfl)
    (pss_cons (ps_fld (pv 0) (pv 6) rfl)
    (pss_cons (ps_fld (pv 0) (pv 7) rfl)
    (pss_cons (ps_fld (pv 0) (pv 8) rfl)
    (pss_one (ps_fld (pv 0) (pv 9) rfl)))))))))), ?_⟩
  exact fnS_ok (N := ["self", "path", "names", "thing", "count", "cuts", "content", "ids", "line", "seen"]) (show SmS K cl _ ps_Placed___init from
    (sm_seq (sm_setF T.hc_path sm_var sm_var)
    (sm_seq (sm_setF T.hc_names sm_var sm_var)
    (sm_seq (sm_setF T.hc_thing sm_var sm_var)
    (sm_seq (sm_setF T.hc_count sm_var sm_var)
    (sm_seq (sm_setF T.hc_cuts sm_var sm_var)
    (sm_seq (sm_setF T.hc_content sm_var sm_var)
    (sm_seq (sm_setF T.hc_ids sm_var sm_var)
    (sm_seq (sm_setF T.hc_line sm_var sm_var)
    ((sm_setF T.hc_seen sm_var sm_var))))))))))) body_Placed___init h
def ps_Shelved___init : PSx :=
    (pSeq (pSetF "place" [5] (pVar 0) (pVar 1))
    (pSeq (pSetF "thing" [4, 5] (pVar 0) (pVar 2))
    (pSeq (pSetF "count" [4, 5] (pVar 0) (pVar 3))
    (pSeq (pSetF "cuts" [4, 5] (pVar 0) (pVar 4))
    (pSeq (pSetF "length" [5] (pVar 0) (pVar 5))
    ((pSetF "purpose" [5] (pVar 0) (pVar 6))))))))
theorem start_Shelved___init : ∀ a0 a1 a2 a3 a4 a5 a6 : D, startE 7 [a0, a1, a2, a3, a4, a5, a6] = [some a0, some a1, some a2, some a3, some a4, some a5, some a6] := fun _ _ _ _ _ _ _ => rfl
def F_Shelved___init : SFn := fun ds S k => ∃ (n : Nat) (e : Shv), ds = .ref n :: shVs e ∧ S[n]? = some (.obj 5 [] []) ∧ k .non (S.set n (.obj 5 shKs (shVs e)))
theorem len_Shelved___init : ∀ ds S k, F_Shelved___init ds S k → ds.length = 7 := by
  rintro _ _ _ ⟨_, _, rfl, _⟩
  rfl
theorem body_Shelved___init : ∀ ds S k, F_Shelved___init ds S k → ps_Shelved___init { nx := fun _ S' => k .non S', rt := k } (startE 7 ds) S := by
  rintro _ S k ⟨n, e, rfl, hs, hk⟩
  unfold shVs
  rw [start_Shelved___init]
  unfold ps_Shelved___init
  refine setF_new hs rfl rfl (by decide) rfl (by decide +kernel) (by decide) fun h1 => ?_
  refine setF_new h1 rfl rfl (by decide) rfl (by decide +kernel) (by decide) fun h2 => ?_
  refine setF_new h2 rfl rfl (by decide) rfl (by decide +kernel) (by decide) fun h3 => ?_
  refine setF_new h3 rfl rfl (by decide) rfl (by decide +kernel) (by decide) fun h4 => ?_
  refine setF_new h4 rfl rfl (by decide) rfl (by decide +kernel) (by decide) fun h5 => ?_
  refine setF_last h5 rfl rfl (by decide) rfl (by decide +kernel) (by decide) ?_
  rw [List.set_set, List.set_set, List.set_set, List.set_set, List.set_set]
  exact hk
theorem mk_shv {S : Sto} {e : Shv} {k : D → Sto → Prop} (h : k (eShv e) S) : makek 5 F_Shelved___init S (shVs e) k := by
  refine ⟨S.length, e, rfl, at_new', rfl, .inl ⟨shKs, shVs e, ?_, nr_shv e, h⟩⟩
  rw [List.set_append_right _ _ (Nat.le_refl _), Nat.sub_self]
  rfl
theorem ok_Shelved___init {P : Program} {w : World} {K : PySem.W.Frag} {cl : Cl} {mg : Str → Option Value} {base : Heap} {f : Addr} {fd : FuncData} (F : Fun K "__init__" "Shelved.__init__" s_Shelved___init f fd) (T : Txt K cl mg)  : FnOk P w K mg base CX0 1 f fd ["self", "place", "thing", "count", "cuts", "length", "purpose"] (spS K cl F_Shelved___init) := by
  refine F.ok sc_Shelved___init (spS_len (n := 7) len_Shelved___init) (fun cdv A outer s H vs Q E hr h => ?_)
  refine ⟨_,
    (pss_cons (ps_fld (pv 0) (pv 1) rfl)
    (pss_cons (ps_fld (pv 0) (pv 2) rfl)
    (pss_cons (ps_fld (pv 0) (pv 3) rfl)
    (pss_cons (ps_fld (pv 0) (pv 4) rfl)
    (pss_cons (ps_fld (pv 0) (pv 5) rfl)
    (pss_one (ps_fld (pv 0) (pv 6) rfl))))))), ?_⟩
  exact fnS_ok (N := ["self", "place", "thing", "count", "cuts", "length", "purpose"]) (show SmS K cl _ ps_Shelved___init from
    (sm_seq (sm_setF T.hc_place sm_var sm_var)
    (sm_seq (sm_setF T.hc_thing sm_var sm_var)
    (sm_seq (sm_setF T.hc_count sm_var sm_var)
    (sm_seq (sm_setF T.hc_cuts sm_var sm_var)
    (sm_seq (sm_setF T.hc_length sm_var sm_var)
    ((sm_setF T.hc_purpose sm_var sm_var)))))))) body_Shelved___init h
theorem fl_yes {a : Line} {ls : List Line} {o : Option Ln.Id} (h : some a.id = o) : findLine (a :: ls) o = some a := by
  unfold findLine
  rw [List.find?_cons_of_pos (by simp [h])]
theorem fl_no {a : Line} {ls : List Line} {o : Option Ln.Id} (h : ¬ some a.id = o) : findLine (a :: ls) o = findLine ls o := by
  unfold findLine
  rw [List.find?_cons_of_neg (by simp [h])]
theorem fh_yes {a : Line} {ls : List Line} {o : Option Ln.Id} (h : some a.hd = o) : findHead (a :: ls) o = some a := by
  unfold findHead
  rw [List.find?_cons_of_pos (by simp [h])]
theorem fh_no {a : Line} {ls : List Line} {o : Option Ln.Id} (h : ¬ some a.hd = o) : findHead (a :: ls) o = findHead ls o := by
  unfold findHead
  rw [List.find?_cons_of_neg (by simp [h])]
def pl_find_line_1 : PSx :=
      ((pIfS (pB (pOp eqk (pOp ixk (pVar 2) (pC (.int 0))) (pVar 1)))
        ((pRet (pVar 2)))
        pNext))
theorem pl_find_line_1_d (P : PEnds) (env : Pw.Env) (S : Sto) : pl_find_line_1 P env S = (
      ((pIfS (pB (pOp eqk (pOp ixk (pVar 2) (pC (.int 0))) (pVar 1)))
        ((pRet (pVar 2)))
        pNext))) P env S := rfl
def ps_find_line : PSx :=
    (pSeq (pIfS (pB (pOp isk (pVar 1) (pC .non)))
      ((pRet (pC .non)))
      pNext)
    (pSeq (pFor (pIt (pVar 0)) (pgName 2) pl_find_line_1)
    ((pRet (pC .non)))))
theorem start_find_line : ∀ a0 a1 : D, startE 3 [a0, a1] = [some a0, some a1, none] := fun _ _ => rfl
theorem fl_none (ls : List Line) : findLine ls none = none := by
  unfold findLine
  rw [List.find?_eq_none]
  intro x _
  simp
def F_find_line : PFn := fun ds k => ∃ ls o, ds = [eLs ls, eOp eId o] ∧ k (eOp eLn (findLine ls o))
theorem len_find_line : ∀ ds k, F_find_line ds k → ds.length = 2 := by
  rintro _ _ ⟨_, _, rfl, _⟩
  rfl
theorem body_find_line : ∀ ds k, F_find_line ds k → ps_find_line { nx := fun _ _ => k .non, rt := fun d S => (d.frz S).noRef = true ∧ k (d.frz S) } (startE 3 ds) [] := by
  rintro _ k ⟨ls, o, rfl, hk⟩
  rw [start_find_line]
  unfold ps_find_line
  cases o with
  | none =>
    rw [fl_none] at hk
    simp only [pForD, pInsL, pExtA, pSeq, pAsg, pVar, pC, pOp, pNil, pCons, pTup, pLst, pLstM, pNot, pAndV, pOrV, pIf, pB, pAnd, pOr, pNotT, pNoPart, pPart, pCB, pUnN, pSl, pNext, pBreak, pCont, pRet, pRetN, pDrop, pIfS, pgName, pgNil, pgCons, pgTup_t, pAug, pApp, pYes, isk_non, nsk_non, isN_non, isN_bl, isN_int, isN_str, isN_tup, isN_lst, isN_ref, isN_obj, pTru, pFld, pStar, pMake, pSetF, pIt, pRng1, pRng2, forG, List.map_cons, List.map_nil, List.getElem?_cons_zero, List.getElem?_cons_succ, List.set_cons_zero, List.set_cons_succ, Option.some.injEq, exists_eq_left, exists_eq_left', true_and, and_true, wipeE, D.bl.injEq, D.int.injEq, D.str.injEq, D.tup.injEq, D.lst.injEq, Bool.not_true, decide_eq_true_eq, if_true, if_false, reduceIte, Bool.false_eq_true, Option.isNone_none, Option.isNone_some, Bool.not_false, List.length_nil, List.length_cons, List.nil_append, List.cons_append, D.ref.injEq, SO.lst.injEq, pCall, exists_const, and_self, Nat.zero_add, Nat.zero_le, Nat.reduceLeDiff, Nat.reduceAdd, eq_self, o_add, o_sub, o_mul, o_div, o_mod, o_cmp, o_int, o_lenl, o_lent, o_lens, o_tupl, o_tupt, o_min, o_max, q_int, ixk_tup, ixk_lst, ixk_scr, at0, at1, at2, at3, at4, at5, List.length_map, ln0, ln1, ln2, ln3, ln4, lnS0, lnS2, lnS4, q_id, q_ido, q_oi, q_oid, q_path, q_ln, q_ls, n_id, n_path, n_ln, n_ls, non_oid, non_oln, non_oct, non_id, non_ln, non_ct, non_path, un_ln, un_pl, in_ids, ad_path, eOp_s, eOp_n, lstk_ls, st_ls, fl_Placed_path, fl_Placed_names, fl_Placed_thing, fl_Placed_count, fl_Placed_cuts, fl_Placed_content, fl_Placed_ids, fl_Placed_line, fl_Placed_seen, fl_Shelved_place, fl_Shelved_thing, fl_Shelved_count, fl_Shelved_cuts, fl_Shelved_length, fl_Shelved_purpose]
    exact rt_pure rfl hk
  | some o =>
    simp only [pForD, pInsL, pExtA, pSeq, pAsg, pVar, pC, pOp, pNil, pCons, pTup, pLst, pLstM, pNot, pAndV, pOrV, pIf, pB, pAnd, pOr, pNotT, pNoPart, pPart, pCB, pUnN, pSl, pNext, pBreak, pCont, pRet, pRetN, pDrop, pIfS, pgName, pgNil, pgCons, pgTup_t, pAug, pApp, pYes, isk_non, nsk_non, isN_non, isN_bl, isN_int, isN_str, isN_tup, isN_lst, isN_ref, isN_obj, pTru, pFld, pStar, pMake, pSetF, pIt, pRng1, pRng2, forG, List.map_cons, List.map_nil, List.getElem?_cons_zero, List.getElem?_cons_succ, List.set_cons_zero, List.set_cons_succ, Option.some.injEq, exists_eq_left, exists_eq_left', true_and, and_true, wipeE, D.bl.injEq, D.int.injEq, D.str.injEq, D.tup.injEq, D.lst.injEq, Bool.not_true, decide_eq_true_eq, if_true, if_false, reduceIte, Bool.false_eq_true, Option.isNone_none, Option.isNone_some, Bool.not_false, List.length_nil, List.length_cons, List.nil_append, List.cons_append, D.ref.injEq, SO.lst.injEq, pCall, exists_const, and_self, Nat.zero_add, Nat.zero_le, Nat.reduceLeDiff, Nat.reduceAdd, eq_self, o_add, o_sub, o_mul, o_div, o_mod, o_cmp, o_int, o_lenl, o_lent, o_lens, o_tupl, o_tupt, o_min, o_max, q_int, ixk_tup, ixk_lst, ixk_scr, at0, at1, at2, at3, at4, at5, List.length_map, ln0, ln1, ln2, ln3, ln4, lnS0, lnS2, lnS4, q_id, q_ido, q_oi, q_oid, q_path, q_ln, q_ls, n_id, n_path, n_ln, n_ls, non_oid, non_oln, non_oct, non_id, non_ln, non_ct, non_path, un_ln, un_pl, in_ids, ad_path, eOp_s, eOp_n, lstk_ls, st_ls, fl_Placed_path, fl_Placed_names, fl_Placed_thing, fl_Placed_count, fl_Placed_cuts, fl_Placed_content, fl_Placed_ids, fl_Placed_line, fl_Placed_seen, fl_Shelved_place, fl_Shelved_thing, fl_Shelved_count, fl_Shelved_cuts, fl_Shelved_length, fl_Shelved_purpose]
    refine for_go (src := eLs ls) (ds := ls.map eLn) (fun kk h => ⟨_, rfl, _, rfl, h⟩) (fun _ => rfl) ?_
    generalize eLs ls = l0
    generalize (none : Option D) = x
    induction ls generalizing x with
    | nil =>
      simp only [pForD, pInsL, pExtA, pSeq, pAsg, pVar, pC, pOp, pNil, pCons, pTup, pLst, pLstM, pNot, pAndV, pOrV, pIf, pB, pAnd, pOr, pNotT, pNoPart, pPart, pCB, pUnN, pSl, pNext, pBreak, pCont, pRet, pRetN, pDrop, pIfS, pgName, pgNil, pgCons, pgTup_t, pAug, pApp, pYes, isk_non, nsk_non, isN_non, isN_bl, isN_int, isN_str, isN_tup, isN_lst, isN_ref, isN_obj, pTru, pFld, pStar, pMake, pSetF, pIt, pRng1, pRng2, forG, List.map_cons, List.map_nil, List.getElem?_cons_zero, List.getElem?_cons_succ, List.set_cons_zero, List.set_cons_succ, Option.some.injEq, exists_eq_left, exists_eq_left', true_and, and_true, wipeE, D.bl.injEq, D.int.injEq, D.str.injEq, D.tup.injEq, D.lst.injEq, Bool.not_true, decide_eq_true_eq, if_true, if_false, reduceIte, Bool.false_eq_true, Option.isNone_none, Option.isNone_some, Bool.not_false, List.length_nil, List.length_cons, List.nil_append, List.cons_append, D.ref.injEq, SO.lst.injEq, pCall, exists_const, and_self, Nat.zero_add, Nat.zero_le, Nat.reduceLeDiff, Nat.reduceAdd, eq_self, o_add, o_sub, o_mul, o_div, o_mod, o_cmp, o_int, o_lenl, o_lent, o_lens, o_tupl, o_tupt, o_min, o_max, q_int, ixk_tup, ixk_lst, ixk_scr, at0, at1, at2, at3, at4, at5, List.length_map, ln0, ln1, ln2, ln3, ln4, lnS0, lnS2, lnS4, q_id, q_ido, q_oi, q_oid, q_path, q_ln, q_ls, n_id, n_path, n_ln, n_ls, non_oid, non_oln, non_oct, non_id, non_ln, non_ct, non_path, un_ln, un_pl, in_ids, ad_path, eOp_s, eOp_n, lstk_ls, st_ls, fl_Placed_path, fl_Placed_names, fl_Placed_thing, fl_Placed_count, fl_Placed_cuts, fl_Placed_content, fl_Placed_ids, fl_Placed_line, fl_Placed_seen, fl_Shelved_place, fl_Shelved_thing, fl_Shelved_count, fl_Shelved_cuts, fl_Shelved_length, fl_Shelved_purpose]
      exact rt_pure rfl hk
    | cons a ls ih =>
      simp only [pForD, pInsL, pExtA, pSeq, pAsg, pVar, pC, pOp, pNil, pCons, pTup, pLst, pLstM, pNot, pAndV, pOrV, pIf, pB, pAnd, pOr, pNotT, pNoPart, pPart, pCB, pUnN, pSl, pNext, pBreak, pCont, pRet, pRetN, pDrop, pIfS, pgName, pgNil, pgCons, pgTup_t, pAug, pApp, pYes, isk_non, nsk_non, isN_non, isN_bl, isN_int, isN_str, isN_tup, isN_lst, isN_ref, isN_obj, pTru, pFld, pStar, pMake, pSetF, pIt, pRng1, pRng2, forG, List.map_cons, List.map_nil, List.getElem?_cons_zero, List.getElem?_cons_succ, List.set_cons_zero, List.set_cons_succ, Option.some.injEq, exists_eq_left, exists_eq_left', true_and, and_true, wipeE, D.bl.injEq, D.int.injEq, D.str.injEq, D.tup.injEq, D.lst.injEq, Bool.not_true, decide_eq_true_eq, if_true, if_false, reduceIte, Bool.false_eq_true, Option.isNone_none, Option.isNone_some, Bool.not_false, List.length_nil, List.length_cons, List.nil_append, List.cons_append, D.ref.injEq, SO.lst.injEq, pCall, exists_const, and_self, Nat.zero_add, Nat.zero_le, Nat.reduceLeDiff, Nat.reduceAdd, eq_self, o_add, o_sub, o_mul, o_div, o_mod, o_cmp, o_int, o_lenl, o_lent, o_lens, o_tupl, o_tupt, o_min, o_max, q_int, ixk_tup, ixk_lst, ixk_scr, at0, at1, at2, at3, at4, at5, List.length_map, ln0, ln1, ln2, ln3, ln4, lnS0, lnS2, lnS4, q_id, q_ido, q_oi, q_oid, q_path, q_ln, q_ls, n_id, n_path, n_ln, n_ls, non_oid, non_oln, non_oct, non_id, non_ln, non_ct, non_path, un_ln, un_pl, in_ids, ad_path, eOp_s, eOp_n, lstk_ls, st_ls, fl_Placed_path, fl_Placed_names, fl_Placed_thing, fl_Placed_count, fl_Placed_cuts, fl_Placed_content, fl_Placed_ids, fl_Placed_line, fl_Placed_seen, fl_Shelved_place, fl_Shelved_thing, fl_Shelved_count, fl_Shelved_cuts, fl_Shelved_length, fl_Shelved_purpose, pl_find_line_1_d]
      by_cases h : a.id = o
      · rw [if_pos h]
        rw [fl_yes (congrArg some h)] at hk
        exact rt_pure (pu_ln a) hk
      · rw [if_neg h]
        rw [fl_no fun z => h (Option.some.inj z)] at hk
        exact ih hk _
theorem ok_find_line {P : Program} {w : World} {K : PySem.W.Frag} {cl : Cl} {mg : Str → Option Value} {base : Heap} (D : Df K mg "find_line" s_find_line ["lines", "line_id"]) (T : Txt K cl mg)  : C8.Cal P w K mg base 1 "find_line" (spP K cl F_find_line) [] := by
  refine D.cal sc_find_line (spP_len (n := 2) len_find_line) (fun f cdv  A outer s H vs Q E hr h => ?_)
  refine ⟨_,
    (pss_cons (ps_if (pt_cmpR op_isN (pv 1) pe_non (nomark _))
      (pss_one (ps_ret pe_non))
      pss_nil)
    (pss_cons (ps_for PassesOwn.never rfl (show PI _ _ _ (uIt K _) from upi (pv 0)) (pg_name (i := 2) sc_find_line.nd rfl (Or.inl rfl))
      (pss_one (ps_if (pt_cmpR (show OpR _ _ (rEqP K) from op_eqP hr.units) (pe_ix (show IxR _ (uIx K) from uix) (pv 2) pe_int (fun _ _ => rfl)) (pv 1) (nomark _))
        (pss_one (ps_ret (pv 2)))
        pss_nil)))
    (pss_one (ps_ret pe_non)))), ?_⟩
  exact fn_ok (N := ["lines", "line_id", "line"]) (show SmS K cl _ ps_find_line from
    (sm_seq (sm_ifS (sm_test (sm_op smr_is sm_var sm_non))
      ((sm_ret sm_non))
      sm_next)
    (sm_seq (sm_for (sm_it sm_var) sm_gname
      ((sm_ifS (sm_test (sm_op smr_eq (sm_op smr_ix sm_var sm_int) sm_var))
        ((sm_ret sm_var))
        sm_next)))
    ((sm_ret sm_non))))) body_find_line h
def pl_find_head_1 : PSx :=
      ((pIfS (pB (pOp eqk (pOp ixk (pVar 2) (pC (.int 1))) (pVar 1)))
        ((pRet (pVar 2)))
        pNext))
def ps_find_head : PSx :=
    (pSeq (pFor (pIt (pVar 0)) (pgName 2) pl_find_head_1)
    ((pRet (pC .non))))
theorem start_find_head : ∀ a0 a1 : D, startE 3 [a0, a1] = [some a0, some a1, none] := fun _ _ => rfl
def F_find_head : PFn := fun ds k => ∃ ls o, ds = [eLs ls, eOp eId o] ∧ k (eOp eLn (findHead ls o))
theorem len_find_head : ∀ ds k, F_find_head ds k → ds.length = 2 := by
  rintro _ _ ⟨_, _, rfl, _⟩
  rfl
theorem body_find_head : ∀ ds k, F_find_head ds k → ps_find_head { nx := fun _ _ => k .non, rt := fun d S => (d.frz S).noRef = true ∧ k (d.frz S) } (startE 3 ds) [] := by
  rintro _ k ⟨ls, o, rfl, hk⟩
  rw [start_find_head]
  unfold ps_find_head pl_find_head_1
  refine for_go (src := eLs ls) (ds := ls.map eLn) (fun kk h => ⟨_, rfl, _, rfl, h⟩) (fun _ => rfl) ?_
  generalize eLs ls = l0
  generalize (none : Option D) = x
  induction ls generalizing x with
  | nil =>
    simp only [pForD, pInsL, pExtA, pSeq, pAsg, pVar, pC, pOp, pNil, pCons, pTup, pLst, pLstM, pNot, pAndV, pOrV, pIf, pB, pAnd, pOr, pNotT, pNoPart, pPart, pCB, pUnN, pSl, pNext, pBreak, pCont, pRet, pRetN, pDrop, pIfS, pgName, pgNil, pgCons, pgTup_t, pAug, pApp, pYes, isk_non, nsk_non, isN_non, isN_bl, isN_int, isN_str, isN_tup, isN_lst, isN_ref, isN_obj, pTru, pFld, pStar, pMake, pSetF, pIt, pRng1, pRng2, forG, List.map_cons, List.map_nil, List.getElem?_cons_zero, List.getElem?_cons_succ, List.set_cons_zero, List.set_cons_succ, Option.some.injEq, exists_eq_left, exists_eq_left', true_and, and_true, wipeE, D.bl.injEq, D.int.injEq, D.str.injEq, D.tup.injEq, D.lst.injEq, Bool.not_true, decide_eq_true_eq, if_true, if_false, reduceIte, Bool.false_eq_true, Option.isNone_none, Option.isNone_some, Bool.not_false, List.length_nil, List.length_cons, List.nil_append, List.cons_append, D.ref.injEq, SO.lst.injEq, pCall, exists_const, and_self, Nat.zero_add, Nat.zero_le, Nat.reduceLeDiff, Nat.reduceAdd, eq_self, o_add, o_sub, o_mul, o_div, o_mod, o_cmp, o_int, o_lenl, o_lent, o_lens, o_tupl, o_tupt, o_min, o_max, q_int, ixk_tup, ixk_lst, ixk_scr, at0, at1, at2, at3, at4, at5, List.length_map, ln0, ln1, ln2, ln3, ln4, lnS0, lnS2, lnS4, q_id, q_ido, q_oi, q_oid, q_path, q_ln, q_ls, n_id, n_path, n_ln, n_ls, non_oid, non_oln, non_oct, non_id, non_ln, non_ct, non_path, un_ln, un_pl, in_ids, ad_path, eOp_s, eOp_n, lstk_ls, st_ls, fl_Placed_path, fl_Placed_names, fl_Placed_thing, fl_Placed_count, fl_Placed_cuts, fl_Placed_content, fl_Placed_ids, fl_Placed_line, fl_Placed_seen, fl_Shelved_place, fl_Shelved_thing, fl_Shelved_count, fl_Shelved_cuts, fl_Shelved_length, fl_Shelved_purpose]
    exact rt_pure rfl hk
  | cons a ls ih =>
    simp only [pForD, pInsL, pExtA, pSeq, pAsg, pVar, pC, pOp, pNil, pCons, pTup, pLst, pLstM, pNot, pAndV, pOrV, pIf, pB, pAnd, pOr, pNotT, pNoPart, pPart, pCB, pUnN, pSl, pNext, pBreak, pCont, pRet, pRetN, pDrop, pIfS, pgName, pgNil, pgCons, pgTup_t, pAug, pApp, pYes, isk_non, nsk_non, isN_non, isN_bl, isN_int, isN_str, isN_tup, isN_lst, isN_ref, isN_obj, pTru, pFld, pStar, pMake, pSetF, pIt, pRng1, pRng2, forG, List.map_cons, List.map_nil, List.getElem?_cons_zero, List.getElem?_cons_succ, List.set_cons_zero, List.set_cons_succ, Option.some.injEq, exists_eq_left, exists_eq_left', true_and, and_true, wipeE, D.bl.injEq, D.int.injEq, D.str.injEq, D.tup.injEq, D.lst.injEq, Bool.not_true, decide_eq_true_eq, if_true, if_false, reduceIte, Bool.false_eq_true, Option.isNone_none, Option.isNone_some, Bool.not_false, List.length_nil, List.length_cons, List.nil_append, List.cons_append, D.ref.injEq, SO.lst.injEq, pCall, exists_const, and_self, Nat.zero_add, Nat.zero_le, Nat.reduceLeDiff, Nat.reduceAdd, eq_self, o_add, o_sub, o_mul, o_div, o_mod, o_cmp, o_int, o_lenl, o_lent, o_lens, o_tupl, o_tupt, o_min, o_max, q_int, ixk_tup, ixk_lst, ixk_scr, at0, at1, at2, at3, at4, at5, List.length_map, ln0, ln1, ln2, ln3, ln4, lnS0, lnS2, lnS4, q_id, q_ido, q_oi, q_oid, q_path, q_ln, q_ls, n_id, n_path, n_ln, n_ls, non_oid, non_oln, non_oct, non_id, non_ln, non_ct, non_path, un_ln, un_pl, in_ids, ad_path, eOp_s, eOp_n, lstk_ls, st_ls, fl_Placed_path, fl_Placed_names, fl_Placed_thing, fl_Placed_count, fl_Placed_cuts, fl_Placed_content, fl_Placed_ids, fl_Placed_line, fl_Placed_seen, fl_Shelved_place, fl_Shelved_thing, fl_Shelved_count, fl_Shelved_cuts, fl_Shelved_length, fl_Shelved_purpose]
    by_cases h : some a.hd = o
    · rw [if_pos h]
      rw [fh_yes h] at hk
      exact rt_pure (pu_ln a) hk
    · rw [if_neg h]
      rw [fh_no h] at hk
      exact ih hk _
theorem ok_find_head {P : Program} {w : World} {K : PySem.W.Frag} {cl : Cl} {mg : Str → Option Value} {base : Heap} (D : Df K mg "find_head" s_find_head ["lines", "head"]) (T : Txt K cl mg)  : C8.Cal P w K mg base 1 "find_head" (spP K cl F_find_head) [] := by
  refine D.cal sc_find_head (spP_len (n := 2) len_find_head) (fun f cdv  A outer s H vs Q E hr h => ?_)
  refine ⟨_,
    (pss_cons (ps_for PassesOwn.never rfl (show PI _ _ _ (uIt K _) from upi (pv 0)) (pg_name (i := 2) sc_find_head.nd rfl (Or.inl rfl))
      (pss_one (ps_if (pt_cmpR (show OpR _ _ (rEqP K) from op_eqP hr.units) (pe_ix (show IxR _ (uIx K) from uix) (pv 2) pe_int (fun _ _ => rfl)) (pv 1) (nomark _))
        (pss_one (ps_ret (pv 2)))
        pss_nil)))
    (pss_one (ps_ret pe_non))), ?_⟩
  exact fn_ok (N := ["lines", "head", "line"]) (show SmS K cl _ ps_find_head from
    (sm_seq (sm_for (sm_it sm_var) sm_gname
      ((sm_ifS (sm_test (sm_op smr_eq (sm_op smr_ix sm_var sm_int) sm_var))
        ((sm_ret sm_var))
        sm_next)))
    ((sm_ret sm_non)))) body_find_head h
def pl_without_line_1 : PSx :=
      (pSeq (pAsg (pVar 3) (pgTup 5 (pgCons (pgName 4) (pgCons (pgName 5) (pgCons (pgName 6) (pgCons (pgName 7) (pgCons (pgName 8) pgNil)))))))
      ((pIfS (pB (pOp eqk (pVar 6) (pOp ixk (pVar 1) (pC (.int 0)))))
        ((pApp (pVar 2) (pTup (pCons (pVar 4) (pCons (pVar 5) (pCons (pOp ixk (pVar 1) (pC (.int 2))) (pCons (pOp addk (pOp ixk (pVar 1) (pC (.int 3))) (pVar 7)) (pCons (pVar 8) pNil))))))))
        ((pIfS (pB (pOp nek (pVar 4) (pOp ixk (pVar 1) (pC (.int 0)))))
          ((pApp (pVar 2) (pVar 3)))
          pNext)))))
def ps_without_line : PSx :=
    (pSeq (pAsg (pLstM pNil) (pgName 2))
    (pSeq (pFor (pIt (pVar 0)) (pgName 3) pl_without_line_1)
    ((pRet (pVar 2)))))
theorem start_without_line : ∀ a0 a1 : D, startE 9 [a0, a1] = [some a0, some a1, none, none, none, none, none, none, none] := fun _ _ => rfl
theorem loop_without_line (e : Line) (l0 : D) (P : PEnds) (he : e.path.length ≤ 10000) : ∀ (ls acc : List Line) (x1 x2 x3 x4 x5 x6 : Option D), (∀ l ∈ ls, l.path.length ≤ 10000) → acc.length + ls.length ≤ 1000 →
    (∀ x1 x2 x3 x4 x5 x6, P.nx [some l0, some (eLn e), some (.ref 0), x1, x2, x3, x4, x5, x6] [.lst ((acc ++ woLine ls e).map eLn)]) → forG (pgName 3) pl_without_line_1 P (ls.map eLn) [some l0, some (eLn e), some (.ref 0), x1, x2, x3, x4, x5, x6] [.lst (acc.map eLn)] := by
  intro ls
  induction ls with
  | nil =>
    intro acc x1 x2 x3 x4 x5 x6 _ _ h
    have := h x1 x2 x3 x4 x5 x6
    rw [show woLine [] e = [] from rfl, List.append_nil] at this
    exact this
  | cons a ls ih =>
    intro acc x1 x2 x3 x4 x5 x6 hp hl h
    have hw : woLine (a :: ls) e = woLine [a] e ++ woLine ls e := by
      unfold woLine
      rw [← List.flatMap_append]
      rfl
    have h1 : woLine [a] e = if a.ins = some e.id then [{ a with ins := e.ins, path := e.path ++ a.path }] else if a.id ≠ e.id then [a] else [] := by
      unfold woLine
      rw [List.flatMap_cons, List.flatMap_nil, List.append_nil]
    rw [hw, h1] at h
    have ha := hp a List.mem_cons_self
    have hp' := fun l hl => hp l (List.mem_cons_of_mem _ hl)
    rw [List.length_cons] at hl
    have lacc : acc.length < 90000 := by omega
    unfold pl_without_line_1
    simp only [pForD, pInsL, pExtA, pSeq, pAsg, pVar, pC, pOp, pNil, pCons, pTup, pLst, pLstM, pNot, pAndV, pOrV, pIf, pB, pAnd, pOr, pNotT, pNoPart, pPart, pCB, pUnN, pSl, pNext, pBreak, pCont, pRet, pRetN, pDrop, pIfS, pgName, pgNil, pgCons, pgTup_t, pAug, pApp, pYes, isk_non, nsk_non, isN_non, isN_bl, isN_int, isN_str, isN_tup, isN_lst, isN_ref, isN_obj, pTru, pFld, pStar, pMake, pSetF, pIt, pRng1, pRng2, forG, List.map_cons, List.map_nil, List.getElem?_cons_zero, List.getElem?_cons_succ, List.set_cons_zero, List.set_cons_succ, Option.some.injEq, exists_eq_left, exists_eq_left', true_and, and_true, wipeE, D.bl.injEq, D.int.injEq, D.str.injEq, D.tup.injEq, D.lst.injEq, Bool.not_true, decide_eq_true_eq, if_true, if_false, reduceIte, Bool.false_eq_true, Option.isNone_none, Option.isNone_some, Bool.not_false, List.length_nil, List.length_cons, List.nil_append, List.cons_append, D.ref.injEq, SO.lst.injEq, pCall, exists_const, and_self, Nat.zero_add, Nat.zero_le, Nat.reduceLeDiff, Nat.reduceAdd, eq_self, o_add, o_sub, o_mul, o_div, o_mod, o_cmp, o_int, o_lenl, o_lent, o_lens, o_tupl, o_tupt, o_min, o_max, q_int, ixk_tup, ixk_lst, ixk_scr, at0, at1, at2, at3, at4, at5, List.length_map, ln0, ln1, ln2, ln3, ln4, lnS0, lnS2, lnS4, q_id, q_ido, q_oi, q_oid, q_path, q_ln, q_ls, n_id, n_path, n_ln, n_ls, non_oid, non_oln, non_oct, non_id, non_ln, non_ct, non_path, un_ln, un_pl, in_ids, ad_path, eOp_s, eOp_n, lstk_ls, st_ls, fl_Placed_path, fl_Placed_names, fl_Placed_thing, fl_Placed_count, fl_Placed_cuts, fl_Placed_content, fl_Placed_ids, fl_Placed_line, fl_Placed_seen, fl_Shelved_place, fl_Shelved_thing, fl_Shelved_count, fl_Shelved_cuts, fl_Shelved_length, fl_Shelved_purpose]
    by_cases c1 : a.ins = some e.id
    · rw [if_pos c1] at h ⊢
      refine ⟨by omega, lacc, ?_⟩
      have := ih (acc ++ [{ a with ins := e.ins, path := e.path ++ a.path }]) (some (eLn a)) (some (eId a.id)) (some (eId a.hd)) (some (eOp eId a.ins)) (some (ePath a.path)) (some (eOp eCt a.ct)) hp' (by rw [List.length_append, List.length_singleton]; omega) (by rw [List.append_assoc]; exact h)
      rw [List.map_append] at this
      exact this
    · rw [if_neg c1] at h ⊢
      by_cases c2 : a.id = e.id
      · rw [if_neg (fun z => z c2)] at h
        rw [decide_eq_true c2]
        simp only [pForD, pInsL, pExtA, pSeq, pAsg, pVar, pC, pOp, pNil, pCons, pTup, pLst, pLstM, pNot, pAndV, pOrV, pIf, pB, pAnd, pOr, pNotT, pNoPart, pPart, pCB, pUnN, pSl, pNext, pBreak, pCont, pRet, pRetN, pDrop, pIfS, pgName, pgNil, pgCons, pgTup_t, pAug, pApp, pYes, isk_non, nsk_non, isN_non, isN_bl, isN_int, isN_str, isN_tup, isN_lst, isN_ref, isN_obj, pTru, pFld, pStar, pMake, pSetF, pIt, pRng1, pRng2, forG, List.map_cons, List.map_nil, List.getElem?_cons_zero, List.getElem?_cons_succ, List.set_cons_zero, List.set_cons_succ, Option.some.injEq, exists_eq_left, exists_eq_left', true_and, and_true, wipeE, D.bl.injEq, D.int.injEq, D.str.injEq, D.tup.injEq, D.lst.injEq, Bool.not_true, decide_eq_true_eq, if_true, if_false, reduceIte, Bool.false_eq_true, Option.isNone_none, Option.isNone_some, Bool.not_false, List.length_nil, List.length_cons, List.nil_append, List.cons_append, D.ref.injEq, SO.lst.injEq, pCall, exists_const, and_self, Nat.zero_add, Nat.zero_le, Nat.reduceLeDiff, Nat.reduceAdd, eq_self, o_add, o_sub, o_mul, o_div, o_mod, o_cmp, o_int, o_lenl, o_lent, o_lens, o_tupl, o_tupt, o_min, o_max, q_int, ixk_tup, ixk_lst, ixk_scr, at0, at1, at2, at3, at4, at5, List.length_map, ln0, ln1, ln2, ln3, ln4, lnS0, lnS2, lnS4, q_id, q_ido, q_oi, q_oid, q_path, q_ln, q_ls, n_id, n_path, n_ln, n_ls, non_oid, non_oln, non_oct, non_id, non_ln, non_ct, non_path, un_ln, un_pl, in_ids, ad_path, eOp_s, eOp_n, lstk_ls, st_ls, fl_Placed_path, fl_Placed_names, fl_Placed_thing, fl_Placed_count, fl_Placed_cuts, fl_Placed_content, fl_Placed_ids, fl_Placed_line, fl_Placed_seen, fl_Shelved_place, fl_Shelved_thing, fl_Shelved_count, fl_Shelved_cuts, fl_Shelved_length, fl_Shelved_purpose]
        exact ih acc _ _ _ _ _ _ hp' (by omega) h
      · rw [if_pos c2] at h
        rw [decide_eq_false c2]
        simp only [pForD, pInsL, pExtA, pSeq, pAsg, pVar, pC, pOp, pNil, pCons, pTup, pLst, pLstM, pNot, pAndV, pOrV, pIf, pB, pAnd, pOr, pNotT, pNoPart, pPart, pCB, pUnN, pSl, pNext, pBreak, pCont, pRet, pRetN, pDrop, pIfS, pgName, pgNil, pgCons, pgTup_t, pAug, pApp, pYes, isk_non, nsk_non, isN_non, isN_bl, isN_int, isN_str, isN_tup, isN_lst, isN_ref, isN_obj, pTru, pFld, pStar, pMake, pSetF, pIt, pRng1, pRng2, forG, List.map_cons, List.map_nil, List.getElem?_cons_zero, List.getElem?_cons_succ, List.set_cons_zero, List.set_cons_succ, Option.some.injEq, exists_eq_left, exists_eq_left', true_and, and_true, wipeE, D.bl.injEq, D.int.injEq, D.str.injEq, D.tup.injEq, D.lst.injEq, Bool.not_true, decide_eq_true_eq, if_true, if_false, reduceIte, Bool.false_eq_true, Option.isNone_none, Option.isNone_some, Bool.not_false, List.length_nil, List.length_cons, List.nil_append, List.cons_append, D.ref.injEq, SO.lst.injEq, pCall, exists_const, and_self, Nat.zero_add, Nat.zero_le, Nat.reduceLeDiff, Nat.reduceAdd, eq_self, o_add, o_sub, o_mul, o_div, o_mod, o_cmp, o_int, o_lenl, o_lent, o_lens, o_tupl, o_tupt, o_min, o_max, q_int, ixk_tup, ixk_lst, ixk_scr, at0, at1, at2, at3, at4, at5, List.length_map, ln0, ln1, ln2, ln3, ln4, lnS0, lnS2, lnS4, q_id, q_ido, q_oi, q_oid, q_path, q_ln, q_ls, n_id, n_path, n_ln, n_ls, non_oid, non_oln, non_oct, non_id, non_ln, non_ct, non_path, un_ln, un_pl, in_ids, ad_path, eOp_s, eOp_n, lstk_ls, st_ls, fl_Placed_path, fl_Placed_names, fl_Placed_thing, fl_Placed_count, fl_Placed_cuts, fl_Placed_content, fl_Placed_ids, fl_Placed_line, fl_Placed_seen, fl_Shelved_place, fl_Shelved_thing, fl_Shelved_count, fl_Shelved_cuts, fl_Shelved_length, fl_Shelved_purpose]
        refine ⟨lacc, ?_⟩
        have := ih (acc ++ [a]) (some (eLn a)) (some (eId a.id)) (some (eId a.hd)) (some (eOp eId a.ins)) (some (ePath a.path)) (some (eOp eCt a.ct)) hp' (by rw [List.length_append, List.length_singleton]; omega) (by rw [List.append_assoc]; exact h)
        rw [List.map_append] at this
        exact this
def F_without_line : PFn := fun ds k => ∃ ls e, ds = [eLs ls, eLn e] ∧ Short ls ∧ e.path.length ≤ 10000 ∧ k (eLs (woLine ls e))
theorem len_without_line : ∀ ds k, F_without_line ds k → ds.length = 2 := by
  rintro _ _ ⟨_, _, rfl, _⟩
  rfl
theorem body_without_line : ∀ ds k, F_without_line ds k → ps_without_line { nx := fun _ _ => k .non, rt := fun d S => (d.frz S).noRef = true ∧ k (d.frz S) } (startE 9 ds) [] := by
  rintro _ k ⟨ls, e, rfl, hs, he, hk⟩
  rw [start_without_line]
  unfold ps_without_line
  simp only [pForD, pInsL, pExtA, pSeq, pAsg, pVar, pC, pOp, pNil, pCons, pTup, pLst, pLstM, pNot, pAndV, pOrV, pIf, pB, pAnd, pOr, pNotT, pNoPart, pPart, pCB, pUnN, pSl, pNext, pBreak, pCont, pRet, pRetN, pDrop, pIfS, pgName, pgNil, pgCons, pgTup_t, pAug, pApp, pYes, isk_non, nsk_non, isN_non, isN_bl, isN_int, isN_str, isN_tup, isN_lst, isN_ref, isN_obj, pTru, pFld, pStar, pMake, pSetF, pIt, pRng1, pRng2, forG, List.map_cons, List.map_nil, List.getElem?_cons_zero, List.getElem?_cons_succ, List.set_cons_zero, List.set_cons_succ, Option.some.injEq, exists_eq_left, exists_eq_left', true_and, and_true, wipeE, D.bl.injEq, D.int.injEq, D.str.injEq, D.tup.injEq, D.lst.injEq, Bool.not_true, decide_eq_true_eq, if_true, if_false, reduceIte, Bool.false_eq_true, Option.isNone_none, Option.isNone_some, Bool.not_false, List.length_nil, List.length_cons, List.nil_append, List.cons_append, D.ref.injEq, SO.lst.injEq, pCall, exists_const, and_self, Nat.zero_add, Nat.zero_le, Nat.reduceLeDiff, Nat.reduceAdd, eq_self, o_add, o_sub, o_mul, o_div, o_mod, o_cmp, o_int, o_lenl, o_lent, o_lens, o_tupl, o_tupt, o_min, o_max, q_int, ixk_tup, ixk_lst, ixk_scr, at0, at1, at2, at3, at4, at5, List.length_map, ln0, ln1, ln2, ln3, ln4, lnS0, lnS2, lnS4, q_id, q_ido, q_oi, q_oid, q_path, q_ln, q_ls, n_id, n_path, n_ln, n_ls, non_oid, non_oln, non_oct, non_id, non_ln, non_ct, non_path, un_ln, un_pl, in_ids, ad_path, eOp_s, eOp_n, lstk_ls, st_ls, fl_Placed_path, fl_Placed_names, fl_Placed_thing, fl_Placed_count, fl_Placed_cuts, fl_Placed_content, fl_Placed_ids, fl_Placed_line, fl_Placed_seen, fl_Shelved_place, fl_Shelved_thing, fl_Shelved_count, fl_Shelved_cuts, fl_Shelved_length, fl_Shelved_purpose]
  refine for_go (src := eLs ls) (ds := ls.map eLn) (fun kk h => ⟨_, rfl, _, rfl, h⟩) (fun _ => rfl) ?_
  refine loop_without_line e (eLs ls) _ he ls [] _ _ _ _ _ _ hs.2 (by rw [List.length_nil]; have := hs.1; omega) (fun x1 x2 x3 x4 x5 x6 => ?_)
  simp only [pForD, pInsL, pExtA, pSeq, pAsg, pVar, pC, pOp, pNil, pCons, pTup, pLst, pLstM, pNot, pAndV, pOrV, pIf, pB, pAnd, pOr, pNotT, pNoPart, pPart, pCB, pUnN, pSl, pNext, pBreak, pCont, pRet, pRetN, pDrop, pIfS, pgName, pgNil, pgCons, pgTup_t, pAug, pApp, pYes, isk_non, nsk_non, isN_non, isN_bl, isN_int, isN_str, isN_tup, isN_lst, isN_ref, isN_obj, pTru, pFld, pStar, pMake, pSetF, pIt, pRng1, pRng2, forG, List.map_cons, List.map_nil, List.getElem?_cons_zero, List.getElem?_cons_succ, List.set_cons_zero, List.set_cons_succ, Option.some.injEq, exists_eq_left, exists_eq_left', true_and, and_true, wipeE, D.bl.injEq, D.int.injEq, D.str.injEq, D.tup.injEq, D.lst.injEq, Bool.not_true, decide_eq_true_eq, if_true, if_false, reduceIte, Bool.false_eq_true, Option.isNone_none, Option.isNone_some, Bool.not_false, List.length_nil, List.length_cons, List.nil_append, List.cons_append, D.ref.injEq, SO.lst.injEq, pCall, exists_const, and_self, Nat.zero_add, Nat.zero_le, Nat.reduceLeDiff, Nat.reduceAdd, eq_self, o_add, o_sub, o_mul, o_div, o_mod, o_cmp, o_int, o_lenl, o_lent, o_lens, o_tupl, o_tupt, o_min, o_max, q_int, ixk_tup, ixk_lst, ixk_scr, at0, at1, at2, at3, at4, at5, List.length_map, ln0, ln1, ln2, ln3, ln4, lnS0, lnS2, lnS4, q_id, q_ido, q_oi, q_oid, q_path, q_ln, q_ls, n_id, n_path, n_ln, n_ls, non_oid, non_oln, non_oct, non_id, non_ln, non_ct, non_path, un_ln, un_pl, in_ids, ad_path, eOp_s, eOp_n, lstk_ls, st_ls, fl_Placed_path, fl_Placed_names, fl_Placed_thing, fl_Placed_count, fl_Placed_cuts, fl_Placed_content, fl_Placed_ids, fl_Placed_line, fl_Placed_seen, fl_Shelved_place, fl_Shelved_thing, fl_Shelved_count, fl_Shelved_cuts, fl_Shelved_length, fl_Shelved_purpose]
  exact ⟨pure_noRef _ (pu_ls (woLine ls e)), hk⟩
theorem ok_without_line {P : Program} {w : World} {K : PySem.W.Frag} {cl : Cl} {mg : Str → Option Value} {base : Heap} (D : Df K mg "without_line" s_without_line ["lines", "ended"]) (T : Txt K cl mg)  : C8.Cal P w K mg base 1 "without_line" (spP K cl F_without_line) [] := by
  refine D.cal sc_without_line (spP_len (n := 2) len_without_line) (fun f cdv  A outer s H vs Q E hr h => ?_)
  refine ⟨_,
    (pss_cons (ps_set (i := 2) sc_without_line.nd rfl (.inl rfl) (pe_lst pa_nil))
    (pss_cons (ps_for PassesOwn.never rfl (show PI _ _ _ (uIt K _) from upi (pv 0)) (pg_name (i := 3) sc_without_line.nd rfl (Or.inl rfl))
      (pss_cons (ps_asg (pv 3) (pg_tup rfl (pgs_cons (pg_name (i := 4) sc_without_line.nd rfl (Or.inl rfl)) (pgs_cons (pg_name (i := 5) sc_without_line.nd rfl (Or.inl rfl)) (pgs_cons (pg_name (i := 6) sc_without_line.nd rfl (Or.inl rfl)) (pgs_cons (pg_name (i := 7) sc_without_line.nd rfl (Or.inl rfl)) (pgs_cons (pg_name (i := 8) sc_without_line.nd rfl (Or.inl rfl)) pgs_nil)))))))
      (pss_one (ps_if (pt_cmpR (show OpR _ _ (rEqP K) from op_eqP hr.units) (pv 6) (pe_ix (show IxR _ (uIx K) from uix) (pv 1) pe_int (fun _ _ => rfl)) (nomark _))
        (pss_one (ps_expr (pe_bm PySem.F.plainAttrs_list PySem.F.slot_list_append PySem.F.type_list_append mt_append (pv 2) (pa_cons (pe_tup (pa_cons (pv 4) (pa_cons (pv 5) (pa_cons (pe_ix (show IxR _ (uIx K) from uix) (pv 1) pe_int (fun _ _ => rfl)) (pa_cons (pe_op (show OpR _ _ (uAdd K) from uop_add) (pe_ix (show IxR _ (uIx K) from uix) (pv 1) pe_int (fun _ _ => rfl)) (pv 7)) (pa_cons (pv 8) pa_nil)))))) pa_nil))))
        (pss_one (ps_if (pt_cmpR (show OpR _ _ (rNeP K) from op_neP hr.units) (pv 4) (pe_ix (show IxR _ (uIx K) from uix) (pv 1) pe_int (fun _ _ => rfl)) (nomark _))
          (pss_one (ps_expr (pe_bm PySem.F.plainAttrs_list PySem.F.slot_list_append PySem.F.type_list_append mt_append (pv 2) (pa_cons (pv 3) pa_nil))))
          pss_nil))))))
    (pss_one (ps_ret (pv 2))))), ?_⟩
  exact fn_ok (N := ["lines", "ended", "left", "known", "line_id", "head", "inside", "below", "content"]) (show SmS K cl _ ps_without_line from
    (sm_seq (sm_asg (sm_lstM sm_nil) sm_gname)
    (sm_seq (sm_for (sm_it sm_var) sm_gname
      (sm_seq (sm_asg sm_var (sm_gtup (sm_gcons sm_gname (sm_gcons sm_gname (sm_gcons sm_gname (sm_gcons sm_gname (sm_gcons sm_gname sm_gnil)))))))
      ((sm_ifS (sm_test (sm_op smr_eq sm_var (sm_op smr_ix sm_var sm_int)))
        ((sm_app sm_var (sm_tup (sm_cons sm_var (sm_cons sm_var (sm_cons (sm_op smr_ix sm_var sm_int) (sm_cons (sm_op smr_add (sm_op smr_ix sm_var sm_int) sm_var) (sm_cons sm_var sm_nil))))))))
        ((sm_ifS (sm_test (sm_op smr_ne sm_var (sm_op smr_ix sm_var sm_int)))
          ((sm_app sm_var sm_var))
          sm_next))))))
    ((sm_ret sm_var))))) body_without_line h
def pl_without_heads_1 : PSx :=
      (pSeq (pAsg (pCall F_find_head (pCons (pVar 0) (pCons (pVar 2) pNil))) (pgName 3))
      ((pIfS (pB (pOp nsk (pVar 3) (pC .non)))
        ((pAsg (pCall F_without_line (pCons (pVar 0) (pCons (pVar 3) pNil))) (pgName 0)))
        pNext)))
def ps_without_heads : PSx :=
    (pSeq (pFor (pIt (pVar 1)) (pgName 2) pl_without_heads_1)
    ((pRet (pVar 0))))
theorem start_without_heads : ∀ a0 a1 : D, startE 4 [a0, a1] = [some a0, some a1, none, none] := fun _ _ => rfl
theorem loop_without_heads (d1 : D) (P : PEnds) : ∀ (hs : List Ln.Id) (ls : List Line) (x1 x2 : Option D), (∀ i, Short (woHeads ls (hs.take i))) →
    (∀ x1 x2, P.nx [some (eLs (woHeads ls hs)), some d1, x1, x2] []) → forG (pgName 2) pl_without_heads_1 P (hs.map eId) [some (eLs ls), some d1, x1, x2] [] := by
  intro hs
  induction hs with
  | nil => exact fun ls x1 x2 _ h => h x1 x2
  | cons a hs ih =>
    intro ls x1 x2 hsh h
    have h1 : woHeads ls (a :: hs) = woHeads (woHead ls a) hs := rfl
    have hsh' : ∀ i, Short (woHeads (woHead ls a) (hs.take i)) := fun i => hsh (i + 1)
    have h0 := hsh 0
    unfold pl_without_heads_1
    simp only [pForD, pInsL, pExtA, pSeq, pAsg, pVar, pC, pOp, pNil, pCons, pTup, pLst, pLstM, pNot, pAndV, pOrV, pIf, pB, pAnd, pOr, pNotT, pNoPart, pPart, pCB, pUnN, pSl, pNext, pBreak, pCont, pRet, pRetN, pDrop, pIfS, pgName, pgNil, pgCons, pgTup_t, pAug, pApp, pYes, isk_non, nsk_non, isN_non, isN_bl, isN_int, isN_str, isN_tup, isN_lst, isN_ref, isN_obj, pTru, pFld, pStar, pMake, pSetF, pIt, pRng1, pRng2, forG, List.map_cons, List.map_nil, List.getElem?_cons_zero, List.getElem?_cons_succ, List.set_cons_zero, List.set_cons_succ, Option.some.injEq, exists_eq_left, exists_eq_left', true_and, and_true, wipeE, D.bl.injEq, D.int.injEq, D.str.injEq, D.tup.injEq, D.lst.injEq, Bool.not_true, decide_eq_true_eq, if_true, if_false, reduceIte, Bool.false_eq_true, Option.isNone_none, Option.isNone_some, Bool.not_false, List.length_nil, List.length_cons, List.nil_append, List.cons_append, D.ref.injEq, SO.lst.injEq, pCall, exists_const, and_self, Nat.zero_add, Nat.zero_le, Nat.reduceLeDiff, Nat.reduceAdd, eq_self, o_add, o_sub, o_mul, o_div, o_mod, o_cmp, o_int, o_lenl, o_lent, o_lens, o_tupl, o_tupt, o_min, o_max, q_int, ixk_tup, ixk_lst, ixk_scr, at0, at1, at2, at3, at4, at5, List.length_map, ln0, ln1, ln2, ln3, ln4, lnS0, lnS2, lnS4, q_id, q_ido, q_oi, q_oid, q_path, q_ln, q_ls, n_id, n_path, n_ln, n_ls, non_oid, non_oln, non_oct, non_id, non_ln, non_ct, non_path, un_ln, un_pl, in_ids, ad_path, eOp_s, eOp_n, lstk_ls, st_ls, fl_Placed_path, fl_Placed_names, fl_Placed_thing, fl_Placed_count, fl_Placed_cuts, fl_Placed_content, fl_Placed_ids, fl_Placed_line, fl_Placed_seen, fl_Shelved_place, fl_Shelved_thing, fl_Shelved_count, fl_Shelved_cuts, fl_Shelved_length, fl_Shelved_purpose]
    refine call_of (by simp only [pureAll, pu_ls, pu_lsl, pu_oid, pu_id, pu_ln, pu_oln, pu_pl, pu_ed, pu_eds, pu_idst, pu_path, pu_oct, pu_mv, pu_mvs, pu_str, pu_int, pu_bl, pu_non, eOp_s, eOp_n, Bool.and_self]) ⟨ls, some a, rfl, ?_⟩
    rw [h1] at h
    cases hf : findHead ls (some a) with
    | none =>
      have e : woHead ls a = ls := by
        unfold woHead
        rw [hf]
      rw [e] at h hsh'
      simp only [pForD, pInsL, pExtA, pSeq, pAsg, pVar, pC, pOp, pNil, pCons, pTup, pLst, pLstM, pNot, pAndV, pOrV, pIf, pB, pAnd, pOr, pNotT, pNoPart, pPart, pCB, pUnN, pSl, pNext, pBreak, pCont, pRet, pRetN, pDrop, pIfS, pgName, pgNil, pgCons, pgTup_t, pAug, pApp, pYes, isk_non, nsk_non, isN_non, isN_bl, isN_int, isN_str, isN_tup, isN_lst, isN_ref, isN_obj, pTru, pFld, pStar, pMake, pSetF, pIt, pRng1, pRng2, forG, List.map_cons, List.map_nil, List.getElem?_cons_zero, List.getElem?_cons_succ, List.set_cons_zero, List.set_cons_succ, Option.some.injEq, exists_eq_left, exists_eq_left', true_and, and_true, wipeE, D.bl.injEq, D.int.injEq, D.str.injEq, D.tup.injEq, D.lst.injEq, Bool.not_true, decide_eq_true_eq, if_true, if_false, reduceIte, Bool.false_eq_true, Option.isNone_none, Option.isNone_some, Bool.not_false, List.length_nil, List.length_cons, List.nil_append, List.cons_append, D.ref.injEq, SO.lst.injEq, pCall, exists_const, and_self, Nat.zero_add, Nat.zero_le, Nat.reduceLeDiff, Nat.reduceAdd, eq_self, o_add, o_sub, o_mul, o_div, o_mod, o_cmp, o_int, o_lenl, o_lent, o_lens, o_tupl, o_tupt, o_min, o_max, q_int, ixk_tup, ixk_lst, ixk_scr, at0, at1, at2, at3, at4, at5, List.length_map, ln0, ln1, ln2, ln3, ln4, lnS0, lnS2, lnS4, q_id, q_ido, q_oi, q_oid, q_path, q_ln, q_ls, n_id, n_path, n_ln, n_ls, non_oid, non_oln, non_oct, non_id, non_ln, non_ct, non_path, un_ln, un_pl, in_ids, ad_path, eOp_s, eOp_n, lstk_ls, st_ls, fl_Placed_path, fl_Placed_names, fl_Placed_thing, fl_Placed_count, fl_Placed_cuts, fl_Placed_content, fl_Placed_ids, fl_Placed_line, fl_Placed_seen, fl_Shelved_place, fl_Shelved_thing, fl_Shelved_count, fl_Shelved_cuts, fl_Shelved_length, fl_Shelved_purpose]
      exact ih ls _ _ hsh' h
    | some e =>
      have e' : woHead ls a = woLine ls e := by
        unfold woHead
        rw [hf]
      rw [e'] at h hsh'
      simp only [pForD, pInsL, pExtA, pSeq, pAsg, pVar, pC, pOp, pNil, pCons, pTup, pLst, pLstM, pNot, pAndV, pOrV, pIf, pB, pAnd, pOr, pNotT, pNoPart, pPart, pCB, pUnN, pSl, pNext, pBreak, pCont, pRet, pRetN, pDrop, pIfS, pgName, pgNil, pgCons, pgTup_t, pAug, pApp, pYes, isk_non, nsk_non, isN_non, isN_bl, isN_int, isN_str, isN_tup, isN_lst, isN_ref, isN_obj, pTru, pFld, pStar, pMake, pSetF, pIt, pRng1, pRng2, forG, List.map_cons, List.map_nil, List.getElem?_cons_zero, List.getElem?_cons_succ, List.set_cons_zero, List.set_cons_succ, Option.some.injEq, exists_eq_left, exists_eq_left', true_and, and_true, wipeE, D.bl.injEq, D.int.injEq, D.str.injEq, D.tup.injEq, D.lst.injEq, Bool.not_true, decide_eq_true_eq, if_true, if_false, reduceIte, Bool.false_eq_true, Option.isNone_none, Option.isNone_some, Bool.not_false, List.length_nil, List.length_cons, List.nil_append, List.cons_append, D.ref.injEq, SO.lst.injEq, pCall, exists_const, and_self, Nat.zero_add, Nat.zero_le, Nat.reduceLeDiff, Nat.reduceAdd, eq_self, o_add, o_sub, o_mul, o_div, o_mod, o_cmp, o_int, o_lenl, o_lent, o_lens, o_tupl, o_tupt, o_min, o_max, q_int, ixk_tup, ixk_lst, ixk_scr, at0, at1, at2, at3, at4, at5, List.length_map, ln0, ln1, ln2, ln3, ln4, lnS0, lnS2, lnS4, q_id, q_ido, q_oi, q_oid, q_path, q_ln, q_ls, n_id, n_path, n_ln, n_ls, non_oid, non_oln, non_oct, non_id, non_ln, non_ct, non_path, un_ln, un_pl, in_ids, ad_path, eOp_s, eOp_n, lstk_ls, st_ls, fl_Placed_path, fl_Placed_names, fl_Placed_thing, fl_Placed_count, fl_Placed_cuts, fl_Placed_content, fl_Placed_ids, fl_Placed_line, fl_Placed_seen, fl_Shelved_place, fl_Shelved_thing, fl_Shelved_count, fl_Shelved_cuts, fl_Shelved_length, fl_Shelved_purpose]
      exact call_of (by simp only [pureAll, pu_ls, pu_lsl, pu_oid, pu_id, pu_ln, pu_oln, pu_pl, pu_ed, pu_eds, pu_idst, pu_path, pu_oct, pu_mv, pu_mvs, pu_str, pu_int, pu_bl, pu_non, eOp_s, eOp_n, Bool.and_self]) ⟨ls, e, rfl, h0, h0.2 e (List.mem_of_find?_eq_some hf), ih _ _ _ hsh' h⟩
def F_without_heads : PFn := fun ds k => ∃ ls hs d1, ds = [eLs ls, d1] ∧ (d1 = .lst (hs.map eId) ∨ d1 = eIds hs) ∧ (∀ i, Short (woHeads ls (hs.take i))) ∧ k (eLs (woHeads ls hs))
theorem len_without_heads : ∀ ds k, F_without_heads ds k → ds.length = 2 := by
  rintro _ _ ⟨_, _, _, rfl, _⟩
  rfl
theorem body_without_heads : ∀ ds k, F_without_heads ds k → ps_without_heads { nx := fun _ _ => k .non, rt := fun d S => (d.frz S).noRef = true ∧ k (d.frz S) } (startE 4 ds) [] := by
  rintro _ k ⟨ls, hs, d1, rfl, hd, hsh, hk⟩
  rw [start_without_heads]
  unfold ps_without_heads
  refine for_go (src := d1) (ds := hs.map eId) (fun kk h => ⟨d1, rfl, _, ?_, h⟩) (fun S => ?_) (loop_without_heads d1 _ hs ls _ _ hsh fun x1 x2 => ?_)
  · rcases hd with rfl | rfl <;> rfl
  · rcases hd with rfl | rfl <;> rfl
  · simp only [pForD, pInsL, pExtA, pSeq, pAsg, pVar, pC, pOp, pNil, pCons, pTup, pLst, pLstM, pNot, pAndV, pOrV, pIf, pB, pAnd, pOr, pNotT, pNoPart, pPart, pCB, pUnN, pSl, pNext, pBreak, pCont, pRet, pRetN, pDrop, pIfS, pgName, pgNil, pgCons, pgTup_t, pAug, pApp, pYes, isk_non, nsk_non, isN_non, isN_bl, isN_int, isN_str, isN_tup, isN_lst, isN_ref, isN_obj, pTru, pFld, pStar, pMake, pSetF, pIt, pRng1, pRng2, forG, List.map_cons, List.map_nil, List.getElem?_cons_zero, List.getElem?_cons_succ, List.set_cons_zero, List.set_cons_succ, Option.some.injEq, exists_eq_left, exists_eq_left', true_and, and_true, wipeE, D.bl.injEq, D.int.injEq, D.str.injEq, D.tup.injEq, D.lst.injEq, Bool.not_true, decide_eq_true_eq, if_true, if_false, reduceIte, Bool.false_eq_true, Option.isNone_none, Option.isNone_some, Bool.not_false, List.length_nil, List.length_cons, List.nil_append, List.cons_append, D.ref.injEq, SO.lst.injEq, pCall, exists_const, and_self, Nat.zero_add, Nat.zero_le, Nat.reduceLeDiff, Nat.reduceAdd, eq_self, o_add, o_sub, o_mul, o_div, o_mod, o_cmp, o_int, o_lenl, o_lent, o_lens, o_tupl, o_tupt, o_min, o_max, q_int, ixk_tup, ixk_lst, ixk_scr, at0, at1, at2, at3, at4, at5, List.length_map, ln0, ln1, ln2, ln3, ln4, lnS0, lnS2, lnS4, q_id, q_ido, q_oi, q_oid, q_path, q_ln, q_ls, n_id, n_path, n_ln, n_ls, non_oid, non_oln, non_oct, non_id, non_ln, non_ct, non_path, un_ln, un_pl, in_ids, ad_path, eOp_s, eOp_n, lstk_ls, st_ls, fl_Placed_path, fl_Placed_names, fl_Placed_thing, fl_Placed_count, fl_Placed_cuts, fl_Placed_content, fl_Placed_ids, fl_Placed_line, fl_Placed_seen, fl_Shelved_place, fl_Shelved_thing, fl_Shelved_count, fl_Shelved_cuts, fl_Shelved_length, fl_Shelved_purpose]
    exact rt_pure (pu_ls _) hk
theorem ok_without_heads {P : Program} {w : World} {K : PySem.W.Frag} {cl : Cl} {mg : Str → Option Value} {base : Heap} (D : Df K mg "without_heads" s_without_heads ["lines", "heads"]) (T : Txt K cl mg) (G_find_head : C8.Cal P w K mg base 1 "find_head" (spP K cl F_find_head) []) (G_without_line : C8.Cal P w K mg base 1 "without_line" (spP K cl F_without_line) []) : C8.Cal P w K mg base 2 "without_heads" (spP K cl F_without_heads) [] := by
  refine D.cal sc_without_heads (spP_len (n := 2) len_without_heads) (fun f cdv  A outer s H vs Q E hr h => ?_)
  refine ⟨_,
    (pss_cons (ps_for PassesOwn.never rfl (show PI _ _ _ (uIt K _) from upi (pv 1)) (pg_name (i := 2) sc_without_heads.nd rfl (Or.inl rfl))
      (pss_cons (ps_set (i := 3) sc_without_heads.nd rfl (.inl rfl) (C8.pe_c G_find_head hr (by decide) (by rfl) (pa_cons (pv 0) (pa_cons (pv 2) pa_nil))))
      (pss_one (ps_if (pt_cmpR op_notN (pv 3) pe_non (nomark _))
        (pss_one (ps_set (i := 0) sc_without_heads.nd rfl (.inl rfl) (C8.pe_c G_without_line hr (by decide) (by rfl) (pa_cons (pv 0) (pa_cons (pv 3) pa_nil)))))
        pss_nil))))
    (pss_one (ps_ret (pv 0)))), ?_⟩
  exact fn_ok (N := ["lines", "heads", "head", "ended"]) (show SmS K cl _ ps_without_heads from
    (sm_seq (sm_for (sm_it sm_var) sm_gname
      (sm_seq (sm_asg (sm_call (sm_cons sm_var (sm_cons sm_var sm_nil))) sm_gname)
      ((sm_ifS (sm_test (sm_op smr_ns sm_var sm_non))
        ((sm_asg (sm_call (sm_cons sm_var (sm_cons sm_var sm_nil))) sm_gname))
        sm_next))))
    ((sm_ret sm_var)))) body_without_heads h
def ps_settle : PSx :=
    (pSeq (pAsg (pVar 1) (pgTup 3 (pgCons (pgName 2) (pgCons (pgName 3) (pgCons (pgName 4) pgNil)))))
    (pSeq (pAsg (pCall F_find_line (pCons (pVar 0) (pCons (pVar 2) pNil))) (pgName 5))
    (pSeq (pIfS (pOr (pB (pOp isk (pVar 5) (pC .non))) (pB (pOp nsk (pOp ixk (pVar 5) (pC (.int 4))) (pC .non))))
      ((pRet (pTup (pCons (pC .non) (pCons (pVar 4) pNil)))))
      pNext)
    ((pRet (pTup (pCons (pVar 2) (pCons (pVar 3) pNil))))))))
theorem start_settle : ∀ a0 a1 : D, startE 6 [a0, a1] = [some a0, some a1, none, none, none, none] := fun _ _ => rfl
def eTwo (w : Option Ln.Id × List Str) : D := .tup [eOp eId w.1, ePath w.2]
theorem pu_two (w : Option Ln.Id × List Str) : (eTwo w).pure = true := by
  show pureAll [eOp eId w.1, ePath w.2] = true
  simp only [pureAll, pu_oid, pu_path, Bool.and_self]
def F_settle : PFn := fun ds k => ∃ ls pl, ds = [eLs ls, ePl pl] ∧ k (eTwo (settleF ls pl))
theorem len_settle : ∀ ds k, F_settle ds k → ds.length = 2 := by
  rintro _ _ ⟨_, _, rfl, _⟩
  rfl
theorem body_settle : ∀ ds k, F_settle ds k → ps_settle { nx := fun _ _ => k .non, rt := fun d S => (d.frz S).noRef = true ∧ k (d.frz S) } (startE 6 ds) [] := by
  rintro _ k ⟨ls, pl, rfl, hk⟩
  rw [start_settle]
  unfold ps_settle
  simp only [pForD, pInsL, pExtA, pSeq, pAsg, pVar, pC, pOp, pNil, pCons, pTup, pLst, pLstM, pNot, pAndV, pOrV, pIf, pB, pAnd, pOr, pNotT, pNoPart, pPart, pCB, pUnN, pSl, pNext, pBreak, pCont, pRet, pRetN, pDrop, pIfS, pgName, pgNil, pgCons, pgTup_t, pAug, pApp, pYes, isk_non, nsk_non, isN_non, isN_bl, isN_int, isN_str, isN_tup, isN_lst, isN_ref, isN_obj, pTru, pFld, pStar, pMake, pSetF, pIt, pRng1, pRng2, forG, List.map_cons, List.map_nil, List.getElem?_cons_zero, List.getElem?_cons_succ, List.set_cons_zero, List.set_cons_succ, Option.some.injEq, exists_eq_left, exists_eq_left', true_and, and_true, wipeE, D.bl.injEq, D.int.injEq, D.str.injEq, D.tup.injEq, D.lst.injEq, Bool.not_true, decide_eq_true_eq, if_true, if_false, reduceIte, Bool.false_eq_true, Option.isNone_none, Option.isNone_some, Bool.not_false, List.length_nil, List.length_cons, List.nil_append, List.cons_append, D.ref.injEq, SO.lst.injEq, pCall, exists_const, and_self, Nat.zero_add, Nat.zero_le, Nat.reduceLeDiff, Nat.reduceAdd, eq_self, o_add, o_sub, o_mul, o_div, o_mod, o_cmp, o_int, o_lenl, o_lent, o_lens, o_tupl, o_tupt, o_min, o_max, q_int, ixk_tup, ixk_lst, ixk_scr, at0, at1, at2, at3, at4, at5, List.length_map, ln0, ln1, ln2, ln3, ln4, lnS0, lnS2, lnS4, q_id, q_ido, q_oi, q_oid, q_path, q_ln, q_ls, n_id, n_path, n_ln, n_ls, non_oid, non_oln, non_oct, non_id, non_ln, non_ct, non_path, un_ln, un_pl, in_ids, ad_path, eOp_s, eOp_n, lstk_ls, st_ls, fl_Placed_path, fl_Placed_names, fl_Placed_thing, fl_Placed_count, fl_Placed_cuts, fl_Placed_content, fl_Placed_ids, fl_Placed_line, fl_Placed_seen, fl_Shelved_place, fl_Shelved_thing, fl_Shelved_count, fl_Shelved_cuts, fl_Shelved_length, fl_Shelved_purpose]
  refine call_of (by simp only [pureAll, pu_ls, pu_lsl, pu_oid, pu_id, pu_ln, pu_oln, pu_pl, pu_ed, pu_eds, pu_idst, pu_path, pu_oct, pu_mv, pu_mvs, pu_str, pu_int, pu_bl, pu_non, eOp_s, eOp_n, Bool.and_self]) ⟨ls, pl.1, rfl, ?_⟩
  cases hf : findLine ls pl.1 with
  | none =>
    have hs : settleF ls pl = (none, pl.2.2) := by
      unfold settleF
      rw [hf]
    rw [hs] at hk
    simp only [pForD, pInsL, pExtA, pSeq, pAsg, pVar, pC, pOp, pNil, pCons, pTup, pLst, pLstM, pNot, pAndV, pOrV, pIf, pB, pAnd, pOr, pNotT, pNoPart, pPart, pCB, pUnN, pSl, pNext, pBreak, pCont, pRet, pRetN, pDrop, pIfS, pgName, pgNil, pgCons, pgTup_t, pAug, pApp, pYes, isk_non, nsk_non, isN_non, isN_bl, isN_int, isN_str, isN_tup, isN_lst, isN_ref, isN_obj, pTru, pFld, pStar, pMake, pSetF, pIt, pRng1, pRng2, forG, List.map_cons, List.map_nil, List.getElem?_cons_zero, List.getElem?_cons_succ, List.set_cons_zero, List.set_cons_succ, Option.some.injEq, exists_eq_left, exists_eq_left', true_and, and_true, wipeE, D.bl.injEq, D.int.injEq, D.str.injEq, D.tup.injEq, D.lst.injEq, Bool.not_true, decide_eq_true_eq, if_true, if_false, reduceIte, Bool.false_eq_true, Option.isNone_none, Option.isNone_some, Bool.not_false, List.length_nil, List.length_cons, List.nil_append, List.cons_append, D.ref.injEq, SO.lst.injEq, pCall, exists_const, and_self, Nat.zero_add, Nat.zero_le, Nat.reduceLeDiff, Nat.reduceAdd, eq_self, o_add, o_sub, o_mul, o_div, o_mod, o_cmp, o_int, o_lenl, o_lent, o_lens, o_tupl, o_tupt, o_min, o_max, q_int, ixk_tup, ixk_lst, ixk_scr, at0, at1, at2, at3, at4, at5, List.length_map, ln0, ln1, ln2, ln3, ln4, lnS0, lnS2, lnS4, q_id, q_ido, q_oi, q_oid, q_path, q_ln, q_ls, n_id, n_path, n_ln, n_ls, non_oid, non_oln, non_oct, non_id, non_ln, non_ct, non_path, un_ln, un_pl, in_ids, ad_path, eOp_s, eOp_n, lstk_ls, st_ls, fl_Placed_path, fl_Placed_names, fl_Placed_thing, fl_Placed_count, fl_Placed_cuts, fl_Placed_content, fl_Placed_ids, fl_Placed_line, fl_Placed_seen, fl_Shelved_place, fl_Shelved_thing, fl_Shelved_count, fl_Shelved_cuts, fl_Shelved_length, fl_Shelved_purpose]
    exact rt_pure (pu_two (none, pl.2.2)) hk
  | some f =>
    simp only [pForD, pInsL, pExtA, pSeq, pAsg, pVar, pC, pOp, pNil, pCons, pTup, pLst, pLstM, pNot, pAndV, pOrV, pIf, pB, pAnd, pOr, pNotT, pNoPart, pPart, pCB, pUnN, pSl, pNext, pBreak, pCont, pRet, pRetN, pDrop, pIfS, pgName, pgNil, pgCons, pgTup_t, pAug, pApp, pYes, isk_non, nsk_non, isN_non, isN_bl, isN_int, isN_str, isN_tup, isN_lst, isN_ref, isN_obj, pTru, pFld, pStar, pMake, pSetF, pIt, pRng1, pRng2, forG, List.map_cons, List.map_nil, List.getElem?_cons_zero, List.getElem?_cons_succ, List.set_cons_zero, List.set_cons_succ, Option.some.injEq, exists_eq_left, exists_eq_left', true_and, and_true, wipeE, D.bl.injEq, D.int.injEq, D.str.injEq, D.tup.injEq, D.lst.injEq, Bool.not_true, decide_eq_true_eq, if_true, if_false, reduceIte, Bool.false_eq_true, Option.isNone_none, Option.isNone_some, Bool.not_false, List.length_nil, List.length_cons, List.nil_append, List.cons_append, D.ref.injEq, SO.lst.injEq, pCall, exists_const, and_self, Nat.zero_add, Nat.zero_le, Nat.reduceLeDiff, Nat.reduceAdd, eq_self, o_add, o_sub, o_mul, o_div, o_mod, o_cmp, o_int, o_lenl, o_lent, o_lens, o_tupl, o_tupt, o_min, o_max, q_int, ixk_tup, ixk_lst, ixk_scr, at0, at1, at2, at3, at4, at5, List.length_map, ln0, ln1, ln2, ln3, ln4, lnS0, lnS2, lnS4, q_id, q_ido, q_oi, q_oid, q_path, q_ln, q_ls, n_id, n_path, n_ln, n_ls, non_oid, non_oln, non_oct, non_id, non_ln, non_ct, non_path, un_ln, un_pl, in_ids, ad_path, eOp_s, eOp_n, lstk_ls, st_ls, fl_Placed_path, fl_Placed_names, fl_Placed_thing, fl_Placed_count, fl_Placed_cuts, fl_Placed_content, fl_Placed_ids, fl_Placed_line, fl_Placed_seen, fl_Shelved_place, fl_Shelved_thing, fl_Shelved_count, fl_Shelved_cuts, fl_Shelved_length, fl_Shelved_purpose]
    cases hc : f.ct with
    | none =>
      have hs : settleF ls pl = (pl.1, pl.2.1) := by
        unfold settleF
        rw [hf]
        exact if_pos hc
      rw [hs] at hk
      simp only [pForD, pInsL, pExtA, pSeq, pAsg, pVar, pC, pOp, pNil, pCons, pTup, pLst, pLstM, pNot, pAndV, pOrV, pIf, pB, pAnd, pOr, pNotT, pNoPart, pPart, pCB, pUnN, pSl, pNext, pBreak, pCont, pRet, pRetN, pDrop, pIfS, pgName, pgNil, pgCons, pgTup_t, pAug, pApp, pYes, isk_non, nsk_non, isN_non, isN_bl, isN_int, isN_str, isN_tup, isN_lst, isN_ref, isN_obj, pTru, pFld, pStar, pMake, pSetF, pIt, pRng1, pRng2, forG, List.map_cons, List.map_nil, List.getElem?_cons_zero, List.getElem?_cons_succ, List.set_cons_zero, List.set_cons_succ, Option.some.injEq, exists_eq_left, exists_eq_left', true_and, and_true, wipeE, D.bl.injEq, D.int.injEq, D.str.injEq, D.tup.injEq, D.lst.injEq, Bool.not_true, decide_eq_true_eq, if_true, if_false, reduceIte, Bool.false_eq_true, Option.isNone_none, Option.isNone_some, Bool.not_false, List.length_nil, List.length_cons, List.nil_append, List.cons_append, D.ref.injEq, SO.lst.injEq, pCall, exists_const, and_self, Nat.zero_add, Nat.zero_le, Nat.reduceLeDiff, Nat.reduceAdd, eq_self, o_add, o_sub, o_mul, o_div, o_mod, o_cmp, o_int, o_lenl, o_lent, o_lens, o_tupl, o_tupt, o_min, o_max, q_int, ixk_tup, ixk_lst, ixk_scr, at0, at1, at2, at3, at4, at5, List.length_map, ln0, ln1, ln2, ln3, ln4, lnS0, lnS2, lnS4, q_id, q_ido, q_oi, q_oid, q_path, q_ln, q_ls, n_id, n_path, n_ln, n_ls, non_oid, non_oln, non_oct, non_id, non_ln, non_ct, non_path, un_ln, un_pl, in_ids, ad_path, eOp_s, eOp_n, lstk_ls, st_ls, fl_Placed_path, fl_Placed_names, fl_Placed_thing, fl_Placed_count, fl_Placed_cuts, fl_Placed_content, fl_Placed_ids, fl_Placed_line, fl_Placed_seen, fl_Shelved_place, fl_Shelved_thing, fl_Shelved_count, fl_Shelved_cuts, fl_Shelved_length, fl_Shelved_purpose]
      exact rt_pure (pu_two (pl.1, pl.2.1)) hk
    | some c =>
      have hs : settleF ls pl = (none, pl.2.2) := by
        unfold settleF
        rw [hf]
        exact if_neg (by rw [hc]; simp)
      rw [hs] at hk
      simp only [pForD, pInsL, pExtA, pSeq, pAsg, pVar, pC, pOp, pNil, pCons, pTup, pLst, pLstM, pNot, pAndV, pOrV, pIf, pB, pAnd, pOr, pNotT, pNoPart, pPart, pCB, pUnN, pSl, pNext, pBreak, pCont, pRet, pRetN, pDrop, pIfS, pgName, pgNil, pgCons, pgTup_t, pAug, pApp, pYes, isk_non, nsk_non, isN_non, isN_bl, isN_int, isN_str, isN_tup, isN_lst, isN_ref, isN_obj, pTru, pFld, pStar, pMake, pSetF, pIt, pRng1, pRng2, forG, List.map_cons, List.map_nil, List.getElem?_cons_zero, List.getElem?_cons_succ, List.set_cons_zero, List.set_cons_succ, Option.some.injEq, exists_eq_left, exists_eq_left', true_and, and_true, wipeE, D.bl.injEq, D.int.injEq, D.str.injEq, D.tup.injEq, D.lst.injEq, Bool.not_true, decide_eq_true_eq, if_true, if_false, reduceIte, Bool.false_eq_true, Option.isNone_none, Option.isNone_some, Bool.not_false, List.length_nil, List.length_cons, List.nil_append, List.cons_append, D.ref.injEq, SO.lst.injEq, pCall, exists_const, and_self, Nat.zero_add, Nat.zero_le, Nat.reduceLeDiff, Nat.reduceAdd, eq_self, o_add, o_sub, o_mul, o_div, o_mod, o_cmp, o_int, o_lenl, o_lent, o_lens, o_tupl, o_tupt, o_min, o_max, q_int, ixk_tup, ixk_lst, ixk_scr, at0, at1, at2, at3, at4, at5, List.length_map, ln0, ln1, ln2, ln3, ln4, lnS0, lnS2, lnS4, q_id, q_ido, q_oi, q_oid, q_path, q_ln, q_ls, n_id, n_path, n_ln, n_ls, non_oid, non_oln, non_oct, non_id, non_ln, non_ct, non_path, un_ln, un_pl, in_ids, ad_path, eOp_s, eOp_n, lstk_ls, st_ls, fl_Placed_path, fl_Placed_names, fl_Placed_thing, fl_Placed_count, fl_Placed_cuts, fl_Placed_content, fl_Placed_ids, fl_Placed_line, fl_Placed_seen, fl_Shelved_place, fl_Shelved_thing, fl_Shelved_count, fl_Shelved_cuts, fl_Shelved_length, fl_Shelved_purpose]
      exact rt_pure (pu_two (none, pl.2.2)) hk
theorem ok_settle {P : Program} {w : World} {K : PySem.W.Frag} {cl : Cl} {mg : Str → Option Value} {base : Heap} (D : Df K mg "settle" s_settle ["lines", "place"]) (T : Txt K cl mg) (G_find_line : C8.Cal P w K mg base 1 "find_line" (spP K cl F_find_line) []) : C8.Cal P w K mg base 2 "settle" (spP K cl F_settle) [] := by
  refine D.cal sc_settle (spP_len (n := 2) len_settle) (fun f cdv  A outer s H vs Q E hr h => ?_)
  refine ⟨_,
    (pss_cons (ps_asg (pv 1) (pg_tup rfl (pgs_cons (pg_name (i := 2) sc_settle.nd rfl (Or.inl rfl)) (pgs_cons (pg_name (i := 3) sc_settle.nd rfl (Or.inl rfl)) (pgs_cons (pg_name (i := 4) sc_settle.nd rfl (Or.inl rfl)) pgs_nil)))))
    (pss_cons (ps_set (i := 5) sc_settle.nd rfl (.inl rfl) (C8.pe_c G_find_line hr (by decide) (by rfl) (pa_cons (pv 0) (pa_cons (pv 2) pa_nil))))
    (pss_cons (ps_if (PW.pt (pw_or (pt_cmpR op_isN (pv 5) pe_non (nomark _)) (pw_or1 (pt_cmpR op_notN (pe_ix (show IxR _ (uIx K) from uix) (pv 5) pe_int (fun _ _ => rfl)) pe_non (nomark _)))))
      (pss_one (ps_ret (pe_tup (pa_cons pe_non (pa_cons (pv 4) pa_nil)))))
      pss_nil)
    (pss_one (ps_ret (pe_tup (pa_cons (pv 2) (pa_cons (pv 3) pa_nil)))))))), ?_⟩
  exact fn_ok (N := ["lines", "place", "inside", "below", "seen", "folder"]) (show SmS K cl _ ps_settle from
    (sm_seq (sm_asg sm_var (sm_gtup (sm_gcons sm_gname (sm_gcons sm_gname (sm_gcons sm_gname sm_gnil)))))
    (sm_seq (sm_asg (sm_call (sm_cons sm_var (sm_cons sm_var sm_nil))) sm_gname)
    (sm_seq (sm_ifS (sm_or (sm_test (sm_op smr_is sm_var sm_non)) (sm_test (sm_op smr_ns (sm_op smr_ix sm_var sm_int) sm_non)))
      ((sm_ret (sm_tup (sm_cons sm_non (sm_cons sm_var sm_nil)))))
      sm_next)
    ((sm_ret (sm_tup (sm_cons sm_var (sm_cons sm_var sm_nil))))))))) body_settle h
def pr_with_new_line_1 : PSx :=
    ((pRet (pLst (pStar (pVar 0) (pCons (pTup (pCons (pVar 3) (pCons (pVar 3) (pCons (pVar 8) (pCons (pVar 9) (pCons (pVar 5) pNil)))))) pNil)))))
def ps_with_new_line : PSx :=
    (pSeq (pAsg (pVar 1) (pgTup 6 (pgCons (pgName 2) (pgCons (pgName 3) (pgCons (pgName 4) (pgCons (pgName 5) (pgCons (pgName 6) (pgCons (pgName 2) pgNil))))))))
    (pSeq (pAsg (pCall F_find_line (pCons (pVar 0) (pCons (pVar 6) pNil))) (pgName 7))
    (pSeq (pIfS (pB (pOp isk (pVar 7) (pC .non)))
      ((pAsg (pCall F_settle (pCons (pVar 0) (pCons (pVar 4) pNil))) (pgTup 2 (pgCons (pgName 8) (pgCons (pgName 9) pgNil)))))
      ((pAsg (pVar 7) (pgTup 5 (pgCons (pgName 2) (pgCons (pgName 2) (pgCons (pgName 8) (pgCons (pgName 9) (pgCons (pgName 2) pgNil)))))))))
    pr_with_new_line_1)))
theorem start_with_new_line : ∀ a0 a1 : D, startE 10 [a0, a1] = [some a0, some a1, none, none, none, none, none, none, none, none] := fun _ _ => rfl
def F_with_new_line : PFn := fun ds k => ∃ ls id pl ct meant hs, ds = [eLs ls, eEd (.write id pl ct meant hs)] ∧ ls.length ≤ 1000 ∧ k (eLs (withNew ls id pl ct meant))
theorem len_with_new_line : ∀ ds k, F_with_new_line ds k → ds.length = 2 := by
  rintro _ _ ⟨_, _, _, _, _, _, rfl, _⟩
  rfl
theorem un_wr {id : Ln.Id} {pl : Ln.Place} {ct : Option Ct} {meant : Option Ln.Id} {hs : List Ln.Id} {env : Pw.Env} {S : Sto} {k : Pw.Env → Sto → Prop} {gs : PGsx} : pgTup 6 gs (eEd (.write id pl ct meant hs)) env S k = gs [.str (Str.ofString "write"), eId id, ePl pl, eOp eCt ct, eOp eId meant, eIds hs] env S k := by
  show (6 = 6 ∧ _) = _
  simp
theorem body_with_new_line : ∀ ds k, F_with_new_line ds k → ps_with_new_line { nx := fun _ _ => k .non, rt := fun d S => (d.frz S).noRef = true ∧ k (d.frz S) } (startE 10 ds) [] := by
  rintro _ k ⟨ls, id, pl, ct, meant, hs, rfl, hl, hk⟩
  rw [start_with_new_line]
  unfold ps_with_new_line
  simp only [pForD, pInsL, pExtA, pSeq, pAsg, pVar, pC, pOp, pNil, pCons, pTup, pLst, pLstM, pNot, pAndV, pOrV, pIf, pB, pAnd, pOr, pNotT, pNoPart, pPart, pCB, pUnN, pSl, pNext, pBreak, pCont, pRet, pRetN, pDrop, pIfS, pgName, pgNil, pgCons, pgTup_t, pAug, pApp, pYes, isk_non, nsk_non, isN_non, isN_bl, isN_int, isN_str, isN_tup, isN_lst, isN_ref, isN_obj, pTru, pFld, pStar, pMake, pSetF, pIt, pRng1, pRng2, forG, List.map_cons, List.map_nil, List.getElem?_cons_zero, List.getElem?_cons_succ, List.set_cons_zero, List.set_cons_succ, Option.some.injEq, exists_eq_left, exists_eq_left', true_and, and_true, wipeE, D.bl.injEq, D.int.injEq, D.str.injEq, D.tup.injEq, D.lst.injEq, Bool.not_true, decide_eq_true_eq, if_true, if_false, reduceIte, Bool.false_eq_true, Option.isNone_none, Option.isNone_some, Bool.not_false, List.length_nil, List.length_cons, List.nil_append, List.cons_append, D.ref.injEq, SO.lst.injEq, pCall, exists_const, and_self, Nat.zero_add, Nat.zero_le, Nat.reduceLeDiff, Nat.reduceAdd, eq_self, o_add, o_sub, o_mul, o_div, o_mod, o_cmp, o_int, o_lenl, o_lent, o_lens, o_tupl, o_tupt, o_min, o_max, q_int, ixk_tup, ixk_lst, ixk_scr, at0, at1, at2, at3, at4, at5, List.length_map, ln0, ln1, ln2, ln3, ln4, lnS0, lnS2, lnS4, q_id, q_ido, q_oi, q_oid, q_path, q_ln, q_ls, n_id, n_path, n_ln, n_ls, non_oid, non_oln, non_oct, non_id, non_ln, non_ct, non_path, un_ln, un_pl, in_ids, ad_path, eOp_s, eOp_n, lstk_ls, st_ls, fl_Placed_path, fl_Placed_names, fl_Placed_thing, fl_Placed_count, fl_Placed_cuts, fl_Placed_content, fl_Placed_ids, fl_Placed_line, fl_Placed_seen, fl_Shelved_place, fl_Shelved_thing, fl_Shelved_count, fl_Shelved_cuts, fl_Shelved_length, fl_Shelved_purpose, un_wr]
  refine call_of (by simp only [pureAll, pu_ls, pu_lsl, pu_oid, pu_id, pu_ln, pu_oln, pu_pl, pu_ed, pu_eds, pu_idst, pu_path, pu_oct, pu_mv, pu_mvs, pu_str, pu_int, pu_bl, pu_non, eOp_s, eOp_n, Bool.and_self]) ⟨ls, meant, rfl, ?_⟩
  have fin : ∀ w, whereF ls pl meant = w → ls.length + 1 ≤ 100000 ∧ (D.frz [] (.lst (ls.map eLn ++ [.tup [eId id, eId id, eOp eId w.1, ePath w.2, eOp eCt ct]]))).noRef = true ∧ k (D.frz [] (.lst (ls.map eLn ++ [.tup [eId id, eId id, eOp eId w.1, ePath w.2, eOp eCt ct]]))) := by
    rintro w rfl
    have e : D.lst (ls.map eLn ++ [.tup [eId id, eId id, eOp eId (whereF ls pl meant).1, ePath (whereF ls pl meant).2, eOp eCt ct]]) = eLs (withNew ls id pl ct meant) := by
      unfold withNew eLs
      rw [List.map_append]
      rfl
    rw [e]
    exact ⟨by omega, rt_pure (pu_ls _) hk⟩
  cases hm : findLine ls meant with
  | none =>
    simp only [pForD, pInsL, pExtA, pSeq, pAsg, pVar, pC, pOp, pNil, pCons, pTup, pLst, pLstM, pNot, pAndV, pOrV, pIf, pB, pAnd, pOr, pNotT, pNoPart, pPart, pCB, pUnN, pSl, pNext, pBreak, pCont, pRet, pRetN, pDrop, pIfS, pgName, pgNil, pgCons, pgTup_t, pAug, pApp, pYes, isk_non, nsk_non, isN_non, isN_bl, isN_int, isN_str, isN_tup, isN_lst, isN_ref, isN_obj, pTru, pFld, pStar, pMake, pSetF, pIt, pRng1, pRng2, forG, List.map_cons, List.map_nil, List.getElem?_cons_zero, List.getElem?_cons_succ, List.set_cons_zero, List.set_cons_succ, Option.some.injEq, exists_eq_left, exists_eq_left', true_and, and_true, wipeE, D.bl.injEq, D.int.injEq, D.str.injEq, D.tup.injEq, D.lst.injEq, Bool.not_true, decide_eq_true_eq, if_true, if_false, reduceIte, Bool.false_eq_true, Option.isNone_none, Option.isNone_some, Bool.not_false, List.length_nil, List.length_cons, List.nil_append, List.cons_append, D.ref.injEq, SO.lst.injEq, pCall, exists_const, and_self, Nat.zero_add, Nat.zero_le, Nat.reduceLeDiff, Nat.reduceAdd, eq_self, o_add, o_sub, o_mul, o_div, o_mod, o_cmp, o_int, o_lenl, o_lent, o_lens, o_tupl, o_tupt, o_min, o_max, q_int, ixk_tup, ixk_lst, ixk_scr, at0, at1, at2, at3, at4, at5, List.length_map, ln0, ln1, ln2, ln3, ln4, lnS0, lnS2, lnS4, q_id, q_ido, q_oi, q_oid, q_path, q_ln, q_ls, n_id, n_path, n_ln, n_ls, non_oid, non_oln, non_oct, non_id, non_ln, non_ct, non_path, un_ln, un_pl, in_ids, ad_path, eOp_s, eOp_n, lstk_ls, st_ls, fl_Placed_path, fl_Placed_names, fl_Placed_thing, fl_Placed_count, fl_Placed_cuts, fl_Placed_content, fl_Placed_ids, fl_Placed_line, fl_Placed_seen, fl_Shelved_place, fl_Shelved_thing, fl_Shelved_count, fl_Shelved_cuts, fl_Shelved_length, fl_Shelved_purpose]
    refine call_of (by simp only [pureAll, pu_ls, pu_lsl, pu_oid, pu_id, pu_ln, pu_oln, pu_pl, pu_ed, pu_eds, pu_idst, pu_path, pu_oct, pu_mv, pu_mvs, pu_str, pu_int, pu_bl, pu_non, eOp_s, eOp_n, Bool.and_self]) ⟨ls, pl, rfl, ?_⟩
    unfold eTwo
    simp only [pForD, pInsL, pExtA, pSeq, pAsg, pVar, pC, pOp, pNil, pCons, pTup, pLst, pLstM, pNot, pAndV, pOrV, pIf, pB, pAnd, pOr, pNotT, pNoPart, pPart, pCB, pUnN, pSl, pNext, pBreak, pCont, pRet, pRetN, pDrop, pIfS, pgName, pgNil, pgCons, pgTup_t, pAug, pApp, pYes, isk_non, nsk_non, isN_non, isN_bl, isN_int, isN_str, isN_tup, isN_lst, isN_ref, isN_obj, pTru, pFld, pStar, pMake, pSetF, pIt, pRng1, pRng2, forG, List.map_cons, List.map_nil, List.getElem?_cons_zero, List.getElem?_cons_succ, List.set_cons_zero, List.set_cons_succ, Option.some.injEq, exists_eq_left, exists_eq_left', true_and, and_true, wipeE, D.bl.injEq, D.int.injEq, D.str.injEq, D.tup.injEq, D.lst.injEq, Bool.not_true, decide_eq_true_eq, if_true, if_false, reduceIte, Bool.false_eq_true, Option.isNone_none, Option.isNone_some, Bool.not_false, List.length_nil, List.length_cons, List.nil_append, List.cons_append, D.ref.injEq, SO.lst.injEq, pCall, exists_const, and_self, Nat.zero_add, Nat.zero_le, Nat.reduceLeDiff, Nat.reduceAdd, eq_self, o_add, o_sub, o_mul, o_div, o_mod, o_cmp, o_int, o_lenl, o_lent, o_lens, o_tupl, o_tupt, o_min, o_max, q_int, ixk_tup, ixk_lst, ixk_scr, at0, at1, at2, at3, at4, at5, List.length_map, ln0, ln1, ln2, ln3, ln4, lnS0, lnS2, lnS4, q_id, q_ido, q_oi, q_oid, q_path, q_ln, q_ls, n_id, n_path, n_ln, n_ls, non_oid, non_oln, non_oct, non_id, non_ln, non_ct, non_path, un_ln, un_pl, in_ids, ad_path, eOp_s, eOp_n, lstk_ls, st_ls, fl_Placed_path, fl_Placed_names, fl_Placed_thing, fl_Placed_count, fl_Placed_cuts, fl_Placed_content, fl_Placed_ids, fl_Placed_line, fl_Placed_seen, fl_Shelved_place, fl_Shelved_thing, fl_Shelved_count, fl_Shelved_cuts, fl_Shelved_length, fl_Shelved_purpose]
    have := fin (settleF ls pl) (by unfold whereF; rw [hm])
    unfold pr_with_new_line_1
    simp only [pForD, pInsL, pExtA, pSeq, pAsg, pVar, pC, pOp, pNil, pCons, pTup, pLst, pLstM, pNot, pAndV, pOrV, pIf, pB, pAnd, pOr, pNotT, pNoPart, pPart, pCB, pUnN, pSl, pNext, pBreak, pCont, pRet, pRetN, pDrop, pIfS, pgName, pgNil, pgCons, pgTup_t, pAug, pApp, pYes, isk_non, nsk_non, isN_non, isN_bl, isN_int, isN_str, isN_tup, isN_lst, isN_ref, isN_obj, pTru, pFld, pStar, pMake, pSetF, pIt, pRng1, pRng2, forG, List.map_cons, List.map_nil, List.getElem?_cons_zero, List.getElem?_cons_succ, List.set_cons_zero, List.set_cons_succ, Option.some.injEq, exists_eq_left, exists_eq_left', true_and, and_true, wipeE, D.bl.injEq, D.int.injEq, D.str.injEq, D.tup.injEq, D.lst.injEq, Bool.not_true, decide_eq_true_eq, if_true, if_false, reduceIte, Bool.false_eq_true, Option.isNone_none, Option.isNone_some, Bool.not_false, List.length_nil, List.length_cons, List.nil_append, List.cons_append, D.ref.injEq, SO.lst.injEq, pCall, exists_const, and_self, Nat.zero_add, Nat.zero_le, Nat.reduceLeDiff, Nat.reduceAdd, eq_self, o_add, o_sub, o_mul, o_div, o_mod, o_cmp, o_int, o_lenl, o_lent, o_lens, o_tupl, o_tupt, o_min, o_max, q_int, ixk_tup, ixk_lst, ixk_scr, at0, at1, at2, at3, at4, at5, List.length_map, ln0, ln1, ln2, ln3, ln4, lnS0, lnS2, lnS4, q_id, q_ido, q_oi, q_oid, q_path, q_ln, q_ls, n_id, n_path, n_ln, n_ls, non_oid, non_oln, non_oct, non_id, non_ln, non_ct, non_path, un_ln, un_pl, in_ids, ad_path, eOp_s, eOp_n, lstk_ls, st_ls, fl_Placed_path, fl_Placed_names, fl_Placed_thing, fl_Placed_count, fl_Placed_cuts, fl_Placed_content, fl_Placed_ids, fl_Placed_line, fl_Placed_seen, fl_Shelved_place, fl_Shelved_thing, fl_Shelved_count, fl_Shelved_cuts, fl_Shelved_length, fl_Shelved_purpose]
    rw [List.length_append, List.length_map]
    exact this
  | some m =>
    simp only [pForD, pInsL, pExtA, pSeq, pAsg, pVar, pC, pOp, pNil, pCons, pTup, pLst, pLstM, pNot, pAndV, pOrV, pIf, pB, pAnd, pOr, pNotT, pNoPart, pPart, pCB, pUnN, pSl, pNext, pBreak, pCont, pRet, pRetN, pDrop, pIfS, pgName, pgNil, pgCons, pgTup_t, pAug, pApp, pYes, isk_non, nsk_non, isN_non, isN_bl, isN_int, isN_str, isN_tup, isN_lst, isN_ref, isN_obj, pTru, pFld, pStar, pMake, pSetF, pIt, pRng1, pRng2, forG, List.map_cons, List.map_nil, List.getElem?_cons_zero, List.getElem?_cons_succ, List.set_cons_zero, List.set_cons_succ, Option.some.injEq, exists_eq_left, exists_eq_left', true_and, and_true, wipeE, D.bl.injEq, D.int.injEq, D.str.injEq, D.tup.injEq, D.lst.injEq, Bool.not_true, decide_eq_true_eq, if_true, if_false, reduceIte, Bool.false_eq_true, Option.isNone_none, Option.isNone_some, Bool.not_false, List.length_nil, List.length_cons, List.nil_append, List.cons_append, D.ref.injEq, SO.lst.injEq, pCall, exists_const, and_self, Nat.zero_add, Nat.zero_le, Nat.reduceLeDiff, Nat.reduceAdd, eq_self, o_add, o_sub, o_mul, o_div, o_mod, o_cmp, o_int, o_lenl, o_lent, o_lens, o_tupl, o_tupt, o_min, o_max, q_int, ixk_tup, ixk_lst, ixk_scr, at0, at1, at2, at3, at4, at5, List.length_map, ln0, ln1, ln2, ln3, ln4, lnS0, lnS2, lnS4, q_id, q_ido, q_oi, q_oid, q_path, q_ln, q_ls, n_id, n_path, n_ln, n_ls, non_oid, non_oln, non_oct, non_id, non_ln, non_ct, non_path, un_ln, un_pl, in_ids, ad_path, eOp_s, eOp_n, lstk_ls, st_ls, fl_Placed_path, fl_Placed_names, fl_Placed_thing, fl_Placed_count, fl_Placed_cuts, fl_Placed_content, fl_Placed_ids, fl_Placed_line, fl_Placed_seen, fl_Shelved_place, fl_Shelved_thing, fl_Shelved_count, fl_Shelved_cuts, fl_Shelved_length, fl_Shelved_purpose]
    have := fin (m.ins, m.path) (by unfold whereF; rw [hm])
    unfold pr_with_new_line_1
    simp only [pForD, pInsL, pExtA, pSeq, pAsg, pVar, pC, pOp, pNil, pCons, pTup, pLst, pLstM, pNot, pAndV, pOrV, pIf, pB, pAnd, pOr, pNotT, pNoPart, pPart, pCB, pUnN, pSl, pNext, pBreak, pCont, pRet, pRetN, pDrop, pIfS, pgName, pgNil, pgCons, pgTup_t, pAug, pApp, pYes, isk_non, nsk_non, isN_non, isN_bl, isN_int, isN_str, isN_tup, isN_lst, isN_ref, isN_obj, pTru, pFld, pStar, pMake, pSetF, pIt, pRng1, pRng2, forG, List.map_cons, List.map_nil, List.getElem?_cons_zero, List.getElem?_cons_succ, List.set_cons_zero, List.set_cons_succ, Option.some.injEq, exists_eq_left, exists_eq_left', true_and, and_true, wipeE, D.bl.injEq, D.int.injEq, D.str.injEq, D.tup.injEq, D.lst.injEq, Bool.not_true, decide_eq_true_eq, if_true, if_false, reduceIte, Bool.false_eq_true, Option.isNone_none, Option.isNone_some, Bool.not_false, List.length_nil, List.length_cons, List.nil_append, List.cons_append, D.ref.injEq, SO.lst.injEq, pCall, exists_const, and_self, Nat.zero_add, Nat.zero_le, Nat.reduceLeDiff, Nat.reduceAdd, eq_self, o_add, o_sub, o_mul, o_div, o_mod, o_cmp, o_int, o_lenl, o_lent, o_lens, o_tupl, o_tupt, o_min, o_max, q_int, ixk_tup, ixk_lst, ixk_scr, at0, at1, at2, at3, at4, at5, List.length_map, ln0, ln1, ln2, ln3, ln4, lnS0, lnS2, lnS4, q_id, q_ido, q_oi, q_oid, q_path, q_ln, q_ls, n_id, n_path, n_ln, n_ls, non_oid, non_oln, non_oct, non_id, non_ln, non_ct, non_path, un_ln, un_pl, in_ids, ad_path, eOp_s, eOp_n, lstk_ls, st_ls, fl_Placed_path, fl_Placed_names, fl_Placed_thing, fl_Placed_count, fl_Placed_cuts, fl_Placed_content, fl_Placed_ids, fl_Placed_line, fl_Placed_seen, fl_Shelved_place, fl_Shelved_thing, fl_Shelved_count, fl_Shelved_cuts, fl_Shelved_length, fl_Shelved_purpose]
    rw [List.length_append, List.length_map]
    exact this
theorem ok_with_new_line {P : Program} {w : World} {K : PySem.W.Frag} {cl : Cl} {mg : Str → Option Value} {base : Heap} (D : Df K mg "with_new_line" s_with_new_line ["lines", "edit"]) (T : Txt K cl mg) (G_find_line : C8.Cal P w K mg base 1 "find_line" (spP K cl F_find_line) []) (G_settle : C8.Cal P w K mg base 2 "settle" (spP K cl F_settle) []) : C8.Cal P w K mg base 3 "with_new_line" (spP K cl F_with_new_line) [] := by
  refine D.cal sc_with_new_line (spP_len (n := 2) len_with_new_line) (fun f cdv  A outer s H vs Q E hr h => ?_)
  refine ⟨_,
    (pss_cons (ps_asg (pv 1) (pg_tup rfl (pgs_cons (pg_name (i := 2) sc_with_new_line.nd rfl (Or.inl rfl)) (pgs_cons (pg_name (i := 3) sc_with_new_line.nd rfl (Or.inl rfl)) (pgs_cons (pg_name (i := 4) sc_with_new_line.nd rfl (Or.inl rfl)) (pgs_cons (pg_name (i := 5) sc_with_new_line.nd rfl (Or.inl rfl)) (pgs_cons (pg_name (i := 6) sc_with_new_line.nd rfl (Or.inl rfl)) (pgs_cons (pg_name (i := 2) sc_with_new_line.nd rfl (Or.inl rfl)) pgs_nil))))))))
    (pss_cons (ps_set (i := 7) sc_with_new_line.nd rfl (.inl rfl) (C8.pe_c G_find_line hr (by decide) (by rfl) (pa_cons (pv 0) (pa_cons (pv 6) pa_nil))))
    (pss_cons (ps_if (pt_cmpR op_isN (pv 7) pe_non (nomark _))
      (pss_one (ps_asg (C8.pe_c G_settle hr (by decide) (by rfl) (pa_cons (pv 0) (pa_cons (pv 4) pa_nil))) (pg_tup rfl (pgs_cons (pg_name (i := 8) sc_with_new_line.nd rfl (Or.inl rfl)) (pgs_cons (pg_name (i := 9) sc_with_new_line.nd rfl (Or.inl rfl)) pgs_nil)))))
      (pss_one (ps_asg (pv 7) (pg_tup rfl (pgs_cons (pg_name (i := 2) sc_with_new_line.nd rfl (Or.inl rfl)) (pgs_cons (pg_name (i := 2) sc_with_new_line.nd rfl (Or.inl rfl)) (pgs_cons (pg_name (i := 8) sc_with_new_line.nd rfl (Or.inl rfl)) (pgs_cons (pg_name (i := 9) sc_with_new_line.nd rfl (Or.inl rfl)) (pgs_cons (pg_name (i := 2) sc_with_new_line.nd rfl (Or.inl rfl)) pgs_nil)))))))))
    (pss_one (ps_ret (pe_lst (StX.pa_star (pv 0) (pa_cons (pe_tup (pa_cons (pv 3) (pa_cons (pv 3) (pa_cons (pv 8) (pa_cons (pv 9) (pa_cons (pv 5) pa_nil)))))) pa_nil)))))))), ?_⟩
  exact fn_ok (N := ["lines", "edit", "_", "edit_id", "place", "content", "meant_id", "meant", "inside", "below"]) (show SmS K cl _ ps_with_new_line from
    (sm_seq (sm_asg sm_var (sm_gtup (sm_gcons sm_gname (sm_gcons sm_gname (sm_gcons sm_gname (sm_gcons sm_gname (sm_gcons sm_gname (sm_gcons sm_gname sm_gnil))))))))
    (sm_seq (sm_asg (sm_call (sm_cons sm_var (sm_cons sm_var sm_nil))) sm_gname)
    (sm_seq (sm_ifS (sm_test (sm_op smr_is sm_var sm_non))
      ((sm_asg (sm_call (sm_cons sm_var (sm_cons sm_var sm_nil))) (sm_gtup (sm_gcons sm_gname (sm_gcons sm_gname sm_gnil)))))
      ((sm_asg sm_var (sm_gtup (sm_gcons sm_gname (sm_gcons sm_gname (sm_gcons sm_gname (sm_gcons sm_gname (sm_gcons sm_gname sm_gnil)))))))))
    ((sm_ret (sm_lst (sm_star sm_var (sm_cons (sm_tup (sm_cons sm_var (sm_cons sm_var (sm_cons sm_var (sm_cons sm_var (sm_cons sm_var sm_nil)))))) sm_nil))))))))) body_with_new_line h
def pl_first_replaced_1 : PSx :=
      ((pIfS (pAnd (pB (pOp nsk (pOp ixk (pVar 2) (pC (.int 4))) (pC .non))) (pB (pOp ink (pOp ixk (pVar 2) (pC (.int 1))) (pVar 1))))
        ((pRet (pVar 2)))
        pNext))
theorem pl_first_replaced_1_d (P : PEnds) (env : Pw.Env) (S : Sto) : pl_first_replaced_1 P env S = (
      ((pIfS (pAnd (pB (pOp nsk (pOp ixk (pVar 2) (pC (.int 4))) (pC .non))) (pB (pOp ink (pOp ixk (pVar 2) (pC (.int 1))) (pVar 1))))
        ((pRet (pVar 2)))
        pNext))) P env S := rfl
def ps_first_replaced : PSx :=
    (pSeq (pIfS (pB (pOp eqk (pVar 1) (pTup pNil)))
      ((pRet (pC .non)))
      pNext)
    (pSeq (pFor (pIt (pVar 0)) (pgName 2) pl_first_replaced_1)
    ((pRet (pC .non)))))
theorem start_first_replaced : ∀ a0 a1 : D, startE 3 [a0, a1] = [some a0, some a1, none] := fun _ _ => rfl
def F_first_replaced : PFn := fun ds k => ∃ ls hs, ds = [eLs ls, eIds hs] ∧ k (eOp eLn (firstRep ls hs))
theorem len_first_replaced : ∀ ds k, F_first_replaced ds k → ds.length = 2 := by
  rintro _ _ ⟨_, _, rfl, _⟩
  rfl
theorem body_first_replaced : ∀ ds k, F_first_replaced ds k → ps_first_replaced { nx := fun _ _ => k .non, rt := fun d S => (d.frz S).noRef = true ∧ k (d.frz S) } (startE 3 ds) [] := by
  rintro _ k ⟨ls, hs, rfl, hk⟩
  rw [start_first_replaced]
  unfold ps_first_replaced
  simp only [pForD, pInsL, pExtA, pSeq, pAsg, pVar, pC, pOp, pNil, pCons, pTup, pLst, pLstM, pNot, pAndV, pOrV, pIf, pB, pAnd, pOr, pNotT, pNoPart, pPart, pCB, pUnN, pSl, pNext, pBreak, pCont, pRet, pRetN, pDrop, pIfS, pgName, pgNil, pgCons, pgTup_t, pAug, pApp, pYes, isk_non, nsk_non, isN_non, isN_bl, isN_int, isN_str, isN_tup, isN_lst, isN_ref, isN_obj, pTru, pFld, pStar, pMake, pSetF, pIt, pRng1, pRng2, forG, List.map_cons, List.map_nil, List.getElem?_cons_zero, List.getElem?_cons_succ, List.set_cons_zero, List.set_cons_succ, Option.some.injEq, exists_eq_left, exists_eq_left', true_and, and_true, wipeE, D.bl.injEq, D.int.injEq, D.str.injEq, D.tup.injEq, D.lst.injEq, Bool.not_true, decide_eq_true_eq, if_true, if_false, reduceIte, Bool.false_eq_true, Option.isNone_none, Option.isNone_some, Bool.not_false, List.length_nil, List.length_cons, List.nil_append, List.cons_append, D.ref.injEq, SO.lst.injEq, pCall, exists_const, and_self, Nat.zero_add, Nat.zero_le, Nat.reduceLeDiff, Nat.reduceAdd, eq_self, o_add, o_sub, o_mul, o_div, o_mod, o_cmp, o_int, o_lenl, o_lent, o_lens, o_tupl, o_tupt, o_min, o_max, q_int, ixk_tup, ixk_lst, ixk_scr, at0, at1, at2, at3, at4, at5, List.length_map, ln0, ln1, ln2, ln3, ln4, lnS0, lnS2, lnS4, q_id, q_ido, q_oi, q_oid, q_path, q_ln, q_ls, n_id, n_path, n_ln, n_ls, non_oid, non_oln, non_oct, non_id, non_ln, non_ct, non_path, un_ln, un_pl, in_ids, ad_path, eOp_s, eOp_n, lstk_ls, st_ls, fl_Placed_path, fl_Placed_names, fl_Placed_thing, fl_Placed_count, fl_Placed_cuts, fl_Placed_content, fl_Placed_ids, fl_Placed_line, fl_Placed_seen, fl_Shelved_place, fl_Shelved_thing, fl_Shelved_count, fl_Shelved_cuts, fl_Shelved_length, fl_Shelved_purpose, q_none]
  by_cases he : hs = []
  · rw [if_pos he]
    have hf : firstRep ls hs = none := by
      rw [he]
      unfold firstRep
      rw [List.find?_eq_none]
      intro x _
      simp
    rw [hf] at hk
    exact rt_pure rfl hk
  rw [if_neg he]
  refine for_go (src := eLs ls) (ds := ls.map eLn) (fun kk h => ⟨_, rfl, _, rfl, h⟩) (fun _ => rfl) ?_
  generalize eLs ls = l0
  generalize (none : Option D) = x
  induction ls generalizing x with
  | nil =>
    simp only [pForD, pInsL, pExtA, pSeq, pAsg, pVar, pC, pOp, pNil, pCons, pTup, pLst, pLstM, pNot, pAndV, pOrV, pIf, pB, pAnd, pOr, pNotT, pNoPart, pPart, pCB, pUnN, pSl, pNext, pBreak, pCont, pRet, pRetN, pDrop, pIfS, pgName, pgNil, pgCons, pgTup_t, pAug, pApp, pYes, isk_non, nsk_non, isN_non, isN_bl, isN_int, isN_str, isN_tup, isN_lst, isN_ref, isN_obj, pTru, pFld, pStar, pMake, pSetF, pIt, pRng1, pRng2, forG, List.map_cons, List.map_nil, List.getElem?_cons_zero, List.getElem?_cons_succ, List.set_cons_zero, List.set_cons_succ, Option.some.injEq, exists_eq_left, exists_eq_left', true_and, and_true, wipeE, D.bl.injEq, D.int.injEq, D.str.injEq, D.tup.injEq, D.lst.injEq, Bool.not_true, decide_eq_true_eq, if_true, if_false, reduceIte, Bool.false_eq_true, Option.isNone_none, Option.isNone_some, Bool.not_false, List.length_nil, List.length_cons, List.nil_append, List.cons_append, D.ref.injEq, SO.lst.injEq, pCall, exists_const, and_self, Nat.zero_add, Nat.zero_le, Nat.reduceLeDiff, Nat.reduceAdd, eq_self, o_add, o_sub, o_mul, o_div, o_mod, o_cmp, o_int, o_lenl, o_lent, o_lens, o_tupl, o_tupt, o_min, o_max, q_int, ixk_tup, ixk_lst, ixk_scr, at0, at1, at2, at3, at4, at5, List.length_map, ln0, ln1, ln2, ln3, ln4, lnS0, lnS2, lnS4, q_id, q_ido, q_oi, q_oid, q_path, q_ln, q_ls, n_id, n_path, n_ln, n_ls, non_oid, non_oln, non_oct, non_id, non_ln, non_ct, non_path, un_ln, un_pl, in_ids, ad_path, eOp_s, eOp_n, lstk_ls, st_ls, fl_Placed_path, fl_Placed_names, fl_Placed_thing, fl_Placed_count, fl_Placed_cuts, fl_Placed_content, fl_Placed_ids, fl_Placed_line, fl_Placed_seen, fl_Shelved_place, fl_Shelved_thing, fl_Shelved_count, fl_Shelved_cuts, fl_Shelved_length, fl_Shelved_purpose]
    exact rt_pure rfl hk
  | cons a ls ih =>
    simp only [pForD, pInsL, pExtA, pSeq, pAsg, pVar, pC, pOp, pNil, pCons, pTup, pLst, pLstM, pNot, pAndV, pOrV, pIf, pB, pAnd, pOr, pNotT, pNoPart, pPart, pCB, pUnN, pSl, pNext, pBreak, pCont, pRet, pRetN, pDrop, pIfS, pgName, pgNil, pgCons, pgTup_t, pAug, pApp, pYes, isk_non, nsk_non, isN_non, isN_bl, isN_int, isN_str, isN_tup, isN_lst, isN_ref, isN_obj, pTru, pFld, pStar, pMake, pSetF, pIt, pRng1, pRng2, forG, List.map_cons, List.map_nil, List.getElem?_cons_zero, List.getElem?_cons_succ, List.set_cons_zero, List.set_cons_succ, Option.some.injEq, exists_eq_left, exists_eq_left', true_and, and_true, wipeE, D.bl.injEq, D.int.injEq, D.str.injEq, D.tup.injEq, D.lst.injEq, Bool.not_true, decide_eq_true_eq, if_true, if_false, reduceIte, Bool.false_eq_true, Option.isNone_none, Option.isNone_some, Bool.not_false, List.length_nil, List.length_cons, List.nil_append, List.cons_append, D.ref.injEq, SO.lst.injEq, pCall, exists_const, and_self, Nat.zero_add, Nat.zero_le, Nat.reduceLeDiff, Nat.reduceAdd, eq_self, o_add, o_sub, o_mul, o_div, o_mod, o_cmp, o_int, o_lenl, o_lent, o_lens, o_tupl, o_tupt, o_min, o_max, q_int, ixk_tup, ixk_lst, ixk_scr, at0, at1, at2, at3, at4, at5, List.length_map, ln0, ln1, ln2, ln3, ln4, lnS0, lnS2, lnS4, q_id, q_ido, q_oi, q_oid, q_path, q_ln, q_ls, n_id, n_path, n_ln, n_ls, non_oid, non_oln, non_oct, non_id, non_ln, non_ct, non_path, un_ln, un_pl, in_ids, ad_path, eOp_s, eOp_n, lstk_ls, st_ls, fl_Placed_path, fl_Placed_names, fl_Placed_thing, fl_Placed_count, fl_Placed_cuts, fl_Placed_content, fl_Placed_ids, fl_Placed_line, fl_Placed_seen, fl_Shelved_place, fl_Shelved_thing, fl_Shelved_count, fl_Shelved_cuts, fl_Shelved_length, fl_Shelved_purpose, pl_first_replaced_1_d]
    have hk' : ∀ b, (a.ct.isSome && decide (a.hd ∈ hs)) = b → k (eOp eLn (if b = true then some a else firstRep ls hs)) := by
      rintro b rfl
      have e : firstRep (a :: ls) hs = if (a.ct.isSome && decide (a.hd ∈ hs)) = true then some a else firstRep ls hs := by
        unfold firstRep
        rw [List.find?_cons]
        cases (a.ct.isSome && decide (a.hd ∈ hs)) <;> rfl
      rw [← e]
      exact hk
    cases hc : a.ct with
    | none =>
      rw [hc] at hk'
      simp only [pForD, pInsL, pExtA, pSeq, pAsg, pVar, pC, pOp, pNil, pCons, pTup, pLst, pLstM, pNot, pAndV, pOrV, pIf, pB, pAnd, pOr, pNotT, pNoPart, pPart, pCB, pUnN, pSl, pNext, pBreak, pCont, pRet, pRetN, pDrop, pIfS, pgName, pgNil, pgCons, pgTup_t, pAug, pApp, pYes, isk_non, nsk_non, isN_non, isN_bl, isN_int, isN_str, isN_tup, isN_lst, isN_ref, isN_obj, pTru, pFld, pStar, pMake, pSetF, pIt, pRng1, pRng2, forG, List.map_cons, List.map_nil, List.getElem?_cons_zero, List.getElem?_cons_succ, List.set_cons_zero, List.set_cons_succ, Option.some.injEq, exists_eq_left, exists_eq_left', true_and, and_true, wipeE, D.bl.injEq, D.int.injEq, D.str.injEq, D.tup.injEq, D.lst.injEq, Bool.not_true, decide_eq_true_eq, if_true, if_false, reduceIte, Bool.false_eq_true, Option.isNone_none, Option.isNone_some, Bool.not_false, List.length_nil, List.length_cons, List.nil_append, List.cons_append, D.ref.injEq, SO.lst.injEq, pCall, exists_const, and_self, Nat.zero_add, Nat.zero_le, Nat.reduceLeDiff, Nat.reduceAdd, eq_self, o_add, o_sub, o_mul, o_div, o_mod, o_cmp, o_int, o_lenl, o_lent, o_lens, o_tupl, o_tupt, o_min, o_max, q_int, ixk_tup, ixk_lst, ixk_scr, at0, at1, at2, at3, at4, at5, List.length_map, ln0, ln1, ln2, ln3, ln4, lnS0, lnS2, lnS4, q_id, q_ido, q_oi, q_oid, q_path, q_ln, q_ls, n_id, n_path, n_ln, n_ls, non_oid, non_oln, non_oct, non_id, non_ln, non_ct, non_path, un_ln, un_pl, in_ids, ad_path, eOp_s, eOp_n, lstk_ls, st_ls, fl_Placed_path, fl_Placed_names, fl_Placed_thing, fl_Placed_count, fl_Placed_cuts, fl_Placed_content, fl_Placed_ids, fl_Placed_line, fl_Placed_seen, fl_Shelved_place, fl_Shelved_thing, fl_Shelved_count, fl_Shelved_cuts, fl_Shelved_length, fl_Shelved_purpose]
      exact ih (hk' false rfl) _
    | some c =>
      rw [hc] at hk'
      simp only [pForD, pInsL, pExtA, pSeq, pAsg, pVar, pC, pOp, pNil, pCons, pTup, pLst, pLstM, pNot, pAndV, pOrV, pIf, pB, pAnd, pOr, pNotT, pNoPart, pPart, pCB, pUnN, pSl, pNext, pBreak, pCont, pRet, pRetN, pDrop, pIfS, pgName, pgNil, pgCons, pgTup_t, pAug, pApp, pYes, isk_non, nsk_non, isN_non, isN_bl, isN_int, isN_str, isN_tup, isN_lst, isN_ref, isN_obj, pTru, pFld, pStar, pMake, pSetF, pIt, pRng1, pRng2, forG, List.map_cons, List.map_nil, List.getElem?_cons_zero, List.getElem?_cons_succ, List.set_cons_zero, List.set_cons_succ, Option.some.injEq, exists_eq_left, exists_eq_left', true_and, and_true, wipeE, D.bl.injEq, D.int.injEq, D.str.injEq, D.tup.injEq, D.lst.injEq, Bool.not_true, decide_eq_true_eq, if_true, if_false, reduceIte, Bool.false_eq_true, Option.isNone_none, Option.isNone_some, Bool.not_false, List.length_nil, List.length_cons, List.nil_append, List.cons_append, D.ref.injEq, SO.lst.injEq, pCall, exists_const, and_self, Nat.zero_add, Nat.zero_le, Nat.reduceLeDiff, Nat.reduceAdd, eq_self, o_add, o_sub, o_mul, o_div, o_mod, o_cmp, o_int, o_lenl, o_lent, o_lens, o_tupl, o_tupt, o_min, o_max, q_int, ixk_tup, ixk_lst, ixk_scr, at0, at1, at2, at3, at4, at5, List.length_map, ln0, ln1, ln2, ln3, ln4, lnS0, lnS2, lnS4, q_id, q_ido, q_oi, q_oid, q_path, q_ln, q_ls, n_id, n_path, n_ln, n_ls, non_oid, non_oln, non_oct, non_id, non_ln, non_ct, non_path, un_ln, un_pl, in_ids, ad_path, eOp_s, eOp_n, lstk_ls, st_ls, fl_Placed_path, fl_Placed_names, fl_Placed_thing, fl_Placed_count, fl_Placed_cuts, fl_Placed_content, fl_Placed_ids, fl_Placed_line, fl_Placed_seen, fl_Shelved_place, fl_Shelved_thing, fl_Shelved_count, fl_Shelved_cuts, fl_Shelved_length, fl_Shelved_purpose]
      by_cases hm : a.hd ∈ hs
      · rw [if_pos hm]
        exact rt_pure (pu_ln a) (hk' true (by simp [hm]))
      · rw [if_neg hm]
        exact ih (hk' false (by simp [hm])) _
theorem ok_first_replaced {P : Program} {w : World} {K : PySem.W.Frag} {cl : Cl} {mg : Str → Option Value} {base : Heap} (D : Df K mg "first_replaced" s_first_replaced ["lines", "replaces"]) (T : Txt K cl mg)  : C8.Cal P w K mg base 1 "first_replaced" (spP K cl F_first_replaced) [] := by
  refine D.cal sc_first_replaced (spP_len (n := 2) len_first_replaced) (fun f cdv  A outer s H vs Q E hr h => ?_)
  refine ⟨_,
    (pss_cons (ps_if (pt_cmpR (show OpR _ _ (rEqP K) from op_eqP hr.units) (pv 1) (pe_tup pa_nil) (nomark _))
      (pss_one (ps_ret pe_non))
      pss_nil)
    (pss_cons (ps_for PassesOwn.never rfl (show PI _ _ _ (uIt K _) from upi (pv 0)) (pg_name (i := 2) sc_first_replaced.nd rfl (Or.inl rfl))
      (pss_one (ps_if (PW.pt (pw_and (pt_cmpR op_notN (pe_ix (show IxR _ (uIx K) from uix) (pv 2) pe_int (fun _ _ => rfl)) pe_non (nomark _)) (pw_and1 (pt_cmpR (show OpR _ _ (uIn K) from uop_in hr.units) (pe_ix (show IxR _ (uIx K) from uix) (pv 2) pe_int (fun _ _ => rfl)) (pv 1) (by with_unfolding_all rfl)))))
        (pss_one (ps_ret (pv 2)))
        pss_nil)))
    (pss_one (ps_ret pe_non)))), ?_⟩
  exact fn_ok (N := ["lines", "replaces", "line"]) (show SmS K cl _ ps_first_replaced from
    (sm_seq (sm_ifS (sm_test (sm_op smr_eq sm_var (sm_tup sm_nil)))
      ((sm_ret sm_non))
      sm_next)
    (sm_seq (sm_for (sm_it sm_var) sm_gname
      ((sm_ifS (sm_and (sm_test (sm_op smr_ns (sm_op smr_ix sm_var sm_int) sm_non)) (sm_test (sm_op smr_in (sm_op smr_ix sm_var sm_int) sm_var)))
        ((sm_ret sm_var))
        sm_next)))
    ((sm_ret sm_non))))) body_first_replaced h
def pr_after_text_1 : PSx :=
    ((pRet (pCall F_without_heads (pCons (pVar 0) (pCons (pLc (pIt (pVar 5)) (pgName 12) (pB (pOp nek (pVar 12) (pVar 3))) (pVar 12) [12]) pNil)))))
def ps_after_text : PSx :=
    (pSeq (pAsg (pVar 1) (pgTup 6 (pgCons (pgName 2) (pgCons (pgName 3) (pgCons (pgName 2) (pgCons (pgName 4) (pgCons (pgName 2) (pgCons (pgName 5) pgNil))))))))
    (pSeq (pAsg (pCall F_first_replaced (pCons (pVar 0) (pCons (pVar 5) pNil))) (pgName 6))
    (pSeq (pIfS (pB (pOp isk (pVar 6) (pC .non)))
      ((pAsg (pCall F_with_new_line (pCons (pVar 0) (pCons (pVar 1) pNil))) (pgName 0)))
      (pSeq (pAsg (pVar 6) (pgTup 5 (pgCons (pgName 7) (pgCons (pgName 2) (pgCons (pgName 8) (pgCons (pgName 9) (pgCons (pgName 2) pgNil)))))))
      (pSeq (pAsg (pTup (pCons (pVar 7) (pCons (pVar 3) (pCons (pVar 8) (pCons (pVar 9) (pCons (pVar 4) pNil)))))) (pgName 10))
      ((pAsg (pLc (pIt (pVar 0)) (pgName 11) pYes (pIf (pB (pOp eqk (pOp ixk (pVar 11) (pC (.int 0))) (pVar 7))) (pVar 10) (pVar 11)) [11]) (pgName 0))))))
    pr_after_text_1)))
theorem start_after_text : ∀ a0 a1 : D, startE 13 [a0, a1] = [some a0, some a1, none, none, none, none, none, none, none, none, none, none, none] := fun _ _ => rfl
def F_after_text : PFn := fun ds k => ∃ ls id pl ct meant hs, ds = [eLs ls, eEd (.write id pl ct meant hs)] ∧ ls.length ≤ 1000 ∧ hs.length ≤ 1000 ∧ (∀ i, Short (woHeads (textIn ls id pl ct meant hs) ((hs.filter fun h => !decide (h = id)).take i))) ∧ k (eLs (afterText ls id pl ct meant hs))
theorem len_after_text : ∀ ds k, F_after_text ds k → ds.length = 2 := by
  rintro _ _ ⟨_, _, _, _, _, _, rfl, _⟩
  rfl
theorem body_after_text : ∀ ds k, F_after_text ds k → ps_after_text { nx := fun _ _ => k .non, rt := fun d S => (d.frz S).noRef = true ∧ k (d.frz S) } (startE 13 ds) [] := by
  rintro _ k ⟨ls, id, pl, ct, meant, hs, rfl, hl, hhs, hsh, hk⟩
  rw [start_after_text]
  unfold ps_after_text
  simp only [pForD, pInsL, pExtA, pSeq, pAsg, pVar, pC, pOp, pNil, pCons, pTup, pLst, pLstM, pNot, pAndV, pOrV, pIf, pB, pAnd, pOr, pNotT, pNoPart, pPart, pCB, pUnN, pSl, pNext, pBreak, pCont, pRet, pRetN, pDrop, pIfS, pgName, pgNil, pgCons, pgTup_t, pAug, pApp, pYes, isk_non, nsk_non, isN_non, isN_bl, isN_int, isN_str, isN_tup, isN_lst, isN_ref, isN_obj, pTru, pFld, pStar, pMake, pSetF, pIt, pRng1, pRng2, forG, List.map_cons, List.map_nil, List.getElem?_cons_zero, List.getElem?_cons_succ, List.set_cons_zero, List.set_cons_succ, Option.some.injEq, exists_eq_left, exists_eq_left', true_and, and_true, wipeE, D.bl.injEq, D.int.injEq, D.str.injEq, D.tup.injEq, D.lst.injEq, Bool.not_true, decide_eq_true_eq, if_true, if_false, reduceIte, Bool.false_eq_true, Option.isNone_none, Option.isNone_some, Bool.not_false, List.length_nil, List.length_cons, List.nil_append, List.cons_append, D.ref.injEq, SO.lst.injEq, pCall, exists_const, and_self, Nat.zero_add, Nat.zero_le, Nat.reduceLeDiff, Nat.reduceAdd, eq_self, o_add, o_sub, o_mul, o_div, o_mod, o_cmp, o_int, o_lenl, o_lent, o_lens, o_tupl, o_tupt, o_min, o_max, q_int, ixk_tup, ixk_lst, ixk_scr, at0, at1, at2, at3, at4, at5, List.length_map, ln0, ln1, ln2, ln3, ln4, lnS0, lnS2, lnS4, q_id, q_ido, q_oi, q_oid, q_path, q_ln, q_ls, n_id, n_path, n_ln, n_ls, non_oid, non_oln, non_oct, non_id, non_ln, non_ct, non_path, un_ln, un_pl, in_ids, ad_path, eOp_s, eOp_n, lstk_ls, st_ls, fl_Placed_path, fl_Placed_names, fl_Placed_thing, fl_Placed_count, fl_Placed_cuts, fl_Placed_content, fl_Placed_ids, fl_Placed_line, fl_Placed_seen, fl_Shelved_place, fl_Shelved_thing, fl_Shelved_count, fl_Shelved_cuts, fl_Shelved_length, fl_Shelved_purpose, un_wr]
  refine call_of (by simp only [pureAll, pu_ls, pu_lsl, pu_oid, pu_id, pu_ln, pu_oln, pu_pl, pu_ed, pu_eds, pu_idst, pu_path, pu_oct, pu_mv, pu_mvs, pu_str, pu_int, pu_bl, pu_non, eOp_s, eOp_n, Bool.and_self]) ⟨ls, hs, rfl, ?_⟩
  have fin : ∀ (env : Pw.Env) (k2 : D → Sto → Prop), env[3]? = some (some (eId id)) → env[5]? = some (some (eIds hs)) → env.length = 13 → k2 (.lst ((hs.filter fun h => !decide (h = id)).map eId)) [] → pLc (pIt (pVar 5)) (pgName 12) (pB (pOp nek (pVar 12) (pVar 3))) (pVar 12) [12] env [] k2 := by
    intro env k2 h3 h5 hlen h
    refine lc_go (src := eIds hs) (as := hs) (enc := eId) (fun h => !decide (h = id)) eId (fun kk h => ⟨_, h5, _, rfl, h⟩) (fun _ => rfl) (by omega) (fun a ha k2 k3 h => ?_) h
    have e3 : ((env.set 12 none).set 12 (some (eId a)))[3]? = some (some (eId id)) := by
      rw [List.getElem?_set_ne (by decide), List.getElem?_set_ne (by decide)]
      exact h3
    have e12 : ((env.set 12 none).set 12 (some (eId a)))[12]? = some (some (eId a)) := List.getElem?_set_self (by rw [List.length_set]; omega)
    simp only [pForD, pInsL, pExtA, pSeq, pAsg, pVar, pC, pOp, pNil, pCons, pTup, pLst, pLstM, pNot, pAndV, pOrV, pIf, pB, pAnd, pOr, pNotT, pNoPart, pPart, pCB, pUnN, pSl, pNext, pBreak, pCont, pRet, pRetN, pDrop, pIfS, pgName, pgNil, pgCons, pgTup_t, pAug, pApp, pYes, isk_non, nsk_non, isN_non, isN_bl, isN_int, isN_str, isN_tup, isN_lst, isN_ref, isN_obj, pTru, pFld, pStar, pMake, pSetF, pIt, pRng1, pRng2, forG, List.map_cons, List.map_nil, List.getElem?_cons_zero, List.getElem?_cons_succ, List.set_cons_zero, List.set_cons_succ, Option.some.injEq, exists_eq_left, exists_eq_left', true_and, and_true, wipeE, D.bl.injEq, D.int.injEq, D.str.injEq, D.tup.injEq, D.lst.injEq, Bool.not_true, decide_eq_true_eq, if_true, if_false, reduceIte, Bool.false_eq_true, Option.isNone_none, Option.isNone_some, Bool.not_false, List.length_nil, List.length_cons, List.nil_append, List.cons_append, D.ref.injEq, SO.lst.injEq, pCall, exists_const, and_self, Nat.zero_add, Nat.zero_le, Nat.reduceLeDiff, Nat.reduceAdd, eq_self, o_add, o_sub, o_mul, o_div, o_mod, o_cmp, o_int, o_lenl, o_lent, o_lens, o_tupl, o_tupt, o_min, o_max, q_int, ixk_tup, ixk_lst, ixk_scr, at0, at1, at2, at3, at4, at5, List.length_map, ln0, ln1, ln2, ln3, ln4, lnS0, lnS2, lnS4, q_id, q_ido, q_oi, q_oid, q_path, q_ln, q_ls, n_id, n_path, n_ln, n_ls, non_oid, non_oln, non_oct, non_id, non_ln, non_ct, non_path, un_ln, un_pl, in_ids, ad_path, eOp_s, eOp_n, lstk_ls, st_ls, fl_Placed_path, fl_Placed_names, fl_Placed_thing, fl_Placed_count, fl_Placed_cuts, fl_Placed_content, fl_Placed_ids, fl_Placed_line, fl_Placed_seen, fl_Shelved_place, fl_Shelved_thing, fl_Shelved_count, fl_Shelved_cuts, fl_Shelved_length, fl_Shelved_purpose, e3, e12]
    cases hb : decide (a = id) with
    | true =>
      rw [hb] at h
      simp only [pForD, pInsL, pExtA, pSeq, pAsg, pVar, pC, pOp, pNil, pCons, pTup, pLst, pLstM, pNot, pAndV, pOrV, pIf, pB, pAnd, pOr, pNotT, pNoPart, pPart, pCB, pUnN, pSl, pNext, pBreak, pCont, pRet, pRetN, pDrop, pIfS, pgName, pgNil, pgCons, pgTup_t, pAug, pApp, pYes, isk_non, nsk_non, isN_non, isN_bl, isN_int, isN_str, isN_tup, isN_lst, isN_ref, isN_obj, pTru, pFld, pStar, pMake, pSetF, pIt, pRng1, pRng2, forG, List.map_cons, List.map_nil, List.getElem?_cons_zero, List.getElem?_cons_succ, List.set_cons_zero, List.set_cons_succ, Option.some.injEq, exists_eq_left, exists_eq_left', true_and, and_true, wipeE, D.bl.injEq, D.int.injEq, D.str.injEq, D.tup.injEq, D.lst.injEq, Bool.not_true, decide_eq_true_eq, if_true, if_false, reduceIte, Bool.false_eq_true, Option.isNone_none, Option.isNone_some, Bool.not_false, List.length_nil, List.length_cons, List.nil_append, List.cons_append, D.ref.injEq, SO.lst.injEq, pCall, exists_const, and_self, Nat.zero_add, Nat.zero_le, Nat.reduceLeDiff, Nat.reduceAdd, eq_self, o_add, o_sub, o_mul, o_div, o_mod, o_cmp, o_int, o_lenl, o_lent, o_lens, o_tupl, o_tupt, o_min, o_max, q_int, ixk_tup, ixk_lst, ixk_scr, at0, at1, at2, at3, at4, at5, List.length_map, ln0, ln1, ln2, ln3, ln4, lnS0, lnS2, lnS4, q_id, q_ido, q_oi, q_oid, q_path, q_ln, q_ls, n_id, n_path, n_ln, n_ls, non_oid, non_oln, non_oct, non_id, non_ln, non_ct, non_path, un_ln, un_pl, in_ids, ad_path, eOp_s, eOp_n, lstk_ls, st_ls, fl_Placed_path, fl_Placed_names, fl_Placed_thing, fl_Placed_count, fl_Placed_cuts, fl_Placed_content, fl_Placed_ids, fl_Placed_line, fl_Placed_seen, fl_Shelved_place, fl_Shelved_thing, fl_Shelved_count, fl_Shelved_cuts, fl_Shelved_length, fl_Shelved_purpose]
      exact h
    | false =>
      rw [hb] at h
      simp only [pForD, pInsL, pExtA, pSeq, pAsg, pVar, pC, pOp, pNil, pCons, pTup, pLst, pLstM, pNot, pAndV, pOrV, pIf, pB, pAnd, pOr, pNotT, pNoPart, pPart, pCB, pUnN, pSl, pNext, pBreak, pCont, pRet, pRetN, pDrop, pIfS, pgName, pgNil, pgCons, pgTup_t, pAug, pApp, pYes, isk_non, nsk_non, isN_non, isN_bl, isN_int, isN_str, isN_tup, isN_lst, isN_ref, isN_obj, pTru, pFld, pStar, pMake, pSetF, pIt, pRng1, pRng2, forG, List.map_cons, List.map_nil, List.getElem?_cons_zero, List.getElem?_cons_succ, List.set_cons_zero, List.set_cons_succ, Option.some.injEq, exists_eq_left, exists_eq_left', true_and, and_true, wipeE, D.bl.injEq, D.int.injEq, D.str.injEq, D.tup.injEq, D.lst.injEq, Bool.not_true, decide_eq_true_eq, if_true, if_false, reduceIte, Bool.false_eq_true, Option.isNone_none, Option.isNone_some, Bool.not_false, List.length_nil, List.length_cons, List.nil_append, List.cons_append, D.ref.injEq, SO.lst.injEq, pCall, exists_const, and_self, Nat.zero_add, Nat.zero_le, Nat.reduceLeDiff, Nat.reduceAdd, eq_self, o_add, o_sub, o_mul, o_div, o_mod, o_cmp, o_int, o_lenl, o_lent, o_lens, o_tupl, o_tupt, o_min, o_max, q_int, ixk_tup, ixk_lst, ixk_scr, at0, at1, at2, at3, at4, at5, List.length_map, ln0, ln1, ln2, ln3, ln4, lnS0, lnS2, lnS4, q_id, q_ido, q_oi, q_oid, q_path, q_ln, q_ls, n_id, n_path, n_ln, n_ls, non_oid, non_oln, non_oct, non_id, non_ln, non_ct, non_path, un_ln, un_pl, in_ids, ad_path, eOp_s, eOp_n, lstk_ls, st_ls, fl_Placed_path, fl_Placed_names, fl_Placed_thing, fl_Placed_count, fl_Placed_cuts, fl_Placed_content, fl_Placed_ids, fl_Placed_line, fl_Placed_seen, fl_Shelved_place, fl_Shelved_thing, fl_Shelved_count, fl_Shelved_cuts, fl_Shelved_length, fl_Shelved_purpose]
      exact h
  cases hr : firstRep ls hs with
  | none =>
    have ht : textIn ls id pl ct meant hs = withNew ls id pl ct meant := by
      unfold textIn
      rw [hr]
    simp only [pForD, pInsL, pExtA, pSeq, pAsg, pVar, pC, pOp, pNil, pCons, pTup, pLst, pLstM, pNot, pAndV, pOrV, pIf, pB, pAnd, pOr, pNotT, pNoPart, pPart, pCB, pUnN, pSl, pNext, pBreak, pCont, pRet, pRetN, pDrop, pIfS, pgName, pgNil, pgCons, pgTup_t, pAug, pApp, pYes, isk_non, nsk_non, isN_non, isN_bl, isN_int, isN_str, isN_tup, isN_lst, isN_ref, isN_obj, pTru, pFld, pStar, pMake, pSetF, pIt, pRng1, pRng2, forG, List.map_cons, List.map_nil, List.getElem?_cons_zero, List.getElem?_cons_succ, List.set_cons_zero, List.set_cons_succ, Option.some.injEq, exists_eq_left, exists_eq_left', true_and, and_true, wipeE, D.bl.injEq, D.int.injEq, D.str.injEq, D.tup.injEq, D.lst.injEq, Bool.not_true, decide_eq_true_eq, if_true, if_false, reduceIte, Bool.false_eq_true, Option.isNone_none, Option.isNone_some, Bool.not_false, List.length_nil, List.length_cons, List.nil_append, List.cons_append, D.ref.injEq, SO.lst.injEq, pCall, exists_const, and_self, Nat.zero_add, Nat.zero_le, Nat.reduceLeDiff, Nat.reduceAdd, eq_self, o_add, o_sub, o_mul, o_div, o_mod, o_cmp, o_int, o_lenl, o_lent, o_lens, o_tupl, o_tupt, o_min, o_max, q_int, ixk_tup, ixk_lst, ixk_scr, at0, at1, at2, at3, at4, at5, List.length_map, ln0, ln1, ln2, ln3, ln4, lnS0, lnS2, lnS4, q_id, q_ido, q_oi, q_oid, q_path, q_ln, q_ls, n_id, n_path, n_ln, n_ls, non_oid, non_oln, non_oct, non_id, non_ln, non_ct, non_path, un_ln, un_pl, in_ids, ad_path, eOp_s, eOp_n, lstk_ls, st_ls, fl_Placed_path, fl_Placed_names, fl_Placed_thing, fl_Placed_count, fl_Placed_cuts, fl_Placed_content, fl_Placed_ids, fl_Placed_line, fl_Placed_seen, fl_Shelved_place, fl_Shelved_thing, fl_Shelved_count, fl_Shelved_cuts, fl_Shelved_length, fl_Shelved_purpose]
    refine call_of (by simp only [pureAll, pu_ls, pu_lsl, pu_oid, pu_id, pu_ln, pu_oln, pu_pl, pu_ed, pu_eds, pu_idst, pu_path, pu_oct, pu_mv, pu_mvs, pu_str, pu_int, pu_bl, pu_non, eOp_s, eOp_n, Bool.and_self]) ⟨ls, id, pl, ct, meant, hs, rfl, hl, ?_⟩
    unfold pr_after_text_1
    simp only [pForD, pInsL, pExtA, pSeq, pAsg, pVar, pC, pOp, pNil, pCons, pTup, pLst, pLstM, pNot, pAndV, pOrV, pIf, pB, pAnd, pOr, pNotT, pNoPart, pPart, pCB, pUnN, pSl, pNext, pBreak, pCont, pRet, pRetN, pDrop, pIfS, pgName, pgNil, pgCons, pgTup_t, pAug, pApp, pYes, isk_non, nsk_non, isN_non, isN_bl, isN_int, isN_str, isN_tup, isN_lst, isN_ref, isN_obj, pTru, pFld, pStar, pMake, pSetF, pIt, pRng1, pRng2, forG, List.map_cons, List.map_nil, List.getElem?_cons_zero, List.getElem?_cons_succ, List.set_cons_zero, List.set_cons_succ, Option.some.injEq, exists_eq_left, exists_eq_left', true_and, and_true, wipeE, D.bl.injEq, D.int.injEq, D.str.injEq, D.tup.injEq, D.lst.injEq, Bool.not_true, decide_eq_true_eq, if_true, if_false, reduceIte, Bool.false_eq_true, Option.isNone_none, Option.isNone_some, Bool.not_false, List.length_nil, List.length_cons, List.nil_append, List.cons_append, D.ref.injEq, SO.lst.injEq, pCall, exists_const, and_self, Nat.zero_add, Nat.zero_le, Nat.reduceLeDiff, Nat.reduceAdd, eq_self, o_add, o_sub, o_mul, o_div, o_mod, o_cmp, o_int, o_lenl, o_lent, o_lens, o_tupl, o_tupt, o_min, o_max, q_int, ixk_tup, ixk_lst, ixk_scr, at0, at1, at2, at3, at4, at5, List.length_map, ln0, ln1, ln2, ln3, ln4, lnS0, lnS2, lnS4, q_id, q_ido, q_oi, q_oid, q_path, q_ln, q_ls, n_id, n_path, n_ln, n_ls, non_oid, non_oln, non_oct, non_id, non_ln, non_ct, non_path, un_ln, un_pl, in_ids, ad_path, eOp_s, eOp_n, lstk_ls, st_ls, fl_Placed_path, fl_Placed_names, fl_Placed_thing, fl_Placed_count, fl_Placed_cuts, fl_Placed_content, fl_Placed_ids, fl_Placed_line, fl_Placed_seen, fl_Shelved_place, fl_Shelved_thing, fl_Shelved_count, fl_Shelved_cuts, fl_Shelved_length, fl_Shelved_purpose]
    refine fin _ _ rfl rfl rfl ?_
    have p2 : pureAll [eLs (withNew ls id pl ct meant), .lst ((hs.filter fun h => !decide (h = id)).map eId)] = true := by
      have : (D.lst ((hs.filter fun h => !decide (h = id)).map eId)).pure = true := pu_ids _
      simp only [pureAll, pu_ls, this, Bool.and_self]
    refine call_of p2 ⟨_, hs.filter fun h => !decide (h = id), _, rfl, .inl rfl, ?_, ?_⟩
    · rw [← ht]
      exact hsh
    · unfold afterText at hk
      rw [ht] at hk
      exact rt_pure (pu_ls _) hk
  | some c =>
    have ht : textIn ls id pl ct meant hs = ls.map fun k => if k.id = c.id then ⟨c.id, id, c.ins, c.path, ct⟩ else k := by
      unfold textIn
      rw [hr]
    simp only [pForD, pInsL, pExtA, pSeq, pAsg, pVar, pC, pOp, pNil, pCons, pTup, pLst, pLstM, pNot, pAndV, pOrV, pIf, pB, pAnd, pOr, pNotT, pNoPart, pPart, pCB, pUnN, pSl, pNext, pBreak, pCont, pRet, pRetN, pDrop, pIfS, pgName, pgNil, pgCons, pgTup_t, pAug, pApp, pYes, isk_non, nsk_non, isN_non, isN_bl, isN_int, isN_str, isN_tup, isN_lst, isN_ref, isN_obj, pTru, pFld, pStar, pMake, pSetF, pIt, pRng1, pRng2, forG, List.map_cons, List.map_nil, List.getElem?_cons_zero, List.getElem?_cons_succ, List.set_cons_zero, List.set_cons_succ, Option.some.injEq, exists_eq_left, exists_eq_left', true_and, and_true, wipeE, D.bl.injEq, D.int.injEq, D.str.injEq, D.tup.injEq, D.lst.injEq, Bool.not_true, decide_eq_true_eq, if_true, if_false, reduceIte, Bool.false_eq_true, Option.isNone_none, Option.isNone_some, Bool.not_false, List.length_nil, List.length_cons, List.nil_append, List.cons_append, D.ref.injEq, SO.lst.injEq, pCall, exists_const, and_self, Nat.zero_add, Nat.zero_le, Nat.reduceLeDiff, Nat.reduceAdd, eq_self, o_add, o_sub, o_mul, o_div, o_mod, o_cmp, o_int, o_lenl, o_lent, o_lens, o_tupl, o_tupt, o_min, o_max, q_int, ixk_tup, ixk_lst, ixk_scr, at0, at1, at2, at3, at4, at5, List.length_map, ln0, ln1, ln2, ln3, ln4, lnS0, lnS2, lnS4, q_id, q_ido, q_oi, q_oid, q_path, q_ln, q_ls, n_id, n_path, n_ln, n_ls, non_oid, non_oln, non_oct, non_id, non_ln, non_ct, non_path, un_ln, un_pl, in_ids, ad_path, eOp_s, eOp_n, lstk_ls, st_ls, fl_Placed_path, fl_Placed_names, fl_Placed_thing, fl_Placed_count, fl_Placed_cuts, fl_Placed_content, fl_Placed_ids, fl_Placed_line, fl_Placed_seen, fl_Shelved_place, fl_Shelved_thing, fl_Shelved_count, fl_Shelved_cuts, fl_Shelved_length, fl_Shelved_purpose]
    refine lc_go (src := eLs ls) (as := ls) (enc := eLn) (fun _ => true) (fun k => eLn (if k.id = c.id then ⟨c.id, id, c.ins, c.path, ct⟩ else k)) (fun kk h => ⟨_, rfl, _, rfl, h⟩) (fun _ => rfl) (by omega) (fun a ha k2 k3 h => ?_) ?_
    · rw [if_pos rfl] at h
      simp only [pForD, pInsL, pExtA, pSeq, pAsg, pVar, pC, pOp, pNil, pCons, pTup, pLst, pLstM, pNot, pAndV, pOrV, pIf, pB, pAnd, pOr, pNotT, pNoPart, pPart, pCB, pUnN, pSl, pNext, pBreak, pCont, pRet, pRetN, pDrop, pIfS, pgName, pgNil, pgCons, pgTup_t, pAug, pApp, pYes, isk_non, nsk_non, isN_non, isN_bl, isN_int, isN_str, isN_tup, isN_lst, isN_ref, isN_obj, pTru, pFld, pStar, pMake, pSetF, pIt, pRng1, pRng2, forG, List.map_cons, List.map_nil, List.getElem?_cons_zero, List.getElem?_cons_succ, List.set_cons_zero, List.set_cons_succ, Option.some.injEq, exists_eq_left, exists_eq_left', true_and, and_true, wipeE, D.bl.injEq, D.int.injEq, D.str.injEq, D.tup.injEq, D.lst.injEq, Bool.not_true, decide_eq_true_eq, if_true, if_false, reduceIte, Bool.false_eq_true, Option.isNone_none, Option.isNone_some, Bool.not_false, List.length_nil, List.length_cons, List.nil_append, List.cons_append, D.ref.injEq, SO.lst.injEq, pCall, exists_const, and_self, Nat.zero_add, Nat.zero_le, Nat.reduceLeDiff, Nat.reduceAdd, eq_self, o_add, o_sub, o_mul, o_div, o_mod, o_cmp, o_int, o_lenl, o_lent, o_lens, o_tupl, o_tupt, o_min, o_max, q_int, ixk_tup, ixk_lst, ixk_scr, at0, at1, at2, at3, at4, at5, List.length_map, ln0, ln1, ln2, ln3, ln4, lnS0, lnS2, lnS4, q_id, q_ido, q_oi, q_oid, q_path, q_ln, q_ls, n_id, n_path, n_ln, n_ls, non_oid, non_oln, non_oct, non_id, non_ln, non_ct, non_path, un_ln, un_pl, in_ids, ad_path, eOp_s, eOp_n, lstk_ls, st_ls, fl_Placed_path, fl_Placed_names, fl_Placed_thing, fl_Placed_count, fl_Placed_cuts, fl_Placed_content, fl_Placed_ids, fl_Placed_line, fl_Placed_seen, fl_Shelved_place, fl_Shelved_thing, fl_Shelved_count, fl_Shelved_cuts, fl_Shelved_length, fl_Shelved_purpose]
      by_cases e : a.id = c.id
      · rw [if_pos e] at h ⊢
        exact h
      · rw [if_neg e] at h ⊢
        exact h
    · rw [flt_all]
      have e : (ls.map fun k => eLn (if k.id = c.id then ⟨c.id, id, c.ins, c.path, ct⟩ else k)) = (textIn ls id pl ct meant hs).map eLn := by
        rw [ht, List.map_map]
        rfl
      rw [e]
      unfold pr_after_text_1
      simp only [pForD, pInsL, pExtA, pSeq, pAsg, pVar, pC, pOp, pNil, pCons, pTup, pLst, pLstM, pNot, pAndV, pOrV, pIf, pB, pAnd, pOr, pNotT, pNoPart, pPart, pCB, pUnN, pSl, pNext, pBreak, pCont, pRet, pRetN, pDrop, pIfS, pgName, pgNil, pgCons, pgTup_t, pAug, pApp, pYes, isk_non, nsk_non, isN_non, isN_bl, isN_int, isN_str, isN_tup, isN_lst, isN_ref, isN_obj, pTru, pFld, pStar, pMake, pSetF, pIt, pRng1, pRng2, forG, List.map_cons, List.map_nil, List.getElem?_cons_zero, List.getElem?_cons_succ, List.set_cons_zero, List.set_cons_succ, Option.some.injEq, exists_eq_left, exists_eq_left', true_and, and_true, wipeE, D.bl.injEq, D.int.injEq, D.str.injEq, D.tup.injEq, D.lst.injEq, Bool.not_true, decide_eq_true_eq, if_true, if_false, reduceIte, Bool.false_eq_true, Option.isNone_none, Option.isNone_some, Bool.not_false, List.length_nil, List.length_cons, List.nil_append, List.cons_append, D.ref.injEq, SO.lst.injEq, pCall, exists_const, and_self, Nat.zero_add, Nat.zero_le, Nat.reduceLeDiff, Nat.reduceAdd, eq_self, o_add, o_sub, o_mul, o_div, o_mod, o_cmp, o_int, o_lenl, o_lent, o_lens, o_tupl, o_tupt, o_min, o_max, q_int, ixk_tup, ixk_lst, ixk_scr, at0, at1, at2, at3, at4, at5, List.length_map, ln0, ln1, ln2, ln3, ln4, lnS0, lnS2, lnS4, q_id, q_ido, q_oi, q_oid, q_path, q_ln, q_ls, n_id, n_path, n_ln, n_ls, non_oid, non_oln, non_oct, non_id, non_ln, non_ct, non_path, un_ln, un_pl, in_ids, ad_path, eOp_s, eOp_n, lstk_ls, st_ls, fl_Placed_path, fl_Placed_names, fl_Placed_thing, fl_Placed_count, fl_Placed_cuts, fl_Placed_content, fl_Placed_ids, fl_Placed_line, fl_Placed_seen, fl_Shelved_place, fl_Shelved_thing, fl_Shelved_count, fl_Shelved_cuts, fl_Shelved_length, fl_Shelved_purpose]
      refine fin _ _ rfl rfl rfl ?_
      have p2 : pureAll [eLs (textIn ls id pl ct meant hs), .lst ((hs.filter fun h => !decide (h = id)).map eId)] = true := by
        have : (D.lst ((hs.filter fun h => !decide (h = id)).map eId)).pure = true := pu_ids _
        simp only [pureAll, pu_ls, this, Bool.and_self]
      exact call_of p2 ⟨_, hs.filter fun h => !decide (h = id), _, rfl, .inl rfl, hsh, rt_pure (pu_ls _) hk⟩
theorem ok_after_text {P : Program} {w : World} {K : PySem.W.Frag} {cl : Cl} {mg : Str → Option Value} {base : Heap} (D : Df K mg "after_text" s_after_text ["lines", "edit"]) (T : Txt K cl mg) (G_without_heads : C8.Cal P w K mg base 2 "without_heads" (spP K cl F_without_heads) []) (G_with_new_line : C8.Cal P w K mg base 3 "with_new_line" (spP K cl F_with_new_line) []) (G_first_replaced : C8.Cal P w K mg base 1 "first_replaced" (spP K cl F_first_replaced) []) : C8.Cal P w K mg base 4 "after_text" (spP K cl F_after_text) [] := by
  refine D.cal sc_after_text (spP_len (n := 2) len_after_text) (fun f cdv  A outer s H vs Q E hr h => ?_)
  refine ⟨_,
    (pss_cons (ps_asg (pv 1) (pg_tup rfl (pgs_cons (pg_name (i := 2) sc_after_text.nd rfl (Or.inl rfl)) (pgs_cons (pg_name (i := 3) sc_after_text.nd rfl (Or.inr rfl)) (pgs_cons (pg_name (i := 2) sc_after_text.nd rfl (Or.inl rfl)) (pgs_cons (pg_name (i := 4) sc_after_text.nd rfl (Or.inl rfl)) (pgs_cons (pg_name (i := 2) sc_after_text.nd rfl (Or.inl rfl)) (pgs_cons (pg_name (i := 5) sc_after_text.nd rfl (Or.inl rfl)) pgs_nil))))))))
    (pss_cons (ps_set (i := 6) sc_after_text.nd rfl (.inl rfl) (C8.pe_c G_first_replaced hr (by decide) (by rfl) (pa_cons (pv 0) (pa_cons (pv 5) pa_nil))))
    (pss_cons (ps_if (pt_cmpR op_isN (pv 6) pe_non (nomark _))
      (pss_one (ps_set (i := 0) sc_after_text.nd rfl (.inl rfl) (C8.pe_c G_with_new_line hr (by decide) (by rfl) (pa_cons (pv 0) (pa_cons (pv 1) pa_nil)))))
      (pss_cons (ps_asg (pv 6) (pg_tup rfl (pgs_cons (pg_name (i := 7) sc_after_text.nd rfl (Or.inr rfl)) (pgs_cons (pg_name (i := 2) sc_after_text.nd rfl (Or.inl rfl)) (pgs_cons (pg_name (i := 8) sc_after_text.nd rfl (Or.inl rfl)) (pgs_cons (pg_name (i := 9) sc_after_text.nd rfl (Or.inl rfl)) (pgs_cons (pg_name (i := 2) sc_after_text.nd rfl (Or.inl rfl)) pgs_nil)))))))
      (pss_cons (ps_set (i := 10) sc_after_text.nd rfl (.inr rfl) (pe_tup (pa_cons (pv 7) (pa_cons (pv 3) (pa_cons (pv 8) (pa_cons (pv 9) (pa_cons (pv 4) pa_nil)))))))
      (pss_one (ps_setLc (i := 0) (own := [("known", 11)]) (g := gName 11) (tt := tYes) rfl sc_after_text.nd rfl rfl (sw_true rfl rfl rfl (by decide +kernel)) (show PI _ _ _ (uIt K _) from upi (pv 0)) (blkOk_by (own := [("known", 11)]) (N := ["lines", "edit", "_", "edit_id", "content", "replaces", "continued", "line_id", "inside", "below", "row", "known", "head"]) (sc := defScope s_after_text) (by decide +kernel)) (fun _ _ _ _ _ => (pg_name (i := 11) sc_after_text.nd rfl (Or.inl rfl))) (fun _ _ _ _ _ => pts_nil) (fun _ _ _ _ _ => (pe_ifExp (pt_cmpR (show OpR _ _ (rEqP K) from op_eqP hr.units) (pe_ix (show IxR _ (uIx K) from uix) (pv 11) pe_int (fun _ _ => rfl)) (pv 7) (nomark _)) (pv 10) (pv 11))))))))
    (pss_one (ps_ret (C8.pe_c G_without_heads hr (by decide) (by rfl) (pa_cons (pv 0) (pa_cons (pe_lc (own := [("head", 12)]) (g := gName 12) rfl sc_after_text.nd (show PI _ _ _ (uIt K _) from upi (pv 5)) (blkOk_by (own := [("head", 12)]) (N := ["lines", "edit", "_", "edit_id", "content", "replaces", "continued", "line_id", "inside", "below", "row", "known", "head"]) (sc := defScope s_after_text) (by decide +kernel)) (fun _ _ _ _ _ => (pg_name (i := 12) sc_after_text.nd rfl (Or.inl rfl))) (fun _ _ _ _ _ => (pts_one (pt_cmpR (show OpR _ _ (rNeP K) from op_neP hr.units) (pv 12) (pv 3) (nomark _)))) (fun _ _ _ _ _ => (pv 12))) pa_nil)))))))), ?_⟩
  exact fn_ok (N := ["lines", "edit", "_", "edit_id", "content", "replaces", "continued", "line_id", "inside", "below", "row", "known", "head"]) (show SmS K cl _ ps_after_text from
    (sm_seq (sm_asg sm_var (sm_gtup (sm_gcons sm_gname (sm_gcons sm_gname (sm_gcons sm_gname (sm_gcons sm_gname (sm_gcons sm_gname (sm_gcons sm_gname sm_gnil))))))))
    (sm_seq (sm_asg (sm_call (sm_cons sm_var (sm_cons sm_var sm_nil))) sm_gname)
    (sm_seq (sm_ifS (sm_test (sm_op smr_is sm_var sm_non))
      ((sm_asg (sm_call (sm_cons sm_var (sm_cons sm_var sm_nil))) sm_gname))
      (sm_seq (sm_asg sm_var (sm_gtup (sm_gcons sm_gname (sm_gcons sm_gname (sm_gcons sm_gname (sm_gcons sm_gname (sm_gcons sm_gname sm_gnil)))))))
      (sm_seq (sm_asg (sm_tup (sm_cons sm_var (sm_cons sm_var (sm_cons sm_var (sm_cons sm_var (sm_cons sm_var sm_nil)))))) sm_gname)
      ((sm_asg (sm_lc (sm_it sm_var) (gok_name (by decide)) sm_gname sm_yes (sm_if (sm_test (sm_op smr_eq (sm_op smr_ix sm_var sm_int) sm_var)) sm_var sm_var)) sm_gname)))))
    ((sm_ret (sm_call (sm_cons sm_var (sm_cons (sm_lc (sm_it sm_var) (gok_name (by decide)) sm_gname (sm_test (sm_op smr_ne sm_var sm_var)) sm_var) sm_nil))))))))) body_after_text h
def pl_stands_in_1 : PSx :=
      (pSeq (pIfS (pB (pOp eqk (pVar 1) (pVar 2)))
        ((pRet (pC (.bl true))))
        pNext)
      ((pAsg (pOp ixk (pCall F_find_line (pCons (pVar 0) (pCons (pVar 1) pNil))) (pC (.int 2))) (pgName 1))))
def ps_stands_in : PSx :=
    (pSeq (pWhile (pB (pOp nsk (pVar 1) (pC .non))) pl_stands_in_1)
    ((pRet (pC (.bl false)))))
theorem start_stands_in : ∀ a0 a1 a2 : D, startE 3 [a0, a1, a2] = [some a0, some a1, some a2] := fun _ _ _ => rfl
def F_stands_in : PFn := fun ds k => ∃ ls o x n b, ds = [eLs ls, eOp eId o, eId x] ∧ SIn ls x n o b ∧ k (.bl b)
theorem len_stands_in : ∀ ds k, F_stands_in ds k → ds.length = 3 := by
  rintro _ _ ⟨_, _, _, _, _, rfl, _⟩
  rfl
theorem body_stands_in : ∀ ds k, F_stands_in ds k → ps_stands_in { nx := fun _ _ => k .non, rt := fun d S => (d.frz S).noRef = true ∧ k (d.frz S) } (startE 3 ds) [] := by
  rintro _ k ⟨ls, o, x, n, b, rfl, hsi, hk⟩
  rw [start_stands_in]
  unfold ps_stands_in
  simp only [pForD, pInsL, pExtA, pSeq, pAsg, pVar, pC, pOp, pNil, pCons, pTup, pLst, pLstM, pNot, pAndV, pOrV, pIf, pB, pAnd, pOr, pNotT, pNoPart, pPart, pCB, pUnN, pSl, pNext, pBreak, pCont, pRet, pRetN, pDrop, pIfS, pgName, pgNil, pgCons, pgTup_t, pAug, pApp, pYes, isk_non, nsk_non, isN_non, isN_bl, isN_int, isN_str, isN_tup, isN_lst, isN_ref, isN_obj, pTru, pFld, pStar, pMake, pSetF, pIt, pRng1, pRng2, forG, List.map_cons, List.map_nil, List.getElem?_cons_zero, List.getElem?_cons_succ, List.set_cons_zero, List.set_cons_succ, Option.some.injEq, exists_eq_left, exists_eq_left', true_and, and_true, wipeE, D.bl.injEq, D.int.injEq, D.str.injEq, D.tup.injEq, D.lst.injEq, Bool.not_true, decide_eq_true_eq, if_true, if_false, reduceIte, Bool.false_eq_true, Option.isNone_none, Option.isNone_some, Bool.not_false, List.length_nil, List.length_cons, List.nil_append, List.cons_append, D.ref.injEq, SO.lst.injEq, pCall, exists_const, and_self, Nat.zero_add, Nat.zero_le, Nat.reduceLeDiff, Nat.reduceAdd, eq_self, o_add, o_sub, o_mul, o_div, o_mod, o_cmp, o_int, o_lenl, o_lent, o_lens, o_tupl, o_tupt, o_min, o_max, q_int, ixk_tup, ixk_lst, ixk_scr, at0, at1, at2, at3, at4, at5, List.length_map, ln0, ln1, ln2, ln3, ln4, lnS0, lnS2, lnS4, q_id, q_ido, q_oi, q_oid, q_path, q_ln, q_ls, n_id, n_path, n_ln, n_ls, non_oid, non_oln, non_oct, non_id, non_ln, non_ct, non_path, un_ln, un_pl, in_ids, ad_path, eOp_s, eOp_n, lstk_ls, st_ls, fl_Placed_path, fl_Placed_names, fl_Placed_thing, fl_Placed_count, fl_Placed_cuts, fl_Placed_content, fl_Placed_ids, fl_Placed_line, fl_Placed_seen, fl_Shelved_place, fl_Shelved_thing, fl_Shelved_count, fl_Shelved_cuts, fl_Shelved_length, fl_Shelved_purpose, pl_stands_in_1]
  refine ⟨fun m env S => ∃ o, env = [some (eLs ls), some (eOp eId o), some (eId x)] ∧ S = [] ∧ SIn ls x m o b, ⟨n, o, rfl, rfl, hsi⟩, ?_⟩
  rintro m env S ⟨o, rfl, rfl, hs⟩
  cases hs with
  | root =>
    simp only [pForD, pInsL, pExtA, pSeq, pAsg, pVar, pC, pOp, pNil, pCons, pTup, pLst, pLstM, pNot, pAndV, pOrV, pIf, pB, pAnd, pOr, pNotT, pNoPart, pPart, pCB, pUnN, pSl, pNext, pBreak, pCont, pRet, pRetN, pDrop, pIfS, pgName, pgNil, pgCons, pgTup_t, pAug, pApp, pYes, isk_non, nsk_non, isN_non, isN_bl, isN_int, isN_str, isN_tup, isN_lst, isN_ref, isN_obj, pTru, pFld, pStar, pMake, pSetF, pIt, pRng1, pRng2, forG, List.map_cons, List.map_nil, List.getElem?_cons_zero, List.getElem?_cons_succ, List.set_cons_zero, List.set_cons_succ, Option.some.injEq, exists_eq_left, exists_eq_left', true_and, and_true, wipeE, D.bl.injEq, D.int.injEq, D.str.injEq, D.tup.injEq, D.lst.injEq, Bool.not_true, decide_eq_true_eq, if_true, if_false, reduceIte, Bool.false_eq_true, Option.isNone_none, Option.isNone_some, Bool.not_false, List.length_nil, List.length_cons, List.nil_append, List.cons_append, D.ref.injEq, SO.lst.injEq, pCall, exists_const, and_self, Nat.zero_add, Nat.zero_le, Nat.reduceLeDiff, Nat.reduceAdd, eq_self, o_add, o_sub, o_mul, o_div, o_mod, o_cmp, o_int, o_lenl, o_lent, o_lens, o_tupl, o_tupt, o_min, o_max, q_int, ixk_tup, ixk_lst, ixk_scr, at0, at1, at2, at3, at4, at5, List.length_map, ln0, ln1, ln2, ln3, ln4, lnS0, lnS2, lnS4, q_id, q_ido, q_oi, q_oid, q_path, q_ln, q_ls, n_id, n_path, n_ln, n_ls, non_oid, non_oln, non_oct, non_id, non_ln, non_ct, non_path, un_ln, un_pl, in_ids, ad_path, eOp_s, eOp_n, lstk_ls, st_ls, fl_Placed_path, fl_Placed_names, fl_Placed_thing, fl_Placed_count, fl_Placed_cuts, fl_Placed_content, fl_Placed_ids, fl_Placed_line, fl_Placed_seen, fl_Shelved_place, fl_Shelved_thing, fl_Shelved_count, fl_Shelved_cuts, fl_Shelved_length, fl_Shelved_purpose]
    exact rt_pure rfl hk
  | hit =>
    simp only [pForD, pInsL, pExtA, pSeq, pAsg, pVar, pC, pOp, pNil, pCons, pTup, pLst, pLstM, pNot, pAndV, pOrV, pIf, pB, pAnd, pOr, pNotT, pNoPart, pPart, pCB, pUnN, pSl, pNext, pBreak, pCont, pRet, pRetN, pDrop, pIfS, pgName, pgNil, pgCons, pgTup_t, pAug, pApp, pYes, isk_non, nsk_non, isN_non, isN_bl, isN_int, isN_str, isN_tup, isN_lst, isN_ref, isN_obj, pTru, pFld, pStar, pMake, pSetF, pIt, pRng1, pRng2, forG, List.map_cons, List.map_nil, List.getElem?_cons_zero, List.getElem?_cons_succ, List.set_cons_zero, List.set_cons_succ, Option.some.injEq, exists_eq_left, exists_eq_left', true_and, and_true, wipeE, D.bl.injEq, D.int.injEq, D.str.injEq, D.tup.injEq, D.lst.injEq, Bool.not_true, decide_eq_true_eq, if_true, if_false, reduceIte, Bool.false_eq_true, Option.isNone_none, Option.isNone_some, Bool.not_false, List.length_nil, List.length_cons, List.nil_append, List.cons_append, D.ref.injEq, SO.lst.injEq, pCall, exists_const, and_self, Nat.zero_add, Nat.zero_le, Nat.reduceLeDiff, Nat.reduceAdd, eq_self, o_add, o_sub, o_mul, o_div, o_mod, o_cmp, o_int, o_lenl, o_lent, o_lens, o_tupl, o_tupt, o_min, o_max, q_int, ixk_tup, ixk_lst, ixk_scr, at0, at1, at2, at3, at4, at5, List.length_map, ln0, ln1, ln2, ln3, ln4, lnS0, lnS2, lnS4, q_id, q_ido, q_oi, q_oid, q_path, q_ln, q_ls, n_id, n_path, n_ln, n_ls, non_oid, non_oln, non_oct, non_id, non_ln, non_ct, non_path, un_ln, un_pl, in_ids, ad_path, eOp_s, eOp_n, lstk_ls, st_ls, fl_Placed_path, fl_Placed_names, fl_Placed_thing, fl_Placed_count, fl_Placed_cuts, fl_Placed_content, fl_Placed_ids, fl_Placed_line, fl_Placed_seen, fl_Shelved_place, fl_Shelved_thing, fl_Shelved_count, fl_Shelved_cuts, fl_Shelved_length, fl_Shelved_purpose]
    exact ⟨fun _ _ => False, fun _ _ h => h.elim, rt_pure rfl hk⟩
  | @up i f m b hne hf hs =>
    simp only [pForD, pInsL, pExtA, pSeq, pAsg, pVar, pC, pOp, pNil, pCons, pTup, pLst, pLstM, pNot, pAndV, pOrV, pIf, pB, pAnd, pOr, pNotT, pNoPart, pPart, pCB, pUnN, pSl, pNext, pBreak, pCont, pRet, pRetN, pDrop, pIfS, pgName, pgNil, pgCons, pgTup_t, pAug, pApp, pYes, isk_non, nsk_non, isN_non, isN_bl, isN_int, isN_str, isN_tup, isN_lst, isN_ref, isN_obj, pTru, pFld, pStar, pMake, pSetF, pIt, pRng1, pRng2, forG, List.map_cons, List.map_nil, List.getElem?_cons_zero, List.getElem?_cons_succ, List.set_cons_zero, List.set_cons_succ, Option.some.injEq, exists_eq_left, exists_eq_left', true_and, and_true, wipeE, D.bl.injEq, D.int.injEq, D.str.injEq, D.tup.injEq, D.lst.injEq, Bool.not_true, decide_eq_true_eq, if_true, if_false, reduceIte, Bool.false_eq_true, Option.isNone_none, Option.isNone_some, Bool.not_false, List.length_nil, List.length_cons, List.nil_append, List.cons_append, D.ref.injEq, SO.lst.injEq, pCall, exists_const, and_self, Nat.zero_add, Nat.zero_le, Nat.reduceLeDiff, Nat.reduceAdd, eq_self, o_add, o_sub, o_mul, o_div, o_mod, o_cmp, o_int, o_lenl, o_lent, o_lens, o_tupl, o_tupt, o_min, o_max, q_int, ixk_tup, ixk_lst, ixk_scr, at0, at1, at2, at3, at4, at5, List.length_map, ln0, ln1, ln2, ln3, ln4, lnS0, lnS2, lnS4, q_id, q_ido, q_oi, q_oid, q_path, q_ln, q_ls, n_id, n_path, n_ln, n_ls, non_oid, non_oln, non_oct, non_id, non_ln, non_ct, non_path, un_ln, un_pl, in_ids, ad_path, eOp_s, eOp_n, lstk_ls, st_ls, fl_Placed_path, fl_Placed_names, fl_Placed_thing, fl_Placed_count, fl_Placed_cuts, fl_Placed_content, fl_Placed_ids, fl_Placed_line, fl_Placed_seen, fl_Shelved_place, fl_Shelved_thing, fl_Shelved_count, fl_Shelved_cuts, fl_Shelved_length, fl_Shelved_purpose]
    refine ⟨fun env S => ∃ o, env = [some (eLs ls), some (eOp eId o), some (eId x)] ∧ S = [] ∧ SIn ls x m o b, fun env S h => ⟨m, Nat.lt_succ_self m, h⟩, ?_⟩
    rw [if_neg hne]
    refine call_of (by simp only [pureAll, pu_ls, pu_lsl, pu_oid, pu_id, pu_ln, pu_oln, pu_pl, pu_ed, pu_eds, pu_idst, pu_path, pu_oct, pu_mv, pu_mvs, pu_str, pu_int, pu_bl, pu_non, eOp_s, eOp_n, Bool.and_self]) ⟨ls, some i, rfl, ?_⟩
    rw [hf]
    simp only [pForD, pInsL, pExtA, pSeq, pAsg, pVar, pC, pOp, pNil, pCons, pTup, pLst, pLstM, pNot, pAndV, pOrV, pIf, pB, pAnd, pOr, pNotT, pNoPart, pPart, pCB, pUnN, pSl, pNext, pBreak, pCont, pRet, pRetN, pDrop, pIfS, pgName, pgNil, pgCons, pgTup_t, pAug, pApp, pYes, isk_non, nsk_non, isN_non, isN_bl, isN_int, isN_str, isN_tup, isN_lst, isN_ref, isN_obj, pTru, pFld, pStar, pMake, pSetF, pIt, pRng1, pRng2, forG, List.map_cons, List.map_nil, List.getElem?_cons_zero, List.getElem?_cons_succ, List.set_cons_zero, List.set_cons_succ, Option.some.injEq, exists_eq_left, exists_eq_left', true_and, and_true, wipeE, D.bl.injEq, D.int.injEq, D.str.injEq, D.tup.injEq, D.lst.injEq, Bool.not_true, decide_eq_true_eq, if_true, if_false, reduceIte, Bool.false_eq_true, Option.isNone_none, Option.isNone_some, Bool.not_false, List.length_nil, List.length_cons, List.nil_append, List.cons_append, D.ref.injEq, SO.lst.injEq, pCall, exists_const, and_self, Nat.zero_add, Nat.zero_le, Nat.reduceLeDiff, Nat.reduceAdd, eq_self, o_add, o_sub, o_mul, o_div, o_mod, o_cmp, o_int, o_lenl, o_lent, o_lens, o_tupl, o_tupt, o_min, o_max, q_int, ixk_tup, ixk_lst, ixk_scr, at0, at1, at2, at3, at4, at5, List.length_map, ln0, ln1, ln2, ln3, ln4, lnS0, lnS2, lnS4, q_id, q_ido, q_oi, q_oid, q_path, q_ln, q_ls, n_id, n_path, n_ln, n_ls, non_oid, non_oln, non_oct, non_id, non_ln, non_ct, non_path, un_ln, un_pl, in_ids, ad_path, eOp_s, eOp_n, lstk_ls, st_ls, fl_Placed_path, fl_Placed_names, fl_Placed_thing, fl_Placed_count, fl_Placed_cuts, fl_Placed_content, fl_Placed_ids, fl_Placed_line, fl_Placed_seen, fl_Shelved_place, fl_Shelved_thing, fl_Shelved_count, fl_Shelved_cuts, fl_Shelved_length, fl_Shelved_purpose]
    exact ⟨f.ins, rfl, hs⟩
theorem ok_stands_in {P : Program} {w : World} {K : PySem.W.Frag} {cl : Cl} {mg : Str → Option Value} {base : Heap} (D : Df K mg "stands_in" s_stands_in ["lines", "inside", "line_id"]) (T : Txt K cl mg) (G_find_line : C8.Cal P w K mg base 1 "find_line" (spP K cl F_find_line) []) : C8.Cal P w K mg base 2 "stands_in" (spP K cl F_stands_in) [] := by
  refine D.cal sc_stands_in (spP_len (n := 3) len_stands_in) (fun f cdv  A outer s H vs Q E hr h => ?_)
  refine ⟨_,
    (pss_cons (ps_while PassesOwn.never (pt_cmpR op_notN (pv 1) pe_non (nomark _))
      (pss_cons (ps_if (pt_cmpR (show OpR _ _ (rEqP K) from op_eqP hr.units) (pv 1) (pv 2) (nomark _))
        (pss_one (ps_ret pe_bl))
        pss_nil)
      (pss_one (ps_set (i := 1) sc_stands_in.nd rfl (.inl rfl) (pe_ix (show IxR _ (uIx K) from uix) (C8.pe_c G_find_line hr (by decide) (by rfl) (pa_cons (pv 0) (pa_cons (pv 1) pa_nil))) pe_int (fun _ _ => rfl))))))
    (pss_one (ps_ret pe_bl))), ?_⟩
  exact fn_ok (N := ["lines", "inside", "line_id"]) (show SmS K cl _ ps_stands_in from
    (sm_seq (sm_while (sm_test (sm_op smr_ns sm_var sm_non))
      (sm_seq (sm_ifS (sm_test (sm_op smr_eq sm_var sm_var))
        ((sm_ret sm_bl))
        sm_next)
      ((sm_asg (sm_op smr_ix (sm_call (sm_cons sm_var (sm_cons sm_var sm_nil))) sm_int) sm_gname))))
    ((sm_ret sm_bl)))) body_stands_in h
def pr_move_line_1 : PSx :=
    (pSeq (pIfS (pB (pOp isk (pVar 4) (pC .non)))
      ((pRet (pCB lstk (pCons (pVar 0) pNil))))
      pNext)
    (pSeq (pAsg (pCall F_settle (pCons (pVar 0) (pCons (pVar 3) pNil))) (pgTup 2 (pgCons (pgName 5) (pgCons (pgName 6) pgNil))))
    (pSeq (pIfS (pB (pCall F_stands_in (pCons (pVar 0) (pCons (pVar 5) (pCons (pOp ixk (pVar 4) (pC (.int 0))) pNil)))))
      ((pRet (pCB lstk (pCons (pVar 0) pNil))))
      pNext)
    (pSeq (pAsg (pTup (pCons (pOp ixk (pVar 4) (pC (.int 0))) (pCons (pOp ixk (pVar 4) (pC (.int 1))) (pCons (pVar 5) (pCons (pVar 6) (pCons (pOp ixk (pVar 4) (pC (.int 4))) pNil)))))) (pgName 7))
    ((pRet (pLc (pIt (pVar 0)) (pgName 8) pYes (pIf (pB (pOp eqk (pOp ixk (pVar 8) (pC (.int 0))) (pOp ixk (pVar 4) (pC (.int 0))))) (pVar 7) (pVar 8)) [8])))))))
def ps_move_line : PSx :=
    (pSeq (pAsg (pCall F_find_head (pCons (pVar 0) (pCons (pVar 1) pNil))) (pgName 4))
    (pSeq (pIfS (pB (pOp isk (pVar 4) (pC .non)))
      ((pAsg (pCall F_find_line (pCons (pVar 0) (pCons (pVar 2) pNil))) (pgName 4)))
      pNext)
    pr_move_line_1))
theorem start_move_line : ∀ a0 a1 a2 a3 : D, startE 9 [a0, a1, a2, a3] = [some a0, some a1, some a2, some a3, none, none, none, none, none] := fun _ _ _ _ => rfl
def F_move_line : PFn := fun ds k => ∃ ls m ls', ds = [eLs ls, eOp eId m.1, eOp eId m.2.1, ePl m.2.2] ∧ ls.length ≤ 1000 ∧ MvR ls m ls' ∧ k (eLs ls')
theorem len_move_line : ∀ ds k, F_move_line ds k → ds.length = 4 := by
  rintro _ _ ⟨_, _, _, rfl, _⟩
  rfl
theorem body_move_line : ∀ ds k, F_move_line ds k → ps_move_line { nx := fun _ _ => k .non, rt := fun d S => (d.frz S).noRef = true ∧ k (d.frz S) } (startE 9 ds) [] := by
  rintro _ k ⟨ls, m, ls', rfl, hl, hm, hk⟩
  rw [start_move_line]
  unfold ps_move_line
  simp only [pForD, pInsL, pExtA, pSeq, pAsg, pVar, pC, pOp, pNil, pCons, pTup, pLst, pLstM, pNot, pAndV, pOrV, pIf, pB, pAnd, pOr, pNotT, pNoPart, pPart, pCB, pUnN, pSl, pNext, pBreak, pCont, pRet, pRetN, pDrop, pIfS, pgName, pgNil, pgCons, pgTup_t, pAug, pApp, pYes, isk_non, nsk_non, isN_non, isN_bl, isN_int, isN_str, isN_tup, isN_lst, isN_ref, isN_obj, pTru, pFld, pStar, pMake, pSetF, pIt, pRng1, pRng2, forG, List.map_cons, List.map_nil, List.getElem?_cons_zero, List.getElem?_cons_succ, List.set_cons_zero, List.set_cons_succ, Option.some.injEq, exists_eq_left, exists_eq_left', true_and, and_true, wipeE, D.bl.injEq, D.int.injEq, D.str.injEq, D.tup.injEq, D.lst.injEq, Bool.not_true, decide_eq_true_eq, if_true, if_false, reduceIte, Bool.false_eq_true, Option.isNone_none, Option.isNone_some, Bool.not_false, List.length_nil, List.length_cons, List.nil_append, List.cons_append, D.ref.injEq, SO.lst.injEq, pCall, exists_const, and_self, Nat.zero_add, Nat.zero_le, Nat.reduceLeDiff, Nat.reduceAdd, eq_self, o_add, o_sub, o_mul, o_div, o_mod, o_cmp, o_int, o_lenl, o_lent, o_lens, o_tupl, o_tupt, o_min, o_max, q_int, ixk_tup, ixk_lst, ixk_scr, at0, at1, at2, at3, at4, at5, List.length_map, ln0, ln1, ln2, ln3, ln4, lnS0, lnS2, lnS4, q_id, q_ido, q_oi, q_oid, q_path, q_ln, q_ls, n_id, n_path, n_ln, n_ls, non_oid, non_oln, non_oct, non_id, non_ln, non_ct, non_path, un_ln, un_pl, in_ids, ad_path, eOp_s, eOp_n, lstk_ls, st_ls, fl_Placed_path, fl_Placed_names, fl_Placed_thing, fl_Placed_count, fl_Placed_cuts, fl_Placed_content, fl_Placed_ids, fl_Placed_line, fl_Placed_seen, fl_Shelved_place, fl_Shelved_thing, fl_Shelved_count, fl_Shelved_cuts, fl_Shelved_length, fl_Shelved_purpose]
  refine call_of (by simp only [pureAll, pu_ls, pu_lsl, pu_oid, pu_id, pu_ln, pu_oln, pu_pl, pu_ed, pu_eds, pu_idst, pu_path, pu_oct, pu_mv, pu_mvs, pu_str, pu_int, pu_bl, pu_non, eOp_s, eOp_n, Bool.and_self]) ⟨ls, m.1, rfl, ?_⟩
  have main : ∀ o, meantBy ls m = o → pr_move_line_1 { nx := fun _ _ => k .non, rt := fun d S => (d.frz S).noRef = true ∧ k (d.frz S) } [some (eLs ls), some (eOp eId m.1), some (eOp eId m.2.1), some (ePl m.2.2), some (eOp eLn o), none, none, none, none] [] := by
    intro o ho
    unfold pr_move_line_1
    rcases mv_cases hm with ⟨h1, h2⟩ | ⟨l, n, b, h1, h2, h3⟩
    · rw [h1] at ho
      subst ho
      rw [h2] at hk
      simp only [pForD, pInsL, pExtA, pSeq, pAsg, pVar, pC, pOp, pNil, pCons, pTup, pLst, pLstM, pNot, pAndV, pOrV, pIf, pB, pAnd, pOr, pNotT, pNoPart, pPart, pCB, pUnN, pSl, pNext, pBreak, pCont, pRet, pRetN, pDrop, pIfS, pgName, pgNil, pgCons, pgTup_t, pAug, pApp, pYes, isk_non, nsk_non, isN_non, isN_bl, isN_int, isN_str, isN_tup, isN_lst, isN_ref, isN_obj, pTru, pFld, pStar, pMake, pSetF, pIt, pRng1, pRng2, forG, List.map_cons, List.map_nil, List.getElem?_cons_zero, List.getElem?_cons_succ, List.set_cons_zero, List.set_cons_succ, Option.some.injEq, exists_eq_left, exists_eq_left', true_and, and_true, wipeE, D.bl.injEq, D.int.injEq, D.str.injEq, D.tup.injEq, D.lst.injEq, Bool.not_true, decide_eq_true_eq, if_true, if_false, reduceIte, Bool.false_eq_true, Option.isNone_none, Option.isNone_some, Bool.not_false, List.length_nil, List.length_cons, List.nil_append, List.cons_append, D.ref.injEq, SO.lst.injEq, pCall, exists_const, and_self, Nat.zero_add, Nat.zero_le, Nat.reduceLeDiff, Nat.reduceAdd, eq_self, o_add, o_sub, o_mul, o_div, o_mod, o_cmp, o_int, o_lenl, o_lent, o_lens, o_tupl, o_tupt, o_min, o_max, q_int, ixk_tup, ixk_lst, ixk_scr, at0, at1, at2, at3, at4, at5, List.length_map, ln0, ln1, ln2, ln3, ln4, lnS0, lnS2, lnS4, q_id, q_ido, q_oi, q_oid, q_path, q_ln, q_ls, n_id, n_path, n_ln, n_ls, non_oid, non_oln, non_oct, non_id, non_ln, non_ct, non_path, un_ln, un_pl, in_ids, ad_path, eOp_s, eOp_n, lstk_ls, st_ls, fl_Placed_path, fl_Placed_names, fl_Placed_thing, fl_Placed_count, fl_Placed_cuts, fl_Placed_content, fl_Placed_ids, fl_Placed_line, fl_Placed_seen, fl_Shelved_place, fl_Shelved_thing, fl_Shelved_count, fl_Shelved_cuts, fl_Shelved_length, fl_Shelved_purpose]
      exact rt_pure (pu_ls ls) hk
    · rw [h1] at ho
      subst ho
      simp only [pForD, pInsL, pExtA, pSeq, pAsg, pVar, pC, pOp, pNil, pCons, pTup, pLst, pLstM, pNot, pAndV, pOrV, pIf, pB, pAnd, pOr, pNotT, pNoPart, pPart, pCB, pUnN, pSl, pNext, pBreak, pCont, pRet, pRetN, pDrop, pIfS, pgName, pgNil, pgCons, pgTup_t, pAug, pApp, pYes, isk_non, nsk_non, isN_non, isN_bl, isN_int, isN_str, isN_tup, isN_lst, isN_ref, isN_obj, pTru, pFld, pStar, pMake, pSetF, pIt, pRng1, pRng2, forG, List.map_cons, List.map_nil, List.getElem?_cons_zero, List.getElem?_cons_succ, List.set_cons_zero, List.set_cons_succ, Option.some.injEq, exists_eq_left, exists_eq_left', true_and, and_true, wipeE, D.bl.injEq, D.int.injEq, D.str.injEq, D.tup.injEq, D.lst.injEq, Bool.not_true, decide_eq_true_eq, if_true, if_false, reduceIte, Bool.false_eq_true, Option.isNone_none, Option.isNone_some, Bool.not_false, List.length_nil, List.length_cons, List.nil_append, List.cons_append, D.ref.injEq, SO.lst.injEq, pCall, exists_const, and_self, Nat.zero_add, Nat.zero_le, Nat.reduceLeDiff, Nat.reduceAdd, eq_self, o_add, o_sub, o_mul, o_div, o_mod, o_cmp, o_int, o_lenl, o_lent, o_lens, o_tupl, o_tupt, o_min, o_max, q_int, ixk_tup, ixk_lst, ixk_scr, at0, at1, at2, at3, at4, at5, List.length_map, ln0, ln1, ln2, ln3, ln4, lnS0, lnS2, lnS4, q_id, q_ido, q_oi, q_oid, q_path, q_ln, q_ls, n_id, n_path, n_ln, n_ls, non_oid, non_oln, non_oct, non_id, non_ln, non_ct, non_path, un_ln, un_pl, in_ids, ad_path, eOp_s, eOp_n, lstk_ls, st_ls, fl_Placed_path, fl_Placed_names, fl_Placed_thing, fl_Placed_count, fl_Placed_cuts, fl_Placed_content, fl_Placed_ids, fl_Placed_line, fl_Placed_seen, fl_Shelved_place, fl_Shelved_thing, fl_Shelved_count, fl_Shelved_cuts, fl_Shelved_length, fl_Shelved_purpose]
      refine call_of (by simp only [pureAll, pu_ls, pu_lsl, pu_oid, pu_id, pu_ln, pu_oln, pu_pl, pu_ed, pu_eds, pu_idst, pu_path, pu_oct, pu_mv, pu_mvs, pu_str, pu_int, pu_bl, pu_non, eOp_s, eOp_n, Bool.and_self]) ⟨ls, m.2.2, rfl, ?_⟩
      unfold eTwo
      simp only [pForD, pInsL, pExtA, pSeq, pAsg, pVar, pC, pOp, pNil, pCons, pTup, pLst, pLstM, pNot, pAndV, pOrV, pIf, pB, pAnd, pOr, pNotT, pNoPart, pPart, pCB, pUnN, pSl, pNext, pBreak, pCont, pRet, pRetN, pDrop, pIfS, pgName, pgNil, pgCons, pgTup_t, pAug, pApp, pYes, isk_non, nsk_non, isN_non, isN_bl, isN_int, isN_str, isN_tup, isN_lst, isN_ref, isN_obj, pTru, pFld, pStar, pMake, pSetF, pIt, pRng1, pRng2, forG, List.map_cons, List.map_nil, List.getElem?_cons_zero, List.getElem?_cons_succ, List.set_cons_zero, List.set_cons_succ, Option.some.injEq, exists_eq_left, exists_eq_left', true_and, and_true, wipeE, D.bl.injEq, D.int.injEq, D.str.injEq, D.tup.injEq, D.lst.injEq, Bool.not_true, decide_eq_true_eq, if_true, if_false, reduceIte, Bool.false_eq_true, Option.isNone_none, Option.isNone_some, Bool.not_false, List.length_nil, List.length_cons, List.nil_append, List.cons_append, D.ref.injEq, SO.lst.injEq, pCall, exists_const, and_self, Nat.zero_add, Nat.zero_le, Nat.reduceLeDiff, Nat.reduceAdd, eq_self, o_add, o_sub, o_mul, o_div, o_mod, o_cmp, o_int, o_lenl, o_lent, o_lens, o_tupl, o_tupt, o_min, o_max, q_int, ixk_tup, ixk_lst, ixk_scr, at0, at1, at2, at3, at4, at5, List.length_map, ln0, ln1, ln2, ln3, ln4, lnS0, lnS2, lnS4, q_id, q_ido, q_oi, q_oid, q_path, q_ln, q_ls, n_id, n_path, n_ln, n_ls, non_oid, non_oln, non_oct, non_id, non_ln, non_ct, non_path, un_ln, un_pl, in_ids, ad_path, eOp_s, eOp_n, lstk_ls, st_ls, fl_Placed_path, fl_Placed_names, fl_Placed_thing, fl_Placed_count, fl_Placed_cuts, fl_Placed_content, fl_Placed_ids, fl_Placed_line, fl_Placed_seen, fl_Shelved_place, fl_Shelved_thing, fl_Shelved_count, fl_Shelved_cuts, fl_Shelved_length, fl_Shelved_purpose]
      refine call_of (by simp only [pureAll, pu_ls, pu_lsl, pu_oid, pu_id, pu_ln, pu_oln, pu_pl, pu_ed, pu_eds, pu_idst, pu_path, pu_oct, pu_mv, pu_mvs, pu_str, pu_int, pu_bl, pu_non, eOp_s, eOp_n, Bool.and_self]) ⟨ls, (settleF ls m.2.2).1, l.id, n, b, rfl, h2, ?_⟩
      cases b with
      | true =>
        rw [if_pos rfl] at h3
        rw [h3] at hk
        simp only [pForD, pInsL, pExtA, pSeq, pAsg, pVar, pC, pOp, pNil, pCons, pTup, pLst, pLstM, pNot, pAndV, pOrV, pIf, pB, pAnd, pOr, pNotT, pNoPart, pPart, pCB, pUnN, pSl, pNext, pBreak, pCont, pRet, pRetN, pDrop, pIfS, pgName, pgNil, pgCons, pgTup_t, pAug, pApp, pYes, isk_non, nsk_non, isN_non, isN_bl, isN_int, isN_str, isN_tup, isN_lst, isN_ref, isN_obj, pTru, pFld, pStar, pMake, pSetF, pIt, pRng1, pRng2, forG, List.map_cons, List.map_nil, List.getElem?_cons_zero, List.getElem?_cons_succ, List.set_cons_zero, List.set_cons_succ, Option.some.injEq, exists_eq_left, exists_eq_left', true_and, and_true, wipeE, D.bl.injEq, D.int.injEq, D.str.injEq, D.tup.injEq, D.lst.injEq, Bool.not_true, decide_eq_true_eq, if_true, if_false, reduceIte, Bool.false_eq_true, Option.isNone_none, Option.isNone_some, Bool.not_false, List.length_nil, List.length_cons, List.nil_append, List.cons_append, D.ref.injEq, SO.lst.injEq, pCall, exists_const, and_self, Nat.zero_add, Nat.zero_le, Nat.reduceLeDiff, Nat.reduceAdd, eq_self, o_add, o_sub, o_mul, o_div, o_mod, o_cmp, o_int, o_lenl, o_lent, o_lens, o_tupl, o_tupt, o_min, o_max, q_int, ixk_tup, ixk_lst, ixk_scr, at0, at1, at2, at3, at4, at5, List.length_map, ln0, ln1, ln2, ln3, ln4, lnS0, lnS2, lnS4, q_id, q_ido, q_oi, q_oid, q_path, q_ln, q_ls, n_id, n_path, n_ln, n_ls, non_oid, non_oln, non_oct, non_id, non_ln, non_ct, non_path, un_ln, un_pl, in_ids, ad_path, eOp_s, eOp_n, lstk_ls, st_ls, fl_Placed_path, fl_Placed_names, fl_Placed_thing, fl_Placed_count, fl_Placed_cuts, fl_Placed_content, fl_Placed_ids, fl_Placed_line, fl_Placed_seen, fl_Shelved_place, fl_Shelved_thing, fl_Shelved_count, fl_Shelved_cuts, fl_Shelved_length, fl_Shelved_purpose]
        exact rt_pure (pu_ls ls) hk
      | false =>
        rw [if_neg (by decide)] at h3
        rw [h3] at hk
        simp only [pForD, pInsL, pExtA, pSeq, pAsg, pVar, pC, pOp, pNil, pCons, pTup, pLst, pLstM, pNot, pAndV, pOrV, pIf, pB, pAnd, pOr, pNotT, pNoPart, pPart, pCB, pUnN, pSl, pNext, pBreak, pCont, pRet, pRetN, pDrop, pIfS, pgName, pgNil, pgCons, pgTup_t, pAug, pApp, pYes, isk_non, nsk_non, isN_non, isN_bl, isN_int, isN_str, isN_tup, isN_lst, isN_ref, isN_obj, pTru, pFld, pStar, pMake, pSetF, pIt, pRng1, pRng2, forG, List.map_cons, List.map_nil, List.getElem?_cons_zero, List.getElem?_cons_succ, List.set_cons_zero, List.set_cons_succ, Option.some.injEq, exists_eq_left, exists_eq_left', true_and, and_true, wipeE, D.bl.injEq, D.int.injEq, D.str.injEq, D.tup.injEq, D.lst.injEq, Bool.not_true, decide_eq_true_eq, if_true, if_false, reduceIte, Bool.false_eq_true, Option.isNone_none, Option.isNone_some, Bool.not_false, List.length_nil, List.length_cons, List.nil_append, List.cons_append, D.ref.injEq, SO.lst.injEq, pCall, exists_const, and_self, Nat.zero_add, Nat.zero_le, Nat.reduceLeDiff, Nat.reduceAdd, eq_self, o_add, o_sub, o_mul, o_div, o_mod, o_cmp, o_int, o_lenl, o_lent, o_lens, o_tupl, o_tupt, o_min, o_max, q_int, ixk_tup, ixk_lst, ixk_scr, at0, at1, at2, at3, at4, at5, List.length_map, ln0, ln1, ln2, ln3, ln4, lnS0, lnS2, lnS4, q_id, q_ido, q_oi, q_oid, q_path, q_ln, q_ls, n_id, n_path, n_ln, n_ls, non_oid, non_oln, non_oct, non_id, non_ln, non_ct, non_path, un_ln, un_pl, in_ids, ad_path, eOp_s, eOp_n, lstk_ls, st_ls, fl_Placed_path, fl_Placed_names, fl_Placed_thing, fl_Placed_count, fl_Placed_cuts, fl_Placed_content, fl_Placed_ids, fl_Placed_line, fl_Placed_seen, fl_Shelved_place, fl_Shelved_thing, fl_Shelved_count, fl_Shelved_cuts, fl_Shelved_length, fl_Shelved_purpose]
        refine lc_go (src := eLs ls) (as := ls) (enc := eLn) (fun _ => true) (fun k => eLn (if k.id = l.id then ⟨l.id, l.hd, (settleF ls m.2.2).1, (settleF ls m.2.2).2, l.ct⟩ else k)) (fun kk h => ⟨_, rfl, _, rfl, h⟩) (fun _ => rfl) (by omega) (fun a ha k2 k3 h => ?_) ?_
        · rw [if_pos rfl] at h
          simp only [pForD, pInsL, pExtA, pSeq, pAsg, pVar, pC, pOp, pNil, pCons, pTup, pLst, pLstM, pNot, pAndV, pOrV, pIf, pB, pAnd, pOr, pNotT, pNoPart, pPart, pCB, pUnN, pSl, pNext, pBreak, pCont, pRet, pRetN, pDrop, pIfS, pgName, pgNil, pgCons, pgTup_t, pAug, pApp, pYes, isk_non, nsk_non, isN_non, isN_bl, isN_int, isN_str, isN_tup, isN_lst, isN_ref, isN_obj, pTru, pFld, pStar, pMake, pSetF, pIt, pRng1, pRng2, forG, List.map_cons, List.map_nil, List.getElem?_cons_zero, List.getElem?_cons_succ, List.set_cons_zero, List.set_cons_succ, Option.some.injEq, exists_eq_left, exists_eq_left', true_and, and_true, wipeE, D.bl.injEq, D.int.injEq, D.str.injEq, D.tup.injEq, D.lst.injEq, Bool.not_true, decide_eq_true_eq, if_true, if_false, reduceIte, Bool.false_eq_true, Option.isNone_none, Option.isNone_some, Bool.not_false, List.length_nil, List.length_cons, List.nil_append, List.cons_append, D.ref.injEq, SO.lst.injEq, pCall, exists_const, and_self, Nat.zero_add, Nat.zero_le, Nat.reduceLeDiff, Nat.reduceAdd, eq_self, o_add, o_sub, o_mul, o_div, o_mod, o_cmp, o_int, o_lenl, o_lent, o_lens, o_tupl, o_tupt, o_min, o_max, q_int, ixk_tup, ixk_lst, ixk_scr, at0, at1, at2, at3, at4, at5, List.length_map, ln0, ln1, ln2, ln3, ln4, lnS0, lnS2, lnS4, q_id, q_ido, q_oi, q_oid, q_path, q_ln, q_ls, n_id, n_path, n_ln, n_ls, non_oid, non_oln, non_oct, non_id, non_ln, non_ct, non_path, un_ln, un_pl, in_ids, ad_path, eOp_s, eOp_n, lstk_ls, st_ls, fl_Placed_path, fl_Placed_names, fl_Placed_thing, fl_Placed_count, fl_Placed_cuts, fl_Placed_content, fl_Placed_ids, fl_Placed_line, fl_Placed_seen, fl_Shelved_place, fl_Shelved_thing, fl_Shelved_count, fl_Shelved_cuts, fl_Shelved_length, fl_Shelved_purpose]
          by_cases e : a.id = l.id
          · rw [if_pos e] at h ⊢
            exact h
          · rw [if_neg e] at h ⊢
            exact h
        · rw [flt_all]
          refine rt_pure (d := .lst (ls.map fun k => eLn _)) ?_ ?_
          · exact pureAll_map (fun k => pu_ln _) ls
          · have : (ls.map fun k => eLn (if k.id = l.id then ⟨l.id, l.hd, (settleF ls m.2.2).1, (settleF ls m.2.2).2, l.ct⟩ else k)) = (mvTo ls l (settleF ls m.2.2)).map eLn := by
              unfold mvTo
              rw [List.map_map]
              rfl
            rw [this]
            exact hk
  cases hh : findHead ls m.1 with
  | none =>
    simp only [pForD, pInsL, pExtA, pSeq, pAsg, pVar, pC, pOp, pNil, pCons, pTup, pLst, pLstM, pNot, pAndV, pOrV, pIf, pB, pAnd, pOr, pNotT, pNoPart, pPart, pCB, pUnN, pSl, pNext, pBreak, pCont, pRet, pRetN, pDrop, pIfS, pgName, pgNil, pgCons, pgTup_t, pAug, pApp, pYes, isk_non, nsk_non, isN_non, isN_bl, isN_int, isN_str, isN_tup, isN_lst, isN_ref, isN_obj, pTru, pFld, pStar, pMake, pSetF, pIt, pRng1, pRng2, forG, List.map_cons, List.map_nil, List.getElem?_cons_zero, List.getElem?_cons_succ, List.set_cons_zero, List.set_cons_succ, Option.some.injEq, exists_eq_left, exists_eq_left', true_and, and_true, wipeE, D.bl.injEq, D.int.injEq, D.str.injEq, D.tup.injEq, D.lst.injEq, Bool.not_true, decide_eq_true_eq, if_true, if_false, reduceIte, Bool.false_eq_true, Option.isNone_none, Option.isNone_some, Bool.not_false, List.length_nil, List.length_cons, List.nil_append, List.cons_append, D.ref.injEq, SO.lst.injEq, pCall, exists_const, and_self, Nat.zero_add, Nat.zero_le, Nat.reduceLeDiff, Nat.reduceAdd, eq_self, o_add, o_sub, o_mul, o_div, o_mod, o_cmp, o_int, o_lenl, o_lent, o_lens, o_tupl, o_tupt, o_min, o_max, q_int, ixk_tup, ixk_lst, ixk_scr, at0, at1, at2, at3, at4, at5, List.length_map, ln0, ln1, ln2, ln3, ln4, lnS0, lnS2, lnS4, q_id, q_ido, q_oi, q_oid, q_path, q_ln, q_ls, n_id, n_path, n_ln, n_ls, non_oid, non_oln, non_oct, non_id, non_ln, non_ct, non_path, un_ln, un_pl, in_ids, ad_path, eOp_s, eOp_n, lstk_ls, st_ls, fl_Placed_path, fl_Placed_names, fl_Placed_thing, fl_Placed_count, fl_Placed_cuts, fl_Placed_content, fl_Placed_ids, fl_Placed_line, fl_Placed_seen, fl_Shelved_place, fl_Shelved_thing, fl_Shelved_count, fl_Shelved_cuts, fl_Shelved_length, fl_Shelved_purpose]
    refine call_of (by simp only [pureAll, pu_ls, pu_lsl, pu_oid, pu_id, pu_ln, pu_oln, pu_pl, pu_ed, pu_eds, pu_idst, pu_path, pu_oct, pu_mv, pu_mvs, pu_str, pu_int, pu_bl, pu_non, eOp_s, eOp_n, Bool.and_self]) ⟨ls, m.2.1, rfl, ?_⟩
    simp only [pForD, pInsL, pExtA, pSeq, pAsg, pVar, pC, pOp, pNil, pCons, pTup, pLst, pLstM, pNot, pAndV, pOrV, pIf, pB, pAnd, pOr, pNotT, pNoPart, pPart, pCB, pUnN, pSl, pNext, pBreak, pCont, pRet, pRetN, pDrop, pIfS, pgName, pgNil, pgCons, pgTup_t, pAug, pApp, pYes, isk_non, nsk_non, isN_non, isN_bl, isN_int, isN_str, isN_tup, isN_lst, isN_ref, isN_obj, pTru, pFld, pStar, pMake, pSetF, pIt, pRng1, pRng2, forG, List.map_cons, List.map_nil, List.getElem?_cons_zero, List.getElem?_cons_succ, List.set_cons_zero, List.set_cons_succ, Option.some.injEq, exists_eq_left, exists_eq_left', true_and, and_true, wipeE, D.bl.injEq, D.int.injEq, D.str.injEq, D.tup.injEq, D.lst.injEq, Bool.not_true, decide_eq_true_eq, if_true, if_false, reduceIte, Bool.false_eq_true, Option.isNone_none, Option.isNone_some, Bool.not_false, List.length_nil, List.length_cons, List.nil_append, List.cons_append, D.ref.injEq, SO.lst.injEq, pCall, exists_const, and_self, Nat.zero_add, Nat.zero_le, Nat.reduceLeDiff, Nat.reduceAdd, eq_self, o_add, o_sub, o_mul, o_div, o_mod, o_cmp, o_int, o_lenl, o_lent, o_lens, o_tupl, o_tupt, o_min, o_max, q_int, ixk_tup, ixk_lst, ixk_scr, at0, at1, at2, at3, at4, at5, List.length_map, ln0, ln1, ln2, ln3, ln4, lnS0, lnS2, lnS4, q_id, q_ido, q_oi, q_oid, q_path, q_ln, q_ls, n_id, n_path, n_ln, n_ls, non_oid, non_oln, non_oct, non_id, non_ln, non_ct, non_path, un_ln, un_pl, in_ids, ad_path, eOp_s, eOp_n, lstk_ls, st_ls, fl_Placed_path, fl_Placed_names, fl_Placed_thing, fl_Placed_count, fl_Placed_cuts, fl_Placed_content, fl_Placed_ids, fl_Placed_line, fl_Placed_seen, fl_Shelved_place, fl_Shelved_thing, fl_Shelved_count, fl_Shelved_cuts, fl_Shelved_length, fl_Shelved_purpose]
    exact main (findLine ls m.2.1) (by unfold meantBy; rw [hh, Option.none_or])
  | some l =>
    simp only [pForD, pInsL, pExtA, pSeq, pAsg, pVar, pC, pOp, pNil, pCons, pTup, pLst, pLstM, pNot, pAndV, pOrV, pIf, pB, pAnd, pOr, pNotT, pNoPart, pPart, pCB, pUnN, pSl, pNext, pBreak, pCont, pRet, pRetN, pDrop, pIfS, pgName, pgNil, pgCons, pgTup_t, pAug, pApp, pYes, isk_non, nsk_non, isN_non, isN_bl, isN_int, isN_str, isN_tup, isN_lst, isN_ref, isN_obj, pTru, pFld, pStar, pMake, pSetF, pIt, pRng1, pRng2, forG, List.map_cons, List.map_nil, List.getElem?_cons_zero, List.getElem?_cons_succ, List.set_cons_zero, List.set_cons_succ, Option.some.injEq, exists_eq_left, exists_eq_left', true_and, and_true, wipeE, D.bl.injEq, D.int.injEq, D.str.injEq, D.tup.injEq, D.lst.injEq, Bool.not_true, decide_eq_true_eq, if_true, if_false, reduceIte, Bool.false_eq_true, Option.isNone_none, Option.isNone_some, Bool.not_false, List.length_nil, List.length_cons, List.nil_append, List.cons_append, D.ref.injEq, SO.lst.injEq, pCall, exists_const, and_self, Nat.zero_add, Nat.zero_le, Nat.reduceLeDiff, Nat.reduceAdd, eq_self, o_add, o_sub, o_mul, o_div, o_mod, o_cmp, o_int, o_lenl, o_lent, o_lens, o_tupl, o_tupt, o_min, o_max, q_int, ixk_tup, ixk_lst, ixk_scr, at0, at1, at2, at3, at4, at5, List.length_map, ln0, ln1, ln2, ln3, ln4, lnS0, lnS2, lnS4, q_id, q_ido, q_oi, q_oid, q_path, q_ln, q_ls, n_id, n_path, n_ln, n_ls, non_oid, non_oln, non_oct, non_id, non_ln, non_ct, non_path, un_ln, un_pl, in_ids, ad_path, eOp_s, eOp_n, lstk_ls, st_ls, fl_Placed_path, fl_Placed_names, fl_Placed_thing, fl_Placed_count, fl_Placed_cuts, fl_Placed_content, fl_Placed_ids, fl_Placed_line, fl_Placed_seen, fl_Shelved_place, fl_Shelved_thing, fl_Shelved_count, fl_Shelved_cuts, fl_Shelved_length, fl_Shelved_purpose]
    exact main (some l) (by unfold meantBy; rw [hh, Option.some_or])
theorem ok_move_line {P : Program} {w : World} {K : PySem.W.Frag} {cl : Cl} {mg : Str → Option Value} {base : Heap} (D : Df K mg "move_line" s_move_line ["lines", "head", "line_id", "place"]) (T : Txt K cl mg) (G_find_line : C8.Cal P w K mg base 1 "find_line" (spP K cl F_find_line) []) (G_find_head : C8.Cal P w K mg base 1 "find_head" (spP K cl F_find_head) []) (G_settle : C8.Cal P w K mg base 2 "settle" (spP K cl F_settle) []) (G_stands_in : C8.Cal P w K mg base 2 "stands_in" (spP K cl F_stands_in) []) : C8.Cal P w K mg base 3 "move_line" (spP K cl F_move_line) [] := by
  refine D.cal sc_move_line (spP_len (n := 4) len_move_line) (fun f cdv  A outer s H vs Q E hr h => ?_)
  refine ⟨_,
    (pss_cons (ps_set (i := 4) sc_move_line.nd rfl (.inr rfl) (C8.pe_c G_find_head hr (by decide) (by rfl) (pa_cons (pv 0) (pa_cons (pv 1) pa_nil))))
    (pss_cons (ps_if (pt_cmpR op_isN (pv 4) pe_non (nomark _))
      (pss_one (ps_set (i := 4) sc_move_line.nd rfl (.inr rfl) (C8.pe_c G_find_line hr (by decide) (by rfl) (pa_cons (pv 0) (pa_cons (pv 2) pa_nil)))))
      pss_nil)
    (pss_cons (ps_if (pt_cmpR op_isN (pv 4) pe_non (nomark _))
      (pss_one (ps_ret (pe_callTy (show CallR _ (.type "list") (uLst K) from call_list_of) (by rfl) T.n_list (by decide +kernel) (pa_cons (pv 0) pa_nil))))
      pss_nil)
    (pss_cons (ps_asg (C8.pe_c G_settle hr (by decide) (by rfl) (pa_cons (pv 0) (pa_cons (pv 3) pa_nil))) (pg_tup rfl (pgs_cons (pg_name (i := 5) sc_move_line.nd rfl (Or.inl rfl)) (pgs_cons (pg_name (i := 6) sc_move_line.nd rfl (Or.inl rfl)) pgs_nil))))
    (pss_cons (ps_if (pt_val (C8.pe_c G_stands_in hr (by decide) (by rfl) (pa_cons (pv 0) (pa_cons (pv 5) (pa_cons (pe_ix (show IxR _ (uIx K) from uix) (pv 4) pe_int (fun _ _ => rfl)) pa_nil)))))
      (pss_one (ps_ret (pe_callTy (show CallR _ (.type "list") (uLst K) from call_list_of) (by rfl) T.n_list (by decide +kernel) (pa_cons (pv 0) pa_nil))))
      pss_nil)
    (pss_cons (ps_set (i := 7) sc_move_line.nd rfl (.inr rfl) (pe_tup (pa_cons (pe_ix (show IxR _ (uIx K) from uix) (pv 4) pe_int (fun _ _ => rfl)) (pa_cons (pe_ix (show IxR _ (uIx K) from uix) (pv 4) pe_int (fun _ _ => rfl)) (pa_cons (pv 5) (pa_cons (pv 6) (pa_cons (pe_ix (show IxR _ (uIx K) from uix) (pv 4) pe_int (fun _ _ => rfl)) pa_nil)))))))
    (pss_one (ps_ret (pe_lc (own := [("known", 8)]) (g := gName 8) (tt := tYes) rfl sc_move_line.nd (show PI _ _ _ (uIt K _) from upi (pv 0)) (blkOk_by (own := [("known", 8)]) (N := ["lines", "head", "line_id", "place", "line", "inside", "below", "moved", "known"]) (sc := defScope s_move_line) (by decide +kernel)) (fun _ _ _ _ _ => (pg_name (i := 8) sc_move_line.nd rfl (Or.inl rfl))) (fun _ _ _ _ _ => pts_nil) (fun _ _ _ _ _ => (pe_ifExp (pt_cmpR (show OpR _ _ (rEqP K) from op_eqP hr.units) (pe_ix (show IxR _ (uIx K) from uix) (pv 8) pe_int (fun _ _ => rfl)) (pe_ix (show IxR _ (uIx K) from uix) (pv 4) pe_int (fun _ _ => rfl)) (nomark _)) (pv 7) (pv 8)))))))))))), ?_⟩
  exact fn_ok (N := ["lines", "head", "line_id", "place", "line", "inside", "below", "moved", "known"]) (show SmS K cl _ ps_move_line from
    (sm_seq (sm_asg (sm_call (sm_cons sm_var (sm_cons sm_var sm_nil))) sm_gname)
    (sm_seq (sm_ifS (sm_test (sm_op smr_is sm_var sm_non))
      ((sm_asg (sm_call (sm_cons sm_var (sm_cons sm_var sm_nil))) sm_gname))
      sm_next)
    (sm_seq (sm_ifS (sm_test (sm_op smr_is sm_var sm_non))
      ((sm_ret (sm_cb smc_lst (sm_cons sm_var sm_nil))))
      sm_next)
    (sm_seq (sm_asg (sm_call (sm_cons sm_var (sm_cons sm_var sm_nil))) (sm_gtup (sm_gcons sm_gname (sm_gcons sm_gname sm_gnil))))
    (sm_seq (sm_ifS (sm_B (sm_call (sm_cons sm_var (sm_cons sm_var (sm_cons (sm_op smr_ix sm_var sm_int) sm_nil)))))
      ((sm_ret (sm_cb smc_lst (sm_cons sm_var sm_nil))))
      sm_next)
    (sm_seq (sm_asg (sm_tup (sm_cons (sm_op smr_ix sm_var sm_int) (sm_cons (sm_op smr_ix sm_var sm_int) (sm_cons sm_var (sm_cons sm_var (sm_cons (sm_op smr_ix sm_var sm_int) sm_nil)))))) sm_gname)
    ((sm_ret (sm_lc (sm_it sm_var) (gok_name (by decide)) sm_gname sm_yes (sm_if (sm_test (sm_op smr_eq (sm_op smr_ix sm_var sm_int) (sm_op smr_ix sm_var sm_int))) sm_var sm_var))))))))))) body_move_line h
def pl_after_move_1 : PSx :=
      ((pAsg (pCall F_move_line (pCons (pVar 0) (pCons (pVar 2) (pCons (pVar 3) (pCons (pVar 4) pNil))))) (pgName 0)))
def ps_after_move : PSx :=
    (pSeq (pFor (pIt (pOp ixk (pVar 1) (pC (.int 2)))) (pgTup 3 (pgCons (pgName 2) (pgCons (pgName 3) (pgCons (pgName 4) pgNil)))) pl_after_move_1)
    ((pRet (pVar 0))))
theorem start_after_move : ∀ a0 a1 : D, startE 5 [a0, a1] = [some a0, some a1, none, none, none] := fun _ _ => rfl
theorem loop_after_move (e : D) (P : PEnds) : ∀ (ms : List Mv) (ls ls' : List Line) (x1 x2 x3 : Option D), MvsR ls ms ls' →
    (∀ x1 x2 x3, P.nx [some (eLs ls'), some e, x1, x2, x3] []) → forG (pgTup 3 (pgCons (pgName 2) (pgCons (pgName 3) (pgCons (pgName 4) pgNil)))) pl_after_move_1 P (ms.map eMv) [some (eLs ls), some e, x1, x2, x3] [] := by
  intro ms
  induction ms with
  | nil =>
    intro ls ls' x1 x2 x3 hm h
    cases hm
    exact h x1 x2 x3
  | cons a ms ih =>
    intro ls ls' x1 x2 x3 hm h
    cases hm with
    | @cons _ ls1 _ _ _ hs h1 h2 =>
      unfold pl_after_move_1
      simp only [pForD, pInsL, pExtA, pSeq, pAsg, pVar, pC, pOp, pNil, pCons, pTup, pLst, pLstM, pNot, pAndV, pOrV, pIf, pB, pAnd, pOr, pNotT, pNoPart, pPart, pCB, pUnN, pSl, pNext, pBreak, pCont, pRet, pRetN, pDrop, pIfS, pgName, pgNil, pgCons, pgTup_t, pAug, pApp, pYes, isk_non, nsk_non, isN_non, isN_bl, isN_int, isN_str, isN_tup, isN_lst, isN_ref, isN_obj, pTru, pFld, pStar, pMake, pSetF, pIt, pRng1, pRng2, forG, List.map_cons, List.map_nil, List.getElem?_cons_zero, List.getElem?_cons_succ, List.set_cons_zero, List.set_cons_succ, Option.some.injEq, exists_eq_left, exists_eq_left', true_and, and_true, wipeE, D.bl.injEq, D.int.injEq, D.str.injEq, D.tup.injEq, D.lst.injEq, Bool.not_true, decide_eq_true_eq, if_true, if_false, reduceIte, Bool.false_eq_true, Option.isNone_none, Option.isNone_some, Bool.not_false, List.length_nil, List.length_cons, List.nil_append, List.cons_append, D.ref.injEq, SO.lst.injEq, pCall, exists_const, and_self, Nat.zero_add, Nat.zero_le, Nat.reduceLeDiff, Nat.reduceAdd, eq_self, o_add, o_sub, o_mul, o_div, o_mod, o_cmp, o_int, o_lenl, o_lent, o_lens, o_tupl, o_tupt, o_min, o_max, q_int, ixk_tup, ixk_lst, ixk_scr, at0, at1, at2, at3, at4, at5, List.length_map, ln0, ln1, ln2, ln3, ln4, lnS0, lnS2, lnS4, q_id, q_ido, q_oi, q_oid, q_path, q_ln, q_ls, n_id, n_path, n_ln, n_ls, non_oid, non_oln, non_oct, non_id, non_ln, non_ct, non_path, un_ln, un_pl, in_ids, ad_path, eOp_s, eOp_n, lstk_ls, st_ls, fl_Placed_path, fl_Placed_names, fl_Placed_thing, fl_Placed_count, fl_Placed_cuts, fl_Placed_content, fl_Placed_ids, fl_Placed_line, fl_Placed_seen, fl_Shelved_place, fl_Shelved_thing, fl_Shelved_count, fl_Shelved_cuts, fl_Shelved_length, fl_Shelved_purpose, eMv]
      exact call_of (by simp only [pureAll, pu_ls, pu_lsl, pu_oid, pu_id, pu_ln, pu_oln, pu_pl, pu_ed, pu_eds, pu_idst, pu_path, pu_oct, pu_mv, pu_mvs, pu_str, pu_int, pu_bl, pu_non, eOp_s, eOp_n, Bool.and_self]) ⟨ls, a, ls1, rfl, hs.1, h1, ih ls1 ls' _ _ _ h2 h⟩
def F_after_move : PFn := fun ds k => ∃ ls id ms ls', ds = [eLs ls, eEd (.move id ms)] ∧ MvsR ls ms ls' ∧ k (eLs ls')
theorem len_after_move : ∀ ds k, F_after_move ds k → ds.length = 2 := by
  rintro _ _ ⟨_, _, _, _, rfl, _⟩
  rfl
theorem body_after_move : ∀ ds k, F_after_move ds k → ps_after_move { nx := fun _ _ => k .non, rt := fun d S => (d.frz S).noRef = true ∧ k (d.frz S) } (startE 5 ds) [] := by
  rintro _ k ⟨ls, id, ms, ls', rfl, hm, hk⟩
  rw [start_after_move]
  unfold ps_after_move
  refine for_go (src := .tup (ms.map eMv)) (ds := ms.map eMv) (fun kk h => ?_) (fun S => rfl) (loop_after_move _ _ ms ls ls' _ _ _ hm fun x1 x2 x3 => ?_)
  · simp only [pForD, pInsL, pExtA, pSeq, pAsg, pVar, pC, pOp, pNil, pCons, pTup, pLst, pLstM, pNot, pAndV, pOrV, pIf, pB, pAnd, pOr, pNotT, pNoPart, pPart, pCB, pUnN, pSl, pNext, pBreak, pCont, pRet, pRetN, pDrop, pIfS, pgName, pgNil, pgCons, pgTup_t, pAug, pApp, pYes, isk_non, nsk_non, isN_non, isN_bl, isN_int, isN_str, isN_tup, isN_lst, isN_ref, isN_obj, pTru, pFld, pStar, pMake, pSetF, pIt, pRng1, pRng2, forG, List.map_cons, List.map_nil, List.getElem?_cons_zero, List.getElem?_cons_succ, List.set_cons_zero, List.set_cons_succ, Option.some.injEq, exists_eq_left, exists_eq_left', true_and, and_true, wipeE, D.bl.injEq, D.int.injEq, D.str.injEq, D.tup.injEq, D.lst.injEq, Bool.not_true, decide_eq_true_eq, if_true, if_false, reduceIte, Bool.false_eq_true, Option.isNone_none, Option.isNone_some, Bool.not_false, List.length_nil, List.length_cons, List.nil_append, List.cons_append, D.ref.injEq, SO.lst.injEq, pCall, exists_const, and_self, Nat.zero_add, Nat.zero_le, Nat.reduceLeDiff, Nat.reduceAdd, eq_self, o_add, o_sub, o_mul, o_div, o_mod, o_cmp, o_int, o_lenl, o_lent, o_lens, o_tupl, o_tupt, o_min, o_max, q_int, ixk_tup, ixk_lst, ixk_scr, at0, at1, at2, at3, at4, at5, List.length_map, ln0, ln1, ln2, ln3, ln4, lnS0, lnS2, lnS4, q_id, q_ido, q_oi, q_oid, q_path, q_ln, q_ls, n_id, n_path, n_ln, n_ls, non_oid, non_oln, non_oct, non_id, non_ln, non_ct, non_path, un_ln, un_pl, in_ids, ad_path, eOp_s, eOp_n, lstk_ls, st_ls, fl_Placed_path, fl_Placed_names, fl_Placed_thing, fl_Placed_count, fl_Placed_cuts, fl_Placed_content, fl_Placed_ids, fl_Placed_line, fl_Placed_seen, fl_Shelved_place, fl_Shelved_thing, fl_Shelved_count, fl_Shelved_cuts, fl_Shelved_length, fl_Shelved_purpose, eEd, ixk_tup, at2]
    exact ⟨_, rfl, h⟩
  · simp only [pForD, pInsL, pExtA, pSeq, pAsg, pVar, pC, pOp, pNil, pCons, pTup, pLst, pLstM, pNot, pAndV, pOrV, pIf, pB, pAnd, pOr, pNotT, pNoPart, pPart, pCB, pUnN, pSl, pNext, pBreak, pCont, pRet, pRetN, pDrop, pIfS, pgName, pgNil, pgCons, pgTup_t, pAug, pApp, pYes, isk_non, nsk_non, isN_non, isN_bl, isN_int, isN_str, isN_tup, isN_lst, isN_ref, isN_obj, pTru, pFld, pStar, pMake, pSetF, pIt, pRng1, pRng2, forG, List.map_cons, List.map_nil, List.getElem?_cons_zero, List.getElem?_cons_succ, List.set_cons_zero, List.set_cons_succ, Option.some.injEq, exists_eq_left, exists_eq_left', true_and, and_true, wipeE, D.bl.injEq, D.int.injEq, D.str.injEq, D.tup.injEq, D.lst.injEq, Bool.not_true, decide_eq_true_eq, if_true, if_false, reduceIte, Bool.false_eq_true, Option.isNone_none, Option.isNone_some, Bool.not_false, List.length_nil, List.length_cons, List.nil_append, List.cons_append, D.ref.injEq, SO.lst.injEq, pCall, exists_const, and_self, Nat.zero_add, Nat.zero_le, Nat.reduceLeDiff, Nat.reduceAdd, eq_self, o_add, o_sub, o_mul, o_div, o_mod, o_cmp, o_int, o_lenl, o_lent, o_lens, o_tupl, o_tupt, o_min, o_max, q_int, ixk_tup, ixk_lst, ixk_scr, at0, at1, at2, at3, at4, at5, List.length_map, ln0, ln1, ln2, ln3, ln4, lnS0, lnS2, lnS4, q_id, q_ido, q_oi, q_oid, q_path, q_ln, q_ls, n_id, n_path, n_ln, n_ls, non_oid, non_oln, non_oct, non_id, non_ln, non_ct, non_path, un_ln, un_pl, in_ids, ad_path, eOp_s, eOp_n, lstk_ls, st_ls, fl_Placed_path, fl_Placed_names, fl_Placed_thing, fl_Placed_count, fl_Placed_cuts, fl_Placed_content, fl_Placed_ids, fl_Placed_line, fl_Placed_seen, fl_Shelved_place, fl_Shelved_thing, fl_Shelved_count, fl_Shelved_cuts, fl_Shelved_length, fl_Shelved_purpose]
    exact rt_pure (pu_ls _) hk
theorem ok_after_move {P : Program} {w : World} {K : PySem.W.Frag} {cl : Cl} {mg : Str → Option Value} {base : Heap} (D : Df K mg "after_move" s_after_move ["lines", "edit"]) (T : Txt K cl mg) (G_move_line : C8.Cal P w K mg base 3 "move_line" (spP K cl F_move_line) []) : C8.Cal P w K mg base 4 "after_move" (spP K cl F_after_move) [] := by
  refine D.cal sc_after_move (spP_len (n := 2) len_after_move) (fun f cdv  A outer s H vs Q E hr h => ?_)
  refine ⟨_,
    (pss_cons (ps_for PassesOwn.never rfl (show PI _ _ _ (uIt K _) from upi (pe_ix (show IxR _ (uIx K) from uix) (pv 1) pe_int (fun _ _ => rfl))) (pg_tup rfl (pgs_cons (pg_name (i := 2) sc_after_move.nd rfl (Or.inl rfl)) (pgs_cons (pg_name (i := 3) sc_after_move.nd rfl (Or.inl rfl)) (pgs_cons (pg_name (i := 4) sc_after_move.nd rfl (Or.inl rfl)) pgs_nil))))
      (pss_one (ps_set (i := 0) sc_after_move.nd rfl (.inl rfl) (C8.pe_c G_move_line hr (by decide) (by rfl) (pa_cons (pv 0) (pa_cons (pv 2) (pa_cons (pv 3) (pa_cons (pv 4) pa_nil))))))))
    (pss_one (ps_ret (pv 0)))), ?_⟩
  exact fn_ok (N := ["lines", "edit", "head", "line_id", "place"]) (show SmS K cl _ ps_after_move from
    (sm_seq (sm_for (sm_it (sm_op smr_ix sm_var sm_int)) (sm_gtup (sm_gcons sm_gname (sm_gcons sm_gname (sm_gcons sm_gname sm_gnil))))
      ((sm_asg (sm_call (sm_cons sm_var (sm_cons sm_var (sm_cons sm_var (sm_cons sm_var sm_nil))))) sm_gname)))
    ((sm_ret sm_var)))) body_after_move h
def ps_lines_after : PSx :=
    (pSeq (pAsg (pCB lstk (pCons (pVar 0) pNil)) (pgName 0))
    (pSeq (pIfS (pB (pOp eqk (pOp ixk (pVar 1) (pC (.int 0))) (pC (.str (Str.ofString "drop")))))
      ((pRet (pCall F_without_heads (pCons (pVar 0) (pCons (pOp ixk (pVar 1) (pC (.int 2))) pNil)))))
      pNext)
    (pSeq (pIfS (pB (pOp eqk (pOp ixk (pVar 1) (pC (.int 0))) (pC (.str (Str.ofString "move")))))
      ((pRet (pCall F_after_move (pCons (pVar 0) (pCons (pVar 1) pNil)))))
      pNext)
    (pSeq (pIfS (pB (pOp isk (pOp ixk (pVar 1) (pC (.int 3))) (pC .non)))
      ((pRet (pCall F_without_heads (pCons (pCall F_with_new_line (pCons (pVar 0) (pCons (pVar 1) pNil))) (pCons (pOp ixk (pVar 1) (pC (.int 5))) pNil)))))
      pNext)
    ((pRet (pCall F_after_text (pCons (pVar 0) (pCons (pVar 1) pNil)))))))))
theorem start_lines_after : ∀ a0 a1 : D, startE 2 [a0, a1] = [some a0, some a1] := fun _ _ => rfl
def F_lines_after : PFn := fun ds k => ∃ ls e ls', ds = [eLs ls, eEd e] ∧ AftR ls e ls' ∧ k (eLs ls')
theorem len_lines_after : ∀ ds k, F_lines_after ds k → ds.length = 2 := by
  rintro _ _ ⟨_, _, _, rfl, _⟩
  rfl
theorem w_dd : (Str.ofString "drop" = Str.ofString "drop") = True := by simp
theorem w_mm : (Str.ofString "move" = Str.ofString "move") = True := by simp
theorem w_md : (Str.ofString "move" = Str.ofString "drop") = False := by simp only [eq_iff_iff, iff_false]; decide +kernel
theorem w_wd : (Str.ofString "write" = Str.ofString "drop") = False := by simp only [eq_iff_iff, iff_false]; decide +kernel
theorem w_wm : (Str.ofString "write" = Str.ofString "move") = False := by simp only [eq_iff_iff, iff_false]; decide +kernel
theorem ed0 {e : Edit} {S : Sto} {k : D → Prop} : ixk S (eEd e) (.int 0) k = k (.str (match e with | .write .. => Str.ofString "write" | .drop .. => Str.ofString "drop" | .move .. => Str.ofString "move")) := by
  cases e <;> simp [eEd, ixk_tup, at0]
theorem ed2d {id : Ln.Id} {hs : List Ln.Id} {S : Sto} {k : D → Prop} : ixk S (eEd (.drop id hs)) (.int 2) k = k (eIds hs) := by simp [eEd, ixk_tup, at2]
theorem ed3 {id : Ln.Id} {pl : Ln.Place} {ct : Option Ct} {meant : Option Ln.Id} {hs : List Ln.Id} {S : Sto} {k : D → Prop} : ixk S (eEd (.write id pl ct meant hs)) (.int 3) k = k (eOp eCt ct) := by simp [eEd, ixk_tup, at3]
theorem ed5 {id : Ln.Id} {pl : Ln.Place} {ct : Option Ct} {meant : Option Ln.Id} {hs : List Ln.Id} {S : Sto} {k : D → Prop} : ixk S (eEd (.write id pl ct meant hs)) (.int 5) k = k (eIds hs) := by simp [eEd, ixk_tup, at5]
theorem body_lines_after : ∀ ds k, F_lines_after ds k → ps_lines_after { nx := fun _ _ => k .non, rt := fun d S => (d.frz S).noRef = true ∧ k (d.frz S) } (startE 2 ds) [] := by
  rintro _ k ⟨ls, e, ls', rfl, ha, hk⟩
  rw [start_lines_after]
  unfold ps_lines_after
  simp only [pForD, pInsL, pExtA, pSeq, pAsg, pVar, pC, pOp, pNil, pCons, pTup, pLst, pLstM, pNot, pAndV, pOrV, pIf, pB, pAnd, pOr, pNotT, pNoPart, pPart, pCB, pUnN, pSl, pNext, pBreak, pCont, pRet, pRetN, pDrop, pIfS, pgName, pgNil, pgCons, pgTup_t, pAug, pApp, pYes, isk_non, nsk_non, isN_non, isN_bl, isN_int, isN_str, isN_tup, isN_lst, isN_ref, isN_obj, pTru, pFld, pStar, pMake, pSetF, pIt, pRng1, pRng2, forG, List.map_cons, List.map_nil, List.getElem?_cons_zero, List.getElem?_cons_succ, List.set_cons_zero, List.set_cons_succ, Option.some.injEq, exists_eq_left, exists_eq_left', true_and, and_true, wipeE, D.bl.injEq, D.int.injEq, D.str.injEq, D.tup.injEq, D.lst.injEq, Bool.not_true, decide_eq_true_eq, if_true, if_false, reduceIte, Bool.false_eq_true, Option.isNone_none, Option.isNone_some, Bool.not_false, List.length_nil, List.length_cons, List.nil_append, List.cons_append, D.ref.injEq, SO.lst.injEq, pCall, exists_const, and_self, Nat.zero_add, Nat.zero_le, Nat.reduceLeDiff, Nat.reduceAdd, eq_self, o_add, o_sub, o_mul, o_div, o_mod, o_cmp, o_int, o_lenl, o_lent, o_lens, o_tupl, o_tupt, o_min, o_max, q_int, ixk_tup, ixk_lst, ixk_scr, at0, at1, at2, at3, at4, at5, List.length_map, ln0, ln1, ln2, ln3, ln4, lnS0, lnS2, lnS4, q_id, q_ido, q_oi, q_oid, q_path, q_ln, q_ls, n_id, n_path, n_ln, n_ls, non_oid, non_oln, non_oct, non_id, non_ln, non_ct, non_path, un_ln, un_pl, in_ids, ad_path, eOp_s, eOp_n, lstk_ls, st_ls, fl_Placed_path, fl_Placed_names, fl_Placed_thing, fl_Placed_count, fl_Placed_cuts, fl_Placed_content, fl_Placed_ids, fl_Placed_line, fl_Placed_seen, fl_Shelved_place, fl_Shelved_thing, fl_Shelved_count, fl_Shelved_cuts, fl_Shelved_length, fl_Shelved_purpose, ed0, q_word]
  cases ha with
  | drop id hs hsh =>
    simp only [pForD, pInsL, pExtA, pSeq, pAsg, pVar, pC, pOp, pNil, pCons, pTup, pLst, pLstM, pNot, pAndV, pOrV, pIf, pB, pAnd, pOr, pNotT, pNoPart, pPart, pCB, pUnN, pSl, pNext, pBreak, pCont, pRet, pRetN, pDrop, pIfS, pgName, pgNil, pgCons, pgTup_t, pAug, pApp, pYes, isk_non, nsk_non, isN_non, isN_bl, isN_int, isN_str, isN_tup, isN_lst, isN_ref, isN_obj, pTru, pFld, pStar, pMake, pSetF, pIt, pRng1, pRng2, forG, List.map_cons, List.map_nil, List.getElem?_cons_zero, List.getElem?_cons_succ, List.set_cons_zero, List.set_cons_succ, Option.some.injEq, exists_eq_left, exists_eq_left', true_and, and_true, wipeE, D.bl.injEq, D.int.injEq, D.str.injEq, D.tup.injEq, D.lst.injEq, Bool.not_true, decide_eq_true_eq, if_true, if_false, reduceIte, Bool.false_eq_true, Option.isNone_none, Option.isNone_some, Bool.not_false, List.length_nil, List.length_cons, List.nil_append, List.cons_append, D.ref.injEq, SO.lst.injEq, pCall, exists_const, and_self, Nat.zero_add, Nat.zero_le, Nat.reduceLeDiff, Nat.reduceAdd, eq_self, o_add, o_sub, o_mul, o_div, o_mod, o_cmp, o_int, o_lenl, o_lent, o_lens, o_tupl, o_tupt, o_min, o_max, q_int, ixk_tup, ixk_lst, ixk_scr, at0, at1, at2, at3, at4, at5, List.length_map, ln0, ln1, ln2, ln3, ln4, lnS0, lnS2, lnS4, q_id, q_ido, q_oi, q_oid, q_path, q_ln, q_ls, n_id, n_path, n_ln, n_ls, non_oid, non_oln, non_oct, non_id, non_ln, non_ct, non_path, un_ln, un_pl, in_ids, ad_path, eOp_s, eOp_n, lstk_ls, st_ls, fl_Placed_path, fl_Placed_names, fl_Placed_thing, fl_Placed_count, fl_Placed_cuts, fl_Placed_content, fl_Placed_ids, fl_Placed_line, fl_Placed_seen, fl_Shelved_place, fl_Shelved_thing, fl_Shelved_count, fl_Shelved_cuts, fl_Shelved_length, fl_Shelved_purpose, w_dd, ed2d]
    exact call_of (by simp only [pureAll, pu_ls, pu_lsl, pu_oid, pu_id, pu_ln, pu_oln, pu_pl, pu_ed, pu_eds, pu_idst, pu_path, pu_oct, pu_mv, pu_mvs, pu_str, pu_int, pu_bl, pu_non, eOp_s, eOp_n, Bool.and_self]) ⟨ls, hs, _, rfl, .inr rfl, hsh, rt_pure (pu_ls _) hk⟩
  | move id hm =>
    simp only [pForD, pInsL, pExtA, pSeq, pAsg, pVar, pC, pOp, pNil, pCons, pTup, pLst, pLstM, pNot, pAndV, pOrV, pIf, pB, pAnd, pOr, pNotT, pNoPart, pPart, pCB, pUnN, pSl, pNext, pBreak, pCont, pRet, pRetN, pDrop, pIfS, pgName, pgNil, pgCons, pgTup_t, pAug, pApp, pYes, isk_non, nsk_non, isN_non, isN_bl, isN_int, isN_str, isN_tup, isN_lst, isN_ref, isN_obj, pTru, pFld, pStar, pMake, pSetF, pIt, pRng1, pRng2, forG, List.map_cons, List.map_nil, List.getElem?_cons_zero, List.getElem?_cons_succ, List.set_cons_zero, List.set_cons_succ, Option.some.injEq, exists_eq_left, exists_eq_left', true_and, and_true, wipeE, D.bl.injEq, D.int.injEq, D.str.injEq, D.tup.injEq, D.lst.injEq, Bool.not_true, decide_eq_true_eq, if_true, if_false, reduceIte, Bool.false_eq_true, Option.isNone_none, Option.isNone_some, Bool.not_false, List.length_nil, List.length_cons, List.nil_append, List.cons_append, D.ref.injEq, SO.lst.injEq, pCall, exists_const, and_self, Nat.zero_add, Nat.zero_le, Nat.reduceLeDiff, Nat.reduceAdd, eq_self, o_add, o_sub, o_mul, o_div, o_mod, o_cmp, o_int, o_lenl, o_lent, o_lens, o_tupl, o_tupt, o_min, o_max, q_int, ixk_tup, ixk_lst, ixk_scr, at0, at1, at2, at3, at4, at5, List.length_map, ln0, ln1, ln2, ln3, ln4, lnS0, lnS2, lnS4, q_id, q_ido, q_oi, q_oid, q_path, q_ln, q_ls, n_id, n_path, n_ln, n_ls, non_oid, non_oln, non_oct, non_id, non_ln, non_ct, non_path, un_ln, un_pl, in_ids, ad_path, eOp_s, eOp_n, lstk_ls, st_ls, fl_Placed_path, fl_Placed_names, fl_Placed_thing, fl_Placed_count, fl_Placed_cuts, fl_Placed_content, fl_Placed_ids, fl_Placed_line, fl_Placed_seen, fl_Shelved_place, fl_Shelved_thing, fl_Shelved_count, fl_Shelved_cuts, fl_Shelved_length, fl_Shelved_purpose, w_md, w_mm]
    exact call_of (by simp only [pureAll, pu_ls, pu_lsl, pu_oid, pu_id, pu_ln, pu_oln, pu_pl, pu_ed, pu_eds, pu_idst, pu_path, pu_oct, pu_mv, pu_mvs, pu_str, pu_int, pu_bl, pu_non, eOp_s, eOp_n, Bool.and_self]) ⟨ls, id, _, ls', rfl, hm, rt_pure (pu_ls _) hk⟩
  | mark id pl meant hs hl hsh =>
    simp only [pForD, pInsL, pExtA, pSeq, pAsg, pVar, pC, pOp, pNil, pCons, pTup, pLst, pLstM, pNot, pAndV, pOrV, pIf, pB, pAnd, pOr, pNotT, pNoPart, pPart, pCB, pUnN, pSl, pNext, pBreak, pCont, pRet, pRetN, pDrop, pIfS, pgName, pgNil, pgCons, pgTup_t, pAug, pApp, pYes, isk_non, nsk_non, isN_non, isN_bl, isN_int, isN_str, isN_tup, isN_lst, isN_ref, isN_obj, pTru, pFld, pStar, pMake, pSetF, pIt, pRng1, pRng2, forG, List.map_cons, List.map_nil, List.getElem?_cons_zero, List.getElem?_cons_succ, List.set_cons_zero, List.set_cons_succ, Option.some.injEq, exists_eq_left, exists_eq_left', true_and, and_true, wipeE, D.bl.injEq, D.int.injEq, D.str.injEq, D.tup.injEq, D.lst.injEq, Bool.not_true, decide_eq_true_eq, if_true, if_false, reduceIte, Bool.false_eq_true, Option.isNone_none, Option.isNone_some, Bool.not_false, List.length_nil, List.length_cons, List.nil_append, List.cons_append, D.ref.injEq, SO.lst.injEq, pCall, exists_const, and_self, Nat.zero_add, Nat.zero_le, Nat.reduceLeDiff, Nat.reduceAdd, eq_self, o_add, o_sub, o_mul, o_div, o_mod, o_cmp, o_int, o_lenl, o_lent, o_lens, o_tupl, o_tupt, o_min, o_max, q_int, ixk_tup, ixk_lst, ixk_scr, at0, at1, at2, at3, at4, at5, List.length_map, ln0, ln1, ln2, ln3, ln4, lnS0, lnS2, lnS4, q_id, q_ido, q_oi, q_oid, q_path, q_ln, q_ls, n_id, n_path, n_ln, n_ls, non_oid, non_oln, non_oct, non_id, non_ln, non_ct, non_path, un_ln, un_pl, in_ids, ad_path, eOp_s, eOp_n, lstk_ls, st_ls, fl_Placed_path, fl_Placed_names, fl_Placed_thing, fl_Placed_count, fl_Placed_cuts, fl_Placed_content, fl_Placed_ids, fl_Placed_line, fl_Placed_seen, fl_Shelved_place, fl_Shelved_thing, fl_Shelved_count, fl_Shelved_cuts, fl_Shelved_length, fl_Shelved_purpose, w_wd, w_wm, ed3, ed5]
    refine call_of (by simp only [pureAll, pu_ls, pu_lsl, pu_oid, pu_id, pu_ln, pu_oln, pu_pl, pu_ed, pu_eds, pu_idst, pu_path, pu_oct, pu_mv, pu_mvs, pu_str, pu_int, pu_bl, pu_non, eOp_s, eOp_n, Bool.and_self]) ⟨ls, id, pl, none, meant, hs, rfl, hl.1, ?_⟩
    exact call_of (by simp only [pureAll, pu_ls, pu_lsl, pu_oid, pu_id, pu_ln, pu_oln, pu_pl, pu_ed, pu_eds, pu_idst, pu_path, pu_oct, pu_mv, pu_mvs, pu_str, pu_int, pu_bl, pu_non, eOp_s, eOp_n, Bool.and_self]) ⟨_, hs, _, rfl, .inr rfl, hsh, rt_pure (pu_ls _) hk⟩
  | text id pl c meant hs hl hhs hsh =>
    simp only [pForD, pInsL, pExtA, pSeq, pAsg, pVar, pC, pOp, pNil, pCons, pTup, pLst, pLstM, pNot, pAndV, pOrV, pIf, pB, pAnd, pOr, pNotT, pNoPart, pPart, pCB, pUnN, pSl, pNext, pBreak, pCont, pRet, pRetN, pDrop, pIfS, pgName, pgNil, pgCons, pgTup_t, pAug, pApp, pYes, isk_non, nsk_non, isN_non, isN_bl, isN_int, isN_str, isN_tup, isN_lst, isN_ref, isN_obj, pTru, pFld, pStar, pMake, pSetF, pIt, pRng1, pRng2, forG, List.map_cons, List.map_nil, List.getElem?_cons_zero, List.getElem?_cons_succ, List.set_cons_zero, List.set_cons_succ, Option.some.injEq, exists_eq_left, exists_eq_left', true_and, and_true, wipeE, D.bl.injEq, D.int.injEq, D.str.injEq, D.tup.injEq, D.lst.injEq, Bool.not_true, decide_eq_true_eq, if_true, if_false, reduceIte, Bool.false_eq_true, Option.isNone_none, Option.isNone_some, Bool.not_false, List.length_nil, List.length_cons, List.nil_append, List.cons_append, D.ref.injEq, SO.lst.injEq, pCall, exists_const, and_self, Nat.zero_add, Nat.zero_le, Nat.reduceLeDiff, Nat.reduceAdd, eq_self, o_add, o_sub, o_mul, o_div, o_mod, o_cmp, o_int, o_lenl, o_lent, o_lens, o_tupl, o_tupt, o_min, o_max, q_int, ixk_tup, ixk_lst, ixk_scr, at0, at1, at2, at3, at4, at5, List.length_map, ln0, ln1, ln2, ln3, ln4, lnS0, lnS2, lnS4, q_id, q_ido, q_oi, q_oid, q_path, q_ln, q_ls, n_id, n_path, n_ln, n_ls, non_oid, non_oln, non_oct, non_id, non_ln, non_ct, non_path, un_ln, un_pl, in_ids, ad_path, eOp_s, eOp_n, lstk_ls, st_ls, fl_Placed_path, fl_Placed_names, fl_Placed_thing, fl_Placed_count, fl_Placed_cuts, fl_Placed_content, fl_Placed_ids, fl_Placed_line, fl_Placed_seen, fl_Shelved_place, fl_Shelved_thing, fl_Shelved_count, fl_Shelved_cuts, fl_Shelved_length, fl_Shelved_purpose, w_wd, w_wm, ed3, ed5]
    exact call_of (by simp only [pureAll, pu_ls, pu_lsl, pu_oid, pu_id, pu_ln, pu_oln, pu_pl, pu_ed, pu_eds, pu_idst, pu_path, pu_oct, pu_mv, pu_mvs, pu_str, pu_int, pu_bl, pu_non, eOp_s, eOp_n, Bool.and_self]) ⟨ls, id, pl, some c, meant, hs, rfl, hl.1, hhs, hsh, rt_pure (pu_ls _) hk⟩
theorem ok_lines_after {P : Program} {w : World} {K : PySem.W.Frag} {cl : Cl} {mg : Str → Option Value} {base : Heap} (D : Df K mg "lines_after" s_lines_after ["lines", "edit"]) (T : Txt K cl mg) (G_without_heads : C8.Cal P w K mg base 2 "without_heads" (spP K cl F_without_heads) []) (G_with_new_line : C8.Cal P w K mg base 3 "with_new_line" (spP K cl F_with_new_line) []) (G_after_text : C8.Cal P w K mg base 4 "after_text" (spP K cl F_after_text) []) (G_after_move : C8.Cal P w K mg base 4 "after_move" (spP K cl F_after_move) []) : C8.Cal P w K mg base 5 "lines_after" (spP K cl F_lines_after) [] := by
  refine D.cal sc_lines_after (spP_len (n := 2) len_lines_after) (fun f cdv  A outer s H vs Q E hr h => ?_)
  refine ⟨_,
    (pss_cons (ps_set (i := 0) sc_lines_after.nd rfl (.inl rfl) (pe_callTy (show CallR _ (.type "list") (uLst K) from call_list_of) (by rfl) T.n_list (by decide +kernel) (pa_cons (pv 0) pa_nil)))
    (pss_cons (ps_if (pt_cmpR (show OpR _ _ (rEqP K) from op_eqP hr.units) (pe_ix (show IxR _ (uIx K) from uix) (pv 1) pe_int (fun _ _ => rfl)) pe_str (nomark _))
      (pss_one (ps_ret (C8.pe_c G_without_heads hr (by decide) (by rfl) (pa_cons (pv 0) (pa_cons (pe_ix (show IxR _ (uIx K) from uix) (pv 1) pe_int (fun _ _ => rfl)) pa_nil)))))
      pss_nil)
    (pss_cons (ps_if (pt_cmpR (show OpR _ _ (rEqP K) from op_eqP hr.units) (pe_ix (show IxR _ (uIx K) from uix) (pv 1) pe_int (fun _ _ => rfl)) pe_str (nomark _))
      (pss_one (ps_ret (C8.pe_c G_after_move hr (by decide) (by rfl) (pa_cons (pv 0) (pa_cons (pv 1) pa_nil)))))
      pss_nil)
    (pss_cons (ps_if (pt_cmpR op_isN (pe_ix (show IxR _ (uIx K) from uix) (pv 1) pe_int (fun _ _ => rfl)) pe_non (nomark _))
      (pss_one (ps_ret (C8.pe_c G_without_heads hr (by decide) (by rfl) (pa_cons (C8.pe_c G_with_new_line hr (by decide) (by rfl) (pa_cons (pv 0) (pa_cons (pv 1) pa_nil))) (pa_cons (pe_ix (show IxR _ (uIx K) from uix) (pv 1) pe_int (fun _ _ => rfl)) pa_nil)))))
      pss_nil)
    (pss_one (ps_ret (C8.pe_c G_after_text hr (by decide) (by rfl) (pa_cons (pv 0) (pa_cons (pv 1) pa_nil))))))))), ?_⟩
  exact fn_ok (N := ["lines", "edit"]) (show SmS K cl _ ps_lines_after from
    (sm_seq (sm_asg (sm_cb smc_lst (sm_cons sm_var sm_nil)) sm_gname)
    (sm_seq (sm_ifS (sm_test (sm_op smr_eq (sm_op smr_ix sm_var sm_int) sm_str))
      ((sm_ret (sm_call (sm_cons sm_var (sm_cons (sm_op smr_ix sm_var sm_int) sm_nil)))))
      sm_next)
    (sm_seq (sm_ifS (sm_test (sm_op smr_eq (sm_op smr_ix sm_var sm_int) sm_str))
      ((sm_ret (sm_call (sm_cons sm_var (sm_cons sm_var sm_nil)))))
      sm_next)
    (sm_seq (sm_ifS (sm_test (sm_op smr_is (sm_op smr_ix sm_var sm_int) sm_non))
      ((sm_ret (sm_call (sm_cons (sm_call (sm_cons sm_var (sm_cons sm_var sm_nil))) (sm_cons (sm_op smr_ix sm_var sm_int) sm_nil)))))
      sm_next)
    ((sm_ret (sm_call (sm_cons sm_var (sm_cons sm_var sm_nil)))))))))) body_lines_after h
def pl_fold_lines_1 : PSx :=
      ((pAsg (pCall F_lines_after (pCons (pVar 0) (pCons (pVar 2) pNil))) (pgName 0)))
theorem pl_fold_lines_1_d (P : PEnds) (env : Pw.Env) (S : Sto) : pl_fold_lines_1 P env S = (
      ((pAsg (pCall F_lines_after (pCons (pVar 0) (pCons (pVar 2) pNil))) (pgName 0)))) P env S := rfl
def ps_fold_lines : PSx :=
    (pSeq (pAsg (pCB lstk (pCons (pVar 0) pNil)) (pgName 0))
    (pSeq (pFor (pIt (pVar 1)) (pgName 2) pl_fold_lines_1)
    ((pRet (pVar 0)))))
theorem start_fold_lines : ∀ a0 a1 : D, startE 3 [a0, a1] = [some a0, some a1, none] := fun _ _ => rfl
theorem loop_fold_lines (src : D) (all : List D) (e : D) (S : Sto) (hs : iterOf S src = some all) (P : PEnds) : ∀ (es : List Edit) (ls ls' : List Line) (x1 : Option D), FoldR ls es ls' →
    (∀ x1, P.nx [some (eLs ls'), some e, x1] S) → forGR src all (pgName 2) pl_fold_lines_1 P (es.map eEd) [some (eLs ls), some e, x1] S := by
  intro es
  induction es with
  | nil =>
    intro ls ls' x1 hm h
    cases hm
    exact ⟨hs, h x1⟩
  | cons a es ih =>
    intro ls ls' x1 hm h
    cases hm with
    | @cons _ ls1 _ _ _ h1 h2 =>
      refine ⟨hs, ?_⟩
      simp only [pForD, pInsL, pExtA, pSeq, pAsg, pVar, pC, pOp, pNil, pCons, pTup, pLst, pLstM, pNot, pAndV, pOrV, pIf, pB, pAnd, pOr, pNotT, pNoPart, pPart, pCB, pUnN, pSl, pNext, pBreak, pCont, pRet, pRetN, pDrop, pIfS, pgName, pgNil, pgCons, pgTup_t, pAug, pApp, pYes, isk_non, nsk_non, isN_non, isN_bl, isN_int, isN_str, isN_tup, isN_lst, isN_ref, isN_obj, pTru, pFld, pStar, pMake, pSetF, pIt, pRng1, pRng2, forG, List.map_cons, List.map_nil, List.getElem?_cons_zero, List.getElem?_cons_succ, List.set_cons_zero, List.set_cons_succ, Option.some.injEq, exists_eq_left, exists_eq_left', true_and, and_true, wipeE, D.bl.injEq, D.int.injEq, D.str.injEq, D.tup.injEq, D.lst.injEq, Bool.not_true, decide_eq_true_eq, if_true, if_false, reduceIte, Bool.false_eq_true, Option.isNone_none, Option.isNone_some, Bool.not_false, List.length_nil, List.length_cons, List.nil_append, List.cons_append, D.ref.injEq, SO.lst.injEq, pCall, exists_const, and_self, Nat.zero_add, Nat.zero_le, Nat.reduceLeDiff, Nat.reduceAdd, eq_self, o_add, o_sub, o_mul, o_div, o_mod, o_cmp, o_int, o_lenl, o_lent, o_lens, o_tupl, o_tupt, o_min, o_max, q_int, ixk_tup, ixk_lst, ixk_scr, at0, at1, at2, at3, at4, at5, List.length_map, ln0, ln1, ln2, ln3, ln4, lnS0, lnS2, lnS4, q_id, q_ido, q_oi, q_oid, q_path, q_ln, q_ls, n_id, n_path, n_ln, n_ls, non_oid, non_oln, non_oct, non_id, non_ln, non_ct, non_path, un_ln, un_pl, in_ids, ad_path, eOp_s, eOp_n, lstk_ls, st_ls, fl_Placed_path, fl_Placed_names, fl_Placed_thing, fl_Placed_count, fl_Placed_cuts, fl_Placed_content, fl_Placed_ids, fl_Placed_line, fl_Placed_seen, fl_Shelved_place, fl_Shelved_thing, fl_Shelved_count, fl_Shelved_cuts, fl_Shelved_length, fl_Shelved_purpose, pl_fold_lines_1_d]
      exact call_of (by simp only [pureAll, pu_ls, pu_lsl, pu_oid, pu_id, pu_ln, pu_oln, pu_pl, pu_ed, pu_eds, pu_idst, pu_path, pu_oct, pu_mv, pu_mvs, pu_str, pu_int, pu_bl, pu_non, eOp_s, eOp_n, Bool.and_self]) ⟨ls, a, ls1, rfl, h1, ih ls1 ls' _ h2 h⟩
def F_fold_lines : SFn := fun ds S k => ∃ (x y : D) (ls : List Line) (es : List Edit) (ls' : List Line), ds = [x, y] ∧ itemsOf S x = some (ls.map eLn) ∧ iterOf S y = some (es.map eEd) ∧ FoldR ls es ls' ∧ k (eLs ls') S
theorem len_fold_lines : ∀ ds S k, F_fold_lines ds S k → ds.length = 2 := by
  rintro _ _ _ ⟨_, _, _, _, _, rfl, _⟩
  rfl
theorem lstk_of {S : Sto} {x : D} {ds : List D} {k : D → Prop} (h : itemsOf S x = some ds) (hk : k (.lst ds)) : lstk S [x] k := ⟨ds, h, hk⟩
theorem body_fold_lines : ∀ ds S k, F_fold_lines ds S k → ps_fold_lines { nx := fun _ S' => k .non S', rt := k } (startE 3 ds) S := by
  rintro _ S k ⟨x, y, ls, es, ls', rfl, hx, hy, hf, hk⟩
  rw [start_fold_lines]
  unfold ps_fold_lines
  simp only [pForD, pInsL, pExtA, pSeq, pAsg, pVar, pC, pOp, pNil, pCons, pTup, pLst, pLstM, pNot, pAndV, pOrV, pIf, pB, pAnd, pOr, pNotT, pNoPart, pPart, pCB, pUnN, pSl, pNext, pBreak, pCont, pRet, pRetN, pDrop, pIfS, pgName, pgNil, pgCons, pgTup_t, pAug, pApp, pYes, isk_non, nsk_non, isN_non, isN_bl, isN_int, isN_str, isN_tup, isN_lst, isN_ref, isN_obj, pTru, pFld, pStar, pMake, pSetF, pIt, pRng1, pRng2, forG, List.map_cons, List.map_nil, List.getElem?_cons_zero, List.getElem?_cons_succ, List.set_cons_zero, List.set_cons_succ, Option.some.injEq, exists_eq_left, exists_eq_left', true_and, and_true, wipeE, D.bl.injEq, D.int.injEq, D.str.injEq, D.tup.injEq, D.lst.injEq, Bool.not_true, decide_eq_true_eq, if_true, if_false, reduceIte, Bool.false_eq_true, Option.isNone_none, Option.isNone_some, Bool.not_false, List.length_nil, List.length_cons, List.nil_append, List.cons_append, D.ref.injEq, SO.lst.injEq, pCall, exists_const, and_self, Nat.zero_add, Nat.zero_le, Nat.reduceLeDiff, Nat.reduceAdd, eq_self, o_add, o_sub, o_mul, o_div, o_mod, o_cmp, o_int, o_lenl, o_lent, o_lens, o_tupl, o_tupt, o_min, o_max, q_int, ixk_tup, ixk_lst, ixk_scr, at0, at1, at2, at3, at4, at5, List.length_map]
  refine lstk_of hx ?_
  refine for_ref (src := y) (ds := es.map eEd) (fun kk h => ⟨_, rfl, _, hy, h⟩) (loop_fold_lines _ _ _ S hy _ es ls ls' _ hf fun x1 => ?_)
  simp only [pForD, pInsL, pExtA, pSeq, pAsg, pVar, pC, pOp, pNil, pCons, pTup, pLst, pLstM, pNot, pAndV, pOrV, pIf, pB, pAnd, pOr, pNotT, pNoPart, pPart, pCB, pUnN, pSl, pNext, pBreak, pCont, pRet, pRetN, pDrop, pIfS, pgName, pgNil, pgCons, pgTup_t, pAug, pApp, pYes, isk_non, nsk_non, isN_non, isN_bl, isN_int, isN_str, isN_tup, isN_lst, isN_ref, isN_obj, pTru, pFld, pStar, pMake, pSetF, pIt, pRng1, pRng2, forG, List.map_cons, List.map_nil, List.getElem?_cons_zero, List.getElem?_cons_succ, List.set_cons_zero, List.set_cons_succ, Option.some.injEq, exists_eq_left, exists_eq_left', true_and, and_true, wipeE, D.bl.injEq, D.int.injEq, D.str.injEq, D.tup.injEq, D.lst.injEq, Bool.not_true, decide_eq_true_eq, if_true, if_false, reduceIte, Bool.false_eq_true, Option.isNone_none, Option.isNone_some, Bool.not_false, List.length_nil, List.length_cons, List.nil_append, List.cons_append, D.ref.injEq, SO.lst.injEq, pCall, exists_const, and_self, Nat.zero_add, Nat.zero_le, Nat.reduceLeDiff, Nat.reduceAdd, eq_self, o_add, o_sub, o_mul, o_div, o_mod, o_cmp, o_int, o_lenl, o_lent, o_lens, o_tupl, o_tupt, o_min, o_max, q_int, ixk_tup, ixk_lst, ixk_scr, at0, at1, at2, at3, at4, at5, List.length_map]
  exact hk
theorem ok_fold_lines {P : Program} {w : World} {K : PySem.W.Frag} {cl : Cl} {mg : Str → Option Value} {base : Heap} (D : Df K mg "fold_lines" s_fold_lines ["lines", "edits"]) (T : Txt K cl mg) (G_lines_after : C8.Cal P w K mg base 5 "lines_after" (spP K cl F_lines_after) []) : C8.Cal P w K mg base 6 "fold_lines" (spS K cl F_fold_lines) [] := by
  refine D.cal sc_fold_lines (spS_len (n := 2) len_fold_lines) (fun f cdv  A outer s H vs Q E hr h => ?_)
  refine ⟨_,
    (pss_cons (ps_set (i := 0) sc_fold_lines.nd rfl (.inl rfl) (pe_callTy (show CallR _ (.type "list") (uLst K) from call_list_of) (by rfl) T.n_list (by decide +kernel) (pa_cons (pv 0) pa_nil)))
    (pss_cons (ps_for PassesOwn.never rfl (show PI _ _ _ (uIt K _) from upi (pv 1)) (pg_name (i := 2) sc_fold_lines.nd rfl (Or.inl rfl))
      (pss_one (ps_set (i := 0) sc_fold_lines.nd rfl (.inl rfl) (C8.pe_c G_lines_after hr (by decide) (by rfl) (pa_cons (pv 0) (pa_cons (pv 2) pa_nil))))))
    (pss_one (ps_ret (pv 0))))), ?_⟩
  exact fnS_ok (N := ["lines", "edits", "edit"]) (show SmS K cl _ ps_fold_lines from
    (sm_seq (sm_asg (sm_cb smc_lst (sm_cons sm_var sm_nil)) sm_gname)
    (sm_seq (sm_for (sm_it sm_var) sm_gname
      ((sm_asg (sm_call (sm_cons sm_var (sm_cons sm_var sm_nil))) sm_gname)))
    ((sm_ret sm_var))))) body_fold_lines h
def ps_lines_of : PSx :=
    ((pRet (pCallS F_fold_lines (pCons (pLst pNil) (pCons (pVar 0) pNil)))))
theorem start_lines_of : ∀ a0 : D, startE 1 [a0] = [some a0] := fun _ => rfl
def F_lines_of : SFn := fun ds S k => ∃ (y : D) (es : List Edit) (ls' : List Line), ds = [y] ∧ iterOf S y = some (es.map eEd) ∧ FoldR [] es ls' ∧ k (eLs ls') S
theorem len_lines_of : ∀ ds S k, F_lines_of ds S k → ds.length = 1 := by
  rintro _ _ _ ⟨_, _, _, rfl, _⟩
  rfl
theorem body_lines_of : ∀ ds S k, F_lines_of ds S k → ps_lines_of { nx := fun _ S' => k .non S', rt := k } (startE 1 ds) S := by
  rintro _ S k ⟨y, es, ls', rfl, hy, hf, hk⟩
  rw [start_lines_of]
  unfold ps_lines_of
  simp only [pForD, pInsL, pExtA, pSeq, pAsg, pVar, pC, pOp, pNil, pCons, pTup, pLst, pLstM, pNot, pAndV, pOrV, pIf, pB, pAnd, pOr, pNotT, pNoPart, pPart, pCB, pUnN, pSl, pNext, pBreak, pCont, pRet, pRetN, pDrop, pIfS, pgName, pgNil, pgCons, pgTup_t, pAug, pApp, pYes, isk_non, nsk_non, isN_non, isN_bl, isN_int, isN_str, isN_tup, isN_lst, isN_ref, isN_obj, pTru, pFld, pStar, pMake, pSetF, pIt, pRng1, pRng2, forG, List.map_cons, List.map_nil, List.getElem?_cons_zero, List.getElem?_cons_succ, List.set_cons_zero, List.set_cons_succ, Option.some.injEq, exists_eq_left, exists_eq_left', true_and, and_true, wipeE, D.bl.injEq, D.int.injEq, D.str.injEq, D.tup.injEq, D.lst.injEq, Bool.not_true, decide_eq_true_eq, if_true, if_false, reduceIte, Bool.false_eq_true, Option.isNone_none, Option.isNone_some, Bool.not_false, List.length_nil, List.length_cons, List.nil_append, List.cons_append, D.ref.injEq, SO.lst.injEq, pCall, exists_const, and_self, Nat.zero_add, Nat.zero_le, Nat.reduceLeDiff, Nat.reduceAdd, eq_self, o_add, o_sub, o_mul, o_div, o_mod, o_cmp, o_int, o_lenl, o_lent, o_lens, o_tupl, o_tupt, o_min, o_max, q_int, ixk_tup, ixk_lst, ixk_scr, at0, at1, at2, at3, at4, at5, List.length_map, pCallS]
  exact ⟨.lst [], y, [], es, ls', rfl, rfl, hy, hf, hk⟩
theorem ok_lines_of {P : Program} {w : World} {K : PySem.W.Frag} {cl : Cl} {mg : Str → Option Value} {base : Heap} (D : Df K mg "lines_of" s_lines_of ["edits"]) (T : Txt K cl mg) (G_fold_lines : C8.Cal P w K mg base 6 "fold_lines" (spS K cl F_fold_lines) []) : C8.Cal P w K mg base 7 "lines_of" (spS K cl F_lines_of) [] := by
  refine D.cal sc_lines_of (spS_len (n := 1) len_lines_of) (fun f cdv  A outer s H vs Q E hr h => ?_)
  refine ⟨_,
    (pss_one (ps_ret (C8.pe_c G_fold_lines hr (by decide) (by rfl) (pa_cons (pe_lst pa_nil) (pa_cons (pv 0) pa_nil))))), ?_⟩
  exact fnS_ok (N := ["edits"]) (show SmS K cl _ ps_lines_of from
    ((sm_ret (sm_callS (sm_cons (sm_lst sm_nil) (sm_cons sm_var sm_nil)))))) body_lines_of h
def pr_law_rows_1 : PSx :=
      (pSeq (pAsg (pOp modk (pCB int1k (pCons (pOp addk (pOp addk (pOp addk (pOp mulk (pVar 3) (pC (.int 48271))) (pOp mulk (pVar 5) (pC (.int 69621)))) (pOp mulk (pC (.int 2)) (pVar 4))) (pC (.int 1))) pNil)) (pC (.int 1000000007))) (pgName 3))
      ((pIfS (pB (pOp (cmpk fun i j => decide (j ≤ i)) (pVar 5) (pC (.int 1000000000))))
        ((pApp (pVar 2) (pVar 5)))
        ((pApp (pVar 2) (pOp modk (pCB int1k (pCons (pOp addk (pOp mulk (pVar 3) (pC (.int 2862933555777941757))) (pC (.int 3037000493))) pNil)) (pC (.int 18446744073709551557))))))))
def pr_law_rows_2 : PSx :=
      (pSeq (pIfS (pB (pOp (cmpk fun i j => decide (i < j)) (pVar 5) (pC (.int 0))))
        ((pAsg (pOp subk (pC (.int 1)) (pOp mulk (pC (.int 2)) (pVar 5))) (pgName 5)))
        pNext)
      pr_law_rows_1)
def pl_law_rows_1 : PSx :=
      (pSeq (pAsg (pC (.int 0)) (pgName 5))
      (pSeq (pIfS (pB (pOp (cmpk fun i j => decide (i < j)) (pVar 4) (pCB lenk (pCons (pVar 0) pNil))))
        ((pAsg (pCB int1k (pCons (pOp ixk (pVar 0) (pVar 4)) pNil)) (pgName 5)))
        pNext)
      pr_law_rows_2))
def ps_law_rows : PSx :=
    (pSeq (pAsg (pLstM pNil) (pgName 2))
    (pSeq (pAsg (pC (.int 1)) (pgName 3))
    (pSeq (pFor (pRng1 (pCons (pVar 1) pNil)) (pgName 4) pl_law_rows_1)
    ((pRet (pVar 2))))))
theorem start_law_rows : ∀ a0 a1 : D, startE 6 [a0, a1] = [some a0, some a1, none, none, none, none] := fun _ _ => rfl
theorem loop_law_rows (ns : List Int) (c0 : D) (P : PEnds) : ∀ (is : List Nat) (acc : List Int) (m : Int) (x1 x2 : Option D), acc.length + is.length ≤ 1000 → (∀ c ∈ acc, 0 ≤ c) →
    (∀ (rs : List Int) (m : Int) (x1 x2 : Option D), rs.length = acc.length + is.length → (∀ c ∈ rs, 0 ≤ c) → P.nx [some (.scr (ns.map D.int)), some c0, some (.ref 0), some (.int m), x1, x2] [.lst (rs.map D.int)]) →
    forG (pgName 4) pl_law_rows_1 P (is.map fun (i : Nat) => D.int (i : Int)) [some (.scr (ns.map D.int)), some c0, some (.ref 0), some (.int m), x1, x2] [.lst (acc.map D.int)] := by
  intro is
  induction is with
  | nil => exact fun acc m x1 x2 _ ha h => h acc m x1 x2 (by simp) ha
  | cons i is ih =>
    intro acc m x1 x2 hl ha h
    rw [List.length_cons] at hl h
    unfold pl_law_rows_1
    simp only [pForD, pInsL, pExtA, pSeq, pAsg, pVar, pC, pOp, pNil, pCons, pTup, pLst, pLstM, pNot, pAndV, pOrV, pIf, pB, pAnd, pOr, pNotT, pNoPart, pPart, pCB, pUnN, pSl, pNext, pBreak, pCont, pRet, pRetN, pDrop, pIfS, pgName, pgNil, pgCons, pgTup_t, pAug, pApp, pYes, isk_non, nsk_non, isN_non, isN_bl, isN_int, isN_str, isN_tup, isN_lst, isN_ref, isN_obj, pTru, pFld, pStar, pMake, pSetF, pIt, pRng1, pRng2, forG, List.map_cons, List.map_nil, List.getElem?_cons_zero, List.getElem?_cons_succ, List.set_cons_zero, List.set_cons_succ, Option.some.injEq, exists_eq_left, exists_eq_left', true_and, and_true, wipeE, D.bl.injEq, D.int.injEq, D.str.injEq, D.tup.injEq, D.lst.injEq, Bool.not_true, decide_eq_true_eq, if_true, if_false, reduceIte, Bool.false_eq_true, Option.isNone_none, Option.isNone_some, Bool.not_false, List.length_nil, List.length_cons, List.nil_append, List.cons_append, D.ref.injEq, SO.lst.injEq, pCall, exists_const, and_self, Nat.zero_add, Nat.zero_le, Nat.reduceLeDiff, Nat.reduceAdd, eq_self, o_add, o_sub, o_mul, o_div, o_mod, o_cmp, o_int, o_lenl, o_lent, o_lens, o_tupl, o_tupt, o_min, o_max, q_int, ixk_tup, ixk_lst, ixk_scr, at0, at1, at2, at3, at4, at5, List.length_map]
    have fin : ∀ (v m : Int) (x2 : Option D), 0 ≤ v → forG (pgName 4) pl_law_rows_1 P (is.map fun (i : Nat) => D.int (i : Int)) [some (.scr (ns.map D.int)), some c0, some (.ref 0), some (.int m), some (.int i), x2] [.lst (acc.map D.int ++ [.int v])] := fun v m x2 hv => by
      have := ih (acc ++ [v]) m (some (.int i)) x2 (by rw [List.length_append, List.length_singleton]; omega) (fun c hc => by
        rcases List.mem_append.mp hc with hc | hc
        · exact ha c hc
        · rw [List.mem_singleton.mp hc]
          exact hv) (fun rs m x1 x2 hr h0 => h rs m x1 x2 (by rw [hr, List.length_append, List.length_singleton]; omega) h0)
      rw [List.map_append] at this
      exact this
    have r1 : ∀ c : Int, 0 ≤ c → pr_law_rows_1 { P with nx := forG (pgName 4) pl_law_rows_1 P (is.map fun (i : Nat) => D.int (i : Int)), ct := forG (pgName 4) pl_law_rows_1 P (is.map fun (i : Nat) => D.int (i : Int)), bk := P.nx } [some (.scr (ns.map D.int)), some c0, some (.ref 0), some (.int m), some (.int i), some (.int c)] [.lst (acc.map D.int)] := by
      intro c hc
      unfold pr_law_rows_1
      simp only [pForD, pInsL, pExtA, pSeq, pAsg, pVar, pC, pOp, pNil, pCons, pTup, pLst, pLstM, pNot, pAndV, pOrV, pIf, pB, pAnd, pOr, pNotT, pNoPart, pPart, pCB, pUnN, pSl, pNext, pBreak, pCont, pRet, pRetN, pDrop, pIfS, pgName, pgNil, pgCons, pgTup_t, pAug, pApp, pYes, isk_non, nsk_non, isN_non, isN_bl, isN_int, isN_str, isN_tup, isN_lst, isN_ref, isN_obj, pTru, pFld, pStar, pMake, pSetF, pIt, pRng1, pRng2, forG, List.map_cons, List.map_nil, List.getElem?_cons_zero, List.getElem?_cons_succ, List.set_cons_zero, List.set_cons_succ, Option.some.injEq, exists_eq_left, exists_eq_left', true_and, and_true, wipeE, D.bl.injEq, D.int.injEq, D.str.injEq, D.tup.injEq, D.lst.injEq, Bool.not_true, decide_eq_true_eq, if_true, if_false, reduceIte, Bool.false_eq_true, Option.isNone_none, Option.isNone_some, Bool.not_false, List.length_nil, List.length_cons, List.nil_append, List.cons_append, D.ref.injEq, SO.lst.injEq, pCall, exists_const, and_self, Nat.zero_add, Nat.zero_le, Nat.reduceLeDiff, Nat.reduceAdd, eq_self, o_add, o_sub, o_mul, o_div, o_mod, o_cmp, o_int, o_lenl, o_lent, o_lens, o_tupl, o_tupt, o_min, o_max, q_int, ixk_tup, ixk_lst, ixk_scr, at0, at1, at2, at3, at4, at5, List.length_map]
      refine ⟨.inr (by decide), .inr (by decide), .inl (by decide), by decide, ?_⟩
      by_cases hb : (1000000000 : Int) ≤ c
      · rw [if_pos hb]
        exact ⟨by omega, fin _ _ _ hc⟩
      · rw [if_neg hb]
        exact ⟨.inr (by decide), by decide, by omega, fin _ _ _ (Int.emod_nonneg _ (by decide))⟩
    have r2 : ∀ c : Int, pr_law_rows_2 { P with nx := forG (pgName 4) pl_law_rows_1 P (is.map fun (i : Nat) => D.int (i : Int)), ct := forG (pgName 4) pl_law_rows_1 P (is.map fun (i : Nat) => D.int (i : Int)), bk := P.nx } [some (.scr (ns.map D.int)), some c0, some (.ref 0), some (.int m), some (.int i), some (.int c)] [.lst (acc.map D.int)] := by
      intro c
      unfold pr_law_rows_2
      simp only [pForD, pInsL, pExtA, pSeq, pAsg, pVar, pC, pOp, pNil, pCons, pTup, pLst, pLstM, pNot, pAndV, pOrV, pIf, pB, pAnd, pOr, pNotT, pNoPart, pPart, pCB, pUnN, pSl, pNext, pBreak, pCont, pRet, pRetN, pDrop, pIfS, pgName, pgNil, pgCons, pgTup_t, pAug, pApp, pYes, isk_non, nsk_non, isN_non, isN_bl, isN_int, isN_str, isN_tup, isN_lst, isN_ref, isN_obj, pTru, pFld, pStar, pMake, pSetF, pIt, pRng1, pRng2, forG, List.map_cons, List.map_nil, List.getElem?_cons_zero, List.getElem?_cons_succ, List.set_cons_zero, List.set_cons_succ, Option.some.injEq, exists_eq_left, exists_eq_left', true_and, and_true, wipeE, D.bl.injEq, D.int.injEq, D.str.injEq, D.tup.injEq, D.lst.injEq, Bool.not_true, decide_eq_true_eq, if_true, if_false, reduceIte, Bool.false_eq_true, Option.isNone_none, Option.isNone_some, Bool.not_false, List.length_nil, List.length_cons, List.nil_append, List.cons_append, D.ref.injEq, SO.lst.injEq, pCall, exists_const, and_self, Nat.zero_add, Nat.zero_le, Nat.reduceLeDiff, Nat.reduceAdd, eq_self, o_add, o_sub, o_mul, o_div, o_mod, o_cmp, o_int, o_lenl, o_lent, o_lens, o_tupl, o_tupt, o_min, o_max, q_int, ixk_tup, ixk_lst, ixk_scr, at0, at1, at2, at3, at4, at5, List.length_map]
      by_cases hb : c < 0
      · rw [if_pos hb]
        exact ⟨.inl (by decide), r1 _ (by omega)⟩
      · rw [if_neg hb]
        exact r1 _ (by omega)
    by_cases hb : (i : Int) < (ns.length : Int)
    · rw [if_pos hb]
      have hi : i < ns.length := by omega
      refine ⟨.int ns[i], at_map (List.getElem?_eq_getElem hi), ?_⟩
      simp only [pForD, pInsL, pExtA, pSeq, pAsg, pVar, pC, pOp, pNil, pCons, pTup, pLst, pLstM, pNot, pAndV, pOrV, pIf, pB, pAnd, pOr, pNotT, pNoPart, pPart, pCB, pUnN, pSl, pNext, pBreak, pCont, pRet, pRetN, pDrop, pIfS, pgName, pgNil, pgCons, pgTup_t, pAug, pApp, pYes, isk_non, nsk_non, isN_non, isN_bl, isN_int, isN_str, isN_tup, isN_lst, isN_ref, isN_obj, pTru, pFld, pStar, pMake, pSetF, pIt, pRng1, pRng2, forG, List.map_cons, List.map_nil, List.getElem?_cons_zero, List.getElem?_cons_succ, List.set_cons_zero, List.set_cons_succ, Option.some.injEq, exists_eq_left, exists_eq_left', true_and, and_true, wipeE, D.bl.injEq, D.int.injEq, D.str.injEq, D.tup.injEq, D.lst.injEq, Bool.not_true, decide_eq_true_eq, if_true, if_false, reduceIte, Bool.false_eq_true, Option.isNone_none, Option.isNone_some, Bool.not_false, List.length_nil, List.length_cons, List.nil_append, List.cons_append, D.ref.injEq, SO.lst.injEq, pCall, exists_const, and_self, Nat.zero_add, Nat.zero_le, Nat.reduceLeDiff, Nat.reduceAdd, eq_self, o_add, o_sub, o_mul, o_div, o_mod, o_cmp, o_int, o_lenl, o_lent, o_lens, o_tupl, o_tupt, o_min, o_max, q_int, ixk_tup, ixk_lst, ixk_scr, at0, at1, at2, at3, at4, at5, List.length_map]
      exact r2 _
    · rw [if_neg hb]
      exact r2 _
def F_law_rows : PFn := fun ds k => ∃ (ns : List Int) (n : Nat), ds = [.scr (ns.map D.int), .int (n : Int)] ∧ ns.length ≤ 63 ∧ n ≤ 1000 ∧ ∀ rs : List Int, rs.length = n → (∀ c ∈ rs, 0 ≤ c) → k (.lst (rs.map D.int))
theorem len_law_rows : ∀ ds k, F_law_rows ds k → ds.length = 2 := by
  rintro _ _ ⟨_, _, rfl, _⟩
  rfl
theorem pu_intsL : ∀ rs : List Int, pureAll (rs.map D.int) = true
  | [] => rfl
  | r :: rs => by rw [List.map_cons, pureAll, pu_intsL rs]; rfl
theorem body_law_rows : ∀ ds k, F_law_rows ds k → ps_law_rows { nx := fun _ _ => k .non, rt := fun d S => (d.frz S).noRef = true ∧ k (d.frz S) } (startE 6 ds) [] := by
  rintro _ k ⟨ns, n, rfl, hl, hn, hk⟩
  rw [start_law_rows]
  unfold ps_law_rows
  simp only [pForD, pInsL, pExtA, pSeq, pAsg, pVar, pC, pOp, pNil, pCons, pTup, pLst, pLstM, pNot, pAndV, pOrV, pIf, pB, pAnd, pOr, pNotT, pNoPart, pPart, pCB, pUnN, pSl, pNext, pBreak, pCont, pRet, pRetN, pDrop, pIfS, pgName, pgNil, pgCons, pgTup_t, pAug, pApp, pYes, isk_non, nsk_non, isN_non, isN_bl, isN_int, isN_str, isN_tup, isN_lst, isN_ref, isN_obj, pTru, pFld, pStar, pMake, pSetF, pIt, pRng1, pRng2, forG, List.map_cons, List.map_nil, List.getElem?_cons_zero, List.getElem?_cons_succ, List.set_cons_zero, List.set_cons_succ, Option.some.injEq, exists_eq_left, exists_eq_left', true_and, and_true, wipeE, D.bl.injEq, D.int.injEq, D.str.injEq, D.tup.injEq, D.lst.injEq, Bool.not_true, decide_eq_true_eq, if_true, if_false, reduceIte, Bool.false_eq_true, Option.isNone_none, Option.isNone_some, Bool.not_false, List.length_nil, List.length_cons, List.nil_append, List.cons_append, D.ref.injEq, SO.lst.injEq, pCall, exists_const, and_self, Nat.zero_add, Nat.zero_le, Nat.reduceLeDiff, Nat.reduceAdd, eq_self, o_add, o_sub, o_mul, o_div, o_mod, o_cmp, o_int, o_lenl, o_lent, o_lens, o_tupl, o_tupt, o_min, o_max, q_int, ixk_tup, ixk_lst, ixk_scr, at0, at1, at2, at3, at4, at5, List.length_map]
  refine for_go (src := .lst (rngD n)) (ds := rngD n) (fun kk h => ⟨_, rfl, _, rfl, ⟨by omega, by omega⟩, h⟩) (fun S => rfl) ?_
  refine loop_law_rows ns _ _ (List.range n) [] 1 _ _ (by rw [List.length_range, List.length_nil]; omega) (fun c hc => by cases hc) (fun rs m x1 x2 hr h0 => ?_)
  simp only [pForD, pInsL, pExtA, pSeq, pAsg, pVar, pC, pOp, pNil, pCons, pTup, pLst, pLstM, pNot, pAndV, pOrV, pIf, pB, pAnd, pOr, pNotT, pNoPart, pPart, pCB, pUnN, pSl, pNext, pBreak, pCont, pRet, pRetN, pDrop, pIfS, pgName, pgNil, pgCons, pgTup_t, pAug, pApp, pYes, isk_non, nsk_non, isN_non, isN_bl, isN_int, isN_str, isN_tup, isN_lst, isN_ref, isN_obj, pTru, pFld, pStar, pMake, pSetF, pIt, pRng1, pRng2, forG, List.map_cons, List.map_nil, List.getElem?_cons_zero, List.getElem?_cons_succ, List.set_cons_zero, List.set_cons_succ, Option.some.injEq, exists_eq_left, exists_eq_left', true_and, and_true, wipeE, D.bl.injEq, D.int.injEq, D.str.injEq, D.tup.injEq, D.lst.injEq, Bool.not_true, decide_eq_true_eq, if_true, if_false, reduceIte, Bool.false_eq_true, Option.isNone_none, Option.isNone_some, Bool.not_false, List.length_nil, List.length_cons, List.nil_append, List.cons_append, D.ref.injEq, SO.lst.injEq, pCall, exists_const, and_self, Nat.zero_add, Nat.zero_le, Nat.reduceLeDiff, Nat.reduceAdd, eq_self, o_add, o_sub, o_mul, o_div, o_mod, o_cmp, o_int, o_lenl, o_lent, o_lens, o_tupl, o_tupt, o_min, o_max, q_int, ixk_tup, ixk_lst, ixk_scr, at0, at1, at2, at3, at4, at5, List.length_map]
  rw [List.length_range, List.length_nil, Nat.zero_add] at hr
  exact ⟨pure_noRef _ (show (D.lst (rs.map D.int)).pure = true from pu_intsL rs), hk rs hr h0⟩
theorem ok_law_rows {P : Program} {w : World} {K : PySem.W.Frag} {cl : Cl} {mg : Str → Option Value} {base : Heap} (D : Df K mg "_law_rows" s_law_rows ["script", "count"]) (T : Txt K cl mg)  : C8.Cal P w K mg base 1 "_law_rows" (spP K cl F_law_rows) [] := by
  refine D.cal sc_law_rows (spP_len (n := 2) len_law_rows) (fun f cdv  A outer s H vs Q E hr h => ?_)
  refine ⟨_,
    (pss_cons (ps_set (i := 2) sc_law_rows.nd rfl (.inl rfl) (pe_lst pa_nil))
    (pss_cons (ps_set (i := 3) sc_law_rows.nd rfl (.inl rfl) pe_int)
    (pss_cons (ps_for PassesOwn.never rfl (pi_range1 (by rfl) T.n_range (pa_cons (pv 1) pa_nil)) (pg_name (i := 4) sc_law_rows.nd rfl (Or.inl rfl))
      (pss_cons (ps_set (i := 5) sc_law_rows.nd rfl (.inl rfl) pe_int)
      (pss_cons (ps_if (pt_cmpR op_lt (pv 4) (pe_callB (show CallR _ (.builtin "len") (uLen K) from ucall_len) (by rfl) T.n_len PySem.boot_len (pa_cons (pv 0) pa_nil)) (nomark _))
        (pss_one (ps_set (i := 5) sc_law_rows.nd rfl (.inl rfl) (pe_callTy call_int1 (by rfl) T.n_int (by decide +kernel) (pa_cons (pe_ix (show IxR _ (uIx K) from uix) (pv 0) (pv 4) (fun _ _ => rfl)) pa_nil))))
        pss_nil)
      (pss_cons (ps_if (pt_cmpR op_lt (pv 5) pe_int (nomark _))
        (pss_one (ps_set (i := 5) sc_law_rows.nd rfl (.inl rfl) (pe_op op_sub pe_int (pe_op uop_mul pe_int (pv 5)))))
        pss_nil)
      (pss_cons (ps_set (i := 3) sc_law_rows.nd rfl (.inl rfl) (pe_op op_mod (pe_callTy call_int1 (by rfl) T.n_int (by decide +kernel) (pa_cons (pe_op (show OpR _ _ (uAdd K) from uop_add) (pe_op (show OpR _ _ (uAdd K) from uop_add) (pe_op (show OpR _ _ (uAdd K) from uop_add) (pe_op uop_mul (pv 3) pe_int) (pe_op uop_mul (pv 5) pe_int)) (pe_op uop_mul pe_int (pv 4))) pe_int) pa_nil)) pe_int))
      (pss_one (ps_if (pt_cmpR op_ge (pv 5) pe_int (nomark _))
        (pss_one (ps_expr (pe_bm PySem.F.plainAttrs_list PySem.F.slot_list_append PySem.F.type_list_append mt_append (pv 2) (pa_cons (pv 5) pa_nil))))
        (pss_one (ps_expr (pe_bm PySem.F.plainAttrs_list PySem.F.slot_list_append PySem.F.type_list_append mt_append (pv 2) (pa_cons (pe_op op_mod (pe_callTy call_int1 (by rfl) T.n_int (by decide +kernel) (pa_cons (pe_op (show OpR _ _ (uAdd K) from uop_add) (pe_op uop_mul (pv 3) pe_int) pe_int) pa_nil)) pe_int) pa_nil)))))))))))
    (pss_one (ps_ret (pv 2)))))), ?_⟩
  exact fn_ok (N := ["script", "count", "rows", "mixed", "k", "cell"]) (show SmS K cl _ ps_law_rows from
    (sm_seq (sm_asg (sm_lstM sm_nil) sm_gname)
    (sm_seq (sm_asg sm_int sm_gname)
    (sm_seq (sm_for (sm_rng1 (sm_cons sm_var sm_nil)) sm_gname
      (sm_seq (sm_asg sm_int sm_gname)
      (sm_seq (sm_ifS (sm_test (sm_op smr_cmp sm_var (sm_cb smc_len (sm_cons sm_var sm_nil))))
        ((sm_asg (sm_cb smc_int (sm_cons (sm_op smr_ix sm_var sm_var) sm_nil)) sm_gname))
        sm_next)
      (sm_seq (sm_ifS (sm_test (sm_op smr_cmp sm_var sm_int))
        ((sm_asg (sm_op smr_sub sm_int (sm_op smr_mul sm_int sm_var)) sm_gname))
        sm_next)
      (sm_seq (sm_asg (sm_op smr_mod (sm_cb smc_int (sm_cons (sm_op smr_add (sm_op smr_add (sm_op smr_add (sm_op smr_mul sm_var sm_int) (sm_op smr_mul sm_var sm_int)) (sm_op smr_mul sm_int sm_var)) sm_int) sm_nil)) sm_int) sm_gname)
      ((sm_ifS (sm_test (sm_op smr_cmp sm_var sm_int))
        ((sm_app sm_var sm_var))
        ((sm_app sm_var (sm_op smr_mod (sm_cb smc_int (sm_cons (sm_op smr_add (sm_op smr_mul sm_var sm_int) sm_int) sm_nil)) sm_int))))))))))
    ((sm_ret sm_var)))))) body_law_rows h
def ps_law_path : PSx :=
    (pSeq (pAsg (pLst (pCons (pC (.str (Str.ofString "a"))) (pCons (pC (.str (Str.ofString "b"))) (pCons (pC (.str (Str.ofString "c.txt"))) (pCons (pC (.str (Str.ofString "d"))) pNil))))) (pgName 2))
    ((pRet (pCB tupk (pCons (pLc (pRng1 (pCons (pOp addk (pC (.int 1)) (pOp modk (pCB int1k (pCons (pOp divk (pVar 0) (pC (.int 5))) pNil)) (pVar 1))) pNil)) (pgName 3) pYes (pOp ixk (pVar 2) (pOp modk (pCB int1k (pCons (pOp divk (pVar 0) (pOp addk (pOp mulk (pC (.int 11)) (pVar 3)) (pC (.int 3)))) pNil)) (pC (.int 4)))) [3]) pNil)))))
theorem start_law_path : ∀ a0 a1 : D, startE 4 [a0, a1] = [some a0, some a1, none, none] := fun _ _ => rfl
def F_law_path : PFn := fun ds k => ∃ (row : Int) (most : Nat), ds = [.int row, .int (most : Int)] ∧ 1 ≤ most ∧ most ≤ 100 ∧ k (ePath (pathF row most))
theorem len_law_path : ∀ ds k, F_law_path ds k → ds.length = 2 := by
  rintro _ _ ⟨_, _, rfl, _⟩
  rfl
theorem names_at (i : Int) (h0 : 0 ≤ i) (h : i < 4) : atI [D.str (Str.ofString "a"), .str (Str.ofString "b"), .str (Str.ofString "c.txt"), .str (Str.ofString "d")] i = some (.str (namesD.getD i.toNat Str.empty)) := by
  have : i = 0 ∨ i = 1 ∨ i = 2 ∨ i = 3 := by omega
  rcases this with rfl | rfl | rfl | rfl <;> rfl
theorem body_law_path : ∀ ds k, F_law_path ds k → ps_law_path { nx := fun _ _ => k .non, rt := fun d S => (d.frz S).noRef = true ∧ k (d.frz S) } (startE 4 ds) [] := by
  rintro _ k ⟨row, most, rfl, h1, h2, hk⟩
  rw [start_law_path]
  unfold ps_law_path
  have hm := mod_bd (row / 5) most (by omega)
  simp only [pForD, pInsL, pExtA, pSeq, pAsg, pVar, pC, pOp, pNil, pCons, pTup, pLst, pLstM, pNot, pAndV, pOrV, pIf, pB, pAnd, pOr, pNotT, pNoPart, pPart, pCB, pUnN, pSl, pNext, pBreak, pCont, pRet, pRetN, pDrop, pIfS, pgName, pgNil, pgCons, pgTup_t, pAug, pApp, pYes, isk_non, nsk_non, isN_non, isN_bl, isN_int, isN_str, isN_tup, isN_lst, isN_ref, isN_obj, pTru, pFld, pStar, pMake, pSetF, pIt, pRng1, pRng2, forG, List.map_cons, List.map_nil, List.getElem?_cons_zero, List.getElem?_cons_succ, List.set_cons_zero, List.set_cons_succ, Option.some.injEq, exists_eq_left, exists_eq_left', true_and, and_true, wipeE, D.bl.injEq, D.int.injEq, D.str.injEq, D.tup.injEq, D.lst.injEq, Bool.not_true, decide_eq_true_eq, if_true, if_false, reduceIte, Bool.false_eq_true, Option.isNone_none, Option.isNone_some, Bool.not_false, List.length_nil, List.length_cons, List.nil_append, List.cons_append, D.ref.injEq, SO.lst.injEq, pCall, exists_const, and_self, Nat.zero_add, Nat.zero_le, Nat.reduceLeDiff, Nat.reduceAdd, eq_self, o_add, o_sub, o_mul, o_div, o_mod, o_cmp, o_int, o_lenl, o_lent, o_lens, o_tupl, o_tupt, o_min, o_max, q_int, ixk_tup, ixk_lst, ixk_scr, at0, at1, at2, at3, at4, at5, List.length_map]
  refine lc_go (src := .lst (rngD (1 + row / 5 % most).toNat)) (as := List.range (1 + row / 5 % most).toNat) (enc := fun (i : Nat) => .int (i : Int)) (fun _ => true) (fun (j : Nat) => .str (namesD.getD (row / (11 * (j : Int) + 3) % 4).toNat Str.empty)) (fun kk h => ?_) (fun S => rfl) (by rw [List.length_range]; omega) (fun j hj k2 k3 h => ?_) ?_
  · simp only [pForD, pInsL, pExtA, pSeq, pAsg, pVar, pC, pOp, pNil, pCons, pTup, pLst, pLstM, pNot, pAndV, pOrV, pIf, pB, pAnd, pOr, pNotT, pNoPart, pPart, pCB, pUnN, pSl, pNext, pBreak, pCont, pRet, pRetN, pDrop, pIfS, pgName, pgNil, pgCons, pgTup_t, pAug, pApp, pYes, isk_non, nsk_non, isN_non, isN_bl, isN_int, isN_str, isN_tup, isN_lst, isN_ref, isN_obj, pTru, pFld, pStar, pMake, pSetF, pIt, pRng1, pRng2, forG, List.map_cons, List.map_nil, List.getElem?_cons_zero, List.getElem?_cons_succ, List.set_cons_zero, List.set_cons_succ, Option.some.injEq, exists_eq_left, exists_eq_left', true_and, and_true, wipeE, D.bl.injEq, D.int.injEq, D.str.injEq, D.tup.injEq, D.lst.injEq, Bool.not_true, decide_eq_true_eq, if_true, if_false, reduceIte, Bool.false_eq_true, Option.isNone_none, Option.isNone_some, Bool.not_false, List.length_nil, List.length_cons, List.nil_append, List.cons_append, D.ref.injEq, SO.lst.injEq, pCall, exists_const, and_self, Nat.zero_add, Nat.zero_le, Nat.reduceLeDiff, Nat.reduceAdd, eq_self, o_add, o_sub, o_mul, o_div, o_mod, o_cmp, o_int, o_lenl, o_lent, o_lens, o_tupl, o_tupt, o_min, o_max, q_int, ixk_tup, ixk_lst, ixk_scr, at0, at1, at2, at3, at4, at5, List.length_map]
    exact ⟨⟨by decide, by decide⟩, by omega, _, rfl, ⟨by omega, by omega⟩, h⟩
  · rw [if_pos rfl] at h
    have hj' := List.mem_range.mp hj
    have hm4 := mod_bd (row / (11 * (j : Int) + 3)) 4 (by decide)
    simp only [pForD, pInsL, pExtA, pSeq, pAsg, pVar, pC, pOp, pNil, pCons, pTup, pLst, pLstM, pNot, pAndV, pOrV, pIf, pB, pAnd, pOr, pNotT, pNoPart, pPart, pCB, pUnN, pSl, pNext, pBreak, pCont, pRet, pRetN, pDrop, pIfS, pgName, pgNil, pgCons, pgTup_t, pAug, pApp, pYes, isk_non, nsk_non, isN_non, isN_bl, isN_int, isN_str, isN_tup, isN_lst, isN_ref, isN_obj, pTru, pFld, pStar, pMake, pSetF, pIt, pRng1, pRng2, forG, List.map_cons, List.map_nil, List.getElem?_cons_zero, List.getElem?_cons_succ, List.set_cons_zero, List.set_cons_succ, Option.some.injEq, exists_eq_left, exists_eq_left', true_and, and_true, wipeE, D.bl.injEq, D.int.injEq, D.str.injEq, D.tup.injEq, D.lst.injEq, Bool.not_true, decide_eq_true_eq, if_true, if_false, reduceIte, Bool.false_eq_true, Option.isNone_none, Option.isNone_some, Bool.not_false, List.length_nil, List.length_cons, List.nil_append, List.cons_append, D.ref.injEq, SO.lst.injEq, pCall, exists_const, and_self, Nat.zero_add, Nat.zero_le, Nat.reduceLeDiff, Nat.reduceAdd, eq_self, o_add, o_sub, o_mul, o_div, o_mod, o_cmp, o_int, o_lenl, o_lent, o_lens, o_tupl, o_tupt, o_min, o_max, q_int, ixk_tup, ixk_lst, ixk_scr, at0, at1, at2, at3, at4, at5, List.length_map]
    exact ⟨.inl (by decide), ⟨by omega, by omega⟩, by decide, _, names_at _ hm4.1 hm4.2, h⟩
  · rw [flt_all]
    simp only [pForD, pInsL, pExtA, pSeq, pAsg, pVar, pC, pOp, pNil, pCons, pTup, pLst, pLstM, pNot, pAndV, pOrV, pIf, pB, pAnd, pOr, pNotT, pNoPart, pPart, pCB, pUnN, pSl, pNext, pBreak, pCont, pRet, pRetN, pDrop, pIfS, pgName, pgNil, pgCons, pgTup_t, pAug, pApp, pYes, isk_non, nsk_non, isN_non, isN_bl, isN_int, isN_str, isN_tup, isN_lst, isN_ref, isN_obj, pTru, pFld, pStar, pMake, pSetF, pIt, pRng1, pRng2, forG, List.map_cons, List.map_nil, List.getElem?_cons_zero, List.getElem?_cons_succ, List.set_cons_zero, List.set_cons_succ, Option.some.injEq, exists_eq_left, exists_eq_left', true_and, and_true, wipeE, D.bl.injEq, D.int.injEq, D.str.injEq, D.tup.injEq, D.lst.injEq, Bool.not_true, decide_eq_true_eq, if_true, if_false, reduceIte, Bool.false_eq_true, Option.isNone_none, Option.isNone_some, Bool.not_false, List.length_nil, List.length_cons, List.nil_append, List.cons_append, D.ref.injEq, SO.lst.injEq, pCall, exists_const, and_self, Nat.zero_add, Nat.zero_le, Nat.reduceLeDiff, Nat.reduceAdd, eq_self, o_add, o_sub, o_mul, o_div, o_mod, o_cmp, o_int, o_lenl, o_lent, o_lens, o_tupl, o_tupt, o_min, o_max, q_int, ixk_tup, ixk_lst, ixk_scr, at0, at1, at2, at3, at4, at5, List.length_map]
    have e : D.tup ((List.range (1 + row / 5 % most).toNat).map fun (j : Nat) => D.str (namesD.getD (row / (11 * (j : Int) + 3) % 4).toNat Str.empty)) = ePath (pathF row most) := by
      unfold ePath pathF
      rw [List.map_map]
      rfl
    rw [e]
    exact rt_pure (pu_path _) hk
theorem ok_law_path {P : Program} {w : World} {K : PySem.W.Frag} {cl : Cl} {mg : Str → Option Value} {base : Heap} (D : Df K mg "_law_path" s_law_path ["row", "most"]) (T : Txt K cl mg)  : C8.Cal P w K mg base 1 "_law_path" (spP K cl F_law_path) [] := by
  refine D.cal sc_law_path (spP_len (n := 2) len_law_path) (fun f cdv  A outer s H vs Q E hr h => ?_)
  refine ⟨_,
    (pss_cons (ps_set (i := 2) sc_law_path.nd rfl (.inr rfl) (pe_lst (pa_cons pe_str (pa_cons pe_str (pa_cons pe_str (pa_cons pe_str pa_nil))))))
    (pss_one (ps_ret (pe_callTy (show CallR _ (.type "tuple") (uTup K) from call_tuple_of) (by rfl) T.n_tuple (by decide +kernel) (pa_cons (pe_lc (own := [("j", 3)]) (g := gName 3) (tt := tYes) rfl sc_law_path.nd (pi_range1 (by rfl) T.n_range (pa_cons (pe_op (show OpR _ _ (uAdd K) from uop_add) pe_int (pe_op op_mod (pe_callTy call_int1 (by rfl) T.n_int (by decide +kernel) (pa_cons (pe_op op_fdiv (pv 0) pe_int) pa_nil)) (pv 1))) pa_nil)) (blkOk_by (own := [("j", 3)]) (N := ["row", "most", "names", "j"]) (sc := defScope s_law_path) (by decide +kernel)) (fun _ _ _ _ _ => (pg_name (i := 3) sc_law_path.nd rfl (Or.inl rfl))) (fun _ _ _ _ _ => pts_nil) (fun _ _ _ _ _ => (pe_ix (show IxR _ (uIx K) from uix) (pv 2) (pe_op op_mod (pe_callTy call_int1 (by rfl) T.n_int (by decide +kernel) (pa_cons (pe_op op_fdiv (pv 0) (pe_op (show OpR _ _ (uAdd K) from uop_add) (pe_op uop_mul pe_int (pv 3)) pe_int)) pa_nil)) pe_int) (fun _ _ => rfl)))) pa_nil))))), ?_⟩
  exact fn_ok (N := ["row", "most", "names", "j"]) (show SmS K cl _ ps_law_path from
    (sm_seq (sm_asg (sm_lst (sm_cons sm_str (sm_cons sm_str (sm_cons sm_str (sm_cons sm_str sm_nil))))) sm_gname)
    ((sm_ret (sm_cb smc_tup (sm_cons (sm_lc (sm_rng1 (sm_cons (sm_op smr_add sm_int (sm_op smr_mod (sm_cb smc_int (sm_cons (sm_op smr_div sm_var sm_int) sm_nil)) sm_var)) sm_nil)) (gok_name (by decide)) sm_gname sm_yes (sm_op smr_ix sm_var (sm_op smr_mod (sm_cb smc_int (sm_cons (sm_op smr_div sm_var (sm_op smr_add (sm_op smr_mul sm_int sm_var) sm_int)) sm_nil)) sm_int))) sm_nil)))))) body_law_path h
def ps_law_pick : PSx :=
    (pSeq (pIfS (pOr (pB (pOp eqk (pCB lenk (pCons (pVar 1) pNil)) (pC (.int 0)))) (pB (pOp eqk (pOp modk (pCB int1k (pCons (pVar 0) pNil)) (pC (.int 3))) (pC (.int 0)))))
      ((pRet (pC .non)))
      pNext)
    (pSeq (pIfS (pB (pOp eqk (pOp modk (pCB int1k (pCons (pOp divk (pVar 0) (pC (.int 7))) pNil)) (pC (.int 2))) (pC (.int 0))))
      ((pRet (pOp ixk (pVar 1) (pOp modk (pCB int1k (pCons (pOp divk (pVar 0) (pC (.int 3))) pNil)) (pCB lenk (pCons (pVar 1) pNil))))))
      pNext)
    ((pRet (pOp ixk (pVar 1) (pOp subk (pOp subk (pCB lenk (pCons (pVar 1) pNil)) (pC (.int 1))) (pOp modk (pCB int1k (pCons (pOp divk (pVar 0) (pC (.int 3))) pNil)) (pCB min2k (pCons (pC (.int 3)) (pCons (pCB lenk (pCons (pVar 1) pNil)) pNil))))))))))
theorem start_law_pick : ∀ a0 a1 : D, startE 2 [a0, a1] = [some a0, some a1] := fun _ _ => rfl
def F_law_pick : PFn := fun ds k => ∃ (row : Int) (is : List Ln.Id), ds = [.int row, .lst (is.map eId)] ∧ is.length ≤ 1000 ∧ k (eOp eId (pickF row is))
theorem len_law_pick : ∀ ds k, F_law_pick ds k → ds.length = 2 := by
  rintro _ _ ⟨_, _, rfl, _⟩
  rfl
theorem body_law_pick : ∀ ds k, F_law_pick ds k → ps_law_pick { nx := fun _ _ => k .non, rt := fun d S => (d.frz S).noRef = true ∧ k (d.frz S) } (startE 2 ds) [] := by
  rintro _ k ⟨row, is, rfl, hl, hk⟩
  rw [start_law_pick]
  unfold ps_law_pick
  simp only [pForD, pInsL, pExtA, pSeq, pAsg, pVar, pC, pOp, pNil, pCons, pTup, pLst, pLstM, pNot, pAndV, pOrV, pIf, pB, pAnd, pOr, pNotT, pNoPart, pPart, pCB, pUnN, pSl, pNext, pBreak, pCont, pRet, pRetN, pDrop, pIfS, pgName, pgNil, pgCons, pgTup_t, pAug, pApp, pYes, isk_non, nsk_non, isN_non, isN_bl, isN_int, isN_str, isN_tup, isN_lst, isN_ref, isN_obj, pTru, pFld, pStar, pMake, pSetF, pIt, pRng1, pRng2, forG, List.map_cons, List.map_nil, List.getElem?_cons_zero, List.getElem?_cons_succ, List.set_cons_zero, List.set_cons_succ, Option.some.injEq, exists_eq_left, exists_eq_left', true_and, and_true, wipeE, D.bl.injEq, D.int.injEq, D.str.injEq, D.tup.injEq, D.lst.injEq, Bool.not_true, decide_eq_true_eq, if_true, if_false, reduceIte, Bool.false_eq_true, Option.isNone_none, Option.isNone_some, Bool.not_false, List.length_nil, List.length_cons, List.nil_append, List.cons_append, D.ref.injEq, SO.lst.injEq, pCall, exists_const, and_self, Nat.zero_add, Nat.zero_le, Nat.reduceLeDiff, Nat.reduceAdd, eq_self, o_add, o_sub, o_mul, o_div, o_mod, o_cmp, o_int, o_lenl, o_lent, o_lens, o_tupl, o_tupt, o_min, o_max, q_int, ixk_tup, ixk_lst, ixk_scr, at0, at1, at2, at3, at4, at5, List.length_map]
  by_cases h0 : is = []
  · subst h0
    rw [if_pos (show ((([] : List Ln.Id).length : Nat) : Int) = 0 from rfl)]
    exact rt_pure rfl hk
  have hpos : 0 < is.length := List.length_pos_iff.mpr h0
  rw [if_neg (show ¬ ((is.length : Nat) : Int) = 0 by omega)]
  refine ⟨by decide, ?_⟩
  unfold pickF at hk
  by_cases h3 : row % 3 = 0
  · rw [if_pos h3]
    rw [if_pos (.inr h3)] at hk
    exact rt_pure rfl hk
  rw [if_neg h3]
  rw [if_neg (fun z => z.elim h0 h3)] at hk
  refine ⟨⟨by decide, by decide⟩, by decide, ?_⟩
  have fin : ∀ j : Int, 0 ≤ j → j < (is.length : Int) → k (eOp Le.eId is[j.toNat]?) → ∃ d : D, atI (is.map Le.eId) j = some d ∧ (d.frz []).noRef = true ∧ k (d.frz []) := by
    intro j hj0 hj1 hk
    have hn : j.toNat < is.length := by omega
    rw [List.getElem?_eq_getElem hn] at hk
    have := at_map (f := Le.eId) (List.getElem?_eq_getElem hn)
    rw [Int.toNat_of_nonneg hj0] at this
    exact ⟨_, this, rt_pure (pu_id _) hk⟩
  by_cases h2 : row / 7 % 2 = 0
  · rw [if_pos h2]
    rw [if_pos h2] at hk
    have := mod_bd (row / 3) is.length (by omega)
    exact ⟨⟨by decide, by decide⟩, by omega, fin _ this.1 this.2 hk⟩
  · rw [if_neg h2]
    rw [if_neg h2] at hk
    have e : (if (is.length : Int) < 3 then (is.length : Int) else 3) = min 3 (is.length : Int) := by split <;> omega
    rw [e]
    have := mod_bd (row / 3) (min 3 (is.length : Int)) (by omega)
    exact ⟨⟨by decide, by decide⟩, by omega, fin _ (by omega) (by omega) hk⟩
theorem ok_law_pick {P : Program} {w : World} {K : PySem.W.Frag} {cl : Cl} {mg : Str → Option Value} {base : Heap} (D : Df K mg "_law_pick" s_law_pick ["row", "ids"]) (T : Txt K cl mg)  : C8.Cal P w K mg base 1 "_law_pick" (spP K cl F_law_pick) [] := by
  refine D.cal sc_law_pick (spP_len (n := 2) len_law_pick) (fun f cdv  A outer s H vs Q E hr h => ?_)
  refine ⟨_,
    (pss_cons (ps_if (PW.pt (pw_or (pt_cmpR (show OpR _ _ (rEqP K) from op_eqP hr.units) (pe_callB (show CallR _ (.builtin "len") (uLen K) from ucall_len) (by rfl) T.n_len PySem.boot_len (pa_cons (pv 1) pa_nil)) pe_int (nomark _)) (pw_or1 (pt_cmpR (show OpR _ _ (rEqP K) from op_eqP hr.units) (pe_op op_mod (pe_callTy call_int1 (by rfl) T.n_int (by decide +kernel) (pa_cons (pv 0) pa_nil)) pe_int) pe_int (nomark _)))))
      (pss_one (ps_ret pe_non))
      pss_nil)
    (pss_cons (ps_if (pt_cmpR (show OpR _ _ (rEqP K) from op_eqP hr.units) (pe_op op_mod (pe_callTy call_int1 (by rfl) T.n_int (by decide +kernel) (pa_cons (pe_op op_fdiv (pv 0) pe_int) pa_nil)) pe_int) pe_int (nomark _))
      (pss_one (ps_ret (pe_ix (show IxR _ (uIx K) from uix) (pv 1) (pe_op op_mod (pe_callTy call_int1 (by rfl) T.n_int (by decide +kernel) (pa_cons (pe_op op_fdiv (pv 0) pe_int) pa_nil)) (pe_callB (show CallR _ (.builtin "len") (uLen K) from ucall_len) (by rfl) T.n_len PySem.boot_len (pa_cons (pv 1) pa_nil))) (fun _ _ => rfl))))
      pss_nil)
    (pss_one (ps_ret (pe_ix (show IxR _ (uIx K) from uix) (pv 1) (pe_op op_sub (pe_op op_sub (pe_callB (show CallR _ (.builtin "len") (uLen K) from ucall_len) (by rfl) T.n_len PySem.boot_len (pa_cons (pv 1) pa_nil)) pe_int) (pe_op op_mod (pe_callTy call_int1 (by rfl) T.n_int (by decide +kernel) (pa_cons (pe_op op_fdiv (pv 0) pe_int) pa_nil)) (pe_callB (call_min2 rfl) (by rfl) T.n_min (by decide +kernel) (pa_cons pe_int (pa_cons (pe_callB (show CallR _ (.builtin "len") (uLen K) from ucall_len) (by rfl) T.n_len PySem.boot_len (pa_cons (pv 1) pa_nil)) pa_nil))))) (fun _ _ => rfl)))))), ?_⟩
  exact fn_ok (N := ["row", "ids"]) (show SmS K cl _ ps_law_pick from
    (sm_seq (sm_ifS (sm_or (sm_test (sm_op smr_eq (sm_cb smc_len (sm_cons sm_var sm_nil)) sm_int)) (sm_test (sm_op smr_eq (sm_op smr_mod (sm_cb smc_int (sm_cons sm_var sm_nil)) sm_int) sm_int)))
      ((sm_ret sm_non))
      sm_next)
    (sm_seq (sm_ifS (sm_test (sm_op smr_eq (sm_op smr_mod (sm_cb smc_int (sm_cons (sm_op smr_div sm_var sm_int) sm_nil)) sm_int) sm_int))
      ((sm_ret (sm_op smr_ix sm_var (sm_op smr_mod (sm_cb smc_int (sm_cons (sm_op smr_div sm_var sm_int) sm_nil)) (sm_cb smc_len (sm_cons sm_var sm_nil))))))
      sm_next)
    ((sm_ret (sm_op smr_ix sm_var (sm_op smr_sub (sm_op smr_sub (sm_cb smc_len (sm_cons sm_var sm_nil)) sm_int) (sm_op smr_mod (sm_cb smc_int (sm_cons (sm_op smr_div sm_var sm_int) sm_nil)) (sm_cb smc_min2 (sm_cons sm_int (sm_cons (sm_cb smc_len (sm_cons sm_var sm_nil)) sm_nil))))))))))) body_law_pick h
def ps_law_place : PSx :=
    ((pRet (pTup (pCons (pCall F_law_pick (pCons (pOp divk (pVar 0) (pC (.int 2))) (pCons (pVar 1) pNil))) (pCons (pCall F_law_path (pCons (pOp divk (pVar 0) (pC (.int 13))) (pCons (pC (.int 2)) pNil))) (pCons (pCall F_law_path (pCons (pOp divk (pVar 0) (pC (.int 101))) (pCons (pC (.int 3)) pNil))) pNil))))))
theorem start_law_place : ∀ a0 a1 : D, startE 2 [a0, a1] = [some a0, some a1] := fun _ _ => rfl
def F_law_place : PFn := fun ds k => ∃ (row : Int) (is : List Ln.Id), ds = [.int row, .lst (is.map eId)] ∧ is.length ≤ 1000 ∧ k (ePl (placeF row is))
theorem len_law_place : ∀ ds k, F_law_place ds k → ds.length = 2 := by
  rintro _ _ ⟨_, _, rfl, _⟩
  rfl
theorem body_law_place : ∀ ds k, F_law_place ds k → ps_law_place { nx := fun _ _ => k .non, rt := fun d S => (d.frz S).noRef = true ∧ k (d.frz S) } (startE 2 ds) [] := by
  rintro _ k ⟨row, is, rfl, hl, hk⟩
  rw [start_law_place]
  unfold ps_law_place
  simp only [pForD, pInsL, pExtA, pSeq, pAsg, pVar, pC, pOp, pNil, pCons, pTup, pLst, pLstM, pNot, pAndV, pOrV, pIf, pB, pAnd, pOr, pNotT, pNoPart, pPart, pCB, pUnN, pSl, pNext, pBreak, pCont, pRet, pRetN, pDrop, pIfS, pgName, pgNil, pgCons, pgTup_t, pAug, pApp, pYes, isk_non, nsk_non, isN_non, isN_bl, isN_int, isN_str, isN_tup, isN_lst, isN_ref, isN_obj, pTru, pFld, pStar, pMake, pSetF, pIt, pRng1, pRng2, forG, List.map_cons, List.map_nil, List.getElem?_cons_zero, List.getElem?_cons_succ, List.set_cons_zero, List.set_cons_succ, Option.some.injEq, exists_eq_left, exists_eq_left', true_and, and_true, wipeE, D.bl.injEq, D.int.injEq, D.str.injEq, D.tup.injEq, D.lst.injEq, Bool.not_true, decide_eq_true_eq, if_true, if_false, reduceIte, Bool.false_eq_true, Option.isNone_none, Option.isNone_some, Bool.not_false, List.length_nil, List.length_cons, List.nil_append, List.cons_append, D.ref.injEq, SO.lst.injEq, pCall, exists_const, and_self, Nat.zero_add, Nat.zero_le, Nat.reduceLeDiff, Nat.reduceAdd, eq_self, o_add, o_sub, o_mul, o_div, o_mod, o_cmp, o_int, o_lenl, o_lent, o_lens, o_tupl, o_tupt, o_min, o_max, q_int, ixk_tup, ixk_lst, ixk_scr, at0, at1, at2, at3, at4, at5, List.length_map]
  have p : ∀ r : Int, pureAll [.int r, .lst (is.map eId)] = true := fun r => by
    simp only [pureAll, show (D.lst (is.map eId)).pure = true from pu_ids is, pu_int, Bool.and_self]
  refine ⟨⟨by decide, by decide⟩, call_of (p _) ⟨_, is, rfl, hl, ⟨by decide, by decide⟩, ?_⟩⟩
  refine call_of rfl ⟨row / 13, 2, rfl, by decide, by decide, ⟨by decide, by decide⟩, ?_⟩
  exact call_of rfl ⟨row / 101, 3, rfl, by decide, by decide, rt_pure (pu_pl (placeF row is)) hk⟩
theorem ok_law_place {P : Program} {w : World} {K : PySem.W.Frag} {cl : Cl} {mg : Str → Option Value} {base : Heap} (D : Df K mg "_law_place" s_law_place ["row", "ids"]) (T : Txt K cl mg) (G_law_path : C8.Cal P w K mg base 1 "_law_path" (spP K cl F_law_path) []) (G_law_pick : C8.Cal P w K mg base 1 "_law_pick" (spP K cl F_law_pick) []) : C8.Cal P w K mg base 2 "_law_place" (spP K cl F_law_place) [] := by
  refine D.cal sc_law_place (spP_len (n := 2) len_law_place) (fun f cdv  A outer s H vs Q E hr h => ?_)
  refine ⟨_,
    (pss_one (ps_ret (pe_tup (pa_cons (C8.pe_c G_law_pick hr (by decide) (by rfl) (pa_cons (pe_op op_fdiv (pv 0) pe_int) (pa_cons (pv 1) pa_nil))) (pa_cons (C8.pe_c G_law_path hr (by decide) (by rfl) (pa_cons (pe_op op_fdiv (pv 0) pe_int) (pa_cons pe_int pa_nil))) (pa_cons (C8.pe_c G_law_path hr (by decide) (by rfl) (pa_cons (pe_op op_fdiv (pv 0) pe_int) (pa_cons pe_int pa_nil))) pa_nil)))))), ?_⟩
  exact fn_ok (N := ["row", "ids"]) (show SmS K cl _ ps_law_place from
    ((sm_ret (sm_tup (sm_cons (sm_call (sm_cons (sm_op smr_div sm_var sm_int) (sm_cons sm_var sm_nil))) (sm_cons (sm_call (sm_cons (sm_op smr_div sm_var sm_int) (sm_cons sm_int sm_nil))) (sm_cons (sm_call (sm_cons (sm_op smr_div sm_var sm_int) (sm_cons sm_int sm_nil))) sm_nil))))))) body_law_place h
def pl_law_heads_1 : PSx :=
      (pSeq (pAsg (pCall F_law_pick (pCons (pOp divk (pVar 0) (pOp addk (pOp mulk (pC (.int 23)) (pVar 3)) (pC (.int 5)))) (pCons (pVar 1) pNil))) (pgName 4))
      ((pIfS (pB (pOp nsk (pVar 4) (pC .non)))
        ((pApp (pVar 2) (pVar 4)))
        pNext)))
def ps_law_heads : PSx :=
    (pSeq (pAsg (pLstM pNil) (pgName 2))
    (pSeq (pFor (pRng1 (pCons (pOp modk (pCB int1k (pCons (pOp divk (pVar 0) (pC (.int 17))) pNil)) (pC (.int 4))) pNil)) (pgName 3) pl_law_heads_1)
    ((pRet (pCB tupk (pCons (pVar 2) pNil))))))
theorem start_law_heads : ∀ a0 a1 : D, startE 5 [a0, a1] = [some a0, some a1, none, none, none] := fun _ _ => rfl
theorem loop_law_heads (row : Int) (is : List Ln.Id) (hl : is.length ≤ 1000) (P : PEnds) : ∀ (n j : Nat) (x1 x2 : Option D), j + n ≤ 4 →
    (∀ x1 x2, P.nx [some (.int row), some (.lst (is.map eId)), some (.ref 0), x1, x2] [.lst ((headsF row is (j + n)).map eId)]) →
    forG (pgName 3) pl_law_heads_1 P ((List.range' j n).map fun (i : Nat) => D.int (i : Int)) [some (.int row), some (.lst (is.map eId)), some (.ref 0), x1, x2] [.lst ((headsF row is j).map eId)] := by
  intro n
  induction n with
  | zero => exact fun j x1 x2 _ h => h x1 x2
  | succ n ih =>
    intro j x1 x2 hj h
    rw [List.range'_succ]
    unfold pl_law_heads_1
    simp only [pForD, pInsL, pExtA, pSeq, pAsg, pVar, pC, pOp, pNil, pCons, pTup, pLst, pLstM, pNot, pAndV, pOrV, pIf, pB, pAnd, pOr, pNotT, pNoPart, pPart, pCB, pUnN, pSl, pNext, pBreak, pCont, pRet, pRetN, pDrop, pIfS, pgName, pgNil, pgCons, pgTup_t, pAug, pApp, pYes, isk_non, nsk_non, isN_non, isN_bl, isN_int, isN_str, isN_tup, isN_lst, isN_ref, isN_obj, pTru, pFld, pStar, pMake, pSetF, pIt, pRng1, pRng2, forG, List.map_cons, List.map_nil, List.getElem?_cons_zero, List.getElem?_cons_succ, List.set_cons_zero, List.set_cons_succ, Option.some.injEq, exists_eq_left, exists_eq_left', true_and, and_true, wipeE, D.bl.injEq, D.int.injEq, D.str.injEq, D.tup.injEq, D.lst.injEq, Bool.not_true, decide_eq_true_eq, if_true, if_false, reduceIte, Bool.false_eq_true, Option.isNone_none, Option.isNone_some, Bool.not_false, List.length_nil, List.length_cons, List.nil_append, List.cons_append, D.ref.injEq, SO.lst.injEq, pCall, exists_const, and_self, Nat.zero_add, Nat.zero_le, Nat.reduceLeDiff, Nat.reduceAdd, eq_self, o_add, o_sub, o_mul, o_div, o_mod, o_cmp, o_int, o_lenl, o_lent, o_lens, o_tupl, o_tupt, o_min, o_max, q_int, ixk_tup, ixk_lst, ixk_scr, at0, at1, at2, at3, at4, at5, List.length_map]
    have p : ∀ r : Int, pureAll [.int r, .lst (is.map eId)] = true := fun r => by
      simp only [pureAll, show (D.lst (is.map eId)).pure = true from pu_ids is, pu_int, Bool.and_self]
    refine ⟨.inl (by decide), ⟨by omega, by omega⟩, call_of (p _) ⟨_, is, rfl, hl, ?_⟩⟩
    have h' : ∀ x1 x2, P.nx [some (.int row), some (.lst (is.map eId)), some (.ref 0), x1, x2] [.lst ((headsF row is ((j + 1) + n)).map eId)] := fun x1 x2 => by
      rw [show j + 1 + n = j + (n + 1) by omega]
      exact h x1 x2
    have up : headsF row is (j + 1) = headsF row is j ++ (pickF (row / (23 * (j : Int) + 5)) is).toList := rfl
    cases hp : pickF (row / (23 * (j : Int) + 5)) is with
    | none =>
      rw [hp] at up
      simp only [pForD, pInsL, pExtA, pSeq, pAsg, pVar, pC, pOp, pNil, pCons, pTup, pLst, pLstM, pNot, pAndV, pOrV, pIf, pB, pAnd, pOr, pNotT, pNoPart, pPart, pCB, pUnN, pSl, pNext, pBreak, pCont, pRet, pRetN, pDrop, pIfS, pgName, pgNil, pgCons, pgTup_t, pAug, pApp, pYes, isk_non, nsk_non, isN_non, isN_bl, isN_int, isN_str, isN_tup, isN_lst, isN_ref, isN_obj, pTru, pFld, pStar, pMake, pSetF, pIt, pRng1, pRng2, forG, List.map_cons, List.map_nil, List.getElem?_cons_zero, List.getElem?_cons_succ, List.set_cons_zero, List.set_cons_succ, Option.some.injEq, exists_eq_left, exists_eq_left', true_and, and_true, wipeE, D.bl.injEq, D.int.injEq, D.str.injEq, D.tup.injEq, D.lst.injEq, Bool.not_true, decide_eq_true_eq, if_true, if_false, reduceIte, Bool.false_eq_true, Option.isNone_none, Option.isNone_some, Bool.not_false, List.length_nil, List.length_cons, List.nil_append, List.cons_append, D.ref.injEq, SO.lst.injEq, pCall, exists_const, and_self, Nat.zero_add, Nat.zero_le, Nat.reduceLeDiff, Nat.reduceAdd, eq_self, o_add, o_sub, o_mul, o_div, o_mod, o_cmp, o_int, o_lenl, o_lent, o_lens, o_tupl, o_tupt, o_min, o_max, q_int, ixk_tup, ixk_lst, ixk_scr, at0, at1, at2, at3, at4, at5, List.length_map, ln0, ln1, ln2, ln3, ln4, lnS0, lnS2, lnS4, q_id, q_ido, q_oi, q_oid, q_path, q_ln, q_ls, n_id, n_path, n_ln, n_ls, non_oid, non_oln, non_oct, non_id, non_ln, non_ct, non_path, un_ln, un_pl, in_ids, ad_path, eOp_s, eOp_n, lstk_ls, st_ls, fl_Placed_path, fl_Placed_names, fl_Placed_thing, fl_Placed_count, fl_Placed_cuts, fl_Placed_content, fl_Placed_ids, fl_Placed_line, fl_Placed_seen, fl_Shelved_place, fl_Shelved_thing, fl_Shelved_count, fl_Shelved_cuts, fl_Shelved_length, fl_Shelved_purpose]
      have := ih (j + 1) (some (.int (j : Int))) (some .non) (by omega) h'
      rw [up, Option.toList_none, List.append_nil] at this
      exact this
    | some i =>
      rw [hp] at up
      have hlen := headsF_len row is j
      simp only [pForD, pInsL, pExtA, pSeq, pAsg, pVar, pC, pOp, pNil, pCons, pTup, pLst, pLstM, pNot, pAndV, pOrV, pIf, pB, pAnd, pOr, pNotT, pNoPart, pPart, pCB, pUnN, pSl, pNext, pBreak, pCont, pRet, pRetN, pDrop, pIfS, pgName, pgNil, pgCons, pgTup_t, pAug, pApp, pYes, isk_non, nsk_non, isN_non, isN_bl, isN_int, isN_str, isN_tup, isN_lst, isN_ref, isN_obj, pTru, pFld, pStar, pMake, pSetF, pIt, pRng1, pRng2, forG, List.map_cons, List.map_nil, List.getElem?_cons_zero, List.getElem?_cons_succ, List.set_cons_zero, List.set_cons_succ, Option.some.injEq, exists_eq_left, exists_eq_left', true_and, and_true, wipeE, D.bl.injEq, D.int.injEq, D.str.injEq, D.tup.injEq, D.lst.injEq, Bool.not_true, decide_eq_true_eq, if_true, if_false, reduceIte, Bool.false_eq_true, Option.isNone_none, Option.isNone_some, Bool.not_false, List.length_nil, List.length_cons, List.nil_append, List.cons_append, D.ref.injEq, SO.lst.injEq, pCall, exists_const, and_self, Nat.zero_add, Nat.zero_le, Nat.reduceLeDiff, Nat.reduceAdd, eq_self, o_add, o_sub, o_mul, o_div, o_mod, o_cmp, o_int, o_lenl, o_lent, o_lens, o_tupl, o_tupt, o_min, o_max, q_int, ixk_tup, ixk_lst, ixk_scr, at0, at1, at2, at3, at4, at5, List.length_map, ln0, ln1, ln2, ln3, ln4, lnS0, lnS2, lnS4, q_id, q_ido, q_oi, q_oid, q_path, q_ln, q_ls, n_id, n_path, n_ln, n_ls, non_oid, non_oln, non_oct, non_id, non_ln, non_ct, non_path, un_ln, un_pl, in_ids, ad_path, eOp_s, eOp_n, lstk_ls, st_ls, fl_Placed_path, fl_Placed_names, fl_Placed_thing, fl_Placed_count, fl_Placed_cuts, fl_Placed_content, fl_Placed_ids, fl_Placed_line, fl_Placed_seen, fl_Shelved_place, fl_Shelved_thing, fl_Shelved_count, fl_Shelved_cuts, fl_Shelved_length, fl_Shelved_purpose]
      refine ⟨by omega, ?_⟩
      have := ih (j + 1) (some (.int (j : Int))) (some (eId i)) (by omega) h'
      rw [up, List.map_append] at this
      exact this
def F_law_heads : PFn := fun ds k => ∃ (row : Int) (is : List Ln.Id), ds = [.int row, .lst (is.map eId)] ∧ is.length ≤ 1000 ∧ k (eIds (headsA row is))
theorem len_law_heads : ∀ ds k, F_law_heads ds k → ds.length = 2 := by
  rintro _ _ ⟨_, _, rfl, _⟩
  rfl
theorem body_law_heads : ∀ ds k, F_law_heads ds k → ps_law_heads { nx := fun _ _ => k .non, rt := fun d S => (d.frz S).noRef = true ∧ k (d.frz S) } (startE 5 ds) [] := by
  rintro _ k ⟨row, is, rfl, hl, hk⟩
  rw [start_law_heads]
  unfold ps_law_heads
  have hm := mod_bd (row / 17) 4 (by decide)
  simp only [pForD, pInsL, pExtA, pSeq, pAsg, pVar, pC, pOp, pNil, pCons, pTup, pLst, pLstM, pNot, pAndV, pOrV, pIf, pB, pAnd, pOr, pNotT, pNoPart, pPart, pCB, pUnN, pSl, pNext, pBreak, pCont, pRet, pRetN, pDrop, pIfS, pgName, pgNil, pgCons, pgTup_t, pAug, pApp, pYes, isk_non, nsk_non, isN_non, isN_bl, isN_int, isN_str, isN_tup, isN_lst, isN_ref, isN_obj, pTru, pFld, pStar, pMake, pSetF, pIt, pRng1, pRng2, forG, List.map_cons, List.map_nil, List.getElem?_cons_zero, List.getElem?_cons_succ, List.set_cons_zero, List.set_cons_succ, Option.some.injEq, exists_eq_left, exists_eq_left', true_and, and_true, wipeE, D.bl.injEq, D.int.injEq, D.str.injEq, D.tup.injEq, D.lst.injEq, Bool.not_true, decide_eq_true_eq, if_true, if_false, reduceIte, Bool.false_eq_true, Option.isNone_none, Option.isNone_some, Bool.not_false, List.length_nil, List.length_cons, List.nil_append, List.cons_append, D.ref.injEq, SO.lst.injEq, pCall, exists_const, and_self, Nat.zero_add, Nat.zero_le, Nat.reduceLeDiff, Nat.reduceAdd, eq_self, o_add, o_sub, o_mul, o_div, o_mod, o_cmp, o_int, o_lenl, o_lent, o_lens, o_tupl, o_tupt, o_min, o_max, q_int, ixk_tup, ixk_lst, ixk_scr, at0, at1, at2, at3, at4, at5, List.length_map]
  refine for_go (src := .lst (rngD (row / 17 % 4).toNat)) (ds := rngD (row / 17 % 4).toNat) (fun kk h => ?_) (fun S => rfl) ?_
  · simp only [pForD, pInsL, pExtA, pSeq, pAsg, pVar, pC, pOp, pNil, pCons, pTup, pLst, pLstM, pNot, pAndV, pOrV, pIf, pB, pAnd, pOr, pNotT, pNoPart, pPart, pCB, pUnN, pSl, pNext, pBreak, pCont, pRet, pRetN, pDrop, pIfS, pgName, pgNil, pgCons, pgTup_t, pAug, pApp, pYes, isk_non, nsk_non, isN_non, isN_bl, isN_int, isN_str, isN_tup, isN_lst, isN_ref, isN_obj, pTru, pFld, pStar, pMake, pSetF, pIt, pRng1, pRng2, forG, List.map_cons, List.map_nil, List.getElem?_cons_zero, List.getElem?_cons_succ, List.set_cons_zero, List.set_cons_succ, Option.some.injEq, exists_eq_left, exists_eq_left', true_and, and_true, wipeE, D.bl.injEq, D.int.injEq, D.str.injEq, D.tup.injEq, D.lst.injEq, Bool.not_true, decide_eq_true_eq, if_true, if_false, reduceIte, Bool.false_eq_true, Option.isNone_none, Option.isNone_some, Bool.not_false, List.length_nil, List.length_cons, List.nil_append, List.cons_append, D.ref.injEq, SO.lst.injEq, pCall, exists_const, and_self, Nat.zero_add, Nat.zero_le, Nat.reduceLeDiff, Nat.reduceAdd, eq_self, o_add, o_sub, o_mul, o_div, o_mod, o_cmp, o_int, o_lenl, o_lent, o_lens, o_tupl, o_tupt, o_min, o_max, q_int, ixk_tup, ixk_lst, ixk_scr, at0, at1, at2, at3, at4, at5, List.length_map]
    exact ⟨⟨by decide, by decide⟩, by decide, _, rfl, ⟨by omega, by omega⟩, h⟩
  · have := loop_law_heads row is hl
    unfold rngD
    rw [List.range_eq_range']
    refine loop_law_heads row is hl _ (row / 17 % 4).toNat 0 _ _ (by omega) (fun x1 x2 => ?_)
    rw [Nat.zero_add]
    simp only [pForD, pInsL, pExtA, pSeq, pAsg, pVar, pC, pOp, pNil, pCons, pTup, pLst, pLstM, pNot, pAndV, pOrV, pIf, pB, pAnd, pOr, pNotT, pNoPart, pPart, pCB, pUnN, pSl, pNext, pBreak, pCont, pRet, pRetN, pDrop, pIfS, pgName, pgNil, pgCons, pgTup_t, pAug, pApp, pYes, isk_non, nsk_non, isN_non, isN_bl, isN_int, isN_str, isN_tup, isN_lst, isN_ref, isN_obj, pTru, pFld, pStar, pMake, pSetF, pIt, pRng1, pRng2, forG, List.map_cons, List.map_nil, List.getElem?_cons_zero, List.getElem?_cons_succ, List.set_cons_zero, List.set_cons_succ, Option.some.injEq, exists_eq_left, exists_eq_left', true_and, and_true, wipeE, D.bl.injEq, D.int.injEq, D.str.injEq, D.tup.injEq, D.lst.injEq, Bool.not_true, decide_eq_true_eq, if_true, if_false, reduceIte, Bool.false_eq_true, Option.isNone_none, Option.isNone_some, Bool.not_false, List.length_nil, List.length_cons, List.nil_append, List.cons_append, D.ref.injEq, SO.lst.injEq, pCall, exists_const, and_self, Nat.zero_add, Nat.zero_le, Nat.reduceLeDiff, Nat.reduceAdd, eq_self, o_add, o_sub, o_mul, o_div, o_mod, o_cmp, o_int, o_lenl, o_lent, o_lens, o_tupl, o_tupt, o_min, o_max, q_int, ixk_tup, ixk_lst, ixk_scr, at0, at1, at2, at3, at4, at5, List.length_map, o_tupr]
    refine ⟨_, lo_ref rfl, ?_⟩
    exact rt_pure (d := eIds (headsA row is)) (pu_idst _) hk
theorem ok_law_heads {P : Program} {w : World} {K : PySem.W.Frag} {cl : Cl} {mg : Str → Option Value} {base : Heap} (D : Df K mg "_law_heads" s_law_heads ["row", "ids"]) (T : Txt K cl mg) (G_law_pick : C8.Cal P w K mg base 1 "_law_pick" (spP K cl F_law_pick) []) : C8.Cal P w K mg base 2 "_law_heads" (spP K cl F_law_heads) [] := by
  refine D.cal sc_law_heads (spP_len (n := 2) len_law_heads) (fun f cdv  A outer s H vs Q E hr h => ?_)
  refine ⟨_,
    (pss_cons (ps_set (i := 2) sc_law_heads.nd rfl (.inl rfl) (pe_lst pa_nil))
    (pss_cons (ps_for PassesOwn.never rfl (pi_range1 (by rfl) T.n_range (pa_cons (pe_op op_mod (pe_callTy call_int1 (by rfl) T.n_int (by decide +kernel) (pa_cons (pe_op op_fdiv (pv 0) pe_int) pa_nil)) pe_int) pa_nil)) (pg_name (i := 3) sc_law_heads.nd rfl (Or.inl rfl))
      (pss_cons (ps_set (i := 4) sc_law_heads.nd rfl (.inl rfl) (C8.pe_c G_law_pick hr (by decide) (by rfl) (pa_cons (pe_op op_fdiv (pv 0) (pe_op (show OpR _ _ (uAdd K) from uop_add) (pe_op uop_mul pe_int (pv 3)) pe_int)) (pa_cons (pv 1) pa_nil))))
      (pss_one (ps_if (pt_cmpR op_notN (pv 4) pe_non (nomark _))
        (pss_one (ps_expr (pe_bm PySem.F.plainAttrs_list PySem.F.slot_list_append PySem.F.type_list_append mt_append (pv 2) (pa_cons (pv 4) pa_nil))))
        pss_nil))))
    (pss_one (ps_ret (pe_callTy (show CallR _ (.type "tuple") (uTup K) from call_tuple_of) (by rfl) T.n_tuple (by decide +kernel) (pa_cons (pv 2) pa_nil)))))), ?_⟩
  exact fn_ok (N := ["row", "ids", "heads", "j", "head"]) (show SmS K cl _ ps_law_heads from
    (sm_seq (sm_asg (sm_lstM sm_nil) sm_gname)
    (sm_seq (sm_for (sm_rng1 (sm_cons (sm_op smr_mod (sm_cb smc_int (sm_cons (sm_op smr_div sm_var sm_int) sm_nil)) sm_int) sm_nil)) sm_gname
      (sm_seq (sm_asg (sm_call (sm_cons (sm_op smr_div sm_var (sm_op smr_add (sm_op smr_mul sm_int sm_var) sm_int)) (sm_cons sm_var sm_nil))) sm_gname)
      ((sm_ifS (sm_test (sm_op smr_ns sm_var sm_non))
        ((sm_app sm_var sm_var))
        sm_next))))
    ((sm_ret (sm_cb smc_tup (sm_cons sm_var sm_nil))))))) body_law_heads h
def pl_law_edit_1 : PSx :=
      (pSeq (pAsg (pCall F_law_pick (pCons (pOp addk (pC (.int 1)) (pOp mulk (pC (.int 3)) (pOp divk (pVar 0) (pOp addk (pOp mulk (pC (.int 37)) (pVar 7)) (pC (.int 2)))))) (pCons (pVar 2) pNil))) (pgName 8))
      (pSeq (pAsg (pCall F_law_pick (pCons (pOp addk (pC (.int 1)) (pOp mulk (pC (.int 3)) (pOp divk (pVar 0) (pOp addk (pOp mulk (pC (.int 41)) (pVar 7)) (pC (.int 3)))))) (pCons (pVar 2) pNil))) (pgName 9))
      ((pApp (pVar 6) (pTup (pCons (pVar 8) (pCons (pVar 9) (pCons (pCall F_law_place (pCons (pOp divk (pVar 0) (pOp addk (pOp mulk (pC (.int 43)) (pVar 7)) (pC (.int 7)))) (pCons (pVar 2) pNil))) pNil))))))))
def ps_law_edit : PSx :=
    (pSeq (pAsg (pCall F_law_place (pCons (pOp divk (pVar 0) (pC (.int 6))) (pCons (pVar 2) pNil))) (pgName 3))
    (pSeq (pAsg (pOp modk (pCB int1k (pCons (pVar 0) pNil)) (pC (.int 6))) (pgName 4))
    (pSeq (pIfS (pB (pOp eqk (pVar 4) (pC (.int 0))))
      ((pRet (pTup (pCons (pC (.str (Str.ofString "write"))) (pCons (pVar 1) (pCons (pVar 3) (pCons (pC .non) (pCons (pC .non) (pCons (pCall F_law_heads (pCons (pVar 0) (pCons (pVar 2) pNil))) pNil)))))))))
      pNext)
    (pSeq (pIfS (pOr (pB (pOp (cmpk fun i j => decide (i ≤ j)) (pVar 4) (pC (.int 3)))) (pB (pOp eqk (pCB lenk (pCons (pVar 2) pNil)) (pC (.int 0)))))
      (pSeq (pAsg (pOp modk (pCB int1k (pCons (pOp divk (pVar 0) (pC (.int 19))) pNil)) (pC (.int 3))) (pgName 5))
      ((pRet (pTup (pCons (pC (.str (Str.ofString "write"))) (pCons (pVar 1) (pCons (pVar 3) (pCons (pTup (pCons (pVar 5) (pCons (pVar 5) (pCons (pOp addk (pVar 5) (pC (.int 1))) (pCons (pC (.bl false)) pNil))))) (pCons (pCall F_law_pick (pCons (pOp divk (pVar 0) (pC (.int 29))) (pCons (pVar 2) pNil))) (pCons (pCall F_law_heads (pCons (pVar 0) (pCons (pVar 2) pNil))) pNil))))))))))
      pNext)
    (pSeq (pIfS (pB (pOp eqk (pVar 4) (pC (.int 4))))
      ((pRet (pTup (pCons (pC (.str (Str.ofString "drop"))) (pCons (pVar 1) (pCons (pCall F_law_heads (pCons (pOp divk (pVar 0) (pC (.int 3))) (pCons (pVar 2) pNil))) pNil))))))
      pNext)
    (pSeq (pAsg (pLstM pNil) (pgName 6))
    (pSeq (pFor (pRng1 (pCons (pOp addk (pC (.int 1)) (pOp modk (pCB int1k (pCons (pOp divk (pVar 0) (pC (.int 31))) pNil)) (pC (.int 2)))) pNil)) (pgName 7) pl_law_edit_1)
    ((pRet (pTup (pCons (pC (.str (Str.ofString "move"))) (pCons (pVar 1) (pCons (pCB tupk (pCons (pVar 6) pNil)) pNil)))))))))))))
theorem start_law_edit : ∀ a0 a1 a2 : D, startE 10 [a0, a1, a2] = [some a0, some a1, some a2, none, none, none, none, none, none, none] := fun _ _ _ => rfl
theorem loop_law_edit (row : Int) (id : Ln.Id) (is : List Ln.Id) (hl : is.length ≤ 1000) (x3 x4 x5 : Option D) (P : PEnds) : ∀ (n j : Nat) (x7 x8 x9 : Option D), j + n ≤ 2 →
    (∀ x7 x8 x9, P.nx [some (.int row), some (eId id), some (.lst (is.map eId)), x3, x4, x5, some (.ref 0), x7, x8, x9] [.lst (((List.range (j + n)).map (mvF row is)).map eMv)]) →
    forG (pgName 7) pl_law_edit_1 P ((List.range' j n).map fun (i : Nat) => D.int (i : Int)) [some (.int row), some (eId id), some (.lst (is.map eId)), x3, x4, x5, some (.ref 0), x7, x8, x9] [.lst (((List.range j).map (mvF row is)).map eMv)] := by
  intro n
  induction n with
  | zero => exact fun j x7 x8 x9 _ h => h x7 x8 x9
  | succ n ih =>
    intro j x7 x8 x9 hj h
    rw [List.range'_succ]
    unfold pl_law_edit_1
    have p : ∀ r : Int, pureAll [.int r, .lst (is.map eId)] = true := fun r => by
      simp only [pureAll, show (D.lst (is.map eId)).pure = true from pu_ids is, pu_int, Bool.and_self]
    simp only [pForD, pInsL, pExtA, pSeq, pAsg, pVar, pC, pOp, pNil, pCons, pTup, pLst, pLstM, pNot, pAndV, pOrV, pIf, pB, pAnd, pOr, pNotT, pNoPart, pPart, pCB, pUnN, pSl, pNext, pBreak, pCont, pRet, pRetN, pDrop, pIfS, pgName, pgNil, pgCons, pgTup_t, pAug, pApp, pYes, isk_non, nsk_non, isN_non, isN_bl, isN_int, isN_str, isN_tup, isN_lst, isN_ref, isN_obj, pTru, pFld, pStar, pMake, pSetF, pIt, pRng1, pRng2, forG, List.map_cons, List.map_nil, List.getElem?_cons_zero, List.getElem?_cons_succ, List.set_cons_zero, List.set_cons_succ, Option.some.injEq, exists_eq_left, exists_eq_left', true_and, and_true, wipeE, D.bl.injEq, D.int.injEq, D.str.injEq, D.tup.injEq, D.lst.injEq, Bool.not_true, decide_eq_true_eq, if_true, if_false, reduceIte, Bool.false_eq_true, Option.isNone_none, Option.isNone_some, Bool.not_false, List.length_nil, List.length_cons, List.nil_append, List.cons_append, D.ref.injEq, SO.lst.injEq, pCall, exists_const, and_self, Nat.zero_add, Nat.zero_le, Nat.reduceLeDiff, Nat.reduceAdd, eq_self, o_add, o_sub, o_mul, o_div, o_mod, o_cmp, o_int, o_lenl, o_lent, o_lens, o_tupl, o_tupt, o_min, o_max, q_int, ixk_tup, ixk_lst, ixk_scr, at0, at1, at2, at3, at4, at5, List.length_map]
    refine ⟨.inl (by decide), ⟨by omega, by omega⟩, .inl (by decide), call_of (p _) ⟨_, is, rfl, hl, .inl (by decide), ⟨by omega, by omega⟩, .inl (by decide), ?_⟩⟩
    refine call_of (p _) ⟨_, is, rfl, hl, ?_⟩
    refine ⟨.inl (by decide), ⟨by omega, by omega⟩, call_of (p _) ⟨_, is, rfl, hl, by rw [List.length_range]; omega, ?_⟩⟩
    have := ih (j + 1) (some (.int (j : Int))) (some (eOp eId (mvF row is j).1)) (some (eOp eId (mvF row is j).2.1)) (by omega) (fun x7 x8 x9 => by
      rw [show j + 1 + n = j + (n + 1) by omega]
      exact h x7 x8 x9)
    rw [List.range_succ, List.map_append, List.map_append] at this
    exact this
def F_law_edit : PFn := fun ds k => ∃ (row : Int) (id : Ln.Id) (is : List Ln.Id), ds = [.int row, eId id, .lst (is.map eId)] ∧ is.length ≤ 1000 ∧ k (eEd (editF row id is))
theorem len_law_edit : ∀ ds k, F_law_edit ds k → ds.length = 3 := by
  rintro _ _ ⟨_, _, _, rfl, _⟩
  rfl
theorem body_law_edit : ∀ ds k, F_law_edit ds k → ps_law_edit { nx := fun _ _ => k .non, rt := fun d S => (d.frz S).noRef = true ∧ k (d.frz S) } (startE 10 ds) [] := by
  rintro _ k ⟨row, id, is, rfl, hl, hk⟩
  rw [start_law_edit]
  unfold ps_law_edit
  have p : ∀ r : Int, pureAll [.int r, .lst (is.map eId)] = true := fun r => by
    simp only [pureAll, show (D.lst (is.map eId)).pure = true from pu_ids is, pu_int, Bool.and_self]
  simp only [pForD, pInsL, pExtA, pSeq, pAsg, pVar, pC, pOp, pNil, pCons, pTup, pLst, pLstM, pNot, pAndV, pOrV, pIf, pB, pAnd, pOr, pNotT, pNoPart, pPart, pCB, pUnN, pSl, pNext, pBreak, pCont, pRet, pRetN, pDrop, pIfS, pgName, pgNil, pgCons, pgTup_t, pAug, pApp, pYes, isk_non, nsk_non, isN_non, isN_bl, isN_int, isN_str, isN_tup, isN_lst, isN_ref, isN_obj, pTru, pFld, pStar, pMake, pSetF, pIt, pRng1, pRng2, forG, List.map_cons, List.map_nil, List.getElem?_cons_zero, List.getElem?_cons_succ, List.set_cons_zero, List.set_cons_succ, Option.some.injEq, exists_eq_left, exists_eq_left', true_and, and_true, wipeE, D.bl.injEq, D.int.injEq, D.str.injEq, D.tup.injEq, D.lst.injEq, Bool.not_true, decide_eq_true_eq, if_true, if_false, reduceIte, Bool.false_eq_true, Option.isNone_none, Option.isNone_some, Bool.not_false, List.length_nil, List.length_cons, List.nil_append, List.cons_append, D.ref.injEq, SO.lst.injEq, pCall, exists_const, and_self, Nat.zero_add, Nat.zero_le, Nat.reduceLeDiff, Nat.reduceAdd, eq_self, o_add, o_sub, o_mul, o_div, o_mod, o_cmp, o_int, o_lenl, o_lent, o_lens, o_tupl, o_tupt, o_min, o_max, q_int, ixk_tup, ixk_lst, ixk_scr, at0, at1, at2, at3, at4, at5, List.length_map]
  refine ⟨⟨by decide, by decide⟩, call_of (p _) ⟨_, is, rfl, hl, by decide, ?_⟩⟩
  unfold editF at hk
  by_cases h0 : row % 6 = 0
  · rw [if_pos h0] at hk ⊢
    refine call_of (p _) ⟨_, is, rfl, hl, ?_⟩
    exact rt_pure (pu_ed (.write id (placeF (row / 6) is) none none (headsA row is))) hk
  rw [if_neg h0] at hk ⊢
  have wr : row % 6 ≤ 3 ∨ is.length = 0 → 0 < (19 : Int) → callk F_law_pick [] [.int (row / 29), .lst (is.map eId)] fun d => callk F_law_heads [] [.int row, .lst (is.map eId)] fun d2 => (D.frz [] (.tup [.str (Str.ofString "write"), eId id, ePl (placeF (row / 6) is), .tup [.int (row / 19 % 3), .int (row / 19 % 3), .int (row / 19 % 3 + 1), .bl false], d, d2])).noRef = true ∧ k (D.frz [] (.tup [.str (Str.ofString "write"), eId id, ePl (placeF (row / 6) is), .tup [.int (row / 19 % 3), .int (row / 19 % 3), .int (row / 19 % 3 + 1), .bl false], d, d2])) := by
    intro hc _
    rw [if_pos hc] at hk
    refine call_of (p _) ⟨_, is, rfl, hl, ?_⟩
    refine call_of (p _) ⟨_, is, rfl, hl, ?_⟩
    exact rt_pure (pu_ed (.write id (placeF (row / 6) is) (some (row / 19 % 3, row / 19 % 3, row / 19 % 3 + 1, false)) (pickF (row / 29) is) (headsA row is))) hk
  by_cases h3 : row % 6 ≤ 3
  · rw [if_pos h3]
    exact ⟨⟨by decide, by decide⟩, by decide, ⟨by decide, by decide⟩, wr (.inl h3) (by decide)⟩
  rw [if_neg h3]
  by_cases he : is.length = 0
  · rw [if_pos (show ((is.length : Nat) : Int) = 0 by omega)]
    exact ⟨⟨by decide, by decide⟩, by decide, ⟨by decide, by decide⟩, wr (.inr he) (by decide)⟩
  rw [if_neg (show ¬ ((is.length : Nat) : Int) = 0 by omega)]
  rw [if_neg (show ¬ (row % 6 ≤ 3 ∨ is.length = 0) from fun z => z.elim h3 he)] at hk
  by_cases h4 : row % 6 = 4
  · rw [if_pos h4] at hk ⊢
    refine ⟨⟨by decide, by decide⟩, call_of (p _) ⟨_, is, rfl, hl, ?_⟩⟩
    exact rt_pure (pu_ed (.drop id (headsA (row / 3) is))) hk
  rw [if_neg h4] at hk ⊢
  have hm := mod_bd (row / 31) 2 (by decide)
  refine for_go (src := .lst (rngD (1 + row / 31 % 2).toNat)) (ds := rngD (1 + row / 31 % 2).toNat) (fun kk h => ?_) (fun S => rfl) ?_
  · simp only [pForD, pInsL, pExtA, pSeq, pAsg, pVar, pC, pOp, pNil, pCons, pTup, pLst, pLstM, pNot, pAndV, pOrV, pIf, pB, pAnd, pOr, pNotT, pNoPart, pPart, pCB, pUnN, pSl, pNext, pBreak, pCont, pRet, pRetN, pDrop, pIfS, pgName, pgNil, pgCons, pgTup_t, pAug, pApp, pYes, isk_non, nsk_non, isN_non, isN_bl, isN_int, isN_str, isN_tup, isN_lst, isN_ref, isN_obj, pTru, pFld, pStar, pMake, pSetF, pIt, pRng1, pRng2, forG, List.map_cons, List.map_nil, List.getElem?_cons_zero, List.getElem?_cons_succ, List.set_cons_zero, List.set_cons_succ, Option.some.injEq, exists_eq_left, exists_eq_left', true_and, and_true, wipeE, D.bl.injEq, D.int.injEq, D.str.injEq, D.tup.injEq, D.lst.injEq, Bool.not_true, decide_eq_true_eq, if_true, if_false, reduceIte, Bool.false_eq_true, Option.isNone_none, Option.isNone_some, Bool.not_false, List.length_nil, List.length_cons, List.nil_append, List.cons_append, D.ref.injEq, SO.lst.injEq, pCall, exists_const, and_self, Nat.zero_add, Nat.zero_le, Nat.reduceLeDiff, Nat.reduceAdd, eq_self, o_add, o_sub, o_mul, o_div, o_mod, o_cmp, o_int, o_lenl, o_lent, o_lens, o_tupl, o_tupt, o_min, o_max, q_int, ixk_tup, ixk_lst, ixk_scr, at0, at1, at2, at3, at4, at5, List.length_map]
    exact ⟨⟨by decide, by decide⟩, by decide, _, rfl, ⟨by omega, by omega⟩, h⟩
  · unfold rngD
    rw [List.range_eq_range']
    refine loop_law_edit row id is hl _ _ _ _ (1 + row / 31 % 2).toNat 0 _ _ _ (by omega) (fun x7 x8 x9 => ?_)
    rw [Nat.zero_add]
    simp only [pForD, pInsL, pExtA, pSeq, pAsg, pVar, pC, pOp, pNil, pCons, pTup, pLst, pLstM, pNot, pAndV, pOrV, pIf, pB, pAnd, pOr, pNotT, pNoPart, pPart, pCB, pUnN, pSl, pNext, pBreak, pCont, pRet, pRetN, pDrop, pIfS, pgName, pgNil, pgCons, pgTup_t, pAug, pApp, pYes, isk_non, nsk_non, isN_non, isN_bl, isN_int, isN_str, isN_tup, isN_lst, isN_ref, isN_obj, pTru, pFld, pStar, pMake, pSetF, pIt, pRng1, pRng2, forG, List.map_cons, List.map_nil, List.getElem?_cons_zero, List.getElem?_cons_succ, List.set_cons_zero, List.set_cons_succ, Option.some.injEq, exists_eq_left, exists_eq_left', true_and, and_true, wipeE, D.bl.injEq, D.int.injEq, D.str.injEq, D.tup.injEq, D.lst.injEq, Bool.not_true, decide_eq_true_eq, if_true, if_false, reduceIte, Bool.false_eq_true, Option.isNone_none, Option.isNone_some, Bool.not_false, List.length_nil, List.length_cons, List.nil_append, List.cons_append, D.ref.injEq, SO.lst.injEq, pCall, exists_const, and_self, Nat.zero_add, Nat.zero_le, Nat.reduceLeDiff, Nat.reduceAdd, eq_self, o_add, o_sub, o_mul, o_div, o_mod, o_cmp, o_int, o_lenl, o_lent, o_lens, o_tupl, o_tupt, o_min, o_max, q_int, ixk_tup, ixk_lst, ixk_scr, at0, at1, at2, at3, at4, at5, List.length_map, o_tupr]
    refine ⟨_, lo_ref rfl, ?_⟩
    exact rt_pure (pu_ed (.move id ((List.range (1 + row / 31 % 2).toNat).map (mvF row is)))) hk
theorem ok_law_edit {P : Program} {w : World} {K : PySem.W.Frag} {cl : Cl} {mg : Str → Option Value} {base : Heap} (D : Df K mg "_law_edit" s_law_edit ["row", "edit_id", "ids"]) (T : Txt K cl mg) (G_law_pick : C8.Cal P w K mg base 1 "_law_pick" (spP K cl F_law_pick) []) (G_law_place : C8.Cal P w K mg base 2 "_law_place" (spP K cl F_law_place) []) (G_law_heads : C8.Cal P w K mg base 2 "_law_heads" (spP K cl F_law_heads) []) : C8.Cal P w K mg base 3 "_law_edit" (spP K cl F_law_edit) [] := by
  refine D.cal sc_law_edit (spP_len (n := 3) len_law_edit) (fun f cdv  A outer s H vs Q E hr h => ?_)
  refine ⟨_,
    (pss_cons (ps_set (i := 3) sc_law_edit.nd rfl (.inl rfl) (C8.pe_c G_law_place hr (by decide) (by rfl) (pa_cons (pe_op op_fdiv (pv 0) pe_int) (pa_cons (pv 2) pa_nil))))
    (pss_cons (ps_set (i := 4) sc_law_edit.nd rfl (.inl rfl) (pe_op op_mod (pe_callTy call_int1 (by rfl) T.n_int (by decide +kernel) (pa_cons (pv 0) pa_nil)) pe_int))
    (pss_cons (ps_if (pt_cmpR (show OpR _ _ (rEqP K) from op_eqP hr.units) (pv 4) pe_int (nomark _))
      (pss_one (ps_ret (pe_tup (pa_cons pe_str (pa_cons (pv 1) (pa_cons (pv 3) (pa_cons pe_non (pa_cons pe_non (pa_cons (C8.pe_c G_law_heads hr (by decide) (by rfl) (pa_cons (pv 0) (pa_cons (pv 2) pa_nil))) pa_nil)))))))))
      pss_nil)
    (pss_cons (ps_if (PW.pt (pw_or (pt_cmpR op_le (pv 4) pe_int (nomark _)) (pw_or1 (pt_cmpR (show OpR _ _ (rEqP K) from op_eqP hr.units) (pe_callB (show CallR _ (.builtin "len") (uLen K) from ucall_len) (by rfl) T.n_len PySem.boot_len (pa_cons (pv 2) pa_nil)) pe_int (nomark _)))))
      (pss_cons (ps_set (i := 5) sc_law_edit.nd rfl (.inl rfl) (pe_op op_mod (pe_callTy call_int1 (by rfl) T.n_int (by decide +kernel) (pa_cons (pe_op op_fdiv (pv 0) pe_int) pa_nil)) pe_int))
      (pss_one (ps_ret (pe_tup (pa_cons pe_str (pa_cons (pv 1) (pa_cons (pv 3) (pa_cons (pe_tup (pa_cons (pv 5) (pa_cons (pv 5) (pa_cons (pe_op (show OpR _ _ (uAdd K) from uop_add) (pv 5) pe_int) (pa_cons pe_bl pa_nil))))) (pa_cons (C8.pe_c G_law_pick hr (by decide) (by rfl) (pa_cons (pe_op op_fdiv (pv 0) pe_int) (pa_cons (pv 2) pa_nil))) (pa_cons (C8.pe_c G_law_heads hr (by decide) (by rfl) (pa_cons (pv 0) (pa_cons (pv 2) pa_nil))) pa_nil))))))))))
      pss_nil)
    (pss_cons (ps_if (pt_cmpR (show OpR _ _ (rEqP K) from op_eqP hr.units) (pv 4) pe_int (nomark _))
      (pss_one (ps_ret (pe_tup (pa_cons pe_str (pa_cons (pv 1) (pa_cons (C8.pe_c G_law_heads hr (by decide) (by rfl) (pa_cons (pe_op op_fdiv (pv 0) pe_int) (pa_cons (pv 2) pa_nil))) pa_nil))))))
      pss_nil)
    (pss_cons (ps_set (i := 6) sc_law_edit.nd rfl (.inl rfl) (pe_lst pa_nil))
    (pss_cons (ps_for PassesOwn.never rfl (pi_range1 (by rfl) T.n_range (pa_cons (pe_op (show OpR _ _ (uAdd K) from uop_add) pe_int (pe_op op_mod (pe_callTy call_int1 (by rfl) T.n_int (by decide +kernel) (pa_cons (pe_op op_fdiv (pv 0) pe_int) pa_nil)) pe_int)) pa_nil)) (pg_name (i := 7) sc_law_edit.nd rfl (Or.inl rfl))
      (pss_cons (ps_set (i := 8) sc_law_edit.nd rfl (.inl rfl) (C8.pe_c G_law_pick hr (by decide) (by rfl) (pa_cons (pe_op (show OpR _ _ (uAdd K) from uop_add) pe_int (pe_op uop_mul pe_int (pe_op op_fdiv (pv 0) (pe_op (show OpR _ _ (uAdd K) from uop_add) (pe_op uop_mul pe_int (pv 7)) pe_int)))) (pa_cons (pv 2) pa_nil))))
      (pss_cons (ps_set (i := 9) sc_law_edit.nd rfl (.inl rfl) (C8.pe_c G_law_pick hr (by decide) (by rfl) (pa_cons (pe_op (show OpR _ _ (uAdd K) from uop_add) pe_int (pe_op uop_mul pe_int (pe_op op_fdiv (pv 0) (pe_op (show OpR _ _ (uAdd K) from uop_add) (pe_op uop_mul pe_int (pv 7)) pe_int)))) (pa_cons (pv 2) pa_nil))))
      (pss_one (ps_expr (pe_bm PySem.F.plainAttrs_list PySem.F.slot_list_append PySem.F.type_list_append mt_append (pv 6) (pa_cons (pe_tup (pa_cons (pv 8) (pa_cons (pv 9) (pa_cons (C8.pe_c G_law_place hr (by decide) (by rfl) (pa_cons (pe_op op_fdiv (pv 0) (pe_op (show OpR _ _ (uAdd K) from uop_add) (pe_op uop_mul pe_int (pv 7)) pe_int)) (pa_cons (pv 2) pa_nil))) pa_nil)))) pa_nil)))))))
    (pss_one (ps_ret (pe_tup (pa_cons pe_str (pa_cons (pv 1) (pa_cons (pe_callTy (show CallR _ (.type "tuple") (uTup K) from call_tuple_of) (by rfl) T.n_tuple (by decide +kernel) (pa_cons (pv 6) pa_nil)) pa_nil))))))))))))), ?_⟩
  exact fn_ok (N := ["row", "edit_id", "ids", "place", "kind", "size", "moved", "j", "head", "line"]) (show SmS K cl _ ps_law_edit from
    (sm_seq (sm_asg (sm_call (sm_cons (sm_op smr_div sm_var sm_int) (sm_cons sm_var sm_nil))) sm_gname)
    (sm_seq (sm_asg (sm_op smr_mod (sm_cb smc_int (sm_cons sm_var sm_nil)) sm_int) sm_gname)
    (sm_seq (sm_ifS (sm_test (sm_op smr_eq sm_var sm_int))
      ((sm_ret (sm_tup (sm_cons sm_str (sm_cons sm_var (sm_cons sm_var (sm_cons sm_non (sm_cons sm_non (sm_cons (sm_call (sm_cons sm_var (sm_cons sm_var sm_nil))) sm_nil)))))))))
      sm_next)
    (sm_seq (sm_ifS (sm_or (sm_test (sm_op smr_cmp sm_var sm_int)) (sm_test (sm_op smr_eq (sm_cb smc_len (sm_cons sm_var sm_nil)) sm_int)))
      (sm_seq (sm_asg (sm_op smr_mod (sm_cb smc_int (sm_cons (sm_op smr_div sm_var sm_int) sm_nil)) sm_int) sm_gname)
      ((sm_ret (sm_tup (sm_cons sm_str (sm_cons sm_var (sm_cons sm_var (sm_cons (sm_tup (sm_cons sm_var (sm_cons sm_var (sm_cons (sm_op smr_add sm_var sm_int) (sm_cons sm_bl sm_nil))))) (sm_cons (sm_call (sm_cons (sm_op smr_div sm_var sm_int) (sm_cons sm_var sm_nil))) (sm_cons (sm_call (sm_cons sm_var (sm_cons sm_var sm_nil))) sm_nil))))))))))
      sm_next)
    (sm_seq (sm_ifS (sm_test (sm_op smr_eq sm_var sm_int))
      ((sm_ret (sm_tup (sm_cons sm_str (sm_cons sm_var (sm_cons (sm_call (sm_cons (sm_op smr_div sm_var sm_int) (sm_cons sm_var sm_nil))) sm_nil))))))
      sm_next)
    (sm_seq (sm_asg (sm_lstM sm_nil) sm_gname)
    (sm_seq (sm_for (sm_rng1 (sm_cons (sm_op smr_add sm_int (sm_op smr_mod (sm_cb smc_int (sm_cons (sm_op smr_div sm_var sm_int) sm_nil)) sm_int)) sm_nil)) sm_gname
      (sm_seq (sm_asg (sm_call (sm_cons (sm_op smr_add sm_int (sm_op smr_mul sm_int (sm_op smr_div sm_var (sm_op smr_add (sm_op smr_mul sm_int sm_var) sm_int)))) (sm_cons sm_var sm_nil))) sm_gname)
      (sm_seq (sm_asg (sm_call (sm_cons (sm_op smr_add sm_int (sm_op smr_mul sm_int (sm_op smr_div sm_var (sm_op smr_add (sm_op smr_mul sm_int sm_var) sm_int)))) (sm_cons sm_var sm_nil))) sm_gname)
      ((sm_app sm_var (sm_tup (sm_cons sm_var (sm_cons sm_var (sm_cons (sm_call (sm_cons (sm_op smr_div sm_var (sm_op smr_add (sm_op smr_mul sm_int sm_var) sm_int)) (sm_cons sm_var sm_nil))) sm_nil)))))))))
    ((sm_ret (sm_tup (sm_cons sm_str (sm_cons sm_var (sm_cons (sm_cb smc_tup (sm_cons sm_var sm_nil)) sm_nil)))))))))))))) body_law_edit h
def pl_law_edits_1 : PSx :=
      (pSeq (pAsg (pTup (pCons (pOp addk (pOp divk (pCB int1k (pCons (pVar 5) pNil)) (pC (.int 2))) (pC (.int 1))) (pCons (pOp modk (pCB int1k (pCons (pVar 5) pNil)) (pC (.int 2))) pNil))) (pgName 6))
      (pSeq (pApp (pVar 3) (pCall F_law_edit (pCons (pOp ixk (pVar 2) (pVar 5)) (pCons (pVar 6) (pCons (pVar 4) pNil)))))
      ((pApp (pVar 4) (pVar 6)))))
def ps_law_edits : PSx :=
    (pSeq (pAsg (pCall F_law_rows (pCons (pVar 0) (pCons (pVar 1) pNil))) (pgName 2))
    (pSeq (pAsg (pLstM pNil) (pgName 3))
    (pSeq (pAsg (pLstM pNil) (pgName 4))
    (pSeq (pFor (pRng1 (pCons (pVar 1) pNil)) (pgName 5) pl_law_edits_1)
    ((pRet (pVar 3)))))))
theorem start_law_edits : ∀ a0 a1 : D, startE 7 [a0, a1] = [some a0, some a1, none, none, none, none, none] := fun _ _ => rfl
theorem loop_law_edits (c0 c1 : D) (rs : List Int) (P : PEnds) : ∀ (n j : Nat) (x1 x2 : Option D), j + n ≤ rs.length → rs.length ≤ 200 →
    (∀ x1 x2, P.nx [some c0, some c1, some (.lst (rs.map D.int)), some (.ref 0), some (.ref 1), x1, x2] [.lst ((editsF rs (j + n)).map eEd), .lst ((idsTo (j + n)).map eId)]) →
    forG (pgName 5) pl_law_edits_1 P ((List.range' j n).map fun (i : Nat) => D.int (i : Int)) [some c0, some c1, some (.lst (rs.map D.int)), some (.ref 0), some (.ref 1), x1, x2] [.lst ((editsF rs j).map eEd), .lst ((idsTo j).map eId)] := by
  intro n
  induction n with
  | zero => exact fun j x1 x2 _ _ h => h x1 x2
  | succ n ih =>
    intro j x1 x2 hj hr h
    rw [List.range'_succ]
    unfold pl_law_edits_1
    have hjl : j < rs.length := by omega
    have lE : (editsF rs j).length = j := by unfold editsF; rw [List.length_map, List.length_range]
    simp only [pForD, pInsL, pExtA, pSeq, pAsg, pVar, pC, pOp, pNil, pCons, pTup, pLst, pLstM, pNot, pAndV, pOrV, pIf, pB, pAnd, pOr, pNotT, pNoPart, pPart, pCB, pUnN, pSl, pNext, pBreak, pCont, pRet, pRetN, pDrop, pIfS, pgName, pgNil, pgCons, pgTup_t, pAug, pApp, pYes, isk_non, nsk_non, isN_non, isN_bl, isN_int, isN_str, isN_tup, isN_lst, isN_ref, isN_obj, pTru, pFld, pStar, pMake, pSetF, pIt, pRng1, pRng2, forG, List.map_cons, List.map_nil, List.getElem?_cons_zero, List.getElem?_cons_succ, List.set_cons_zero, List.set_cons_succ, Option.some.injEq, exists_eq_left, exists_eq_left', true_and, and_true, wipeE, D.bl.injEq, D.int.injEq, D.str.injEq, D.tup.injEq, D.lst.injEq, Bool.not_true, decide_eq_true_eq, if_true, if_false, reduceIte, Bool.false_eq_true, Option.isNone_none, Option.isNone_some, Bool.not_false, List.length_nil, List.length_cons, List.nil_append, List.cons_append, D.ref.injEq, SO.lst.injEq, pCall, exists_const, and_self, Nat.zero_add, Nat.zero_le, Nat.reduceLeDiff, Nat.reduceAdd, eq_self, o_add, o_sub, o_mul, o_div, o_mod, o_cmp, o_int, o_lenl, o_lent, o_lens, o_tupl, o_tupt, o_min, o_max, q_int, ixk_tup, ixk_lst, ixk_scr, at0, at1, at2, at3, at4, at5, List.length_map]
    refine ⟨⟨by decide, by decide⟩, by decide, _, at_map (List.getElem?_eq_getElem hjl), ?_⟩
    have hn : noRefs ([.int rs[j], .tup [.int ((j : Int) / 2 + 1), .int ((j : Int) % 2)], .ref 1].map (rs' [.lst ((editsF rs j).map eEd), .lst ((idsTo j).map eId)])) = true := by
      show noRefs [.int rs[j], .tup [.int ((j : Int) / 2 + 1), .int ((j : Int) % 2)], .lst ((idsTo j).map eId)] = true
      simp only [noRefs, pure_noRef _ (show (D.lst ((idsTo j).map Le.eId)).pure = true from pu_ids _), show (D.int rs[j]).noRef = true from rfl, show (D.tup [.int ((j : Int) / 2 + 1), .int ((j : Int) % 2)]).noRef = true from rfl, Bool.and_self]
    refine ⟨hn, rs[j], idAt j, idsTo j, rfl, by rw [idsTo_len]; omega, .inr (nl_ed _), ?_⟩
    rw [lE, idsTo_len]
    refine ⟨by omega, ?_⟩
    have := ih (j + 1) (some (.int (j : Int))) (some (eId (idAt j))) (by omega) hr (fun x1 x2 => by
      rw [show j + 1 + n = j + (n + 1) by omega]
      exact h x1 x2)
    rw [editsF_up, idsTo_up, List.map_append, List.map_append, List.getD_eq_getElem?_getD, List.getElem?_eq_getElem hjl] at this
    exact ⟨by omega, this⟩
def F_law_edits : PFn := fun ds k => ∃ (ns : List Int) (n : Nat), ds = [.scr (ns.map D.int), .int (n : Int)] ∧ ns.length ≤ 63 ∧ n ≤ 200 ∧ ∀ rs : List Int, rs.length = n → k (.lst ((editsF rs n).map eEd))
theorem len_law_edits : ∀ ds k, F_law_edits ds k → ds.length = 2 := by
  rintro _ _ ⟨_, _, rfl, _⟩
  rfl
theorem body_law_edits : ∀ ds k, F_law_edits ds k → ps_law_edits { nx := fun _ _ => k .non, rt := fun d S => (d.frz S).noRef = true ∧ k (d.frz S) } (startE 7 ds) [] := by
  rintro _ k ⟨ns, n, rfl, hl, hn, hk⟩
  rw [start_law_edits]
  unfold ps_law_edits
  simp only [pForD, pInsL, pExtA, pSeq, pAsg, pVar, pC, pOp, pNil, pCons, pTup, pLst, pLstM, pNot, pAndV, pOrV, pIf, pB, pAnd, pOr, pNotT, pNoPart, pPart, pCB, pUnN, pSl, pNext, pBreak, pCont, pRet, pRetN, pDrop, pIfS, pgName, pgNil, pgCons, pgTup_t, pAug, pApp, pYes, isk_non, nsk_non, isN_non, isN_bl, isN_int, isN_str, isN_tup, isN_lst, isN_ref, isN_obj, pTru, pFld, pStar, pMake, pSetF, pIt, pRng1, pRng2, forG, List.map_cons, List.map_nil, List.getElem?_cons_zero, List.getElem?_cons_succ, List.set_cons_zero, List.set_cons_succ, Option.some.injEq, exists_eq_left, exists_eq_left', true_and, and_true, wipeE, D.bl.injEq, D.int.injEq, D.str.injEq, D.tup.injEq, D.lst.injEq, Bool.not_true, decide_eq_true_eq, if_true, if_false, reduceIte, Bool.false_eq_true, Option.isNone_none, Option.isNone_some, Bool.not_false, List.length_nil, List.length_cons, List.nil_append, List.cons_append, D.ref.injEq, SO.lst.injEq, pCall, exists_const, and_self, Nat.zero_add, Nat.zero_le, Nat.reduceLeDiff, Nat.reduceAdd, eq_self, o_add, o_sub, o_mul, o_div, o_mod, o_cmp, o_int, o_lenl, o_lent, o_lens, o_tupl, o_tupt, o_min, o_max, q_int, ixk_tup, ixk_lst, ixk_scr, at0, at1, at2, at3, at4, at5, List.length_map]
  have p : pureAll [.scr (ns.map D.int), .int (n : Int)] = true := by
    simp only [pureAll, show (D.scr (ns.map D.int)).pure = true from pu_intsL ns, pu_int, Bool.and_self]
  refine call_of p ⟨ns, n, rfl, hl, by omega, fun rs hr h0 => ?_⟩
  refine for_go (src := .lst (rngD n)) (ds := rngD n) (fun kk h => ⟨_, rfl, _, rfl, ⟨by omega, by omega⟩, h⟩) (fun S => rfl) ?_
  unfold rngD
  rw [List.range_eq_range']
  refine loop_law_edits _ _ rs _ n 0 _ _ (by omega) (by omega) (fun x1 x2 => ?_)
  rw [Nat.zero_add]
  simp only [pForD, pInsL, pExtA, pSeq, pAsg, pVar, pC, pOp, pNil, pCons, pTup, pLst, pLstM, pNot, pAndV, pOrV, pIf, pB, pAnd, pOr, pNotT, pNoPart, pPart, pCB, pUnN, pSl, pNext, pBreak, pCont, pRet, pRetN, pDrop, pIfS, pgName, pgNil, pgCons, pgTup_t, pAug, pApp, pYes, isk_non, nsk_non, isN_non, isN_bl, isN_int, isN_str, isN_tup, isN_lst, isN_ref, isN_obj, pTru, pFld, pStar, pMake, pSetF, pIt, pRng1, pRng2, forG, List.map_cons, List.map_nil, List.getElem?_cons_zero, List.getElem?_cons_succ, List.set_cons_zero, List.set_cons_succ, Option.some.injEq, exists_eq_left, exists_eq_left', true_and, and_true, wipeE, D.bl.injEq, D.int.injEq, D.str.injEq, D.tup.injEq, D.lst.injEq, Bool.not_true, decide_eq_true_eq, if_true, if_false, reduceIte, Bool.false_eq_true, Option.isNone_none, Option.isNone_some, Bool.not_false, List.length_nil, List.length_cons, List.nil_append, List.cons_append, D.ref.injEq, SO.lst.injEq, pCall, exists_const, and_self, Nat.zero_add, Nat.zero_le, Nat.reduceLeDiff, Nat.reduceAdd, eq_self, o_add, o_sub, o_mul, o_div, o_mod, o_cmp, o_int, o_lenl, o_lent, o_lens, o_tupl, o_tupt, o_min, o_max, q_int, ixk_tup, ixk_lst, ixk_scr, at0, at1, at2, at3, at4, at5, List.length_map]
  have e : D.frz [.lst ((editsF rs n).map eEd), .lst ((idsTo n).map eId)] (.ref 0) = .lst ((editsF rs n).map eEd) := rfl
  rw [e]
  exact ⟨pure_noRef _ (pu_eds _), hk rs hr⟩
theorem ok_law_edits {P : Program} {w : World} {K : PySem.W.Frag} {cl : Cl} {mg : Str → Option Value} {base : Heap} (D : Df K mg "_law_edits" s_law_edits ["script", "count"]) (T : Txt K cl mg) (G_law_rows : C8.Cal P w K mg base 1 "_law_rows" (spP K cl F_law_rows) []) (G_law_edit : C8.Cal P w K mg base 3 "_law_edit" (spP K cl F_law_edit) []) : C8.Cal P w K mg base 4 "_law_edits" (spP K cl F_law_edits) [] := by
  refine D.cal sc_law_edits (spP_len (n := 2) len_law_edits) (fun f cdv  A outer s H vs Q E hr h => ?_)
  refine ⟨_,
    (pss_cons (ps_set (i := 2) sc_law_edits.nd rfl (.inl rfl) (C8.pe_c G_law_rows hr (by decide) (by rfl) (pa_cons (pv 0) (pa_cons (pv 1) pa_nil))))
    (pss_cons (ps_set (i := 3) sc_law_edits.nd rfl (.inl rfl) (pe_lst pa_nil))
    (pss_cons (ps_set (i := 4) sc_law_edits.nd rfl (.inl rfl) (pe_lst pa_nil))
    (pss_cons (ps_for PassesOwn.never rfl (pi_range1 (by rfl) T.n_range (pa_cons (pv 1) pa_nil)) (pg_name (i := 5) sc_law_edits.nd rfl (Or.inl rfl))
      (pss_cons (ps_set (i := 6) sc_law_edits.nd rfl (.inl rfl) (pe_tup (pa_cons (pe_op (show OpR _ _ (uAdd K) from uop_add) (pe_op op_fdiv (pe_callTy call_int1 (by rfl) T.n_int (by decide +kernel) (pa_cons (pv 5) pa_nil)) pe_int) pe_int) (pa_cons (pe_op op_mod (pe_callTy call_int1 (by rfl) T.n_int (by decide +kernel) (pa_cons (pv 5) pa_nil)) pe_int) pa_nil))))
      (pss_cons (ps_expr (pe_bm PySem.F.plainAttrs_list PySem.F.slot_list_append PySem.F.type_list_append mt_append (pv 3) (pa_cons (C8.pe_c G_law_edit hr (by decide) (by rfl) (pa_cons (pe_ix (show IxR _ (uIx K) from uix) (pv 2) (pv 5) (fun _ _ => rfl)) (pa_cons (pv 6) (pa_cons (pv 4) pa_nil)))) pa_nil)))
      (pss_one (ps_expr (pe_bm PySem.F.plainAttrs_list PySem.F.slot_list_append PySem.F.type_list_append mt_append (pv 4) (pa_cons (pv 6) pa_nil)))))))
    (pss_one (ps_ret (pv 3))))))), ?_⟩
  exact fn_ok (N := ["script", "count", "rows", "edits", "ids", "k", "edit_id"]) (show SmS K cl _ ps_law_edits from
    (sm_seq (sm_asg (sm_call (sm_cons sm_var (sm_cons sm_var sm_nil))) sm_gname)
    (sm_seq (sm_asg (sm_lstM sm_nil) sm_gname)
    (sm_seq (sm_asg (sm_lstM sm_nil) sm_gname)
    (sm_seq (sm_for (sm_rng1 (sm_cons sm_var sm_nil)) sm_gname
      (sm_seq (sm_asg (sm_tup (sm_cons (sm_op smr_add (sm_op smr_div (sm_cb smc_int (sm_cons sm_var sm_nil)) sm_int) sm_int) (sm_cons (sm_op smr_mod (sm_cb smc_int (sm_cons sm_var sm_nil)) sm_int) sm_nil))) sm_gname)
      (sm_seq (sm_app sm_var (sm_call (sm_cons (sm_op smr_ix sm_var sm_var) (sm_cons sm_var (sm_cons sm_var sm_nil)))))
      ((sm_app sm_var sm_var)))))
    ((sm_ret sm_var))))))) body_law_edits h
def ps_law_mark : PSx :=
    (pSeq (pAsg (pOp modk (pCB int1k (pCons (pVar 0) pNil)) (pC (.int 3))) (pgName 1))
    ((pRet (pTup (pCons (pVar 1) (pCons (pVar 1) (pCons (pOp addk (pVar 1) (pC (.int 1))) (pCons (pC (.bl false)) pNil))))))))
theorem start_law_mark : ∀ a0 : D, startE 2 [a0] = [some a0, none] := fun _ => rfl
def markF (r : Int) : Ct := (r % 3, r % 3, r % 3 + 1, false)
def F_law_mark : PFn := fun ds k => ∃ (row : Int), ds = [.int row] ∧ k (eCt (markF row))
theorem len_law_mark : ∀ ds k, F_law_mark ds k → ds.length = 1 := by
  rintro _ _ ⟨_, rfl, _⟩
  rfl
theorem c_law_mark {S : Sto} {k : D → Prop} (row : Int) (hp : noRefs [.int row] = true) (hres : k (eCt (markF row))) : callk F_law_mark S [.int row] k := call_nr hp ⟨row, rfl, hres⟩
theorem body_law_mark : ∀ ds k, F_law_mark ds k → ps_law_mark { nx := fun _ _ => k .non, rt := fun d S => (d.frz S).noRef = true ∧ k (d.frz S) } (startE 2 ds) [] := by
  rintro _ k ⟨row, rfl, hk⟩
  rw [start_law_mark]
  unfold ps_law_mark
  simp only [pForD, pInsL, pExtA, pSeq, pAsg, pVar, pC, pOp, pNil, pCons, pTup, pLst, pLstM, pNot, pAndV, pOrV, pIf, pB, pAnd, pOr, pNotT, pNoPart, pPart, pCB, pUnN, pSl, pNext, pBreak, pCont, pRet, pRetN, pDrop, pIfS, pgName, pgNil, pgCons, pgTup_t, pAug, pApp, pYes, isk_non, nsk_non, isN_non, isN_bl, isN_int, isN_str, isN_tup, isN_lst, isN_ref, isN_obj, pTru, pFld, pStar, pMake, pSetF, pIt, pRng1, pRng2, forG, List.map_cons, List.map_nil, List.getElem?_cons_zero, List.getElem?_cons_succ, List.set_cons_zero, List.set_cons_succ, Option.some.injEq, exists_eq_left, exists_eq_left', true_and, and_true, wipeE, D.bl.injEq, D.int.injEq, D.str.injEq, D.tup.injEq, D.lst.injEq, Bool.not_true, decide_eq_true_eq, if_true, if_false, reduceIte, Bool.false_eq_true, Option.isNone_none, Option.isNone_some, Bool.not_false, List.length_nil, List.length_cons, List.nil_append, List.cons_append, D.ref.injEq, SO.lst.injEq, pCall, exists_const, and_self, Nat.zero_add, Nat.zero_le, Nat.reduceLeDiff, Nat.reduceAdd, eq_self, o_add, o_sub, o_mul, o_div, o_mod, o_cmp, o_int, o_lenl, o_lent, o_lens, o_tupl, o_tupt, o_min, o_max, q_int, ixk_tup, ixk_lst, ixk_scr, at0, at1, at2, at3, at4, at5, List.length_map]
  exact ⟨by decide, rt_pure (d := eCt (markF row)) rfl hk⟩
theorem ok_law_mark {P : Program} {w : World} {K : PySem.W.Frag} {cl : Cl} {mg : Str → Option Value} {base : Heap} (D : Df K mg "_law_mark" s_law_mark ["row"]) (T : Txt K cl mg)  : C8.Cal P w K mg base 1 "_law_mark" (spP K cl F_law_mark) [] := by
  refine D.cal sc_law_mark (spP_len (n := 1) len_law_mark) (fun f cdv  A outer s H vs Q E hr h => ?_)
  refine ⟨_,
    (pss_cons (ps_set (i := 1) sc_law_mark.nd rfl (.inl rfl) (pe_op op_mod (pe_callTy call_int1 (by rfl) T.n_int (by decide +kernel) (pa_cons (pv 0) pa_nil)) pe_int))
    (pss_one (ps_ret (pe_tup (pa_cons (pv 1) (pa_cons (pv 1) (pa_cons (pe_op (show OpR _ _ (uAdd K) from uop_add) (pv 1) pe_int) (pa_cons pe_bl pa_nil)))))))), ?_⟩
  exact fn_ok (N := ["row", "size"]) (show SmS K cl _ ps_law_mark from
    (sm_seq (sm_asg (sm_op smr_mod (sm_cb smc_int (sm_cons sm_var sm_nil)) sm_int) sm_gname)
    ((sm_ret (sm_tup (sm_cons sm_var (sm_cons sm_var (sm_cons (sm_op smr_add sm_var sm_int) (sm_cons sm_bl sm_nil))))))))) body_law_mark h
def ps_law_was : PSx :=
    ((pRet (pMake 4 F_Placed___init (pCons (pVar 1) (pCons (pVar 1) (pCons (pOp addk (pC (.int 1)) (pOp modk (pCB int1k (pCons (pOp divk (pVar 0) (pC (.int 3))) pNil)) (pC (.int 7)))) (pCons (pOp modk (pCB int1k (pCons (pOp divk (pVar 0) (pC (.int 23))) pNil)) (pC (.int 2))) (pCons (pOp modk (pCB int1k (pCons (pOp divk (pVar 0) (pC (.int 47))) pNil)) (pC (.int 2))) (pCons (pVar 2) (pCons (pVar 3) (pCons (pVar 4) (pCons (pOp (cmpk fun i j => decide (j < i)) (pOp modk (pCB int1k (pCons (pOp divk (pVar 0) (pC (.int 97))) pNil)) (pC (.int 3))) (pC (.int 0))) pNil))))))))))))
theorem start_law_was : ∀ a0 a1 a2 a3 a4 : D, startE 5 [a0, a1, a2, a3, a4] = [some a0, some a1, some a2, some a3, some a4] := fun _ _ _ _ _ => rfl
def wasF (row : Int) (p : List Str) (c : Option Ct) (ids : List Ln.Id) (line : Option Ln.Id) : Plc := ⟨p, p, 1 + row / 3 % 7, row / 23 % 2, row / 47 % 2, c, ids, line, decide (0 < row / 97 % 3)⟩
def F_law_was : PFn := fun ds k => ∃ (row : Int) (p : List Str) (c : Option Ct) (ids : List Ln.Id) (line : Option Ln.Id), ds = [.int row, ePath p, eOp eCt c, eIds ids, eOp Le.eId line] ∧ k (ePc (wasF row p c ids line))
theorem len_law_was : ∀ ds k, F_law_was ds k → ds.length = 5 := by
  rintro _ _ ⟨_, _, _, _, _, rfl, _⟩
  rfl
theorem c_law_was {S : Sto} {k : D → Prop} (row : Int) (p : List Str) (c : Option Ct) (ids : List Ln.Id) (line : Option Ln.Id) (hp : noRefs [.int row, ePath p, eOp eCt c, eIds ids, eOp Le.eId line] = true) (hres : k (ePc (wasF row p c ids line))) : callk F_law_was S [.int row, ePath p, eOp eCt c, eIds ids, eOp Le.eId line] k := call_nr hp ⟨row, p, c, ids, line, rfl, hres⟩
theorem rt_pc {S : Sto} {w : Plc} {k : D → Prop} (hk : k (ePc w)) : ((ePc w).frz S).noRef = true ∧ k ((ePc w).frz S) := by
  rw [frz_pc]
  exact ⟨nr_pc w, hk⟩
theorem body_law_was : ∀ ds k, F_law_was ds k → ps_law_was { nx := fun _ _ => k .non, rt := fun d S => (d.frz S).noRef = true ∧ k (d.frz S) } (startE 5 ds) [] := by
  rintro _ k ⟨row, p, c, ids, line, rfl, hk⟩
  rw [start_law_was]
  unfold ps_law_was
  simp only [pForD, pInsL, pExtA, pSeq, pAsg, pVar, pC, pOp, pNil, pCons, pTup, pLst, pLstM, pNot, pAndV, pOrV, pIf, pB, pAnd, pOr, pNotT, pNoPart, pPart, pCB, pUnN, pSl, pNext, pBreak, pCont, pRet, pRetN, pDrop, pIfS, pgName, pgNil, pgCons, pgTup_t, pAug, pApp, pYes, isk_non, nsk_non, isN_non, isN_bl, isN_int, isN_str, isN_tup, isN_lst, isN_ref, isN_obj, pTru, pFld, pStar, pMake, pSetF, pIt, pRng1, pRng2, forG, List.map_cons, List.map_nil, List.getElem?_cons_zero, List.getElem?_cons_succ, List.set_cons_zero, List.set_cons_succ, Option.some.injEq, exists_eq_left, exists_eq_left', true_and, and_true, wipeE, D.bl.injEq, D.int.injEq, D.str.injEq, D.tup.injEq, D.lst.injEq, Bool.not_true, decide_eq_true_eq, if_true, if_false, reduceIte, Bool.false_eq_true, Option.isNone_none, Option.isNone_some, Bool.not_false, List.length_nil, List.length_cons, List.nil_append, List.cons_append, D.ref.injEq, SO.lst.injEq, pCall, exists_const, and_self, Nat.zero_add, Nat.zero_le, Nat.reduceLeDiff, Nat.reduceAdd, eq_self, o_add, o_sub, o_mul, o_div, o_mod, o_cmp, o_int, o_lenl, o_lent, o_lens, o_tupl, o_tupt, o_min, o_max, q_int, ixk_tup, ixk_lst, ixk_scr, at0, at1, at2, at3, at4, at5, List.length_map]
  refine ⟨⟨by decide, by decide⟩, by decide, ⟨by decide, by decide⟩, by decide, ⟨by decide, by decide⟩, by decide, ⟨by decide, by decide⟩, by decide, ?_⟩
  exact mk_pc (e := wasF row p c ids line) (rt_pc hk)
theorem ok_law_was {P : Program} {w : World} {K : PySem.W.Frag} {cl : Cl} {mg : Str → Option Value} {base : Heap} (D : Df K mg "_law_was" s_law_was ["row", "path", "content", "ids", "line"]) (T : Txt K cl mg) (M_Placed : C8.Mak P w K mg base 1 "Placed" (cl 4) (spS K cl F_Placed___init) []) : C8.Cal P w K mg base 3 "_law_was" (spP K cl F_law_was) [] := by
  refine D.cal sc_law_was (spP_len (n := 5) len_law_was) (fun f cdv  A outer s H vs Q E hr h => ?_)
  refine ⟨_,
    (pss_one (ps_ret (C8.pe_mk M_Placed hr (by decide) (by rfl) (pa_cons (pv 1) (pa_cons (pv 1) (pa_cons (pe_op (show OpR _ _ (uAdd K) from uop_add) pe_int (pe_op op_mod (pe_callTy call_int1 (by rfl) T.n_int (by decide +kernel) (pa_cons (pe_op op_fdiv (pv 0) pe_int) pa_nil)) pe_int)) (pa_cons (pe_op op_mod (pe_callTy call_int1 (by rfl) T.n_int (by decide +kernel) (pa_cons (pe_op op_fdiv (pv 0) pe_int) pa_nil)) pe_int) (pa_cons (pe_op op_mod (pe_callTy call_int1 (by rfl) T.n_int (by decide +kernel) (pa_cons (pe_op op_fdiv (pv 0) pe_int) pa_nil)) pe_int) (pa_cons (pv 2) (pa_cons (pv 3) (pa_cons (pv 4) (pa_cons (pe_cmpR op_gt (pe_op op_mod (pe_callTy call_int1 (by rfl) T.n_int (by decide +kernel) (pa_cons (pe_op op_fdiv (pv 0) pe_int) pa_nil)) pe_int) pe_int (nomark _)) pa_nil)))))))))))), ?_⟩
  exact fn_ok (N := ["row", "path", "content", "ids", "line"]) (show SmS K cl _ ps_law_was from
    ((sm_ret (sm_make (sm_cons sm_var (sm_cons sm_var (sm_cons (sm_op smr_add sm_int (sm_op smr_mod (sm_cb smc_int (sm_cons (sm_op smr_div sm_var sm_int) sm_nil)) sm_int)) (sm_cons (sm_op smr_mod (sm_cb smc_int (sm_cons (sm_op smr_div sm_var sm_int) sm_nil)) sm_int) (sm_cons (sm_op smr_mod (sm_cb smc_int (sm_cons (sm_op smr_div sm_var sm_int) sm_nil)) sm_int) (sm_cons sm_var (sm_cons sm_var (sm_cons sm_var (sm_cons (sm_op smr_cmp (sm_op smr_mod (sm_cb smc_int (sm_cons (sm_op smr_div sm_var sm_int) sm_nil)) sm_int) sm_int) sm_nil))))))))))))) body_law_was h
theorem pick1 (r : Int) {is : List Ln.Id} (h : is ≠ []) : ∃ i, pickF (1 + 3 * r) is = some i := by
  have hl : 0 < is.length := List.length_pos_iff.mpr h
  unfold pickF
  rw [if_neg (fun z => z.elim h fun z => by omega)]
  split
  · have h0 := Int.emod_nonneg ((1 + 3 * r) / 3) (show (is.length : Int) ≠ 0 by omega)
    have h1 := Int.emod_lt_of_pos ((1 + 3 * r) / 3) (show (0 : Int) < is.length by omega)
    exact ⟨_, List.getElem?_eq_getElem (by omega)⟩
  · have h0 := Int.emod_nonneg ((1 + 3 * r) / 3) (show min 3 (is.length : Int) ≠ 0 by omega)
    have h1 := Int.emod_lt_of_pos ((1 + 3 * r) / 3) (show (0 : Int) < min 3 (is.length : Int) by omega)
    exact ⟨_, List.getElem?_eq_getElem (by omega)⟩
theorem ids90 (hs : List Ln.Id) : D.lst (hs.map Le.eId ++ [.tup [.int 90, .int 0]]) = .lst ((hs ++ [((90 : Int), (0 : Int))]).map Le.eId) := by
  rw [List.map_append]
  rfl
theorem nin_ids {S : Sto} {x : D} {is : List Ln.Id} {i : Ln.Id} {k : D → Prop} (h : itemsOf S x = some (is.map Le.eId)) (hk : k (.bl (!decide (i ∈ is)))) : nik S (Le.eId i) x k := by
  rw [← any_eid i is] at hk
  cases x with
  | str z => cases h
  | _ => exact ⟨_, h, pu_ids is, pu_id i, de_id i, hk⟩
def pl_law_ids_1 : PSx :=
      (pSeq (pAsg (pCall F_law_pick (pCons (pOp divk (pVar 0) (pOp addk (pOp mulk (pC (.int 7)) (pVar 3)) (pC (.int 3)))) (pCons (pOp addk (pVar 1) (pLst (pCons (pTup (pCons (pC (.int 90)) (pCons (pC (.int 0)) pNil))) pNil))) pNil))) (pgName 4))
      ((pIfS (pAnd (pB (pOp nsk (pVar 4) (pC .non))) (pB (pOp nik (pVar 4) (pVar 2))))
        ((pApp (pVar 2) (pVar 4)))
        pNext)))
theorem pl_law_ids_1_d (P : PEnds) (env : Pw.Env) (S : Sto) : pl_law_ids_1 P env S = (
      (pSeq (pAsg (pCall F_law_pick (pCons (pOp divk (pVar 0) (pOp addk (pOp mulk (pC (.int 7)) (pVar 3)) (pC (.int 3)))) (pCons (pOp addk (pVar 1) (pLst (pCons (pTup (pCons (pC (.int 90)) (pCons (pC (.int 0)) pNil))) pNil))) pNil))) (pgName 4))
      ((pIfS (pAnd (pB (pOp nsk (pVar 4) (pC .non))) (pB (pOp nik (pVar 4) (pVar 2))))
        ((pApp (pVar 2) (pVar 4)))
        pNext)))) P env S := rfl
def ps_law_ids : PSx :=
    (pSeq (pAsg (pLstM pNil) (pgName 2))
    (pSeq (pFor (pRng1 (pCons (pOp modk (pCB int1k (pCons (pVar 0) pNil)) (pC (.int 3))) pNil)) (pgName 3) pl_law_ids_1)
    ((pRet (pCB tupk (pCons (pVar 2) pNil))))))
theorem start_law_ids : ∀ a0 a1 : D, startE 5 [a0, a1] = [some a0, some a1, none, none, none] := fun _ _ => rfl
inductive IId (c0 c1 : Option D) (n : Nat) : Pw.Env → Sto → Prop
  | mk (is : List Ln.Id) (x3 x4 : Option D) (h : is.length ≤ n) : IId c0 c1 n [c0, c1, some (.ref 0), x3, x4] [.lst (is.map Le.eId)]
def F_law_ids : PFn := fun ds k => ∃ (row : Int) (hs : List Ln.Id), ds = [.int row, .lst (hs.map Le.eId)] ∧ hs.length ≤ 900 ∧ ∀ is : List Ln.Id, is.length ≤ 3 → k (eIds is)
theorem len_law_ids : ∀ ds k, F_law_ids ds k → ds.length = 2 := by
  rintro _ _ ⟨_, _, rfl, _⟩
  rfl
theorem body_law_ids : ∀ ds k, F_law_ids ds k → ps_law_ids { nx := fun _ _ => k .non, rt := fun d S => (d.frz S).noRef = true ∧ k (d.frz S) } (startE 5 ds) [] := by
  rintro _ k ⟨row, hs, rfl, hl, hk⟩
  rw [start_law_ids]
  unfold ps_law_ids
  have hm := mod_bd row 3 (by decide)
  simp only [pForD, pInsL, pExtA, pSeq, pAsg, pVar, pC, pOp, pNil, pCons, pTup, pLst, pLstM, pNot, pAndV, pOrV, pIf, pB, pAnd, pOr, pNotT, pNoPart, pPart, pCB, pUnN, pSl, pNext, pBreak, pCont, pRet, pRetN, pDrop, pIfS, pgName, pgNil, pgCons, pgTup_t, pAug, pApp, pYes, isk_non, nsk_non, isN_non, isN_bl, isN_int, isN_str, isN_tup, isN_lst, isN_ref, isN_obj, pTru, pFld, pStar, pMake, pSetF, pIt, pRng1, pRng2, forG, List.map_cons, List.map_nil, List.getElem?_cons_zero, List.getElem?_cons_succ, List.set_cons_zero, List.set_cons_succ, Option.some.injEq, exists_eq_left, exists_eq_left', true_and, and_true, wipeE, D.bl.injEq, D.int.injEq, D.str.injEq, D.tup.injEq, D.lst.injEq, Bool.not_true, decide_eq_true_eq, if_true, if_false, reduceIte, Bool.false_eq_true, Option.isNone_none, Option.isNone_some, Bool.not_false, List.length_nil, List.length_cons, List.nil_append, List.cons_append, D.ref.injEq, SO.lst.injEq, pCall, exists_const, and_self, Nat.zero_add, Nat.zero_le, Nat.reduceLeDiff, Nat.reduceAdd, eq_self, o_add, o_sub, o_mul, o_div, o_mod, o_cmp, o_int, o_lenl, o_lent, o_lens, o_tupl, o_tupt, o_min, o_max, q_int, ixk_tup, ixk_lst, ixk_scr, at0, at1, at2, at3, at4, at5, List.length_map]
  refine for_inv (src := .lst (rngD (row % 3).toNat)) (List.range (row % 3).toNat) (fun (i : Nat) => .int (i : Int)) (fun pre => IId (some (.int row)) (some (.lst (hs.map Le.eId))) pre.length) (fun kk h => ?_) (.mk [] _ _ (Nat.le_refl _)) (fun _ _ _ _ => rfl) (fun i a ha env S' hI => ?_) (fun env S' hI => ?_)
  · simp only [pForD, pInsL, pExtA, pSeq, pAsg, pVar, pC, pOp, pNil, pCons, pTup, pLst, pLstM, pNot, pAndV, pOrV, pIf, pB, pAnd, pOr, pNotT, pNoPart, pPart, pCB, pUnN, pSl, pNext, pBreak, pCont, pRet, pRetN, pDrop, pIfS, pgName, pgNil, pgCons, pgTup_t, pAug, pApp, pYes, isk_non, nsk_non, isN_non, isN_bl, isN_int, isN_str, isN_tup, isN_lst, isN_ref, isN_obj, pTru, pFld, pStar, pMake, pSetF, pIt, pRng1, pRng2, forG, List.map_cons, List.map_nil, List.getElem?_cons_zero, List.getElem?_cons_succ, List.set_cons_zero, List.set_cons_succ, Option.some.injEq, exists_eq_left, exists_eq_left', true_and, and_true, wipeE, D.bl.injEq, D.int.injEq, D.str.injEq, D.tup.injEq, D.lst.injEq, Bool.not_true, decide_eq_true_eq, if_true, if_false, reduceIte, Bool.false_eq_true, Option.isNone_none, Option.isNone_some, Bool.not_false, List.length_nil, List.length_cons, List.nil_append, List.cons_append, D.ref.injEq, SO.lst.injEq, pCall, exists_const, and_self, Nat.zero_add, Nat.zero_le, Nat.reduceLeDiff, Nat.reduceAdd, eq_self, o_add, o_sub, o_mul, o_div, o_mod, o_cmp, o_int, o_lenl, o_lent, o_lens, o_tupl, o_tupt, o_min, o_max, q_int, ixk_tup, ixk_lst, ixk_scr, at0, at1, at2, at3, at4, at5, List.length_map]
    exact ⟨by decide, _, rfl, ⟨by omega, by omega⟩, h⟩
  · obtain ⟨hi, rfl⟩ := List.getElem?_eq_some_iff.mp ha
    rw [List.length_range] at hi
    rw [List.getElem_range, List.length_append, List.length_take, List.length_range, List.length_singleton]
    rw [List.length_take, List.length_range] at hI
    rw [show min i (row % 3).toNat = i by omega] at hI ⊢
    obtain ⟨is, x3, x4, his⟩ := hI
    have stay : ∀ (x3 x4 : Option D), IId (some (.int row)) (some (.lst (hs.map Le.eId))) (i + 1) [some (.int row), some (.lst (hs.map Le.eId)), some (.ref 0), x3, x4] [.lst (is.map Le.eId)] := fun _ _ => .mk is _ _ (by omega)
    have put : ∀ (h : Ln.Id) (x3 x4 : Option D), IId (some (.int row)) (some (.lst (hs.map Le.eId))) (i + 1) [some (.int row), some (.lst (hs.map Le.eId)), some (.ref 0), x3, x4] [.lst (is.map Le.eId ++ [Le.eId h])] := fun h _ _ => by
      rw [show is.map Le.eId ++ [Le.eId h] = (is ++ [h]).map Le.eId by rw [List.map_append]; rfl]
      exact .mk (is ++ [h]) _ _ (by rw [List.length_append, List.length_singleton]; omega)
    generalize IId (some (.int row)) (some (.lst (hs.map Le.eId))) (i + 1) = J at stay put ⊢
    simp only [pForD, pInsL, pExtA, pSeq, pAsg, pVar, pC, pOp, pNil, pCons, pTup, pLst, pLstM, pNot, pAndV, pOrV, pIf, pB, pAnd, pOr, pNotT, pNoPart, pPart, pCB, pUnN, pSl, pNext, pBreak, pCont, pRet, pRetN, pDrop, pIfS, pgName, pgNil, pgCons, pgTup_t, pAug, pApp, pYes, isk_non, nsk_non, isN_non, isN_bl, isN_int, isN_str, isN_tup, isN_lst, isN_ref, isN_obj, pTru, pFld, pStar, pMake, pSetF, pIt, pRng1, pRng2, forG, List.map_cons, List.map_nil, List.getElem?_cons_zero, List.getElem?_cons_succ, List.set_cons_zero, List.set_cons_succ, Option.some.injEq, exists_eq_left, exists_eq_left', true_and, and_true, wipeE, D.bl.injEq, D.int.injEq, D.str.injEq, D.tup.injEq, D.lst.injEq, Bool.not_true, decide_eq_true_eq, if_true, if_false, reduceIte, Bool.false_eq_true, Option.isNone_none, Option.isNone_some, Bool.not_false, List.length_nil, List.length_cons, List.nil_append, List.cons_append, D.ref.injEq, SO.lst.injEq, pCall, exists_const, and_self, Nat.zero_add, Nat.zero_le, Nat.reduceLeDiff, Nat.reduceAdd, eq_self, o_add, o_sub, o_mul, o_div, o_mod, o_cmp, o_int, o_lenl, o_lent, o_lens, o_tupl, o_tupt, o_min, o_max, q_int, ixk_tup, ixk_lst, ixk_scr, at0, at1, at2, at3, at4, at5, List.length_map, pl_law_ids_1_d]
    refine ⟨.inl (by decide), ⟨by omega, by omega⟩, _, _, rfl, rfl, by rw [List.length_map]; show hs.length + 1 ≤ _; omega, ?_⟩
    rw [ids90]
    have p : pureAll [.int (row / (7 * (i : Int) + 3)), .lst ((hs ++ [((90 : Int), (0 : Int))]).map Le.eId)] = true := by
      simp only [pureAll, show (D.lst ((hs ++ [((90 : Int), (0 : Int))]).map Le.eId)).pure = true from pu_ids _, pu_int, Bool.and_self]
    refine call_of p ⟨_, _, rfl, by rw [List.length_append]; show hs.length + 1 ≤ _; omega, ?_⟩
    cases pickF (row / (7 * (i : Int) + 3)) (hs ++ [((90 : Int), (0 : Int))]) with
    | none =>
      simp only [pForD, pInsL, pExtA, pSeq, pAsg, pVar, pC, pOp, pNil, pCons, pTup, pLst, pLstM, pNot, pAndV, pOrV, pIf, pB, pAnd, pOr, pNotT, pNoPart, pPart, pCB, pUnN, pSl, pNext, pBreak, pCont, pRet, pRetN, pDrop, pIfS, pgName, pgNil, pgCons, pgTup_t, pAug, pApp, pYes, isk_non, nsk_non, isN_non, isN_bl, isN_int, isN_str, isN_tup, isN_lst, isN_ref, isN_obj, pTru, pFld, pStar, pMake, pSetF, pIt, pRng1, pRng2, forG, List.map_cons, List.map_nil, List.getElem?_cons_zero, List.getElem?_cons_succ, List.set_cons_zero, List.set_cons_succ, Option.some.injEq, exists_eq_left, exists_eq_left', true_and, and_true, wipeE, D.bl.injEq, D.int.injEq, D.str.injEq, D.tup.injEq, D.lst.injEq, Bool.not_true, decide_eq_true_eq, if_true, if_false, reduceIte, Bool.false_eq_true, Option.isNone_none, Option.isNone_some, Bool.not_false, List.length_nil, List.length_cons, List.nil_append, List.cons_append, D.ref.injEq, SO.lst.injEq, pCall, exists_const, and_self, Nat.zero_add, Nat.zero_le, Nat.reduceLeDiff, Nat.reduceAdd, eq_self, o_add, o_sub, o_mul, o_div, o_mod, o_cmp, o_int, o_lenl, o_lent, o_lens, o_tupl, o_tupt, o_min, o_max, q_int, ixk_tup, ixk_lst, ixk_scr, at0, at1, at2, at3, at4, at5, List.length_map, ln0, ln1, ln2, ln3, ln4, lnS0, lnS2, lnS4, q_id, q_ido, q_oi, q_oid, q_path, q_ln, q_ls, n_id, n_path, n_ln, n_ls, non_oid, non_oln, non_oct, non_id, non_ln, non_ct, non_path, un_ln, un_pl, in_ids, ad_path, eOp_s, eOp_n, lstk_ls, st_ls, fl_Placed_path, fl_Placed_names, fl_Placed_thing, fl_Placed_count, fl_Placed_cuts, fl_Placed_content, fl_Placed_ids, fl_Placed_line, fl_Placed_seen, fl_Shelved_place, fl_Shelved_thing, fl_Shelved_count, fl_Shelved_cuts, fl_Shelved_length, fl_Shelved_purpose]
      exact stay _ _
    | some h =>
      simp only [pForD, pInsL, pExtA, pSeq, pAsg, pVar, pC, pOp, pNil, pCons, pTup, pLst, pLstM, pNot, pAndV, pOrV, pIf, pB, pAnd, pOr, pNotT, pNoPart, pPart, pCB, pUnN, pSl, pNext, pBreak, pCont, pRet, pRetN, pDrop, pIfS, pgName, pgNil, pgCons, pgTup_t, pAug, pApp, pYes, isk_non, nsk_non, isN_non, isN_bl, isN_int, isN_str, isN_tup, isN_lst, isN_ref, isN_obj, pTru, pFld, pStar, pMake, pSetF, pIt, pRng1, pRng2, forG, List.map_cons, List.map_nil, List.getElem?_cons_zero, List.getElem?_cons_succ, List.set_cons_zero, List.set_cons_succ, Option.some.injEq, exists_eq_left, exists_eq_left', true_and, and_true, wipeE, D.bl.injEq, D.int.injEq, D.str.injEq, D.tup.injEq, D.lst.injEq, Bool.not_true, decide_eq_true_eq, if_true, if_false, reduceIte, Bool.false_eq_true, Option.isNone_none, Option.isNone_some, Bool.not_false, List.length_nil, List.length_cons, List.nil_append, List.cons_append, D.ref.injEq, SO.lst.injEq, pCall, exists_const, and_self, Nat.zero_add, Nat.zero_le, Nat.reduceLeDiff, Nat.reduceAdd, eq_self, o_add, o_sub, o_mul, o_div, o_mod, o_cmp, o_int, o_lenl, o_lent, o_lens, o_tupl, o_tupt, o_min, o_max, q_int, ixk_tup, ixk_lst, ixk_scr, at0, at1, at2, at3, at4, at5, List.length_map, ln0, ln1, ln2, ln3, ln4, lnS0, lnS2, lnS4, q_id, q_ido, q_oi, q_oid, q_path, q_ln, q_ls, n_id, n_path, n_ln, n_ls, non_oid, non_oln, non_oct, non_id, non_ln, non_ct, non_path, un_ln, un_pl, in_ids, ad_path, eOp_s, eOp_n, lstk_ls, st_ls, fl_Placed_path, fl_Placed_names, fl_Placed_thing, fl_Placed_count, fl_Placed_cuts, fl_Placed_content, fl_Placed_ids, fl_Placed_line, fl_Placed_seen, fl_Shelved_place, fl_Shelved_thing, fl_Shelved_count, fl_Shelved_cuts, fl_Shelved_length, fl_Shelved_purpose]
      refine nin_ids (is := is) rfl ⟨_, rfl, ?_⟩
      by_cases c : h ∈ is
      · rw [decide_eq_true c]
        exact stay _ _
      · rw [decide_eq_false c]
        exact ⟨by omega, put h _ _⟩
  · rw [List.length_range] at hI
    obtain ⟨is, x3, x4, his⟩ := hI
    simp only [pForD, pInsL, pExtA, pSeq, pAsg, pVar, pC, pOp, pNil, pCons, pTup, pLst, pLstM, pNot, pAndV, pOrV, pIf, pB, pAnd, pOr, pNotT, pNoPart, pPart, pCB, pUnN, pSl, pNext, pBreak, pCont, pRet, pRetN, pDrop, pIfS, pgName, pgNil, pgCons, pgTup_t, pAug, pApp, pYes, isk_non, nsk_non, isN_non, isN_bl, isN_int, isN_str, isN_tup, isN_lst, isN_ref, isN_obj, pTru, pFld, pStar, pMake, pSetF, pIt, pRng1, pRng2, forG, List.map_cons, List.map_nil, List.getElem?_cons_zero, List.getElem?_cons_succ, List.set_cons_zero, List.set_cons_succ, Option.some.injEq, exists_eq_left, exists_eq_left', true_and, and_true, wipeE, D.bl.injEq, D.int.injEq, D.str.injEq, D.tup.injEq, D.lst.injEq, Bool.not_true, decide_eq_true_eq, if_true, if_false, reduceIte, Bool.false_eq_true, Option.isNone_none, Option.isNone_some, Bool.not_false, List.length_nil, List.length_cons, List.nil_append, List.cons_append, D.ref.injEq, SO.lst.injEq, pCall, exists_const, and_self, Nat.zero_add, Nat.zero_le, Nat.reduceLeDiff, Nat.reduceAdd, eq_self, o_add, o_sub, o_mul, o_div, o_mod, o_cmp, o_int, o_lenl, o_lent, o_lens, o_tupl, o_tupt, o_min, o_max, q_int, ixk_tup, ixk_lst, ixk_scr, at0, at1, at2, at3, at4, at5, List.length_map, o_tupr]
    refine ⟨_, lo_ref rfl, ?_⟩
    exact rt_pure (d := eIds is) (pu_idst is) (hk is (by omega))
theorem ok_law_ids {P : Program} {w : World} {K : PySem.W.Frag} {cl : Cl} {mg : Str → Option Value} {base : Heap} (D : Df K mg "_law_ids" s_law_ids ["row", "heads"]) (T : Txt K cl mg) (G_law_pick : C8.Cal P w K mg base 1 "_law_pick" (spP K cl F_law_pick) []) : C8.Cal P w K mg base 2 "_law_ids" (spP K cl F_law_ids) [] := by
  refine D.cal sc_law_ids (spP_len (n := 2) len_law_ids) (fun f cdv  A outer s H vs Q E hr h => ?_)
  refine ⟨_,
    (pss_cons (ps_set (i := 2) sc_law_ids.nd rfl (.inl rfl) (pe_lst pa_nil))
    (pss_cons (ps_for PassesOwn.never rfl (pi_range1 (by rfl) T.n_range (pa_cons (pe_op op_mod (pe_callTy call_int1 (by rfl) T.n_int (by decide +kernel) (pa_cons (pv 0) pa_nil)) pe_int) pa_nil)) (pg_name (i := 3) sc_law_ids.nd rfl (Or.inl rfl))
      (pss_cons (ps_set (i := 4) sc_law_ids.nd rfl (.inl rfl) (C8.pe_c G_law_pick hr (by decide) (by rfl) (pa_cons (pe_op op_fdiv (pv 0) (pe_op (show OpR _ _ (uAdd K) from uop_add) (pe_op uop_mul pe_int (pv 3)) pe_int)) (pa_cons (pe_op (show OpR _ _ (uAdd K) from uop_add) (pv 1) (pe_lst (pa_cons (pe_tup (pa_cons pe_int (pa_cons pe_int pa_nil))) pa_nil))) pa_nil))))
      (pss_one (ps_if (PW.pt (pw_and (pt_cmpR op_notN (pv 4) pe_non (nomark _)) (pw_and1 (pt_cmpR (show OpR _ _ (uNi K) from uop_ni hr.units) (pv 4) (pv 2) (by with_unfolding_all rfl)))))
        (pss_one (ps_expr (pe_bm PySem.F.plainAttrs_list PySem.F.slot_list_append PySem.F.type_list_append mt_append (pv 2) (pa_cons (pv 4) pa_nil))))
        pss_nil))))
    (pss_one (ps_ret (pe_callTy (show CallR _ (.type "tuple") (uTup K) from call_tuple_of) (by rfl) T.n_tuple (by decide +kernel) (pa_cons (pv 2) pa_nil)))))), ?_⟩
  exact fn_ok (N := ["row", "heads", "ids", "j", "head"]) (show SmS K cl _ ps_law_ids from
    (sm_seq (sm_asg (sm_lstM sm_nil) sm_gname)
    (sm_seq (sm_for (sm_rng1 (sm_cons (sm_op smr_mod (sm_cb smc_int (sm_cons sm_var sm_nil)) sm_int) sm_nil)) sm_gname
      (sm_seq (sm_asg (sm_call (sm_cons (sm_op smr_div sm_var (sm_op smr_add (sm_op smr_mul sm_int sm_var) sm_int)) (sm_cons (sm_op smr_add sm_var (sm_lst (sm_cons (sm_tup (sm_cons sm_int (sm_cons sm_int sm_nil))) sm_nil))) sm_nil))) sm_gname)
      ((sm_ifS (sm_and (sm_test (sm_op smr_ns sm_var sm_non)) (sm_test (sm_op smr_ni sm_var sm_var)))
        ((sm_app sm_var sm_var))
        sm_next))))
    ((sm_ret (sm_cb smc_tup (sm_cons sm_var sm_nil))))))) body_law_ids h
def pl_law_purpose_1 : PSx :=
        ((pIfS (pAnd (pB (pOp eqk (pOp ixk (pVar 2) (pC (.int 1))) (pVar 6))) (pB (pOp nsk (pOp ixk (pVar 2) (pC (.int 4))) (pC .non))))
          ((pAsg (pOp ixk (pVar 2) (pC (.int 4))) (pgName 5)))
          pNext))
theorem pl_law_purpose_1_d (P : PEnds) (env : Pw.Env) (S : Sto) : pl_law_purpose_1 P env S = (
        ((pIfS (pAnd (pB (pOp eqk (pOp ixk (pVar 2) (pC (.int 1))) (pVar 6))) (pB (pOp nsk (pOp ixk (pVar 2) (pC (.int 4))) (pC .non))))
          ((pAsg (pOp ixk (pVar 2) (pC (.int 4))) (pgName 5)))
          pNext))) P env S := rfl
def ps_law_purpose : PSx :=
    (pSeq (pAsg (pLc (pIt (pVar 1)) (pgName 2) pYes (pOp ixk (pVar 2) (pC (.int 1))) [2]) (pgName 3))
    (pSeq (pAsg (pOp modk (pCB int1k (pCons (pVar 0) pNil)) (pC (.int 6))) (pgName 4))
    (pSeq (pAsg (pCall F_law_mark (pCons (pOp divk (pVar 0) (pC (.int 6))) pNil)) (pgName 5))
    (pSeq (pIfS (pB (pOp eqk (pVar 4) (pC (.int 0))))
      (pSeq (pAsg (pCall F_law_pick (pCons (pOp addk (pC (.int 1)) (pOp mulk (pC (.int 3)) (pOp divk (pVar 0) (pC (.int 18))))) (pCons (pOp addk (pVar 3) (pLst (pCons (pTup (pCons (pC (.int 90)) (pCons (pC (.int 0)) pNil))) pNil))) pNil))) (pgName 6))
      (pSeq (pFor (pIt (pVar 1)) (pgName 2) pl_law_purpose_1)
      ((pRet (pTup (pCons (pC (.str (Str.ofString "coming"))) (pCons (pVar 6) (pCons (pVar 5) pNil))))))))
      pNext)
    (pSeq (pAsg (pCall F_law_was (pCons (pOp divk (pVar 0) (pC (.int 5))) (pCons (pCall F_law_path (pCons (pOp divk (pVar 0) (pC (.int 29))) (pCons (pC (.int 2)) pNil))) (pCons (pVar 5) (pCons (pCall F_law_ids (pCons (pOp divk (pVar 0) (pC (.int 31))) (pCons (pVar 3) pNil))) (pCons (pC .non) pNil)))))) (pgName 7))
    (pSeq (pIfS (pB (pOp (cmpk fun i j => decide (i ≤ j)) (pVar 4) (pC (.int 3))))
      ((pRet (pTup (pCons (pC (.str (Str.ofString "kept"))) (pCons (pVar 7) pNil)))))
      pNext)
    (pSeq (pIfS (pB (pOp eqk (pVar 4) (pC (.int 4))))
      ((pRet (pTup (pCons (pC (.str (Str.ofString "found"))) (pCons (pVar 7) pNil)))))
      pNext)
    ((pRet (pTup (pCons (pC (.str (Str.ofString "back"))) (pCons (pVar 7) (pCons (pFld "path" [4] (pVar 7)) (pCons (pOp modk (pCB int1k (pCons (pOp divk (pVar 0) (pC (.int 37))) pNil)) (pC (.int 9))) pNil))))))))))))))
theorem start_law_purpose : ∀ a0 a1 : D, startE 8 [a0, a1] = [some a0, some a1, none, none, none, none, none, none] := fun _ _ => rfl
def puW : Pu → Option Plc
  | .com _ _ => none
  | .kept w => some w
  | .found w => some w
  | .back w _ _ => some w
def PuOk (p : Pu) : Prop := ∀ w, puW p = some w → w.ids.length ≤ 1000
def F_law_purpose : PFn := fun ds k => ∃ (row : Int) (ls : List Line), ds = [.int row, eLs ls] ∧ ls.length ≤ 900 ∧ ∀ pu : Pu, PuOk pu → k (ePu pu)
theorem len_law_purpose : ∀ ds k, F_law_purpose ds k → ds.length = 2 := by
  rintro _ _ ⟨_, _, rfl, _⟩
  rfl
inductive IPu (c0 c1 c3 c4 c6 : Option D) : Pw.Env → Sto → Prop
  | mk (x2 : Option D) (m : Ct) : IPu c0 c1 c3 c4 c6 [c0, c1, x2, c3, c4, some (eCt m), c6, none] []
theorem rt_pu {S : Sto} {p : Pu} {k : D → Prop} (hk : k (ePu p)) : ((ePu p).frz S).noRef = true ∧ k ((ePu p).frz S) := by
  have e : (ePu p).frz S = ePu p := by
    cases p with
    | com h m => exact frz_pure S _ rfl
    | kept w =>
      show D.tup [(D.str _).frz S, (ePc w).frz S] = _
      rw [frz_pc]
      rfl
    | found w =>
      show D.tup [(D.str _).frz S, (ePc w).frz S] = _
      rw [frz_pc]
      rfl
    | back w p n =>
      show D.tup [(D.str _).frz S, (ePc w).frz S, (ePath p).frz S, (D.int n).frz S] = _
      rw [frz_pc, frz_pure S _ (pu_path p)]
      rfl
  rw [e]
  exact ⟨nr_pu p, hk⟩
theorem body_law_purpose : ∀ ds k, F_law_purpose ds k → ps_law_purpose { nx := fun _ _ => k .non, rt := fun d S => (d.frz S).noRef = true ∧ k (d.frz S) } (startE 8 ds) [] := by
  rintro _ k ⟨row, ls, rfl, hl, hk⟩
  rw [start_law_purpose]
  unfold ps_law_purpose
  simp only [pForD, pInsL, pExtA, pSeq, pAsg, pVar, pC, pOp, pNil, pCons, pTup, pLst, pLstM, pNot, pAndV, pOrV, pIf, pB, pAnd, pOr, pNotT, pNoPart, pPart, pCB, pUnN, pSl, pNext, pBreak, pCont, pRet, pRetN, pDrop, pIfS, pgName, pgNil, pgCons, pgTup_t, pAug, pApp, pYes, isk_non, nsk_non, isN_non, isN_bl, isN_int, isN_str, isN_tup, isN_lst, isN_ref, isN_obj, pTru, pFld, pStar, pMake, pSetF, pIt, pRng1, pRng2, forG, List.map_cons, List.map_nil, List.getElem?_cons_zero, List.getElem?_cons_succ, List.set_cons_zero, List.set_cons_succ, Option.some.injEq, exists_eq_left, exists_eq_left', true_and, and_true, wipeE, D.bl.injEq, D.int.injEq, D.str.injEq, D.tup.injEq, D.lst.injEq, Bool.not_true, decide_eq_true_eq, if_true, if_false, reduceIte, Bool.false_eq_true, Option.isNone_none, Option.isNone_some, Bool.not_false, List.length_nil, List.length_cons, List.nil_append, List.cons_append, D.ref.injEq, SO.lst.injEq, pCall, exists_const, and_self, Nat.zero_add, Nat.zero_le, Nat.reduceLeDiff, Nat.reduceAdd, eq_self, o_add, o_sub, o_mul, o_div, o_mod, o_cmp, o_int, o_lenl, o_lent, o_lens, o_tupl, o_tupt, o_min, o_max, q_int, ixk_tup, ixk_lst, ixk_scr, at0, at1, at2, at3, at4, at5, List.length_map]
  refine lc_go (src := eLs ls) (as := ls) (enc := eLn) (fun _ => true) (fun l => Le.eId l.hd) (fun kk h => ⟨_, rfl, _, rfl, h⟩) (fun _ => rfl) (by omega) (fun a ha k2 k3 h => ?_) ?_
  · rw [if_pos rfl] at h
    simp only [pForD, pInsL, pExtA, pSeq, pAsg, pVar, pC, pOp, pNil, pCons, pTup, pLst, pLstM, pNot, pAndV, pOrV, pIf, pB, pAnd, pOr, pNotT, pNoPart, pPart, pCB, pUnN, pSl, pNext, pBreak, pCont, pRet, pRetN, pDrop, pIfS, pgName, pgNil, pgCons, pgTup_t, pAug, pApp, pYes, isk_non, nsk_non, isN_non, isN_bl, isN_int, isN_str, isN_tup, isN_lst, isN_ref, isN_obj, pTru, pFld, pStar, pMake, pSetF, pIt, pRng1, pRng2, forG, List.map_cons, List.map_nil, List.getElem?_cons_zero, List.getElem?_cons_succ, List.set_cons_zero, List.set_cons_succ, Option.some.injEq, exists_eq_left, exists_eq_left', true_and, and_true, wipeE, D.bl.injEq, D.int.injEq, D.str.injEq, D.tup.injEq, D.lst.injEq, Bool.not_true, decide_eq_true_eq, if_true, if_false, reduceIte, Bool.false_eq_true, Option.isNone_none, Option.isNone_some, Bool.not_false, List.length_nil, List.length_cons, List.nil_append, List.cons_append, D.ref.injEq, SO.lst.injEq, pCall, exists_const, and_self, Nat.zero_add, Nat.zero_le, Nat.reduceLeDiff, Nat.reduceAdd, eq_self, o_add, o_sub, o_mul, o_div, o_mod, o_cmp, o_int, o_lenl, o_lent, o_lens, o_tupl, o_tupt, o_min, o_max, q_int, ixk_tup, ixk_lst, ixk_scr, at0, at1, at2, at3, at4, at5, List.length_map, ln0, ln1, ln2, ln3, ln4, lnS0, lnS2, lnS4, q_id, q_ido, q_oi, q_oid, q_path, q_ln, q_ls, n_id, n_path, n_ln, n_ls, non_oid, non_oln, non_oct, non_id, non_ln, non_ct, non_path, un_ln, un_pl, in_ids, ad_path, eOp_s, eOp_n, lstk_ls, st_ls, fl_Placed_path, fl_Placed_names, fl_Placed_thing, fl_Placed_count, fl_Placed_cuts, fl_Placed_content, fl_Placed_ids, fl_Placed_line, fl_Placed_seen, fl_Shelved_place, fl_Shelved_thing, fl_Shelved_count, fl_Shelved_cuts, fl_Shelved_length, fl_Shelved_purpose]
    exact h
  rw [flt_all]
  have e0 : ls.map (fun l => Le.eId l.hd) = (ls.map (·.hd)).map Le.eId := by rw [List.map_map]; rfl
  rw [e0]
  refine ⟨by decide, ⟨by decide, by decide⟩, c_law_mark _ rfl ?_⟩
  have hlen : ((ls.map (·.hd)).map Le.eId).length + 1 ≤ 100000 := by rw [List.length_map, List.length_map]; omega
  have hq : (ls.map (·.hd) ++ [((90 : Int), (0 : Int))]).length ≤ 1000 := by rw [List.length_append, List.length_map]; show ls.length + 1 ≤ _; omega
  have p : ∀ r : Int, pureAll [.int r, .lst ((ls.map (·.hd) ++ [((90 : Int), (0 : Int))]).map Le.eId)] = true := fun r => by
    simp only [pureAll, show (D.lst ((ls.map (·.hd) ++ [((90 : Int), (0 : Int))]).map Le.eId)).pure = true from pu_ids _, pu_int, Bool.and_self]
  by_cases h0 : row % 6 = 0
  · rw [if_pos h0]
    refine ⟨⟨by decide, by decide⟩, .inl (by decide), _, _, rfl, rfl, hlen, ?_⟩
    rw [ids90]
    refine call_of (p _) ⟨_, _, rfl, hq, ?_⟩
    obtain ⟨i, hi⟩ := pick1 (row / 18) (is := ls.map (·.hd) ++ [((90 : Int), (0 : Int))]) (by simp)
    rw [hi]
    simp only [pForD, pInsL, pExtA, pSeq, pAsg, pVar, pC, pOp, pNil, pCons, pTup, pLst, pLstM, pNot, pAndV, pOrV, pIf, pB, pAnd, pOr, pNotT, pNoPart, pPart, pCB, pUnN, pSl, pNext, pBreak, pCont, pRet, pRetN, pDrop, pIfS, pgName, pgNil, pgCons, pgTup_t, pAug, pApp, pYes, isk_non, nsk_non, isN_non, isN_bl, isN_int, isN_str, isN_tup, isN_lst, isN_ref, isN_obj, pTru, pFld, pStar, pMake, pSetF, pIt, pRng1, pRng2, forG, List.map_cons, List.map_nil, List.getElem?_cons_zero, List.getElem?_cons_succ, List.set_cons_zero, List.set_cons_succ, Option.some.injEq, exists_eq_left, exists_eq_left', true_and, and_true, wipeE, D.bl.injEq, D.int.injEq, D.str.injEq, D.tup.injEq, D.lst.injEq, Bool.not_true, decide_eq_true_eq, if_true, if_false, reduceIte, Bool.false_eq_true, Option.isNone_none, Option.isNone_some, Bool.not_false, List.length_nil, List.length_cons, List.nil_append, List.cons_append, D.ref.injEq, SO.lst.injEq, pCall, exists_const, and_self, Nat.zero_add, Nat.zero_le, Nat.reduceLeDiff, Nat.reduceAdd, eq_self, o_add, o_sub, o_mul, o_div, o_mod, o_cmp, o_int, o_lenl, o_lent, o_lens, o_tupl, o_tupt, o_min, o_max, q_int, ixk_tup, ixk_lst, ixk_scr, at0, at1, at2, at3, at4, at5, List.length_map, ln0, ln1, ln2, ln3, ln4, lnS0, lnS2, lnS4, q_id, q_ido, q_oi, q_oid, q_path, q_ln, q_ls, n_id, n_path, n_ln, n_ls, non_oid, non_oln, non_oct, non_id, non_ln, non_ct, non_path, un_ln, un_pl, in_ids, ad_path, eOp_s, eOp_n, lstk_ls, st_ls, fl_Placed_path, fl_Placed_names, fl_Placed_thing, fl_Placed_count, fl_Placed_cuts, fl_Placed_content, fl_Placed_ids, fl_Placed_line, fl_Placed_seen, fl_Shelved_place, fl_Shelved_thing, fl_Shelved_count, fl_Shelved_cuts, fl_Shelved_length, fl_Shelved_purpose]
    refine for_inv (src := eLs ls) ls eLn (fun pre => IPu (some (.int row)) (some (eLs ls)) (some (.lst ((ls.map (·.hd)).map Le.eId))) (some (.int (row % 6))) (some (Le.eId i))) (fun kk h => ⟨_, rfl, _, rfl, h⟩) (.mk _ _) (fun _ _ _ _ => rfl) (fun j a ha env S' hI => ?_) (fun env S' hI => ?_)
    · obtain ⟨x2, m⟩ := hI
      have stay : ∀ (x2 : Option D) (m : Ct), IPu (some (.int row)) (some (eLs ls)) (some (.lst ((ls.map (·.hd)).map Le.eId))) (some (.int (row % 6))) (some (Le.eId i)) [some (.int row), some (eLs ls), x2, some (.lst ((ls.map (·.hd)).map Le.eId)), some (.int (row % 6)), some (eCt m), some (Le.eId i), none] [] := fun _ _ => .mk _ _
      generalize IPu (some (.int row)) (some (eLs ls)) (some (.lst ((ls.map (·.hd)).map Le.eId))) (some (.int (row % 6))) (some (Le.eId i)) = J at stay ⊢
      simp only [pForD, pInsL, pExtA, pSeq, pAsg, pVar, pC, pOp, pNil, pCons, pTup, pLst, pLstM, pNot, pAndV, pOrV, pIf, pB, pAnd, pOr, pNotT, pNoPart, pPart, pCB, pUnN, pSl, pNext, pBreak, pCont, pRet, pRetN, pDrop, pIfS, pgName, pgNil, pgCons, pgTup_t, pAug, pApp, pYes, isk_non, nsk_non, isN_non, isN_bl, isN_int, isN_str, isN_tup, isN_lst, isN_ref, isN_obj, pTru, pFld, pStar, pMake, pSetF, pIt, pRng1, pRng2, forG, List.map_cons, List.map_nil, List.getElem?_cons_zero, List.getElem?_cons_succ, List.set_cons_zero, List.set_cons_succ, Option.some.injEq, exists_eq_left, exists_eq_left', true_and, and_true, wipeE, D.bl.injEq, D.int.injEq, D.str.injEq, D.tup.injEq, D.lst.injEq, Bool.not_true, decide_eq_true_eq, if_true, if_false, reduceIte, Bool.false_eq_true, Option.isNone_none, Option.isNone_some, Bool.not_false, List.length_nil, List.length_cons, List.nil_append, List.cons_append, D.ref.injEq, SO.lst.injEq, pCall, exists_const, and_self, Nat.zero_add, Nat.zero_le, Nat.reduceLeDiff, Nat.reduceAdd, eq_self, o_add, o_sub, o_mul, o_div, o_mod, o_cmp, o_int, o_lenl, o_lent, o_lens, o_tupl, o_tupt, o_min, o_max, q_int, ixk_tup, ixk_lst, ixk_scr, at0, at1, at2, at3, at4, at5, List.length_map, ln0, ln1, ln2, ln3, ln4, lnS0, lnS2, lnS4, q_id, q_ido, q_oi, q_oid, q_path, q_ln, q_ls, n_id, n_path, n_ln, n_ls, non_oid, non_oln, non_oct, non_id, non_ln, non_ct, non_path, un_ln, un_pl, in_ids, ad_path, eOp_s, eOp_n, lstk_ls, st_ls, fl_Placed_path, fl_Placed_names, fl_Placed_thing, fl_Placed_count, fl_Placed_cuts, fl_Placed_content, fl_Placed_ids, fl_Placed_line, fl_Placed_seen, fl_Shelved_place, fl_Shelved_thing, fl_Shelved_count, fl_Shelved_cuts, fl_Shelved_length, fl_Shelved_purpose, pl_law_purpose_1_d]
      by_cases c : a.hd = i
      · rw [if_pos c]
        cases hc : a.ct with
        | none =>
          simp only [pForD, pInsL, pExtA, pSeq, pAsg, pVar, pC, pOp, pNil, pCons, pTup, pLst, pLstM, pNot, pAndV, pOrV, pIf, pB, pAnd, pOr, pNotT, pNoPart, pPart, pCB, pUnN, pSl, pNext, pBreak, pCont, pRet, pRetN, pDrop, pIfS, pgName, pgNil, pgCons, pgTup_t, pAug, pApp, pYes, isk_non, nsk_non, isN_non, isN_bl, isN_int, isN_str, isN_tup, isN_lst, isN_ref, isN_obj, pTru, pFld, pStar, pMake, pSetF, pIt, pRng1, pRng2, forG, List.map_cons, List.map_nil, List.getElem?_cons_zero, List.getElem?_cons_succ, List.set_cons_zero, List.set_cons_succ, Option.some.injEq, exists_eq_left, exists_eq_left', true_and, and_true, wipeE, D.bl.injEq, D.int.injEq, D.str.injEq, D.tup.injEq, D.lst.injEq, Bool.not_true, decide_eq_true_eq, if_true, if_false, reduceIte, Bool.false_eq_true, Option.isNone_none, Option.isNone_some, Bool.not_false, List.length_nil, List.length_cons, List.nil_append, List.cons_append, D.ref.injEq, SO.lst.injEq, pCall, exists_const, and_self, Nat.zero_add, Nat.zero_le, Nat.reduceLeDiff, Nat.reduceAdd, eq_self, o_add, o_sub, o_mul, o_div, o_mod, o_cmp, o_int, o_lenl, o_lent, o_lens, o_tupl, o_tupt, o_min, o_max, q_int, ixk_tup, ixk_lst, ixk_scr, at0, at1, at2, at3, at4, at5, List.length_map, ln0, ln1, ln2, ln3, ln4, lnS0, lnS2, lnS4, q_id, q_ido, q_oi, q_oid, q_path, q_ln, q_ls, n_id, n_path, n_ln, n_ls, non_oid, non_oln, non_oct, non_id, non_ln, non_ct, non_path, un_ln, un_pl, in_ids, ad_path, eOp_s, eOp_n, lstk_ls, st_ls, fl_Placed_path, fl_Placed_names, fl_Placed_thing, fl_Placed_count, fl_Placed_cuts, fl_Placed_content, fl_Placed_ids, fl_Placed_line, fl_Placed_seen, fl_Shelved_place, fl_Shelved_thing, fl_Shelved_count, fl_Shelved_cuts, fl_Shelved_length, fl_Shelved_purpose]
          exact stay _ _
        | some m' =>
          simp only [pForD, pInsL, pExtA, pSeq, pAsg, pVar, pC, pOp, pNil, pCons, pTup, pLst, pLstM, pNot, pAndV, pOrV, pIf, pB, pAnd, pOr, pNotT, pNoPart, pPart, pCB, pUnN, pSl, pNext, pBreak, pCont, pRet, pRetN, pDrop, pIfS, pgName, pgNil, pgCons, pgTup_t, pAug, pApp, pYes, isk_non, nsk_non, isN_non, isN_bl, isN_int, isN_str, isN_tup, isN_lst, isN_ref, isN_obj, pTru, pFld, pStar, pMake, pSetF, pIt, pRng1, pRng2, forG, List.map_cons, List.map_nil, List.getElem?_cons_zero, List.getElem?_cons_succ, List.set_cons_zero, List.set_cons_succ, Option.some.injEq, exists_eq_left, exists_eq_left', true_and, and_true, wipeE, D.bl.injEq, D.int.injEq, D.str.injEq, D.tup.injEq, D.lst.injEq, Bool.not_true, decide_eq_true_eq, if_true, if_false, reduceIte, Bool.false_eq_true, Option.isNone_none, Option.isNone_some, Bool.not_false, List.length_nil, List.length_cons, List.nil_append, List.cons_append, D.ref.injEq, SO.lst.injEq, pCall, exists_const, and_self, Nat.zero_add, Nat.zero_le, Nat.reduceLeDiff, Nat.reduceAdd, eq_self, o_add, o_sub, o_mul, o_div, o_mod, o_cmp, o_int, o_lenl, o_lent, o_lens, o_tupl, o_tupt, o_min, o_max, q_int, ixk_tup, ixk_lst, ixk_scr, at0, at1, at2, at3, at4, at5, List.length_map, ln0, ln1, ln2, ln3, ln4, lnS0, lnS2, lnS4, q_id, q_ido, q_oi, q_oid, q_path, q_ln, q_ls, n_id, n_path, n_ln, n_ls, non_oid, non_oln, non_oct, non_id, non_ln, non_ct, non_path, un_ln, un_pl, in_ids, ad_path, eOp_s, eOp_n, lstk_ls, st_ls, fl_Placed_path, fl_Placed_names, fl_Placed_thing, fl_Placed_count, fl_Placed_cuts, fl_Placed_content, fl_Placed_ids, fl_Placed_line, fl_Placed_seen, fl_Shelved_place, fl_Shelved_thing, fl_Shelved_count, fl_Shelved_cuts, fl_Shelved_length, fl_Shelved_purpose]
          exact stay _ _
      · rw [if_neg c]
        exact stay _ _
    · obtain ⟨x2, m⟩ := hI
      simp only [pForD, pInsL, pExtA, pSeq, pAsg, pVar, pC, pOp, pNil, pCons, pTup, pLst, pLstM, pNot, pAndV, pOrV, pIf, pB, pAnd, pOr, pNotT, pNoPart, pPart, pCB, pUnN, pSl, pNext, pBreak, pCont, pRet, pRetN, pDrop, pIfS, pgName, pgNil, pgCons, pgTup_t, pAug, pApp, pYes, isk_non, nsk_non, isN_non, isN_bl, isN_int, isN_str, isN_tup, isN_lst, isN_ref, isN_obj, pTru, pFld, pStar, pMake, pSetF, pIt, pRng1, pRng2, forG, List.map_cons, List.map_nil, List.getElem?_cons_zero, List.getElem?_cons_succ, List.set_cons_zero, List.set_cons_succ, Option.some.injEq, exists_eq_left, exists_eq_left', true_and, and_true, wipeE, D.bl.injEq, D.int.injEq, D.str.injEq, D.tup.injEq, D.lst.injEq, Bool.not_true, decide_eq_true_eq, if_true, if_false, reduceIte, Bool.false_eq_true, Option.isNone_none, Option.isNone_some, Bool.not_false, List.length_nil, List.length_cons, List.nil_append, List.cons_append, D.ref.injEq, SO.lst.injEq, pCall, exists_const, and_self, Nat.zero_add, Nat.zero_le, Nat.reduceLeDiff, Nat.reduceAdd, eq_self, o_add, o_sub, o_mul, o_div, o_mod, o_cmp, o_int, o_lenl, o_lent, o_lens, o_tupl, o_tupt, o_min, o_max, q_int, ixk_tup, ixk_lst, ixk_scr, at0, at1, at2, at3, at4, at5, List.length_map]
      exact rt_pu (p := .com i m) (hk _ fun w hw => by cases hw)
  · rw [if_neg h0]
    refine ⟨⟨by decide, by decide⟩, ⟨by decide, by decide⟩, ?_⟩
    refine call_of rfl ⟨row / 29, 2, rfl, by decide, by decide, ⟨by decide, by decide⟩, ?_⟩
    have p2 : pureAll [.int (row / 31), .lst ((ls.map (·.hd)).map Le.eId)] = true := by
      simp only [pureAll, show (D.lst ((ls.map (·.hd)).map Le.eId)).pure = true from pu_ids _, pu_int, Bool.and_self]
    refine call_of p2 ⟨_, _, rfl, by rw [List.length_map]; omega, fun is his => ?_⟩
    refine c_law_was _ _ (some (markF (row / 6))) is none (by simp only [noRefs, D.noRef, Bool.and_self, Bool.and_true, Bool.true_and, nr_id, nr_oid, nr_oct, nr_path, nr_ln, nr_oln, nr_ls, nr_idst, nr_pl, nr_mv, nr_ed, nr_ct, nr_eds, nr_scr, nr_ints, nr_pc, nr_pu, nr_shv]) ?_
    by_cases h3 : row % 6 ≤ 3
    · rw [if_pos h3]
      exact rt_pu (p := .kept _) (hk _ fun w hw => by cases hw; show is.length ≤ 1000; omega)
    · rw [if_neg h3]
      by_cases h4 : row % 6 = 4
      · rw [if_pos h4]
        exact rt_pu (p := .found _) (hk _ fun w hw => by cases hw; show is.length ≤ 1000; omega)
      · rw [if_neg h4]
        simp only [pForD, pInsL, pExtA, pSeq, pAsg, pVar, pC, pOp, pNil, pCons, pTup, pLst, pLstM, pNot, pAndV, pOrV, pIf, pB, pAnd, pOr, pNotT, pNoPart, pPart, pCB, pUnN, pSl, pNext, pBreak, pCont, pRet, pRetN, pDrop, pIfS, pgName, pgNil, pgCons, pgTup_t, pAug, pApp, pYes, isk_non, nsk_non, isN_non, isN_bl, isN_int, isN_str, isN_tup, isN_lst, isN_ref, isN_obj, pTru, pFld, pStar, pMake, pSetF, pIt, pRng1, pRng2, forG, List.map_cons, List.map_nil, List.getElem?_cons_zero, List.getElem?_cons_succ, List.set_cons_zero, List.set_cons_succ, Option.some.injEq, exists_eq_left, exists_eq_left', true_and, and_true, wipeE, D.bl.injEq, D.int.injEq, D.str.injEq, D.tup.injEq, D.lst.injEq, Bool.not_true, decide_eq_true_eq, if_true, if_false, reduceIte, Bool.false_eq_true, Option.isNone_none, Option.isNone_some, Bool.not_false, List.length_nil, List.length_cons, List.nil_append, List.cons_append, D.ref.injEq, SO.lst.injEq, pCall, exists_const, and_self, Nat.zero_add, Nat.zero_le, Nat.reduceLeDiff, Nat.reduceAdd, eq_self, o_add, o_sub, o_mul, o_div, o_mod, o_cmp, o_int, o_lenl, o_lent, o_lens, o_tupl, o_tupt, o_min, o_max, q_int, ixk_tup, ixk_lst, ixk_scr, at0, at1, at2, at3, at4, at5, List.length_map, ln0, ln1, ln2, ln3, ln4, lnS0, lnS2, lnS4, q_id, q_ido, q_oi, q_oid, q_path, q_ln, q_ls, n_id, n_path, n_ln, n_ls, non_oid, non_oln, non_oct, non_id, non_ln, non_ct, non_path, un_ln, un_pl, in_ids, ad_path, eOp_s, eOp_n, lstk_ls, st_ls, fl_Placed_path, fl_Placed_names, fl_Placed_thing, fl_Placed_count, fl_Placed_cuts, fl_Placed_content, fl_Placed_ids, fl_Placed_line, fl_Placed_seen, fl_Shelved_place, fl_Shelved_thing, fl_Shelved_count, fl_Shelved_cuts, fl_Shelved_length, fl_Shelved_purpose]
        exact ⟨⟨by decide, by decide⟩, by decide, rt_pu (p := .back _ _ _) (hk _ fun w hw => by cases hw; show is.length ≤ 1000; omega)⟩
theorem ok_law_purpose {P : Program} {w : World} {K : PySem.W.Frag} {cl : Cl} {mg : Str → Option Value} {base : Heap} (D : Df K mg "_law_purpose" s_law_purpose ["row", "lines"]) (T : Txt K cl mg) (G_law_path : C8.Cal P w K mg base 1 "_law_path" (spP K cl F_law_path) []) (G_law_pick : C8.Cal P w K mg base 1 "_law_pick" (spP K cl F_law_pick) []) (G_law_mark : C8.Cal P w K mg base 1 "_law_mark" (spP K cl F_law_mark) []) (G_law_was : C8.Cal P w K mg base 3 "_law_was" (spP K cl F_law_was) []) (G_law_ids : C8.Cal P w K mg base 2 "_law_ids" (spP K cl F_law_ids) []) : C8.Cal P w K mg base 4 "_law_purpose" (spP K cl F_law_purpose) [] := by
  refine D.cal sc_law_purpose (spP_len (n := 2) len_law_purpose) (fun f cdv  A outer s H vs Q E hr h => ?_)
  refine ⟨_,
    (pss_cons (ps_setLc (i := 3) (own := [("line", 2)]) (g := gName 2) (tt := tYes) rfl sc_law_purpose.nd rfl rfl (sw_true rfl rfl rfl (by decide +kernel)) (show PI _ _ _ (uIt K _) from upi (pv 1)) (blkOk_by (own := [("line", 2)]) (N := ["row", "lines", "line", "heads", "kind", "mark", "head", "was"]) (sc := defScope s_law_purpose) (by decide +kernel)) (fun _ _ _ _ _ => (pg_name (i := 2) sc_law_purpose.nd rfl (Or.inl rfl))) (fun _ _ _ _ _ => pts_nil) (fun _ _ _ _ _ => (pe_ix (show IxR _ (uIx K) from uix) (pv 2) pe_int (fun _ _ => rfl))))
    (pss_cons (ps_set (i := 4) sc_law_purpose.nd rfl (.inl rfl) (pe_op op_mod (pe_callTy call_int1 (by rfl) T.n_int (by decide +kernel) (pa_cons (pv 0) pa_nil)) pe_int))
    (pss_cons (ps_set (i := 5) sc_law_purpose.nd rfl (.inl rfl) (C8.pe_c G_law_mark hr (by decide) (by rfl) (pa_cons (pe_op op_fdiv (pv 0) pe_int) pa_nil)))
    (pss_cons (ps_if (pt_cmpR (show OpR _ _ (rEqP K) from op_eqP hr.units) (pv 4) pe_int (nomark _))
      (pss_cons (ps_set (i := 6) sc_law_purpose.nd rfl (.inl rfl) (C8.pe_c G_law_pick hr (by decide) (by rfl) (pa_cons (pe_op (show OpR _ _ (uAdd K) from uop_add) pe_int (pe_op uop_mul pe_int (pe_op op_fdiv (pv 0) pe_int))) (pa_cons (pe_op (show OpR _ _ (uAdd K) from uop_add) (pv 3) (pe_lst (pa_cons (pe_tup (pa_cons pe_int (pa_cons pe_int pa_nil))) pa_nil))) pa_nil))))
      (pss_cons (ps_for PassesOwn.never rfl (show PI _ _ _ (uIt K _) from upi (pv 1)) (pg_name (i := 2) sc_law_purpose.nd rfl (Or.inl rfl))
        (pss_one (ps_if (PW.pt (pw_and (pt_cmpR (show OpR _ _ (rEqP K) from op_eqP hr.units) (pe_ix (show IxR _ (uIx K) from uix) (pv 2) pe_int (fun _ _ => rfl)) (pv 6) (nomark _)) (pw_and1 (pt_cmpR op_notN (pe_ix (show IxR _ (uIx K) from uix) (pv 2) pe_int (fun _ _ => rfl)) pe_non (nomark _)))))
          (pss_one (ps_set (i := 5) sc_law_purpose.nd rfl (.inl rfl) (pe_ix (show IxR _ (uIx K) from uix) (pv 2) pe_int (fun _ _ => rfl))))
          pss_nil)))
      (pss_one (ps_ret (pe_tup (pa_cons pe_str (pa_cons (pv 6) (pa_cons (pv 5) pa_nil))))))))
      pss_nil)
    (pss_cons (ps_set (i := 7) sc_law_purpose.nd rfl (.inl rfl) (C8.pe_c G_law_was hr (by decide) (by rfl) (pa_cons (pe_op op_fdiv (pv 0) pe_int) (pa_cons (C8.pe_c G_law_path hr (by decide) (by rfl) (pa_cons (pe_op op_fdiv (pv 0) pe_int) (pa_cons pe_int pa_nil))) (pa_cons (pv 5) (pa_cons (C8.pe_c G_law_ids hr (by decide) (by rfl) (pa_cons (pe_op op_fdiv (pv 0) pe_int) (pa_cons (pv 3) pa_nil))) (pa_cons pe_non pa_nil)))))))
    (pss_cons (ps_if (pt_cmpR op_le (pv 4) pe_int (nomark _))
      (pss_one (ps_ret (pe_tup (pa_cons pe_str (pa_cons (pv 7) pa_nil)))))
      pss_nil)
    (pss_cons (ps_if (pt_cmpR (show OpR _ _ (rEqP K) from op_eqP hr.units) (pv 4) pe_int (nomark _))
      (pss_one (ps_ret (pe_tup (pa_cons pe_str (pa_cons (pv 7) pa_nil)))))
      pss_nil)
    (pss_one (ps_ret (pe_tup (pa_cons pe_str (pa_cons (pv 7) (pa_cons (show PE _ _ (tFld K _ "path") from pe_fld (pv 7) rfl) (pa_cons (pe_op op_mod (pe_callTy call_int1 (by rfl) T.n_int (by decide +kernel) (pa_cons (pe_op op_fdiv (pv 0) pe_int) pa_nil)) pe_int) pa_nil)))))))))))))), ?_⟩
  exact fn_ok (N := ["row", "lines", "line", "heads", "kind", "mark", "head", "was"]) (show SmS K cl _ ps_law_purpose from
    (sm_seq (sm_asg (sm_lc (sm_it sm_var) (gok_name (by decide)) sm_gname sm_yes (sm_op smr_ix sm_var sm_int)) sm_gname)
    (sm_seq (sm_asg (sm_op smr_mod (sm_cb smc_int (sm_cons sm_var sm_nil)) sm_int) sm_gname)
    (sm_seq (sm_asg (sm_call (sm_cons (sm_op smr_div sm_var sm_int) sm_nil)) sm_gname)
    (sm_seq (sm_ifS (sm_test (sm_op smr_eq sm_var sm_int))
      (sm_seq (sm_asg (sm_call (sm_cons (sm_op smr_add sm_int (sm_op smr_mul sm_int (sm_op smr_div sm_var sm_int))) (sm_cons (sm_op smr_add sm_var (sm_lst (sm_cons (sm_tup (sm_cons sm_int (sm_cons sm_int sm_nil))) sm_nil))) sm_nil))) sm_gname)
      (sm_seq (sm_for (sm_it sm_var) sm_gname
        ((sm_ifS (sm_and (sm_test (sm_op smr_eq (sm_op smr_ix sm_var sm_int) sm_var)) (sm_test (sm_op smr_ns (sm_op smr_ix sm_var sm_int) sm_non)))
          ((sm_asg (sm_op smr_ix sm_var sm_int) sm_gname))
          sm_next)))
      ((sm_ret (sm_tup (sm_cons sm_str (sm_cons sm_var (sm_cons sm_var sm_nil))))))))
      sm_next)
    (sm_seq (sm_asg (sm_call (sm_cons (sm_op smr_div sm_var sm_int) (sm_cons (sm_call (sm_cons (sm_op smr_div sm_var sm_int) (sm_cons sm_int sm_nil))) (sm_cons sm_var (sm_cons (sm_call (sm_cons (sm_op smr_div sm_var sm_int) (sm_cons sm_var sm_nil))) (sm_cons sm_non sm_nil)))))) sm_gname)
    (sm_seq (sm_ifS (sm_test (sm_op smr_cmp sm_var sm_int))
      ((sm_ret (sm_tup (sm_cons sm_str (sm_cons sm_var sm_nil)))))
      sm_next)
    (sm_seq (sm_ifS (sm_test (sm_op smr_eq sm_var sm_int))
      ((sm_ret (sm_tup (sm_cons sm_str (sm_cons sm_var sm_nil)))))
      sm_next)
    ((sm_ret (sm_tup (sm_cons sm_str (sm_cons sm_var (sm_cons (sm_fld T.hc_path sm_var) (sm_cons (sm_op smr_mod (sm_cb smc_int (sm_cons (sm_op smr_div sm_var sm_int) sm_nil)) sm_int) sm_nil))))))))))))))) body_law_purpose h
def pl_law_shelf_1 : PSx :=
      (pSeq (pAsg (pOp ixk (pVar 0) (pVar 3)) (pgName 4))
      (pSeq (pAsg (pOp modk (pCB int1k (pCons (pOp divk (pVar 4) (pC (.int 2))) pNil)) (pC (.int 8))) (pgName 5))
      (pSeq (pAsg (pCall F_law_purpose (pCons (pOp divk (pVar 4) (pC (.int 64))) (pCons (pVar 1) pNil))) (pgName 6))
      (pSeq (pAsg (pOp ixk (pLst (pCons (pC (.int 0)) (pCons (pOp modk (pCB int1k (pCons (pOp divk (pVar 4) (pC (.int 32))) pNil)) (pC (.int 4))) pNil))) (pCB int1k (pCons (pOp (cmpk fun i j => decide (j < i)) (pVar 5) (pC (.int 0))) pNil))) (pgName 7))
      ((pApp (pVar 2) (pMake 5 F_Shelved___init (pCons (pOp addk (pOp mulk (pC (.int 2)) (pVar 3)) (pC (.int 1))) (pCons (pVar 5) (pCons (pOp modk (pCB int1k (pCons (pOp divk (pVar 4) (pC (.int 16))) pNil)) (pC (.int 2))) (pCons (pC (.int 0)) (pCons (pVar 7) (pCons (pVar 6) pNil)))))))))))))
theorem pl_law_shelf_1_d (P : PEnds) (env : Pw.Env) (S : Sto) : pl_law_shelf_1 P env S = (
      (pSeq (pAsg (pOp ixk (pVar 0) (pVar 3)) (pgName 4))
      (pSeq (pAsg (pOp modk (pCB int1k (pCons (pOp divk (pVar 4) (pC (.int 2))) pNil)) (pC (.int 8))) (pgName 5))
      (pSeq (pAsg (pCall F_law_purpose (pCons (pOp divk (pVar 4) (pC (.int 64))) (pCons (pVar 1) pNil))) (pgName 6))
      (pSeq (pAsg (pOp ixk (pLst (pCons (pC (.int 0)) (pCons (pOp modk (pCB int1k (pCons (pOp divk (pVar 4) (pC (.int 32))) pNil)) (pC (.int 4))) pNil))) (pCB int1k (pCons (pOp (cmpk fun i j => decide (j < i)) (pVar 5) (pC (.int 0))) pNil))) (pgName 7))
      ((pApp (pVar 2) (pMake 5 F_Shelved___init (pCons (pOp addk (pOp mulk (pC (.int 2)) (pVar 3)) (pC (.int 1))) (pCons (pVar 5) (pCons (pOp modk (pCB int1k (pCons (pOp divk (pVar 4) (pC (.int 16))) pNil)) (pC (.int 2))) (pCons (pC (.int 0)) (pCons (pVar 7) (pCons (pVar 6) pNil)))))))))))))) P env S := rfl
def ps_law_shelf : PSx :=
    (pSeq (pAsg (pLstM pNil) (pgName 2))
    (pSeq (pFor (pRng1 (pCons (pCB lenk (pCons (pVar 0) pNil)) pNil)) (pgName 3) pl_law_shelf_1)
    ((pRet (pVar 2)))))
theorem start_law_shelf : ∀ a0 a1 : D, startE 8 [a0, a1] = [some a0, some a1, none, none, none, none, none, none] := fun _ _ => rfl
inductive ISh (S0 : Sto) (c0 c1 : Option D) (n : Nat) : Pw.Env → Sto → Prop
  | mk (ss : List Shv) (x3 x4 x5 x6 x7 : Option D) (h : ss.length = n) (hp : ∀ (j : Nat) s, ss[j]? = some s → s.place = 2 * (j : Int) + 1) (hu : ∀ s ∈ ss, PuOk s.pu) : ISh S0 c0 c1 n [c0, c1, some (.ref S0.length), x3, x4, x5, x6, x7] (S0 ++ [.lst (ss.map eShv)])
def F_law_shelf : PFn := fun ds k => ∃ (rs : List Int) (ls : List Line), ds = [.lst (rs.map D.int), eLs ls] ∧ rs.length ≤ 1000 ∧ ls.length ≤ 900 ∧ ∀ ss : List Shv, ss.length = rs.length → (∀ (j : Nat) s, ss[j]? = some s → s.place = 2 * (j : Int) + 1) → (∀ s ∈ ss, PuOk s.pu) → k (.lst (ss.map eShv))
theorem len_law_shelf : ∀ ds k, F_law_shelf ds k → ds.length = 2 := by
  rintro _ _ ⟨_, _, rfl, _⟩
  rfl
theorem frz_shv (S : Sto) (s : Shv) : (eShv s).frz S = eShv s := by
  have h : (ePu s.pu).frz S = ePu s.pu := (rt_pu (S := S) (p := s.pu) (k := fun d => d = ePu s.pu → True) fun _ => trivial) |> fun _ => by
    cases s.pu with
    | com h m => exact frz_pure S _ rfl
    | kept w =>
      show D.tup [(D.str _).frz S, (ePc w).frz S] = _
      rw [frz_pc]
      rfl
    | found w =>
      show D.tup [(D.str _).frz S, (ePc w).frz S] = _
      rw [frz_pc]
      rfl
    | back w p n =>
      show D.tup [(D.str _).frz S, (ePc w).frz S, (ePath p).frz S, (D.int n).frz S] = _
      rw [frz_pc, frz_pure S _ (pu_path p)]
      rfl
  show D.obj 5 shKs [.int s.place, .int s.thing, .int s.count, .int s.cuts, .int s.length, (ePu s.pu).frz S] = _
  rw [h]
  rfl
theorem body_law_shelf : ∀ ds k, F_law_shelf ds k → ps_law_shelf { nx := fun _ _ => k .non, rt := fun d S => (d.frz S).noRef = true ∧ k (d.frz S) } (startE 8 ds) [] := by
  rintro _ k ⟨rs, ls, rfl, hr, hl, hk⟩
  rw [start_law_shelf]
  unfold ps_law_shelf
  simp only [pForD, pInsL, pExtA, pSeq, pAsg, pVar, pC, pOp, pNil, pCons, pTup, pLst, pLstM, pNot, pAndV, pOrV, pIf, pB, pAnd, pOr, pNotT, pNoPart, pPart, pCB, pUnN, pSl, pNext, pBreak, pCont, pRet, pRetN, pDrop, pIfS, pgName, pgNil, pgCons, pgTup_t, pAug, pApp, pYes, isk_non, nsk_non, isN_non, isN_bl, isN_int, isN_str, isN_tup, isN_lst, isN_ref, isN_obj, pTru, pFld, pStar, pMake, pSetF, pIt, pRng1, pRng2, forG, List.map_cons, List.map_nil, List.getElem?_cons_zero, List.getElem?_cons_succ, List.set_cons_zero, List.set_cons_succ, Option.some.injEq, exists_eq_left, exists_eq_left', true_and, and_true, wipeE, D.bl.injEq, D.int.injEq, D.str.injEq, D.tup.injEq, D.lst.injEq, Bool.not_true, decide_eq_true_eq, if_true, if_false, reduceIte, Bool.false_eq_true, Option.isNone_none, Option.isNone_some, Bool.not_false, List.length_nil, List.length_cons, List.nil_append, List.cons_append, D.ref.injEq, SO.lst.injEq, pCall, exists_const, and_self, Nat.zero_add, Nat.zero_le, Nat.reduceLeDiff, Nat.reduceAdd, eq_self, o_add, o_sub, o_mul, o_div, o_mod, o_cmp, o_int, o_lenl, o_lent, o_lens, o_tupl, o_tupt, o_min, o_max, q_int, ixk_tup, ixk_lst, ixk_scr, at0, at1, at2, at3, at4, at5, List.length_map]
  refine for_inv (src := .lst (rngD rs.length)) (List.range rs.length) (fun (i : Nat) => .int (i : Int)) (fun pre => ISh [] (some (.lst (rs.map D.int))) (some (eLs ls)) pre.length) (fun kk h => ?_) (.mk [] _ _ _ _ _ rfl (fun j s h => by cases h) fun s h => by cases h) (fun _ _ _ _ => rfl) (fun i a ha env S' hI => ?_) (fun env S' hI => ?_)
  · simp only [pForD, pInsL, pExtA, pSeq, pAsg, pVar, pC, pOp, pNil, pCons, pTup, pLst, pLstM, pNot, pAndV, pOrV, pIf, pB, pAnd, pOr, pNotT, pNoPart, pPart, pCB, pUnN, pSl, pNext, pBreak, pCont, pRet, pRetN, pDrop, pIfS, pgName, pgNil, pgCons, pgTup_t, pAug, pApp, pYes, isk_non, nsk_non, isN_non, isN_bl, isN_int, isN_str, isN_tup, isN_lst, isN_ref, isN_obj, pTru, pFld, pStar, pMake, pSetF, pIt, pRng1, pRng2, forG, List.map_cons, List.map_nil, List.getElem?_cons_zero, List.getElem?_cons_succ, List.set_cons_zero, List.set_cons_succ, Option.some.injEq, exists_eq_left, exists_eq_left', true_and, and_true, wipeE, D.bl.injEq, D.int.injEq, D.str.injEq, D.tup.injEq, D.lst.injEq, Bool.not_true, decide_eq_true_eq, if_true, if_false, reduceIte, Bool.false_eq_true, Option.isNone_none, Option.isNone_some, Bool.not_false, List.length_nil, List.length_cons, List.nil_append, List.cons_append, D.ref.injEq, SO.lst.injEq, pCall, exists_const, and_self, Nat.zero_add, Nat.zero_le, Nat.reduceLeDiff, Nat.reduceAdd, eq_self, o_add, o_sub, o_mul, o_div, o_mod, o_cmp, o_int, o_lenl, o_lent, o_lens, o_tupl, o_tupt, o_min, o_max, q_int, ixk_tup, ixk_lst, ixk_scr, at0, at1, at2, at3, at4, at5, List.length_map]
    exact ⟨_, rfl, ⟨by omega, by omega⟩, h⟩
  · obtain ⟨hi, rfl⟩ := List.getElem?_eq_some_iff.mp ha
    rw [List.length_range] at hi
    rw [List.getElem_range, List.length_append, List.length_take, List.length_range, List.length_singleton]
    rw [List.length_take, List.length_range] at hI
    rw [show min i rs.length = i by omega] at hI ⊢
    obtain ⟨ss, x3, x4, x5, x6, x7, hss, hp, hu⟩ := hI
    have put : ∀ (s : Shv) (x3 x4 x5 x6 x7 : Option D), s.place = 2 * (i : Int) + 1 → PuOk s.pu → ISh [] (some (.lst (rs.map D.int))) (some (eLs ls)) (i + 1) [some (.lst (rs.map D.int)), some (eLs ls), some (.ref 0), x3, x4, x5, x6, x7] [SO.lst (ss.map eShv ++ [eShv s])]   := fun s _ _ _ _ _ hs hus => by
      rw [show ss.map eShv ++ [eShv s] = (ss ++ [s]).map eShv by rw [List.map_append]; rfl]
      refine .mk (S0 := []) (ss ++ [s]) _ _ _ _ _ (by rw [List.length_append, List.length_singleton]; omega) (fun j s' hj => ?_) fun v hv => (List.mem_append.mp hv).elim (hu v) fun z => by rw [List.mem_singleton.mp z]; exact hus
      by_cases c : j < ss.length
      · rw [List.getElem?_append_left c] at hj
        exact hp j s' hj
      · have hj2 := (List.getElem?_eq_some_iff.mp hj).1
        rw [List.length_append, List.length_singleton] at hj2
        have : j = ss.length := by omega
        subst this
        rw [List.getElem?_append_right (Nat.le_refl _), Nat.sub_self] at hj
        cases hj
        rw [hs, hss]
    generalize ISh [] (some (.lst (rs.map D.int))) (some (eLs ls)) (i + 1) = J at put ⊢
    simp only [pForD, pInsL, pExtA, pSeq, pAsg, pVar, pC, pOp, pNil, pCons, pTup, pLst, pLstM, pNot, pAndV, pOrV, pIf, pB, pAnd, pOr, pNotT, pNoPart, pPart, pCB, pUnN, pSl, pNext, pBreak, pCont, pRet, pRetN, pDrop, pIfS, pgName, pgNil, pgCons, pgTup_t, pAug, pApp, pYes, isk_non, nsk_non, isN_non, isN_bl, isN_int, isN_str, isN_tup, isN_lst, isN_ref, isN_obj, pTru, pFld, pStar, pMake, pSetF, pIt, pRng1, pRng2, forG, List.map_cons, List.map_nil, List.getElem?_cons_zero, List.getElem?_cons_succ, List.set_cons_zero, List.set_cons_succ, Option.some.injEq, exists_eq_left, exists_eq_left', true_and, and_true, wipeE, D.bl.injEq, D.int.injEq, D.str.injEq, D.tup.injEq, D.lst.injEq, Bool.not_true, decide_eq_true_eq, if_true, if_false, reduceIte, Bool.false_eq_true, Option.isNone_none, Option.isNone_some, Bool.not_false, List.length_nil, List.length_cons, List.nil_append, List.cons_append, D.ref.injEq, SO.lst.injEq, pCall, exists_const, and_self, Nat.zero_add, Nat.zero_le, Nat.reduceLeDiff, Nat.reduceAdd, eq_self, o_add, o_sub, o_mul, o_div, o_mod, o_cmp, o_int, o_lenl, o_lent, o_lens, o_tupl, o_tupt, o_min, o_max, q_int, ixk_tup, ixk_lst, ixk_scr, at0, at1, at2, at3, at4, at5, List.length_map, pl_law_shelf_1_d]
    refine ⟨_, at_map (List.getElem?_eq_getElem hi), ?_⟩
    simp only [pForD, pInsL, pExtA, pSeq, pAsg, pVar, pC, pOp, pNil, pCons, pTup, pLst, pLstM, pNot, pAndV, pOrV, pIf, pB, pAnd, pOr, pNotT, pNoPart, pPart, pCB, pUnN, pSl, pNext, pBreak, pCont, pRet, pRetN, pDrop, pIfS, pgName, pgNil, pgCons, pgTup_t, pAug, pApp, pYes, isk_non, nsk_non, isN_non, isN_bl, isN_int, isN_str, isN_tup, isN_lst, isN_ref, isN_obj, pTru, pFld, pStar, pMake, pSetF, pIt, pRng1, pRng2, forG, List.map_cons, List.map_nil, List.getElem?_cons_zero, List.getElem?_cons_succ, List.set_cons_zero, List.set_cons_succ, Option.some.injEq, exists_eq_left, exists_eq_left', true_and, and_true, wipeE, D.bl.injEq, D.int.injEq, D.str.injEq, D.tup.injEq, D.lst.injEq, Bool.not_true, decide_eq_true_eq, if_true, if_false, reduceIte, Bool.false_eq_true, Option.isNone_none, Option.isNone_some, Bool.not_false, List.length_nil, List.length_cons, List.nil_append, List.cons_append, D.ref.injEq, SO.lst.injEq, pCall, exists_const, and_self, Nat.zero_add, Nat.zero_le, Nat.reduceLeDiff, Nat.reduceAdd, eq_self, o_add, o_sub, o_mul, o_div, o_mod, o_cmp, o_int, o_lenl, o_lent, o_lens, o_tupl, o_tupt, o_min, o_max, q_int, ixk_tup, ixk_lst, ixk_scr, at0, at1, at2, at3, at4, at5, List.length_map]
    refine ⟨⟨by decide, by decide⟩, by decide, ⟨by decide, by decide⟩, ?_⟩
    refine call_of (by simp only [pureAll, pu_ls, pu_int, Bool.and_self]) ⟨_, ls, rfl, hl, fun pu hpu => ?_⟩
    refine ⟨⟨by decide, by decide⟩, by decide, ?_⟩
    have fin : ∀ ln : Int, makek 5 F_Shelved___init [SO.lst (ss.map eShv)] [.int (2 * (i : Int) + 1), .int (rs[i] / 2 % 8), .int (rs[i] / 16 % 2), .int 0, .int ln, ePu pu] fun d S2 => ∃ ds, S2[0]? = some (SO.lst ds) ∧ ds.length < 90000 ∧ J [some (.lst (rs.map D.int)), some (eLs ls), some (.ref 0), some (.int (i : Int)), some (.int rs[i]), some (.int (rs[i] / 2 % 8)), some (ePu pu), some (.int ln)] (S2.set 0 (.lst (ds ++ [d]))) := fun ln => by
      refine mk_shv (e := ⟨2 * (i : Int) + 1, rs[i] / 2 % 8, rs[i] / 16 % 2, 0, ln, pu⟩) ⟨_, rfl, by rw [List.length_map]; omega, ?_⟩
      exact put _ _ _ _ _ _ rfl hpu
    by_cases c : 0 < rs[i] / 2 % 8
    · rw [decide_eq_true c]
      refine (show ixk _ (.lst [.int 0, .int (rs[i] / 32 % 4)]) (.int 1) _ from ?_)
      exact ⟨_, _, rfl, at1, .inl (by decide), ⟨by decide, by decide⟩, by decide, fin _⟩
    · rw [decide_eq_false c]
      refine (show ixk _ (.lst [.int 0, .int (rs[i] / 32 % 4)]) (.int 0) _ from ?_)
      exact ⟨_, _, rfl, at0, .inl (by decide), ⟨by decide, by decide⟩, by decide, fin _⟩
  · rw [List.length_range] at hI
    obtain ⟨ss, x3, x4, x5, x6, x7, hss, hp, hu⟩ := hI
    simp only [pForD, pInsL, pExtA, pSeq, pAsg, pVar, pC, pOp, pNil, pCons, pTup, pLst, pLstM, pNot, pAndV, pOrV, pIf, pB, pAnd, pOr, pNotT, pNoPart, pPart, pCB, pUnN, pSl, pNext, pBreak, pCont, pRet, pRetN, pDrop, pIfS, pgName, pgNil, pgCons, pgTup_t, pAug, pApp, pYes, isk_non, nsk_non, isN_non, isN_bl, isN_int, isN_str, isN_tup, isN_lst, isN_ref, isN_obj, pTru, pFld, pStar, pMake, pSetF, pIt, pRng1, pRng2, forG, List.map_cons, List.map_nil, List.getElem?_cons_zero, List.getElem?_cons_succ, List.set_cons_zero, List.set_cons_succ, Option.some.injEq, exists_eq_left, exists_eq_left', true_and, and_true, wipeE, D.bl.injEq, D.int.injEq, D.str.injEq, D.tup.injEq, D.lst.injEq, Bool.not_true, decide_eq_true_eq, if_true, if_false, reduceIte, Bool.false_eq_true, Option.isNone_none, Option.isNone_some, Bool.not_false, List.length_nil, List.length_cons, List.nil_append, List.cons_append, D.ref.injEq, SO.lst.injEq, pCall, exists_const, and_self, Nat.zero_add, Nat.zero_le, Nat.reduceLeDiff, Nat.reduceAdd, eq_self, o_add, o_sub, o_mul, o_div, o_mod, o_cmp, o_int, o_lenl, o_lent, o_lens, o_tupl, o_tupt, o_min, o_max, q_int, ixk_tup, ixk_lst, ixk_scr, at0, at1, at2, at3, at4, at5, List.length_map]
    exact ⟨(show (D.lst (ss.map eShv)).noRef = true from nr_all nr_shv ss), hk ss hss hp hu⟩
theorem ok_law_shelf {P : Program} {w : World} {K : PySem.W.Frag} {cl : Cl} {mg : Str → Option Value} {base : Heap} (D : Df K mg "_law_shelf" s_law_shelf ["rows", "lines"]) (T : Txt K cl mg) (G_law_purpose : C8.Cal P w K mg base 4 "_law_purpose" (spP K cl F_law_purpose) []) (M_Shelved : C8.Mak P w K mg base 1 "Shelved" (cl 5) (spS K cl F_Shelved___init) []) : C8.Cal P w K mg base 5 "_law_shelf" (spP K cl F_law_shelf) [] := by
  refine D.cal sc_law_shelf (spP_len (n := 2) len_law_shelf) (fun f cdv  A outer s H vs Q E hr h => ?_)
  refine ⟨_,
    (pss_cons (ps_set (i := 2) sc_law_shelf.nd rfl (.inl rfl) (pe_lst pa_nil))
    (pss_cons (ps_for PassesOwn.never rfl (pi_range1 (by rfl) T.n_range (pa_cons (pe_callB (show CallR _ (.builtin "len") (uLen K) from ucall_len) (by rfl) T.n_len PySem.boot_len (pa_cons (pv 0) pa_nil)) pa_nil)) (pg_name (i := 3) sc_law_shelf.nd rfl (Or.inl rfl))
      (pss_cons (ps_set (i := 4) sc_law_shelf.nd rfl (.inl rfl) (pe_ix (show IxR _ (uIx K) from uix) (pv 0) (pv 3) (fun _ _ => rfl)))
      (pss_cons (ps_set (i := 5) sc_law_shelf.nd rfl (.inl rfl) (pe_op op_mod (pe_callTy call_int1 (by rfl) T.n_int (by decide +kernel) (pa_cons (pe_op op_fdiv (pv 4) pe_int) pa_nil)) pe_int))
      (pss_cons (ps_set (i := 6) sc_law_shelf.nd rfl (.inl rfl) (C8.pe_c G_law_purpose hr (by decide) (by rfl) (pa_cons (pe_op op_fdiv (pv 4) pe_int) (pa_cons (pv 1) pa_nil))))
      (pss_cons (ps_set (i := 7) sc_law_shelf.nd rfl (.inl rfl) (pe_ix (show IxR _ (uIx K) from uix) (pe_lst (pa_cons pe_int (pa_cons (pe_op op_mod (pe_callTy call_int1 (by rfl) T.n_int (by decide +kernel) (pa_cons (pe_op op_fdiv (pv 4) pe_int) pa_nil)) pe_int) pa_nil))) (pe_callTy call_int1 (by rfl) T.n_int (by decide +kernel) (pa_cons (pe_cmpR op_gt (pv 5) pe_int (nomark _)) pa_nil)) (fun _ _ => rfl)))
      (pss_one (ps_expr (pe_bm PySem.F.plainAttrs_list PySem.F.slot_list_append PySem.F.type_list_append mt_append (pv 2) (pa_cons (C8.pe_mk M_Shelved hr (by decide) (by rfl) (pa_cons (pe_op (show OpR _ _ (uAdd K) from uop_add) (pe_op uop_mul pe_int (pv 3)) pe_int) (pa_cons (pv 5) (pa_cons (pe_op op_mod (pe_callTy call_int1 (by rfl) T.n_int (by decide +kernel) (pa_cons (pe_op op_fdiv (pv 4) pe_int) pa_nil)) pe_int) (pa_cons pe_int (pa_cons (pv 7) (pa_cons (pv 6) pa_nil))))))) pa_nil)))))))))
    (pss_one (ps_ret (pv 2))))), ?_⟩
  exact fn_ok (N := ["rows", "lines", "shelf", "k", "row", "thing", "purpose", "length"]) (show SmS K cl _ ps_law_shelf from
    (sm_seq (sm_asg (sm_lstM sm_nil) sm_gname)
    (sm_seq (sm_for (sm_rng1 (sm_cons (sm_cb smc_len (sm_cons sm_var sm_nil)) sm_nil)) sm_gname
      (sm_seq (sm_asg (sm_op smr_ix sm_var sm_var) sm_gname)
      (sm_seq (sm_asg (sm_op smr_mod (sm_cb smc_int (sm_cons (sm_op smr_div sm_var sm_int) sm_nil)) sm_int) sm_gname)
      (sm_seq (sm_asg (sm_call (sm_cons (sm_op smr_div sm_var sm_int) (sm_cons sm_var sm_nil))) sm_gname)
      (sm_seq (sm_asg (sm_op smr_ix (sm_lst (sm_cons sm_int (sm_cons (sm_op smr_mod (sm_cb smc_int (sm_cons (sm_op smr_div sm_var sm_int) sm_nil)) sm_int) sm_nil))) (sm_cb smc_int (sm_cons (sm_op smr_cmp sm_var sm_int) sm_nil))) sm_gname)
      ((sm_app sm_var (sm_make (sm_cons (sm_op smr_add (sm_op smr_mul sm_int sm_var) sm_int) (sm_cons sm_var (sm_cons (sm_op smr_mod (sm_cb smc_int (sm_cons (sm_op smr_div sm_var sm_int) sm_nil)) sm_int) (sm_cons sm_int (sm_cons sm_var (sm_cons sm_var sm_nil))))))))))))))
    ((sm_ret sm_var))))) body_law_shelf h
theorem sIx_some {n d : Nat} {i : Nat} : HT.sIx n d (some (i : Int)) = min i n := by
  unfold HT.sIx
  have hz : ¬ ((i : Int) < 0) := by omega
  simp [hz]
theorem cut_fr {α : Type} {f : α → D} {l : List α} {i : Nat} : Pw.cutD (l.map f) (some (i : Int)) none = (l.drop i).map f := by
  unfold Pw.cutD
  have h0 : HT.sIx l.length l.length none = l.length := rfl
  rw [List.length_map, sIx_some, h0, ← List.map_drop, ← List.map_take]
  congr 1
  rcases Nat.le_total i l.length with c | c
  · rw [Nat.min_eq_left c, List.take_of_length_le (by rw [List.length_drop]; exact Nat.le_refl _)]
  · rw [Nat.min_eq_right c, List.drop_of_length_le c, List.drop_of_length_le (Nat.le_refl _)]
    simp
theorem cut_t {α : Type} {f : α → D} {l : List α} {j : Nat} : Pw.cutD (l.map f) none (some (j : Int)) = (l.take j).map f := by
  unfold Pw.cutD
  have h0 : HT.sIx l.length 0 none = 0 := rfl
  rw [List.length_map, sIx_some, h0, Nat.sub_zero, List.drop_zero, ← List.map_take]
  congr 1
  rcases Nat.le_total j l.length with c | c
  · rw [Nat.min_eq_left c]
  · rw [Nat.min_eq_right c, List.take_of_length_le (Nat.le_refl _), List.take_of_length_le c]
def ps_placed_row : PSx :=
    ((pRet (pTup (pCons (pFld "path" [4] (pVar 0)) (pCons (pFld "names" [4] (pVar 0)) (pCons (pFld "thing" [4, 5] (pVar 0)) (pCons (pFld "count" [4, 5] (pVar 0)) (pCons (pFld "cuts" [4, 5] (pVar 0)) (pCons (pFld "content" [4] (pVar 0)) (pCons (pFld "ids" [4] (pVar 0)) (pCons (pFld "line" [4] (pVar 0)) (pCons (pFld "seen" [4] (pVar 0)) pNil))))))))))))
theorem start_placed_row : ∀ a0 : D, startE 1 [a0] = [some a0] := fun _ => rfl
def rowP (w : Plc) : D := .tup (plcVs w)
theorem pu_rowP (w : Plc) : (rowP w).pure = true := by
  show pureAll (plcVs w) = true
  simp only [plcVs, pureAll, pu_path, pu_int, pu_bl, pu_oct, pu_idst, pu_oid, Bool.and_self]
def F_placed_row : PFn := fun ds k => ∃ (w : Plc), ds = [ePc w] ∧ k (rowP w)
theorem len_placed_row : ∀ ds k, F_placed_row ds k → ds.length = 1 := by
  rintro _ _ ⟨_, rfl, _⟩
  rfl
theorem c_placed_row {S : Sto} {k : D → Prop} (w : Plc) (hp : noRefs [ePc w] = true) (hres : k (rowP w)) : callk F_placed_row S [ePc w] k := call_nr hp ⟨w, rfl, hres⟩
theorem body_placed_row : ∀ ds k, F_placed_row ds k → ps_placed_row { nx := fun _ _ => k .non, rt := fun d S => (d.frz S).noRef = true ∧ k (d.frz S) } (startE 1 ds) [] := by
  rintro _ k ⟨w, rfl, hk⟩
  rw [start_placed_row]
  unfold ps_placed_row
  simp only [pForD, pInsL, pExtA, pSeq, pAsg, pVar, pC, pOp, pNil, pCons, pTup, pLst, pLstM, pNot, pAndV, pOrV, pIf, pB, pAnd, pOr, pNotT, pNoPart, pPart, pCB, pUnN, pSl, pNext, pBreak, pCont, pRet, pRetN, pDrop, pIfS, pgName, pgNil, pgCons, pgTup_t, pAug, pApp, pYes, isk_non, nsk_non, isN_non, isN_bl, isN_int, isN_str, isN_tup, isN_lst, isN_ref, isN_obj, pTru, pFld, pStar, pMake, pSetF, pIt, pRng1, pRng2, forG, List.map_cons, List.map_nil, List.getElem?_cons_zero, List.getElem?_cons_succ, List.set_cons_zero, List.set_cons_succ, Option.some.injEq, exists_eq_left, exists_eq_left', true_and, and_true, wipeE, D.bl.injEq, D.int.injEq, D.str.injEq, D.tup.injEq, D.lst.injEq, Bool.not_true, decide_eq_true_eq, if_true, if_false, reduceIte, Bool.false_eq_true, Option.isNone_none, Option.isNone_some, Bool.not_false, List.length_nil, List.length_cons, List.nil_append, List.cons_append, D.ref.injEq, SO.lst.injEq, pCall, exists_const, and_self, Nat.zero_add, Nat.zero_le, Nat.reduceLeDiff, Nat.reduceAdd, eq_self, o_add, o_sub, o_mul, o_div, o_mod, o_cmp, o_int, o_lenl, o_lent, o_lens, o_tupl, o_tupt, o_min, o_max, q_int, ixk_tup, ixk_lst, ixk_scr, at0, at1, at2, at3, at4, at5, List.length_map, ln0, ln1, ln2, ln3, ln4, lnS0, lnS2, lnS4, q_id, q_ido, q_oi, q_oid, q_path, q_ln, q_ls, n_id, n_path, n_ln, n_ls, non_oid, non_oln, non_oct, non_id, non_ln, non_ct, non_path, un_ln, un_pl, in_ids, ad_path, eOp_s, eOp_n, lstk_ls, st_ls, fl_Placed_path, fl_Placed_names, fl_Placed_thing, fl_Placed_count, fl_Placed_cuts, fl_Placed_content, fl_Placed_ids, fl_Placed_line, fl_Placed_seen, fl_Shelved_place, fl_Shelved_thing, fl_Shelved_count, fl_Shelved_cuts, fl_Shelved_length, fl_Shelved_purpose]
  exact rt_pure (d := rowP w) (pu_rowP w) hk
theorem ok_placed_row {P : Program} {w : World} {K : PySem.W.Frag} {cl : Cl} {mg : Str → Option Value} {base : Heap} (D : Df K mg "placed_row" s_placed_row ["entry"]) (T : Txt K cl mg)  : C8.Cal P w K mg base 1 "placed_row" (spP K cl F_placed_row) [] := by
  refine D.cal sc_placed_row (spP_len (n := 1) len_placed_row) (fun f cdv  A outer s H vs Q E hr h => ?_)
  refine ⟨_,
    (pss_one (ps_ret (pe_tup (pa_cons (show PE _ _ (tFld K _ "path") from pe_fld (pv 0) rfl) (pa_cons (show PE _ _ (tFld K _ "names") from pe_fld (pv 0) rfl) (pa_cons (show PE _ _ (tFld K _ "thing") from pe_fld (pv 0) rfl) (pa_cons (show PE _ _ (tFld K _ "count") from pe_fld (pv 0) rfl) (pa_cons (show PE _ _ (tFld K _ "cuts") from pe_fld (pv 0) rfl) (pa_cons (show PE _ _ (tFld K _ "content") from pe_fld (pv 0) rfl) (pa_cons (show PE _ _ (tFld K _ "ids") from pe_fld (pv 0) rfl) (pa_cons (show PE _ _ (tFld K _ "line") from pe_fld (pv 0) rfl) (pa_cons (show PE _ _ (tFld K _ "seen") from pe_fld (pv 0) rfl) pa_nil)))))))))))), ?_⟩
  exact fn_ok (N := ["entry"]) (show SmS K cl _ ps_placed_row from
    ((sm_ret (sm_tup (sm_cons (sm_fld T.hc_path sm_var) (sm_cons (sm_fld T.hc_names sm_var) (sm_cons (sm_fld T.hc_thing sm_var) (sm_cons (sm_fld T.hc_count sm_var) (sm_cons (sm_fld T.hc_cuts sm_var) (sm_cons (sm_fld T.hc_content sm_var) (sm_cons (sm_fld T.hc_ids sm_var) (sm_cons (sm_fld T.hc_line sm_var) (sm_cons (sm_fld T.hc_seen sm_var) sm_nil))))))))))))) body_placed_row h
def ps_holds_placed : PSx :=
    ((pRet (pOp nek (pOp ixk (pVar 0) (pC (.int 0))) (pC (.str (Str.ofString "coming"))))))
theorem start_holds_placed : ∀ a0 : D, startE 1 [a0] = [some a0] := fun _ => rfl
def puTag : Pu → Str
  | .com _ _ => Str.ofString "coming"
  | .kept _ => Str.ofString "kept"
  | .found _ => Str.ofString "found"
  | .back _ _ _ => Str.ofString "back"
theorem pu0 {S : Sto} {p : Pu} {k : D → Prop} : ixk S (ePu p) (.int 0) k = k (.str (puTag p)) := by
  cases p <;> (unfold ePu; rw [ixk_tup, at0]; simp [puTag])
theorem tag_com (p : Pu) : decide (puTag p = Str.ofString "coming") = p.isCom := by
  cases p <;> first | rfl | decide +kernel
theorem tag_kept (p : Pu) : decide (puTag p = Str.ofString "kept") = p.isKept := by
  cases p <;> first | rfl | decide +kernel
theorem n_strs {S : Sto} {a b : Str} {k : D → Prop} : nek S (.str a) (.str b) k = k (.bl (!decide (a = b))) := by
  have h := q_word S a b (fun d => k (.bl (!(match d with | .bl b => b | _ => false))))
  rw [eqk_pure rfl rfl (Nat.zero_le _)] at h
  rw [nek_pure rfl rfl (Nat.zero_le _)]
  exact h
def F_holds_placed : PFn := fun ds k => ∃ (p : Pu), ds = [ePu p] ∧ k (.bl (!p.isCom))
theorem len_holds_placed : ∀ ds k, F_holds_placed ds k → ds.length = 1 := by
  rintro _ _ ⟨_, rfl, _⟩
  rfl
theorem c_holds_placed {S : Sto} {k : D → Prop} (p : Pu) (hp : noRefs [ePu p] = true) (hres : k (.bl (!p.isCom))) : callk F_holds_placed S [ePu p] k := call_nr hp ⟨p, rfl, hres⟩
theorem body_holds_placed : ∀ ds k, F_holds_placed ds k → ps_holds_placed { nx := fun _ _ => k .non, rt := fun d S => (d.frz S).noRef = true ∧ k (d.frz S) } (startE 1 ds) [] := by
  rintro _ k ⟨p, rfl, hk⟩
  rw [start_holds_placed]
  unfold ps_holds_placed
  simp only [pForD, pInsL, pExtA, pSeq, pAsg, pVar, pC, pOp, pNil, pCons, pTup, pLst, pLstM, pNot, pAndV, pOrV, pIf, pB, pAnd, pOr, pNotT, pNoPart, pPart, pCB, pUnN, pSl, pNext, pBreak, pCont, pRet, pRetN, pDrop, pIfS, pgName, pgNil, pgCons, pgTup_t, pAug, pApp, pYes, isk_non, nsk_non, isN_non, isN_bl, isN_int, isN_str, isN_tup, isN_lst, isN_ref, isN_obj, pTru, pFld, pStar, pMake, pSetF, pIt, pRng1, pRng2, forG, List.map_cons, List.map_nil, List.getElem?_cons_zero, List.getElem?_cons_succ, List.set_cons_zero, List.set_cons_succ, Option.some.injEq, exists_eq_left, exists_eq_left', true_and, and_true, wipeE, D.bl.injEq, D.int.injEq, D.str.injEq, D.tup.injEq, D.lst.injEq, Bool.not_true, decide_eq_true_eq, if_true, if_false, reduceIte, Bool.false_eq_true, Option.isNone_none, Option.isNone_some, Bool.not_false, List.length_nil, List.length_cons, List.nil_append, List.cons_append, D.ref.injEq, SO.lst.injEq, pCall, exists_const, and_self, Nat.zero_add, Nat.zero_le, Nat.reduceLeDiff, Nat.reduceAdd, eq_self, o_add, o_sub, o_mul, o_div, o_mod, o_cmp, o_int, o_lenl, o_lent, o_lens, o_tupl, o_tupt, o_min, o_max, q_int, ixk_tup, ixk_lst, ixk_scr, at0, at1, at2, at3, at4, at5, List.length_map, ln0, ln1, ln2, ln3, ln4, lnS0, lnS2, lnS4, q_id, q_ido, q_oi, q_oid, q_path, q_ln, q_ls, n_id, n_path, n_ln, n_ls, non_oid, non_oln, non_oct, non_id, non_ln, non_ct, non_path, un_ln, un_pl, in_ids, ad_path, eOp_s, eOp_n, lstk_ls, st_ls, fl_Placed_path, fl_Placed_names, fl_Placed_thing, fl_Placed_count, fl_Placed_cuts, fl_Placed_content, fl_Placed_ids, fl_Placed_line, fl_Placed_seen, fl_Shelved_place, fl_Shelved_thing, fl_Shelved_count, fl_Shelved_cuts, fl_Shelved_length, fl_Shelved_purpose, pu0, pu0, n_strs, tag_com]
  exact ⟨rfl, hk⟩
theorem ok_holds_placed {P : Program} {w : World} {K : PySem.W.Frag} {cl : Cl} {mg : Str → Option Value} {base : Heap} (D : Df K mg "holds_placed" s_holds_placed ["purpose"]) (T : Txt K cl mg)  : C8.Cal P w K mg base 1 "holds_placed" (spP K cl F_holds_placed) [] := by
  refine D.cal sc_holds_placed (spP_len (n := 1) len_holds_placed) (fun f cdv  A outer s H vs Q E hr h => ?_)
  refine ⟨_,
    (pss_one (ps_ret (pe_cmpR (show OpR _ _ (rNeP K) from op_neP hr.units) (pe_ix (show IxR _ (uIx K) from uix) (pv 0) pe_int (fun _ _ => rfl)) pe_str (nomark _)))), ?_⟩
  exact fn_ok (N := ["purpose"]) (show SmS K cl _ ps_holds_placed from
    ((sm_ret (sm_op smr_ne (sm_op smr_ix sm_var sm_int) sm_str)))) body_holds_placed h
def pr_shelved_row_1 : PSx :=
    ((pRet (pTup (pCons (pFld "place" [5] (pVar 0)) (pCons (pFld "thing" [4, 5] (pVar 0)) (pCons (pFld "count" [4, 5] (pVar 0)) (pCons (pFld "cuts" [4, 5] (pVar 0)) (pCons (pFld "length" [5] (pVar 0)) (pCons (pVar 1) pNil)))))))))
def ps_shelved_row : PSx :=
    (pSeq (pAsg (pFld "purpose" [5] (pVar 0)) (pgName 1))
    (pSeq (pIfS (pTru (pCall F_holds_placed (pCons (pVar 1) pNil)))
      ((pAsg (pOp addk (pTup (pCons (pOp ixk (pVar 1) (pC (.int 0))) (pCons (pCall F_placed_row (pCons (pOp ixk (pVar 1) (pC (.int 1))) pNil)) pNil))) (pSl (pVar 1) (pPart (pC (.int 2))) pNoPart)) (pgName 1)))
      pNext)
    pr_shelved_row_1))
theorem start_shelved_row : ∀ a0 : D, startE 2 [a0] = [some a0, none] := fun _ => rfl
def rowU : Pu → D
  | .com h m => ePu (.com h m)
  | .kept w => .tup [.str (Str.ofString "kept"), rowP w]
  | .found w => .tup [.str (Str.ofString "found"), rowP w]
  | .back w p n => .tup [.str (Str.ofString "back"), rowP w, ePath p, .int n]
def rowS (s : Shv) : D := .tup [.int s.place, .int s.thing, .int s.count, .int s.cuts, .int s.length, rowU s.pu]
theorem pu_rowU (p : Pu) : (rowU p).pure = true := by
  cases p with
  | com h m => rfl
  | kept w => simp only [rowU, D.pure, pureAll, pu_rowP, Bool.and_self]
  | found w => simp only [rowU, D.pure, pureAll, pu_rowP, Bool.and_self]
  | back w p n => simp only [rowU, D.pure, pureAll, pu_rowP, pu_path, Bool.and_self]
theorem pu_rowS (s : Shv) : (rowS s).pure = true := by
  simp only [rowS, D.pure, pureAll, pu_rowU, Bool.and_self]
def F_shelved_row : PFn := fun ds k => ∃ (s : Shv), ds = [eShv s] ∧ k (rowS s)
theorem len_shelved_row : ∀ ds k, F_shelved_row ds k → ds.length = 1 := by
  rintro _ _ ⟨_, rfl, _⟩
  rfl
theorem c_shelved_row {S : Sto} {k : D → Prop} (s : Shv) (hp : noRefs [eShv s] = true) (hres : k (rowS s)) : callk F_shelved_row S [eShv s] k := call_nr hp ⟨s, rfl, hres⟩
theorem sl_tup {S : Sto} {ds : List D} {lo hi : Option Int} {k : D → Prop} : slk S (.tup ds) lo hi k = k (.tup (Pw.cutD ds lo hi)) := rfl
theorem ix1_pu {S : Sto} {p : Pu} {w : Plc} {ds : List D} {t : Str} {k : D → Prop} (h : ePu p = .tup (.str t :: ePc w :: ds)) (hk : k (ePc w)) : ixk S (ePu p) (.int 1) k := by
  rw [h, ixk_tup, at1]
  exact ⟨_, rfl, hk⟩
theorem body_shelved_row : ∀ ds k, F_shelved_row ds k → ps_shelved_row { nx := fun _ _ => k .non, rt := fun d S => (d.frz S).noRef = true ∧ k (d.frz S) } (startE 2 ds) [] := by
  rintro _ k ⟨s, rfl, hk⟩
  rw [start_shelved_row]
  unfold ps_shelved_row
  simp only [pForD, pInsL, pExtA, pSeq, pAsg, pVar, pC, pOp, pNil, pCons, pTup, pLst, pLstM, pNot, pAndV, pOrV, pIf, pB, pAnd, pOr, pNotT, pNoPart, pPart, pCB, pUnN, pSl, pNext, pBreak, pCont, pRet, pRetN, pDrop, pIfS, pgName, pgNil, pgCons, pgTup_t, pAug, pApp, pYes, isk_non, nsk_non, isN_non, isN_bl, isN_int, isN_str, isN_tup, isN_lst, isN_ref, isN_obj, pTru, pFld, pStar, pMake, pSetF, pIt, pRng1, pRng2, forG, List.map_cons, List.map_nil, List.getElem?_cons_zero, List.getElem?_cons_succ, List.set_cons_zero, List.set_cons_succ, Option.some.injEq, exists_eq_left, exists_eq_left', true_and, and_true, wipeE, D.bl.injEq, D.int.injEq, D.str.injEq, D.tup.injEq, D.lst.injEq, Bool.not_true, decide_eq_true_eq, if_true, if_false, reduceIte, Bool.false_eq_true, Option.isNone_none, Option.isNone_some, Bool.not_false, List.length_nil, List.length_cons, List.nil_append, List.cons_append, D.ref.injEq, SO.lst.injEq, pCall, exists_const, and_self, Nat.zero_add, Nat.zero_le, Nat.reduceLeDiff, Nat.reduceAdd, eq_self, o_add, o_sub, o_mul, o_div, o_mod, o_cmp, o_int, o_lenl, o_lent, o_lens, o_tupl, o_tupt, o_min, o_max, q_int, ixk_tup, ixk_lst, ixk_scr, at0, at1, at2, at3, at4, at5, List.length_map, ln0, ln1, ln2, ln3, ln4, lnS0, lnS2, lnS4, q_id, q_ido, q_oi, q_oid, q_path, q_ln, q_ls, n_id, n_path, n_ln, n_ls, non_oid, non_oln, non_oct, non_id, non_ln, non_ct, non_path, un_ln, un_pl, in_ids, ad_path, eOp_s, eOp_n, lstk_ls, st_ls, fl_Placed_path, fl_Placed_names, fl_Placed_thing, fl_Placed_count, fl_Placed_cuts, fl_Placed_content, fl_Placed_ids, fl_Placed_line, fl_Placed_seen, fl_Shelved_place, fl_Shelved_thing, fl_Shelved_count, fl_Shelved_cuts, fl_Shelved_length, fl_Shelved_purpose, pu0]
  refine c_holds_placed _ (by simp only [noRefs, D.noRef, Bool.and_self, Bool.and_true, Bool.true_and, nr_id, nr_oid, nr_oct, nr_path, nr_ln, nr_oln, nr_ls, nr_idst, nr_pl, nr_mv, nr_ed, nr_ct, nr_eds, nr_scr, nr_ints, nr_pc, nr_pu, nr_shv]) ?_
  have fin : ∀ (P : PEnds) (d : D), (∀ z S', P.rt z S' = ((D.frz S' z).noRef = true ∧ k (D.frz S' z))) → d = rowU s.pu → pr_shelved_row_1 P [some (eShv s), some d] [] := fun P d hP hd => by
    subst hd
    unfold pr_shelved_row_1
    simp only [pForD, pInsL, pExtA, pSeq, pAsg, pVar, pC, pOp, pNil, pCons, pTup, pLst, pLstM, pNot, pAndV, pOrV, pIf, pB, pAnd, pOr, pNotT, pNoPart, pPart, pCB, pUnN, pSl, pNext, pBreak, pCont, pRet, pRetN, pDrop, pIfS, pgName, pgNil, pgCons, pgTup_t, pAug, pApp, pYes, isk_non, nsk_non, isN_non, isN_bl, isN_int, isN_str, isN_tup, isN_lst, isN_ref, isN_obj, pTru, pFld, pStar, pMake, pSetF, pIt, pRng1, pRng2, forG, List.map_cons, List.map_nil, List.getElem?_cons_zero, List.getElem?_cons_succ, List.set_cons_zero, List.set_cons_succ, Option.some.injEq, exists_eq_left, exists_eq_left', true_and, and_true, wipeE, D.bl.injEq, D.int.injEq, D.str.injEq, D.tup.injEq, D.lst.injEq, Bool.not_true, decide_eq_true_eq, if_true, if_false, reduceIte, Bool.false_eq_true, Option.isNone_none, Option.isNone_some, Bool.not_false, List.length_nil, List.length_cons, List.nil_append, List.cons_append, D.ref.injEq, SO.lst.injEq, pCall, exists_const, and_self, Nat.zero_add, Nat.zero_le, Nat.reduceLeDiff, Nat.reduceAdd, eq_self, o_add, o_sub, o_mul, o_div, o_mod, o_cmp, o_int, o_lenl, o_lent, o_lens, o_tupl, o_tupt, o_min, o_max, q_int, ixk_tup, ixk_lst, ixk_scr, at0, at1, at2, at3, at4, at5, List.length_map, ln0, ln1, ln2, ln3, ln4, lnS0, lnS2, lnS4, q_id, q_ido, q_oi, q_oid, q_path, q_ln, q_ls, n_id, n_path, n_ln, n_ls, non_oid, non_oln, non_oct, non_id, non_ln, non_ct, non_path, un_ln, un_pl, in_ids, ad_path, eOp_s, eOp_n, lstk_ls, st_ls, fl_Placed_path, fl_Placed_names, fl_Placed_thing, fl_Placed_count, fl_Placed_cuts, fl_Placed_content, fl_Placed_ids, fl_Placed_line, fl_Placed_seen, fl_Shelved_place, fl_Shelved_thing, fl_Shelved_count, fl_Shelved_cuts, fl_Shelved_length, fl_Shelved_purpose, pu0]
    rw [hP]
    exact rt_pure (d := rowS s) (pu_rowS s) hk
  have two : ∀ (t : Str) (w : Plc) (ds : List D), Pw.cutD (.str t :: ePc w :: ds) (some 2) none = ds := fun t w ds => by
    have := cut_fr (f := fun d : D => d) (l := .str t :: ePc w :: ds) (i := 2)
    rw [List.map_id'', List.map_id''] at this
    · exact this
    · exact fun _ => rfl
    · exact fun _ => rfl
  cases hp : s.pu with
  | com h m =>
    simp only [pForD, pInsL, pExtA, pSeq, pAsg, pVar, pC, pOp, pNil, pCons, pTup, pLst, pLstM, pNot, pAndV, pOrV, pIf, pB, pAnd, pOr, pNotT, pNoPart, pPart, pCB, pUnN, pSl, pNext, pBreak, pCont, pRet, pRetN, pDrop, pIfS, pgName, pgNil, pgCons, pgTup_t, pAug, pApp, pYes, isk_non, nsk_non, isN_non, isN_bl, isN_int, isN_str, isN_tup, isN_lst, isN_ref, isN_obj, pTru, pFld, pStar, pMake, pSetF, pIt, pRng1, pRng2, forG, List.map_cons, List.map_nil, List.getElem?_cons_zero, List.getElem?_cons_succ, List.set_cons_zero, List.set_cons_succ, Option.some.injEq, exists_eq_left, exists_eq_left', true_and, and_true, wipeE, D.bl.injEq, D.int.injEq, D.str.injEq, D.tup.injEq, D.lst.injEq, Bool.not_true, decide_eq_true_eq, if_true, if_false, reduceIte, Bool.false_eq_true, Option.isNone_none, Option.isNone_some, Bool.not_false, List.length_nil, List.length_cons, List.nil_append, List.cons_append, D.ref.injEq, SO.lst.injEq, pCall, exists_const, and_self, Nat.zero_add, Nat.zero_le, Nat.reduceLeDiff, Nat.reduceAdd, eq_self, o_add, o_sub, o_mul, o_div, o_mod, o_cmp, o_int, o_lenl, o_lent, o_lens, o_tupl, o_tupt, o_min, o_max, q_int, ixk_tup, ixk_lst, ixk_scr, at0, at1, at2, at3, at4, at5, List.length_map, ln0, ln1, ln2, ln3, ln4, lnS0, lnS2, lnS4, q_id, q_ido, q_oi, q_oid, q_path, q_ln, q_ls, n_id, n_path, n_ln, n_ls, non_oid, non_oln, non_oct, non_id, non_ln, non_ct, non_path, un_ln, un_pl, in_ids, ad_path, eOp_s, eOp_n, lstk_ls, st_ls, fl_Placed_path, fl_Placed_names, fl_Placed_thing, fl_Placed_count, fl_Placed_cuts, fl_Placed_content, fl_Placed_ids, fl_Placed_line, fl_Placed_seen, fl_Shelved_place, fl_Shelved_thing, fl_Shelved_count, fl_Shelved_cuts, fl_Shelved_length, fl_Shelved_purpose, pu0, Pu.isCom, tru_bl]
    exact fin _ _ (fun _ _ => rfl) (by rw [hp]; rfl)
  | kept w =>
    simp only [pForD, pInsL, pExtA, pSeq, pAsg, pVar, pC, pOp, pNil, pCons, pTup, pLst, pLstM, pNot, pAndV, pOrV, pIf, pB, pAnd, pOr, pNotT, pNoPart, pPart, pCB, pUnN, pSl, pNext, pBreak, pCont, pRet, pRetN, pDrop, pIfS, pgName, pgNil, pgCons, pgTup_t, pAug, pApp, pYes, isk_non, nsk_non, isN_non, isN_bl, isN_int, isN_str, isN_tup, isN_lst, isN_ref, isN_obj, pTru, pFld, pStar, pMake, pSetF, pIt, pRng1, pRng2, forG, List.map_cons, List.map_nil, List.getElem?_cons_zero, List.getElem?_cons_succ, List.set_cons_zero, List.set_cons_succ, Option.some.injEq, exists_eq_left, exists_eq_left', true_and, and_true, wipeE, D.bl.injEq, D.int.injEq, D.str.injEq, D.tup.injEq, D.lst.injEq, Bool.not_true, decide_eq_true_eq, if_true, if_false, reduceIte, Bool.false_eq_true, Option.isNone_none, Option.isNone_some, Bool.not_false, List.length_nil, List.length_cons, List.nil_append, List.cons_append, D.ref.injEq, SO.lst.injEq, pCall, exists_const, and_self, Nat.zero_add, Nat.zero_le, Nat.reduceLeDiff, Nat.reduceAdd, eq_self, o_add, o_sub, o_mul, o_div, o_mod, o_cmp, o_int, o_lenl, o_lent, o_lens, o_tupl, o_tupt, o_min, o_max, q_int, ixk_tup, ixk_lst, ixk_scr, at0, at1, at2, at3, at4, at5, List.length_map, ln0, ln1, ln2, ln3, ln4, lnS0, lnS2, lnS4, q_id, q_ido, q_oi, q_oid, q_path, q_ln, q_ls, n_id, n_path, n_ln, n_ls, non_oid, non_oln, non_oct, non_id, non_ln, non_ct, non_path, un_ln, un_pl, in_ids, ad_path, eOp_s, eOp_n, lstk_ls, st_ls, fl_Placed_path, fl_Placed_names, fl_Placed_thing, fl_Placed_count, fl_Placed_cuts, fl_Placed_content, fl_Placed_ids, fl_Placed_line, fl_Placed_seen, fl_Shelved_place, fl_Shelved_thing, fl_Shelved_count, fl_Shelved_cuts, fl_Shelved_length, fl_Shelved_purpose, pu0, Pu.isCom, tru_bl]
    refine ix1_pu (w := w) (ds := []) (t := Str.ofString "kept") rfl (c_placed_row _ (by simp only [noRefs, D.noRef, Bool.and_self, Bool.and_true, Bool.true_and, nr_id, nr_oid, nr_oct, nr_path, nr_ln, nr_oln, nr_ls, nr_idst, nr_pl, nr_mv, nr_ed, nr_ct, nr_eds, nr_scr, nr_ints, nr_pc, nr_pu, nr_shv]) ?_)
    refine Eq.mpr (sl_tup (ds := [.str (Str.ofString "kept"), ePc w])) ?_
    rw [two]
    exact ⟨by show 2 + 0 ≤ 100000; decide, fin _ _ (fun _ _ => rfl) (by rw [hp]; rfl)⟩
  | found w =>
    simp only [pForD, pInsL, pExtA, pSeq, pAsg, pVar, pC, pOp, pNil, pCons, pTup, pLst, pLstM, pNot, pAndV, pOrV, pIf, pB, pAnd, pOr, pNotT, pNoPart, pPart, pCB, pUnN, pSl, pNext, pBreak, pCont, pRet, pRetN, pDrop, pIfS, pgName, pgNil, pgCons, pgTup_t, pAug, pApp, pYes, isk_non, nsk_non, isN_non, isN_bl, isN_int, isN_str, isN_tup, isN_lst, isN_ref, isN_obj, pTru, pFld, pStar, pMake, pSetF, pIt, pRng1, pRng2, forG, List.map_cons, List.map_nil, List.getElem?_cons_zero, List.getElem?_cons_succ, List.set_cons_zero, List.set_cons_succ, Option.some.injEq, exists_eq_left, exists_eq_left', true_and, and_true, wipeE, D.bl.injEq, D.int.injEq, D.str.injEq, D.tup.injEq, D.lst.injEq, Bool.not_true, decide_eq_true_eq, if_true, if_false, reduceIte, Bool.false_eq_true, Option.isNone_none, Option.isNone_some, Bool.not_false, List.length_nil, List.length_cons, List.nil_append, List.cons_append, D.ref.injEq, SO.lst.injEq, pCall, exists_const, and_self, Nat.zero_add, Nat.zero_le, Nat.reduceLeDiff, Nat.reduceAdd, eq_self, o_add, o_sub, o_mul, o_div, o_mod, o_cmp, o_int, o_lenl, o_lent, o_lens, o_tupl, o_tupt, o_min, o_max, q_int, ixk_tup, ixk_lst, ixk_scr, at0, at1, at2, at3, at4, at5, List.length_map, ln0, ln1, ln2, ln3, ln4, lnS0, lnS2, lnS4, q_id, q_ido, q_oi, q_oid, q_path, q_ln, q_ls, n_id, n_path, n_ln, n_ls, non_oid, non_oln, non_oct, non_id, non_ln, non_ct, non_path, un_ln, un_pl, in_ids, ad_path, eOp_s, eOp_n, lstk_ls, st_ls, fl_Placed_path, fl_Placed_names, fl_Placed_thing, fl_Placed_count, fl_Placed_cuts, fl_Placed_content, fl_Placed_ids, fl_Placed_line, fl_Placed_seen, fl_Shelved_place, fl_Shelved_thing, fl_Shelved_count, fl_Shelved_cuts, fl_Shelved_length, fl_Shelved_purpose, pu0, Pu.isCom, tru_bl]
    refine ix1_pu (w := w) (ds := []) (t := Str.ofString "found") rfl (c_placed_row _ (by simp only [noRefs, D.noRef, Bool.and_self, Bool.and_true, Bool.true_and, nr_id, nr_oid, nr_oct, nr_path, nr_ln, nr_oln, nr_ls, nr_idst, nr_pl, nr_mv, nr_ed, nr_ct, nr_eds, nr_scr, nr_ints, nr_pc, nr_pu, nr_shv]) ?_)
    refine Eq.mpr (sl_tup (ds := [.str (Str.ofString "found"), ePc w])) ?_
    rw [two]
    exact ⟨by show 2 + 0 ≤ 100000; decide, fin _ _ (fun _ _ => rfl) (by rw [hp]; rfl)⟩
  | back w p n =>
    simp only [pForD, pInsL, pExtA, pSeq, pAsg, pVar, pC, pOp, pNil, pCons, pTup, pLst, pLstM, pNot, pAndV, pOrV, pIf, pB, pAnd, pOr, pNotT, pNoPart, pPart, pCB, pUnN, pSl, pNext, pBreak, pCont, pRet, pRetN, pDrop, pIfS, pgName, pgNil, pgCons, pgTup_t, pAug, pApp, pYes, isk_non, nsk_non, isN_non, isN_bl, isN_int, isN_str, isN_tup, isN_lst, isN_ref, isN_obj, pTru, pFld, pStar, pMake, pSetF, pIt, pRng1, pRng2, forG, List.map_cons, List.map_nil, List.getElem?_cons_zero, List.getElem?_cons_succ, List.set_cons_zero, List.set_cons_succ, Option.some.injEq, exists_eq_left, exists_eq_left', true_and, and_true, wipeE, D.bl.injEq, D.int.injEq, D.str.injEq, D.tup.injEq, D.lst.injEq, Bool.not_true, decide_eq_true_eq, if_true, if_false, reduceIte, Bool.false_eq_true, Option.isNone_none, Option.isNone_some, Bool.not_false, List.length_nil, List.length_cons, List.nil_append, List.cons_append, D.ref.injEq, SO.lst.injEq, pCall, exists_const, and_self, Nat.zero_add, Nat.zero_le, Nat.reduceLeDiff, Nat.reduceAdd, eq_self, o_add, o_sub, o_mul, o_div, o_mod, o_cmp, o_int, o_lenl, o_lent, o_lens, o_tupl, o_tupt, o_min, o_max, q_int, ixk_tup, ixk_lst, ixk_scr, at0, at1, at2, at3, at4, at5, List.length_map, ln0, ln1, ln2, ln3, ln4, lnS0, lnS2, lnS4, q_id, q_ido, q_oi, q_oid, q_path, q_ln, q_ls, n_id, n_path, n_ln, n_ls, non_oid, non_oln, non_oct, non_id, non_ln, non_ct, non_path, un_ln, un_pl, in_ids, ad_path, eOp_s, eOp_n, lstk_ls, st_ls, fl_Placed_path, fl_Placed_names, fl_Placed_thing, fl_Placed_count, fl_Placed_cuts, fl_Placed_content, fl_Placed_ids, fl_Placed_line, fl_Placed_seen, fl_Shelved_place, fl_Shelved_thing, fl_Shelved_count, fl_Shelved_cuts, fl_Shelved_length, fl_Shelved_purpose, pu0, Pu.isCom, tru_bl]
    refine ix1_pu (w := w) (ds := [ePath p, .int n]) (t := Str.ofString "back") rfl (c_placed_row _ (by simp only [noRefs, D.noRef, Bool.and_self, Bool.and_true, Bool.true_and, nr_id, nr_oid, nr_oct, nr_path, nr_ln, nr_oln, nr_ls, nr_idst, nr_pl, nr_mv, nr_ed, nr_ct, nr_eds, nr_scr, nr_ints, nr_pc, nr_pu, nr_shv]) ?_)
    refine Eq.mpr (sl_tup (ds := [.str (Str.ofString "back"), ePc w, ePath p, .int n])) ?_
    rw [two]
    exact ⟨by show 2 + 2 ≤ 100000; decide, fin _ _ (fun _ _ => rfl) (by rw [hp]; rfl)⟩
theorem ok_shelved_row {P : Program} {w : World} {K : PySem.W.Frag} {cl : Cl} {mg : Str → Option Value} {base : Heap} (D : Df K mg "shelved_row" s_shelved_row ["entry"]) (T : Txt K cl mg) (G_placed_row : C8.Cal P w K mg base 1 "placed_row" (spP K cl F_placed_row) []) (G_holds_placed : C8.Cal P w K mg base 1 "holds_placed" (spP K cl F_holds_placed) []) : C8.Cal P w K mg base 2 "shelved_row" (spP K cl F_shelved_row) [] := by
  refine D.cal sc_shelved_row (spP_len (n := 1) len_shelved_row) (fun f cdv  A outer s H vs Q E hr h => ?_)
  refine ⟨_,
    (pss_cons (ps_set (i := 1) sc_shelved_row.nd rfl (.inl rfl) (show PE _ _ (tFld K _ "purpose") from pe_fld (pv 0) rfl))
    (pss_cons (ps_if (pt_truth (C8.pe_c G_holds_placed hr (by decide) (by rfl) (pa_cons (pv 1) pa_nil)) (by intro _; rfl))
      (pss_one (ps_set (i := 1) sc_shelved_row.nd rfl (.inl rfl) (pe_op (show OpR _ _ (uAdd K) from uop_add) (pe_tup (pa_cons (pe_ix (show IxR _ (uIx K) from uix) (pv 1) pe_int (fun _ _ => rfl)) (pa_cons (C8.pe_c G_placed_row hr (by decide) (by rfl) (pa_cons (pe_ix (show IxR _ (uIx K) from uix) (pv 1) pe_int (fun _ _ => rfl)) pa_nil)) pa_nil))) (pe_slice (show SlR _ (uSl K) from usl) (pv 1) (po_some pe_int) po_none))))
      pss_nil)
    (pss_one (ps_ret (pe_tup (pa_cons (show PE _ _ (tFld K _ "place") from pe_fld (pv 0) rfl) (pa_cons (show PE _ _ (tFld K _ "thing") from pe_fld (pv 0) rfl) (pa_cons (show PE _ _ (tFld K _ "count") from pe_fld (pv 0) rfl) (pa_cons (show PE _ _ (tFld K _ "cuts") from pe_fld (pv 0) rfl) (pa_cons (show PE _ _ (tFld K _ "length") from pe_fld (pv 0) rfl) (pa_cons (pv 1) pa_nil))))))))))), ?_⟩
  exact fn_ok (N := ["entry", "purpose"]) (show SmS K cl _ ps_shelved_row from
    (sm_seq (sm_asg (sm_fld T.hc_purpose sm_var) sm_gname)
    (sm_seq (sm_ifS (sm_tru (sm_call (sm_cons sm_var sm_nil)))
      ((sm_asg (sm_op smr_add (sm_tup (sm_cons (sm_op smr_ix sm_var sm_int) (sm_cons (sm_call (sm_cons (sm_op smr_ix sm_var sm_int) sm_nil)) sm_nil))) (sm_sl sm_var (sm_part sm_int) sm_noPart)) sm_gname))
      sm_next)
    ((sm_ret (sm_tup (sm_cons (sm_fld T.hc_place sm_var) (sm_cons (sm_fld T.hc_thing sm_var) (sm_cons (sm_fld T.hc_count sm_var) (sm_cons (sm_fld T.hc_cuts sm_var) (sm_cons (sm_fld T.hc_length sm_var) (sm_cons sm_var sm_nil)))))))))))) body_shelved_row h
def pl_lying_at_1 : PSx :=
      ((pIfS (pB (pOp eqk (pOp ixk (pVar 2) (pC (.int 0))) (pVar 1)))
        ((pRet (pVar 2)))
        pNext))
theorem pl_lying_at_1_d (P : PEnds) (env : Pw.Env) (S : Sto) : pl_lying_at_1 P env S = (
      ((pIfS (pB (pOp eqk (pOp ixk (pVar 2) (pC (.int 0))) (pVar 1)))
        ((pRet (pVar 2)))
        pNext))) P env S := rfl
def ps_lying_at : PSx :=
    (pSeq (pFor (pIt (pVar 0)) (pgName 2) pl_lying_at_1)
    ((pRet (pC .non))))
theorem start_lying_at : ∀ a0 a1 : D, startE 3 [a0, a1] = [some a0, some a1, none] := fun _ _ => rfl
structure Ly where
  place : Int
  thing : Int
  kind : Str
  count : Int
  cuts : Int
  length : Int
deriving DecidableEq
def eLy (l : Ly) : D := .tup [.int l.place, .int l.thing, .str l.kind, .int l.count, .int l.cuts, .int l.length]
theorem pu_ly (l : Ly) : (eLy l).pure = true := rfl
theorem nr_ly (l : Ly) : (eLy l).noRef = true := rfl
theorem nl_oly (o : Option Ly) : (eOp eLy o).noLst = true := by cases o <;> rfl
theorem d_ly (l : Ly) : (eLy l).dep ≤ 1 := dep_tup (n := 0) fun d hd => by
  simp only [List.mem_cons, List.mem_nil_iff, or_false] at hd
  rcases hd with rfl | rfl | rfl | rfl | rfl | rfl <;> exact Nat.zero_le _
theorem ly0 {S : Sto} {l : Ly} {k : D → Prop} : ixk S (eLy l) (.int 0) k = k (.int l.place) := by unfold eLy; rw [ixk_tup, at0]; simp
theorem ly1 {S : Sto} {l : Ly} {k : D → Prop} : ixk S (eLy l) (.int 1) k = k (.int l.thing) := by unfold eLy; rw [ixk_tup, at1]; simp
theorem ly3 {S : Sto} {l : Ly} {k : D → Prop} : ixk S (eLy l) (.int 3) k = k (.int l.count) := by unfold eLy; rw [ixk_tup, at3]; simp
theorem ly4 {S : Sto} {l : Ly} {k : D → Prop} : ixk S (eLy l) (.int 4) k = k (.int l.cuts) := by unfold eLy; rw [ixk_tup, at4]; simp
theorem ly5 {S : Sto} {l : Ly} {k : D → Prop} : ixk S (eLy l) (.int 5) k = k (.int l.length) := by unfold eLy; rw [ixk_tup, at5]; simp
theorem un_ly {l : Ly} {env : Pw.Env} {S : Sto} {k : Pw.Env → Sto → Prop} {gs : PGsx} : pgTup 6 gs (eLy l) env S k = gs [.int l.place, .int l.thing, .str l.kind, .int l.count, .int l.cuts, .int l.length] env S k := by
  unfold eLy
  rw [pgTup_t]
  simp
theorem q_str' {S : Sto} {a b : Str} {k : D → Prop} : Pw.eqk S (.str a) (.str b) k = k (.bl (decide (a = b))) := q_word S a b k
theorem rt_shv {S : Sto} {s : Shv} {k : D → Prop} (hk : k (eShv s)) : ((eShv s).frz S).noRef = true ∧ k ((eShv s).frz S) := by
  rw [frz_shv]
  exact ⟨nr_shv s, hk⟩
def lyAt (ly : List Ly) (p : Int) : Option Ly := ly.find? fun l => decide (l.place = p)
def F_lying_at : PFn := fun ds k => ∃ (ly : List Ly) (p : Int), ds = [.lst (ly.map eLy), .int p] ∧ k (eOp eLy (lyAt ly p))
theorem len_lying_at : ∀ ds k, F_lying_at ds k → ds.length = 2 := by
  rintro _ _ ⟨_, _, rfl, _⟩
  rfl
theorem body_lying_at : ∀ ds k, F_lying_at ds k → ps_lying_at { nx := fun _ _ => k .non, rt := fun d S => (d.frz S).noRef = true ∧ k (d.frz S) } (startE 3 ds) [] := by
  rintro _ k ⟨T, p, rfl, hk⟩
  rw [start_lying_at]
  unfold ps_lying_at
  simp only [pForD, pInsL, pExtA, pSeq, pAsg, pVar, pC, pOp, pNil, pCons, pTup, pLst, pLstM, pNot, pAndV, pOrV, pIf, pB, pAnd, pOr, pNotT, pNoPart, pPart, pCB, pUnN, pSl, pNext, pBreak, pCont, pRet, pRetN, pDrop, pIfS, pgName, pgNil, pgCons, pgTup_t, pAug, pApp, pYes, isk_non, nsk_non, isN_non, isN_bl, isN_int, isN_str, isN_tup, isN_lst, isN_ref, isN_obj, pTru, pFld, pStar, pMake, pSetF, pIt, pRng1, pRng2, forG, List.map_cons, List.map_nil, List.getElem?_cons_zero, List.getElem?_cons_succ, List.set_cons_zero, List.set_cons_succ, Option.some.injEq, exists_eq_left, exists_eq_left', true_and, and_true, wipeE, D.bl.injEq, D.int.injEq, D.str.injEq, D.tup.injEq, D.lst.injEq, Bool.not_true, decide_eq_true_eq, if_true, if_false, reduceIte, Bool.false_eq_true, Option.isNone_none, Option.isNone_some, Bool.not_false, List.length_nil, List.length_cons, List.nil_append, List.cons_append, D.ref.injEq, SO.lst.injEq, pCall, exists_const, and_self, Nat.zero_add, Nat.zero_le, Nat.reduceLeDiff, Nat.reduceAdd, eq_self, o_add, o_sub, o_mul, o_div, o_mod, o_cmp, o_int, o_lenl, o_lent, o_lens, o_tupl, o_tupt, o_min, o_max, q_int, ixk_tup, ixk_lst, ixk_scr, at0, at1, at2, at3, at4, at5, List.length_map]
  refine for_find (src := .lst (T.map eLy)) T eLy (fun e => decide (e.place = p)) (fun x => [some (.lst (T.map eLy)), some (.int p), x]) (fun e => k (eLy e)) (fun kk h => ⟨_, rfl, _, rfl, h⟩) rfl ⟨_, rfl⟩ (fun e he x J h => ?_) ?_
  · simp only [pForD, pInsL, pExtA, pSeq, pAsg, pVar, pC, pOp, pNil, pCons, pTup, pLst, pLstM, pNot, pAndV, pOrV, pIf, pB, pAnd, pOr, pNotT, pNoPart, pPart, pCB, pUnN, pSl, pNext, pBreak, pCont, pRet, pRetN, pDrop, pIfS, pgName, pgNil, pgCons, pgTup_t, pAug, pApp, pYes, isk_non, nsk_non, isN_non, isN_bl, isN_int, isN_str, isN_tup, isN_lst, isN_ref, isN_obj, pTru, pFld, pStar, pMake, pSetF, pIt, pRng1, pRng2, forG, List.map_cons, List.map_nil, List.getElem?_cons_zero, List.getElem?_cons_succ, List.set_cons_zero, List.set_cons_succ, Option.some.injEq, exists_eq_left, exists_eq_left', true_and, and_true, wipeE, D.bl.injEq, D.int.injEq, D.str.injEq, D.tup.injEq, D.lst.injEq, Bool.not_true, decide_eq_true_eq, if_true, if_false, reduceIte, Bool.false_eq_true, Option.isNone_none, Option.isNone_some, Bool.not_false, List.length_nil, List.length_cons, List.nil_append, List.cons_append, D.ref.injEq, SO.lst.injEq, pCall, exists_const, and_self, Nat.zero_add, Nat.zero_le, Nat.reduceLeDiff, Nat.reduceAdd, eq_self, o_add, o_sub, o_mul, o_div, o_mod, o_cmp, o_int, o_lenl, o_lent, o_lens, o_tupl, o_tupt, o_min, o_max, q_int, ixk_tup, ixk_lst, ixk_scr, at0, at1, at2, at3, at4, at5, List.length_map, ln0, ln1, ln2, ln3, ln4, lnS0, lnS2, lnS4, q_id, q_ido, q_oi, q_oid, q_path, q_ln, q_ls, n_id, n_path, n_ln, n_ls, non_oid, non_oln, non_oct, non_id, non_ln, non_ct, non_path, un_ln, un_pl, in_ids, ad_path, eOp_s, eOp_n, lstk_ls, st_ls, fl_Placed_path, fl_Placed_names, fl_Placed_thing, fl_Placed_count, fl_Placed_cuts, fl_Placed_content, fl_Placed_ids, fl_Placed_line, fl_Placed_seen, fl_Shelved_place, fl_Shelved_thing, fl_Shelved_count, fl_Shelved_cuts, fl_Shelved_length, fl_Shelved_purpose, pu0, ly0, ly1, ly3, ly4, ly5, un_ly, pl_lying_at_1_d]
    by_cases h1 : e.place = p
    · rw [if_pos h1]
      rw [if_pos (decide_eq_true h1)] at h
      exact rt_pure (pu_ly e) h
    · rw [if_neg h1]
      rw [if_neg (by simpa using h1)] at h
      exact h _
  · unfold lyAt at hk
    cases e : T.find? (fun e => decide (e.place = p)) with
    | none =>
      rw [e] at hk
      intro x
      simp only [pForD, pInsL, pExtA, pSeq, pAsg, pVar, pC, pOp, pNil, pCons, pTup, pLst, pLstM, pNot, pAndV, pOrV, pIf, pB, pAnd, pOr, pNotT, pNoPart, pPart, pCB, pUnN, pSl, pNext, pBreak, pCont, pRet, pRetN, pDrop, pIfS, pgName, pgNil, pgCons, pgTup_t, pAug, pApp, pYes, isk_non, nsk_non, isN_non, isN_bl, isN_int, isN_str, isN_tup, isN_lst, isN_ref, isN_obj, pTru, pFld, pStar, pMake, pSetF, pIt, pRng1, pRng2, forG, List.map_cons, List.map_nil, List.getElem?_cons_zero, List.getElem?_cons_succ, List.set_cons_zero, List.set_cons_succ, Option.some.injEq, exists_eq_left, exists_eq_left', true_and, and_true, wipeE, D.bl.injEq, D.int.injEq, D.str.injEq, D.tup.injEq, D.lst.injEq, Bool.not_true, decide_eq_true_eq, if_true, if_false, reduceIte, Bool.false_eq_true, Option.isNone_none, Option.isNone_some, Bool.not_false, List.length_nil, List.length_cons, List.nil_append, List.cons_append, D.ref.injEq, SO.lst.injEq, pCall, exists_const, and_self, Nat.zero_add, Nat.zero_le, Nat.reduceLeDiff, Nat.reduceAdd, eq_self, o_add, o_sub, o_mul, o_div, o_mod, o_cmp, o_int, o_lenl, o_lent, o_lens, o_tupl, o_tupt, o_min, o_max, q_int, ixk_tup, ixk_lst, ixk_scr, at0, at1, at2, at3, at4, at5, List.length_map]
      exact rt_pure rfl hk
    | some a =>
      rw [e] at hk
      exact hk
theorem c_lying_at' {S : Sto} {x : D} {T : List Ly} {p : Int} {k : D → Prop} (h : rs S x = .lst (T.map eLy)) (hk : k (eOp eLy (lyAt T p))) : callk F_lying_at S [x, .int p] k :=
  call_lr h (nr_all nr_ly T) (by simp only [noRefs, D.noRef, Bool.and_self, Bool.and_true, Bool.true_and, nr_id, nr_oid, nr_oct, nr_path, nr_ln, nr_oln, nr_ls, nr_idst, nr_pl, nr_mv, nr_ed, nr_ct, nr_eds, nr_scr, nr_ints, nr_pc, nr_pu, nr_shv, nr_ly, nr_shv]) fun k' hk' => ⟨T, p, rfl, hk' _ (nl_oly _) hk⟩
theorem ok_lying_at {P : Program} {w : World} {K : PySem.W.Frag} {cl : Cl} {mg : Str → Option Value} {base : Heap} (D : Df K mg "lying_at" s_lying_at ["lying", "place"]) (T : Txt K cl mg)  : C8.Cal P w K mg base 1 "lying_at" (spP K cl F_lying_at) [] := by
  refine D.cal sc_lying_at (spP_len (n := 2) len_lying_at) (fun f cdv  A outer s H vs Q E hr h => ?_)
  refine ⟨_,
    (pss_cons (ps_for PassesOwn.never rfl (show PI _ _ _ (uIt K _) from upi (pv 0)) (pg_name (i := 2) sc_lying_at.nd rfl (Or.inl rfl))
      (pss_one (ps_if (pt_cmpR (show OpR _ _ (rEqP K) from op_eqP hr.units) (pe_ix (show IxR _ (uIx K) from uix) (pv 2) pe_int (fun _ _ => rfl)) (pv 1) (nomark _))
        (pss_one (ps_ret (pv 2)))
        pss_nil)))
    (pss_one (ps_ret pe_non))), ?_⟩
  exact fn_ok (N := ["lying", "place", "row"]) (show SmS K cl _ ps_lying_at from
    (sm_seq (sm_for (sm_it sm_var) sm_gname
      ((sm_ifS (sm_test (sm_op smr_eq (sm_op smr_ix sm_var sm_int) sm_var))
        ((sm_ret sm_var))
        sm_next)))
    ((sm_ret sm_non)))) body_lying_at h
def pr_right_entry_1 : PSx :=
    ((pRet (pMake 5 F_Shelved___init (pCons (pFld "place" [5] (pVar 0)) (pCons (pVar 3) (pCons (pVar 4) (pCons (pVar 5) (pCons (pVar 6) (pCons (pVar 7) pNil)))))))))
def ps_right_entry : PSx :=
    (pSeq (pAsg (pVar 1) (pgTup 6 (pgCons (pgName 2) (pgCons (pgName 3) (pgCons (pgName 2) (pgCons (pgName 4) (pgCons (pgName 5) (pgCons (pgName 6) pgNil))))))))
    (pSeq (pAsg (pFld "purpose" [5] (pVar 0)) (pgName 7))
    (pSeq (pIfS (pB (pOp eqk (pOp ixk (pVar 7) (pC (.int 0))) (pC (.str (Str.ofString "kept")))))
      (pSeq (pIfS (pAnd (pB (pOp eqk (pFld "thing" [4, 5] (pVar 0)) (pVar 3))) (pB (pOp eqk (pFld "count" [4, 5] (pVar 0)) (pVar 4))))
        ((pRet (pVar 0)))
        pNext)
      ((pAsg (pTup (pCons (pC (.str (Str.ofString "found"))) (pCons (pOp ixk (pVar 7) (pC (.int 1))) pNil))) (pgName 7))))
      pNext)
    pr_right_entry_1)))
theorem start_right_entry : ∀ a0 a1 : D, startE 8 [a0, a1] = [some a0, some a1, none, none, none, none, none, none] := fun _ _ => rfl
def rightF (s : Shv) (r : Ly) : Shv := match s.pu with
  | .kept w => if s.thing = r.thing ∧ s.count = r.count then s else ⟨s.place, r.thing, r.count, r.cuts, r.length, .found w⟩
  | p => ⟨s.place, r.thing, r.count, r.cuts, r.length, p⟩
def F_right_entry : PFn := fun ds k => ∃ (s : Shv) (r : Ly), ds = [eShv s, eLy r] ∧ k (eShv (rightF s r))
theorem len_right_entry : ∀ ds k, F_right_entry ds k → ds.length = 2 := by
  rintro _ _ ⟨_, _, rfl, _⟩
  rfl
theorem c_right_entry {S : Sto} {k : D → Prop} (s : Shv) (r : Ly) (hp : noRefs [eShv s, eLy r] = true) (hres : k (eShv (rightF s r))) : callk F_right_entry S [eShv s, eLy r] k := call_nr hp ⟨s, r, rfl, hres⟩
theorem body_right_entry : ∀ ds k, F_right_entry ds k → ps_right_entry { nx := fun _ _ => k .non, rt := fun d S => (d.frz S).noRef = true ∧ k (d.frz S) } (startE 8 ds) [] := by
  rintro _ k ⟨s, r, rfl, hk⟩
  rw [start_right_entry]
  unfold ps_right_entry
  simp only [pForD, pInsL, pExtA, pSeq, pAsg, pVar, pC, pOp, pNil, pCons, pTup, pLst, pLstM, pNot, pAndV, pOrV, pIf, pB, pAnd, pOr, pNotT, pNoPart, pPart, pCB, pUnN, pSl, pNext, pBreak, pCont, pRet, pRetN, pDrop, pIfS, pgName, pgNil, pgCons, pgTup_t, pAug, pApp, pYes, isk_non, nsk_non, isN_non, isN_bl, isN_int, isN_str, isN_tup, isN_lst, isN_ref, isN_obj, pTru, pFld, pStar, pMake, pSetF, pIt, pRng1, pRng2, forG, List.map_cons, List.map_nil, List.getElem?_cons_zero, List.getElem?_cons_succ, List.set_cons_zero, List.set_cons_succ, Option.some.injEq, exists_eq_left, exists_eq_left', true_and, and_true, wipeE, D.bl.injEq, D.int.injEq, D.str.injEq, D.tup.injEq, D.lst.injEq, Bool.not_true, decide_eq_true_eq, if_true, if_false, reduceIte, Bool.false_eq_true, Option.isNone_none, Option.isNone_some, Bool.not_false, List.length_nil, List.length_cons, List.nil_append, List.cons_append, D.ref.injEq, SO.lst.injEq, pCall, exists_const, and_self, Nat.zero_add, Nat.zero_le, Nat.reduceLeDiff, Nat.reduceAdd, eq_self, o_add, o_sub, o_mul, o_div, o_mod, o_cmp, o_int, o_lenl, o_lent, o_lens, o_tupl, o_tupt, o_min, o_max, q_int, ixk_tup, ixk_lst, ixk_scr, at0, at1, at2, at3, at4, at5, List.length_map, ln0, ln1, ln2, ln3, ln4, lnS0, lnS2, lnS4, q_id, q_ido, q_oi, q_oid, q_path, q_ln, q_ls, n_id, n_path, n_ln, n_ls, non_oid, non_oln, non_oct, non_id, non_ln, non_ct, non_path, un_ln, un_pl, in_ids, ad_path, eOp_s, eOp_n, lstk_ls, st_ls, fl_Placed_path, fl_Placed_names, fl_Placed_thing, fl_Placed_count, fl_Placed_cuts, fl_Placed_content, fl_Placed_ids, fl_Placed_line, fl_Placed_seen, fl_Shelved_place, fl_Shelved_thing, fl_Shelved_count, fl_Shelved_cuts, fl_Shelved_length, fl_Shelved_purpose, pu0, ly0, ly1, ly3, ly4, ly5, un_ly, pu0, q_str', tag_kept]
  have fin : ∀ (p : Pu) (P : PEnds), (∀ z S', P.rt z S' = ((D.frz S' z).noRef = true ∧ k (D.frz S' z))) → k (eShv ⟨s.place, r.thing, r.count, r.cuts, r.length, p⟩) → pr_right_entry_1 P [some (eShv s), some (eLy r), some (.str r.kind), some (.int r.thing), some (.int r.count), some (.int r.cuts), some (.int r.length), some (ePu p)] [] := fun p P hP hk => by
    unfold pr_right_entry_1
    simp only [pForD, pInsL, pExtA, pSeq, pAsg, pVar, pC, pOp, pNil, pCons, pTup, pLst, pLstM, pNot, pAndV, pOrV, pIf, pB, pAnd, pOr, pNotT, pNoPart, pPart, pCB, pUnN, pSl, pNext, pBreak, pCont, pRet, pRetN, pDrop, pIfS, pgName, pgNil, pgCons, pgTup_t, pAug, pApp, pYes, isk_non, nsk_non, isN_non, isN_bl, isN_int, isN_str, isN_tup, isN_lst, isN_ref, isN_obj, pTru, pFld, pStar, pMake, pSetF, pIt, pRng1, pRng2, forG, List.map_cons, List.map_nil, List.getElem?_cons_zero, List.getElem?_cons_succ, List.set_cons_zero, List.set_cons_succ, Option.some.injEq, exists_eq_left, exists_eq_left', true_and, and_true, wipeE, D.bl.injEq, D.int.injEq, D.str.injEq, D.tup.injEq, D.lst.injEq, Bool.not_true, decide_eq_true_eq, if_true, if_false, reduceIte, Bool.false_eq_true, Option.isNone_none, Option.isNone_some, Bool.not_false, List.length_nil, List.length_cons, List.nil_append, List.cons_append, D.ref.injEq, SO.lst.injEq, pCall, exists_const, and_self, Nat.zero_add, Nat.zero_le, Nat.reduceLeDiff, Nat.reduceAdd, eq_self, o_add, o_sub, o_mul, o_div, o_mod, o_cmp, o_int, o_lenl, o_lent, o_lens, o_tupl, o_tupt, o_min, o_max, q_int, ixk_tup, ixk_lst, ixk_scr, at0, at1, at2, at3, at4, at5, List.length_map, ln0, ln1, ln2, ln3, ln4, lnS0, lnS2, lnS4, q_id, q_ido, q_oi, q_oid, q_path, q_ln, q_ls, n_id, n_path, n_ln, n_ls, non_oid, non_oln, non_oct, non_id, non_ln, non_ct, non_path, un_ln, un_pl, in_ids, ad_path, eOp_s, eOp_n, lstk_ls, st_ls, fl_Placed_path, fl_Placed_names, fl_Placed_thing, fl_Placed_count, fl_Placed_cuts, fl_Placed_content, fl_Placed_ids, fl_Placed_line, fl_Placed_seen, fl_Shelved_place, fl_Shelved_thing, fl_Shelved_count, fl_Shelved_cuts, fl_Shelved_length, fl_Shelved_purpose, pu0, ly0, ly1, ly3, ly4, ly5, un_ly]
    refine mk_shv (e := ⟨s.place, r.thing, r.count, r.cuts, r.length, p⟩) ?_
    rw [hP]
    exact rt_shv hk
  unfold rightF at hk
  cases hp : s.pu with
  | com h m =>
    rw [hp] at hk
    exact Eq.mpr (if_neg (show ¬ false = true by decide)) (fin (.com h m) _ (fun _ _ => rfl) hk)
  | found w =>
    rw [hp] at hk
    exact Eq.mpr (if_neg (show ¬ false = true by decide)) (fin (.found w) _ (fun _ _ => rfl) hk)
  | back w p n =>
    rw [hp] at hk
    exact Eq.mpr (if_neg (show ¬ false = true by decide)) (fin (.back w p n) _ (fun _ _ => rfl) hk)
  | kept w =>
    rw [hp] at hk
    refine Eq.mpr (if_pos (show true = true from rfl)) ?_
    have next : k (eShv ⟨s.place, r.thing, r.count, r.cuts, r.length, .found w⟩) → ixk [] (ePu (.kept w)) (.int 1) fun z => pr_right_entry_1 { nx := fun x x_1 => k D.non, rt := fun d S => (D.frz S d).noRef = true ∧ k (D.frz S d) } [some (eShv s), some (eLy r), some (.str r.kind), some (.int r.thing), some (.int r.count), some (.int r.cuts), some (.int r.length), some (.tup [.str (Str.ofString "found"), z])] [] := fun h => ix1_pu (w := w) (ds := []) (t := Str.ofString "kept") rfl (fin (.found w) _ (fun _ _ => rfl) h)
    have hk : k (eShv (if s.thing = r.thing ∧ s.count = r.count then s else ⟨s.place, r.thing, r.count, r.cuts, r.length, .found w⟩)) := hk
    by_cases c1 : s.thing = r.thing
    · rw [if_pos c1]
      by_cases c2 : s.count = r.count
      · rw [if_pos c2]
        rw [if_pos ⟨c1, c2⟩] at hk
        exact rt_shv hk
      · rw [if_neg c2]
        rw [if_neg fun z => c2 z.2] at hk
        exact next hk
    · rw [if_neg c1]
      rw [if_neg fun z => c1 z.1] at hk
      exact next hk
theorem ok_right_entry {P : Program} {w : World} {K : PySem.W.Frag} {cl : Cl} {mg : Str → Option Value} {base : Heap} (D : Df K mg "right_entry" s_right_entry ["entry", "row"]) (T : Txt K cl mg) (M_Shelved : C8.Mak P w K mg base 1 "Shelved" (cl 5) (spS K cl F_Shelved___init) []) : C8.Cal P w K mg base 3 "right_entry" (spP K cl F_right_entry) [] := by
  refine D.cal sc_right_entry (spP_len (n := 2) len_right_entry) (fun f cdv  A outer s H vs Q E hr h => ?_)
  refine ⟨_,
    (pss_cons (ps_asg (pv 1) (pg_tup rfl (pgs_cons (pg_name (i := 2) sc_right_entry.nd rfl (Or.inl rfl)) (pgs_cons (pg_name (i := 3) sc_right_entry.nd rfl (Or.inl rfl)) (pgs_cons (pg_name (i := 2) sc_right_entry.nd rfl (Or.inl rfl)) (pgs_cons (pg_name (i := 4) sc_right_entry.nd rfl (Or.inl rfl)) (pgs_cons (pg_name (i := 5) sc_right_entry.nd rfl (Or.inl rfl)) (pgs_cons (pg_name (i := 6) sc_right_entry.nd rfl (Or.inl rfl)) pgs_nil))))))))
    (pss_cons (ps_set (i := 7) sc_right_entry.nd rfl (.inl rfl) (show PE _ _ (tFld K _ "purpose") from pe_fld (pv 0) rfl))
    (pss_cons (ps_if (pt_cmpR (show OpR _ _ (rEqP K) from op_eqP hr.units) (pe_ix (show IxR _ (uIx K) from uix) (pv 7) pe_int (fun _ _ => rfl)) pe_str (nomark _))
      (pss_cons (ps_if (PW.pt (pw_and (pt_cmpR (show OpR _ _ (rEqP K) from op_eqP hr.units) (show PE _ _ (tFld K _ "thing") from pe_fld (pv 0) rfl) (pv 3) (nomark _)) (pw_and1 (pt_cmpR (show OpR _ _ (rEqP K) from op_eqP hr.units) (show PE _ _ (tFld K _ "count") from pe_fld (pv 0) rfl) (pv 4) (nomark _)))))
        (pss_one (ps_ret (pv 0)))
        pss_nil)
      (pss_one (ps_set (i := 7) sc_right_entry.nd rfl (.inl rfl) (pe_tup (pa_cons pe_str (pa_cons (pe_ix (show IxR _ (uIx K) from uix) (pv 7) pe_int (fun _ _ => rfl)) pa_nil))))))
      pss_nil)
    (pss_one (ps_ret (C8.pe_mk M_Shelved hr (by decide) (by rfl) (pa_cons (show PE _ _ (tFld K _ "place") from pe_fld (pv 0) rfl) (pa_cons (pv 3) (pa_cons (pv 4) (pa_cons (pv 5) (pa_cons (pv 6) (pa_cons (pv 7) pa_nil)))))))))))), ?_⟩
  exact fn_ok (N := ["entry", "row", "_", "thing", "count", "cuts", "length", "purpose"]) (show SmS K cl _ ps_right_entry from
    (sm_seq (sm_asg sm_var (sm_gtup (sm_gcons sm_gname (sm_gcons sm_gname (sm_gcons sm_gname (sm_gcons sm_gname (sm_gcons sm_gname (sm_gcons sm_gname sm_gnil))))))))
    (sm_seq (sm_asg (sm_fld T.hc_purpose sm_var) sm_gname)
    (sm_seq (sm_ifS (sm_test (sm_op smr_eq (sm_op smr_ix sm_var sm_int) sm_str))
      (sm_seq (sm_ifS (sm_and (sm_test (sm_op smr_eq (sm_fld T.hc_thing sm_var) sm_var)) (sm_test (sm_op smr_eq (sm_fld T.hc_count sm_var) sm_var)))
        ((sm_ret sm_var))
        sm_next)
      ((sm_asg (sm_tup (sm_cons sm_str (sm_cons (sm_op smr_ix sm_var sm_int) sm_nil))) sm_gname)))
      sm_next)
    ((sm_ret (sm_make (sm_cons (sm_fld T.hc_place sm_var) (sm_cons sm_var (sm_cons sm_var (sm_cons sm_var (sm_cons sm_var (sm_cons sm_var sm_nil))))))))))))) body_right_entry h
def pl_put_right_1 : PSx :=
      (pSeq (pAsg (pCall F_lying_at (pCons (pVar 1) (pCons (pFld "place" [5] (pVar 3)) pNil))) (pgName 4))
      ((pIfS (pB (pOp nsk (pVar 4) (pC .non)))
        ((pApp (pVar 2) (pCall F_right_entry (pCons (pVar 3) (pCons (pVar 4) pNil)))))
        ((pIfS (pB (pOp eqk (pOp ixk (pFld "purpose" [5] (pVar 3)) (pC (.int 0))) (pC (.str (Str.ofString "coming")))))
          ((pApp (pVar 2) (pMake 5 F_Shelved___init (pCons (pFld "place" [5] (pVar 3)) (pCons (pC (.int 0)) (pCons (pC (.int 0)) (pCons (pC (.int 0)) (pCons (pC (.int 0)) (pCons (pFld "purpose" [5] (pVar 3)) pNil)))))))))
          pNext)))))
theorem pl_put_right_1_d (P : PEnds) (env : Pw.Env) (S : Sto) : pl_put_right_1 P env S = (
      (pSeq (pAsg (pCall F_lying_at (pCons (pVar 1) (pCons (pFld "place" [5] (pVar 3)) pNil))) (pgName 4))
      ((pIfS (pB (pOp nsk (pVar 4) (pC .non)))
        ((pApp (pVar 2) (pCall F_right_entry (pCons (pVar 3) (pCons (pVar 4) pNil)))))
        ((pIfS (pB (pOp eqk (pOp ixk (pFld "purpose" [5] (pVar 3)) (pC (.int 0))) (pC (.str (Str.ofString "coming")))))
          ((pApp (pVar 2) (pMake 5 F_Shelved___init (pCons (pFld "place" [5] (pVar 3)) (pCons (pC (.int 0)) (pCons (pC (.int 0)) (pCons (pC (.int 0)) (pCons (pC (.int 0)) (pCons (pFld "purpose" [5] (pVar 3)) pNil)))))))))
          pNext)))))) P env S := rfl
def ps_put_right : PSx :=
    (pSeq (pAsg (pLstM pNil) (pgName 2))
    (pSeq (pFor (pIt (pVar 0)) (pgName 3) pl_put_right_1)
    ((pRet (pVar 2)))))
theorem start_put_right : ∀ a0 a1 : D, startE 5 [a0, a1] = [some a0, some a1, none, none, none] := fun _ _ => rfl
def rightO (ly : List Ly) (s : Shv) : Option Shv := match lyAt ly s.place with
  | some r => some (rightF s r)
  | none => if s.pu.isCom then some ⟨s.place, 0, 0, 0, 0, s.pu⟩ else none
inductive IRt (S0 : Sto) (c0 c1 : D) (ly : List Ly) (pre : List Shv) : Pw.Env → Sto → Prop
  | mk (x3 x4 : Option D) : IRt S0 c0 c1 ly pre [some c0, some c1, some (.ref S0.length), x3, x4] (S0 ++ [.lst ((pre.filterMap (rightO ly)).map eShv)])
def F_put_right : SFn := fun ds S k => ∃ (ss : List Shv) (ly : List Ly), ds = [.lst (ss.map eShv), .lst (ly.map eLy)] ∧ ss.length ≤ 1000 ∧ k (.ref S.length) (S ++ [.lst ((ss.filterMap (rightO ly)).map eShv)])
theorem len_put_right : ∀ ds S k, F_put_right ds S k → ds.length = 2 := by
  rintro _ _ _ ⟨_, _, rfl, _⟩
  rfl
theorem body_put_right : ∀ ds S k, F_put_right ds S k → ps_put_right { nx := fun _ S' => k .non S', rt := k } (startE 5 ds) S := by
  rintro _ S k ⟨ss, ly, rfl, hs, hk⟩
  rw [start_put_right]
  unfold ps_put_right
  simp only [pForD, pInsL, pExtA, pSeq, pAsg, pVar, pC, pOp, pNil, pCons, pTup, pLst, pLstM, pNot, pAndV, pOrV, pIf, pB, pAnd, pOr, pNotT, pNoPart, pPart, pCB, pUnN, pSl, pNext, pBreak, pCont, pRet, pRetN, pDrop, pIfS, pgName, pgNil, pgCons, pgTup_t, pAug, pApp, pYes, isk_non, nsk_non, isN_non, isN_bl, isN_int, isN_str, isN_tup, isN_lst, isN_ref, isN_obj, pTru, pFld, pStar, pMake, pSetF, pIt, pRng1, pRng2, forG, List.map_cons, List.map_nil, List.getElem?_cons_zero, List.getElem?_cons_succ, List.set_cons_zero, List.set_cons_succ, Option.some.injEq, exists_eq_left, exists_eq_left', true_and, and_true, wipeE, D.bl.injEq, D.int.injEq, D.str.injEq, D.tup.injEq, D.lst.injEq, Bool.not_true, decide_eq_true_eq, if_true, if_false, reduceIte, Bool.false_eq_true, Option.isNone_none, Option.isNone_some, Bool.not_false, List.length_nil, List.length_cons, List.nil_append, List.cons_append, D.ref.injEq, SO.lst.injEq, pCall, exists_const, and_self, Nat.zero_add, Nat.zero_le, Nat.reduceLeDiff, Nat.reduceAdd, eq_self, o_add, o_sub, o_mul, o_div, o_mod, o_cmp, o_int, o_lenl, o_lent, o_lens, o_tupl, o_tupt, o_min, o_max, q_int, ixk_tup, ixk_lst, ixk_scr, at0, at1, at2, at3, at4, at5, List.length_map]
  refine for_inv (src := .lst (ss.map eShv)) ss eShv (IRt S (.lst (ss.map eShv)) (.lst (ly.map eLy)) ly) (fun kk hh => ⟨_, rfl, _, rfl, hh⟩) (.mk none none) (fun _ _ _ _ => rfl) (fun i s hs' env S' hI => ?_) (fun env S' hI => ?_)
  · obtain ⟨x3, x4⟩ := hI
    have hi := (List.getElem?_eq_some_iff.mp hs').1
    have lf : ((ss.take i).filterMap (rightO ly)).length ≤ 1000 := Nat.le_trans (List.length_filterMap_le _ _) (by rw [List.length_take]; omega)
    have stay : rightO ly s = none → ∀ x3 x4, IRt S (.lst (ss.map eShv)) (.lst (ly.map eLy)) ly (ss.take i ++ [s]) [some (.lst (ss.map eShv)), some (.lst (ly.map eLy)), some (.ref S.length), x3, x4] (S ++ [.lst (((ss.take i).filterMap (rightO ly)).map eShv)]) := fun hb x3 x4 => by
      have := IRt.mk (S0 := S) (c0 := .lst (ss.map eShv)) (c1 := .lst (ly.map eLy)) (ly := ly) (pre := ss.take i ++ [s]) x3 x4
      rw [List.filterMap_append, List.filterMap_cons_none hb, List.filterMap_nil, List.append_nil] at this
      exact this
    have put : ∀ w, rightO ly s = some w → ∀ x3 x4, IRt S (.lst (ss.map eShv)) (.lst (ly.map eLy)) ly (ss.take i ++ [s]) [some (.lst (ss.map eShv)), some (.lst (ly.map eLy)), some (.ref S.length), x3, x4] ((S ++ [SO.lst (((ss.take i).filterMap (rightO ly)).map eShv)]).set S.length (.lst (((ss.take i).filterMap (rightO ly)).map eShv ++ [eShv w]))) := fun w hb x3 x4 => by
      have := IRt.mk (S0 := S) (c0 := .lst (ss.map eShv)) (c1 := .lst (ly.map eLy)) (ly := ly) (pre := ss.take i ++ [s]) x3 x4
      rw [List.filterMap_append, List.filterMap_cons_some hb, List.filterMap_nil] at this
      rw [List.set_append_right _ _ (Nat.le_refl _), Nat.sub_self]
      rw [List.map_append] at this
      exact this
    have lp : (((ss.take i).filterMap (rightO ly)).map eShv).length < 90000 := by rw [List.length_map]; omega
    generalize IRt S (.lst (ss.map eShv)) (.lst (ly.map eLy)) ly (ss.take i ++ [s]) = J at stay put ⊢
    simp only [pForD, pInsL, pExtA, pSeq, pAsg, pVar, pC, pOp, pNil, pCons, pTup, pLst, pLstM, pNot, pAndV, pOrV, pIf, pB, pAnd, pOr, pNotT, pNoPart, pPart, pCB, pUnN, pSl, pNext, pBreak, pCont, pRet, pRetN, pDrop, pIfS, pgName, pgNil, pgCons, pgTup_t, pAug, pApp, pYes, isk_non, nsk_non, isN_non, isN_bl, isN_int, isN_str, isN_tup, isN_lst, isN_ref, isN_obj, pTru, pFld, pStar, pMake, pSetF, pIt, pRng1, pRng2, forG, List.map_cons, List.map_nil, List.getElem?_cons_zero, List.getElem?_cons_succ, List.set_cons_zero, List.set_cons_succ, Option.some.injEq, exists_eq_left, exists_eq_left', true_and, and_true, wipeE, D.bl.injEq, D.int.injEq, D.str.injEq, D.tup.injEq, D.lst.injEq, Bool.not_true, decide_eq_true_eq, if_true, if_false, reduceIte, Bool.false_eq_true, Option.isNone_none, Option.isNone_some, Bool.not_false, List.length_nil, List.length_cons, List.nil_append, List.cons_append, D.ref.injEq, SO.lst.injEq, pCall, exists_const, and_self, Nat.zero_add, Nat.zero_le, Nat.reduceLeDiff, Nat.reduceAdd, eq_self, o_add, o_sub, o_mul, o_div, o_mod, o_cmp, o_int, o_lenl, o_lent, o_lens, o_tupl, o_tupt, o_min, o_max, q_int, ixk_tup, ixk_lst, ixk_scr, at0, at1, at2, at3, at4, at5, List.length_map, ln0, ln1, ln2, ln3, ln4, lnS0, lnS2, lnS4, q_id, q_ido, q_oi, q_oid, q_path, q_ln, q_ls, n_id, n_path, n_ln, n_ls, non_oid, non_oln, non_oct, non_id, non_ln, non_ct, non_path, un_ln, un_pl, in_ids, ad_path, eOp_s, eOp_n, lstk_ls, st_ls, fl_Placed_path, fl_Placed_names, fl_Placed_thing, fl_Placed_count, fl_Placed_cuts, fl_Placed_content, fl_Placed_ids, fl_Placed_line, fl_Placed_seen, fl_Shelved_place, fl_Shelved_thing, fl_Shelved_count, fl_Shelved_cuts, fl_Shelved_length, fl_Shelved_purpose, pu0, ly0, ly1, ly3, ly4, ly5, un_ly, pl_put_right_1_d]
    refine c_lying_at' rfl ?_
    cases hl : lyAt ly s.place with
    | some r =>
      simp only [pForD, pInsL, pExtA, pSeq, pAsg, pVar, pC, pOp, pNil, pCons, pTup, pLst, pLstM, pNot, pAndV, pOrV, pIf, pB, pAnd, pOr, pNotT, pNoPart, pPart, pCB, pUnN, pSl, pNext, pBreak, pCont, pRet, pRetN, pDrop, pIfS, pgName, pgNil, pgCons, pgTup_t, pAug, pApp, pYes, isk_non, nsk_non, isN_non, isN_bl, isN_int, isN_str, isN_tup, isN_lst, isN_ref, isN_obj, pTru, pFld, pStar, pMake, pSetF, pIt, pRng1, pRng2, forG, List.map_cons, List.map_nil, List.getElem?_cons_zero, List.getElem?_cons_succ, List.set_cons_zero, List.set_cons_succ, Option.some.injEq, exists_eq_left, exists_eq_left', true_and, and_true, wipeE, D.bl.injEq, D.int.injEq, D.str.injEq, D.tup.injEq, D.lst.injEq, Bool.not_true, decide_eq_true_eq, if_true, if_false, reduceIte, Bool.false_eq_true, Option.isNone_none, Option.isNone_some, Bool.not_false, List.length_nil, List.length_cons, List.nil_append, List.cons_append, D.ref.injEq, SO.lst.injEq, pCall, exists_const, and_self, Nat.zero_add, Nat.zero_le, Nat.reduceLeDiff, Nat.reduceAdd, eq_self, o_add, o_sub, o_mul, o_div, o_mod, o_cmp, o_int, o_lenl, o_lent, o_lens, o_tupl, o_tupt, o_min, o_max, q_int, ixk_tup, ixk_lst, ixk_scr, at0, at1, at2, at3, at4, at5, List.length_map, ln0, ln1, ln2, ln3, ln4, lnS0, lnS2, lnS4, q_id, q_ido, q_oi, q_oid, q_path, q_ln, q_ls, n_id, n_path, n_ln, n_ls, non_oid, non_oln, non_oct, non_id, non_ln, non_ct, non_path, un_ln, un_pl, in_ids, ad_path, eOp_s, eOp_n, lstk_ls, st_ls, fl_Placed_path, fl_Placed_names, fl_Placed_thing, fl_Placed_count, fl_Placed_cuts, fl_Placed_content, fl_Placed_ids, fl_Placed_line, fl_Placed_seen, fl_Shelved_place, fl_Shelved_thing, fl_Shelved_count, fl_Shelved_cuts, fl_Shelved_length, fl_Shelved_purpose, pu0, ly0, ly1, ly3, ly4, ly5, un_ly]
      exact ⟨_, at_new', c_right_entry _ _ (by simp only [noRefs, D.noRef, Bool.and_self, Bool.and_true, Bool.true_and, nr_id, nr_oid, nr_oct, nr_path, nr_ln, nr_oln, nr_ls, nr_idst, nr_pl, nr_mv, nr_ed, nr_ct, nr_eds, nr_scr, nr_ints, nr_pc, nr_pu, nr_shv, nr_ly, nr_shv]) ⟨_, at_new', lp, put _ (by unfold rightO; rw [hl]) _ _⟩⟩
    | none =>
      simp only [pForD, pInsL, pExtA, pSeq, pAsg, pVar, pC, pOp, pNil, pCons, pTup, pLst, pLstM, pNot, pAndV, pOrV, pIf, pB, pAnd, pOr, pNotT, pNoPart, pPart, pCB, pUnN, pSl, pNext, pBreak, pCont, pRet, pRetN, pDrop, pIfS, pgName, pgNil, pgCons, pgTup_t, pAug, pApp, pYes, isk_non, nsk_non, isN_non, isN_bl, isN_int, isN_str, isN_tup, isN_lst, isN_ref, isN_obj, pTru, pFld, pStar, pMake, pSetF, pIt, pRng1, pRng2, forG, List.map_cons, List.map_nil, List.getElem?_cons_zero, List.getElem?_cons_succ, List.set_cons_zero, List.set_cons_succ, Option.some.injEq, exists_eq_left, exists_eq_left', true_and, and_true, wipeE, D.bl.injEq, D.int.injEq, D.str.injEq, D.tup.injEq, D.lst.injEq, Bool.not_true, decide_eq_true_eq, if_true, if_false, reduceIte, Bool.false_eq_true, Option.isNone_none, Option.isNone_some, Bool.not_false, List.length_nil, List.length_cons, List.nil_append, List.cons_append, D.ref.injEq, SO.lst.injEq, pCall, exists_const, and_self, Nat.zero_add, Nat.zero_le, Nat.reduceLeDiff, Nat.reduceAdd, eq_self, o_add, o_sub, o_mul, o_div, o_mod, o_cmp, o_int, o_lenl, o_lent, o_lens, o_tupl, o_tupt, o_min, o_max, q_int, ixk_tup, ixk_lst, ixk_scr, at0, at1, at2, at3, at4, at5, List.length_map, ln0, ln1, ln2, ln3, ln4, lnS0, lnS2, lnS4, q_id, q_ido, q_oi, q_oid, q_path, q_ln, q_ls, n_id, n_path, n_ln, n_ls, non_oid, non_oln, non_oct, non_id, non_ln, non_ct, non_path, un_ln, un_pl, in_ids, ad_path, eOp_s, eOp_n, lstk_ls, st_ls, fl_Placed_path, fl_Placed_names, fl_Placed_thing, fl_Placed_count, fl_Placed_cuts, fl_Placed_content, fl_Placed_ids, fl_Placed_line, fl_Placed_seen, fl_Shelved_place, fl_Shelved_thing, fl_Shelved_count, fl_Shelved_cuts, fl_Shelved_length, fl_Shelved_purpose, pu0, ly0, ly1, ly3, ly4, ly5, un_ly, pu0, q_str', tag_com]
      cases hc : s.pu.isCom with
      | true => exact ⟨_, at_new', mk_shv (e := ⟨s.place, 0, 0, 0, 0, s.pu⟩) ⟨_, at_new', lp, put _ (by unfold rightO; rw [hl]; show (if s.pu.isCom = true then _ else none) = _; rw [hc]; rfl) _ _⟩⟩
      | false => exact stay (by unfold rightO; rw [hl]; show (if s.pu.isCom = true then _ else none) = _; rw [hc]; rfl) _ _
  · obtain ⟨x3, x4⟩ := hI
    simp only [pForD, pInsL, pExtA, pSeq, pAsg, pVar, pC, pOp, pNil, pCons, pTup, pLst, pLstM, pNot, pAndV, pOrV, pIf, pB, pAnd, pOr, pNotT, pNoPart, pPart, pCB, pUnN, pSl, pNext, pBreak, pCont, pRet, pRetN, pDrop, pIfS, pgName, pgNil, pgCons, pgTup_t, pAug, pApp, pYes, isk_non, nsk_non, isN_non, isN_bl, isN_int, isN_str, isN_tup, isN_lst, isN_ref, isN_obj, pTru, pFld, pStar, pMake, pSetF, pIt, pRng1, pRng2, forG, List.map_cons, List.map_nil, List.getElem?_cons_zero, List.getElem?_cons_succ, List.set_cons_zero, List.set_cons_succ, Option.some.injEq, exists_eq_left, exists_eq_left', true_and, and_true, wipeE, D.bl.injEq, D.int.injEq, D.str.injEq, D.tup.injEq, D.lst.injEq, Bool.not_true, decide_eq_true_eq, if_true, if_false, reduceIte, Bool.false_eq_true, Option.isNone_none, Option.isNone_some, Bool.not_false, List.length_nil, List.length_cons, List.nil_append, List.cons_append, D.ref.injEq, SO.lst.injEq, pCall, exists_const, and_self, Nat.zero_add, Nat.zero_le, Nat.reduceLeDiff, Nat.reduceAdd, eq_self, o_add, o_sub, o_mul, o_div, o_mod, o_cmp, o_int, o_lenl, o_lent, o_lens, o_tupl, o_tupt, o_min, o_max, q_int, ixk_tup, ixk_lst, ixk_scr, at0, at1, at2, at3, at4, at5, List.length_map]
    exact hk
theorem ok_put_right {P : Program} {w : World} {K : PySem.W.Frag} {cl : Cl} {mg : Str → Option Value} {base : Heap} (D : Df K mg "put_right" s_put_right ["shelf", "lying"]) (T : Txt K cl mg) (G_lying_at : C8.Cal P w K mg base 1 "lying_at" (spP K cl F_lying_at) []) (G_right_entry : C8.Cal P w K mg base 3 "right_entry" (spP K cl F_right_entry) []) (M_Shelved : C8.Mak P w K mg base 1 "Shelved" (cl 5) (spS K cl F_Shelved___init) []) : C8.Cal P w K mg base 4 "put_right" (spS K cl F_put_right) [] := by
  refine D.cal sc_put_right (spS_len (n := 2) len_put_right) (fun f cdv  A outer s H vs Q E hr h => ?_)
  refine ⟨_,
    (pss_cons (ps_set (i := 2) sc_put_right.nd rfl (.inl rfl) (pe_lst pa_nil))
    (pss_cons (ps_for PassesOwn.never rfl (show PI _ _ _ (uIt K _) from upi (pv 0)) (pg_name (i := 3) sc_put_right.nd rfl (Or.inl rfl))
      (pss_cons (ps_set (i := 4) sc_put_right.nd rfl (.inl rfl) (C8.pe_c G_lying_at hr (by decide) (by rfl) (pa_cons (pv 1) (pa_cons (show PE _ _ (tFld K _ "place") from pe_fld (pv 3) rfl) pa_nil))))
      (pss_one (ps_if (pt_cmpR op_notN (pv 4) pe_non (nomark _))
        (pss_one (ps_expr (pe_bm PySem.F.plainAttrs_list PySem.F.slot_list_append PySem.F.type_list_append mt_append (pv 2) (pa_cons (C8.pe_c G_right_entry hr (by decide) (by rfl) (pa_cons (pv 3) (pa_cons (pv 4) pa_nil))) pa_nil))))
        (pss_one (ps_if (pt_cmpR (show OpR _ _ (rEqP K) from op_eqP hr.units) (pe_ix (show IxR _ (uIx K) from uix) (show PE _ _ (tFld K _ "purpose") from pe_fld (pv 3) rfl) pe_int (fun _ _ => rfl)) pe_str (nomark _))
          (pss_one (ps_expr (pe_bm PySem.F.plainAttrs_list PySem.F.slot_list_append PySem.F.type_list_append mt_append (pv 2) (pa_cons (C8.pe_mk M_Shelved hr (by decide) (by rfl) (pa_cons (show PE _ _ (tFld K _ "place") from pe_fld (pv 3) rfl) (pa_cons pe_int (pa_cons pe_int (pa_cons pe_int (pa_cons pe_int (pa_cons (show PE _ _ (tFld K _ "purpose") from pe_fld (pv 3) rfl) pa_nil))))))) pa_nil))))
          pss_nil))))))
    (pss_one (ps_ret (pv 2))))), ?_⟩
  exact fnS_ok (N := ["shelf", "lying", "right", "entry", "row"]) (show SmS K cl _ ps_put_right from
    (sm_seq (sm_asg (sm_lstM sm_nil) sm_gname)
    (sm_seq (sm_for (sm_it sm_var) sm_gname
      (sm_seq (sm_asg (sm_call (sm_cons sm_var (sm_cons (sm_fld T.hc_place sm_var) sm_nil))) sm_gname)
      ((sm_ifS (sm_test (sm_op smr_ns sm_var sm_non))
        ((sm_app sm_var (sm_call (sm_cons sm_var (sm_cons sm_var sm_nil)))))
        ((sm_ifS (sm_test (sm_op smr_eq (sm_op smr_ix (sm_fld T.hc_purpose sm_var) sm_int) sm_str))
          ((sm_app sm_var (sm_make (sm_cons (sm_fld T.hc_place sm_var) (sm_cons sm_int (sm_cons sm_int (sm_cons sm_int (sm_cons sm_int (sm_cons (sm_fld T.hc_purpose sm_var) sm_nil)))))))))
          sm_next))))))
    ((sm_ret sm_var))))) body_put_right h
def pr_law_lying_1 : PSx :=
      ((pIfS (pB (pOp eqk (pOp modk (pCB int1k (pCons (pOp divk (pVar 5) (pC (.int 40))) pNil)) (pC (.int 5))) (pC (.int 0))))
        ((pApp (pVar 2) (pTup (pCons (pFld "place" [5] (pVar 4)) (pCons (pC (.int 40)) (pCons (pC (.str (Str.ofString "file"))) (pCons (pC (.int 41)) (pCons (pC (.int 42)) (pCons (pC (.int 43)) pNil)))))))))
        pNext))
def pl_law_lying_1 : PSx :=
      (pSeq (pAsg (pOp ixk (pVar 1) (pVar 3)) (pgName 4))
      (pSeq (pAsg (pOp ixk (pVar 0) (pVar 3)) (pgName 5))
      (pSeq (pAsg (pOp ixk (pLst (pCons (pC (.str (Str.ofString "file"))) (pCons (pC (.str (Str.ofString "folder"))) (pCons (pC (.str (Str.ofString "other"))) pNil)))) (pOp modk (pCB int1k (pCons (pOp divk (pVar 5) (pC (.int 9))) pNil)) (pC (.int 3)))) (pgName 6))
      (pSeq (pIfS (pB (pOp eqk (pOp modk (pCB int1k (pCons (pVar 5) pNil)) (pC (.int 4))) (pC (.int 1))))
        ((pApp (pVar 2) (pTup (pCons (pFld "place" [5] (pVar 4)) (pCons (pFld "thing" [4, 5] (pVar 4)) (pCons (pVar 6) (pCons (pFld "count" [4, 5] (pVar 4)) (pCons (pC (.int 5)) (pCons (pC (.int 6)) pNil)))))))))
        ((pIfS (pB (pOp eqk (pOp modk (pCB int1k (pCons (pVar 5) pNil)) (pC (.int 4))) (pC (.int 2))))
          ((pApp (pVar 2) (pTup (pCons (pFld "place" [5] (pVar 4)) (pCons (pFld "thing" [4, 5] (pVar 4)) (pCons (pVar 6) (pCons (pOp addk (pFld "count" [4, 5] (pVar 4)) (pC (.int 1))) (pCons (pC (.int 5)) (pCons (pC (.int 6)) pNil)))))))))
          ((pIfS (pB (pOp eqk (pOp modk (pCB int1k (pCons (pVar 5) pNil)) (pC (.int 4))) (pC (.int 3))))
            ((pApp (pVar 2) (pTup (pCons (pFld "place" [5] (pVar 4)) (pCons (pOp addk (pFld "thing" [4, 5] (pVar 4)) (pC (.int 1))) (pCons (pVar 6) (pCons (pFld "count" [4, 5] (pVar 4)) (pCons (pC (.int 7)) (pCons (pC (.int 8)) pNil)))))))))
            pNext)))))
      pr_law_lying_1))))
theorem pl_law_lying_1_d (P : PEnds) (env : Pw.Env) (S : Sto) : pl_law_lying_1 P env S = (
      (pSeq (pAsg (pOp ixk (pVar 1) (pVar 3)) (pgName 4))
      (pSeq (pAsg (pOp ixk (pVar 0) (pVar 3)) (pgName 5))
      (pSeq (pAsg (pOp ixk (pLst (pCons (pC (.str (Str.ofString "file"))) (pCons (pC (.str (Str.ofString "folder"))) (pCons (pC (.str (Str.ofString "other"))) pNil)))) (pOp modk (pCB int1k (pCons (pOp divk (pVar 5) (pC (.int 9))) pNil)) (pC (.int 3)))) (pgName 6))
      (pSeq (pIfS (pB (pOp eqk (pOp modk (pCB int1k (pCons (pVar 5) pNil)) (pC (.int 4))) (pC (.int 1))))
        ((pApp (pVar 2) (pTup (pCons (pFld "place" [5] (pVar 4)) (pCons (pFld "thing" [4, 5] (pVar 4)) (pCons (pVar 6) (pCons (pFld "count" [4, 5] (pVar 4)) (pCons (pC (.int 5)) (pCons (pC (.int 6)) pNil)))))))))
        ((pIfS (pB (pOp eqk (pOp modk (pCB int1k (pCons (pVar 5) pNil)) (pC (.int 4))) (pC (.int 2))))
          ((pApp (pVar 2) (pTup (pCons (pFld "place" [5] (pVar 4)) (pCons (pFld "thing" [4, 5] (pVar 4)) (pCons (pVar 6) (pCons (pOp addk (pFld "count" [4, 5] (pVar 4)) (pC (.int 1))) (pCons (pC (.int 5)) (pCons (pC (.int 6)) pNil)))))))))
          ((pIfS (pB (pOp eqk (pOp modk (pCB int1k (pCons (pVar 5) pNil)) (pC (.int 4))) (pC (.int 3))))
            ((pApp (pVar 2) (pTup (pCons (pFld "place" [5] (pVar 4)) (pCons (pOp addk (pFld "thing" [4, 5] (pVar 4)) (pC (.int 1))) (pCons (pVar 6) (pCons (pFld "count" [4, 5] (pVar 4)) (pCons (pC (.int 7)) (pCons (pC (.int 8)) pNil)))))))))
            pNext)))))
      pr_law_lying_1))))) P env S := rfl
def ps_law_lying : PSx :=
    (pSeq (pAsg (pLstM pNil) (pgName 2))
    (pSeq (pFor (pRng1 (pCons (pCB lenk (pCons (pVar 1) pNil)) pNil)) (pgName 3) pl_law_lying_1)
    ((pRet (pOp addk (pVar 2) (pLst (pCons (pTup (pCons (pC (.int 100)) (pCons (pC (.int 1)) (pCons (pC (.str (Str.ofString "file"))) (pCons (pC (.int 0)) (pCons (pC (.int 0)) (pCons (pC (.int 0)) pNil))))))) pNil)))))))
theorem start_law_lying : ∀ a0 a1 : D, startE 7 [a0, a1] = [some a0, some a1, none, none, none, none, none] := fun _ _ => rfl
inductive ILy (S0 : Sto) (c0 c1 : D) (n : Nat) : Pw.Env → Sto → Prop
  | mk (ly : List Ly) (x3 x4 x5 x6 : Option D) (h : ly.length ≤ 2 * n) : ILy S0 c0 c1 n [some c0, some c1, some (.ref S0.length), x3, x4, x5, x6] (S0 ++ [.lst (ly.map eLy)])
def F_law_lying : PFn := fun ds k => ∃ (rs : List Int) (ss : List Shv), ds = [.lst (rs.map D.int), .lst (ss.map eShv)] ∧ ss.length ≤ rs.length ∧ ss.length ≤ 1000 ∧ ∀ ly : List Ly, ly.length ≤ 2001 → k (.lst (ly.map eLy))
theorem len_law_lying : ∀ ds k, F_law_lying ds k → ds.length = 2 := by
  rintro _ _ ⟨_, _, rfl, _⟩
  rfl
theorem f45s {S : Sto} (s : Shv) : fldOf [4, 5] (Str.ofString "thing") S (eShv s) = some (.int s.thing) := fo (by decide) (i := 1) (by decide +kernel) rfl
theorem f45c {S : Sto} (s : Shv) : fldOf [4, 5] (Str.ofString "count") S (eShv s) = some (.int s.count) := fo (by decide) (i := 2) (by decide +kernel) rfl
theorem body_law_lying : ∀ ds k, F_law_lying ds k → ps_law_lying { nx := fun _ _ => k .non, rt := fun d S => (d.frz S).noRef = true ∧ k (d.frz S) } (startE 7 ds) [] := by
  rintro _ k ⟨rs, ss, rfl, hr, hs, hk⟩
  rw [start_law_lying]
  unfold ps_law_lying
  simp only [pForD, pInsL, pExtA, pSeq, pAsg, pVar, pC, pOp, pNil, pCons, pTup, pLst, pLstM, pNot, pAndV, pOrV, pIf, pB, pAnd, pOr, pNotT, pNoPart, pPart, pCB, pUnN, pSl, pNext, pBreak, pCont, pRet, pRetN, pDrop, pIfS, pgName, pgNil, pgCons, pgTup_t, pAug, pApp, pYes, isk_non, nsk_non, isN_non, isN_bl, isN_int, isN_str, isN_tup, isN_lst, isN_ref, isN_obj, pTru, pFld, pStar, pMake, pSetF, pIt, pRng1, pRng2, forG, List.map_cons, List.map_nil, List.getElem?_cons_zero, List.getElem?_cons_succ, List.set_cons_zero, List.set_cons_succ, Option.some.injEq, exists_eq_left, exists_eq_left', true_and, and_true, wipeE, D.bl.injEq, D.int.injEq, D.str.injEq, D.tup.injEq, D.lst.injEq, Bool.not_true, decide_eq_true_eq, if_true, if_false, reduceIte, Bool.false_eq_true, Option.isNone_none, Option.isNone_some, Bool.not_false, List.length_nil, List.length_cons, List.nil_append, List.cons_append, D.ref.injEq, SO.lst.injEq, pCall, exists_const, and_self, Nat.zero_add, Nat.zero_le, Nat.reduceLeDiff, Nat.reduceAdd, eq_self, o_add, o_sub, o_mul, o_div, o_mod, o_cmp, o_int, o_lenl, o_lent, o_lens, o_tupl, o_tupt, o_min, o_max, q_int, ixk_tup, ixk_lst, ixk_scr, at0, at1, at2, at3, at4, at5, List.length_map]
  refine for_inv (src := .lst (rngD ss.length)) (List.range ss.length) (fun (i : Nat) => .int (i : Int)) (fun pre => ILy [] (.lst (rs.map D.int)) (.lst (ss.map eShv)) pre.length) (fun kk h => ?_) (.mk [] _ _ _ _ (Nat.zero_le _)) (fun _ _ _ _ => rfl) (fun i a ha env S' hI => ?_) (fun env S' hI => ?_)
  · simp only [pForD, pInsL, pExtA, pSeq, pAsg, pVar, pC, pOp, pNil, pCons, pTup, pLst, pLstM, pNot, pAndV, pOrV, pIf, pB, pAnd, pOr, pNotT, pNoPart, pPart, pCB, pUnN, pSl, pNext, pBreak, pCont, pRet, pRetN, pDrop, pIfS, pgName, pgNil, pgCons, pgTup_t, pAug, pApp, pYes, isk_non, nsk_non, isN_non, isN_bl, isN_int, isN_str, isN_tup, isN_lst, isN_ref, isN_obj, pTru, pFld, pStar, pMake, pSetF, pIt, pRng1, pRng2, forG, List.map_cons, List.map_nil, List.getElem?_cons_zero, List.getElem?_cons_succ, List.set_cons_zero, List.set_cons_succ, Option.some.injEq, exists_eq_left, exists_eq_left', true_and, and_true, wipeE, D.bl.injEq, D.int.injEq, D.str.injEq, D.tup.injEq, D.lst.injEq, Bool.not_true, decide_eq_true_eq, if_true, if_false, reduceIte, Bool.false_eq_true, Option.isNone_none, Option.isNone_some, Bool.not_false, List.length_nil, List.length_cons, List.nil_append, List.cons_append, D.ref.injEq, SO.lst.injEq, pCall, exists_const, and_self, Nat.zero_add, Nat.zero_le, Nat.reduceLeDiff, Nat.reduceAdd, eq_self, o_add, o_sub, o_mul, o_div, o_mod, o_cmp, o_int, o_lenl, o_lent, o_lens, o_tupl, o_tupt, o_min, o_max, q_int, ixk_tup, ixk_lst, ixk_scr, at0, at1, at2, at3, at4, at5, List.length_map]
    exact ⟨_, rfl, ⟨by omega, by omega⟩, h⟩
  · obtain ⟨hi, rfl⟩ := List.getElem?_eq_some_iff.mp ha
    rw [List.length_range] at hi
    rw [List.getElem_range, List.length_append, List.length_take, List.length_range, List.length_singleton]
    rw [List.length_take, List.length_range] at hI
    rw [show min i ss.length = i by omega] at hI ⊢
    obtain ⟨ly, x3, x4, x5, x6, hly⟩ := hI
    have stay : ∀ (ly : List Ly) (x3 x4 x5 x6 : Option D), ly.length ≤ 2 * i + 1 → ILy [] (.lst (rs.map D.int)) (.lst (ss.map eShv)) (i + 1) [some (.lst (rs.map D.int)), some (.lst (ss.map eShv)), some (.ref 0), x3, x4, x5, x6] [SO.lst (ly.map eLy)] := fun ly _ _ _ _ h => .mk (S0 := []) ly _ _ _ _ (by omega)
    have put : ∀ (ly : List Ly) (l : Ly) (x3 x4 x5 x6 : Option D), ly.length ≤ 2 * i + 1 → ILy [] (.lst (rs.map D.int)) (.lst (ss.map eShv)) (i + 1) [some (.lst (rs.map D.int)), some (.lst (ss.map eShv)), some (.ref 0), x3, x4, x5, x6] [SO.lst (ly.map eLy ++ [eLy l])] := fun ly l _ _ _ _ h => by
      rw [show ly.map eLy ++ [eLy l] = (ly ++ [l]).map eLy by rw [List.map_append]; rfl]
      exact .mk (S0 := []) (ly ++ [l]) _ _ _ _ (by rw [List.length_append, List.length_singleton]; omega)
    generalize ILy [] (.lst (rs.map D.int)) (.lst (ss.map eShv)) (i + 1) = J at stay put ⊢
    simp only [pForD, pInsL, pExtA, pSeq, pAsg, pVar, pC, pOp, pNil, pCons, pTup, pLst, pLstM, pNot, pAndV, pOrV, pIf, pB, pAnd, pOr, pNotT, pNoPart, pPart, pCB, pUnN, pSl, pNext, pBreak, pCont, pRet, pRetN, pDrop, pIfS, pgName, pgNil, pgCons, pgTup_t, pAug, pApp, pYes, isk_non, nsk_non, isN_non, isN_bl, isN_int, isN_str, isN_tup, isN_lst, isN_ref, isN_obj, pTru, pFld, pStar, pMake, pSetF, pIt, pRng1, pRng2, forG, List.map_cons, List.map_nil, List.getElem?_cons_zero, List.getElem?_cons_succ, List.set_cons_zero, List.set_cons_succ, Option.some.injEq, exists_eq_left, exists_eq_left', true_and, and_true, wipeE, D.bl.injEq, D.int.injEq, D.str.injEq, D.tup.injEq, D.lst.injEq, Bool.not_true, decide_eq_true_eq, if_true, if_false, reduceIte, Bool.false_eq_true, Option.isNone_none, Option.isNone_some, Bool.not_false, List.length_nil, List.length_cons, List.nil_append, List.cons_append, D.ref.injEq, SO.lst.injEq, pCall, exists_const, and_self, Nat.zero_add, Nat.zero_le, Nat.reduceLeDiff, Nat.reduceAdd, eq_self, o_add, o_sub, o_mul, o_div, o_mod, o_cmp, o_int, o_lenl, o_lent, o_lens, o_tupl, o_tupt, o_min, o_max, q_int, ixk_tup, ixk_lst, ixk_scr, at0, at1, at2, at3, at4, at5, List.length_map, pl_law_lying_1_d]
    refine ⟨_, at_map (List.getElem?_eq_getElem hi), _, at_map (List.getElem?_eq_getElem (by omega)), ?_⟩
    generalize ss[i] = s
    generalize rs[i] = r
    simp only [pForD, pInsL, pExtA, pSeq, pAsg, pVar, pC, pOp, pNil, pCons, pTup, pLst, pLstM, pNot, pAndV, pOrV, pIf, pB, pAnd, pOr, pNotT, pNoPart, pPart, pCB, pUnN, pSl, pNext, pBreak, pCont, pRet, pRetN, pDrop, pIfS, pgName, pgNil, pgCons, pgTup_t, pAug, pApp, pYes, isk_non, nsk_non, isN_non, isN_bl, isN_int, isN_str, isN_tup, isN_lst, isN_ref, isN_obj, pTru, pFld, pStar, pMake, pSetF, pIt, pRng1, pRng2, forG, List.map_cons, List.map_nil, List.getElem?_cons_zero, List.getElem?_cons_succ, List.set_cons_zero, List.set_cons_succ, Option.some.injEq, exists_eq_left, exists_eq_left', true_and, and_true, wipeE, D.bl.injEq, D.int.injEq, D.str.injEq, D.tup.injEq, D.lst.injEq, Bool.not_true, decide_eq_true_eq, if_true, if_false, reduceIte, Bool.false_eq_true, Option.isNone_none, Option.isNone_some, Bool.not_false, List.length_nil, List.length_cons, List.nil_append, List.cons_append, D.ref.injEq, SO.lst.injEq, pCall, exists_const, and_self, Nat.zero_add, Nat.zero_le, Nat.reduceLeDiff, Nat.reduceAdd, eq_self, o_add, o_sub, o_mul, o_div, o_mod, o_cmp, o_int, o_lenl, o_lent, o_lens, o_tupl, o_tupt, o_min, o_max, q_int, ixk_tup, ixk_lst, ixk_scr, at0, at1, at2, at3, at4, at5, List.length_map]
    refine ⟨⟨by decide, by decide⟩, by decide, ?_⟩
    have hm := mod_bd (r / 9) 3 (by decide)
    have h3 : r / 9 % 3 = 0 ∨ r / 9 % 3 = 1 ∨ r / 9 % 3 = 2 := by omega
    obtain ⟨kd, e⟩ : ∃ kd : Str, L2.atI [.str (Str.ofString "file"), .str (Str.ofString "folder"), .str (Str.ofString "other")] (r / 9 % 3) = some (D.str kd) := by
      rcases h3 with z | z | z <;> rw [z]
      · exact ⟨_, at0⟩
      · exact ⟨_, at1⟩
      · exact ⟨_, at2⟩
    refine ⟨_, e, ?_⟩
    have fin : ∀ (P : PEnds) (ly : List Ly), P.nx = J → ly.length ≤ 2 * i + 1 → pr_law_lying_1 P [some (.lst (rs.map D.int)), some (.lst (ss.map eShv)), some (.ref 0), some (.int (i : Int)), some (eShv s), some (.int r), some (.str kd)] [SO.lst (ly.map eLy)] := fun P ly hP hl => by
      unfold pr_law_lying_1
      simp only [pForD, pInsL, pExtA, pSeq, pAsg, pVar, pC, pOp, pNil, pCons, pTup, pLst, pLstM, pNot, pAndV, pOrV, pIf, pB, pAnd, pOr, pNotT, pNoPart, pPart, pCB, pUnN, pSl, pNext, pBreak, pCont, pRet, pRetN, pDrop, pIfS, pgName, pgNil, pgCons, pgTup_t, pAug, pApp, pYes, isk_non, nsk_non, isN_non, isN_bl, isN_int, isN_str, isN_tup, isN_lst, isN_ref, isN_obj, pTru, pFld, pStar, pMake, pSetF, pIt, pRng1, pRng2, forG, List.map_cons, List.map_nil, List.getElem?_cons_zero, List.getElem?_cons_succ, List.set_cons_zero, List.set_cons_succ, Option.some.injEq, exists_eq_left, exists_eq_left', true_and, and_true, wipeE, D.bl.injEq, D.int.injEq, D.str.injEq, D.tup.injEq, D.lst.injEq, Bool.not_true, decide_eq_true_eq, if_true, if_false, reduceIte, Bool.false_eq_true, Option.isNone_none, Option.isNone_some, Bool.not_false, List.length_nil, List.length_cons, List.nil_append, List.cons_append, D.ref.injEq, SO.lst.injEq, pCall, exists_const, and_self, Nat.zero_add, Nat.zero_le, Nat.reduceLeDiff, Nat.reduceAdd, eq_self, o_add, o_sub, o_mul, o_div, o_mod, o_cmp, o_int, o_lenl, o_lent, o_lens, o_tupl, o_tupt, o_min, o_max, q_int, ixk_tup, ixk_lst, ixk_scr, at0, at1, at2, at3, at4, at5, List.length_map, ln0, ln1, ln2, ln3, ln4, lnS0, lnS2, lnS4, q_id, q_ido, q_oi, q_oid, q_path, q_ln, q_ls, n_id, n_path, n_ln, n_ls, non_oid, non_oln, non_oct, non_id, non_ln, non_ct, non_path, un_ln, un_pl, in_ids, ad_path, eOp_s, eOp_n, lstk_ls, st_ls, fl_Placed_path, fl_Placed_names, fl_Placed_thing, fl_Placed_count, fl_Placed_cuts, fl_Placed_content, fl_Placed_ids, fl_Placed_line, fl_Placed_seen, fl_Shelved_place, fl_Shelved_thing, fl_Shelved_count, fl_Shelved_cuts, fl_Shelved_length, fl_Shelved_purpose, pu0, ly0, ly1, ly3, ly4, ly5, un_ly]
      refine ⟨⟨by decide, by decide⟩, by decide, ?_⟩
      by_cases c : r / 40 % 5 = 0
      · rw [if_pos c, hP]
        exact ⟨by omega, put ly ⟨s.place, 40, Str.ofString "file", 41, 42, 43⟩ _ _ _ _ hl⟩
      · rw [if_neg c, hP]
        exact stay ly _ _ _ _ hl
    have fin2 : ∀ (P : PEnds) (l : Ly), P.nx = J → pr_law_lying_1 P [some (.lst (rs.map D.int)), some (.lst (ss.map eShv)), some (.ref 0), some (.int (i : Int)), some (eShv s), some (.int r), some (.str kd)] [SO.lst (ly.map eLy ++ [eLy l])] := fun P l hP => by
      rw [show ly.map eLy ++ [eLy l] = (ly ++ [l]).map eLy by rw [List.map_append]; rfl]
      exact fin P (ly ++ [l]) hP (by rw [List.length_append, List.length_singleton]; omega)
    simp only [f45s, f45c, fl_Shelved_place, Option.some.injEq, exists_eq_left', o_add]
    refine ⟨by decide, ?_⟩
    by_cases c1 : r % 4 = 1
    · rw [if_pos c1]
      exact ⟨by omega, fin2 _ ⟨s.place, s.thing, kd, s.count, 5, 6⟩ rfl⟩
    · rw [if_neg c1]
      refine ⟨by decide, ?_⟩
      by_cases c2 : r % 4 = 2
      · rw [if_pos c2]
        exact ⟨by omega, fin2 _ ⟨s.place, s.thing, kd, s.count + 1, 5, 6⟩ rfl⟩
      · rw [if_neg c2]
        refine ⟨by decide, ?_⟩
        by_cases c3 : r % 4 = 3
        · rw [if_pos c3]
          exact ⟨by omega, fin2 _ ⟨s.place, s.thing + 1, kd, s.count, 7, 8⟩ rfl⟩
        · rw [if_neg c3]
          exact fin _ ly rfl (by omega)
  · rw [List.length_range] at hI
    obtain ⟨ly, x3, x4, x5, x6, hly⟩ := hI
    simp only [pForD, pInsL, pExtA, pSeq, pAsg, pVar, pC, pOp, pNil, pCons, pTup, pLst, pLstM, pNot, pAndV, pOrV, pIf, pB, pAnd, pOr, pNotT, pNoPart, pPart, pCB, pUnN, pSl, pNext, pBreak, pCont, pRet, pRetN, pDrop, pIfS, pgName, pgNil, pgCons, pgTup_t, pAug, pApp, pYes, isk_non, nsk_non, isN_non, isN_bl, isN_int, isN_str, isN_tup, isN_lst, isN_ref, isN_obj, pTru, pFld, pStar, pMake, pSetF, pIt, pRng1, pRng2, forG, List.map_cons, List.map_nil, List.getElem?_cons_zero, List.getElem?_cons_succ, List.set_cons_zero, List.set_cons_succ, Option.some.injEq, exists_eq_left, exists_eq_left', true_and, and_true, wipeE, D.bl.injEq, D.int.injEq, D.str.injEq, D.tup.injEq, D.lst.injEq, Bool.not_true, decide_eq_true_eq, if_true, if_false, reduceIte, Bool.false_eq_true, Option.isNone_none, Option.isNone_some, Bool.not_false, List.length_nil, List.length_cons, List.nil_append, List.cons_append, D.ref.injEq, SO.lst.injEq, pCall, exists_const, and_self, Nat.zero_add, Nat.zero_le, Nat.reduceLeDiff, Nat.reduceAdd, eq_self, o_add, o_sub, o_mul, o_div, o_mod, o_cmp, o_int, o_lenl, o_lent, o_lens, o_tupl, o_tupt, o_min, o_max, q_int, ixk_tup, ixk_lst, ixk_scr, at0, at1, at2, at3, at4, at5, List.length_map]
    refine ⟨ly.map eLy, _, lo_ref (show [SO.lst (ly.map eLy)][0]? = some (.lst (ly.map eLy)) from rfl), rfl, by rw [List.length_map]; show ly.length + 1 ≤ _; omega, ?_⟩
    have e : D.lst (ly.map eLy ++ [D.tup [.int 100, .int 1, .str (Str.ofString "file"), .int 0, .int 0, .int 0]]) = .lst ((ly ++ [(⟨100, 1, Str.ofString "file", 0, 0, 0⟩ : Ly)]).map eLy) := by
      rw [List.map_append]
      rfl
    rw [e]
    exact rt_pure (d := .lst ((ly ++ [(⟨100, 1, Str.ofString "file", 0, 0, 0⟩ : Ly)]).map eLy)) (show (D.lst _).pure = true from pureAll_map pu_ly _) (hk _ (by rw [List.length_append, List.length_singleton]; omega))
theorem ok_law_lying {P : Program} {w : World} {K : PySem.W.Frag} {cl : Cl} {mg : Str → Option Value} {base : Heap} (D : Df K mg "_law_lying" s_law_lying ["rows", "shelf"]) (T : Txt K cl mg)  : C8.Cal P w K mg base 1 "_law_lying" (spP K cl F_law_lying) [] := by
  refine D.cal sc_law_lying (spP_len (n := 2) len_law_lying) (fun f cdv  A outer s H vs Q E hr h => ?_)
  refine ⟨_,
    (pss_cons (ps_set (i := 2) sc_law_lying.nd rfl (.inl rfl) (pe_lst pa_nil))
    (pss_cons (ps_for PassesOwn.never rfl (pi_range1 (by rfl) T.n_range (pa_cons (pe_callB (show CallR _ (.builtin "len") (uLen K) from ucall_len) (by rfl) T.n_len PySem.boot_len (pa_cons (pv 1) pa_nil)) pa_nil)) (pg_name (i := 3) sc_law_lying.nd rfl (Or.inl rfl))
      (pss_cons (ps_set (i := 4) sc_law_lying.nd rfl (.inl rfl) (pe_ix (show IxR _ (uIx K) from uix) (pv 1) (pv 3) (fun _ _ => rfl)))
      (pss_cons (ps_set (i := 5) sc_law_lying.nd rfl (.inl rfl) (pe_ix (show IxR _ (uIx K) from uix) (pv 0) (pv 3) (fun _ _ => rfl)))
      (pss_cons (ps_set (i := 6) sc_law_lying.nd rfl (.inl rfl) (pe_ix (show IxR _ (uIx K) from uix) (pe_lst (pa_cons pe_str (pa_cons pe_str (pa_cons pe_str pa_nil)))) (pe_op op_mod (pe_callTy call_int1 (by rfl) T.n_int (by decide +kernel) (pa_cons (pe_op op_fdiv (pv 5) pe_int) pa_nil)) pe_int) (fun _ _ => rfl)))
      (pss_cons (ps_if (pt_cmpR (show OpR _ _ (rEqP K) from op_eqP hr.units) (pe_op op_mod (pe_callTy call_int1 (by rfl) T.n_int (by decide +kernel) (pa_cons (pv 5) pa_nil)) pe_int) pe_int (nomark _))
        (pss_one (ps_expr (pe_bm PySem.F.plainAttrs_list PySem.F.slot_list_append PySem.F.type_list_append mt_append (pv 2) (pa_cons (pe_tup (pa_cons (show PE _ _ (tFld K _ "place") from pe_fld (pv 4) rfl) (pa_cons (show PE _ _ (tFld K _ "thing") from pe_fld (pv 4) rfl) (pa_cons (pv 6) (pa_cons (show PE _ _ (tFld K _ "count") from pe_fld (pv 4) rfl) (pa_cons pe_int (pa_cons pe_int pa_nil))))))) pa_nil))))
        (pss_one (ps_if (pt_cmpR (show OpR _ _ (rEqP K) from op_eqP hr.units) (pe_op op_mod (pe_callTy call_int1 (by rfl) T.n_int (by decide +kernel) (pa_cons (pv 5) pa_nil)) pe_int) pe_int (nomark _))
          (pss_one (ps_expr (pe_bm PySem.F.plainAttrs_list PySem.F.slot_list_append PySem.F.type_list_append mt_append (pv 2) (pa_cons (pe_tup (pa_cons (show PE _ _ (tFld K _ "place") from pe_fld (pv 4) rfl) (pa_cons (show PE _ _ (tFld K _ "thing") from pe_fld (pv 4) rfl) (pa_cons (pv 6) (pa_cons (pe_op (show OpR _ _ (uAdd K) from uop_add) (show PE _ _ (tFld K _ "count") from pe_fld (pv 4) rfl) pe_int) (pa_cons pe_int (pa_cons pe_int pa_nil))))))) pa_nil))))
          (pss_one (ps_if (pt_cmpR (show OpR _ _ (rEqP K) from op_eqP hr.units) (pe_op op_mod (pe_callTy call_int1 (by rfl) T.n_int (by decide +kernel) (pa_cons (pv 5) pa_nil)) pe_int) pe_int (nomark _))
            (pss_one (ps_expr (pe_bm PySem.F.plainAttrs_list PySem.F.slot_list_append PySem.F.type_list_append mt_append (pv 2) (pa_cons (pe_tup (pa_cons (show PE _ _ (tFld K _ "place") from pe_fld (pv 4) rfl) (pa_cons (pe_op (show OpR _ _ (uAdd K) from uop_add) (show PE _ _ (tFld K _ "thing") from pe_fld (pv 4) rfl) pe_int) (pa_cons (pv 6) (pa_cons (show PE _ _ (tFld K _ "count") from pe_fld (pv 4) rfl) (pa_cons pe_int (pa_cons pe_int pa_nil))))))) pa_nil))))
            pss_nil)))))
      (pss_one (ps_if (pt_cmpR (show OpR _ _ (rEqP K) from op_eqP hr.units) (pe_op op_mod (pe_callTy call_int1 (by rfl) T.n_int (by decide +kernel) (pa_cons (pe_op op_fdiv (pv 5) pe_int) pa_nil)) pe_int) pe_int (nomark _))
        (pss_one (ps_expr (pe_bm PySem.F.plainAttrs_list PySem.F.slot_list_append PySem.F.type_list_append mt_append (pv 2) (pa_cons (pe_tup (pa_cons (show PE _ _ (tFld K _ "place") from pe_fld (pv 4) rfl) (pa_cons pe_int (pa_cons pe_str (pa_cons pe_int (pa_cons pe_int (pa_cons pe_int pa_nil))))))) pa_nil))))
        pss_nil)))))))
    (pss_one (ps_ret (pe_op (show OpR _ _ (uAdd K) from uop_add) (pv 2) (pe_lst (pa_cons (pe_tup (pa_cons pe_int (pa_cons pe_int (pa_cons pe_str (pa_cons pe_int (pa_cons pe_int (pa_cons pe_int pa_nil))))))) pa_nil))))))), ?_⟩
  exact fn_ok (N := ["rows", "shelf", "lying", "k", "entry", "row", "kind"]) (show SmS K cl _ ps_law_lying from
    (sm_seq (sm_asg (sm_lstM sm_nil) sm_gname)
    (sm_seq (sm_for (sm_rng1 (sm_cons (sm_cb smc_len (sm_cons sm_var sm_nil)) sm_nil)) sm_gname
      (sm_seq (sm_asg (sm_op smr_ix sm_var sm_var) sm_gname)
      (sm_seq (sm_asg (sm_op smr_ix sm_var sm_var) sm_gname)
      (sm_seq (sm_asg (sm_op smr_ix (sm_lst (sm_cons sm_str (sm_cons sm_str (sm_cons sm_str sm_nil)))) (sm_op smr_mod (sm_cb smc_int (sm_cons (sm_op smr_div sm_var sm_int) sm_nil)) sm_int)) sm_gname)
      (sm_seq (sm_ifS (sm_test (sm_op smr_eq (sm_op smr_mod (sm_cb smc_int (sm_cons sm_var sm_nil)) sm_int) sm_int))
        ((sm_app sm_var (sm_tup (sm_cons (sm_fld T.hc_place sm_var) (sm_cons (sm_fld T.hc_thing sm_var) (sm_cons sm_var (sm_cons (sm_fld T.hc_count sm_var) (sm_cons sm_int (sm_cons sm_int sm_nil)))))))))
        ((sm_ifS (sm_test (sm_op smr_eq (sm_op smr_mod (sm_cb smc_int (sm_cons sm_var sm_nil)) sm_int) sm_int))
          ((sm_app sm_var (sm_tup (sm_cons (sm_fld T.hc_place sm_var) (sm_cons (sm_fld T.hc_thing sm_var) (sm_cons sm_var (sm_cons (sm_op smr_add (sm_fld T.hc_count sm_var) sm_int) (sm_cons sm_int (sm_cons sm_int sm_nil)))))))))
          ((sm_ifS (sm_test (sm_op smr_eq (sm_op smr_mod (sm_cb smc_int (sm_cons sm_var sm_nil)) sm_int) sm_int))
            ((sm_app sm_var (sm_tup (sm_cons (sm_fld T.hc_place sm_var) (sm_cons (sm_op smr_add (sm_fld T.hc_thing sm_var) sm_int) (sm_cons sm_var (sm_cons (sm_fld T.hc_count sm_var) (sm_cons sm_int (sm_cons sm_int sm_nil)))))))))
            sm_next)))))
      ((sm_ifS (sm_test (sm_op smr_eq (sm_op smr_mod (sm_cb smc_int (sm_cons (sm_op smr_div sm_var sm_int) sm_nil)) sm_int) sm_int))
        ((sm_app sm_var (sm_tup (sm_cons (sm_fld T.hc_place sm_var) (sm_cons sm_int (sm_cons sm_str (sm_cons sm_int (sm_cons sm_int (sm_cons sm_int sm_nil)))))))))
        sm_next)))))))
    ((sm_ret (sm_op smr_add sm_var (sm_lst (sm_cons (sm_tup (sm_cons sm_int (sm_cons sm_int (sm_cons sm_str (sm_cons sm_int (sm_cons sm_int (sm_cons sm_int sm_nil))))))) sm_nil)))))))) body_law_lying h
def ps_law_expected : PSx :=
    (pSeq (pAsg (pVar 0) (pgTup 6 (pgCons (pgName 2) (pgCons (pgName 3) (pgCons (pgName 4) (pgCons (pgName 5) (pgCons (pgName 6) (pgCons (pgName 7) pgNil))))))))
    (pSeq (pAsg (pLc (pIt (pVar 1)) (pgName 8) (pB (pOp eqk (pOp ixk (pVar 8) (pC (.int 0))) (pVar 2))) (pVar 8) [8]) (pgName 9))
    (pSeq (pIfS (pB (pOp eqk (pVar 9) (pLst pNil)))
      (pSeq (pIfS (pB (pOp eqk (pOp ixk (pVar 7) (pC (.int 0))) (pC (.str (Str.ofString "coming")))))
        ((pRet (pTup (pCons (pVar 2) (pCons (pC (.int 0)) (pCons (pC (.int 0)) (pCons (pC (.int 0)) (pCons (pC (.int 0)) (pCons (pVar 7) pNil)))))))))
        pNext)
      ((pRet (pC .non))))
      pNext)
    (pSeq (pAsg (pOp ixk (pVar 9) (pC (.int 0))) (pgName 8))
    (pSeq (pIfS (pB (pOp nek (pOp ixk (pVar 7) (pC (.int 0))) (pC (.str (Str.ofString "kept")))))
      ((pRet (pTup (pCons (pVar 2) (pCons (pOp ixk (pVar 8) (pC (.int 1))) (pCons (pOp ixk (pVar 8) (pC (.int 3))) (pCons (pOp ixk (pVar 8) (pC (.int 4))) (pCons (pOp ixk (pVar 8) (pC (.int 5))) (pCons (pVar 7) pNil)))))))))
      pNext)
    (pSeq (pIfS (pB (pOp eqk (pTup (pCons (pOp ixk (pVar 8) (pC (.int 1))) (pCons (pOp ixk (pVar 8) (pC (.int 3))) pNil))) (pTup (pCons (pVar 3) (pCons (pVar 4) pNil)))))
      ((pRet (pVar 0)))
      pNext)
    ((pRet (pTup (pCons (pVar 2) (pCons (pOp ixk (pVar 8) (pC (.int 1))) (pCons (pOp ixk (pVar 8) (pC (.int 3))) (pCons (pOp ixk (pVar 8) (pC (.int 4))) (pCons (pOp ixk (pVar 8) (pC (.int 5))) (pCons (pTup (pCons (pC (.str (Str.ofString "found"))) (pCons (pOp ixk (pVar 7) (pC (.int 1))) pNil))) pNil)))))))))))))))
theorem start_law_expected : ∀ a0 a1 : D, startE 10 [a0, a1] = [some a0, some a1, none, none, none, none, none, none, none, none] := fun _ _ => rfl
theorem ru0 {S : Sto} {p : Pu} {k : D → Prop} : ixk S (rowU p) (.int 0) k = k (.str (puTag p)) := by
  cases p <;> (unfold rowU; first | (rw [ixk_tup, at0]; simp [puTag]) | (unfold ePu; rw [ixk_tup, at0]; simp [puTag]))
theorem un_row {s : Shv} {env : Pw.Env} {S : Sto} {k : Pw.Env → Sto → Prop} {gs : PGsx} : pgTup 6 gs (rowS s) env S k = gs [.int s.place, .int s.thing, .int s.count, .int s.cuts, .int s.length, rowU s.pu] env S k := by
  unfold rowS
  rw [pgTup_t]
  simp
theorem q_nil {S : Sto} {l : List Ly} {k : D → Prop} : Pw.eqk S (.lst (l.map eLy)) (.lst []) k = k (.bl l.isEmpty) := by
  rw [eqk_pure (show (D.lst (l.map eLy)).pure = true from pureAll_map pu_ly _) rfl (Nat.le_trans (dep_lst (dep_map d_ly l)) (by decide))]
  cases l <;> rfl
theorem n_nil {S : Sto} {l : List Ly} {k : D → Prop} : Pw.nek S (.lst (l.map eLy)) (.lst []) k = k (.bl (!l.isEmpty)) := by
  rw [nek_pure (show (D.lst (l.map eLy)).pure = true from pureAll_map pu_ly _) rfl (Nat.le_trans (dep_lst (dep_map d_ly l)) (by decide))]
  cases l <;> rfl
theorem q_two {S : Sto} {a b c d : Int} {k : D → Prop} : Pw.eqk S (.tup [.int a, .int b]) (.tup [.int c, .int d]) k = k (.bl (decide (a = c ∧ b = d))) := by
  have := q_id (S := S) (a := (a, b)) (b := (c, d)) (k := k)
  rw [show decide (a = c ∧ b = d) = decide (((a, b) : Ln.Id) = (c, d)) by rw [Bool.eq_iff_iff, decide_eq_true_eq, decide_eq_true_eq, Prod.mk.injEq]]
  exact this
def F_law_expected : PFn := fun ds k => ∃ (s : Shv) (ly : List Ly), ds = [rowS s, .lst (ly.map eLy)] ∧ ly.length ≤ 3000 ∧ k (eOp rowS (rightO ly s))
theorem len_law_expected : ∀ ds k, F_law_expected ds k → ds.length = 2 := by
  rintro _ _ ⟨_, _, rfl, _⟩
  rfl
theorem body_law_expected : ∀ ds k, F_law_expected ds k → ps_law_expected { nx := fun _ _ => k .non, rt := fun d S => (d.frz S).noRef = true ∧ k (d.frz S) } (startE 10 ds) [] := by
  rintro _ k ⟨s, ly, rfl, hl, hk⟩
  rw [start_law_expected]
  unfold ps_law_expected
  simp only [pForD, pInsL, pExtA, pSeq, pAsg, pVar, pC, pOp, pNil, pCons, pTup, pLst, pLstM, pNot, pAndV, pOrV, pIf, pB, pAnd, pOr, pNotT, pNoPart, pPart, pCB, pUnN, pSl, pNext, pBreak, pCont, pRet, pRetN, pDrop, pIfS, pgName, pgNil, pgCons, pgTup_t, pAug, pApp, pYes, isk_non, nsk_non, isN_non, isN_bl, isN_int, isN_str, isN_tup, isN_lst, isN_ref, isN_obj, pTru, pFld, pStar, pMake, pSetF, pIt, pRng1, pRng2, forG, List.map_cons, List.map_nil, List.getElem?_cons_zero, List.getElem?_cons_succ, List.set_cons_zero, List.set_cons_succ, Option.some.injEq, exists_eq_left, exists_eq_left', true_and, and_true, wipeE, D.bl.injEq, D.int.injEq, D.str.injEq, D.tup.injEq, D.lst.injEq, Bool.not_true, decide_eq_true_eq, if_true, if_false, reduceIte, Bool.false_eq_true, Option.isNone_none, Option.isNone_some, Bool.not_false, List.length_nil, List.length_cons, List.nil_append, List.cons_append, D.ref.injEq, SO.lst.injEq, pCall, exists_const, and_self, Nat.zero_add, Nat.zero_le, Nat.reduceLeDiff, Nat.reduceAdd, eq_self, o_add, o_sub, o_mul, o_div, o_mod, o_cmp, o_int, o_lenl, o_lent, o_lens, o_tupl, o_tupt, o_min, o_max, q_int, ixk_tup, ixk_lst, ixk_scr, at0, at1, at2, at3, at4, at5, List.length_map, ln0, ln1, ln2, ln3, ln4, lnS0, lnS2, lnS4, q_id, q_ido, q_oi, q_oid, q_path, q_ln, q_ls, n_id, n_path, n_ln, n_ls, non_oid, non_oln, non_oct, non_id, non_ln, non_ct, non_path, un_ln, un_pl, in_ids, ad_path, eOp_s, eOp_n, lstk_ls, st_ls, fl_Placed_path, fl_Placed_names, fl_Placed_thing, fl_Placed_count, fl_Placed_cuts, fl_Placed_content, fl_Placed_ids, fl_Placed_line, fl_Placed_seen, fl_Shelved_place, fl_Shelved_thing, fl_Shelved_count, fl_Shelved_cuts, fl_Shelved_length, fl_Shelved_purpose, pu0, ly0, ly1, ly3, ly4, ly5, un_ly, un_row, ru0, q_nil, n_nil]
  refine lc_go (src := .lst (ly.map eLy)) (as := ly) (enc := eLy) (fun l => decide (l.place = s.place)) eLy (fun kk h => ⟨_, rfl, _, rfl, h⟩) (fun _ => rfl) (by omega) (fun a ha k2 k3 h => ?_) ?_
  · simp only [pForD, pInsL, pExtA, pSeq, pAsg, pVar, pC, pOp, pNil, pCons, pTup, pLst, pLstM, pNot, pAndV, pOrV, pIf, pB, pAnd, pOr, pNotT, pNoPart, pPart, pCB, pUnN, pSl, pNext, pBreak, pCont, pRet, pRetN, pDrop, pIfS, pgName, pgNil, pgCons, pgTup_t, pAug, pApp, pYes, isk_non, nsk_non, isN_non, isN_bl, isN_int, isN_str, isN_tup, isN_lst, isN_ref, isN_obj, pTru, pFld, pStar, pMake, pSetF, pIt, pRng1, pRng2, forG, List.map_cons, List.map_nil, List.getElem?_cons_zero, List.getElem?_cons_succ, List.set_cons_zero, List.set_cons_succ, Option.some.injEq, exists_eq_left, exists_eq_left', true_and, and_true, wipeE, D.bl.injEq, D.int.injEq, D.str.injEq, D.tup.injEq, D.lst.injEq, Bool.not_true, decide_eq_true_eq, if_true, if_false, reduceIte, Bool.false_eq_true, Option.isNone_none, Option.isNone_some, Bool.not_false, List.length_nil, List.length_cons, List.nil_append, List.cons_append, D.ref.injEq, SO.lst.injEq, pCall, exists_const, and_self, Nat.zero_add, Nat.zero_le, Nat.reduceLeDiff, Nat.reduceAdd, eq_self, o_add, o_sub, o_mul, o_div, o_mod, o_cmp, o_int, o_lenl, o_lent, o_lens, o_tupl, o_tupt, o_min, o_max, q_int, ixk_tup, ixk_lst, ixk_scr, at0, at1, at2, at3, at4, at5, List.length_map, ln0, ln1, ln2, ln3, ln4, lnS0, lnS2, lnS4, q_id, q_ido, q_oi, q_oid, q_path, q_ln, q_ls, n_id, n_path, n_ln, n_ls, non_oid, non_oln, non_oct, non_id, non_ln, non_ct, non_path, un_ln, un_pl, in_ids, ad_path, eOp_s, eOp_n, lstk_ls, st_ls, fl_Placed_path, fl_Placed_names, fl_Placed_thing, fl_Placed_count, fl_Placed_cuts, fl_Placed_content, fl_Placed_ids, fl_Placed_line, fl_Placed_seen, fl_Shelved_place, fl_Shelved_thing, fl_Shelved_count, fl_Shelved_cuts, fl_Shelved_length, fl_Shelved_purpose, pu0, ly0, ly1, ly3, ly4, ly5, un_ly, un_row, ru0, q_nil, n_nil]
    by_cases c : a.place = s.place
    · rw [if_pos (decide_eq_true c)] at h
      rw [if_pos c]
      exact h
    · rw [if_neg (by simpa using c)] at h
      rw [if_neg c]
      exact h
  have hh : (ly.filter fun l => decide (l.place = s.place)).head? = lyAt ly s.place := List.head?_filter
  generalize (ly.filter fun l => decide (l.place = s.place)) = t at hh
  unfold rightO at hk
  rw [← hh] at hk
  cases t with
  | nil =>
    have hk : k (eOp rowS (if s.pu.isCom = true then some ⟨s.place, 0, 0, 0, 0, s.pu⟩ else none)) := hk
    simp only [pForD, pInsL, pExtA, pSeq, pAsg, pVar, pC, pOp, pNil, pCons, pTup, pLst, pLstM, pNot, pAndV, pOrV, pIf, pB, pAnd, pOr, pNotT, pNoPart, pPart, pCB, pUnN, pSl, pNext, pBreak, pCont, pRet, pRetN, pDrop, pIfS, pgName, pgNil, pgCons, pgTup_t, pAug, pApp, pYes, isk_non, nsk_non, isN_non, isN_bl, isN_int, isN_str, isN_tup, isN_lst, isN_ref, isN_obj, pTru, pFld, pStar, pMake, pSetF, pIt, pRng1, pRng2, forG, List.map_cons, List.map_nil, List.getElem?_cons_zero, List.getElem?_cons_succ, List.set_cons_zero, List.set_cons_succ, Option.some.injEq, exists_eq_left, exists_eq_left', true_and, and_true, wipeE, D.bl.injEq, D.int.injEq, D.str.injEq, D.tup.injEq, D.lst.injEq, Bool.not_true, decide_eq_true_eq, if_true, if_false, reduceIte, Bool.false_eq_true, Option.isNone_none, Option.isNone_some, Bool.not_false, List.length_nil, List.length_cons, List.nil_append, List.cons_append, D.ref.injEq, SO.lst.injEq, pCall, exists_const, and_self, Nat.zero_add, Nat.zero_le, Nat.reduceLeDiff, Nat.reduceAdd, eq_self, o_add, o_sub, o_mul, o_div, o_mod, o_cmp, o_int, o_lenl, o_lent, o_lens, o_tupl, o_tupt, o_min, o_max, q_int, ixk_tup, ixk_lst, ixk_scr, at0, at1, at2, at3, at4, at5, List.length_map, ln0, ln1, ln2, ln3, ln4, lnS0, lnS2, lnS4, q_id, q_ido, q_oi, q_oid, q_path, q_ln, q_ls, n_id, n_path, n_ln, n_ls, non_oid, non_oln, non_oct, non_id, non_ln, non_ct, non_path, un_ln, un_pl, in_ids, ad_path, eOp_s, eOp_n, lstk_ls, st_ls, fl_Placed_path, fl_Placed_names, fl_Placed_thing, fl_Placed_count, fl_Placed_cuts, fl_Placed_content, fl_Placed_ids, fl_Placed_line, fl_Placed_seen, fl_Shelved_place, fl_Shelved_thing, fl_Shelved_count, fl_Shelved_cuts, fl_Shelved_length, fl_Shelved_purpose, pu0, ly0, ly1, ly3, ly4, ly5, un_ly, un_row, ru0, q_nil, n_nil, q_str', tag_com]
    refine Eq.mpr (q_nil (l := [])) ⟨_, rfl, Eq.mpr (if_pos rfl) ?_⟩
    cases c : s.pu.isCom with
    | true =>
      rw [c] at hk
      refine Eq.mpr (if_pos rfl) ?_
      exact rt_pure (d := rowS ⟨s.place, 0, 0, 0, 0, s.pu⟩) (pu_rowS _) hk
    | false =>
      rw [c] at hk
      exact Eq.mpr (if_neg (by decide)) (rt_pure (d := .non) rfl hk)
  | cons r t =>
    have hk : k (rowS (rightF s r)) := hk
    simp only [pForD, pInsL, pExtA, pSeq, pAsg, pVar, pC, pOp, pNil, pCons, pTup, pLst, pLstM, pNot, pAndV, pOrV, pIf, pB, pAnd, pOr, pNotT, pNoPart, pPart, pCB, pUnN, pSl, pNext, pBreak, pCont, pRet, pRetN, pDrop, pIfS, pgName, pgNil, pgCons, pgTup_t, pAug, pApp, pYes, isk_non, nsk_non, isN_non, isN_bl, isN_int, isN_str, isN_tup, isN_lst, isN_ref, isN_obj, pTru, pFld, pStar, pMake, pSetF, pIt, pRng1, pRng2, forG, List.map_cons, List.map_nil, List.getElem?_cons_zero, List.getElem?_cons_succ, List.set_cons_zero, List.set_cons_succ, Option.some.injEq, exists_eq_left, exists_eq_left', true_and, and_true, wipeE, D.bl.injEq, D.int.injEq, D.str.injEq, D.tup.injEq, D.lst.injEq, Bool.not_true, decide_eq_true_eq, if_true, if_false, reduceIte, Bool.false_eq_true, Option.isNone_none, Option.isNone_some, Bool.not_false, List.length_nil, List.length_cons, List.nil_append, List.cons_append, D.ref.injEq, SO.lst.injEq, pCall, exists_const, and_self, Nat.zero_add, Nat.zero_le, Nat.reduceLeDiff, Nat.reduceAdd, eq_self, o_add, o_sub, o_mul, o_div, o_mod, o_cmp, o_int, o_lenl, o_lent, o_lens, o_tupl, o_tupt, o_min, o_max, q_int, ixk_tup, ixk_lst, ixk_scr, at0, at1, at2, at3, at4, at5, List.length_map, ln0, ln1, ln2, ln3, ln4, lnS0, lnS2, lnS4, q_id, q_ido, q_oi, q_oid, q_path, q_ln, q_ls, n_id, n_path, n_ln, n_ls, non_oid, non_oln, non_oct, non_id, non_ln, non_ct, non_path, un_ln, un_pl, in_ids, ad_path, eOp_s, eOp_n, lstk_ls, st_ls, fl_Placed_path, fl_Placed_names, fl_Placed_thing, fl_Placed_count, fl_Placed_cuts, fl_Placed_content, fl_Placed_ids, fl_Placed_line, fl_Placed_seen, fl_Shelved_place, fl_Shelved_thing, fl_Shelved_count, fl_Shelved_cuts, fl_Shelved_length, fl_Shelved_purpose, pu0, ly0, ly1, ly3, ly4, ly5, un_ly, un_row, ru0, q_nil, n_nil, n_strs, tag_kept]
    refine Eq.mpr (q_nil (l := r :: t)) ⟨_, rfl, Eq.mpr (if_neg (show ¬ false = true by decide)) ?_⟩
    unfold rightF at hk
    cases hp : s.pu with
    | com h m =>
      rw [hp] at hk
      exact Eq.mpr (if_pos (show (!false) = true by decide)) (rt_pure (d := rowS ⟨s.place, r.thing, r.count, r.cuts, r.length, .com h m⟩) (pu_rowS _) hk)
    | found w =>
      rw [hp] at hk
      exact Eq.mpr (if_pos (show (!false) = true by decide)) (rt_pure (d := rowS ⟨s.place, r.thing, r.count, r.cuts, r.length, .found w⟩) (pu_rowS _) hk)
    | back w p n =>
      rw [hp] at hk
      exact Eq.mpr (if_pos (show (!false) = true by decide)) (rt_pure (d := rowS ⟨s.place, r.thing, r.count, r.cuts, r.length, .back w p n⟩) (pu_rowS _) hk)
    | kept w =>
      rw [hp] at hk
      have hk : k (rowS (if s.thing = r.thing ∧ s.count = r.count then s else ⟨s.place, r.thing, r.count, r.cuts, r.length, .found w⟩)) := hk
      refine Eq.mpr (if_neg (show ¬ (!true) = true by decide)) (Eq.mpr q_two ⟨_, rfl, ?_⟩)
      by_cases c : r.thing = s.thing ∧ r.count = s.count
      · rw [if_pos ⟨c.1.symm, c.2.symm⟩] at hk
        exact Eq.mpr (if_pos (decide_eq_true c)) (rt_pure (d := rowS s) (pu_rowS _) hk)
      · rw [if_neg fun z => c ⟨z.1.symm, z.2.symm⟩] at hk
        refine Eq.mpr (if_neg (by rw [decide_eq_true_eq]; exact c)) ?_
        show ixk [] (.tup [.str (Str.ofString "kept"), rowP w]) (.int 1) _
        rw [ixk_tup, at1]
        exact ⟨_, rfl, rt_pure (d := rowS ⟨s.place, r.thing, r.count, r.cuts, r.length, .found w⟩) (pu_rowS _) hk⟩
theorem ok_law_expected {P : Program} {w : World} {K : PySem.W.Frag} {cl : Cl} {mg : Str → Option Value} {base : Heap} (D : Df K mg "_law_expected" s_law_expected ["row", "lying"]) (T : Txt K cl mg)  : C8.Cal P w K mg base 1 "_law_expected" (spP K cl F_law_expected) [] := by
  refine D.cal sc_law_expected (spP_len (n := 2) len_law_expected) (fun f cdv  A outer s H vs Q E hr h => ?_)
  refine ⟨_,
    (pss_cons (ps_asg (pv 0) (pg_tup rfl (pgs_cons (pg_name (i := 2) sc_law_expected.nd rfl (Or.inr rfl)) (pgs_cons (pg_name (i := 3) sc_law_expected.nd rfl (Or.inl rfl)) (pgs_cons (pg_name (i := 4) sc_law_expected.nd rfl (Or.inl rfl)) (pgs_cons (pg_name (i := 5) sc_law_expected.nd rfl (Or.inl rfl)) (pgs_cons (pg_name (i := 6) sc_law_expected.nd rfl (Or.inl rfl)) (pgs_cons (pg_name (i := 7) sc_law_expected.nd rfl (Or.inl rfl)) pgs_nil))))))))
    (pss_cons (ps_setLc (i := 9) (own := [("lies", 8)]) (g := gName 8) rfl sc_law_expected.nd rfl rfl (sw_true rfl rfl rfl (by decide +kernel)) (show PI _ _ _ (uIt K _) from upi (pv 1)) (blkOk_by (own := [("lies", 8)]) (N := ["row", "lying", "place", "thing", "count", "_law_cuts", "_law_length", "purpose", "lies", "there"]) (sc := defScope s_law_expected) (by decide +kernel)) (fun _ _ _ _ _ => (pg_name (i := 8) sc_law_expected.nd rfl (Or.inl rfl))) (fun _ _ _ _ _ => (pts_one (pt_cmpR (show OpR _ _ (rEqP K) from op_eqP hr.units) (pe_ix (show IxR _ (uIx K) from uix) (pv 8) pe_int (fun _ _ => rfl)) (pv 2) (nomark _)))) (fun _ _ _ _ _ => (pv 8)))
    (pss_cons (ps_if (pt_cmpR (show OpR _ _ (rEqP K) from op_eqP hr.units) (pv 9) (pe_lst pa_nil) (nomark _))
      (pss_cons (ps_if (pt_cmpR (show OpR _ _ (rEqP K) from op_eqP hr.units) (pe_ix (show IxR _ (uIx K) from uix) (pv 7) pe_int (fun _ _ => rfl)) pe_str (nomark _))
        (pss_one (ps_ret (pe_tup (pa_cons (pv 2) (pa_cons pe_int (pa_cons pe_int (pa_cons pe_int (pa_cons pe_int (pa_cons (pv 7) pa_nil)))))))))
        pss_nil)
      (pss_one (ps_ret pe_non)))
      pss_nil)
    (pss_cons (ps_set (i := 8) sc_law_expected.nd rfl (.inl rfl) (pe_ix (show IxR _ (uIx K) from uix) (pv 9) pe_int (fun _ _ => rfl)))
    (pss_cons (ps_if (pt_cmpR (show OpR _ _ (rNeP K) from op_neP hr.units) (pe_ix (show IxR _ (uIx K) from uix) (pv 7) pe_int (fun _ _ => rfl)) pe_str (nomark _))
      (pss_one (ps_ret (pe_tup (pa_cons (pv 2) (pa_cons (pe_ix (show IxR _ (uIx K) from uix) (pv 8) pe_int (fun _ _ => rfl)) (pa_cons (pe_ix (show IxR _ (uIx K) from uix) (pv 8) pe_int (fun _ _ => rfl)) (pa_cons (pe_ix (show IxR _ (uIx K) from uix) (pv 8) pe_int (fun _ _ => rfl)) (pa_cons (pe_ix (show IxR _ (uIx K) from uix) (pv 8) pe_int (fun _ _ => rfl)) (pa_cons (pv 7) pa_nil)))))))))
      pss_nil)
    (pss_cons (ps_if (pt_cmpR (show OpR _ _ (rEqP K) from op_eqP hr.units) (pe_tup (pa_cons (pe_ix (show IxR _ (uIx K) from uix) (pv 8) pe_int (fun _ _ => rfl)) (pa_cons (pe_ix (show IxR _ (uIx K) from uix) (pv 8) pe_int (fun _ _ => rfl)) pa_nil))) (pe_tup (pa_cons (pv 3) (pa_cons (pv 4) pa_nil))) (nomark _))
      (pss_one (ps_ret (pv 0)))
      pss_nil)
    (pss_one (ps_ret (pe_tup (pa_cons (pv 2) (pa_cons (pe_ix (show IxR _ (uIx K) from uix) (pv 8) pe_int (fun _ _ => rfl)) (pa_cons (pe_ix (show IxR _ (uIx K) from uix) (pv 8) pe_int (fun _ _ => rfl)) (pa_cons (pe_ix (show IxR _ (uIx K) from uix) (pv 8) pe_int (fun _ _ => rfl)) (pa_cons (pe_ix (show IxR _ (uIx K) from uix) (pv 8) pe_int (fun _ _ => rfl)) (pa_cons (pe_tup (pa_cons pe_str (pa_cons (pe_ix (show IxR _ (uIx K) from uix) (pv 7) pe_int (fun _ _ => rfl)) pa_nil))) pa_nil))))))))))))))), ?_⟩
  exact fn_ok (N := ["row", "lying", "place", "thing", "count", "_law_cuts", "_law_length", "purpose", "lies", "there"]) (show SmS K cl _ ps_law_expected from
    (sm_seq (sm_asg sm_var (sm_gtup (sm_gcons sm_gname (sm_gcons sm_gname (sm_gcons sm_gname (sm_gcons sm_gname (sm_gcons sm_gname (sm_gcons sm_gname sm_gnil))))))))
    (sm_seq (sm_asg (sm_lc (sm_it sm_var) (gok_name (by decide)) sm_gname (sm_test (sm_op smr_eq (sm_op smr_ix sm_var sm_int) sm_var)) sm_var) sm_gname)
    (sm_seq (sm_ifS (sm_test (sm_op smr_eq sm_var (sm_lst sm_nil)))
      (sm_seq (sm_ifS (sm_test (sm_op smr_eq (sm_op smr_ix sm_var sm_int) sm_str))
        ((sm_ret (sm_tup (sm_cons sm_var (sm_cons sm_int (sm_cons sm_int (sm_cons sm_int (sm_cons sm_int (sm_cons sm_var sm_nil)))))))))
        sm_next)
      ((sm_ret sm_non)))
      sm_next)
    (sm_seq (sm_asg (sm_op smr_ix sm_var sm_int) sm_gname)
    (sm_seq (sm_ifS (sm_test (sm_op smr_ne (sm_op smr_ix sm_var sm_int) sm_str))
      ((sm_ret (sm_tup (sm_cons sm_var (sm_cons (sm_op smr_ix sm_var sm_int) (sm_cons (sm_op smr_ix sm_var sm_int) (sm_cons (sm_op smr_ix sm_var sm_int) (sm_cons (sm_op smr_ix sm_var sm_int) (sm_cons sm_var sm_nil)))))))))
      sm_next)
    (sm_seq (sm_ifS (sm_test (sm_op smr_eq (sm_tup (sm_cons (sm_op smr_ix sm_var sm_int) (sm_cons (sm_op smr_ix sm_var sm_int) sm_nil))) (sm_tup (sm_cons sm_var (sm_cons sm_var sm_nil)))))
      ((sm_ret sm_var))
      sm_next)
    ((sm_ret (sm_tup (sm_cons sm_var (sm_cons (sm_op smr_ix sm_var sm_int) (sm_cons (sm_op smr_ix sm_var sm_int) (sm_cons (sm_op smr_ix sm_var sm_int) (sm_cons (sm_op smr_ix sm_var sm_int) (sm_cons (sm_tup (sm_cons sm_str (sm_cons (sm_op smr_ix sm_var sm_int) sm_nil))) sm_nil)))))))))))))))) body_law_expected h
def pl_law_1 : PSx :=
      (pSeq (pAsg (pLc (pIt (pVar 5)) (pgName 13) (pB (pOp eqk (pOp ixk (pVar 13) (pC (.int 0))) (pFld "place" [5] (pOp ixk (pVar 3) (pVar 6))))) (pVar 13) [13]) (pgName 7))
      (pSeq (pAsg (pCall F_lying_at (pCons (pVar 5) (pCons (pFld "place" [5] (pOp ixk (pVar 3) (pVar 6))) pNil))) (pgName 8))
      ((pIfS (pOr (pAnd (pB (pOp eqk (pVar 7) (pLst pNil))) (pB (pOp nsk (pVar 8) (pC .non)))) (pAnd (pB (pOp nek (pVar 7) (pLst pNil))) (pB (pOp nek (pVar 8) (pOp ixk (pVar 7) (pC (.int 0)))))))
        ((pRet (pC (.bl false))))
        pNext))))
theorem pl_law_1_d (P : PEnds) (env : Pw.Env) (S : Sto) : pl_law_1 P env S = (
      (pSeq (pAsg (pLc (pIt (pVar 5)) (pgName 13) (pB (pOp eqk (pOp ixk (pVar 13) (pC (.int 0))) (pFld "place" [5] (pOp ixk (pVar 3) (pVar 6))))) (pVar 13) [13]) (pgName 7))
      (pSeq (pAsg (pCall F_lying_at (pCons (pVar 5) (pCons (pFld "place" [5] (pOp ixk (pVar 3) (pVar 6))) pNil))) (pgName 8))
      ((pIfS (pOr (pAnd (pB (pOp eqk (pVar 7) (pLst pNil))) (pB (pOp nsk (pVar 8) (pC .non)))) (pAnd (pB (pOp nek (pVar 7) (pLst pNil))) (pB (pOp nek (pVar 8) (pOp ixk (pVar 7) (pC (.int 0)))))))
        ((pRet (pC (.bl false))))
        pNext))))) P env S := rfl
def ps_law : PSx :=
    (pSeq (pAsg (pCall F_law_rows (pCons (pVar 0) (pCons (pC (.int 16)) pNil))) (pgName 1))
    (pSeq (pAsg (pCallS F_lines_of (pCons (pCall F_law_edits (pCons (pVar 0) (pCons (pC (.int 6)) pNil))) pNil)) (pgName 2))
    (pSeq (pAsg (pCall F_law_shelf (pCons (pSl (pVar 1) pNoPart (pPart (pC (.int 8)))) (pCons (pVar 2) pNil))) (pgName 3))
    (pSeq (pAsg (pLc (pIt (pVar 3)) (pgName 11) pYes (pCall F_shelved_row (pCons (pVar 11) pNil)) [11]) (pgName 4))
    (pSeq (pAsg (pCall F_law_lying (pCons (pSl (pVar 1) (pPart (pC (.int 8))) pNoPart) (pCons (pVar 3) pNil))) (pgName 5))
    (pSeq (pFor (pRng1 (pCons (pC (.int 8)) pNil)) (pgName 6) pl_law_1)
    (pSeq (pAsg (pLc (pIt (pVar 4)) (pgName 12) pYes (pCall F_law_expected (pCons (pVar 12) (pCons (pVar 5) pNil))) [12]) (pgName 9))
    (pSeq (pAsg (pLc (pIt (pVar 9)) (pgName 12) (pB (pOp nsk (pVar 12) (pC .non))) (pVar 12) [12]) (pgName 9))
    (pSeq (pAsg (pCallS F_put_right (pCons (pVar 3) (pCons (pVar 5) pNil))) (pgName 10))
    (pSeq (pIfS (pOr (pNotT (pTru (pCB isLk (pCons (pVar 10) (pCons (pC (.ty "list")) pNil))))) (pB (pOp nek (pLc (pIt (pVar 10)) (pgName 11) pYes (pCall F_shelved_row (pCons (pVar 11) pNil)) [11]) (pVar 9))))
      ((pRet (pC (.bl false))))
      pNext)
    (pSeq (pApp (pVar 10) (pC .non))
    ((pRet (pOp eqk (pLc (pIt (pVar 3)) (pgName 11) pYes (pCall F_shelved_row (pCons (pVar 11) pNil)) [11]) (pVar 4)))))))))))))))
theorem start_law : ∀ a0 : D, startE 14 [a0] = [some a0, none, none, none, none, none, none, none, none, none, none, none, none, none] := fun _ => rfl
theorem d_path (p : List Str) : (ePath p).dep ≤ 1 := by
  show (ePath p).py.depth ≤ 1
  rw [py_path]
  exact dp_path p
theorem d_oct (c : Option Ct) : (eOp eCt c).dep ≤ 1 := by
  show (eOp eCt c).py.depth ≤ 1
  rw [py_oct]
  exact dp_oct c
theorem d_oid (c : Option Ln.Id) : (eOp Le.eId c).dep ≤ 1 := by
  show (eOp Le.eId c).py.depth ≤ 1
  rw [py_oid]
  exact dp_oid c
theorem d_id (c : Ln.Id) : (Le.eId c).dep ≤ 1 := d_oid (some c)
theorem d_ids (is : List Ln.Id) : (eIds is).dep ≤ 2 := dep_tup (dep_map d_id is)
theorem d_rowP (w : Plc) : (rowP w).dep ≤ 3 := dep_tup (n := 2) (ds := plcVs w) fun d hd => by
  simp only [plcVs, List.mem_cons, List.mem_nil_iff, or_false] at hd
  rcases hd with rfl | rfl | rfl | rfl | rfl | rfl | rfl | rfl | rfl
  · exact Nat.le_trans (d_path _) (by decide)
  · exact Nat.le_trans (d_path _) (by decide)
  · exact Nat.zero_le _
  · exact Nat.zero_le _
  · exact Nat.zero_le _
  · exact Nat.le_trans (d_oct _) (by decide)
  · exact d_ids _
  · exact Nat.le_trans (d_oid _) (by decide)
  · exact Nat.zero_le _
theorem d_rowU (p : Pu) : (rowU p).dep ≤ 4 := by
  cases p with
  | com h m =>
    refine Nat.le_trans (dep_tup (n := 1) (ds := [.str (Str.ofString "coming"), Le.eId h, eCt m]) fun d hd => ?_) (by decide)
    simp only [List.mem_cons, List.mem_nil_iff, or_false] at hd
    rcases hd with rfl | rfl | rfl
    · exact Nat.zero_le _
    · exact d_id _
    · exact d_oct (some m)
  | kept w =>
    refine dep_tup (n := 3) (ds := [.str (Str.ofString "kept"), rowP w]) fun d hd => ?_
    simp only [List.mem_cons, List.mem_nil_iff, or_false] at hd
    rcases hd with rfl | rfl
    · exact Nat.zero_le _
    · exact d_rowP w
  | found w =>
    refine dep_tup (n := 3) (ds := [.str (Str.ofString "found"), rowP w]) fun d hd => ?_
    simp only [List.mem_cons, List.mem_nil_iff, or_false] at hd
    rcases hd with rfl | rfl
    · exact Nat.zero_le _
    · exact d_rowP w
  | back w p n =>
    refine dep_tup (n := 3) (ds := [.str (Str.ofString "back"), rowP w, ePath p, .int n]) fun d hd => ?_
    simp only [List.mem_cons, List.mem_nil_iff, or_false] at hd
    rcases hd with rfl | rfl | rfl | rfl
    · exact Nat.zero_le _
    · exact d_rowP w
    · exact Nat.le_trans (d_path _) (by decide)
    · exact Nat.zero_le _
theorem d_rowS (s : Shv) : (rowS s).dep ≤ 5 := dep_tup (n := 4) (ds := [.int s.place, .int s.thing, .int s.count, .int s.cuts, .int s.length, rowU s.pu]) fun d hd => by
  simp only [List.mem_cons, List.mem_nil_iff, or_false] at hd
  rcases hd with rfl | rfl | rfl | rfl | rfl | rfl
  · exact Nat.zero_le _
  · exact Nat.zero_le _
  · exact Nat.zero_le _
  · exact Nat.zero_le _
  · exact Nat.zero_le _
  · exact d_rowU _
theorem kept_of (f : Shv → Option Shv) (ss : List Shv) : ((ss.map f).filter (·.isSome)).map (eOp rowS) = (ss.filterMap f).map rowS := by
  induction ss with
  | nil => rfl
  | cons s ss ih =>
    cases h : f s with
    | none =>
      rw [List.map_cons, h, List.filter_cons_of_neg (by decide), List.filterMap_cons_none h]
      exact ih
    | some c =>
      rw [List.map_cons, h, List.filter_cons_of_pos (by rfl), List.filterMap_cons_some h, List.map_cons, List.map_cons, ih]
      rfl
theorem body_law : ∀ ns : List Int, ns.length ≤ 63 → ps_law { nx := fun _ _ => False, rt := fun d _ => d = .bl true } (startE 14 [.scr (ns.map D.int)]) [] := by
  intro ns hl
  rw [start_law]
  unfold ps_law
  have p1 : ∀ i : Int, pureAll [.scr (ns.map D.int), .int i] = true := fun i => by
    simp only [pureAll, show (D.scr (ns.map D.int)).pure = true from pu_intsL ns, pu_int, Bool.and_self]
  simp only [pForD, pInsL, pExtA, pSeq, pAsg, pVar, pC, pOp, pNil, pCons, pTup, pLst, pLstM, pNot, pAndV, pOrV, pIf, pB, pAnd, pOr, pNotT, pNoPart, pPart, pCB, pUnN, pSl, pNext, pBreak, pCont, pRet, pRetN, pDrop, pIfS, pgName, pgNil, pgCons, pgTup_t, pAug, pApp, pYes, isk_non, nsk_non, isN_non, isN_bl, isN_int, isN_str, isN_tup, isN_lst, isN_ref, isN_obj, pTru, pFld, pStar, pMake, pSetF, pIt, pRng1, pRng2, forG, List.map_cons, List.map_nil, List.getElem?_cons_zero, List.getElem?_cons_succ, List.set_cons_zero, List.set_cons_succ, Option.some.injEq, exists_eq_left, exists_eq_left', true_and, and_true, wipeE, D.bl.injEq, D.int.injEq, D.str.injEq, D.tup.injEq, D.lst.injEq, Bool.not_true, decide_eq_true_eq, if_true, if_false, reduceIte, Bool.false_eq_true, Option.isNone_none, Option.isNone_some, Bool.not_false, List.length_nil, List.length_cons, List.nil_append, List.cons_append, D.ref.injEq, SO.lst.injEq, pCall, exists_const, and_self, Nat.zero_add, Nat.zero_le, Nat.reduceLeDiff, Nat.reduceAdd, eq_self, o_add, o_sub, o_mul, o_div, o_mod, o_cmp, o_int, o_lenl, o_lent, o_lens, o_tupl, o_tupt, o_min, o_max, q_int, ixk_tup, ixk_lst, ixk_scr, at0, at1, at2, at3, at4, at5, List.length_map, pCallS]
  refine call_of (p1 _) ⟨ns, 16, rfl, hl, by decide, fun rs hrs _ => ?_⟩
  refine call_of (p1 _) ⟨ns, 6, rfl, hl, by decide, fun rs1 hrs1 => ?_⟩
  obtain ⟨ls, U, hf, ⟨r, X, h2⟩, h3, h4⟩ := drawn_fold rs1 6 (by decide)
  have hll := h2.ln
  refine ⟨_, editsF rs1 6, ls, rfl, rfl, hf, ?_⟩
  refine ⟨_, rfl, ?_⟩
  have e8 : Pw.cutD (rs.map D.int) none (some 8) = (rs.take 8).map D.int := cut_t (j := 8)
  have e8' : Pw.cutD (rs.map D.int) (some 8) none = (rs.drop 8).map D.int := cut_fr (i := 8)
  rw [e8]
  have l8 : (rs.take 8).length = 8 := by rw [List.length_take]; omega
  have p8 : pureAll [.lst ((rs.take 8).map D.int), eLs ls] = true := by
    simp only [pureAll, show (D.lst ((rs.take 8).map D.int)).pure = true from pu_intsL _, pu_ls, Bool.and_self]
  refine call_of p8 ⟨_, ls, rfl, by omega, by omega, fun ss hss _ _ => ?_⟩
  rw [l8] at hss
  refine lc_go (src := .lst (ss.map eShv)) (as := ss) (enc := eShv) (fun _ => true) rowS (fun kk h => ⟨_, rfl, _, rfl, h⟩) (fun _ => rfl) (by omega) (fun a ha k2 k3 h => ?_) ?_
  · rw [if_pos rfl] at h
    simp only [pForD, pInsL, pExtA, pSeq, pAsg, pVar, pC, pOp, pNil, pCons, pTup, pLst, pLstM, pNot, pAndV, pOrV, pIf, pB, pAnd, pOr, pNotT, pNoPart, pPart, pCB, pUnN, pSl, pNext, pBreak, pCont, pRet, pRetN, pDrop, pIfS, pgName, pgNil, pgCons, pgTup_t, pAug, pApp, pYes, isk_non, nsk_non, isN_non, isN_bl, isN_int, isN_str, isN_tup, isN_lst, isN_ref, isN_obj, pTru, pFld, pStar, pMake, pSetF, pIt, pRng1, pRng2, forG, List.map_cons, List.map_nil, List.getElem?_cons_zero, List.getElem?_cons_succ, List.set_cons_zero, List.set_cons_succ, Option.some.injEq, exists_eq_left, exists_eq_left', true_and, and_true, wipeE, D.bl.injEq, D.int.injEq, D.str.injEq, D.tup.injEq, D.lst.injEq, Bool.not_true, decide_eq_true_eq, if_true, if_false, reduceIte, Bool.false_eq_true, Option.isNone_none, Option.isNone_some, Bool.not_false, List.length_nil, List.length_cons, List.nil_append, List.cons_append, D.ref.injEq, SO.lst.injEq, pCall, exists_const, and_self, Nat.zero_add, Nat.zero_le, Nat.reduceLeDiff, Nat.reduceAdd, eq_self, o_add, o_sub, o_mul, o_div, o_mod, o_cmp, o_int, o_lenl, o_lent, o_lens, o_tupl, o_tupt, o_min, o_max, q_int, ixk_tup, ixk_lst, ixk_scr, at0, at1, at2, at3, at4, at5, List.length_map]
    exact c_shelved_row _ (by simp only [noRefs, D.noRef, Bool.and_self, Bool.and_true, Bool.true_and, nr_id, nr_oid, nr_oct, nr_path, nr_ln, nr_oln, nr_ls, nr_idst, nr_pl, nr_mv, nr_ed, nr_ct, nr_eds, nr_scr, nr_ints, nr_pc, nr_pu, nr_shv, nr_ly, nr_shv]) h
  rw [flt_all]
  refine ⟨_, rfl, ?_⟩
  rw [e8']
  refine call_nr (show (D.noRef (.lst ((rs.drop 8).map D.int)) && (D.noRef (.lst (ss.map eShv)) && true)) = true by rw [show (D.lst ((rs.drop 8).map D.int)).noRef = true from nr_all (fun _ => rfl) _, show (D.lst (ss.map eShv)).noRef = true from nr_all nr_shv ss]; rfl) ⟨rs.drop 8, ss, rfl, by rw [List.length_drop]; omega, by omega, fun ly hly => ?_⟩
  refine for_inv (src := .lst (rngD 8)) (List.range 8) (fun (i : Nat) => .int (i : Int)) (fun pre env S => S = [] ∧ ∃ x6 x7 x8, env = [some (.scr (ns.map D.int)), some (.lst (rs.map D.int)), some (eLs ls), some (.lst (ss.map eShv)), some (.lst (ss.map rowS)), some (.lst (ly.map eLy)), x6, x7, x8, none, none, none, none, none]) (fun kk h => ⟨_, rfl, ⟨by decide, by decide⟩, h⟩) ⟨rfl, _, _, _, rfl⟩ (fun _ _ _ _ => rfl) (fun i a ha env S' hI => ?_) (fun env S' hI => ?_)
  · obtain ⟨hi, rfl⟩ := List.getElem?_eq_some_iff.mp ha
    rw [List.length_range] at hi
    rw [List.getElem_range]
    obtain ⟨rfl, x6, x7, x8, rfl⟩ := hI
    have go : ∀ x6 x7 x8, (fun (pre : List Nat) (env : Pw.Env) (S : Sto) => S = [] ∧ ∃ x6 x7 x8, env = [some (.scr (ns.map D.int)), some (.lst (rs.map D.int)), some (eLs ls), some (.lst (ss.map eShv)), some (.lst (ss.map rowS)), some (.lst (ly.map eLy)), x6, x7, x8, none, none, none, none, none]) ((List.range 8).take i ++ [i]) [some (.scr (ns.map D.int)), some (.lst (rs.map D.int)), some (eLs ls), some (.lst (ss.map eShv)), some (.lst (ss.map rowS)), some (.lst (ly.map eLy)), x6, x7, x8, none, none, none, none, none] [] := fun x6 x7 x8 => ⟨rfl, x6, x7, x8, rfl⟩
    have hss2 : ss[i]? = some ss[i] := List.getElem?_eq_getElem (by omega)
    generalize ss[i] = s at hss2
    simp only [pForD, pInsL, pExtA, pSeq, pAsg, pVar, pC, pOp, pNil, pCons, pTup, pLst, pLstM, pNot, pAndV, pOrV, pIf, pB, pAnd, pOr, pNotT, pNoPart, pPart, pCB, pUnN, pSl, pNext, pBreak, pCont, pRet, pRetN, pDrop, pIfS, pgName, pgNil, pgCons, pgTup_t, pAug, pApp, pYes, isk_non, nsk_non, isN_non, isN_bl, isN_int, isN_str, isN_tup, isN_lst, isN_ref, isN_obj, pTru, pFld, pStar, pMake, pSetF, pIt, pRng1, pRng2, forG, List.map_cons, List.map_nil, List.getElem?_cons_zero, List.getElem?_cons_succ, List.set_cons_zero, List.set_cons_succ, Option.some.injEq, exists_eq_left, exists_eq_left', true_and, and_true, wipeE, D.bl.injEq, D.int.injEq, D.str.injEq, D.tup.injEq, D.lst.injEq, Bool.not_true, decide_eq_true_eq, if_true, if_false, reduceIte, Bool.false_eq_true, Option.isNone_none, Option.isNone_some, Bool.not_false, List.length_nil, List.length_cons, List.nil_append, List.cons_append, D.ref.injEq, SO.lst.injEq, pCall, exists_const, and_self, Nat.zero_add, Nat.zero_le, Nat.reduceLeDiff, Nat.reduceAdd, eq_self, o_add, o_sub, o_mul, o_div, o_mod, o_cmp, o_int, o_lenl, o_lent, o_lens, o_tupl, o_tupt, o_min, o_max, q_int, ixk_tup, ixk_lst, ixk_scr, at0, at1, at2, at3, at4, at5, List.length_map, pl_law_1_d]
    refine lc_go (src := .lst (ly.map eLy)) (as := ly) (enc := eLy) (fun l => decide (l.place = s.place)) eLy (fun kk h => ⟨_, rfl, _, rfl, h⟩) (fun _ => rfl) (by omega) (fun a ha k2 k3 h => ?_) ?_
    · simp only [pForD, pInsL, pExtA, pSeq, pAsg, pVar, pC, pOp, pNil, pCons, pTup, pLst, pLstM, pNot, pAndV, pOrV, pIf, pB, pAnd, pOr, pNotT, pNoPart, pPart, pCB, pUnN, pSl, pNext, pBreak, pCont, pRet, pRetN, pDrop, pIfS, pgName, pgNil, pgCons, pgTup_t, pAug, pApp, pYes, isk_non, nsk_non, isN_non, isN_bl, isN_int, isN_str, isN_tup, isN_lst, isN_ref, isN_obj, pTru, pFld, pStar, pMake, pSetF, pIt, pRng1, pRng2, forG, List.map_cons, List.map_nil, List.getElem?_cons_zero, List.getElem?_cons_succ, List.set_cons_zero, List.set_cons_succ, Option.some.injEq, exists_eq_left, exists_eq_left', true_and, and_true, wipeE, D.bl.injEq, D.int.injEq, D.str.injEq, D.tup.injEq, D.lst.injEq, Bool.not_true, decide_eq_true_eq, if_true, if_false, reduceIte, Bool.false_eq_true, Option.isNone_none, Option.isNone_some, Bool.not_false, List.length_nil, List.length_cons, List.nil_append, List.cons_append, D.ref.injEq, SO.lst.injEq, pCall, exists_const, and_self, Nat.zero_add, Nat.zero_le, Nat.reduceLeDiff, Nat.reduceAdd, eq_self, o_add, o_sub, o_mul, o_div, o_mod, o_cmp, o_int, o_lenl, o_lent, o_lens, o_tupl, o_tupt, o_min, o_max, q_int, ixk_tup, ixk_lst, ixk_scr, at0, at1, at2, at3, at4, at5, List.length_map, ln0, ln1, ln2, ln3, ln4, lnS0, lnS2, lnS4, q_id, q_ido, q_oi, q_oid, q_path, q_ln, q_ls, n_id, n_path, n_ln, n_ls, non_oid, non_oln, non_oct, non_id, non_ln, non_ct, non_path, un_ln, un_pl, in_ids, ad_path, eOp_s, eOp_n, lstk_ls, st_ls, fl_Placed_path, fl_Placed_names, fl_Placed_thing, fl_Placed_count, fl_Placed_cuts, fl_Placed_content, fl_Placed_ids, fl_Placed_line, fl_Placed_seen, fl_Shelved_place, fl_Shelved_thing, fl_Shelved_count, fl_Shelved_cuts, fl_Shelved_length, fl_Shelved_purpose, pu0, ly0, ly1, ly3, ly4, ly5, un_ly, un_row, ru0, q_nil, n_nil]
      refine ⟨_, at_map hss2, _, fl_Shelved_place, ?_⟩
      simp only [pForD, pInsL, pExtA, pSeq, pAsg, pVar, pC, pOp, pNil, pCons, pTup, pLst, pLstM, pNot, pAndV, pOrV, pIf, pB, pAnd, pOr, pNotT, pNoPart, pPart, pCB, pUnN, pSl, pNext, pBreak, pCont, pRet, pRetN, pDrop, pIfS, pgName, pgNil, pgCons, pgTup_t, pAug, pApp, pYes, isk_non, nsk_non, isN_non, isN_bl, isN_int, isN_str, isN_tup, isN_lst, isN_ref, isN_obj, pTru, pFld, pStar, pMake, pSetF, pIt, pRng1, pRng2, forG, List.map_cons, List.map_nil, List.getElem?_cons_zero, List.getElem?_cons_succ, List.set_cons_zero, List.set_cons_succ, Option.some.injEq, exists_eq_left, exists_eq_left', true_and, and_true, wipeE, D.bl.injEq, D.int.injEq, D.str.injEq, D.tup.injEq, D.lst.injEq, Bool.not_true, decide_eq_true_eq, if_true, if_false, reduceIte, Bool.false_eq_true, Option.isNone_none, Option.isNone_some, Bool.not_false, List.length_nil, List.length_cons, List.nil_append, List.cons_append, D.ref.injEq, SO.lst.injEq, pCall, exists_const, and_self, Nat.zero_add, Nat.zero_le, Nat.reduceLeDiff, Nat.reduceAdd, eq_self, o_add, o_sub, o_mul, o_div, o_mod, o_cmp, o_int, o_lenl, o_lent, o_lens, o_tupl, o_tupt, o_min, o_max, q_int, ixk_tup, ixk_lst, ixk_scr, at0, at1, at2, at3, at4, at5, List.length_map, ln0, ln1, ln2, ln3, ln4, lnS0, lnS2, lnS4, q_id, q_ido, q_oi, q_oid, q_path, q_ln, q_ls, n_id, n_path, n_ln, n_ls, non_oid, non_oln, non_oct, non_id, non_ln, non_ct, non_path, un_ln, un_pl, in_ids, ad_path, eOp_s, eOp_n, lstk_ls, st_ls, fl_Placed_path, fl_Placed_names, fl_Placed_thing, fl_Placed_count, fl_Placed_cuts, fl_Placed_content, fl_Placed_ids, fl_Placed_line, fl_Placed_seen, fl_Shelved_place, fl_Shelved_thing, fl_Shelved_count, fl_Shelved_cuts, fl_Shelved_length, fl_Shelved_purpose, pu0, ly0, ly1, ly3, ly4, ly5, un_ly, un_row, ru0, q_nil, n_nil]
      by_cases c : a.place = s.place
      · rw [if_pos (decide_eq_true c)] at h
        rw [if_pos c]
        exact h
      · rw [if_neg (by simpa using c)] at h
        rw [if_neg c]
        exact h
    have hh : (ly.filter fun l => decide (l.place = s.place)).head? = lyAt ly s.place := List.head?_filter
    generalize (ly.filter fun l => decide (l.place = s.place)) = t at hh
    refine ⟨_, at_map hss2, _, fl_Shelved_place, c_lying_at' rfl ?_⟩
    rw [← hh]
    cases t with
    | nil =>
      exact Eq.mpr (q_nil (l := [])) ⟨_, rfl, Eq.mpr (if_pos rfl) (Eq.mpr (if_neg (show ¬ (!true) = true by decide)) (Eq.mpr (n_nil (l := [])) ⟨_, rfl, Eq.mpr (if_neg (show ¬ (!true) = true by decide)) ⟨rfl, _, _, _, rfl⟩⟩))⟩
    | cons r t =>
      refine Eq.mpr (q_nil (l := r :: t)) ⟨_, rfl, Eq.mpr (if_neg (show ¬ false = true by decide)) (Eq.mpr (n_nil (l := r :: t)) ⟨_, rfl, Eq.mpr (if_pos (show (!false) = true by decide)) ?_⟩)⟩
      show ixk [] (.lst (eLy r :: t.map eLy)) (.int 0) _
      rw [ixk_lst, at0]
      exact ⟨_, rfl, Eq.mpr (n_refl (x := eLy r) rfl (Nat.le_trans (d_ly r) (by decide))) ⟨_, rfl, Eq.mpr (if_neg (by decide)) ⟨rfl, _, _, _, rfl⟩⟩⟩
  · obtain ⟨rfl, x6, x7, x8, rfl⟩ := hI
    simp only [pForD, pInsL, pExtA, pSeq, pAsg, pVar, pC, pOp, pNil, pCons, pTup, pLst, pLstM, pNot, pAndV, pOrV, pIf, pB, pAnd, pOr, pNotT, pNoPart, pPart, pCB, pUnN, pSl, pNext, pBreak, pCont, pRet, pRetN, pDrop, pIfS, pgName, pgNil, pgCons, pgTup_t, pAug, pApp, pYes, isk_non, nsk_non, isN_non, isN_bl, isN_int, isN_str, isN_tup, isN_lst, isN_ref, isN_obj, pTru, pFld, pStar, pMake, pSetF, pIt, pRng1, pRng2, forG, List.map_cons, List.map_nil, List.getElem?_cons_zero, List.getElem?_cons_succ, List.set_cons_zero, List.set_cons_succ, Option.some.injEq, exists_eq_left, exists_eq_left', true_and, and_true, wipeE, D.bl.injEq, D.int.injEq, D.str.injEq, D.tup.injEq, D.lst.injEq, Bool.not_true, decide_eq_true_eq, if_true, if_false, reduceIte, Bool.false_eq_true, Option.isNone_none, Option.isNone_some, Bool.not_false, List.length_nil, List.length_cons, List.nil_append, List.cons_append, D.ref.injEq, SO.lst.injEq, pCall, exists_const, and_self, Nat.zero_add, Nat.zero_le, Nat.reduceLeDiff, Nat.reduceAdd, eq_self, o_add, o_sub, o_mul, o_div, o_mod, o_cmp, o_int, o_lenl, o_lent, o_lens, o_tupl, o_tupt, o_min, o_max, q_int, ixk_tup, ixk_lst, ixk_scr, at0, at1, at2, at3, at4, at5, List.length_map, pCallS]
    refine lc_go (src := .lst (ss.map rowS)) (as := ss) (enc := rowS) (fun _ => true) (fun s => eOp rowS (rightO ly s)) (fun kk h => ⟨_, rfl, _, rfl, h⟩) (fun _ => rfl) (by omega) (fun a ha k2 k3 h => ?_) ?_
    · rw [if_pos rfl] at h
      simp only [pForD, pInsL, pExtA, pSeq, pAsg, pVar, pC, pOp, pNil, pCons, pTup, pLst, pLstM, pNot, pAndV, pOrV, pIf, pB, pAnd, pOr, pNotT, pNoPart, pPart, pCB, pUnN, pSl, pNext, pBreak, pCont, pRet, pRetN, pDrop, pIfS, pgName, pgNil, pgCons, pgTup_t, pAug, pApp, pYes, isk_non, nsk_non, isN_non, isN_bl, isN_int, isN_str, isN_tup, isN_lst, isN_ref, isN_obj, pTru, pFld, pStar, pMake, pSetF, pIt, pRng1, pRng2, forG, List.map_cons, List.map_nil, List.getElem?_cons_zero, List.getElem?_cons_succ, List.set_cons_zero, List.set_cons_succ, Option.some.injEq, exists_eq_left, exists_eq_left', true_and, and_true, wipeE, D.bl.injEq, D.int.injEq, D.str.injEq, D.tup.injEq, D.lst.injEq, Bool.not_true, decide_eq_true_eq, if_true, if_false, reduceIte, Bool.false_eq_true, Option.isNone_none, Option.isNone_some, Bool.not_false, List.length_nil, List.length_cons, List.nil_append, List.cons_append, D.ref.injEq, SO.lst.injEq, pCall, exists_const, and_self, Nat.zero_add, Nat.zero_le, Nat.reduceLeDiff, Nat.reduceAdd, eq_self, o_add, o_sub, o_mul, o_div, o_mod, o_cmp, o_int, o_lenl, o_lent, o_lens, o_tupl, o_tupt, o_min, o_max, q_int, ixk_tup, ixk_lst, ixk_scr, at0, at1, at2, at3, at4, at5, List.length_map]
      exact call_nr (show (D.noRef (rowS a) && (D.noRef (.lst (ly.map eLy)) && true)) = true by rw [pure_noRef _ (pu_rowS a), show (D.lst (ly.map eLy)).noRef = true from nr_all nr_ly ly]; rfl) ⟨a, ly, rfl, by omega, h⟩
    rw [flt_all]
    refine lc_go (src := .lst (ss.map fun s => eOp rowS (rightO ly s))) (as := ss.map (rightO ly)) (enc := eOp rowS) (·.isSome) (eOp rowS) (fun kk h => ⟨_, rfl, _, by rw [List.map_map]; rfl, h⟩) (fun _ => by rw [List.map_map]; rfl) (by rw [List.length_map]; omega) (fun a ha k2 k3 h => ?_) ?_
    · simp only [pForD, pInsL, pExtA, pSeq, pAsg, pVar, pC, pOp, pNil, pCons, pTup, pLst, pLstM, pNot, pAndV, pOrV, pIf, pB, pAnd, pOr, pNotT, pNoPart, pPart, pCB, pUnN, pSl, pNext, pBreak, pCont, pRet, pRetN, pDrop, pIfS, pgName, pgNil, pgCons, pgTup_t, pAug, pApp, pYes, isk_non, nsk_non, isN_non, isN_bl, isN_int, isN_str, isN_tup, isN_lst, isN_ref, isN_obj, pTru, pFld, pStar, pMake, pSetF, pIt, pRng1, pRng2, forG, List.map_cons, List.map_nil, List.getElem?_cons_zero, List.getElem?_cons_succ, List.set_cons_zero, List.set_cons_succ, Option.some.injEq, exists_eq_left, exists_eq_left', true_and, and_true, wipeE, D.bl.injEq, D.int.injEq, D.str.injEq, D.tup.injEq, D.lst.injEq, Bool.not_true, decide_eq_true_eq, if_true, if_false, reduceIte, Bool.false_eq_true, Option.isNone_none, Option.isNone_some, Bool.not_false, List.length_nil, List.length_cons, List.nil_append, List.cons_append, D.ref.injEq, SO.lst.injEq, pCall, exists_const, and_self, Nat.zero_add, Nat.zero_le, Nat.reduceLeDiff, Nat.reduceAdd, eq_self, o_add, o_sub, o_mul, o_div, o_mod, o_cmp, o_int, o_lenl, o_lent, o_lens, o_tupl, o_tupt, o_min, o_max, q_int, ixk_tup, ixk_lst, ixk_scr, at0, at1, at2, at3, at4, at5, List.length_map, ln0, ln1, ln2, ln3, ln4, lnS0, lnS2, lnS4, q_id, q_ido, q_oi, q_oid, q_path, q_ln, q_ls, n_id, n_path, n_ln, n_ls, non_oid, non_oln, non_oct, non_id, non_ln, non_ct, non_path, un_ln, un_pl, in_ids, ad_path, eOp_s, eOp_n, lstk_ls, st_ls, fl_Placed_path, fl_Placed_names, fl_Placed_thing, fl_Placed_count, fl_Placed_cuts, fl_Placed_content, fl_Placed_ids, fl_Placed_line, fl_Placed_seen, fl_Shelved_place, fl_Shelved_thing, fl_Shelved_count, fl_Shelved_cuts, fl_Shelved_length, fl_Shelved_purpose, pu0, ly0, ly1, ly3, ly4, ly5, un_ly, un_row, ru0, q_nil, n_nil]
      cases a with
      | none => exact h
      | some s => exact h
    rw [kept_of]
    refine ⟨ss, ly, rfl, by omega, ?_⟩
    have hrl : (ss.filterMap (rightO ly)).length ≤ 8 := by
      have := List.length_filterMap_le (rightO ly) ss
      omega
    generalize ss.filterMap (rightO ly) = rl at hrl
    refine ⟨rfl, ⟨_, rfl⟩, Eq.mpr tru_bl (Eq.mpr (if_neg (show ¬ (!true) = true by decide)) ?_)⟩
    refine lc_ref (src := .ref 0) (as := rl) (enc := eShv) (fun _ => true) rowS (fun kk h => ⟨_, rfl, _, rfl, h⟩) rfl (by omega) (fun a ha k2 k3 h => ?_) ?_
    · rw [if_pos rfl] at h
      simp only [pForD, pInsL, pExtA, pSeq, pAsg, pVar, pC, pOp, pNil, pCons, pTup, pLst, pLstM, pNot, pAndV, pOrV, pIf, pB, pAnd, pOr, pNotT, pNoPart, pPart, pCB, pUnN, pSl, pNext, pBreak, pCont, pRet, pRetN, pDrop, pIfS, pgName, pgNil, pgCons, pgTup_t, pAug, pApp, pYes, isk_non, nsk_non, isN_non, isN_bl, isN_int, isN_str, isN_tup, isN_lst, isN_ref, isN_obj, pTru, pFld, pStar, pMake, pSetF, pIt, pRng1, pRng2, forG, List.map_cons, List.map_nil, List.getElem?_cons_zero, List.getElem?_cons_succ, List.set_cons_zero, List.set_cons_succ, Option.some.injEq, exists_eq_left, exists_eq_left', true_and, and_true, wipeE, D.bl.injEq, D.int.injEq, D.str.injEq, D.tup.injEq, D.lst.injEq, Bool.not_true, decide_eq_true_eq, if_true, if_false, reduceIte, Bool.false_eq_true, Option.isNone_none, Option.isNone_some, Bool.not_false, List.length_nil, List.length_cons, List.nil_append, List.cons_append, D.ref.injEq, SO.lst.injEq, pCall, exists_const, and_self, Nat.zero_add, Nat.zero_le, Nat.reduceLeDiff, Nat.reduceAdd, eq_self, o_add, o_sub, o_mul, o_div, o_mod, o_cmp, o_int, o_lenl, o_lent, o_lens, o_tupl, o_tupt, o_min, o_max, q_int, ixk_tup, ixk_lst, ixk_scr, at0, at1, at2, at3, at4, at5, List.length_map]
      exact c_shelved_row _ (by simp only [noRefs, D.noRef, Bool.and_self, Bool.and_true, Bool.true_and, nr_id, nr_oid, nr_oct, nr_path, nr_ln, nr_oln, nr_ls, nr_idst, nr_pl, nr_mv, nr_ed, nr_ct, nr_eds, nr_scr, nr_ints, nr_pc, nr_pu, nr_shv, nr_ly, nr_shv]) h
    rw [flt_all]
    refine Eq.mpr (n_refl (x := .lst (rl.map rowS)) (pureAll_map pu_rowS _) (Nat.le_trans (dep_lst (dep_map d_rowS _)) (by decide))) ⟨_, rfl, Eq.mpr (if_neg (by decide)) ?_⟩
    refine ⟨0, rfl, _, rfl, _, rfl, by rw [List.length_map]; omega, ?_⟩
    refine lc_go (src := .lst (ss.map eShv)) (as := ss) (enc := eShv) (fun _ => true) rowS (fun kk h => ⟨_, rfl, _, rfl, h⟩) (fun _ => rfl) (by omega) (fun a ha k2 k3 h => ?_) ?_
    · rw [if_pos rfl] at h
      simp only [pForD, pInsL, pExtA, pSeq, pAsg, pVar, pC, pOp, pNil, pCons, pTup, pLst, pLstM, pNot, pAndV, pOrV, pIf, pB, pAnd, pOr, pNotT, pNoPart, pPart, pCB, pUnN, pSl, pNext, pBreak, pCont, pRet, pRetN, pDrop, pIfS, pgName, pgNil, pgCons, pgTup_t, pAug, pApp, pYes, isk_non, nsk_non, isN_non, isN_bl, isN_int, isN_str, isN_tup, isN_lst, isN_ref, isN_obj, pTru, pFld, pStar, pMake, pSetF, pIt, pRng1, pRng2, forG, List.map_cons, List.map_nil, List.getElem?_cons_zero, List.getElem?_cons_succ, List.set_cons_zero, List.set_cons_succ, Option.some.injEq, exists_eq_left, exists_eq_left', true_and, and_true, wipeE, D.bl.injEq, D.int.injEq, D.str.injEq, D.tup.injEq, D.lst.injEq, Bool.not_true, decide_eq_true_eq, if_true, if_false, reduceIte, Bool.false_eq_true, Option.isNone_none, Option.isNone_some, Bool.not_false, List.length_nil, List.length_cons, List.nil_append, List.cons_append, D.ref.injEq, SO.lst.injEq, pCall, exists_const, and_self, Nat.zero_add, Nat.zero_le, Nat.reduceLeDiff, Nat.reduceAdd, eq_self, o_add, o_sub, o_mul, o_div, o_mod, o_cmp, o_int, o_lenl, o_lent, o_lens, o_tupl, o_tupt, o_min, o_max, q_int, ixk_tup, ixk_lst, ixk_scr, at0, at1, at2, at3, at4, at5, List.length_map]
      exact c_shelved_row _ (by simp only [noRefs, D.noRef, Bool.and_self, Bool.and_true, Bool.true_and, nr_id, nr_oid, nr_oct, nr_path, nr_ln, nr_oln, nr_ls, nr_idst, nr_pl, nr_mv, nr_ed, nr_ct, nr_eds, nr_scr, nr_ints, nr_pc, nr_pu, nr_shv, nr_ly, nr_shv]) h
    rw [flt_all]
    exact Eq.mpr (q_refl (x := .lst (ss.map rowS)) (pureAll_map pu_rowS _) (Nat.le_trans (dep_lst (dep_map d_rowS _)) (by decide))) rfl
theorem ok_law {P : Program} {w : World} {K : PySem.W.Frag} {cl : Cl} {mg : Str → Option Value} {base : Heap} {f : Addr} {fd : FuncData} (F : Fun K "law" "law" s_law f fd) (T : Txt K cl mg) (G_lines_of : C8.Cal P w K mg base 7 "lines_of" (spS K cl F_lines_of) []) (G_shelved_row : C8.Cal P w K mg base 2 "shelved_row" (spP K cl F_shelved_row) []) (G_lying_at : C8.Cal P w K mg base 1 "lying_at" (spP K cl F_lying_at) []) (G_put_right : C8.Cal P w K mg base 4 "put_right" (spS K cl F_put_right) []) (G_law_rows : C8.Cal P w K mg base 1 "_law_rows" (spP K cl F_law_rows) []) (G_law_edits : C8.Cal P w K mg base 4 "_law_edits" (spP K cl F_law_edits) []) (G_law_shelf : C8.Cal P w K mg base 5 "_law_shelf" (spP K cl F_law_shelf) []) (G_law_lying : C8.Cal P w K mg base 1 "_law_lying" (spP K cl F_law_lying) []) (G_law_expected : C8.Cal P w K mg base 1 "_law_expected" (spP K cl F_law_expected) []) : FnOk P w K mg base CX0 8 f fd ["script"] (spLawT cl.tabs K) := by
  refine F.ok sc_law (fun vs H Q E h => ?_) (fun cdv A outer s H vs Q E hr h => ?_)
  · obtain ⟨a, ns, rfl, _⟩ := h
    rfl
  · refine ⟨_,
    (pss_cons (ps_set (i := 1) sc_law.nd rfl (.inl rfl) (C8.pe_c G_law_rows hr (by decide) (by rfl) (pa_cons (pv 0) (pa_cons pe_int pa_nil))))
    (pss_cons (ps_set (i := 2) sc_law.nd rfl (.inl rfl) (C8.pe_c G_lines_of hr (by decide) (by rfl) (pa_cons (C8.pe_c G_law_edits hr (by decide) (by rfl) (pa_cons (pv 0) (pa_cons pe_int pa_nil))) pa_nil)))
    (pss_cons (ps_set (i := 3) sc_law.nd rfl (.inr rfl) (C8.pe_c G_law_shelf hr (by decide) (by rfl) (pa_cons (pe_slice (show SlR _ (uSl K) from usl) (pv 1) po_none (po_some pe_int)) (pa_cons (pv 2) pa_nil))))
    (pss_cons (ps_setLc (i := 4) (own := [("entry", 11)]) (g := gName 11) (tt := tYes) rfl sc_law.nd rfl rfl (sw_true rfl rfl rfl (by decide +kernel)) (show PI _ _ _ (uIt K _) from upi (pv 3)) (blkOk_by (own := [("entry", 11)]) (N := ["script", "rows", "lines", "shelf", "before", "lying", "k", "there", "found", "expected", "actual", "entry", "row", "lies"]) (sc := defScope s_law) (by decide +kernel)) (fun _ _ _ _ _ => (pg_name (i := 11) sc_law.nd rfl (Or.inl rfl))) (fun _ _ _ _ _ => pts_nil) (fun _ _ _ _ _ => (C8.pe_c G_shelved_row hr (by decide) (by rfl) (pa_cons (pv 11) pa_nil))))
    (pss_cons (ps_set (i := 5) sc_law.nd rfl (.inr rfl) (C8.pe_c G_law_lying hr (by decide) (by rfl) (pa_cons (pe_slice (show SlR _ (uSl K) from usl) (pv 1) (po_some pe_int) po_none) (pa_cons (pv 3) pa_nil))))
    (pss_cons (ps_for PassesOwn.never rfl (pi_range1 (by rfl) T.n_range (pa_cons pe_int pa_nil)) (pg_name (i := 6) sc_law.nd rfl (Or.inr rfl))
      (pss_cons (ps_setLc (i := 7) (own := [("lies", 13)]) (g := gName 13) rfl sc_law.nd rfl rfl (sw_true rfl rfl rfl (by decide +kernel)) (show PI _ _ _ (uIt K _) from upi (pv 5)) (blkOk_by (own := [("lies", 13)]) (N := ["script", "rows", "lines", "shelf", "before", "lying", "k", "there", "found", "expected", "actual", "entry", "row", "lies"]) (sc := defScope s_law) (by decide +kernel)) (fun _ _ _ _ _ => (pg_name (i := 13) sc_law.nd rfl (Or.inl rfl))) (fun _ _ _ _ _ => (pts_one (pt_cmpR (show OpR _ _ (rEqP K) from op_eqP hr.units) (pe_ix (show IxR _ (uIx K) from uix) (pv 13) pe_int (fun _ _ => rfl)) (show PE _ _ (tFld K _ "place") from pe_fld (pe_ix (show IxR _ (uIx K) from uix) (pv 3) (pv 6) (fun _ _ => rfl)) rfl) (nomark _)))) (fun _ _ _ _ _ => (pv 13)))
      (pss_cons (ps_set (i := 8) sc_law.nd rfl (.inl rfl) (C8.pe_c G_lying_at hr (by decide) (by rfl) (pa_cons (pv 5) (pa_cons (show PE _ _ (tFld K _ "place") from pe_fld (pe_ix (show IxR _ (uIx K) from uix) (pv 3) (pv 6) (fun _ _ => rfl)) rfl) pa_nil))))
      (pss_one (ps_if (PW.pt (pw_or (PW.pt (pw_and (pt_cmpR (show OpR _ _ (rEqP K) from op_eqP hr.units) (pv 7) (pe_lst pa_nil) (nomark _)) (pw_and1 (pt_cmpR op_notN (pv 8) pe_non (nomark _))))) (pw_or1 (PW.pt (pw_and (pt_cmpR (show OpR _ _ (rNeP K) from op_neP hr.units) (pv 7) (pe_lst pa_nil) (nomark _)) (pw_and1 (pt_cmpR (show OpR _ _ (rNeP K) from op_neP hr.units) (pv 8) (pe_ix (show IxR _ (uIx K) from uix) (pv 7) pe_int (fun _ _ => rfl)) (nomark _))))))))
        (pss_one (ps_ret pe_bl))
        pss_nil)))))
    (pss_cons (ps_setLc (i := 9) (own := [("row", 12)]) (g := gName 12) (tt := tYes) rfl sc_law.nd rfl rfl (sw_true rfl rfl rfl (by decide +kernel)) (show PI _ _ _ (uIt K _) from upi (pv 4)) (blkOk_by (own := [("row", 12)]) (N := ["script", "rows", "lines", "shelf", "before", "lying", "k", "there", "found", "expected", "actual", "entry", "row", "lies"]) (sc := defScope s_law) (by decide +kernel)) (fun _ _ _ _ _ => (pg_name (i := 12) sc_law.nd rfl (Or.inl rfl))) (fun _ _ _ _ _ => pts_nil) (fun _ _ _ _ _ => (C8.pe_c G_law_expected hr (by decide) (by rfl) (pa_cons (pv 12) (pa_cons (pv 5) pa_nil)))))
    (pss_cons (ps_setLc (i := 9) (own := [("row", 12)]) (g := gName 12) rfl sc_law.nd rfl rfl (sw_true rfl rfl rfl (by decide +kernel)) (show PI _ _ _ (uIt K _) from upi (pv 9)) (blkOk_by (own := [("row", 12)]) (N := ["script", "rows", "lines", "shelf", "before", "lying", "k", "there", "found", "expected", "actual", "entry", "row", "lies"]) (sc := defScope s_law) (by decide +kernel)) (fun _ _ _ _ _ => (pg_name (i := 12) sc_law.nd rfl (Or.inl rfl))) (fun _ _ _ _ _ => (pts_one (pt_cmpR op_notN (pv 12) pe_non (nomark _)))) (fun _ _ _ _ _ => (pv 12)))
    (pss_cons (ps_set (i := 10) sc_law.nd rfl (.inl rfl) (C8.pe_c G_put_right hr (by decide) (by rfl) (pa_cons (pv 3) (pa_cons (pv 5) pa_nil))))
    (pss_cons (ps_if (PW.pt (pw_or (pt_not (pt_truth (pe_callB call_isi (by rfl) T.n_isinstance (by decide +kernel) (pa_cons (pv 10) (pa_cons (pe_bltn (v := .ty "list") (by rfl) T.n_list (by decide +kernel) rfl) pa_nil))) (by intro _; rfl))) (pw_or1 (pt_cmpR (show OpR _ _ (rNeP K) from op_neP hr.units) (pe_lc (own := [("entry", 11)]) (g := gName 11) (tt := tYes) rfl sc_law.nd (show PI _ _ _ (uIt K _) from upi (pv 10)) (blkOk_by (own := [("entry", 11)]) (N := ["script", "rows", "lines", "shelf", "before", "lying", "k", "there", "found", "expected", "actual", "entry", "row", "lies"]) (sc := defScope s_law) (by decide +kernel)) (fun _ _ _ _ _ => (pg_name (i := 11) sc_law.nd rfl (Or.inl rfl))) (fun _ _ _ _ _ => pts_nil) (fun _ _ _ _ _ => (C8.pe_c G_shelved_row hr (by decide) (by rfl) (pa_cons (pv 11) pa_nil)))) (pv 9) (nomark _)))))
      (pss_one (ps_ret pe_bl))
      pss_nil)
    (pss_cons (ps_expr (pe_bm PySem.F.plainAttrs_list PySem.F.slot_list_append PySem.F.type_list_append mt_append (pv 10) (pa_cons pe_non pa_nil)))
    (pss_one (ps_ret (pe_cmpR (show OpR _ _ (rEqP K) from op_eqP hr.units) (pe_lc (own := [("entry", 11)]) (g := gName 11) (tt := tYes) rfl sc_law.nd (show PI _ _ _ (uIt K _) from upi (pv 3)) (blkOk_by (own := [("entry", 11)]) (N := ["script", "rows", "lines", "shelf", "before", "lying", "k", "there", "found", "expected", "actual", "entry", "row", "lies"]) (sc := defScope s_law) (by decide +kernel)) (fun _ _ _ _ _ => (pg_name (i := 11) sc_law.nd rfl (Or.inl rfl))) (fun _ _ _ _ _ => pts_nil) (fun _ _ _ _ _ => (C8.pe_c G_shelved_row hr (by decide) (by rfl) (pa_cons (pv 11) pa_nil)))) (pv 4) (nomark _))))))))))))))), ?_⟩
    exact law_ok (cl := cl) (N := ["script", "rows", "lines", "shelf", "before", "lying", "k", "there", "found", "expected", "actual", "entry", "row", "lies"]) (show SmS K cl _ ps_law from
    (sm_seq (sm_asg (sm_call (sm_cons sm_var (sm_cons sm_int sm_nil))) sm_gname)
    (sm_seq (sm_asg (sm_callS (sm_cons (sm_call (sm_cons sm_var (sm_cons sm_int sm_nil))) sm_nil)) sm_gname)
    (sm_seq (sm_asg (sm_call (sm_cons (sm_sl sm_var sm_noPart (sm_part sm_int)) (sm_cons sm_var sm_nil))) sm_gname)
    (sm_seq (sm_asg (sm_lc (sm_it sm_var) (gok_name (by decide)) sm_gname sm_yes (sm_call (sm_cons sm_var sm_nil))) sm_gname)
    (sm_seq (sm_asg (sm_call (sm_cons (sm_sl sm_var (sm_part sm_int) sm_noPart) (sm_cons sm_var sm_nil))) sm_gname)
    (sm_seq (sm_for (sm_rng1 (sm_cons sm_int sm_nil)) sm_gname
      (sm_seq (sm_asg (sm_lc (sm_it sm_var) (gok_name (by decide)) sm_gname (sm_test (sm_op smr_eq (sm_op smr_ix sm_var sm_int) (sm_fld T.hc_place (sm_op smr_ix sm_var sm_var)))) sm_var) sm_gname)
      (sm_seq (sm_asg (sm_call (sm_cons sm_var (sm_cons (sm_fld T.hc_place (sm_op smr_ix sm_var sm_var)) sm_nil))) sm_gname)
      ((sm_ifS (sm_or (sm_and (sm_test (sm_op smr_eq sm_var (sm_lst sm_nil))) (sm_test (sm_op smr_ns sm_var sm_non))) (sm_and (sm_test (sm_op smr_ne sm_var (sm_lst sm_nil))) (sm_test (sm_op smr_ne sm_var (sm_op smr_ix sm_var sm_int)))))
        ((sm_ret sm_bl))
        sm_next)))))
    (sm_seq (sm_asg (sm_lc (sm_it sm_var) (gok_name (by decide)) sm_gname sm_yes (sm_call (sm_cons sm_var (sm_cons sm_var sm_nil)))) sm_gname)
    (sm_seq (sm_asg (sm_lc (sm_it sm_var) (gok_name (by decide)) sm_gname (sm_test (sm_op smr_ns sm_var sm_non)) sm_var) sm_gname)
    (sm_seq (sm_asg (sm_callS (sm_cons sm_var (sm_cons sm_var sm_nil))) sm_gname)
    (sm_seq (sm_ifS (sm_or (sm_notT (sm_tru (sm_cb smc_isL (sm_cons sm_var (sm_cons sm_ty sm_nil))))) (sm_test (sm_op smr_ne (sm_lc (sm_it sm_var) (gok_name (by decide)) sm_gname sm_yes (sm_call (sm_cons sm_var sm_nil))) sm_var)))
      ((sm_ret sm_bl))
      sm_next)
    (sm_seq (sm_app sm_var sm_non)
    ((sm_ret (sm_op smr_eq (sm_lc (sm_it sm_var) (gok_name (by decide)) sm_gname sm_yes (sm_call (sm_cons sm_var sm_nil))) sm_var))))))))))))))) body_law h
theorem all_mk {l : PySem.W.OpenLaw} {w : World} {K : PySem.W.Frag} {h : Heap} {mg : Str → Option Value} {fa f1 f2 f3 f4 f5 f6 f7 f8 f9 f10 f11 f12 f13 f14 f15 f16 f17 f18 f19 f20 f21 f22 f23 f24 f25 f26 f27 f28 f29 f30 f31 f32 f33 f34 f35 f36 f37 c_Placed c_Shelved : Addr} (X : K.In h) (G : h.Ns mainGlobals mg) (hfa : mg "law" = some (.ref fa))
    {od1 an1 od2 an2 od3 an3 od4 an4 od5 an5 od6 an6 od7 an7 od8 an8 od9 an9 od10 an10 od11 an11 od12 an12 od13 an13 od14 an14 od15 an15 od16 an16 od17 an17 od18 an18 od19 an19 od20 an20 od21 an21 od22 an22 od23 an23 od24 an24 od25 an25 od26 an26 od27 an27 od28 an28 od29 an29 od30 an30 od31 an31 od32 an32 od33 an33 od34 an34 od35 an35 od36 an36 od37 an37 : Option Addr} {sl1 sl2 sl3 sl4 sl5 sl6 sl7 sl8 sl9 sl10 sl11 sl12 sl13 sl14 sl15 sl16 sl17 sl18 sl19 sl20 sl21 sl22 sl23 sl24 sl25 sl26 sl27 sl28 sl29 sl30 sl31 sl32 sl33 sl34 sl35 sl36 sl37 : Array (Option Value)} {oc1 kV1 dc1 pm1 cd1 ct1 oc2 kV2 dc2 pm2 cd2 ct2 oc3 kV3 dc3 pm3 cd3 ct3 oc4 kV4 dc4 pm4 cd4 ct4 oc5 kV5 dc5 pm5 cd5 ct5 oc6 kV6 dc6 pm6 cd6 ct6 oc7 kV7 dc7 pm7 cd7 ct7 oc8 kV8 dc8 pm8 cd8 ct8 oc9 kV9 dc9 pm9 cd9 ct9 oc10 kV10 dc10 pm10 cd10 ct10 oc11 kV11 dc11 pm11 cd11 ct11 oc12 kV12 dc12 pm12 cd12 ct12 oc13 kV13 dc13 pm13 cd13 ct13 oc14 kV14 dc14 pm14 cd14 ct14 oc15 kV15 dc15 pm15 cd15 ct15 oc16 kV16 dc16 pm16 cd16 ct16 oc17 kV17 dc17 pm17 cd17 ct17 oc18 kV18 dc18 pm18 cd18 ct18 oc19 kV19 dc19 pm19 cd19 ct19 oc20 kV20 dc20 pm20 cd20 ct20 oc21 kV21 dc21 pm21 cd21 ct21 oc22 kV22 dc22 pm22 cd22 ct22 oc23 kV23 dc23 pm23 cd23 ct23 oc24 kV24 dc24 pm24 cd24 ct24 oc25 kV25 dc25 pm25 cd25 ct25 oc26 kV26 dc26 pm26 cd26 ct26 oc27 kV27 dc27 pm27 cd27 ct27 oc28 kV28 dc28 pm28 cd28 ct28 oc29 kV29 dc29 pm29 cd29 ct29 oc30 kV30 dc30 pm30 cd30 ct30 oc31 kV31 dc31 pm31 cd31 ct31 oc32 kV32 dc32 pm32 cd32 ct32 oc33 kV33 dc33 pm33 cd33 ct33 oc34 kV34 dc34 pm34 cd34 ct34 oc35 kV35 dc35 pm35 cd35 ct35 oc36 kV36 dc36 pm36 cd36 ct36 oc37 kV37 dc37 pm37 cd37 ct37 : Value}
    (aC_Placed : PySem.W.nsIn K mainGlobals "Placed" = some (some (.ref c_Placed))) (pg_Placed : PySem.W.plainGet K c_Placed Str.empty = true) (hd_Placed : PySem.W.hasDictIn K c_Placed = true) (po_Placed : PySem.W.plainOver K c_Placed = true) (sa_Placed : PySem.W.findIn K (.ref c_Placed) "__setattr__" = some (some (.builtin "object.__setattr__"))) (mk_Placed : PySem.W.makesIn K c_Placed = true) (kc_Placed : PySem.W.keepIn K (.ref c_Placed) = true) (na_Placed_path : PySem.W.findIn K (.ref c_Placed) "path" = some none) (na_Placed_names : PySem.W.findIn K (.ref c_Placed) "names" = some none) (na_Placed_thing : PySem.W.findIn K (.ref c_Placed) "thing" = some none) (na_Placed_count : PySem.W.findIn K (.ref c_Placed) "count" = some none) (na_Placed_cuts : PySem.W.findIn K (.ref c_Placed) "cuts" = some none) (na_Placed_content : PySem.W.findIn K (.ref c_Placed) "content" = some none) (na_Placed_ids : PySem.W.findIn K (.ref c_Placed) "ids" = some none) (na_Placed_line : PySem.W.findIn K (.ref c_Placed) "line" = some none) (na_Placed_seen : PySem.W.findIn K (.ref c_Placed) "seen" = some none)
    (aC_Shelved : PySem.W.nsIn K mainGlobals "Shelved" = some (some (.ref c_Shelved))) (pg_Shelved : PySem.W.plainGet K c_Shelved Str.empty = true) (hd_Shelved : PySem.W.hasDictIn K c_Shelved = true) (po_Shelved : PySem.W.plainOver K c_Shelved = true) (sa_Shelved : PySem.W.findIn K (.ref c_Shelved) "__setattr__" = some (some (.builtin "object.__setattr__"))) (mk_Shelved : PySem.W.makesIn K c_Shelved = true) (kc_Shelved : PySem.W.keepIn K (.ref c_Shelved) = true) (na_Shelved_place : PySem.W.findIn K (.ref c_Shelved) "place" = some none) (na_Shelved_thing : PySem.W.findIn K (.ref c_Shelved) "thing" = some none) (na_Shelved_count : PySem.W.findIn K (.ref c_Shelved) "count" = some none) (na_Shelved_cuts : PySem.W.findIn K (.ref c_Shelved) "cuts" = some none) (na_Shelved_length : PySem.W.findIn K (.ref c_Shelved) "length" = some none) (na_Shelved_purpose : PySem.W.findIn K (.ref c_Shelved) "purpose" = some none)
    (a1 : PySem.W.nsIn K mainGlobals "find_line" = some (some (.ref f1))) (l1 : K.lookup f1 = some ⟨oc1, od1, .func (PySem.W.fnOf "find_line" "find_line" (defArgs s_find_line) (defBody s_find_line) (defScope s_find_line) .none kV1 dc1 pm1 an1 cd1 ct1), sl1⟩) (c1 : PySem.W.codeIn K cd1 "find_line" = true) (k1 : PySem.W.keepIn K (.ref f1) = true)
    (a2 : PySem.W.nsIn K mainGlobals "find_head" = some (some (.ref f2))) (l2 : K.lookup f2 = some ⟨oc2, od2, .func (PySem.W.fnOf "find_head" "find_head" (defArgs s_find_head) (defBody s_find_head) (defScope s_find_head) .none kV2 dc2 pm2 an2 cd2 ct2), sl2⟩) (c2 : PySem.W.codeIn K cd2 "find_head" = true) (k2 : PySem.W.keepIn K (.ref f2) = true)
    (a3 : PySem.W.nsIn K mainGlobals "settle" = some (some (.ref f3))) (l3 : K.lookup f3 = some ⟨oc3, od3, .func (PySem.W.fnOf "settle" "settle" (defArgs s_settle) (defBody s_settle) (defScope s_settle) .none kV3 dc3 pm3 an3 cd3 ct3), sl3⟩) (c3 : PySem.W.codeIn K cd3 "settle" = true) (k3 : PySem.W.keepIn K (.ref f3) = true)
    (a4 : PySem.W.nsIn K mainGlobals "stands_in" = some (some (.ref f4))) (l4 : K.lookup f4 = some ⟨oc4, od4, .func (PySem.W.fnOf "stands_in" "stands_in" (defArgs s_stands_in) (defBody s_stands_in) (defScope s_stands_in) .none kV4 dc4 pm4 an4 cd4 ct4), sl4⟩) (c4 : PySem.W.codeIn K cd4 "stands_in" = true) (k4 : PySem.W.keepIn K (.ref f4) = true)
    (a5 : PySem.W.nsIn K mainGlobals "move_line" = some (some (.ref f5))) (l5 : K.lookup f5 = some ⟨oc5, od5, .func (PySem.W.fnOf "move_line" "move_line" (defArgs s_move_line) (defBody s_move_line) (defScope s_move_line) .none kV5 dc5 pm5 an5 cd5 ct5), sl5⟩) (c5 : PySem.W.codeIn K cd5 "move_line" = true) (k5 : PySem.W.keepIn K (.ref f5) = true)
    (a6 : PySem.W.nsIn K mainGlobals "without_line" = some (some (.ref f6))) (l6 : K.lookup f6 = some ⟨oc6, od6, .func (PySem.W.fnOf "without_line" "without_line" (defArgs s_without_line) (defBody s_without_line) (defScope s_without_line) .none kV6 dc6 pm6 an6 cd6 ct6), sl6⟩) (c6 : PySem.W.codeIn K cd6 "without_line" = true) (k6 : PySem.W.keepIn K (.ref f6) = true)
    (a7 : PySem.W.nsIn K mainGlobals "without_heads" = some (some (.ref f7))) (l7 : K.lookup f7 = some ⟨oc7, od7, .func (PySem.W.fnOf "without_heads" "without_heads" (defArgs s_without_heads) (defBody s_without_heads) (defScope s_without_heads) .none kV7 dc7 pm7 an7 cd7 ct7), sl7⟩) (c7 : PySem.W.codeIn K cd7 "without_heads" = true) (k7 : PySem.W.keepIn K (.ref f7) = true)
    (a8 : PySem.W.nsIn K mainGlobals "with_new_line" = some (some (.ref f8))) (l8 : K.lookup f8 = some ⟨oc8, od8, .func (PySem.W.fnOf "with_new_line" "with_new_line" (defArgs s_with_new_line) (defBody s_with_new_line) (defScope s_with_new_line) .none kV8 dc8 pm8 an8 cd8 ct8), sl8⟩) (c8 : PySem.W.codeIn K cd8 "with_new_line" = true) (k8 : PySem.W.keepIn K (.ref f8) = true)
    (a9 : PySem.W.nsIn K mainGlobals "first_replaced" = some (some (.ref f9))) (l9 : K.lookup f9 = some ⟨oc9, od9, .func (PySem.W.fnOf "first_replaced" "first_replaced" (defArgs s_first_replaced) (defBody s_first_replaced) (defScope s_first_replaced) .none kV9 dc9 pm9 an9 cd9 ct9), sl9⟩) (c9 : PySem.W.codeIn K cd9 "first_replaced" = true) (k9 : PySem.W.keepIn K (.ref f9) = true)
    (a10 : PySem.W.nsIn K mainGlobals "after_text" = some (some (.ref f10))) (l10 : K.lookup f10 = some ⟨oc10, od10, .func (PySem.W.fnOf "after_text" "after_text" (defArgs s_after_text) (defBody s_after_text) (defScope s_after_text) .none kV10 dc10 pm10 an10 cd10 ct10), sl10⟩) (c10 : PySem.W.codeIn K cd10 "after_text" = true) (k10 : PySem.W.keepIn K (.ref f10) = true)
    (a11 : PySem.W.nsIn K mainGlobals "after_move" = some (some (.ref f11))) (l11 : K.lookup f11 = some ⟨oc11, od11, .func (PySem.W.fnOf "after_move" "after_move" (defArgs s_after_move) (defBody s_after_move) (defScope s_after_move) .none kV11 dc11 pm11 an11 cd11 ct11), sl11⟩) (c11 : PySem.W.codeIn K cd11 "after_move" = true) (k11 : PySem.W.keepIn K (.ref f11) = true)
    (a12 : PySem.W.nsIn K mainGlobals "lines_after" = some (some (.ref f12))) (l12 : K.lookup f12 = some ⟨oc12, od12, .func (PySem.W.fnOf "lines_after" "lines_after" (defArgs s_lines_after) (defBody s_lines_after) (defScope s_lines_after) .none kV12 dc12 pm12 an12 cd12 ct12), sl12⟩) (c12 : PySem.W.codeIn K cd12 "lines_after" = true) (k12 : PySem.W.keepIn K (.ref f12) = true)
    (a13 : PySem.W.nsIn K mainGlobals "fold_lines" = some (some (.ref f13))) (l13 : K.lookup f13 = some ⟨oc13, od13, .func (PySem.W.fnOf "fold_lines" "fold_lines" (defArgs s_fold_lines) (defBody s_fold_lines) (defScope s_fold_lines) .none kV13 dc13 pm13 an13 cd13 ct13), sl13⟩) (c13 : PySem.W.codeIn K cd13 "fold_lines" = true) (k13 : PySem.W.keepIn K (.ref f13) = true)
    (a14 : PySem.W.nsIn K mainGlobals "lines_of" = some (some (.ref f14))) (l14 : K.lookup f14 = some ⟨oc14, od14, .func (PySem.W.fnOf "lines_of" "lines_of" (defArgs s_lines_of) (defBody s_lines_of) (defScope s_lines_of) .none kV14 dc14 pm14 an14 cd14 ct14), sl14⟩) (c14 : PySem.W.codeIn K cd14 "lines_of" = true) (k14 : PySem.W.keepIn K (.ref f14) = true)
    (a15 : PySem.W.findIn K (.ref c_Placed) "__init__" = some (some (.ref f15))) (i15 : PySem.W.isFn K (.ref f15) = true) (l15 : K.lookup f15 = some ⟨oc15, od15, .func (PySem.W.fnOf "__init__" "Placed.__init__" (defArgs s_Placed___init) (defBody s_Placed___init) (defScope s_Placed___init) .none kV15 dc15 pm15 an15 cd15 ct15), sl15⟩) (c15 : PySem.W.codeIn K cd15 "Placed.__init__" = true) (k15 : PySem.W.keepIn K (.ref f15) = true)
    (a16 : PySem.W.findIn K (.ref c_Shelved) "__init__" = some (some (.ref f16))) (i16 : PySem.W.isFn K (.ref f16) = true) (l16 : K.lookup f16 = some ⟨oc16, od16, .func (PySem.W.fnOf "__init__" "Shelved.__init__" (defArgs s_Shelved___init) (defBody s_Shelved___init) (defScope s_Shelved___init) .none kV16 dc16 pm16 an16 cd16 ct16), sl16⟩) (c16 : PySem.W.codeIn K cd16 "Shelved.__init__" = true) (k16 : PySem.W.keepIn K (.ref f16) = true)
    (a17 : PySem.W.nsIn K mainGlobals "placed_row" = some (some (.ref f17))) (l17 : K.lookup f17 = some ⟨oc17, od17, .func (PySem.W.fnOf "placed_row" "placed_row" (defArgs s_placed_row) (defBody s_placed_row) (defScope s_placed_row) .none kV17 dc17 pm17 an17 cd17 ct17), sl17⟩) (c17 : PySem.W.codeIn K cd17 "placed_row" = true) (k17 : PySem.W.keepIn K (.ref f17) = true)
    (a18 : PySem.W.nsIn K mainGlobals "shelved_row" = some (some (.ref f18))) (l18 : K.lookup f18 = some ⟨oc18, od18, .func (PySem.W.fnOf "shelved_row" "shelved_row" (defArgs s_shelved_row) (defBody s_shelved_row) (defScope s_shelved_row) .none kV18 dc18 pm18 an18 cd18 ct18), sl18⟩) (c18 : PySem.W.codeIn K cd18 "shelved_row" = true) (k18 : PySem.W.keepIn K (.ref f18) = true)
    (a19 : PySem.W.nsIn K mainGlobals "holds_placed" = some (some (.ref f19))) (l19 : K.lookup f19 = some ⟨oc19, od19, .func (PySem.W.fnOf "holds_placed" "holds_placed" (defArgs s_holds_placed) (defBody s_holds_placed) (defScope s_holds_placed) .none kV19 dc19 pm19 an19 cd19 ct19), sl19⟩) (c19 : PySem.W.codeIn K cd19 "holds_placed" = true) (k19 : PySem.W.keepIn K (.ref f19) = true)
    (a20 : PySem.W.nsIn K mainGlobals "lying_at" = some (some (.ref f20))) (l20 : K.lookup f20 = some ⟨oc20, od20, .func (PySem.W.fnOf "lying_at" "lying_at" (defArgs s_lying_at) (defBody s_lying_at) (defScope s_lying_at) .none kV20 dc20 pm20 an20 cd20 ct20), sl20⟩) (c20 : PySem.W.codeIn K cd20 "lying_at" = true) (k20 : PySem.W.keepIn K (.ref f20) = true)
    (a21 : PySem.W.nsIn K mainGlobals "put_right" = some (some (.ref f21))) (l21 : K.lookup f21 = some ⟨oc21, od21, .func (PySem.W.fnOf "put_right" "put_right" (defArgs s_put_right) (defBody s_put_right) (defScope s_put_right) .none kV21 dc21 pm21 an21 cd21 ct21), sl21⟩) (c21 : PySem.W.codeIn K cd21 "put_right" = true) (k21 : PySem.W.keepIn K (.ref f21) = true)
    (a22 : PySem.W.nsIn K mainGlobals "right_entry" = some (some (.ref f22))) (l22 : K.lookup f22 = some ⟨oc22, od22, .func (PySem.W.fnOf "right_entry" "right_entry" (defArgs s_right_entry) (defBody s_right_entry) (defScope s_right_entry) .none kV22 dc22 pm22 an22 cd22 ct22), sl22⟩) (c22 : PySem.W.codeIn K cd22 "right_entry" = true) (k22 : PySem.W.keepIn K (.ref f22) = true)
    (a23 : PySem.W.nsIn K mainGlobals "_law_rows" = some (some (.ref f23))) (l23 : K.lookup f23 = some ⟨oc23, od23, .func (PySem.W.fnOf "_law_rows" "_law_rows" (defArgs s_law_rows) (defBody s_law_rows) (defScope s_law_rows) .none kV23 dc23 pm23 an23 cd23 ct23), sl23⟩) (c23 : PySem.W.codeIn K cd23 "_law_rows" = true) (k23 : PySem.W.keepIn K (.ref f23) = true)
    (a24 : PySem.W.nsIn K mainGlobals "_law_path" = some (some (.ref f24))) (l24 : K.lookup f24 = some ⟨oc24, od24, .func (PySem.W.fnOf "_law_path" "_law_path" (defArgs s_law_path) (defBody s_law_path) (defScope s_law_path) .none kV24 dc24 pm24 an24 cd24 ct24), sl24⟩) (c24 : PySem.W.codeIn K cd24 "_law_path" = true) (k24 : PySem.W.keepIn K (.ref f24) = true)
    (a25 : PySem.W.nsIn K mainGlobals "_law_pick" = some (some (.ref f25))) (l25 : K.lookup f25 = some ⟨oc25, od25, .func (PySem.W.fnOf "_law_pick" "_law_pick" (defArgs s_law_pick) (defBody s_law_pick) (defScope s_law_pick) .none kV25 dc25 pm25 an25 cd25 ct25), sl25⟩) (c25 : PySem.W.codeIn K cd25 "_law_pick" = true) (k25 : PySem.W.keepIn K (.ref f25) = true)
    (a26 : PySem.W.nsIn K mainGlobals "_law_place" = some (some (.ref f26))) (l26 : K.lookup f26 = some ⟨oc26, od26, .func (PySem.W.fnOf "_law_place" "_law_place" (defArgs s_law_place) (defBody s_law_place) (defScope s_law_place) .none kV26 dc26 pm26 an26 cd26 ct26), sl26⟩) (c26 : PySem.W.codeIn K cd26 "_law_place" = true) (k26 : PySem.W.keepIn K (.ref f26) = true)
    (a27 : PySem.W.nsIn K mainGlobals "_law_heads" = some (some (.ref f27))) (l27 : K.lookup f27 = some ⟨oc27, od27, .func (PySem.W.fnOf "_law_heads" "_law_heads" (defArgs s_law_heads) (defBody s_law_heads) (defScope s_law_heads) .none kV27 dc27 pm27 an27 cd27 ct27), sl27⟩) (c27 : PySem.W.codeIn K cd27 "_law_heads" = true) (k27 : PySem.W.keepIn K (.ref f27) = true)
    (a28 : PySem.W.nsIn K mainGlobals "_law_edit" = some (some (.ref f28))) (l28 : K.lookup f28 = some ⟨oc28, od28, .func (PySem.W.fnOf "_law_edit" "_law_edit" (defArgs s_law_edit) (defBody s_law_edit) (defScope s_law_edit) .none kV28 dc28 pm28 an28 cd28 ct28), sl28⟩) (c28 : PySem.W.codeIn K cd28 "_law_edit" = true) (k28 : PySem.W.keepIn K (.ref f28) = true)
    (a29 : PySem.W.nsIn K mainGlobals "_law_edits" = some (some (.ref f29))) (l29 : K.lookup f29 = some ⟨oc29, od29, .func (PySem.W.fnOf "_law_edits" "_law_edits" (defArgs s_law_edits) (defBody s_law_edits) (defScope s_law_edits) .none kV29 dc29 pm29 an29 cd29 ct29), sl29⟩) (c29 : PySem.W.codeIn K cd29 "_law_edits" = true) (k29 : PySem.W.keepIn K (.ref f29) = true)
    (a30 : PySem.W.nsIn K mainGlobals "_law_mark" = some (some (.ref f30))) (l30 : K.lookup f30 = some ⟨oc30, od30, .func (PySem.W.fnOf "_law_mark" "_law_mark" (defArgs s_law_mark) (defBody s_law_mark) (defScope s_law_mark) .none kV30 dc30 pm30 an30 cd30 ct30), sl30⟩) (c30 : PySem.W.codeIn K cd30 "_law_mark" = true) (k30 : PySem.W.keepIn K (.ref f30) = true)
    (a31 : PySem.W.nsIn K mainGlobals "_law_was" = some (some (.ref f31))) (l31 : K.lookup f31 = some ⟨oc31, od31, .func (PySem.W.fnOf "_law_was" "_law_was" (defArgs s_law_was) (defBody s_law_was) (defScope s_law_was) .none kV31 dc31 pm31 an31 cd31 ct31), sl31⟩) (c31 : PySem.W.codeIn K cd31 "_law_was" = true) (k31 : PySem.W.keepIn K (.ref f31) = true)
    (a32 : PySem.W.nsIn K mainGlobals "_law_ids" = some (some (.ref f32))) (l32 : K.lookup f32 = some ⟨oc32, od32, .func (PySem.W.fnOf "_law_ids" "_law_ids" (defArgs s_law_ids) (defBody s_law_ids) (defScope s_law_ids) .none kV32 dc32 pm32 an32 cd32 ct32), sl32⟩) (c32 : PySem.W.codeIn K cd32 "_law_ids" = true) (k32 : PySem.W.keepIn K (.ref f32) = true)
    (a33 : PySem.W.nsIn K mainGlobals "_law_purpose" = some (some (.ref f33))) (l33 : K.lookup f33 = some ⟨oc33, od33, .func (PySem.W.fnOf "_law_purpose" "_law_purpose" (defArgs s_law_purpose) (defBody s_law_purpose) (defScope s_law_purpose) .none kV33 dc33 pm33 an33 cd33 ct33), sl33⟩) (c33 : PySem.W.codeIn K cd33 "_law_purpose" = true) (k33 : PySem.W.keepIn K (.ref f33) = true)
    (a34 : PySem.W.nsIn K mainGlobals "_law_shelf" = some (some (.ref f34))) (l34 : K.lookup f34 = some ⟨oc34, od34, .func (PySem.W.fnOf "_law_shelf" "_law_shelf" (defArgs s_law_shelf) (defBody s_law_shelf) (defScope s_law_shelf) .none kV34 dc34 pm34 an34 cd34 ct34), sl34⟩) (c34 : PySem.W.codeIn K cd34 "_law_shelf" = true) (k34 : PySem.W.keepIn K (.ref f34) = true)
    (a35 : PySem.W.nsIn K mainGlobals "_law_lying" = some (some (.ref f35))) (l35 : K.lookup f35 = some ⟨oc35, od35, .func (PySem.W.fnOf "_law_lying" "_law_lying" (defArgs s_law_lying) (defBody s_law_lying) (defScope s_law_lying) .none kV35 dc35 pm35 an35 cd35 ct35), sl35⟩) (c35 : PySem.W.codeIn K cd35 "_law_lying" = true) (k35 : PySem.W.keepIn K (.ref f35) = true)
    (a36 : PySem.W.nsIn K mainGlobals "_law_expected" = some (some (.ref f36))) (l36 : K.lookup f36 = some ⟨oc36, od36, .func (PySem.W.fnOf "_law_expected" "_law_expected" (defArgs s_law_expected) (defBody s_law_expected) (defScope s_law_expected) .none kV36 dc36 pm36 an36 cd36 ct36), sl36⟩) (c36 : PySem.W.codeIn K cd36 "_law_expected" = true) (k36 : PySem.W.keepIn K (.ref f36) = true)
    (a37 : PySem.W.nsIn K mainGlobals "law" = some (some (.ref f37))) (l37 : K.lookup f37 = some ⟨oc37, od37, .func (PySem.W.fnOf "law" "law" (defArgs s_law) (defBody s_law) (defScope s_law) .none kV37 dc37 pm37 an37 cd37 ct37), sl37⟩) (c37 : PySem.W.codeIn K cd37 "law" = true) (k37 : PySem.W.keepIn K (.ref f37) = true)
    (z1 : PySem.W.nsIn K mainGlobals "int" = some none) (z2 : PySem.W.nsIn K mainGlobals "isinstance" = some none) (z3 : PySem.W.nsIn K mainGlobals "len" = some none) (z4 : PySem.W.nsIn K mainGlobals "list" = some none) (z5 : PySem.W.nsIn K mainGlobals "min" = some none) (z6 : PySem.W.nsIn K mainGlobals "range" = some none) (z7 : PySem.W.nsIn K mainGlobals "tuple" = some none)  :
    ∃ fd : FuncData, (∀ (s : Shared) (v : Value), BindsTo s fd ⟨[v], []⟩ [("script", v)]) ∧ ∀ base : Heap, K.In base → base.Ns mainGlobals mg → FnOk l.prog w K mg base CX0 8 fa fd ["script"] (spLawT [] K) := by
  have e := hfa.symm.trans (PySem.W.mg_of X G a37)
  cases e
  have T : Txt K ({ w := w, f := fun i => match i with | 4 => c_Placed | 5 => c_Shelved | _ => 0 } : Cl) mg := ⟨⟨pg_Placed, hd_Placed, po_Placed, sa_Placed⟩, PySem.W.mg_of X G aC_Placed, na_Placed_path, na_Placed_names, na_Placed_thing, na_Placed_count, na_Placed_cuts, na_Placed_content, na_Placed_ids, na_Placed_line, na_Placed_seen, ⟨pg_Shelved, hd_Shelved, po_Shelved, sa_Shelved⟩, PySem.W.mg_of X G aC_Shelved, na_Shelved_place, na_Shelved_thing, na_Shelved_count, na_Shelved_cuts, na_Shelved_length, na_Shelved_purpose, PySem.W.mg_none_of X G z1, PySem.W.mg_none_of X G z2, PySem.W.mg_none_of X G z3, PySem.W.mg_none_of X G z4, PySem.W.mg_none_of X G z5, PySem.W.mg_none_of X G z6, PySem.W.mg_none_of X G z7⟩
  have F1 := fun_mk (st := s_find_line) l1 c1 k1
  have D1 : Df K mg "find_line" s_find_line ["lines", "line_id"] := ⟨_, _, F1, PySem.W.mg_of X G a1, F1.binds (ps := ["lines", "line_id"]) fun _ _ _ _ _ _ us hl => match us, hl with | [_, _], _ => rfl⟩
  have F2 := fun_mk (st := s_find_head) l2 c2 k2
  have D2 : Df K mg "find_head" s_find_head ["lines", "head"] := ⟨_, _, F2, PySem.W.mg_of X G a2, F2.binds (ps := ["lines", "head"]) fun _ _ _ _ _ _ us hl => match us, hl with | [_, _], _ => rfl⟩
  have F3 := fun_mk (st := s_settle) l3 c3 k3
  have D3 : Df K mg "settle" s_settle ["lines", "place"] := ⟨_, _, F3, PySem.W.mg_of X G a3, F3.binds (ps := ["lines", "place"]) fun _ _ _ _ _ _ us hl => match us, hl with | [_, _], _ => rfl⟩
  have F4 := fun_mk (st := s_stands_in) l4 c4 k4
  have D4 : Df K mg "stands_in" s_stands_in ["lines", "inside", "line_id"] := ⟨_, _, F4, PySem.W.mg_of X G a4, F4.binds (ps := ["lines", "inside", "line_id"]) fun _ _ _ _ _ _ us hl => match us, hl with | [_, _, _], _ => rfl⟩
  have F5 := fun_mk (st := s_move_line) l5 c5 k5
  have D5 : Df K mg "move_line" s_move_line ["lines", "head", "line_id", "place"] := ⟨_, _, F5, PySem.W.mg_of X G a5, F5.binds (ps := ["lines", "head", "line_id", "place"]) fun _ _ _ _ _ _ us hl => match us, hl with | [_, _, _, _], _ => rfl⟩
  have F6 := fun_mk (st := s_without_line) l6 c6 k6
  have D6 : Df K mg "without_line" s_without_line ["lines", "ended"] := ⟨_, _, F6, PySem.W.mg_of X G a6, F6.binds (ps := ["lines", "ended"]) fun _ _ _ _ _ _ us hl => match us, hl with | [_, _], _ => rfl⟩
  have F7 := fun_mk (st := s_without_heads) l7 c7 k7
  have D7 : Df K mg "without_heads" s_without_heads ["lines", "heads"] := ⟨_, _, F7, PySem.W.mg_of X G a7, F7.binds (ps := ["lines", "heads"]) fun _ _ _ _ _ _ us hl => match us, hl with | [_, _], _ => rfl⟩
  have F8 := fun_mk (st := s_with_new_line) l8 c8 k8
  have D8 : Df K mg "with_new_line" s_with_new_line ["lines", "edit"] := ⟨_, _, F8, PySem.W.mg_of X G a8, F8.binds (ps := ["lines", "edit"]) fun _ _ _ _ _ _ us hl => match us, hl with | [_, _], _ => rfl⟩
  have F9 := fun_mk (st := s_first_replaced) l9 c9 k9
  have D9 : Df K mg "first_replaced" s_first_replaced ["lines", "replaces"] := ⟨_, _, F9, PySem.W.mg_of X G a9, F9.binds (ps := ["lines", "replaces"]) fun _ _ _ _ _ _ us hl => match us, hl with | [_, _], _ => rfl⟩
  have F10 := fun_mk (st := s_after_text) l10 c10 k10
  have D10 : Df K mg "after_text" s_after_text ["lines", "edit"] := ⟨_, _, F10, PySem.W.mg_of X G a10, F10.binds (ps := ["lines", "edit"]) fun _ _ _ _ _ _ us hl => match us, hl with | [_, _], _ => rfl⟩
  have F11 := fun_mk (st := s_after_move) l11 c11 k11
  have D11 : Df K mg "after_move" s_after_move ["lines", "edit"] := ⟨_, _, F11, PySem.W.mg_of X G a11, F11.binds (ps := ["lines", "edit"]) fun _ _ _ _ _ _ us hl => match us, hl with | [_, _], _ => rfl⟩
  have F12 := fun_mk (st := s_lines_after) l12 c12 k12
  have D12 : Df K mg "lines_after" s_lines_after ["lines", "edit"] := ⟨_, _, F12, PySem.W.mg_of X G a12, F12.binds (ps := ["lines", "edit"]) fun _ _ _ _ _ _ us hl => match us, hl with | [_, _], _ => rfl⟩
  have F13 := fun_mk (st := s_fold_lines) l13 c13 k13
  have D13 : Df K mg "fold_lines" s_fold_lines ["lines", "edits"] := ⟨_, _, F13, PySem.W.mg_of X G a13, F13.binds (ps := ["lines", "edits"]) fun _ _ _ _ _ _ us hl => match us, hl with | [_, _], _ => rfl⟩
  have F14 := fun_mk (st := s_lines_of) l14 c14 k14
  have D14 : Df K mg "lines_of" s_lines_of ["edits"] := ⟨_, _, F14, PySem.W.mg_of X G a14, F14.binds (ps := ["edits"]) fun _ _ _ _ _ _ us hl => match us, hl with | [_], _ => rfl⟩
  have F15 := fun_mk (st := s_Placed___init) l15 c15 k15
  have b15 := F15.binds (ps := ["self", "path", "names", "thing", "count", "cuts", "content", "ids", "line", "seen"]) fun _ _ _ _ _ _ us hl => match us, hl with | [_, _, _, _, _, _, _, _, _, _], _ => rfl
  have F16 := fun_mk (st := s_Shelved___init) l16 c16 k16
  have b16 := F16.binds (ps := ["self", "place", "thing", "count", "cuts", "length", "purpose"]) fun _ _ _ _ _ _ us hl => match us, hl with | [_, _, _, _, _, _, _], _ => rfl
  have F17 := fun_mk (st := s_placed_row) l17 c17 k17
  have D17 : Df K mg "placed_row" s_placed_row ["entry"] := ⟨_, _, F17, PySem.W.mg_of X G a17, F17.binds (ps := ["entry"]) fun _ _ _ _ _ _ us hl => match us, hl with | [_], _ => rfl⟩
  have F18 := fun_mk (st := s_shelved_row) l18 c18 k18
  have D18 : Df K mg "shelved_row" s_shelved_row ["entry"] := ⟨_, _, F18, PySem.W.mg_of X G a18, F18.binds (ps := ["entry"]) fun _ _ _ _ _ _ us hl => match us, hl with | [_], _ => rfl⟩
  have F19 := fun_mk (st := s_holds_placed) l19 c19 k19
  have D19 : Df K mg "holds_placed" s_holds_placed ["purpose"] := ⟨_, _, F19, PySem.W.mg_of X G a19, F19.binds (ps := ["purpose"]) fun _ _ _ _ _ _ us hl => match us, hl with | [_], _ => rfl⟩
  have F20 := fun_mk (st := s_lying_at) l20 c20 k20
  have D20 : Df K mg "lying_at" s_lying_at ["lying", "place"] := ⟨_, _, F20, PySem.W.mg_of X G a20, F20.binds (ps := ["lying", "place"]) fun _ _ _ _ _ _ us hl => match us, hl with | [_, _], _ => rfl⟩
  have F21 := fun_mk (st := s_put_right) l21 c21 k21
  have D21 : Df K mg "put_right" s_put_right ["shelf", "lying"] := ⟨_, _, F21, PySem.W.mg_of X G a21, F21.binds (ps := ["shelf", "lying"]) fun _ _ _ _ _ _ us hl => match us, hl with | [_, _], _ => rfl⟩
  have F22 := fun_mk (st := s_right_entry) l22 c22 k22
  have D22 : Df K mg "right_entry" s_right_entry ["entry", "row"] := ⟨_, _, F22, PySem.W.mg_of X G a22, F22.binds (ps := ["entry", "row"]) fun _ _ _ _ _ _ us hl => match us, hl with | [_, _], _ => rfl⟩
  have F23 := fun_mk (st := s_law_rows) l23 c23 k23
  have D23 : Df K mg "_law_rows" s_law_rows ["script", "count"] := ⟨_, _, F23, PySem.W.mg_of X G a23, F23.binds (ps := ["script", "count"]) fun _ _ _ _ _ _ us hl => match us, hl with | [_, _], _ => rfl⟩
  have F24 := fun_mk (st := s_law_path) l24 c24 k24
  have D24 : Df K mg "_law_path" s_law_path ["row", "most"] := ⟨_, _, F24, PySem.W.mg_of X G a24, F24.binds (ps := ["row", "most"]) fun _ _ _ _ _ _ us hl => match us, hl with | [_, _], _ => rfl⟩
  have F25 := fun_mk (st := s_law_pick) l25 c25 k25
  have D25 : Df K mg "_law_pick" s_law_pick ["row", "ids"] := ⟨_, _, F25, PySem.W.mg_of X G a25, F25.binds (ps := ["row", "ids"]) fun _ _ _ _ _ _ us hl => match us, hl with | [_, _], _ => rfl⟩
  have F26 := fun_mk (st := s_law_place) l26 c26 k26
  have D26 : Df K mg "_law_place" s_law_place ["row", "ids"] := ⟨_, _, F26, PySem.W.mg_of X G a26, F26.binds (ps := ["row", "ids"]) fun _ _ _ _ _ _ us hl => match us, hl with | [_, _], _ => rfl⟩
  have F27 := fun_mk (st := s_law_heads) l27 c27 k27
  have D27 : Df K mg "_law_heads" s_law_heads ["row", "ids"] := ⟨_, _, F27, PySem.W.mg_of X G a27, F27.binds (ps := ["row", "ids"]) fun _ _ _ _ _ _ us hl => match us, hl with | [_, _], _ => rfl⟩
  have F28 := fun_mk (st := s_law_edit) l28 c28 k28
  have D28 : Df K mg "_law_edit" s_law_edit ["row", "edit_id", "ids"] := ⟨_, _, F28, PySem.W.mg_of X G a28, F28.binds (ps := ["row", "edit_id", "ids"]) fun _ _ _ _ _ _ us hl => match us, hl with | [_, _, _], _ => rfl⟩
  have F29 := fun_mk (st := s_law_edits) l29 c29 k29
  have D29 : Df K mg "_law_edits" s_law_edits ["script", "count"] := ⟨_, _, F29, PySem.W.mg_of X G a29, F29.binds (ps := ["script", "count"]) fun _ _ _ _ _ _ us hl => match us, hl with | [_, _], _ => rfl⟩
  have F30 := fun_mk (st := s_law_mark) l30 c30 k30
  have D30 : Df K mg "_law_mark" s_law_mark ["row"] := ⟨_, _, F30, PySem.W.mg_of X G a30, F30.binds (ps := ["row"]) fun _ _ _ _ _ _ us hl => match us, hl with | [_], _ => rfl⟩
  have F31 := fun_mk (st := s_law_was) l31 c31 k31
  have D31 : Df K mg "_law_was" s_law_was ["row", "path", "content", "ids", "line"] := ⟨_, _, F31, PySem.W.mg_of X G a31, F31.binds (ps := ["row", "path", "content", "ids", "line"]) fun _ _ _ _ _ _ us hl => match us, hl with | [_, _, _, _, _], _ => rfl⟩
  have F32 := fun_mk (st := s_law_ids) l32 c32 k32
  have D32 : Df K mg "_law_ids" s_law_ids ["row", "heads"] := ⟨_, _, F32, PySem.W.mg_of X G a32, F32.binds (ps := ["row", "heads"]) fun _ _ _ _ _ _ us hl => match us, hl with | [_, _], _ => rfl⟩
  have F33 := fun_mk (st := s_law_purpose) l33 c33 k33
  have D33 : Df K mg "_law_purpose" s_law_purpose ["row", "lines"] := ⟨_, _, F33, PySem.W.mg_of X G a33, F33.binds (ps := ["row", "lines"]) fun _ _ _ _ _ _ us hl => match us, hl with | [_, _], _ => rfl⟩
  have F34 := fun_mk (st := s_law_shelf) l34 c34 k34
  have D34 : Df K mg "_law_shelf" s_law_shelf ["rows", "lines"] := ⟨_, _, F34, PySem.W.mg_of X G a34, F34.binds (ps := ["rows", "lines"]) fun _ _ _ _ _ _ us hl => match us, hl with | [_, _], _ => rfl⟩
  have F35 := fun_mk (st := s_law_lying) l35 c35 k35
  have D35 : Df K mg "_law_lying" s_law_lying ["rows", "shelf"] := ⟨_, _, F35, PySem.W.mg_of X G a35, F35.binds (ps := ["rows", "shelf"]) fun _ _ _ _ _ _ us hl => match us, hl with | [_, _], _ => rfl⟩
  have F36 := fun_mk (st := s_law_expected) l36 c36 k36
  have D36 : Df K mg "_law_expected" s_law_expected ["row", "lying"] := ⟨_, _, F36, PySem.W.mg_of X G a36, F36.binds (ps := ["row", "lying"]) fun _ _ _ _ _ _ us hl => match us, hl with | [_, _], _ => rfl⟩
  have F37 := fun_mk (st := s_law) l37 c37 k37
  refine ⟨PySem.W.fnOf "law" "law" (defArgs s_law) (defBody s_law) (defScope s_law) .none kV37 dc37 pm37 an37 cd37 ct37, fun s v => .of_eq rfl, fun base _ _ => ?_⟩
  have G_find_head := ok_find_head (P := l.prog) (w := w) (base := base) D2 T
  have G_without_line := ok_without_line (P := l.prog) (w := w) (base := base) D6 T
  have G_without_heads := ok_without_heads (P := l.prog) (w := w) (base := base) D7 T G_find_head G_without_line
  have G_find_line := ok_find_line (P := l.prog) (w := w) (base := base) D1 T
  have G_settle := ok_settle (P := l.prog) (w := w) (base := base) D3 T G_find_line
  have G_with_new_line := ok_with_new_line (P := l.prog) (w := w) (base := base) D8 T G_find_line G_settle
  have G_first_replaced := ok_first_replaced (P := l.prog) (w := w) (base := base) D9 T
  have G_after_text := ok_after_text (P := l.prog) (w := w) (base := base) D10 T G_without_heads G_with_new_line G_first_replaced
  have G_stands_in := ok_stands_in (P := l.prog) (w := w) (base := base) D4 T G_find_line
  have G_move_line := ok_move_line (P := l.prog) (w := w) (base := base) D5 T G_find_line G_find_head G_settle G_stands_in
  have G_after_move := ok_after_move (P := l.prog) (w := w) (base := base) D11 T G_move_line
  have G_lines_after := ok_lines_after (P := l.prog) (w := w) (base := base) D12 T G_without_heads G_with_new_line G_after_text G_after_move
  have G_fold_lines := ok_fold_lines (P := l.prog) (w := w) (base := base) D13 T G_lines_after
  have G_lines_of := ok_lines_of (P := l.prog) (w := w) (base := base) D14 T G_fold_lines
  have G_placed_row := ok_placed_row (P := l.prog) (w := w) (base := base) D17 T
  have G_holds_placed := ok_holds_placed (P := l.prog) (w := w) (base := base) D19 T
  have G_shelved_row := ok_shelved_row (P := l.prog) (w := w) (base := base) D18 T G_placed_row G_holds_placed
  have G_lying_at := ok_lying_at (P := l.prog) (w := w) (base := base) D20 T
  have G_Shelved___init := ok_Shelved___init (P := l.prog) (w := w) (base := base) (cl := ({ w := w, f := fun i => match i with | 4 => c_Placed | 5 => c_Shelved | _ => 0 } : Cl)) F16 T
  have M_Shelved : C8.Mak l.prog w K mg base 1 "Shelved" (({ w := w, f := fun i => match i with | 4 => c_Placed | 5 => c_Shelved | _ => 0 } : Cl) 5) (spS K ({ w := w, f := fun i => match i with | 4 => c_Placed | 5 => c_Shelved | _ => 0 } : Cl) F_Shelved___init) [] := ⟨_, _, _, _, ⟨mk_Shelved, a16, i16, kc_Shelved⟩, G_Shelved___init, T.mg_Shelved, b16, .nil⟩
  have G_right_entry := ok_right_entry (P := l.prog) (w := w) (base := base) D22 T M_Shelved
  have G_put_right := ok_put_right (P := l.prog) (w := w) (base := base) D21 T G_lying_at G_right_entry M_Shelved
  have G_law_rows := ok_law_rows (P := l.prog) (w := w) (base := base) D23 T
  have G_law_pick := ok_law_pick (P := l.prog) (w := w) (base := base) D25 T
  have G_law_path := ok_law_path (P := l.prog) (w := w) (base := base) D24 T
  have G_law_place := ok_law_place (P := l.prog) (w := w) (base := base) D26 T G_law_path G_law_pick
  have G_law_heads := ok_law_heads (P := l.prog) (w := w) (base := base) D27 T G_law_pick
  have G_law_edit := ok_law_edit (P := l.prog) (w := w) (base := base) D28 T G_law_pick G_law_place G_law_heads
  have G_law_edits := ok_law_edits (P := l.prog) (w := w) (base := base) D29 T G_law_rows G_law_edit
  have G_law_mark := ok_law_mark (P := l.prog) (w := w) (base := base) D30 T
  have G_Placed___init := ok_Placed___init (P := l.prog) (w := w) (base := base) (cl := ({ w := w, f := fun i => match i with | 4 => c_Placed | 5 => c_Shelved | _ => 0 } : Cl)) F15 T
  have M_Placed : C8.Mak l.prog w K mg base 1 "Placed" (({ w := w, f := fun i => match i with | 4 => c_Placed | 5 => c_Shelved | _ => 0 } : Cl) 4) (spS K ({ w := w, f := fun i => match i with | 4 => c_Placed | 5 => c_Shelved | _ => 0 } : Cl) F_Placed___init) [] := ⟨_, _, _, _, ⟨mk_Placed, a15, i15, kc_Placed⟩, G_Placed___init, T.mg_Placed, b15, .nil⟩
  have G_law_was := ok_law_was (P := l.prog) (w := w) (base := base) D31 T M_Placed
  have G_law_ids := ok_law_ids (P := l.prog) (w := w) (base := base) D32 T G_law_pick
  have G_law_purpose := ok_law_purpose (P := l.prog) (w := w) (base := base) D33 T G_law_path G_law_pick G_law_mark G_law_was G_law_ids
  have G_law_shelf := ok_law_shelf (P := l.prog) (w := w) (base := base) D34 T G_law_purpose M_Shelved
  have G_law_lying := ok_law_lying (P := l.prog) (w := w) (base := base) D35 T
  have G_law_expected := ok_law_expected (P := l.prog) (w := w) (base := base) D36 T
  exact ok_law F37 T G_lines_of G_shelved_row G_lying_at G_put_right G_law_rows G_law_edits G_law_shelf G_law_lying G_law_expected
end K44
open PySem PySem.W PyProof.Rows
set_option maxHeartbeats 0 in
theorem PySem.Challenge.cw_foldkeep_k44_the_shelf_is_put_right_holds : PySem.Challenge.rw_foldkeep_k44_the_shelf_is_put_right.Holds := by
  w_on; o_law; k_head; (case hw => w_witness2)
  k_fill
  refine L2.walk_of (l := PySem.Challenge.rw_foldkeep_k44_the_shelf_is_put_right) (n := 63) (k := 8) (x := "script") (CX := fun _ => L2.CX0) (sp := fun w => Pw.spLawT [] _) rfl (by decide) rfl ⟨rfl, by decide, by decide⟩ (fun w h Y => PySem.W.kIn_of Y) ?F (fun _ _ a ns hl _ hS => ⟨a, ns, rfl, fun p hp => (by cases hp), hS, hl, fun _ => rfl⟩) (fun _ _ _ _ _ h => h)
  case F =>
    intro w mg fa h KX G hmg
    refine' K44.all_mk KX G hmg ?aC_Placed ?pg_Placed ?hd_Placed ?po_Placed ?sa_Placed ?mk_Placed ?kc_Placed ?na_Placed_path ?na_Placed_names ?na_Placed_thing ?na_Placed_count ?na_Placed_cuts ?na_Placed_content ?na_Placed_ids ?na_Placed_line ?na_Placed_seen ?aC_Shelved ?pg_Shelved ?hd_Shelved ?po_Shelved ?sa_Shelved ?mk_Shelved ?kc_Shelved ?na_Shelved_place ?na_Shelved_thing ?na_Shelved_count ?na_Shelved_cuts ?na_Shelved_length ?na_Shelved_purpose ?a1 ?l1 ?c1 ?k1 ?a2 ?l2 ?c2 ?k2 ?a3 ?l3 ?c3 ?k3 ?a4 ?l4 ?c4 ?k4 ?a5 ?l5 ?c5 ?k5 ?a6 ?l6 ?c6 ?k6 ?a7 ?l7 ?c7 ?k7 ?a8 ?l8 ?c8 ?k8 ?a9 ?l9 ?c9 ?k9 ?a10 ?l10 ?c10 ?k10 ?a11 ?l11 ?c11 ?k11 ?a12 ?l12 ?c12 ?k12 ?a13 ?l13 ?c13 ?k13 ?a14 ?l14 ?c14 ?k14 ?a15 ?i15 ?l15 ?c15 ?k15 ?a16 ?i16 ?l16 ?c16 ?k16 ?a17 ?l17 ?c17 ?k17 ?a18 ?l18 ?c18 ?k18 ?a19 ?l19 ?c19 ?k19 ?a20 ?l20 ?c20 ?k20 ?a21 ?l21 ?c21 ?k21 ?a22 ?l22 ?c22 ?k22 ?a23 ?l23 ?c23 ?k23 ?a24 ?l24 ?c24 ?k24 ?a25 ?l25 ?c25 ?k25 ?a26 ?l26 ?c26 ?k26 ?a27 ?l27 ?c27 ?k27 ?a28 ?l28 ?c28 ?k28 ?a29 ?l29 ?c29 ?k29 ?a30 ?l30 ?c30 ?k30 ?a31 ?l31 ?c31 ?k31 ?a32 ?l32 ?c32 ?k32 ?a33 ?l33 ?c33 ?k33 ?a34 ?l34 ?c34 ?k34 ?a35 ?l35 ?c35 ?k35 ?a36 ?l36 ?c36 ?k36 ?a37 ?l37 ?c37 ?k37 ?z1 ?z2 ?z3 ?z4 ?z5 ?z6 ?z7
    (case aC_Placed => k_is); (case pg_Placed => k_is); (case hd_Placed => k_is); (case po_Placed => k_is)
    (case sa_Placed => k_is); (case mk_Placed => k_is); (case kc_Placed => k_is); (case na_Placed_path => k_is)
    (case na_Placed_names => k_is); (case na_Placed_thing => k_is); (case na_Placed_count => k_is); (case na_Placed_cuts => k_is)
    (case na_Placed_content => k_is); (case na_Placed_ids => k_is); (case na_Placed_line => k_is); (case na_Placed_seen => k_is)
    (case aC_Shelved => k_is); (case pg_Shelved => k_is); (case hd_Shelved => k_is); (case po_Shelved => k_is)
    (case sa_Shelved => k_is); (case mk_Shelved => k_is); (case kc_Shelved => k_is); (case na_Shelved_place => k_is)
    (case na_Shelved_thing => k_is); (case na_Shelved_count => k_is); (case na_Shelved_cuts => k_is); (case na_Shelved_length => k_is)
    (case na_Shelved_purpose => k_is); (case a1 => k_is); (case l1 => k_is); (case c1 => k_is)
    (case k1 => k_is); (case a2 => k_is); (case l2 => k_is); (case c2 => k_is)
    (case k2 => k_is); (case a3 => k_is); (case l3 => k_is); (case c3 => k_is)
    (case k3 => k_is); (case a4 => k_is); (case l4 => k_is); (case c4 => k_is)
    (case k4 => k_is); (case a5 => k_is); (case l5 => k_is); (case c5 => k_is)
    (case k5 => k_is); (case a6 => k_is); (case l6 => k_is); (case c6 => k_is)
    (case k6 => k_is); (case a7 => k_is); (case l7 => k_is); (case c7 => k_is)
    (case k7 => k_is); (case a8 => k_is); (case l8 => k_is); (case c8 => k_is)
    (case k8 => k_is); (case a9 => k_is); (case l9 => k_is); (case c9 => k_is)
    (case k9 => k_is); (case a10 => k_is); (case l10 => k_is); (case c10 => k_is)
    (case k10 => k_is); (case a11 => k_is); (case l11 => k_is); (case c11 => k_is)
    (case k11 => k_is); (case a12 => k_is); (case l12 => k_is); (case c12 => k_is)
    (case k12 => k_is); (case a13 => k_is); (case l13 => k_is); (case c13 => k_is)
    (case k13 => k_is); (case a14 => k_is); (case l14 => k_is); (case c14 => k_is)
    (case k14 => k_is); (case a15 => k_is); (case i15 => k_is); (case l15 => k_is)
    (case c15 => k_is); (case k15 => k_is); (case a16 => k_is); (case i16 => k_is)
    (case l16 => k_is); (case c16 => k_is); (case k16 => k_is); (case a17 => k_is)
    (case l17 => k_is); (case c17 => k_is); (case k17 => k_is); (case a18 => k_is)
    (case l18 => k_is); (case c18 => k_is); (case k18 => k_is); (case a19 => k_is)
    (case l19 => k_is); (case c19 => k_is); (case k19 => k_is); (case a20 => k_is)
    (case l20 => k_is); (case c20 => k_is); (case k20 => k_is); (case a21 => k_is)
    (case l21 => k_is); (case c21 => k_is); (case k21 => k_is); (case a22 => k_is)
    (case l22 => k_is); (case c22 => k_is); (case k22 => k_is); (case a23 => k_is)
    (case l23 => k_is); (case c23 => k_is); (case k23 => k_is); (case a24 => k_is)
    (case l24 => k_is); (case c24 => k_is); (case k24 => k_is); (case a25 => k_is)
    (case l25 => k_is); (case c25 => k_is); (case k25 => k_is); (case a26 => k_is)
    (case l26 => k_is); (case c26 => k_is); (case k26 => k_is); (case a27 => k_is)
    (case l27 => k_is); (case c27 => k_is); (case k27 => k_is); (case a28 => k_is)
    (case l28 => k_is); (case c28 => k_is); (case k28 => k_is); (case a29 => k_is)
    (case l29 => k_is); (case c29 => k_is); (case k29 => k_is); (case a30 => k_is)
    (case l30 => k_is); (case c30 => k_is); (case k30 => k_is); (case a31 => k_is)
    (case l31 => k_is); (case c31 => k_is); (case k31 => k_is); (case a32 => k_is)
    (case l32 => k_is); (case c32 => k_is); (case k32 => k_is); (case a33 => k_is)
    (case l33 => k_is); (case c33 => k_is); (case k33 => k_is); (case a34 => k_is)
    (case l34 => k_is); (case c34 => k_is); (case k34 => k_is); (case a35 => k_is)
    (case l35 => k_is); (case c35 => k_is); (case k35 => k_is); (case a36 => k_is)
    (case l36 => k_is); (case c36 => k_is); (case k36 => k_is); (case a37 => k_is)
    (case l37 => k_is); (case c37 => k_is); (case k37 => k_is); (case z1 => k_is)
    (case z2 => k_is); (case z3 => k_is); (case z4 => k_is); (case z5 => k_is)
    (case z6 => k_is); (case z7 => k_is)
#print axioms PySem.Challenge.cw_foldkeep_k44_the_shelf_is_put_right_holds
